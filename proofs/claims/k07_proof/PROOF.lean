import PyProof.Rows.All
import Wide.All
import OpenK.AllK
import Wide.FinOn
import KE.KOpsOwn
import HandS.ForMost
import HandS.Exc
import HandS.ExcInit
import HandS.ExcField
import HandS.TryMany
import HandS.Property
import HandS.ClsMeth
import HandS.SlotsOwn
import HandS.IsInst
import HandS.Gcd
import HandS.Wide
import HandS.WordsExc
import HandS.Evl
import HandS.CallSlots
import HandS.Lambda
import HandS.EndTab
import HandS.Defaults
import HandS.TupLe
import HandS.Style
import HandS.HeadHook4
import HandS.HeadWalk
import HandS.Head4
import HandS.HeadNt
import HandS.Head0
import HandS.Head1
import HandS.Head2
import HandS.Head3
import PySem.Challenge.RW_spiralsays_k07_fractions_by_their_letter
section
set_option Elab.async false
set_option linter.all false
set_option maxRecDepth 100000
set_option maxHeartbeats 4000000
namespace Sp
open PySem PySem.Spec PyProof.Rows L2
/-! ### operators of an own class -/
/-- what of the text the class at C must have for the operator's name, its def at g -/
structure OpC (K : PySem.W.Frag) (C : Addr) (m r : Str) (g : Addr) : Prop where
  first : PySem.W.selfFirst K C = true
  at_ : PySem.W.findIn K (.ref C) m = some (some (.ref g))
  fn : PySem.W.isFn K (.ref g) = true
  rev : PySem.W.findIn K (.ref C) r = some none
  int1 : ∃ fo, PySem.W.findIn K (.type "int") m = some fo
  int2 : ∃ ro, PySem.W.findIn K (.type "int") r = some ro
  sub : PySem.W.subIn K (.type "int") (.ref C) = some false
def rBin (C : Addr) (sp : Sp) (E : XK) : R2 := fun x y H Q => ∃ a dx fs, x = .ref a ∧ H a = some (.ins C dx fs) ∧
  ((∃ b dy gs, y = .ref b ∧ H b = some (.ins C dy gs)) ∨ ∃ i, y = .int i) ∧ sp [x, y] H Q E
section
variable {X : Cx} {CX : CXT} {k : Nat} {C g : Addr} {fd : FuncData} {ps : List Str} {sp : Sp} {E : XK} {op : Operator}
theorem run_dun {pins : List (Addr × Obj)} {σ : L2.St} {H : Hp} {s : Shared} {Q : VK} {us : List Value} {vs : List V} (F : FnOk X.prog X.w X.K X.mg X.base CX k g fd ps sp) (hr : Room k X.A) (hb : Binds X.K fd ps []) (hx : Passes CX X E)
    (I : Inv X pins σ H s) (r : Vals vs us) (h : sp vs H Q E) : wpAny (model X.prog X.w) X.A (call (.ref g) us) (PySem.W.CmpBack (EP X pins σ Q)) X.xe s := by
  refine wpAny_mono (run_fn (dvs := []) (ds := []) F hr hb .nil hx I r (by rw [List.append_nil]; exact h)) (fun v s' z => ?_) fun _ _ x => x
  obtain ⟨z', H', I', rz, qz⟩ := z
  exact SlX.cmpback rz ⟨z', H', I', rz, qz⟩
/-- x op y by the class's own def -/
theorem op_bin (O : OpC X.K C (PySem.dunder op.info.2) (PySem.dunderR op.info.2) g) (F : FnOk X.prog X.w X.K X.mg X.base CX k g fd ps sp) (hr : Room k X.A) (hb : Binds X.K fd ps []) (hx : Passes CX X E) :
    OpR X (binaryOp op) (rBin C sp E) := by
  intro pins s σ H x y v u Q I rx ry h
  obtain ⟨a, dx, fs, rfl, ha, hy, q⟩ := h
  cases (show v = Value.ref a from rx)
  obtain ⟨mA, J, _⟩ := ins_get I.hok ha
  obtain ⟨od, J, _⟩ := J.look
  obtain ⟨m, hF⟩ := I.fr
  rcases hy with ⟨b, dy, gs, rfl, hb'⟩ | ⟨i, rfl⟩
  · cases (show u = Value.ref b from ry)
    obtain ⟨mB, J', _⟩ := ins_get I.hok hb'
    obtain ⟨od', J', _⟩ := J'.look
    exact PySem.W.binop_K hF I.ok.mod.kin J J'.type O.first O.at_ O.fn (run_dun (us := [.ref a, .ref b]) (vs := [.ref a, .ref b]) F hr hb hx I (.cons rfl (.cons rfl .nil)) q)
  · obtain ⟨fo, h1⟩ := O.int1
    obtain ⟨ro, h2⟩ := O.int2
    obtain ⟨t, rfl⟩ := ry
    exact PySem.W.ksp_binT hF I.ok.mod.kin J rfl O.first O.at_ O.fn O.rev (.inl rfl) h1 h2 O.sub (run_dun (us := [.ref a, .int i t]) (vs := [.ref a, .int i]) F hr hb hx I (.cons rfl (.cons ⟨t, rfl⟩ .nil)) q)
/-- -x by the class's own def -/
def rUn (C : Addr) (sp : Sp) (E : XK) : V → Hp → VK → Prop := fun x H Q => ∃ a dx fs, x = .ref a ∧ H a = some (.ins C dx fs) ∧ sp [x] H Q E
theorem un_own (hs : PySem.W.findIn X.K (.ref C) "__neg__" = some (some (.ref g))) (hf : PySem.W.isFn X.K (.ref g) = true) (F : FnOk X.prog X.w X.K X.mg X.base CX k g fd ps sp) (hr : Room k X.A) (hb : Binds X.K fd ps []) (hx : Passes CX X E) :
    UnR X (unaryOp .USub) (rUn C sp E) := by
  intro pins s σ H x v Q I rx h
  obtain ⟨a, dx, fs, rfl, ha, q⟩ := h
  cases (show v = Value.ref a from rx)
  obtain ⟨mA, J, _⟩ := ins_get I.hok ha
  obtain ⟨od, J, _⟩ := J.look
  obtain ⟨m, hF⟩ := I.fr
  refine PySem.W.ksp_neg hF I.ok.mod.kin J hs hf ?_
  exact run_fn (dvs := []) (ds := []) (us := [.ref a]) (vs := [.ref a]) F hr hb .nil hx I (.cons rfl .nil) (by rw [List.append_nil]; exact q)
/-- x == y, x of the class at C with an own __eq__; y an instance of C, or a flat value whose type is no class below C -/
def rEqOwn (K : PySem.W.Frag) (C : Addr) (sp : Sp) (E : XK) : R2 := fun x y H Q => ∃ a dx fs t, x = .ref a ∧ H a = some (.ins C dx fs) ∧ TyX K H y t ∧ PySem.W.notFirst K C t = true ∧ sp [x, y] H Q E
theorem ty_looks {pins : List (Addr × Obj)} {σ : L2.St} {H : Hp} {s : Shared} {y : V} {u t : Value} (I : Inv X pins σ H s) (ry : RelV y u) (ty : TyX X.K H y t) : PySem.W.Looks (model X.prog X.w) s.heap (typeOf u) t := by
  obtain ⟨P, Z, p, _⟩ := kit_of I ry ty
  exact Z.ty _ _ I.kIn p

theorem op_eqOwn (hs : PySem.W.findIn X.K (.ref C) "__eq__" = some (some (.ref g))) (hf : PySem.W.isFn X.K (.ref g) = true) (F : FnOk X.prog X.w X.K X.mg X.base CX k g fd ps sp) (hr : Room k X.A) (hb : Binds X.K fd ps []) (hx : Passes CX X E) :
    OpR X (compareOp .Eq) (rEqOwn X.K C sp E) := by
  intro pins s σ H x y v u Q I rx ry h
  obtain ⟨a, dx, fs, t, rfl, ha, ty, hn, q⟩ := h
  cases (show v = Value.ref a from rx)
  obtain ⟨mA, J, _⟩ := ins_get I.hok ha
  obtain ⟨od, J, _⟩ := J.look
  obtain ⟨m, hF⟩ := I.fr
  show wpAny (model X.prog X.w) X.A (richCompare .Eq (.ref a) u) (EP X pins σ Q) X.xe s
  exact PySem.W.cmp_K (op := .Eq) (tb := t) hr.units0 hF I.ok.mod.kin J (ty_looks I ry ty) hn hs hf (run_dun (us := [.ref a, u]) (vs := [.ref a, y]) F hr hb hx I (.cons rfl (.cons ry .nil)) q)
/-- abs(x) by the class's own def -/
def rAbsOwn (C : Addr) (sp : Sp) (E : XK) : List V → Hp → VK → Prop := fun xs H Q => ∃ a dx fs, xs = [.ref a] ∧ H a = some (.ins C dx fs) ∧ sp [.ref a] H Q E
theorem entry_abs : entryFor table "abs" = some Builtin.«abs» := entryFor_of_tree (by kernel_rfl)
/-- staticmethod: its record at p, its def at g -/
structure SMet (K : PySem.W.Frag) (C : Addr) (mc : Value) (m : Str) (p g : Addr) : Prop where
  rd : PySem.W.readsIn K C mc = true
  ga : PySem.W.specialIn K (.ref C) "__getattribute__" = some (some (.builtin "type.__getattribute__"))
  at_ : PySem.W.findCls K (.ref C) mc m = some (.get (.builtin "staticmethod.__get__") (.ref p) .none (.ref C))
  rc : ∃ rest, PySem.W.recIn K p "staticmethod" = some (.ref g :: rest)
  kp : PySem.W.keepIn K (.ref g) = true
def tSMeth (C : Addr) (sp : Sp) (E : XK) (ta : TE) (t : TA) : TE := fun σ H Q => ta σ H fun x H1 => x = .ref C ∧ t σ H1 fun vs H2 => sp vs H2 Q E
variable {o e : Expr} {es : List Expr} {m : Str} {apos pos : Pos} {ta : TE} {t : TA} {pl : Sem Bool} {mc : Value} {p : Addr}
theorem pe_smeth (he : PE X o ta) (c : SMet X.K C mc m p g) (F : FnOk X.prog X.w X.K X.mg X.base CX k g fd ps sp) (hr : Room k X.A) (hb : Binds X.K fd ps []) (hx : Passes CX X E) (ha : PA X (e :: es) t)
    (hst : starEach (e :: es) X.env = (false, eval e X.env) :: starEach es X.env := by rfl) (hpl : (backTo pos (starEach es X.env)).any (·.1) = false := by rfl)
    (ht : eval (.Call (.Attribute o m apos) (e :: es) [] pos) X.env = (do
      let ov ← eval o X.env
      standAt apos.atName
      let (f, first) ← holding [ov] (getMethod ov m pl)
      callWith pos f first (backTo pos (starEach (e :: es) X.env)) (backToKw pos (keywordEach [] X.env))) := by rfl) :
    PE X (.Call (.Attribute o m apos) (e :: es) [] pos) (tSMeth C sp E ta t) := by
  refine ⟨fun pins s σ H Q I h => ?_⟩
  refine PySem.W.methodCall_KW (pl := pl) (thn (he.run pins s σ H _ I h) fun u s1 ⟨x, H1, I1, rx, ex, q⟩ => ?_) ht
  subst ex
  obtain rfl : u = Value.ref C := rx
  obtain ⟨rest, hp⟩ := c.rc
  refine PySem.W.method_cls I1.kIn c.ga (PySem.W.cls_bind I1.kIn c.rd c.at_ (wpAny_call (PySem.W.sm_get (s := { s1 with toks := s1.toks + 1 }) I1.kIn hp (PySem.W.handed_on rfl ?_))))
  have I2 := I1.tok (s1.toks + 1)
  refine PySem.W.callWith_K (h₀ := X.base) I.ok.mod.kin c.kp (thn (ha.run pos pins _ σ H1 _ I2 q) fun us s3 ⟨vs, H2, I3, r, q2⟩ => ⟨I3.kIn, ?_⟩) hst hpl
  exact run_fn (dvs := []) (ds := []) F hr hb .nil hx I3 r (by rw [List.append_nil]; exact q2)
end
/-! ### numbers -/
def CDivB (_ j : Int) : Prop := j ≠ 0 ∧ j.natAbs < 2 ^ 4000
def CMulB (i j : Int) : Prop := i.natAbs < 2 ^ 4000 ∧ j.natAbs < 2 ^ 4000
section
variable {X : Cx}
theorem lg {x : Int} (h : x.natAbs < 2 ^ 4000) : x.natAbs.log2 < 4000 := PySem.Flt.log2_lt_of (by decide) h
theorem op_fdivB : OpR X (binaryOp .FloorDiv) (rI CDivB fun i j => .int (i.fdiv j)) := opI fun i j _ _ _ _ _ hc q =>
  floordiv_int hc.1 q (.inl (PyProof.noPylong_of_log2 (Nat.lt_of_lt_of_le (lg hc.2) (by decide))))
theorem op_mulB : OpR X (binaryOp .Mult) (rI CMulB fun i j => .int (i * j)) := opI fun _ _ _ _ _ _ _ hc q => mul_int q (CMulW.ok (show _ + _ < 1000000 by have := lg hc.1; have := lg hc.2; omega))
end

section
variable {X : Cx} {CX : CXT} {k : Nat} {C g : Addr} {fd : FuncData} {ps ks : List Str} {sp : Sp} {E : XK}
theorem run_in1 {pins : List (Addr × Obj)} {σ : L2.St} {H : Hp} {s : Shared} {Q : VK} {us : List Value} {vs : List V} (F : FnOk X.prog X.w X.K X.mg X.base CX k g fd ps sp) (hr : Room (k + 1) X.A) (hb : Binds X.K fd ps []) (hx : Passes CX X E)
    (I : Inv X pins σ H s) (r : Vals vs us) (h : sp vs H Q E) : wpAny (model X.prog X.w) X.A.in1 (call (.ref g) us) (EP X pins σ Q) X.xe s := by
  have hl : (us ++ []).length = ps.length := by
    rw [List.append_nil, ← r.length]
    exact F.len _ _ _ _ h
  have hb' := hb s us I.kIn hl
  rw [List.append_nil] at hb'
  refine wpAny_call (codeAny_mono (F.run X.A.in1 X.stack s H ⟨us, []⟩ us vs Q E hr.in1 I.env0.in1 hb' r h) fun r s' hq => ?_)
  cases r with
  | error e => exact hx pins σ H s e s' I hq
  | ok fl =>
    cases fl with
    | ret u => exact I.after hq
    | next => exact False.elim hq
    | brk => exact False.elim hq
    | cont => exact False.elim hq
theorem call_absOwn (hs : PySem.W.findIn X.K (.ref C) "__abs__" = some (some (.ref g))) (hf : PySem.W.isFn X.K (.ref g) = true) (F : FnOk X.prog X.w X.K X.mg X.base CX k g fd ps sp) (hr : Room (k + 1) X.A) (hb : Binds X.K fd ps []) (hx : Passes CX X E) :
    CallR X (.builtin "abs") (rAbsOwn C sp E) := by
  intro pins s σ H xs us Q I r h
  obtain ⟨a, dx, fs, rfl, ha, q⟩ := h
  obtain ⟨u, rfl, ru⟩ := vals1 r
  cases (show u = Value.ref a from ru)
  obtain ⟨mA, J, _⟩ := ins_get I.hok ha
  obtain ⟨od, J, _⟩ := J.look
  refine PySem.Calls.call_function_entry kind_abs plain_abs PyProof.Rows.entry_abs (args_abs _) ?_
  unfold Builtin.«abs»
  refine wpAny_bind (m := oneArg "abs" _) (wpAny_pure ?_)
  refine wpAny_bind (m := callSpecial? (.ref a) (Str.ofString "__abs__")) (PySem.W.special_fn I.kIn J hs (beq_iff_eq.mp hf) (wpAny_mono (run_in1 (us := [.ref a]) (vs := [.ref a]) F hr hb hx I (.cons rfl .nil) q) (fun v s' z => ?_) fun _ _ x => x))
  exact wpAny_pure ⟨_, rfl, z⟩
/-! ### a def's name in a call -/
/-- the module's name x is a def that keeps sp; dvs fill up -/
structure GD (P : Program) (w : World) (K : PySem.W.Frag) (mg : Str → Option Value) (base : Heap) (CX : CXT) (k : Nat) (x : Str) (ps : List Str) (dvs : List V) (sp : Sp) : Prop where
  ex : ∃ (f : Addr) (fd : FuncData) (ds : List Value), FnOk P w K mg base CX k f fd ps sp ∧ mg x = some (.ref f) ∧ PySem.W.keepIn K (.ref f) = true ∧ Binds K fd ps ds ∧ Vals dvs ds
theorem pe_gd {dvs : List V} {x : Str} {p pos : Pos} {e : Expr} {es : List Expr} {t : TA} (G : GD X.prog X.w X.K X.mg X.base CX k x ps dvs sp) (hr : Room k X.A) (hg : Gl X x) (hx : Passes CX X E)
    (ha : PA X (e :: es) t) (hdb : (x == ("__debug__" : Str)) = false := by decide) (he : starEach (e :: es) X.env = (false, eval e X.env) :: starEach es X.env := by rfl) (hpl : (backTo pos (starEach es X.env)).any (·.1) = false := by rfl) :
    PE X (.Call (.Name x p) (e :: es) [] pos) (tCall sp dvs E t) := by
  obtain ⟨f, fd, ds, F, h1, h2, h3, h4⟩ := G.ex
  exact pe_call F hr hg h1 h2 h3 h4 hx ha hdb he hpl
/-- the same for any caller's slots -/
theorem pe_gdS {dvs : List V} {x : Str} {p pos : Pos} {e : Expr} {es : List Expr} {t : TA} {E : L2.St → XK} (G : GD X.prog X.w X.K X.mg X.base CX k x ps dvs sp) (hr : Room k X.A) (hg : Gl X x) (hx : ∀ σ, PassesAt CX X σ (E σ))
    (ha : PA X (e :: es) t) (hdb : (x == ("__debug__" : Str)) = false := by decide) (he : starEach (e :: es) X.env = (false, eval e X.env) :: starEach es X.env := by rfl) (hpl : (backTo pos (starEach es X.env)).any (·.1) = false := by rfl) :
    PE X (.Call (.Name x p) (e :: es) [] pos) (tCallSD sp dvs E t) := by
  obtain ⟨f, fd, ds, F, h1, h2, h3, h4⟩ := G.ex
  exact pe_callSD F hr hg h1 h2 h3 h4 hx ha hdb he hpl
/-- a class that is made by its __init__ -/
structure GM (P : Program) (w : World) (K : PySem.W.Frag) (mg : Str → Option Value) (base : Heap) (CX : CXT) (k : Nat) (x : Str) (C : Addr) (ps : List Str) (dvs : List V) (sp : Sp) : Prop where
  ex : ∃ (f : Addr) (fd : FuncData) (ds : List Value), FnOk P w K mg base CX k f fd ps sp ∧ Mk K C f ∧ mg x = some (.ref C) ∧ Binds K fd ps ds ∧ Vals dvs ds
theorem pe_gm {dvs : List V} {x : Str} {p pos : Pos} {e : Expr} {es : List Expr} {t : TA} (G : GM X.prog X.w X.K X.mg X.base CX k x C ps dvs sp) (hr : Room (k + 1) X.A) (hg : Gl X x) (hx : Passes CX X E)
    (ha : PA X (e :: es) t) (hdb : (x == ("__debug__" : Str)) = false := by decide) (he : starEach (e :: es) X.env = (false, eval e X.env) :: starEach es X.env := by rfl) (hpl : (backTo pos (starEach es X.env)).any (·.1) = false := by rfl) :
    PE X (.Call (.Name x p) (e :: es) [] pos) (tMake C sp dvs E t) := by
  obtain ⟨f, fd, ds, F, M, h1, h3, h4⟩ := G.ex
  exact pe_make M F hr hg h1 h3 h4 hx ha hdb he hpl
/-- a method of the class at C -/
structure GH (P : Program) (w : World) (K : PySem.W.Frag) (mg : Str → Option Value) (base : Heap) (CX : CXT) (k : Nat) (C : Addr) (m : Str) (ps : List Str) (sp : Sp) : Prop where
  ex : ∃ (f : Addr) (fd : FuncData), FnOk P w K mg base CX k f fd ps sp ∧ Meth K C m f ∧ Binds K fd ps []
theorem pe_gh {o e : Expr} {es : List Expr} {m : Str} {apos pos : Pos} {ta : TE} {t : TA} {pl : Sem Bool} (he : PE X o ta) (c : Cls X.K C) (G : GH X.prog X.w X.K X.mg X.base CX k C m ps sp) (hr : Room k X.A) (hx : Passes CX X E) (ha : PA X (e :: es) t)
    (hst : starEach (e :: es) X.env = (false, eval e X.env) :: starEach es X.env := by rfl) (hpl : (backTo pos (starEach es X.env)).any (·.1) = false := by rfl)
    (ht : eval (.Call (.Attribute o m apos) (e :: es) [] pos) X.env = (do
      let ov ← eval o X.env
      standAt apos.atName
      let (f, first) ← holding [ov] (getMethod ov m pl)
      callWith pos f first (backTo pos (starEach (e :: es) X.env)) (backToKw pos (keywordEach [] X.env))) := by rfl) :
    PE X (.Call (.Attribute o m apos) (e :: es) [] pos) (tMeth C m sp [] E ta t) := by
  obtain ⟨f, fd, F, M, hb⟩ := G.ex
  exact pe_meth he c M F hr hb .nil hx ha hst hpl ht
end

/-! ### an error of one field -/
def spI1 (C : Addr) (f : Str) : Sp := fun vs H Q _ => ∃ a v, vs = [.ref a, v] ∧ H a = some (exo a C none) ∧ ∀ dx, H dx = none → dx ≠ a → Q .non (upd (upd H dx (exd dx [(f, v)])) a (exo a C (some dx)))
/-- the error's class x, at C, its field f -/
structure GX (P : Program) (w : World) (K : PySem.W.Frag) (mg : Str → Option Value) (base : Heap) (k : Nat) (x f : Str) (C : Addr) : Prop where
  T : OexC K C
  hm : mg x = some (.ref C)
  ex : ∃ (fI : Addr) (fd : FuncData), PySem.W.findIn K (.ref C) "__init__" = some (some (.ref fI)) ∧ PySem.W.typeIn K (.ref fI) = some (.type "function") ∧ FnOk P w K mg base (L2.CX P w) k fI fd ["self", f] (spI1 C f) ∧ Binds K fd ["self", f] []
section
variable {X : Cx} {k : Nat} {x f : Str} {C : Addr} {e : Expr} {ta : TA} {p pos pos2 : Pos}
theorem pmk1 (G : GX X.prog X.w X.K X.mg X.base k x f C) (hr : Room (k + 1) X.A) (hg : Gl X x) (ha : PA X [e] ta) (hdb : (x == ("__debug__" : Str)) = false := by decide)
    (he : starEach (e :: []) X.env = (false, eval e X.env) :: starEach [] X.env := by rfl) (hpl : (backTo pos (starEach [] X.env)).any (·.1) = false := by rfl) : PMk X (.Call (.Name x p) [e] [] pos) (tMkO C (spI1 C f) [] ta) := by
  obtain ⟨fI, fd, h1, h2, h3, h4⟩ := G.ex
  exact pmk_oex G.T h1 h2 h3 hr h4 .nil passL hg G.hm ha hdb he hpl
/-- what such a raise asks behind its argument v, at H1 -/
theorem mk1 {v : V} {H1 : Hp} {Q : XK} (h : ∀ d H2, Same H1 H2 → H1 d = none → H2 d = some (.xd [(f, v)]) → Q (.ref C) (some d) H2) :
    ([v] : List V).length ≤ 1000 ∧ ∀ a, H1 a = none → spI1 C f (.ref a :: ([v] ++ [])) (upd H1 a (exo a C none))
      (fun u H2 => u = .non ∧ ∃ (d : Addr) (fs : List (Str × V)), H2 a = some (exo a C (some d)) ∧ H2 d = some (exd d fs) ∧ H1 d = none ∧ Q (.ref C) (some d) (upd (del H2 a) d (.xd fs))) (fun _ _ _ => False) := by
  refine ⟨by simp, fun a na => ⟨a, v, rfl, upd_same, fun dx nd ne => ⟨rfl, dx, [(f, v)], upd_same, ?_, ?_, h _ _ (fun b o hb => ?_) ?_ upd_same⟩⟩⟩
  · rw [upd_ne ne, upd_same]
  · rw [upd_ne ne] at nd
    exact nd
  · have nb : b ≠ a := ne_of_none hb na
    have nd' : H1 dx = none := by
      rw [upd_ne ne] at nd
      exact nd
    rw [upd_ne (ne_of_none hb nd'), del_ne nb, upd_ne nb, upd_ne (ne_of_none hb nd'), upd_ne nb]
    exact hb
  · rw [upd_ne ne] at nd
    exact nd
end
/-! ### several clauses with names -/
def wManyA (K : PySem.W.Frag) (Wout : WX) (D : Ends) : List (Value × Nat × (Addr → Value → Option Addr → TS)) → WX
  | [] => Wout
  | (c, i, ts) :: r => fun cls d σ H => ∃ b, PySem.W.exmOne K cls c = some b ∧
      (b = true → ∀ a, H a = none → ts a cls d { nx := fun σ' H' => D.nx (σ'.set i none) H', rt := D.rt, bk := fun σ' H' => D.bk (σ'.set i none) H', ct := fun σ' H' => D.ct (σ'.set i none) H' } (σ.set i (some (.ref a))) H) ∧
      (b = false → wManyA K Wout D r cls d σ H)
inductive HdsA (X : Cx) : List ExceptHandler → List (Value × Nat × (Addr → Value → Option Addr → TS)) → Prop
  | nil : HdsA X [] []
  | cons {x n : Str} {c : Value} {i : Nat} {ts : Addr → Value → Option Addr → TS} {b₀ : Stmt} {suite : List Stmt} {np pos' : Pos} {hds : List ExceptHandler} {l : List (Value × Nat × (Addr → Value → Option Addr → TS))} (hc : Names X x c)
      (hi : X.N[i]? = some n) (hln : X.env.kindOf n = some .local)
      (hsu : ∀ (a : Addr) (oe : Obj) (cls : Value) (d : Option Addr) (pn : List (Addr × Obj)), Zc cls d oe → (∃ vs, oe.data = .fields vs) → PSs (X.suite a ((a, oe) :: pn)) (b₀ :: suite) (ts a cls d)) (r : HdsA X hds l) :
      HdsA X (.ExceptHandler (some (.Name x np)) (some n) (b₀ :: suite) pos' :: hds) ((c, i, ts) :: l)
section
variable {X : Cx} {body : List Stmt} {h₀ : ExceptHandler} {hds : List ExceptHandler} {l : List (Value × Nat × (Addr → Value → Option Addr → TS))} {pos : Pos} {tb : WX → TS} {Wout : WX}
theorem ps_try_manyA (hs : X.stack = X.env :: X.outer) (hf : X.env.frame = some X.env.locals) (hN : X.N.Nodup) (tk : Takes X Wout)
    (hb : ∀ (W : WX) (pn : List (Addr × Obj)) (xe : Value → Shared → Prop), Takes (X.tr pn xe) W → PassesOwn (model X.prog X.w) X.A X.env xe → PSs (X.tr pn xe) body (tb W))
    (hh : HdsA X (h₀ :: hds) l) : PS X (.Try body (h₀ :: hds) [] [] pos) (fun D σ H => tb (wManyA X.K Wout D l) D σ H) := by
  refine ⟨fun pins s σ H D I h => ?_⟩
  have ok := I.ok
  have hfr : X.A.frames = some (X.env :: X.outer) := by rw [ok.frames, hs]
  refine wpAny_Try_except ?_
  refine wpAny_mono ((hb (wManyA X.K Wout D l) (X.pn ++ pins) (fun e s₁ => wpAny (model X.prog X.w) X.A (noteFrame e X.env) (fun _ s₂ => wpAny (model X.prog X.w) X.A (setFlight e none) (fun _ s₃ =>
    wpAny (model X.prog X.w) X.A (handleBy e X.env (h₀ :: hds)) (SP X pins D) X.xe s₃) X.xe s₂) X.xe s₁) (fun u s' xx => ?_) PassesOwn.looking).run [] s σ H D (I.toTry _) h) (fun f s1 hsp => ?_) (fun e s1 he => he)
  · obtain ⟨a, B, sI, pins', σ', H', cls, d, rfl, J', nb, up, sky, na, os, ag, w⟩ := xx
    have J : Inv X pins σ' H' sI := J'.ofTry ok
    have sky' : Sky B (X.env :: X.outer) a (Zc cls d) X.env.locals s'.heap := by rw [← hs]; exact sky
    show wpAny (model X.prog X.w) X.A (noteFrame (.ref a) X.env) _ _ _
    refine Sky.land Zc.steady hfr hf sky' fun h3 fl3 up3 => ?_
    have J3 : Inv X pins σ' H' { s' with heap := h3 } := J.landed nb fl3.1 (up.trans up3) os ag
    obtain ⟨oe3, vs3, he3, hz3, hd3⟩ := fl3.there
    have notFr : ∀ {h : Heap} {o : Obj} {vs : Array Value}, h.FunFrames B (X.env :: X.outer) → h.get? a = some o → o.data = .fields vs → a ∉ frs (X.env :: X.outer) := fun {h o vs} ff e dd hm => by
      obtain ⟨_, o', e', hnf⟩ := ff.mem hm
      rw [e] at e'; cases e'
      exact hnf _ dd
    have nfr := notFr fl3.2.2.1 he3 hd3
    have nL : a ≠ X.env.locals := fun z => nfr (List.mem_filterMap.mpr ⟨X.env, List.mem_cons_self, by rw [hf, z]⟩)
    have nF : a ∉ X.fs := fun hm => by
      obtain ⟨e, he, q⟩ := List.mem_filterMap.mp hm
      exact nfr (List.mem_filterMap.mpr ⟨e, List.mem_cons_of_mem _ he, q⟩)
    have S3 := J3.suite he3 hd3 na nL nF
    have go : ∀ {hds' : List ExceptHandler} {l' : List (Value × Nat × (Addr → Value → Option Addr → TS))}, HdsA X hds' l' → wManyA X.K Wout D l' cls d σ' H' →
        wpAny (model X.prog X.w) X.A (handleBy (.ref a) X.env hds') (SP X pins D) X.xe { s' with heap := h3 } := by
      intro hds' l' hk
      induction hk with
      | nil =>
        intro w
        refine wpAny_handleBy_nil ?_
        obtain ⟨k1, k2, k3, oe, vs, T, oT, ts', he, hz, hd, h1, hr⟩ := id fl3
        unfold PySem.passOn
        refine wpAny_bind (wpAny_field he hd h1 ?_)
        rw [if_neg (show ¬ ((Value.ref T == Value.none) = true) from by simp)]
        have fin : wpAny (model X.prog X.w) X.A (setFlight (.ref a) X.env.frame) (fun _ s4 => wpAny (model X.prog X.w) X.A (throw (.ref a) : Sem Flow) (SP X pins D) X.xe s4) X.xe { s' with heap := h3 } := by
          rw [hf]
          refine HandSPX.setFlight_upZ fl3 fun h4 hh4 up4 => wpAny_throw (tk _ _ ?_)
          exact ⟨a, B, sI, pins, σ', H', cls, d, rfl, J, nb, (up.trans up3).trans up4, .inr (.inr (by rw [hs]; exact hh4)), na, os, ag, w⟩
        first
          | exact wpAny_bind (wpAny_pure (wpAny_bind fin))
          | exact wpAny_bind fin
      | @cons x n c i ts b₀ suite np pos' hds2 l2 hc hi hln hsu r ih =>
        intro w
        have hloc : Loc X.env.scope n := .inl hln
        obtain ⟨b, hb1, hyes, hno⟩ := w
        refine wpAny_handleBy_cons (codeAny_handlers_test ?_) (by intro q; cases q)
        have LT : PySem.W.Looks (model X.prog X.w) h3 (typeOf (.ref a)) cls := fun A Q E s k q => wpAny_typeOf_ref (k _ _ he3) (by rw [hz3.1]; exact q)
        have LM := PySem.W.exm_one (M := model X.prog X.w) (J3.kIn) LT hb1
        have test : ∀ {Q : Value → Shared → Prop} {E : Value → Shared → Prop}, Q c { s' with heap := h3 } → wpAny (model X.prog X.w) (X.A.mark (some (.ref a))) (eval (.Name x np) X.env) Q E { s' with heap := h3 } := fun {Q E} q => by
          obtain ⟨hg, hdbg, hm | ⟨hm, hv, hnn⟩⟩ := hc
          · exact ld_glob (X := X.suite a ((a, oe3) :: (X.pn ++ pins))) S3 hg hm q hdbg
          · exact ld_blt (X := X.suite a ((a, oe3) :: (X.pn ++ pins))) S3 hg hm hv q hnn hdbg
        refine test (LM.here ?_)
        cases b with
        | true =>
          refine codeAny_handlers_suite_as ?_
          refine HandSPX.lands_againZ fl3 fun h4 fl4 up4 => ?_
          have J4 : Inv X pins σ' H' { s' with heap := h4 } := J.landed nb fl4.1 ((up.trans up3).trans up4) os ag
          obtain ⟨oe4, vs4, he4, hz4, hd4⟩ := fl4.there
          have S4 := J4.suite he4 hd4 na nL nF
          refine store_ok (X := X.suite a ((a, oe4) :: (X.pn ++ pins))) (v := .ref a) S4 hN hi hloc rfl (fun s5 S5 => ?_) (.inr hln)
          refine wpAny_mono ((hsu a oe4 cls d (X.pn ++ pins) hz4 ⟨_, hd4⟩).run [] s5 _ H' _ S5 (hyes rfl a na)) (fun f s6 hsp => ?_) (fun _ _ z => False.elim z)
          have end_ : ∀ {σ6 : L2.St} {H6 : Hp} {Q : Shared → Prop}, Inv (X.suite a ((a, oe4) :: (X.pn ++ pins))) [] σ6 H6 s6 → (∀ s7, Inv X pins (σ6.set i none) H6 s7 → Q s7) →
              wpAny (model X.prog X.w) X.A (do bindName X.env n .none; unbindBehindTheSuite X.env n pos') (fun _ s7 => Q s7) X.xe s6 := fun {σ6 H6 Q} S6 hq => gone_ok (S6.unsuite ok) hN hi hln hq
          cases f with
          | next =>
            obtain ⟨σ6, H6, S6, q6⟩ := hsp
            exact end_ S6 fun s7 J7 => ⟨_, _, J7, q6⟩
          | brk =>
            obtain ⟨σ6, H6, S6, q6⟩ := hsp
            exact end_ S6 fun s7 J7 => ⟨_, _, J7, q6⟩
          | cont =>
            obtain ⟨σ6, H6, S6, q6⟩ := hsp
            exact end_ S6 fun s7 J7 => ⟨_, _, J7, q6⟩
          | ret u =>
            obtain ⟨v6, σ6, H6, S6, r6, q6⟩ := hsp
            exact end_ S6 fun s7 J7 => ⟨_, _, _, J7, r6, q6⟩
        | false =>
          show wpAny _ X.A (handleBy (.ref a) X.env hds2) _ _ _
          exact ih (hno rfl)
    exact go hh w
  · cases f with
    | next =>
      obtain ⟨σ', H', J', q⟩ := hsp
      exact wpAny_execs_nil ⟨σ', H', J'.ofTry ok, q⟩
    | brk =>
      obtain ⟨σ', H', J', q⟩ := hsp
      exact ⟨σ', H', J'.ofTry ok, q⟩
    | cont =>
      obtain ⟨σ', H', J', q⟩ := hsp
      exact ⟨σ', H', J'.ofTry ok, q⟩
    | ret u =>
      obtain ⟨v, σ', H', J', r, q⟩ := hsp
      exact ⟨v, σ', H', J'.ofTry ok, r, q⟩
end

/-! ### shapes -/
theorem pxE {X : Cx} {E : XK} {E₁ : Value → Shared → Prop} (hs : X.stack = X.env :: X.outer) (hf : X.env.frame = some X.env.locals) (hex : X.ex = [])
    (hx : X.xe = fun e s' => wpAny (model X.prog X.w) X.A (leaving X.env e) (fun _ s'' => L2.CX X.prog X.w X.outer X.H_0 X.s_0 E e s'') E₁ s') : Passes (L2.CX X.prog X.w) X E :=
  passes_call (takes_of hs hf hex hx) (fun _ _ _ _ h => h)
/-- an operator -/
structure GO (P : Program) (w : World) (K : PySem.W.Frag) (mg : Str → Option Value) (base : Heap) (CX : CXT) (k : Nat) (C : Addr) (op : Operator) (sp : Sp) : Prop where
  ex : ∃ (g : Addr) (fd : FuncData) (ps : List Str), OpC K C (PySem.dunder op.info.2) (PySem.dunderR op.info.2) g ∧ FnOk P w K mg base CX k g fd ps sp ∧ Binds K fd ps []
/-- a special method that is found by its name -/
structure GN (P : Program) (w : World) (K : PySem.W.Frag) (mg : Str → Option Value) (base : Heap) (CX : CXT) (k : Nat) (C : Addr) (m : Str) (sp : Sp) : Prop where
  ex : ∃ (g : Addr) (fd : FuncData) (ps : List Str), PySem.W.findIn K (.ref C) m = some (some (.ref g)) ∧ PySem.W.isFn K (.ref g) = true ∧ FnOk P w K mg base CX k g fd ps sp ∧ Binds K fd ps []
/-- a property -/
structure GP (P : Program) (w : World) (K : PySem.W.Frag) (mg : Str → Option Value) (base : Heap) (CX : CXT) (k : Nat) (C : Addr) (f : Str) (sp : Sp) : Prop where
  c : Cls K C
  ex : ∃ (p g : Addr) (fd : FuncData) (ps : List Str), PropOf K C f p g ∧ FnOk P w K mg base CX k g fd ps sp ∧ Binds K fd ps []
/-- a static method -/
structure GS (P : Program) (w : World) (K : PySem.W.Frag) (mg : Str → Option Value) (base : Heap) (CX : CXT) (k : Nat) (C : Addr) (m : Str) (sp : Sp) : Prop where
  ex : ∃ (mc : Value) (p g : Addr) (fd : FuncData) (ps : List Str), SMet K C mc m p g ∧ FnOk P w K mg base CX k g fd ps sp ∧ Binds K fd ps []
/-- free names -/
structure Nm (mg : Str → Option Value) : Prop where
  isinstance : mg "isinstance" = none
  int : mg "int" = none
  bool : mg "bool" = none
  str : mg "str" = none
  abs : mg "abs" = none
  len : mg "len" = none
  range : mg "range" = none
  enumerate : mg "enumerate" = none
  list : mg "list" = none
  tuple : mg "tuple" = none
section
variable {X : Cx} {CX : CXT} {k : Nat} {C : Addr} {sp : Sp} {E : XK} {op : Operator} {o e : Expr} {es : List Expr} {m f : Str} {apos pos : Pos} {ta : TE} {t : TA} {pl : Sem Bool}
theorem op_go (G : GO X.prog X.w X.K X.mg X.base CX k C op sp) (hr : Room k X.A) (hx : Passes CX X E) : OpR X (binaryOp op) (rBin C sp E) := by
  obtain ⟨g, fd, ps, O, F, hb⟩ := G.ex
  exact op_bin O F hr hb hx
theorem op_eqGo (G : GN X.prog X.w X.K X.mg X.base CX k C "__eq__" sp) (hr : Room k X.A) (hx : Passes CX X E) : OpR X (compareOp .Eq) (rEqOwn X.K C sp E) := by
  obtain ⟨g, fd, ps, h1, h2, F, hb⟩ := G.ex
  exact op_eqOwn h1 h2 F hr hb hx
theorem call_absGo (G : GN X.prog X.w X.K X.mg X.base CX k C "__abs__" sp) (hr : Room (k + 1) X.A) (hx : Passes CX X E) : CallR X (.builtin "abs") (rAbsOwn C sp E) := by
  obtain ⟨g, fd, ps, h1, h2, F, hb⟩ := G.ex
  exact call_absOwn h1 h2 F hr hb hx
theorem un_go (G : GN X.prog X.w X.K X.mg X.base CX k C "__neg__" sp) (hr : Room k X.A) (hx : Passes CX X E) : UnR X (unaryOp .USub) (rUn C sp E) := by
  obtain ⟨g, fd, ps, h1, h2, F, hb⟩ := G.ex
  exact un_own h1 h2 F hr hb hx
theorem passN {X : Cx} : Passes (L2.CX X.prog X.w) X.nox E0 := passL (X := X.nox)
theorem pe_gp (he : PE X o ta) (G : GP X.prog X.w X.K X.mg X.base (L2.CX X.prog X.w) k C f sp) (hr : Room (k + 1) X.A) (hab : attributeBase o f X.env (eval o X.env) = eval o X.env) :
    PE X (.Attribute o f pos) (tProp C sp [] E0 ta) := by
  obtain ⟨p, g, fd, ps, hp, F, hb⟩ := G.ex
  exact pe_prop (ds := []) he G.c hp F hr hb .nil passN hab
theorem pe_gs (he : PE X o ta) (G : GS X.prog X.w X.K X.mg X.base CX k C m sp) (hr : Room k X.A) (hx : Passes CX X E) (ha : PA X (e :: es) t)
    (hst : starEach (e :: es) X.env = (false, eval e X.env) :: starEach es X.env := by rfl) (hpl : (backTo pos (starEach es X.env)).any (·.1) = false := by rfl)
    (ht : eval (.Call (.Attribute o m apos) (e :: es) [] pos) X.env = (do
      let ov ← eval o X.env
      standAt apos.atName
      let (f, first) ← holding [ov] (getMethod ov m pl)
      callWith pos f first (backTo pos (starEach (e :: es) X.env)) (backToKw pos (keywordEach [] X.env))) := by rfl) :
    PE X (.Call (.Attribute o m apos) (e :: es) [] pos) (tSMeth C sp E ta t) := by
  obtain ⟨mc, p, g, fd, ps, S, F, hb⟩ := G.ex
  exact pe_smeth he S F hr hb hx ha hst hpl ht
end
section
variable {X : Cx}
theorem call_int1i : CallR X (.type "int") (fun xs H Q => ∃ i, xs = [.int i] ∧ Q (.int i) H) := fun pins s σ H xs us Q I r h => call_int1 pins s σ H xs us Q I r (.inl h)
theorem call_int1b : CallR X (.type "int") (fun xs H Q => ∃ k, xs = [.bl k] ∧ Q (.int (if k then 1 else 0)) H) := fun pins s σ H xs us Q I r h => call_int1 pins s σ H xs us Q I r (.inr h)
end
theorem cmL {i j : Int} (h : -(2 ^ 64) < i ∧ i < 2 ^ 64) : CMul i j := .inl h
theorem cmR {i j : Int} (h : -(2 ^ 64) < j ∧ j < 2 ^ 64) : CMul i j := .inr h
end Sp
end
section
set_option linter.all false
namespace Sp
/-! ### ratios as Lean's own -/
def Sz (q : Rat) (n : Nat) : Prop := q.num.natAbs < 2 ^ n ∧ q.den < 2 ^ n
theorem dvd_g1 (a b : Int) : ((Nat.gcd a.natAbs b.natAbs : Nat) : Int) ∣ a := Int.gcd_dvd_left (a := a) (b := b)
theorem dvd_g2 (a b : Int) : ((Nat.gcd a.natAbs b.natAbs : Nat) : Int) ∣ b := Int.gcd_dvd_right (a := a) (b := b)
/-- the divisor that Ratio's __init__ takes -/
def comm (a b : Int) : Int := if 0 < b then ((Nat.gcd a.natAbs b.natAbs : Nat) : Int) else -((Nat.gcd a.natAbs b.natAbs : Nat) : Int)
theorem comm_ne {a b : Int} (h : b ≠ 0) : comm a b ≠ 0 := by
  unfold comm
  have : Nat.gcd a.natAbs b.natAbs ≠ 0 := by
    intro z
    have := (Nat.gcd_eq_zero_iff.mp z).2
    omega
  split <;> omega
theorem comm_le {a b : Int} (h : b ≠ 0) : (comm a b).natAbs ≤ b.natAbs := by
  have := Nat.gcd_le_right a.natAbs (show 0 < b.natAbs by omega)
  unfold comm
  split <;> omega
theorem comm_num {a b : Int} (h : b ≠ 0) : a.fdiv (comm a b) = (Rat.divInt a b).num := by
  rw [Rat.num_divInt]
  have hg : (b.gcd a : Nat) = Nat.gcd a.natAbs b.natAbs := by rw [Int.gcd, Nat.gcd_comm]
  rw [hg]
  have d := dvd_g1 a b
  unfold comm
  split
  · rename_i hb
    rw [Int.sign_eq_one_of_pos hb, Int.one_mul, Int.fdiv_eq_ediv_of_dvd d]
  · rw [Int.sign_eq_neg_one_of_neg (by omega), Int.fdiv_eq_ediv_of_dvd (Int.neg_dvd.mpr d), Int.ediv_neg]
    rw [show (-1 : Int) * a = -a by omega, Int.neg_ediv_of_dvd d]
theorem comm_den {a b : Int} (h : b ≠ 0) : b.fdiv (comm a b) = (Rat.divInt a b).den := by
  rw [Rat.den_divInt, if_neg h]
  have hg : (b.gcd a : Nat) = Nat.gcd a.natAbs b.natAbs := by rw [Int.gcd, Nat.gcd_comm]
  rw [hg]
  have d := dvd_g2 a b
  unfold comm
  split
  · rename_i hb
    rw [Int.fdiv_eq_ediv_of_dvd d]
    have : b = (b.natAbs : Int) := by omega
    generalize Nat.gcd a.natAbs b.natAbs = g
    rw [Int.natCast_ediv, ← this]
  · rename_i hb
    rw [Int.fdiv_eq_ediv_of_dvd (Int.neg_dvd.mpr d), Int.ediv_neg, ← Int.neg_ediv_of_dvd d]
    have : -b = (b.natAbs : Int) := by omega
    rw [this, Int.natCast_ediv]
theorem sz_divInt {a b : Int} {n : Nat} (h : b ≠ 0) (ha : a.natAbs < 2 ^ n) (hb : b.natAbs < 2 ^ n) : Sz (Rat.divInt a b) n := by
  refine ⟨?_, ?_⟩
  · rw [Rat.num_divInt]
    have : (b.sign * a / ((b.gcd a : Nat) : Int)).natAbs ≤ (b.sign * a).natAbs := Int.natAbs_ediv_le_natAbs _ _
    have h2 : (b.sign * a).natAbs = a.natAbs := by rw [Int.natAbs_mul, Int.natAbs_sign, if_neg h]; omega
    omega
  · rw [Rat.den_divInt, if_neg h]
    have := Nat.div_le_self b.natAbs (b.gcd a)
    omega
theorem nb_mul {x y : Int} {a b : Nat} (hx : x.natAbs < 2 ^ a) (hy : y.natAbs < 2 ^ b) : (x * y).natAbs < 2 ^ (a + b) := by
  rw [Int.natAbs_mul, Nat.pow_add]
  exact Nat.mul_lt_mul'' hx hy
theorem nb_add {x y : Int} {a b n : Nat} (hx : x.natAbs < 2 ^ a) (hy : y.natAbs < 2 ^ b) (ha : a + 1 ≤ n := by omega) (hb : b + 1 ≤ n := by omega) : (x + y).natAbs < 2 ^ n := by
  have h1 : 2 ^ a ≤ 2 ^ (n - 1) := Nat.pow_le_pow_right (by decide) (by omega)
  have h2 : 2 ^ b ≤ 2 ^ (n - 1) := Nat.pow_le_pow_right (by decide) (by omega)
  have h3 : 2 ^ n = 2 ^ (n - 1) + 2 ^ (n - 1) := by
    obtain ⟨m, rfl⟩ : ∃ m, n = m + 1 := ⟨n - 1, by omega⟩
    rw [Nat.add_sub_cancel, Nat.pow_succ]
    omega
  omega
theorem nb_neg {x : Int} {a : Nat} (hx : x.natAbs < 2 ^ a) : (-x).natAbs < 2 ^ a := by omega
theorem nb_sub {x y : Int} {a b n : Nat} (hx : x.natAbs < 2 ^ a) (hy : y.natAbs < 2 ^ b) (ha : a + 1 ≤ n := by omega) (hb : b + 1 ≤ n := by omega) : (x - y).natAbs < 2 ^ n := by
  rw [Int.sub_eq_add_neg]
  exact nb_add hx (nb_neg hy) ha hb
theorem nb_le {x : Int} {a n : Nat} (hx : x.natAbs < 2 ^ a) (h : a ≤ n := by omega) : x.natAbs < 2 ^ n := Nat.lt_of_lt_of_le hx (Nat.pow_le_pow_right (by decide) h)
theorem Sz.mono {q : Rat} {m n : Nat} (h : Sz q m) (l : m ≤ n := by omega) : Sz q n := ⟨nb_le h.1 l, Nat.lt_of_lt_of_le h.2 (Nat.pow_le_pow_right (by decide) l)⟩
theorem Sz.d {q : Rat} {n : Nat} (h : Sz q n) : ((q.den : Nat) : Int).natAbs < 2 ^ n := by have := h.2; omega
theorem den_ne (q : Rat) : ((q.den : Nat) : Int) ≠ 0 := by have := q.den_nz; omega
theorem add_eq (p q : Rat) : Rat.divInt (p.num * q.den + q.num * p.den) (p.den * q.den) = p + q := by
  rw [← Rat.divInt_add_divInt _ _ (den_ne p) (den_ne q), Rat.num_divInt_den, Rat.num_divInt_den]
theorem sub_eq (p q : Rat) : Rat.divInt (p.num * q.den - q.num * p.den) (p.den * q.den) = p - q := by
  rw [← Rat.divInt_sub_divInt _ _ (den_ne p) (den_ne q), Rat.num_divInt_den, Rat.num_divInt_den]
theorem mul_eq (p q : Rat) : Rat.divInt (p.num * q.num) (p.den * q.den) = p * q := by
  rw [← Rat.divInt_mul_divInt, Rat.num_divInt_den, Rat.num_divInt_den]
theorem dd_ne (p q : Rat) : ((p.den : Nat) : Int) * ((q.den : Nat) : Int) ≠ 0 := Int.mul_ne_zero (den_ne p) (den_ne q)
theorem sz_add {p q : Rat} {m n k : Nat} (hp : Sz p m) (hq : Sz q n) (h : m + n + 1 ≤ k := by omega) : Sz (p + q) k := by
  rw [← add_eq]
  exact sz_divInt (dd_ne p q) (nb_add (nb_mul hp.1 hq.d) (nb_mul hq.1 hp.d)) (nb_le (nb_mul hp.d hq.d))
theorem sz_sub {p q : Rat} {m n k : Nat} (hp : Sz p m) (hq : Sz q n) (h : m + n + 1 ≤ k := by omega) : Sz (p - q) k := by
  rw [← sub_eq]
  exact sz_divInt (dd_ne p q) (nb_sub (nb_mul hp.1 hq.d) (nb_mul hq.1 hp.d)) (nb_le (nb_mul hp.d hq.d))
theorem sz_mul {p q : Rat} {m n k : Nat} (hp : Sz p m) (hq : Sz q n) (h : m + n ≤ k := by omega) : Sz (p * q) k := by
  rw [← mul_eq]
  exact sz_divInt (dd_ne p q) (nb_le (nb_mul hp.1 hq.1)) (nb_le (nb_mul hp.d hq.d))
theorem sz_int {i : Int} {n : Nat} (h : i.natAbs < 2 ^ n) (h0 : 1 ≤ n := by omega) : Sz (i : Rat) n := by
  refine ⟨by rw [Rat.num_intCast]; exact h, ?_⟩
  rw [Rat.den_intCast]
  exact Nat.lt_of_lt_of_le (by decide : 1 < 2 ^ 1) (Nat.pow_le_pow_right (by decide) h0)
theorem divInt_one (i : Int) : Rat.divInt i 1 = (i : Rat) := by
  rw [Rat.divInt_eq_div]
  show (i : Rat) / ((1 : Int) : Rat) = i
  rw [Rat.intCast_one]
  grind
/-- what a ratio that stands for a / b says -/
theorem is_pair {q : Rat} {a b : Int} (h : b ≠ 0) (e : q = Rat.divInt a b) : q.num * b = a * q.den := by
  have : Rat.divInt q.num q.den = Rat.divInt a b := by rw [Rat.num_divInt_den, e]
  exact (Rat.divInt_eq_divInt_iff (den_ne q) h).mp this
theorem div_eq {a b : Int} : Rat.divInt a b = (a : Rat) / (b : Rat) := Rat.divInt_eq_div a b
theorem below_eq (p q : Rat) : decide ((p.num * q.den - q.num * p.den).sign < 0) = decide (p < q) := by
  rw [decide_eq_decide, Rat.lt_iff, Int.sign_neg_iff]
  omega
def qabs (q : Rat) : Rat := if q < 0 then -q else q
theorem num_neg (q : Rat) : q.num < 0 ↔ q < 0 := by
  rw [Rat.lt_iff]
  simp
theorem qabs_eq (q : Rat) : Rat.divInt (if q.num < 0 then -q.num else q.num) q.den = qabs q := by
  unfold qabs
  by_cases h : q < 0
  · rw [if_pos h, if_pos ((num_neg q).mpr h), ← Rat.neg_divInt, Rat.num_divInt_den]
  · rw [if_neg h, if_neg (fun z => h ((num_neg q).mp z)), Rat.num_divInt_den]
theorem req (p q : Rat) : p = q ↔ p.num = q.num ∧ ((p.den : Nat) : Int) = ((q.den : Nat) : Int) := by
  constructor
  · intro h
    subst h
    exact ⟨rfl, rfl⟩
  · intro ⟨a, b⟩
    exact Rat.ext a (by omega)
theorem num_pos {q : Rat} : 0 < q.num ↔ 0 < q := by
  rw [Rat.lt_iff]
  simp
theorem sz_abs {q : Rat} {n : Nat} (h : Sz q n) : Sz (qabs q) n := by
  rw [← qabs_eq]
  refine sz_divInt (den_ne q) ?_ h.d
  have := h.1
  split <;> omega
end Sp
end
section
set_option linter.all false
set_option exponentiation.threshold 5000
namespace Sp
/-! ### runs of letters -/
def PQ : List Int → Int × Int
  | [] => (1, 1)
  | r :: t => ((PQ t).1 * r + (PQ t).2, (PQ t).1)
def Ones (l : List Int) : Prop := ∀ x ∈ l, 1 ≤ x
theorem Ones.tail {r : Int} {t : List Int} (h : Ones (r :: t)) : Ones t := fun x hx => h x (List.mem_cons_of_mem _ hx)
theorem Ones.head {r : Int} {t : List Int} (h : Ones (r :: t)) : 1 ≤ r := h r List.mem_cons_self
theorem pq_pos : ∀ l : List Int, (∀ x ∈ l, 0 ≤ x) → 1 ≤ (PQ l).1 ∧ 1 ≤ (PQ l).2
  | [], _ => ⟨by decide, by decide⟩
  | r :: t, h => by
    obtain ⟨h1, h2⟩ := pq_pos t fun x hx => h x (List.mem_cons_of_mem _ hx)
    have hr := h r List.mem_cons_self
    have : 0 ≤ (PQ t).1 * r := Int.mul_nonneg (by omega) hr
    refine ⟨?_, h1⟩
    show 1 ≤ (PQ t).1 * r + (PQ t).2
    omega
theorem Ones.nn {l : List Int} (h : Ones l) : ∀ x ∈ l, (0 : Int) ≤ x := fun x hx => by have := h x hx; omega
theorem pq_lt {r : Int} {t : List Int} (h : Ones (r :: t)) : (PQ (r :: t)).2 < (PQ (r :: t)).1 := by
  obtain ⟨h1, h2⟩ := pq_pos t h.tail.nn
  have hr := h.head
  show (PQ t).1 < (PQ t).1 * r + (PQ t).2
  have : (PQ t).1 * 1 ≤ (PQ t).1 * r := Int.mul_le_mul_of_nonneg_left hr (by omega)
  omega
theorem fdm {a b q r : Int} (hb : 0 < b) (e : a = b * q + r) (h0 : 0 ≤ r) (h1 : r < b) : a.fdiv b = q ∧ a.fmod b = r := by
  subst e
  rw [Int.fdiv_eq_ediv_of_nonneg _ (by omega), Int.fmod_eq_emod_of_nonneg _ (by omega)]
  refine ⟨?_, ?_⟩
  · rw [Int.mul_add_ediv_left _ _ (by omega), Int.ediv_eq_zero_of_lt h0 h1]
    omega
  · rw [Int.mul_add_emod_self_left, Int.emod_eq_of_lt h0 h1]
def bump : List Int → List Int
  | [] => []
  | [r] => [r + 1]
  | r :: s :: t => r :: bump (s :: t)
/-- one turn of the division with a rest -/
theorem pq_step {r : Int} {t : List Int} (h : Ones (r :: t)) : ((PQ (r :: t)).1.fdiv (PQ (r :: t)).2 :: (if t = [] then [] else bump t)) = bump (r :: t) ∧ (PQ (r :: t)).1.fmod (PQ (r :: t)).2 = (if t = [] then 0 else (PQ t).2) ∧ (PQ (r :: t)).2 = (PQ t).1 := by
  cases t with
  | nil =>
    have : (PQ [r]).1 = 1 * (r + 1) + 0 := by show (1 : Int) * r + 1 = _; omega
    obtain ⟨h1, h2⟩ := fdm (b := 1) (by decide) this (by decide) (by decide)
    refine ⟨?_, ?_, rfl⟩
    · show [(PQ [r]).1.fdiv 1] = [r + 1]
      rw [h1]
    · show (PQ [r]).1.fmod 1 = 0
      rw [h2]
  | cons s t =>
    obtain ⟨h1, h2⟩ := pq_pos (s :: t) h.tail.nn
    obtain ⟨h3, h4⟩ := fdm (a := (PQ (r :: s :: t)).1) (b := (PQ (s :: t)).1) (q := r) (r := (PQ (s :: t)).2) (by omega) rfl (by omega) (pq_lt h.tail)
    refine ⟨?_, ?_, rfl⟩
    · show (PQ (r :: s :: t)).1.fdiv (PQ (s :: t)).1 :: bump (s :: t) = r :: bump (s :: t)
      rw [h3]
    · exact h4
/-- the runs as the division finds them -/
def rs1 : List Int → List Int
  | [] => [1]
  | r :: t => (r + 1) :: t
theorem rs1_pq (l : List Int) : PQ (rs1 l) = ((PQ l).1 + (PQ l).2, (PQ l).2) := by
  cases l with
  | nil => rfl
  | cons r t =>
    show ((PQ t).1 * (r + 1) + (PQ t).2, (PQ t).1) = ((PQ t).1 * r + (PQ t).2 + (PQ t).1, (PQ t).1)
    rw [Int.mul_add]
    congr 1
    omega
/-- first and others of the runs that are drawn -/
structure Runs (l : List Int) : Prop where
  first : ∀ r t, l = r :: t → 0 ≤ r ∧ Ones t
  not0 : l ≠ [0]
  many : l.length ≤ 5
  size : ∀ x ∈ l, x < 2 ^ 31
theorem Runs.ones {l : List Int} (h : Runs l) : Ones (rs1 l) := by
  cases l with
  | nil => intro x hx; rw [List.mem_singleton.mp hx]; decide
  | cons r t =>
    obtain ⟨h1, h2⟩ := h.first r t rfl
    intro x hx
    rcases List.mem_cons.mp hx with rfl | hx
    · omega
    · exact h2 x hx
theorem Runs.nn {l : List Int} (h : Runs l) : ∀ x ∈ l, (0 : Int) ≤ x := by
  cases l with
  | nil => intro x hx; cases hx
  | cons r t =>
    obtain ⟨h1, h2⟩ := h.first r t rfl
    intro x hx
    rcases List.mem_cons.mp hx with rfl | hx
    · exact h1
    · exact h2.nn x hx
theorem rs1_ne (l : List Int) : rs1 l ≠ [] := by cases l <;> intro h <;> cases h
/-- the first one less, then the last one less -/
def dec0 : List Int → List Int
  | [] => []
  | r :: t => (r - 1) :: t
def decL : List Int → List Int
  | [] => []
  | [r] => [r - 1]
  | r :: s :: t => r :: decL (s :: t)
theorem decL_bump : ∀ l : List Int, decL (bump l) = l
  | [] => rfl
  | [r] => by show [r + 1 - 1] = [r]; congr 1; omega
  | [r, s] => by show r :: [s + 1 - 1] = [r, s]; congr 2; omega
  | r :: s :: u :: t => by
    show r :: decL (s :: bump (u :: t)) = _
    have := decL_bump (s :: u :: t)
    rw [show bump (s :: u :: t) = s :: bump (u :: t) from rfl] at this
    rw [this]
theorem dec_rs1 (l : List Int) : decL (dec0 (bump (rs1 l))) = if l = [] then [0] else l := by
  match l with
  | [] => rfl
  | [r] => show [r + 1 + 1 - 1 - 1] = [r]; congr 1; omega
  | r :: s :: t =>
    show decL ((r + 1 - 1) :: bump (s :: t)) = r :: s :: t
    have e := decL_bump (r :: s :: t)
    rw [show bump (r :: s :: t) = r :: bump (s :: t) from rfl] at e
    rw [show r + 1 - 1 = r by omega]
    exact e
theorem dec0_set {r : Int} {t : List Int} : dec0 (r :: t) = (r :: t).set 0 (r - 1) := rfl
theorem decL_set : ∀ {l : List Int} {x : Int}, l[l.length - 1]? = some x → decL l = l.set (l.length - 1) (x - 1)
  | [], _, h => by cases h
  | [r], x, h => by
    have : r = x := by simpa using h
    subst this
    rfl
  | r :: s :: t, x, h => by
    have e : (r :: s :: t).length - 1 = ((s :: t).length - 1) + 1 := by simp
    rw [e] at h ⊢
    have h' : (s :: t)[(s :: t).length - 1]? = some x := by rw [List.getElem?_cons_succ] at h; exact h
    show r :: decL (s :: t) = r :: (s :: t).set _ _
    rw [decL_set h']
theorem bump_len : ∀ l : List Int, (bump l).length = l.length
  | [] => rfl
  | [_] => rfl
  | r :: s :: t => by show (bump (s :: t)).length + 1 = _; rw [bump_len (s :: t)]; rfl
/-! ### where the letters lead -/
structure Q4 where
  a : Int
  b : Int
  c : Int
  d : Int
def ledGo : Bool → List Int → Q4 → Q4
  | _, [], s => s
  | true, r :: t, s => ledGo false t ⟨s.a, s.b, s.c + r * s.a, s.d + r * s.b⟩
  | false, r :: t, s => ledGo true t ⟨s.a + r * s.c, s.b + r * s.d, s.c, s.d⟩
def Q4.cr (s : Q4) : Int := s.c * s.b - s.a * s.d
theorem led_cr : ∀ (f : Bool) (l : List Int) (s : Q4), (ledGo f l s).cr = s.cr
  | _, [], s => by unfold ledGo; rfl
  | true, r :: t, s => by
    show (ledGo false t _).cr = _
    rw [led_cr false t]
    simp only [Q4.cr]
    grind
  | false, r :: t, s => by
    show (ledGo true t _).cr = _
    rw [led_cr true t]
    simp only [Q4.cr]
    grind
theorem led_sum : ∀ (f : Bool) (l : List Int) (s : Q4),
    (ledGo f l s).a + (ledGo f l s).c = (PQ l).1 * (if f then s.a else s.c) + (PQ l).2 * (if f then s.c else s.a) ∧
    (ledGo f l s).b + (ledGo f l s).d = (PQ l).1 * (if f then s.b else s.d) + (PQ l).2 * (if f then s.d else s.b)
  | f, [], s => by
    cases f <;> simp [ledGo, PQ] <;> omega
  | true, r :: t, s => by
    obtain ⟨h1, h2⟩ := led_sum false t ⟨s.a, s.b, s.c + r * s.a, s.d + r * s.b⟩
    show (ledGo false t _).a + (ledGo false t _).c = _ ∧ _
    refine ⟨h1.trans ?_, h2.trans ?_⟩ <;> simp [PQ] <;> grind
  | false, r :: t, s => by
    obtain ⟨h1, h2⟩ := led_sum true t ⟨s.a + r * s.c, s.b + r * s.d, s.c, s.d⟩
    show (ledGo true t _).a + (ledGo true t _).c = _ ∧ _
    refine ⟨h1.trans ?_, h2.trans ?_⟩ <;> simp [PQ] <;> grind
theorem led_pos : ∀ (f : Bool) (l : List Int) (s : Q4), (∀ x ∈ l, 0 ≤ x) → 1 ≤ s.b → 1 ≤ s.d → 1 ≤ (ledGo f l s).b ∧ 1 ≤ (ledGo f l s).d
  | _, [], s, _, h1, h2 => by unfold ledGo; exact ⟨h1, h2⟩
  | true, r :: t, s, h, h1, h2 => led_pos false t _ (fun x hx => h x (List.mem_cons_of_mem _ hx)) h1 (by
      have := Int.mul_nonneg (h r List.mem_cons_self) (show 0 ≤ s.b by omega)
      show 1 ≤ s.d + r * s.b
      omega)
  | false, r :: t, s, h, h1, h2 => led_pos true t _ (fun x hx => h x (List.mem_cons_of_mem _ hx)) (by
      have := Int.mul_nonneg (h r List.mem_cons_self) (show 0 ≤ s.d by omega)
      show 1 ≤ s.b + r * s.d
      omega) h2
structure Q4.Sm (s : Q4) (n : Nat) : Prop where
  a : s.a.natAbs < 2 ^ n
  b : s.b.natAbs < 2 ^ n
  c : s.c.natAbs < 2 ^ n
  d : s.d.natAbs < 2 ^ n
theorem sm1 {x y r : Int} {n : Nat} (hx : x.natAbs < 2 ^ n) (hy : y.natAbs < 2 ^ n) (h0 : 0 ≤ r) (hr : r < 2 ^ 31) : (x + r * y).natAbs < 2 ^ (n + 32) :=
  nb_add (a := n) (b := 31 + n) hx (nb_mul (by omega) hy)
theorem led_sm : ∀ (f : Bool) (l : List Int) (s : Q4) (n : Nat), (∀ x ∈ l, 0 ≤ x ∧ x < 2 ^ 31) → s.Sm n → (ledGo f l s).Sm (n + 32 * l.length)
  | _, [], s, n, _, h => by unfold ledGo; exact h
  | true, r :: t, s, n, h, z => by
    obtain ⟨h0, h1⟩ := h r List.mem_cons_self
    have := led_sm false t ⟨s.a, s.b, s.c + r * s.a, s.d + r * s.b⟩ (n + 32) (fun x hx => h x (List.mem_cons_of_mem _ hx)) ⟨nb_le z.a, nb_le z.b, sm1 z.c z.a h0 h1, sm1 z.d z.b h0 h1⟩
    rw [show n + 32 + 32 * t.length = n + 32 * (r :: t).length by simp; omega] at this
    exact this
  | false, r :: t, s, n, h, z => by
    obtain ⟨h0, h1⟩ := h r List.mem_cons_self
    have := led_sm true t ⟨s.a + r * s.c, s.b + r * s.d, s.c, s.d⟩ (n + 32) (fun x hx => h x (List.mem_cons_of_mem _ hx)) ⟨sm1 z.a z.c h0 h1, sm1 z.b z.d h0 h1, nb_le z.c, nb_le z.d⟩
    rw [show n + 32 + 32 * t.length = n + 32 * (r :: t).length by simp; omega] at this
    exact this
/-- all that is known of where runs lead -/
structure Led (w : Int) (l : List Int) (s : Q4) : Prop where
  cr : s.cr = 1
  b : 1 ≤ s.b
  d : 1 ≤ s.d
  sm : s.Sm 200
  top : s.a + s.c = ((PQ l).1 + (PQ l).2) * w + (PQ l).2
  bot : s.b + s.d = (PQ l).1 + (PQ l).2
theorem led_of {w : Int} {l : List Int} (hw : w.natAbs ≤ 40) (hl : Runs l) : Led w l (ledGo true l ⟨w, 1, w + 1, 1⟩) := by
  obtain ⟨h1, h2⟩ := led_sum true l ⟨w, 1, w + 1, 1⟩
  obtain ⟨h3, h4⟩ := led_pos true l ⟨w, 1, w + 1, 1⟩ hl.nn (Int.le_refl 1) (Int.le_refl 1)
  have z := led_sm true l ⟨w, 1, w + 1, 1⟩ 6 (fun x hx => ⟨hl.nn x hx, hl.size x hx⟩) ⟨by show w.natAbs < 64; omega, by show (1 : Int).natAbs < 64; decide, by show (w + 1).natAbs < 64; omega, by show (1 : Int).natAbs < 64; decide⟩
  have hm := hl.many
  refine ⟨?_, h3, h4, ⟨nb_le z.a, nb_le z.b, nb_le z.c, nb_le z.d⟩, ?_, ?_⟩
  · rw [led_cr]
    simp only [Q4.cr]
    omega
  · rw [h1]
    simp only [if_true]
    grind
  · rw [h2]
    simp only [if_true]
    omega
section
variable {w : Int} {l : List Int} {s : Q4} (h : Led w l s) (hl : Runs l)
include h hl
theorem Led.fdm : (s.a + s.c).fdiv (s.b + s.d) = w ∧ (s.a + s.c).fmod (s.b + s.d) = (PQ l).2 := by
  obtain ⟨h1, h2⟩ := pq_pos l hl.nn
  rw [h.top, h.bot]
  exact Sp.fdm (by omega) rfl (by omega) (by omega)
theorem Led.pq : PQ (rs1 l) = (s.b + s.d, (s.a + s.c).fmod (s.b + s.d)) := by
  rw [rs1_pq, (h.fdm hl).2, h.bot]
end
/-! ### coprime pairs -/
theorem cop_of {a b x y : Int} (h : a * x - b * y = 1) : Nat.gcd a.natAbs b.natAbs = 1 := by
  have h1 := dvd_g1 a b
  have h2 := dvd_g2 a b
  generalize Nat.gcd a.natAbs b.natAbs = g at h1 h2
  have : ((g : Nat) : Int) ∣ 1 := by
    rw [← h]
    exact Int.dvd_sub (Int.dvd_trans h1 (Int.dvd_mul_right _ _)) (Int.dvd_trans h2 (Int.dvd_mul_right _ _))
  have := Int.natAbs_dvd_natAbs.mpr this
  exact Nat.dvd_one.mp this
theorem cop_num {a b : Int} (hb : 0 < b) (h : Nat.gcd a.natAbs b.natAbs = 1) : (Rat.divInt a b).num = a ∧ (((Rat.divInt a b).den : Nat) : Int) = b := by
  have h1 := comm_num (a := a) (b := b) (by omega)
  have h2 := comm_den (a := a) (b := b) (by omega)
  unfold comm at h1 h2
  rw [if_pos hb, h] at h1 h2
  rw [← h1, ← h2]
  exact ⟨by rw [Int.fdiv_eq_ediv_of_nonneg _ (by decide)]; omega, by rw [Int.fdiv_eq_ediv_of_nonneg _ (by decide)]; omega⟩
theorem inv_uniq {n m x y k j : Int} (hx0 : 0 ≤ x) (hx : x < m) (hy0 : 0 ≤ y) (hy : y < m) (h1 : n * x - 1 = k * m) (h2 : n * y - 1 = j * m) : x = y := by
  have e : x - y = m * (y * k - x * j) := by grind
  have hm : 0 < m := by omega
  have hz : y * k - x * j = 0 := by
    rcases Int.lt_trichotomy (y * k - x * j) 0 with z | z | z
    · have := Int.mul_le_mul_of_nonneg_left (show y * k - x * j ≤ -1 by omega) (show 0 ≤ m by omega)
      omega
    · exact z
    · have := Int.mul_le_mul_of_nonneg_left (show 1 ≤ y * k - x * j by omega) (show 0 ≤ m by omega)
      omega
  rw [hz] at e
  omega
/-! ### the walk that finds an inverse -/
structure Ek (n m l r s f : Int) : Prop where
  l0 : 1 ≤ l
  r0 : 0 ≤ r
  lm : l ≤ m
  rm : r ≤ m
  g : Nat.gcd l.natAbs r.natAbs = 1
  el : ∃ k, s * n = l + k * m
  er : ∃ k, f * n = r + k * m
  sz : (0 ≤ s ∧ f ≤ 0 ∧ s * r - f * l = m) ∨ (s ≤ 0 ∧ 0 ≤ f ∧ f * l - s * r = m)
theorem Ek.start {n m : Int} (hm : 1 ≤ m) (g : Nat.gcd n.natAbs m.natAbs = 1) : Ek n m m (n.fmod m) 0 1 := by
  have h1 := Int.fmod_nonneg_of_pos n (show 0 < m by omega)
  have h2 := Int.fmod_lt_of_pos n (show 0 < m by omega)
  have h3 := Int.mul_fdiv_add_fmod n m
  refine ⟨hm, h1, Int.le_refl _, by omega, ?_, ⟨-1, by omega⟩, ⟨n.fdiv m, by grind⟩, .inr ⟨by decide, by decide, by omega⟩⟩
  have e : n.fmod m = n - n.fdiv m * m := by grind
  show Int.gcd m (n.fmod m) = 1
  rw [e, Int.gcd_sub_mul_right_right, Int.gcd_comm]
  exact g
theorem Ek.step {n m l r s f : Int} (h : Ek n m l r s f) (hr : r ≠ 0) : Ek n m r (l - l.fdiv r * r) f (s - l.fdiv r * f) := by
  have r0 := h.r0
  have h1 := Int.fmod_nonneg_of_pos l (show 0 < r by omega)
  have h2 := Int.fmod_lt_of_pos l (show 0 < r by omega)
  have h3 := Int.mul_fdiv_add_fmod l r
  have e : l - l.fdiv r * r = l.fmod r := by grind
  have q0 : 0 ≤ l.fdiv r := by
    rw [Int.fdiv_eq_ediv_of_nonneg _ h.r0]
    exact Int.ediv_nonneg (by have := h.l0; omega) h.r0
  obtain ⟨k1, e1⟩ := h.el
  obtain ⟨k2, e2⟩ := h.er
  have rm := h.rm
  refine ⟨by omega, by omega, h.rm, by omega, ?_, ⟨k2, e2⟩, ⟨k1 - l.fdiv r * k2, by grind⟩, ?_⟩
  · show Int.gcd r (l - l.fdiv r * r) = 1
    rw [Int.gcd_sub_mul_right_right, Int.gcd_comm]
    exact h.g
  · rcases h.sz with ⟨a, b, c⟩ | ⟨a, b, c⟩
    · refine .inr ⟨b, ?_, by grind⟩
      have := Int.mul_nonneg q0 (show 0 ≤ -f by omega)
      grind
    · refine .inl ⟨b, ?_, by grind⟩
      have := Int.mul_nonneg q0 b
      omega
theorem Ek.bounds {n m l r s f : Int} (h : Ek n m l r s f) (hr : r ≠ 0) : f.natAbs ≤ m.natAbs ∧ (l.fdiv r).natAbs ≤ m.natAbs := by
  have l0 := h.l0
  have r0 := h.r0
  have lm := h.lm
  constructor
  · rcases h.sz with ⟨a, b, c⟩ | ⟨a, b, c⟩
    · have h1 := Int.mul_nonneg a r0
      have h2 := Int.mul_le_mul_of_nonneg_left l0 (show 0 ≤ -f by omega)
      grind
    · have h1 := Int.mul_nonneg (show 0 ≤ -s by omega) r0
      have h2 := Int.mul_le_mul_of_nonneg_left l0 b
      grind
  · rw [Int.fdiv_eq_ediv_of_nonneg _ h.r0]
    have := Int.natAbs_ediv_le_natAbs l r
    omega
theorem Ek.done {n m l s f : Int} (h : Ek n m l 0 s f) (hm : 1 ≤ m) : 0 ≤ s.fmod m ∧ s.fmod m < m ∧ ∃ k, n * s.fmod m - 1 = k * m := by
  have g := h.g
  have l0 := h.l0
  have hl : l = 1 := by
    rw [show (0 : Int).natAbs = 0 from rfl, Nat.gcd_zero_right] at g
    omega
  subst hl
  obtain ⟨k, e⟩ := h.el
  refine ⟨Int.fmod_nonneg_of_pos _ (by omega), Int.fmod_lt_of_pos _ (by omega), k - n * s.fdiv m, ?_⟩
  have h3 := Int.mul_fdiv_add_fmod s m
  grind
/-! ### letters -/
def letters : Bool → List Int → List Bool
  | _, [] => []
  | f, r :: t => List.replicate r.toNat f ++ letters (!f) t
structure Rst (l : List Int) : Prop where
  ones : Ones l
/-- pair T / B, as it is seen from low and high, with letters rest still to come -/
def Rep (f : Bool) (rest : List Int) (s : Q4) (T B : Int) : Prop :=
  T = (PQ rest).1 * (if f then s.a else s.c) + (PQ rest).2 * (if f then s.c else s.a) ∧ B = (PQ rest).1 * (if f then s.b else s.d) + (PQ rest).2 * (if f then s.d else s.b)
def apart (s : Q4) (T B : Int) : Int := T * (s.b + s.d) - (s.a + s.c) * B
theorem apart_nil {f : Bool} {s : Q4} {T B : Int} (h : Rep f [] s T B) : apart s T B = 0 := by
  obtain ⟨rfl, rfl⟩ := h
  cases f <;> simp [apart, PQ] <;> grind
theorem apart_eq {f : Bool} {rest : List Int} {s : Q4} {T B : Int} (h : Rep f rest s T B) (hc : s.cr = 1) : apart s T B = if f then (PQ rest).2 - (PQ rest).1 else (PQ rest).1 - (PQ rest).2 := by
  obtain ⟨rfl, rfl⟩ := h
  simp only [Q4.cr] at hc
  cases f <;> simp [apart] <;> grind
theorem apart_cons {f : Bool} {r : Int} {t : List Int} {s : Q4} {T B : Int} (h : Rep f (r :: t) s T B) (hc : s.cr = 1) (ho : Ones (r :: t)) : apart s T B ≠ 0 ∧ decide (apart s T B < 0) = f := by
  rw [apart_eq h hc]
  have := pq_lt ho
  cases f
  · refine ⟨by simp; omega, ?_⟩
    simp
    omega
  · refine ⟨by simp; omega, ?_⟩
    simp
    omega
def go1 (f : Bool) (s : Q4) : Q4 := if f then ⟨s.a, s.b, s.a + s.c, s.b + s.d⟩ else ⟨s.a + s.c, s.b + s.d, s.c, s.d⟩
theorem go1_cr (f : Bool) (s : Q4) : (go1 f s).cr = s.cr := by
  cases f <;> simp [go1, Q4.cr] <;> grind
theorem rep_dec {f : Bool} {r : Int} {t : List Int} {s : Q4} {T B : Int} (h : Rep f (r :: t) s T B) : Rep f ((r - 1) :: t) (go1 f s) T B := by
  obtain ⟨rfl, rfl⟩ := h
  cases f <;> simp [go1, Rep, PQ] <;> grind
theorem rep_zero {f : Bool} {t : List Int} {s : Q4} {T B : Int} (h : Rep f (0 :: t) s T B) : Rep (!f) t s T B := by
  obtain ⟨rfl, rfl⟩ := h
  cases f <;> simp [Rep, PQ] <;> grind
theorem letters_dec {f : Bool} {r : Int} {t : List Int} (hr : 1 ≤ r) : letters f (r :: t) = f :: letters f ((r - 1) :: t) := by
  show List.replicate r.toNat f ++ _ = f :: (List.replicate (r - 1).toNat f ++ _)
  rw [show r.toNat = (r - 1).toNat + 1 by omega, List.replicate_succ, List.cons_append]
theorem letters_zero {f : Bool} {t : List Int} : letters f (0 :: t) = letters (!f) t := rfl
theorem sum_nn : ∀ {l : List Int}, (∀ x ∈ l, 0 ≤ x) → 0 ≤ l.sum
  | [], _ => by decide
  | r :: t, h => by
    have := sum_nn (l := t) fun x hx => h x (List.mem_cons_of_mem _ hx)
    have := h r List.mem_cons_self
    rw [List.sum_cons]
    omega
/-- the walk by letters, at a turn -/
structure Wk (runs : List Int) (T B : Int) (s : Q4) (fo : List Bool) (i : Nat) : Prop where
  ex : ∃ (f : Bool) (rest : List Int), Ones rest ∧ Rep f rest s T B ∧ fo ++ letters f rest = letters true runs ∧ rest.sum + i ≤ 60
  cr : s.cr = 1
theorem Wk.last {runs : List Int} {T B : Int} {s : Q4} {fo : List Bool} (h : Wk runs T B s fo 61) : False := by
  obtain ⟨f, rest, ho, _, _, hs⟩ := h.ex
  have := sum_nn ho.nn
  omega
theorem Wk.turn {runs : List Int} {T B : Int} {s : Q4} {fo : List Bool} {i : Nat} (h : Wk runs T B s fo i) : (apart s T B = 0 ∧ fo = letters true runs) ∨ (apart s T B ≠ 0 ∧ Wk runs T B (go1 (decide (apart s T B < 0)) s) (fo ++ [decide (apart s T B < 0)]) (i + 1)) := by
  obtain ⟨f, rest, ho, hr, he, hs⟩ := h.ex
  cases rest with
  | nil => exact .inl ⟨apart_nil hr, by rw [← he]; simp [letters]⟩
  | cons r t =>
    obtain ⟨h1, h2⟩ := apart_cons hr h.cr ho
    refine .inr ⟨h1, ?_⟩
    rw [h2]
    refine ⟨?_, by rw [go1_cr]; exact h.cr⟩
    have hh := ho.head
    have hd := rep_dec hr
    rw [letters_dec hh] at he
    rw [List.sum_cons] at hs
    by_cases z : r = 1
    · subst z
      refine ⟨!f, t, ho.tail, rep_zero hd, ?_, by omega⟩
      rw [← he]
      show _ = fo ++ f :: letters f (0 :: t)
      rw [letters_zero]
      simp
    · refine ⟨f, (r - 1) :: t, ?_, hd, ?_, by rw [List.sum_cons]; omega⟩
      · intro x hx
        rcases List.mem_cons.mp hx with rfl | hx
        · omega
        · exact ho.tail x hx
      · rw [← he]
        simp
theorem Wk.start {w : Int} {l : List Int} {s : Q4} (h : Led w l s) (hl : Runs l) (hs : l.sum ≤ 60) : Wk l (s.a + s.c) (s.b + s.d) ⟨w, 1, w + 1, 1⟩ [] 0 := by
  refine ⟨?_, by simp only [Q4.cr]; omega⟩
  have hr : Rep true l ⟨w, 1, w + 1, 1⟩ (s.a + s.c) (s.b + s.d) := ⟨by rw [h.top]; simp; grind, by rw [h.bot]; simp⟩
  cases l with
  | nil => exact ⟨true, [], (fun x hx => by cases hx), hr, rfl, by simp⟩
  | cons r t =>
    obtain ⟨h1, h2⟩ := hl.first r t rfl
    by_cases z : r = 0
    · subst z
      refine ⟨false, t, h2, rep_zero hr, rfl, ?_⟩
      rw [List.sum_cons] at hs
      omega
    · refine ⟨true, r :: t, ?_, hr, rfl, by omega⟩
      intro x hx
      rcases List.mem_cons.mp hx with rfl | hx
      · omega
      · exact h2 x hx
theorem letters_len : ∀ {f : Bool} {l : List Int}, (∀ x ∈ l, 0 ≤ x) → ((letters f l).length : Int) = l.sum
  | _, [], _ => rfl
  | f, r :: t, h => by
    have ih := letters_len (f := !f) (l := t) fun x hx => h x (List.mem_cons_of_mem _ hx)
    have := h r List.mem_cons_self
    show ((List.replicate r.toNat f ++ letters (!f) t).length : Int) = _
    rw [List.length_append, List.length_replicate, List.sum_cons]
    omega
theorem mem_le_sum : ∀ {l : List Int} {x : Int}, (∀ x ∈ l, 0 ≤ x) → x ∈ l → x ≤ l.sum
  | r :: t, x, h, hx => by
    have h1 := h r List.mem_cons_self
    have h2 : ∀ x ∈ t, 0 ≤ x := fun x hx => h x (List.mem_cons_of_mem _ hx)
    have h3 := sum_nn h2
    rw [List.sum_cons]
    rcases List.mem_cons.mp hx with rfl | hx
    · omega
    · have := mem_le_sum h2 hx
      omega
theorem Q4.Sm.mid {s : Q4} {n : Nat} (h : s.Sm n) : (s.a + s.c).natAbs < 2 ^ (n + 1) ∧ (s.b + s.d).natAbs < 2 ^ (n + 1) := ⟨nb_add h.a h.c, nb_add h.b h.d⟩
theorem go1_sm {s : Q4} {n : Nat} (f : Bool) (h : s.Sm n) : (go1 f s).Sm (n + 1) := by
  obtain ⟨h1, h2⟩ := h.mid
  cases f
  · exact ⟨h1, h2, nb_le h.c, nb_le h.d⟩
  · exact ⟨nb_le h.a, nb_le h.b, h1, h2⟩
theorem di_le {a b : Int} (h : b ≠ 0) : (Rat.divInt a b).num.natAbs ≤ a.natAbs ∧ (Rat.divInt a b).den ≤ b.natAbs := by
  constructor
  · rw [Rat.num_divInt]
    have : (b.sign * a / ((b.gcd a : Nat) : Int)).natAbs ≤ (b.sign * a).natAbs := Int.natAbs_ediv_le_natAbs _ _
    have h2 : (b.sign * a).natAbs = a.natAbs := by rw [Int.natAbs_mul, Int.natAbs_sign, if_neg h]; omega
    omega
  · rw [Rat.den_divInt, if_neg h]
    exact Nat.div_le_self _ _
end Sp
end
section
set_option Elab.async false
set_option linter.all false
set_option maxRecDepth 100000
set_option maxHeartbeats 4000000
namespace Sp
open PySem PySem.Spec PyProof.Rows L2
section
variable {X : Cx}
/-- xs[i] as it is read ahead of xs[i] op= e -/
theorem get_list : PGet X (rIxL X.K) := by
  intro pins s σ H x y v u Q I rx ry h
  obtain ⟨p, xs, i, z, rfl, rfl, hq, he, q⟩ := h
  cases rx
  obtain ⟨t, rfl⟩ := ry
  obtain ⟨its, r, pl, hz⟩ := I.list hq
  obtain ⟨j, h1, h2, h3, h4, h5⟩ := atI_get he
  obtain ⟨w, ew, rw'⟩ := r.get h2
  have hl := r.length
  have hn := line63
  have fin : EP X pins σ Q w s := ⟨z, H, I, rw', q⟩
  by_cases h0 : 0 ≤ i
  · have hj : i.toNat = j := by
      rw [seqIndex_of h0 h5] at h1
      exact Option.some.inj h1
    exact wpAny_getItem_list pl.isList h0 (by omega) (by rw [hj]; simpa using ew) fin
  · have hj : (i + (its.toArray.size : Int)).toNat = j := by
      rw [seqIndex_neg (by omega) h4] at h1
      rw [List.size_toArray, ← hl]
      exact Option.some.inj h1
    exact wpAny_getItem_list_neg pl.isList (by omega) (by rw [List.size_toArray] <;> omega) (by omega) (by rw [hj]; simpa using ew) fin
end
/-! ### f(k = v, ..) -/
section
variable {X : Cx} {CX : CXT} {k : Nat} {f : Addr} {fd : FuncData} {ps ks : List Str} {sp : Sp} {E : XK} {g : List Value → List Value → List Value} {gV : List V → List V → List V}
theorem pe_callK0 {x : Str} {p pos : Pos} {kws : List Keyword} {tk : TA} (F : FnOk X.prog X.w X.K X.mg X.base CX k f fd ps sp) (hr : Room k X.A) (hg : Gl X x) (hm : X.mg x = some (.ref f)) (hk : PySem.W.keepIn X.K (.ref f) = true) (hb : KBinds X.K fd ps ks g gV) (hx : Passes CX X E)
    (hkw : PK X kws tk) (hall : (backToKw pos (keywordEach kws X.env)).all (·.1.isSome) = true := by rfl) (hks : (backToKw pos (keywordEach kws X.env)).filterMap (·.1) = ks := by rfl)
    (hdb : (x == ("__debug__" : Str)) = false := by decide) (hpl : ((backTo pos (starEach [] X.env)).any (·.1) || (backToKw pos (keywordEach kws X.env)).any (·.1.isNone)) = false := by rfl) :
    PE X (.Call (.Name x p) [] kws pos) (fun σ H Q => tk σ H fun zs H2 => sp (gV [] zs) H2 Q E) := by
  refine ⟨fun pins s σ H Q I h => ?_⟩
  refine wpAny_Call_Name_kw (ld_glob I hg hm ?_ hdb)
  refine PySem.W.callWith_KW0 (first := []) (h₀ := X.base) I.ok.mod.kin hk hall (thn (hkw.run pos pins _ σ H _ I h) fun ws s2 ⟨zs, H2, I2, rz, q2⟩ => ⟨I2.kIn, ?_⟩) hpl
  rw [hks]
  exact run_fnk (us := []) (vs := []) F hr hb hx I2 .nil rz q2
/-- the keywords' values stand for the parameters by pick -/
def gk (n : Nat) (pick : List Nat) {α : Type} (us ws : List α) : List α := if us.length = 0 ∧ ws.length = n then pick.filterMap fun i => ws[i]? else []
theorem vals_pick {vs : List V} {us : List Value} (r : Vals vs us) : ∀ l : List Nat, Vals (l.filterMap fun i => vs[i]?) (l.filterMap fun i => us[i]?)
  | [] => .nil
  | i :: l => by
    have hl := r.length
    by_cases h : i < vs.length
    · obtain ⟨w, e, rw'⟩ := r.get (List.getElem?_eq_getElem h)
      rw [List.filterMap_cons, List.filterMap_cons, e, List.getElem?_eq_getElem h]
      exact .cons rw' (vals_pick r l)
    · rw [List.filterMap_cons, List.filterMap_cons, List.getElem?_eq_none (by omega), List.getElem?_eq_none (by omega)]
      exact vals_pick r l
theorem gk_rel {n : Nat} {pick : List Nat} {vs : List V} {us : List Value} {zs : List V} {ws : List Value} (r : Vals vs us) (q : Vals zs ws) : Vals (gk n pick vs zs) (gk n pick us ws) := by
  unfold gk
  rw [r.length, q.length]
  split
  · exact vals_pick q pick
  · exact .nil
structure GDK (P : Program) (w : World) (K : PySem.W.Frag) (mg : Str → Option Value) (base : Heap) (CX : CXT) (k : Nat) (x : Str) (ks : List Str) (n : Nat) (pick : List Nat) (sp : Sp) : Prop where
  ex : ∃ (f : Addr) (fd : FuncData) (ps : List Str), FnOk P w K mg base CX k f fd ps sp ∧ mg x = some (.ref f) ∧ PySem.W.keepIn K (.ref f) = true ∧ KBinds K fd ps ks (gk n pick) (gk n pick)
theorem pe_gdk {x : Str} {p pos : Pos} {kws : List Keyword} {tk : TA} {n : Nat} {pick : List Nat} (G : GDK X.prog X.w X.K X.mg X.base CX k x ks n pick sp) (hr : Room k X.A) (hg : Gl X x) (hx : Passes CX X E)
    (hkw : PK X kws tk) (hall : (backToKw pos (keywordEach kws X.env)).all (·.1.isSome) = true := by rfl) (hks : (backToKw pos (keywordEach kws X.env)).filterMap (·.1) = ks := by rfl)
    (hdb : (x == ("__debug__" : Str)) = false := by decide) (hpl : ((backTo pos (starEach [] X.env)).any (·.1) || (backToKw pos (keywordEach kws X.env)).any (·.1.isNone)) = false := by rfl) :
    PE X (.Call (.Name x p) [] kws pos) (fun σ H Q => tk σ H fun zs H2 => sp (gk n pick [] zs) H2 Q E) := by
  obtain ⟨f, fd, ps, F, hm, hk, hb⟩ := G.ex
  exact pe_callK0 F hr hg hm hk hb hx hkw hall hks hdb hpl
end
section
variable {K : PySem.W.Frag} {f : Addr} {fd : FuncData} {x qual : Str} {params : Arguments} {body : List Stmt} {scope : Scope} {ps : List Str}
theorem gk_1 {k1 : Str} (F : FunD K x qual params body scope [] [] f fd) (hl : ps.length = 1)
    (h : ∀ (kV doc pm : Value) (an : Option Addr) (cdv ct u : Value), bindArgs (PySem.W.fnOf x qual params body scope .none kV doc pm an cdv ct) ⟨[], [(k1, u)]⟩ = pure (ps.zip [u])) : KBinds K fd ps [k1] (gk 1 [0]) (gk 1 [0]) := by
  refine ⟨fun s us ws hK hlen => ?_, fun {vs us zs ws} r q => gk_rel r q⟩
  obtain ⟨oc, od, dV, kV, doc, pm, an, cdv, ct, osl, rfl, lk, hcd, hD, hKw⟩ := F.ex
  rw [hl] at hlen
  unfold gk at hlen ⊢
  by_cases hc : us.length = 0 ∧ ws.length = 1
  · rw [if_pos hc]
    match us, ws, hc with
    | [], [u], _ =>
      rcases hD with ⟨_, rfl⟩ | ⟨e, _⟩
      · exact .of_eq (h kV doc pm an cdv ct u)
      · exact absurd rfl e
  · rw [if_neg hc] at hlen
    cases hlen
theorem gk_2 {k1 k2 : Str} {i j : Nat} (F : FunD K x qual params body scope [] [] f fd) (hl : ps.length = 2)
    (h : ∀ (kV doc pm : Value) (an : Option Addr) (cdv ct u v : Value), bindArgs (PySem.W.fnOf x qual params body scope .none kV doc pm an cdv ct) ⟨[], [(k1, u), (k2, v)]⟩ = pure (ps.zip ([i, j].filterMap fun i => [u, v][i]?))) : KBinds K fd ps [k1, k2] (gk 2 [i, j]) (gk 2 [i, j]) := by
  refine ⟨fun s us ws hK hlen => ?_, fun {vs us zs ws} r q => gk_rel r q⟩
  obtain ⟨oc, od, dV, kV, doc, pm, an, cdv, ct, osl, rfl, lk, hcd, hD, hKw⟩ := F.ex
  rw [hl] at hlen
  unfold gk at hlen ⊢
  by_cases hc : us.length = 0 ∧ ws.length = 2
  · rw [if_pos hc]
    match us, ws, hc with
    | [], [u, v], _ =>
      rcases hD with ⟨_, rfl⟩ | ⟨e, _⟩
      · exact .of_eq (h kV doc pm an cdv ct u v)
      · exact absurd rfl e
  · rw [if_neg hc] at hlen
    cases hlen
end
theorem mono_ne {i : Nat} {v : V} : ∀ (σ : L2.St) (H : Hp) (Q Q' : Bool → Hp → Prop), (∀ (b : Bool) (H1 : Hp), Q b H1 → Q' b H1) → tTest (tOp rNe (tVar i) (tC v)) σ H Q → tTest (tOp rNe (tVar i) (tC v)) σ H Q' := by
  rintro σ H Q Q' hq ⟨x, e, sc, k, hk, h⟩
  exact ⟨x, e, sc, k, hk, hq _ _ h⟩
theorem ixN_zero (n : Nat) : ixN (n + 1) 0 = some 0 := by
  unfold ixN
  rw [if_pos (by decide), if_pos (by omega)]
  rfl
theorem ixN_last (n : Nat) : ixN (n + 1) (-1) = some n := by
  unfold ixN
  rw [if_neg (by decide), if_pos (by omega)]
  congr 1
  omega
theorem eqv_ints : ∀ a b : List Int, PyData.eqv (.list (a.map PyData.int)) (.list (b.map PyData.int)) = decide (a = b)
  | [], [] => rfl
  | [], _ :: _ => rfl
  | _ :: _, [] => rfl
  | x :: a, y :: b => by
    have h := eqv_ints a b
    show ((x == y) && PyData.eqv (.list (a.map PyData.int)) (.list (b.map PyData.int))) = _
    rw [h]
    by_cases e : x = y <;> by_cases e' : a = b <;> simp [e, e']
theorem eqv_intsT (a b : List Int) : PyData.eqv (.tuple (a.map PyData.int)) (.tuple (b.map PyData.int)) = decide (a = b) := eqv_ints a b
theorem for_enum {K : PySem.W.Frag} {a : Addr} {xs : List V} {g : TG} {tb : TS} {D : Ends} {σ : L2.St} {H : Hp} (Pv : Nat → L2.St → Hp → Prop) (h0 : Pv 0 σ H) (hl : ∀ i σ H, i ≤ xs.length → Pv i σ H → SqL K H a xs)
    (hs : ∀ i x σ H T, xs[i]? = some x → Pv i σ H → H T = none → g (.ref T) σ (upd H T (.tup [.int (i : Nat), x])) fun σ2 H2 => tb { D with nx := Pv (i + 1), ct := Pv (i + 1), bk := D.nx } σ2 H2) (hd : ∀ σ H, Pv xs.length σ H → D.nx σ H) :
    ∃ W : Nat → Nat → L2.St → Hp → Prop, (∃ m, W 0 m σ H) ∧ ∀ i m σ H, W i m σ H →
      ((Ite K a).stop i H ∧ D.nx σ H) ∨ ((Ite K a).go i H ∧ ∃ N : L2.St → Hp → Prop, (∀ σ' H', N σ' H' → ∃ m', m' < m ∧ W (i + 1) m' σ' H') ∧ ∀ x H', (Ite K a).yld i H x H' → g x σ H' fun σ2 H2 => tb { D with nx := N, ct := N, bk := D.nx } σ2 H2) := by
  refine ⟨fun i m σ H => m = xs.length - i ∧ i ≤ xs.length ∧ Pv i σ H, ⟨xs.length, by simp, Nat.zero_le _, h0⟩, ?_⟩
  rintro i m σ H ⟨rfl, hi, p⟩
  have q := hl i σ H hi p
  by_cases hlt : i < xs.length
  · refine .inr ⟨⟨xs, xs[i], q, by simp [hlt]⟩, Pv (i + 1), fun σ' H' p' => ⟨xs.length - (i + 1), by omega, rfl, hlt, p'⟩, fun x H' y => ?_⟩
    obtain ⟨T, z, rfl, hT, rfl, hz⟩ := y
    exact hs i z σ H T (hz xs q) p hT
  · have e : i = xs.length := by omega
    subst e
    exact .inl ⟨⟨xs, q, Nat.le_refl _⟩, hd σ H p⟩
theorem in3 (i : Nat) (h : i < 5) : inV (V.int (i : Int)) [.int 0, .int 2, .int 4] = decide (i % 2 = 0) := by
  match i, h with
  | 0, _ => rfl
  | 1, _ => rfl
  | 2, _ => rfl
  | 3, _ => rfl
  | 4, _ => rfl
theorem dp_bls {K : PySem.W.Frag} {H : Hp} (bs : List Bool) : DpAll K H (bs.map V.bl) (bs.map PyData.bool) := by
  induction bs with
  | nil => exact .nil
  | cons c cs ih => exact .cons (.bl c) ih
theorem shaped_bls (bs : List Bool) : SeqAt.shaped (.list (bs.map PyData.bool)) = true := by
  induction bs with
  | nil => rfl
  | cons c cs ih => exact ih
theorem eqr {d : PyData} (h : SeqAt.shaped d = true) : PyData.eqv d d = true := SeqAt.eqv_refl d (SeqAt.canLay_of_shaped h)
/-- a word at which the reading stops -/
structure Bx (p : Prop) : Prop where
  out : p
theorem in11 (x : Int) : inV (V.int x) [.int 1, .int (-1)] = decide (x.natAbs = 1) := by
  show ((decide ((1 : Int) = x)) || ((decide ((-1 : Int) = x)) || false)) = _
  rw [Bool.or_false]
  by_cases h : x = 1
  · subst h
    rfl
  · by_cases h' : x = -1
    · subst h'
      rfl
    · rw [decide_eq_false (fun e => h e.symm), decide_eq_false (fun e => h' e.symm), decide_eq_false (by omega)]
      rfl
end Sp
end
section
set_option Elab.async false
set_option linter.all false
set_option maxRecDepth 100000
set_option maxHeartbeats 4000000
/-! ### reading from the left -/
local macro_rules | `(tactic| walk_at "leaf") => `(tactic| first | rfl | assumption | exact True.intro | exact L2.upd_same | exact L2.ClsV.ty _ | exact L2.ClsV.own _ | decide | exact of_decide_eq_true rfl | fail)
local macro_rules | `(tactic| walk_at "rd1") => `(tactic| first
  | apply Exists.intro
  | (refine And.intro ?lf ?_; (case lf => walk_at "leaf"))
  | fail)
local macro_rules | `(tactic| walk_at "rd") => `(tactic| repeat (walk_at "rd1"))
namespace Sp
open PySem PySem.Spec PyProof.Rows L2
theorem iteB {b : Bool} {A B : Prop} (h1 : b = true → A) (h2 : b = false → B) : if b = true then A else B := by
  cases b
  · rw [if_neg (by simp)]
    exact h2 rfl
  · rw [if_pos rfl]
    exact h1 rfl
theorem iteP {c A B : Prop} {d : Decidable c} (h1 : c → A) (h2 : ¬ c → B) : @ite Prop c d A B := by
  by_cases h : c
  · rw [if_pos h]
    exact h1 h
  · rw [if_neg h]
    exact h2 h
/-- what the reading may leave open (no loop's invariant) -/
class Good (α : Type) : Prop where
  ok : True
instance : Good Nat := ⟨trivial⟩
instance : Good Int := ⟨trivial⟩
instance : Good V := ⟨trivial⟩
instance : Good Bool := ⟨trivial⟩
instance : Good Str := ⟨trivial⟩
instance : Good String := ⟨trivial⟩
instance : Good Value := ⟨trivial⟩
instance : Good Rat := ⟨trivial⟩
instance : Good PyData := ⟨trivial⟩
instance : Good HO := ⟨trivial⟩
instance : Good Obj := ⟨trivial⟩
instance {α : Type} : Good (List α) := ⟨trivial⟩
instance {α : Type} : Good (Option α) := ⟨trivial⟩
theorem exI {α : Type} [Good α] {p : α → Prop} (w : α) (h : p w) : ∃ x, p x := ⟨w, h⟩
/-! ### the text -/
def topS (i : Nat) : Stmt := PySem.Challenge.pw_spiralsays_k07_fractions_by_their_letter.main.body.getD i (.Pass ⟨0, 0, 0, 0⟩)
abbrev cR (K : PySem.W.Frag) : Addr := He.ga K "Ratio"
abbrev cX (K : PySem.W.Frag) (x : Str) : Addr := He.ga K x
/-! ### what stands in the heap -/
def IsR (K : PySem.W.Frag) (H : Hp) (p : Addr) (q : Rat) : Prop := ∃ dx, H p = some (.ins (cR K) dx [("top", .int q.num), ("bottom", .int (q.den : Nat))])
/-- a ratio as told: a Ratio or an int -/
def RV (K : PySem.W.Frag) (H : Hp) (v : V) (q : Rat) : Prop := (∃ p, v = .ref p ∧ IsR K H p q) ∨ ∃ i : Int, v = .int i ∧ q = (i : Rat)
theorem IsR.ext {K : PySem.W.Frag} {H H' : Hp} {p : Addr} {q : Rat} (h : IsR K H p q) (e : Same H H') : IsR K H' p q := let ⟨dx, h⟩ := h; ⟨dx, e _ _ h⟩
theorem RV.ext {K : PySem.W.Frag} {H H' : Hp} {v : V} {q : Rat} (h : RV K H v q) (e : Same H H') : RV K H' v q := h.elim (fun ⟨p, a, b⟩ => .inl ⟨p, a, b.ext e⟩) .inr
/-- what isinstance finds of a type t -/
structure Kt (K : PySem.W.Frag) (t : Value) : Prop where
  int : PySem.W.kitOne K t (.type "int") = some (decide (t = .type "int") || decide (t = .type "bool"))
  bool : PySem.W.kitOne K t (.type "bool") = some (decide (t = .type "bool"))
  R : PySem.W.kitOne K t (.ref (cR K)) = some (decide (t = .ref (cR K)))
  tup : PySem.W.kitOne K t (.type "tuple") = some (decide (t = .type "tuple"))
/-- an own class whose instances have the attributes fl -/
structure CF (K : PySem.W.Frag) (C : Addr) (fl : List Str) : Prop where
  cl : Cls K C
  ha : PySem.W.findIn K (.ref C) "__class__" = some (some (.builtin "object.__class__"))
  hn : PySem.W.specialIn K (.builtin "object.__class__") "__get__" = some (some (.builtin "getset_descriptor.__get__"))
  htk : PySem.W.takesIn K (.builtin "object.__class__") = some true
  hm : PySem.W.mroIn K C (.type "object") = some true
  no : ∀ f ∈ fl, NoAttr K C f
  kt : Kt K (.ref C)
/-- what all leans on of the text -/
structure G0 (K : PySem.W.Frag) (mg : Str → Option Value) : Prop where
  nm : Nm mg
  sum : mg "sum" = none
  gcd : mg "gcd" = some (.builtin "math.gcd")
  R : CF K (cR K) ["top", "bottom"]
  mgRatio : mg "Ratio" = some (.ref (cR K))
  kInt : Kt K (.type "int")
  kBool : Kt K (.type "bool")
  kNone : Kt K (.type "NoneType")
  kStr : Kt K (.type "str")
  kTup : Kt K (.type "tuple")
  kLst : Kt K (.type "list")
/-- a value's type, as isinstance finds it -/
def Ty (K : PySem.W.Frag) (H : Hp) (v : V) (t : Value) : Prop := TyX K H v t ∧ Kt K t
section
variable {K : PySem.W.Frag} {mg : Str → Option Value} {H : Hp}
theorem CF.ty {C : Addr} {fl : List Str} (c : CF K C fl) {p dx : Addr} {fs : List (Str × V)} (h : H p = some (.ins C dx fs)) : Ty K H (.ref p) (.ref C) := ⟨.base (.ins h c.cl c.ha c.hn c.htk c.hm), c.kt⟩
theorem G0.tInt (G : G0 K mg) (i : Int) : Ty K H (.int i) (.type "int") := ⟨.base (.int i), G.kInt⟩
theorem G0.tR (G : G0 K mg) {p : Addr} {q : Rat} (h : IsR K H p q) : Ty K H (.ref p) (.ref (cR K)) := let ⟨_, h⟩ := h; G.R.ty h
theorem G0.tTup (G : G0 K mg) {p : Addr} {xs : List V} (h : H p = some (.tup xs)) : Ty K H (.ref p) (.type "tuple") := ⟨.base (.tup h), G.kTup⟩
theorem G0.tRV (G : G0 K mg) {v : V} {q : Rat} (h : RV K H v q) : ∃ t, Ty K H v t ∧ (decide (t = .ref (cR K)) || decide (t = .type "int")) = true := by
  rcases h with ⟨p, rfl, h⟩ | ⟨i, rfl, _⟩
  · exact ⟨_, G.tR h, by simp⟩
  · exact ⟨_, G.tInt i, by simp⟩
end
/-! ### promises -/
/-- the error at C with its field -/
def Err (f : Str) (v : V) (C : Addr) (H : Hp) (E : XK) : Prop := ∀ d H', Same H H' → H d = none → H' d = some (.xd [(f, v)]) → E (.ref C) (some d) H'
theorem Err.ext {f : Str} {v : V} {C : Addr} {H H1 : Hp} {E : XK} (h : Err f v C H E) (s : Same H H1) : Err f v C H1 E := fun d H' s' n e => h d H' (s.trans s') (by
  cases q : H d with
  | none => rfl
  | some o => rw [s _ _ q] at n; cases n) e
/-- no ratio -/
def NR (_K : PySem.W.Frag) (H : Hp) (v : V) : Prop := v = .non ∨ (∃ b, v = .bl b) ∨ (∃ z, v = .str z) ∨ (∃ p xs, v = .ref p ∧ H p = some (.tup xs)) ∨ ∃ p xs, v = .ref p ∧ H p = some (.lst xs)
theorem NR.extN {K : PySem.W.Frag} {H H' : Hp} {v : V} (h : NR K H v) (e : LamX.ExtN H H') : NR K H' v := by
  rcases h with h | h | h | ⟨p, xs, h1, h2⟩ | ⟨p, xs, h1, h2⟩
  · exact .inl h
  · exact .inr (.inl h)
  · exact .inr (.inr (.inl h))
  · exact .inr (.inr (.inr (.inl ⟨p, xs, h1, e _ _ h2 (fun _ z => by cases z)⟩)))
  · exact .inr (.inr (.inr (.inr ⟨p, xs, h1, e _ _ h2 (fun _ z => by cases z)⟩)))
theorem NR.ext {K : PySem.W.Frag} {H H' : Hp} {v : V} (h : NR K H v) (e : Same H H') : NR K H' v := h.extN (LamX.ExtN.of e)
theorem NR.ty {K : PySem.W.Frag} {mg : Str → Option Value} {H : Hp} {v : V} (h : NR K H v) (G : G0 K mg) : ∃ t, Ty K H v t ∧ (decide (t = .ref (cR K)) || decide (t = .type "int")) = false := by
  rcases h with rfl | ⟨b, rfl⟩ | ⟨z, rfl⟩ | ⟨p, xs, rfl, h⟩ | ⟨p, xs, rfl, h⟩
  · exact ⟨_, ⟨.base .non, G.kNone⟩, by simp⟩
  · exact ⟨_, ⟨.base (.bl b), G.kBool⟩, by simp⟩
  · exact ⟨_, ⟨.base (.str z), G.kStr⟩, by simp⟩
  · exact ⟨_, ⟨.base (.tup h), G.kTup⟩, by simp⟩
  · exact ⟨_, ⟨.base (.lst h), G.kLst⟩, by simp⟩
def spIsInt (K : PySem.W.Frag) : Sp := fun vs H Q _ => ∃ v t, vs = [v] ∧ Ty K H v t ∧ Q (.bl (decide (t = .type "int"))) H
def spIsRat (K : PySem.W.Frag) : Sp := fun vs H Q _ => ∃ v t, vs = [v] ∧ Ty K H v t ∧ Q (.bl (decide (t = .ref (cR K)) || decide (t = .type "int"))) H
def spInitR (K : PySem.W.Frag) : Sp := fun vs H Q _ => ∃ (a dx : Addr) (t b : Int), vs = [.ref a, .int t, .int b] ∧ H a = some (.ins (cR K) dx []) ∧ b ≠ 0 ∧ t.natAbs < 2 ^ 3900 ∧ b.natAbs < 2 ^ 3900 ∧
  ∀ H', (∀ c o, c ≠ a → H c = some o → H' c = some o) → H' a = some (.ins (cR K) dx [("top", .int (Rat.divInt t b).num), ("bottom", .int ((Rat.divInt t b).den : Nat))]) → Q .non H'
def spOf (K : PySem.W.Frag) : Sp := fun vs H Q _ => ∃ v q, vs = [v] ∧ RV K H v q ∧ Sz q 3900 ∧ ∀ p H', Same H H' → IsR K H' p q → Q (.ref p) H'
def spNeed (K : PySem.W.Frag) : Sp := fun vs H Q E => ∃ v pt, vs = [v, pt] ∧ ((∃ q, RV K H v q ∧ Sz q 3900 ∧ ∀ p H', Same H H' → IsR K H' p q → Q (.ref p) H') ∨ (NR K H v ∧ Err "part" pt (cX K "BadNumber") H E))
def spBelow (K : PySem.W.Frag) : Sp := fun vs H Q _ => ∃ a q, vs = [.ref a] ∧ IsR K H a q ∧ Sz q 3900 ∧ Q (.int (q.num.fdiv (q.den : Nat))) H
def spWhole (K : PySem.W.Frag) : Sp := fun vs H Q _ => ∃ a q, vs = [.ref a] ∧ IsR K H a q ∧ Q (.bl (decide (((q.den : Nat) : Int) = 1))) H
def spInv : Sp := fun vs H Q _ => ∃ (n m : Int), vs = [.int n, .int m] ∧ 1 ≤ m ∧ m.natAbs < 2 ^ 1900 ∧ Nat.gcd n.natAbs m.natAbs = 1 ∧ ∀ s H', Same H H' → 0 ≤ s → s < m → (∃ k, n * s - 1 = k * m) → Q (.int s) H'
def spMed (K : PySem.W.Frag) : Sp := fun vs H Q E => ∃ u v, vs = [u, v] ∧
  ((∃ q1 q2, RV K H u q1 ∧ RV K H v q2 ∧ Sz q1 1900 ∧ Sz q2 1900 ∧ ∀ p H', Same H H' → IsR K H' p (Rat.divInt (q1.num + q2.num) ((q1.den : Nat) + (q2.den : Nat))) → Q (.ref p) H') ∨
   (NR K H u ∧ Err "part" (.str "one") (cX K "BadNumber") H E) ∨ (∃ q1, RV K H u q1 ∧ Sz q1 1900 ∧ NR K H v ∧ Err "part" (.str "other") (cX K "BadNumber") H E))
def qnear (q1 q2 : Rat) : Bool := decide ((q1.num * (q2.den : Nat) - q2.num * (q1.den : Nat)).natAbs = 1)
def spNear (K : PySem.W.Frag) : Sp := fun vs H Q E => ∃ u v, vs = [u, v] ∧
  ((∃ q1 q2, RV K H u q1 ∧ RV K H v q2 ∧ Sz q1 1900 ∧ Sz q2 1900 ∧ ∀ H', Same H H' → Q (.bl (qnear q1 q2)) H') ∨
   (NR K H u ∧ Err "part" (.str "one") (cX K "BadNumber") H E) ∨ (∃ q1, RV K H u q1 ∧ Sz q1 1900 ∧ NR K H v ∧ Err "part" (.str "other") (cX K "BadNumber") H E))
def spWh (K : PySem.W.Frag) : Sp := fun vs H Q E => ∃ v, vs = [v] ∧ ((∃ q, RV K H v q ∧ Sz q 3900 ∧ ∀ H', Same H H' → Q (.int (q.num.fdiv (q.den : Nat))) H') ∨ (NR K H v ∧ Err "part" (.str "ratio") (cX K "BadNumber") H E))
def spPar (K : PySem.W.Frag) : Sp := fun vs H Q E => ∃ v, vs = [v] ∧
  ((∃ q, RV K H v q ∧ Sz q 1800 ∧ (((q.den : Nat) : Int) = 1 → ∀ p H', Same H H' → H' p = some (.tup [.non, .non]) → Q (.ref p) H') ∧
      (((q.den : Nat) : Int) ≠ 1 → ∀ p p1 p2 H' (a b : Int), Same H H' → H' p = some (.tup [.ref p1, .ref p2]) → IsR K H' p1 (Rat.divInt a b) → IsR K H' p2 (Rat.divInt (q.num - a) ((q.den : Nat) - b)) → 0 ≤ b → b < (q.den : Nat) → q.num * b - 1 = a * (q.den : Nat) → Q (.ref p) H')) ∨
   (NR K H v ∧ Err "part" (.str "ratio") (cX K "BadNumber") H E))
def fin (rs : List Int) : List Int := if decL (dec0 (bump rs)) = [0] then [] else decL (dec0 (bump rs))
def spRuns (K : PySem.W.Frag) : Sp := fun vs H Q E => ∃ v, vs = [v] ∧
  ((∃ q, RV K H v q ∧ Sz q 1800 ∧ (((q.den : Nat) : Int) = 1 → Err "what" (.str "whole") (cX K "Unlike") H E) ∧
      (((q.den : Nat) : Int) ≠ 1 → ∃ rs, rs ≠ [] ∧ Ones rs ∧ rs.length ≤ 1000 ∧ PQ rs = (((q.den : Nat) : Int), q.num.fmod (q.den : Nat)) ∧ ∀ p H', Same H H' → H' p = some (.tup ((fin rs).map V.int)) → Q (.ref p) H')) ∨
   (NR K H v ∧ Err "part" (.str "ratio") (cX K "BadNumber") H E))
/-- a new instance: what its __init__ leaves -/
theorem same_new {H H' : Hp} {x dx C : Addr} (nx : H x = none) (nd : H dx = none) (k : ∀ c o, c ≠ x → (upd (upd H dx (.own x)) x (.ins C dx [])) c = some o → H' c = some o) : Same H H' := fun b o e =>
  k b o (ne_of_none e nx) (by rw [upd_ne (ne_of_none e nx), upd_ne (ne_of_none e nd)]; exact e)
theorem makeR {K : PySem.W.Frag} {H : Hp} {t b : Int} {Q : VK} {E : XK} (hb : b ≠ 0) (h1 : t.natAbs < 2 ^ 3900) (h2 : b.natAbs < 2 ^ 3900) (h : ∀ p H', Same H H' → H p = none → IsR K H' p (Rat.divInt t b) → Q (.ref p) H') :
    ∀ x dx, H x = none → H dx = none → dx ≠ x → spInitR K (.ref x :: ([.int t, .int b] ++ [])) (upd (upd H dx (.own x)) x (.ins (cR K) dx [])) (fun v H2 => v = .non ∧ Q (.ref x) H2) E :=
  fun x dx nx nd _ => ⟨x, dx, t, b, rfl, upd_same, hb, h1, h2, fun H' k e => ⟨rfl, h x H' (same_new nx nd k) nx ⟨dx, e⟩⟩⟩
theorem makeR1 {K : PySem.W.Frag} {H : Hp} {t : Int} {Q : VK} {E : XK} (h1 : t.natAbs < 2 ^ 3900) (h : ∀ p H', Same H H' → H p = none → IsR K H' p (t : Rat) → Q (.ref p) H') :
    ∀ x dx, H x = none → H dx = none → dx ≠ x → spInitR K (.ref x :: ([.int t] ++ [.int 1])) (upd (upd H dx (.own x)) x (.ins (cR K) dx [])) (fun v H2 => v = .non ∧ Q (.ref x) H2) E :=
  makeR (t := t) (b := 1) (by decide) h1 (Nat.one_lt_two_pow (by decide)) fun p H' s n r => h p H' s n (by rw [← divInt_one]; exact r)
abbrev FP (K : PySem.W.Frag) (x q : Str) (st : Stmt) (dvs : List V) (f : Addr) (fd : FuncData) : Prop := FunD K x q (defArgs st) (defBody st) (defScope st) dvs [] f fd
theorem cm {i j : Int} {n m : Nat} (h1 : i.natAbs < 2 ^ n) (h2 : j.natAbs < 2 ^ m) (ln : n ≤ 4000 := by omega) (lm : m ≤ 4000 := by omega) : CMulB i j := ⟨nb_le h1, nb_le h2⟩
theorem szm {p q : Rat} (hp : Sz p 1900) (hq : Sz q 1900) : CMulB p.num q.den ∧ CMulB q.num p.den ∧ CMulB p.den q.den ∧ CMulB p.num q.num := ⟨cm hp.1 hq.d, cm hq.1 hp.d, cm hp.d hq.d, cm hp.1 hq.1⟩
theorem RV.mk {K : PySem.W.Frag} {H : Hp} {p : Addr} {q : Rat} (h : IsR K H p q) : RV K H (.ref p) q := .inl ⟨p, rfl, h⟩
theorem RV.int (K : PySem.W.Frag) (H : Hp) (i : Int) : RV K H (.int i) (i : Rat) := .inr ⟨i, rfl, rfl⟩
/-! ### the pail -/
def Pail (H : Hp) (a c : Addr) (N : Nat) : Prop := ∃ (cs : List Int) (n g : Int), H a = some (.lst [.ref c, .int n, .int g]) ∧ H c = some (.lst (cs.map V.int)) ∧ 0 ≤ n ∧ n ≤ N ∧ 0 ≤ g
def Sb (a : Addr) (H H' : Hp) : Prop := ∀ b o, b ≠ a → H b = some o → H' b = some o
theorem Sb.trans {a : Addr} {H H1 H2 : Hp} (x : Sb a H H1) (y : Sb a H1 H2) : Sb a H H2 := fun b o n e => y b o n (x b o n e)
theorem Same.sb {a : Addr} {H H' : Hp} (x : Same H H') : Sb a H H' := fun b o _ e => x b o e
def spPail (K : PySem.W.Frag) : Sp := fun vs H Q _ => ∃ (a : Addr) (ns : List Int), vs = [.ref a] ∧ SqL K H a (ns.map V.int) ∧ ∀ p H', Same H H' → H p = none → (∃ c, Pail H' p c 0) → Q (.ref p) H'
def spDip : Sp := fun vs H Q _ => ∃ (a c : Addr) (m : Int) (N : Nat), vs = [.ref a, .int m] ∧ Pail H a c N ∧ N ≤ 1000000 ∧ 0 < m ∧ m < 2 ^ 30 ∧ ∀ d H', 0 ≤ d → d < m → Pail H' a c (N + 1) → Sb a H H' → Q (.int d) H'
theorem shaped_ints (cs : List Int) : SeqAt.shaped (.list (cs.map PyData.int)) = true := by
  induction cs with
  | nil => rfl
  | cons c cs ih => exact ih
theorem dp_ints {K : PySem.W.Frag} {H : Hp} (cs : List Int) : DpAll K H (cs.map V.int) (cs.map PyData.int) := by
  induction cs with
  | nil => exact .nil
  | cons c cs ih => exact .cons (.int c) ih
theorem tailR {P : Int → Prop} {G : Prop} (main : (∀ x, P x) → G) (tl : ∀ x, P x) : G := main tl
theorem Pail.mono {H : Hp} {a c : Addr} {N M : Nat} (h : Pail H a c N) (l : N ≤ M := by omega) : Pail H a c M := let ⟨cs, n, g, h1, h2, h3, h4, h5⟩ := h; ⟨cs, n, g, h1, h2, h3, by omega, h5⟩
theorem Pail.lst {H : Hp} {a c : Addr} {N : Nat} (h : Pail H a c N) : ∃ xs, H a = some (.lst xs) := let ⟨_, _, _, h, _⟩ := h; ⟨_, h⟩
/-- the pail stands as it was where the heap only grew -/
theorem Pail.ext {H H' : Hp} {a c : Addr} {N : Nat} (h : Pail H a c N) (e : Same H H') : Pail H' a c N := let ⟨cs, n, g, h1, h2, h3, h4, h5⟩ := h; ⟨cs, n, g, e _ _ h1, e _ _ h2, h3, h4, h5⟩
theorem Same.new {H : Hp} {p : Addr} {o : HO} (h : H p = none) : Same H (upd H p o) := fun b u e => by rw [upd_ne (ne_of_none e h)]; exact e
theorem tail3 {P : Addr → Hp → Option V → Prop} {G : Prop} (F : Addr → Hp → Prop) (main : (∀ x H t, F x H → P x H t) → G) (tl : ∀ x H t, F x H → P x H t) : G := main tl
theorem makeR2 {K : PySem.W.Frag} {H : Hp} {t b : Int} {Q : Addr → Hp → Prop} {E : XK} (hb : b ≠ 0) (h1 : t.natAbs < 2 ^ 3900) (h2 : b.natAbs < 2 ^ 3900) (h : ∀ p H', Same H H' → H p = none → IsR K H' p (Rat.divInt t b) → Q p H') :
    ∀ x dx, H x = none → H dx = none → dx ≠ x → spInitR K (.ref x :: ([.int t, .int b] ++ [])) (upd (upd H dx (.own x)) x (.ins (cR K) dx [])) (fun v H2 => v = .non ∧ Q x H2) E :=
  fun x dx nx nd _ => ⟨x, dx, t, b, rfl, upd_same, hb, h1, h2, fun H' k e => ⟨rfl, h x H' (same_new nx nd k) nx ⟨dx, e⟩⟩⟩
theorem tailH {P : Hp → Prop} {G : Prop} (F : Hp → Prop) (main : (∀ H, F H → P H) → G) (tl : ∀ H, F H → P H) : G := main tl
/-! ### the law's defs -/
def Two (H : Hp) (p : Addr) (a b : Int) : Prop := H p = some (.tup [.int a, .int b])
def spRunsL : Sp := fun vs H Q _ => ∃ (a c : Addr) (N : Nat), vs = [.ref a] ∧ Pail H a c N ∧ N ≤ 900000 ∧ ∀ l rs H', Runs rs → H' l = some (.lst (rs.map V.int)) → l ≠ a → l ≠ c → Pail H' a c (N + 40) → Sb a H H' → Q (.ref l) H'
def spLed : Sp := fun vs H Q _ => ∃ (w : Int) (l : Addr) (rs : List Int), vs = [.int w, .ref l] ∧ H l = some (.lst (rs.map V.int)) ∧ Runs rs ∧ w.natAbs ≤ 40 ∧
  ∀ p p1 p2 H', Same H H' → H' p = some (.tup [.ref p1, .ref p2]) → Two H' p1 (ledGo true rs ⟨w, 1, w + 1, 1⟩).a (ledGo true rs ⟨w, 1, w + 1, 1⟩).b → Two H' p2 (ledGo true rs ⟨w, 1, w + 1, 1⟩).c (ledGo true rs ⟨w, 1, w + 1, 1⟩).d → Q (.ref p) H'
def spIs (K : PySem.W.Frag) : Sp := fun vs H Q _ => ∃ (r p : Addr) (q : Rat) (a b : Int), vs = [.ref r, .ref p] ∧ IsR K H r q ∧ Two H p a b ∧ q.num = a ∧ ((q.den : Nat) : Int) = b ∧ ∀ H', Same H H' → Q (.bl true) H'
def spLow : Sp := fun vs H Q _ => ∃ (t b : Int), vs = [.int t, .int b] ∧ 1 ≤ b ∧ b ≤ 150 ∧ t.natAbs ≤ 1000 ∧ ∀ p H', Same H H' → Two H' p (Rat.divInt t b).num ((Rat.divInt t b).den : Nat) → Q (.ref p) H'
def spLet : Sp := fun vs H Q _ => ∃ (w : Int) (l p : Addr) (rs : List Int) (s : Q4), vs = [.int w, .ref l, .ref p] ∧ H l = some (.lst (rs.map V.int)) ∧ Runs rs ∧ w.natAbs ≤ 40 ∧ Led w rs s ∧ Two H p (s.a + s.c) (s.b + s.d) ∧ ∀ H', Same H H' → Q (.bl true) H'
def spLedR : Sp := fun vs H Q _ => ∃ (w : Int) (l : Addr) (rs : List Int), vs = [.int w, .ref l] ∧ H l = some (.lst (rs.map V.int)) ∧ Runs rs ∧ w.natAbs ≤ 40 ∧ ∀ H', Same H H' → Q (.bl true) H'
def spWhR (T : List (Addr × Str)) : Sp := fun vs H Q _ => ∃ (w : Int), vs = [.int w] ∧ w.natAbs ≤ 40 ∧ LamX.Tabs T H ∧ ∀ H', LamX.ExtN H H' → LamX.Tabs T H' → Q (.bl true) H'
def spAnyR : Sp := fun vs H Q _ => ∃ (p1 p2 : Addr) (t b u c : Int), vs = [.ref p1, .ref p2] ∧ Two H p1 t b ∧ Two H p2 u c ∧ t.natAbs ≤ 60 ∧ u.natAbs ≤ 60 ∧ 1 ≤ b ∧ b ≤ 40 ∧ 1 ≤ c ∧ c ≤ 40 ∧ ∀ H', Same H H' → Q (.bl true) H'
theorem shaped_intsT (cs : List Int) : SeqAt.shaped (.tuple (cs.map PyData.int)) = true := by
  induction cs with
  | nil => rfl
  | cons c cs ih => exact ih
theorem fin_rs1 {l : List Int} (h : Runs l) : fin (rs1 l) = l := by
  unfold fin
  rw [dec_rs1]
  by_cases e : l = []
  · subst e
    rfl
  · rw [if_neg e, if_neg h.not0]
theorem makeR12 {K : PySem.W.Frag} {H : Hp} {t : Int} {Q : Addr → Hp → Prop} {E : XK} (h1 : t.natAbs < 2 ^ 3900) (h : ∀ p H', Same H H' → H p = none → IsR K H' p (t : Rat) → Q p H') :
    ∀ x dx, H x = none → H dx = none → dx ≠ x → spInitR K (.ref x :: ([.int t] ++ [.int 1])) (upd (upd H dx (.own x)) x (.ins (cR K) dx [])) (fun v H2 => v = .non ∧ Q x H2) E :=
  makeR2 (t := t) (b := 1) (by decide) h1 (Nat.one_lt_two_pow (by decide)) fun p H' s n r => h p H' s n (by rw [← divInt_one]; exact r)
end Sp
end
section
set_option Elab.async false
set_option linter.all false
set_option maxRecDepth 100000
set_option maxHeartbeats 0
namespace Sp
open PySem PySem.Spec PyProof.Rows L2
open PySem.W (Frag)
/-! ### facts read off the heap that the top leaves -/
def oexB (K : Frag) (C : Addr) : Bool := (match K.lookup C with
  | some ⟨.type "type", _, .cls cd, sl⟩ => (match cd.mro, sl.toList with
    | .ref C' :: bm, [_, _, _, _, some (.builtin n), _] => C' == C && (n == "ValueError.__new__" && (!cd.hasDel && (cd.hasDict && PySem.HandSPX.refsVE bm)))
    | _, _ => false)
  | _ => false) && (decide (PySem.W.findIn K (.ref C) "__setattr__" = some (some (.builtin "object.__setattr__"))) && (decide (PySem.W.subIn K (.ref C) (.type "BaseException") = some true) && (decide (PySem.W.typeIn K (.ref C) = some (.type "type")) && PySem.W.keepIn K (.ref C))))
theorem oexB_ok {K : Frag} {C : Addr} (h : oexB K C = true) : OexC K C := by
  unfold oexB at h
  obtain ⟨h1, h⟩ := He.ba h
  obtain ⟨h2, h⟩ := He.ba h
  obtain ⟨h3, h⟩ := He.ba h
  obtain ⟨h4, h5⟩ := He.ba h
  refine ⟨?_, of_decide_eq_true h2, of_decide_eq_true h3, of_decide_eq_true h4, h5⟩
  split at h1
  · rename_i dd cd sl ho
    split at h1
    · rename_i C' bm k0 k1 k2 k3 n k5 hm hs
      simp only [Bool.and_eq_true, beq_iff_eq, Bool.not_eq_true'] at h1
      obtain ⟨rfl, rfl, hdel, hdict, hr⟩ := h1
      obtain ⟨nm, bs, mro, ns, qn, hd, sn, sub, ab, col, del⟩ := cd
      dsimp only at hm hdel hdict
      subst hm hdel hdict
      have hsl : sl = #[k0, k1, k2, k3, some (.builtin "ValueError.__new__"), k5] := by
        obtain ⟨l⟩ := sl
        simp only at hs
        rw [hs]
      subst hsl
      exact ⟨nm, qn, ns, bs, bm, sn, sub, ab, col, dd, k0, k1, k2, k3, k5, ho, hr⟩
    · cases h1
  · cases h1
def ktB (K : Frag) (t : Value) : Bool := decide (PySem.W.kitOne K t (.type "int") = some (decide (t = .type "int") || decide (t = .type "bool"))) && (decide (PySem.W.kitOne K t (.type "bool") = some (decide (t = .type "bool"))) &&
  (decide (PySem.W.kitOne K t (.ref (cR K)) = some (decide (t = .ref (cR K)))) && decide (PySem.W.kitOne K t (.type "tuple") = some (decide (t = .type "tuple")))))
theorem ktB_ok {K : Frag} {t : Value} (h : ktB K t = true) : Kt K t := by
  unfold ktB at h
  obtain ⟨h1, h⟩ := He.ba h
  obtain ⟨h2, h⟩ := He.ba h
  obtain ⟨h3, h4⟩ := He.ba h
  exact ⟨of_decide_eq_true h1, of_decide_eq_true h2, of_decide_eq_true h3, of_decide_eq_true h4⟩
def cfB (K : Frag) (x : Str) (fl : List Str) : Bool := (He.Fa.cls x).ok K && (decide (PySem.W.findIn K (.ref (He.ga K x)) "__class__" = some (some (.builtin "object.__class__"))) && (decide (PySem.W.specialIn K (.builtin "object.__class__") "__get__" = some (some (.builtin "getset_descriptor.__get__"))) &&
  (decide (PySem.W.takesIn K (.builtin "object.__class__") = some true) && (decide (PySem.W.mroIn K (He.ga K x) (.type "object") = some true) && ((fl.all fun f => (He.Fa.noat x f).ok K) && ktB K (.ref (He.ga K x)))))))
theorem cfB_ok {K : Frag} {x : Str} {fl : List Str} (h : cfB K x fl = true) : CF K (He.ga K x) fl := by
  unfold cfB at h
  obtain ⟨h1, h⟩ := He.ba h
  obtain ⟨h2, h⟩ := He.ba h
  obtain ⟨h3, h⟩ := He.ba h
  obtain ⟨h4, h⟩ := He.ba h
  obtain ⟨h5, h⟩ := He.ba h
  obtain ⟨h6, h7⟩ := He.ba h
  exact ⟨He.cls_ok h1, of_decide_eq_true h2, of_decide_eq_true h3, of_decide_eq_true h4, of_decide_eq_true h5, fun f hf => He.noat_ok (List.all_eq_true.mp h6 f hf), ktB_ok h7⟩
/-- an operator's def at ma K C m -/
def opB (K : Frag) (C : Addr) (m r : Str) : Bool := PySem.W.selfFirst K C && (decide (PySem.W.findIn K (.ref C) m = some (some (.ref (He.ma K C m)))) && (PySem.W.isFn K (.ref (He.ma K C m)) && (decide (PySem.W.findIn K (.ref C) r = some none) &&
  ((PySem.W.findIn K (.type "int") m).isSome && ((PySem.W.findIn K (.type "int") r).isSome && decide (PySem.W.subIn K (.type "int") (.ref C) = some false))))))
theorem opB_ok {K : Frag} {C : Addr} {m r : Str} (h : opB K C m r = true) : OpC K C m r (He.ma K C m) := by
  unfold opB at h
  obtain ⟨h1, h⟩ := He.ba h
  obtain ⟨h2, h⟩ := He.ba h
  obtain ⟨h3, h⟩ := He.ba h
  obtain ⟨h4, h⟩ := He.ba h
  obtain ⟨h5, h⟩ := He.ba h
  obtain ⟨h6, h7⟩ := He.ba h
  exact ⟨h1, of_decide_eq_true h2, h3, of_decide_eq_true h4, Option.isSome_iff_exists.mp h5, Option.isSome_iff_exists.mp h6, of_decide_eq_true h7⟩
def nmB (K : Frag) (C : Addr) (m : Str) : Bool := decide (PySem.W.findIn K (.ref C) m = some (some (.ref (He.ma K C m)))) && PySem.W.isFn K (.ref (He.ma K C m))
def metB (K : Frag) (C : Addr) (m : Str) : Bool := nmB K C m && PySem.W.keepIn K (.ref (He.ma K C m))
theorem metB_ok {K : Frag} {C : Addr} {m : Str} (h : metB K C m = true) : Meth K C m (He.ma K C m) := by
  unfold metB nmB at h
  obtain ⟨h1, h3⟩ := He.ba h
  obtain ⟨h1, h2⟩ := He.ba h1
  exact ⟨of_decide_eq_true h1, h2, h3⟩
def propB (K : Frag) (C : Addr) (m : Str) : Bool := decide (PySem.W.findIn K (.ref C) m = some (some (.ref (He.ma K C m)))) && (decide (PySem.W.specialIn K (.ref (He.ma K C m)) "__get__" = some (some (.builtin "property.__get__"))) && (decide (PySem.W.takesIn K (.ref (He.ma K C m)) = some true) && (match PySem.W.recIn K (He.ma K C m) "property" with
  | some (.ref _ :: _) => true
  | _ => false)))
theorem propB_ok {K : Frag} {C : Addr} {m : Str} (h : propB K C m = true) : PropOf K C m (He.ma K C m) (He5.wf K C "property" m) := by
  unfold propB at h
  obtain ⟨h1, h⟩ := He.ba h
  obtain ⟨h2, h⟩ := He.ba h
  obtain ⟨h3, h4⟩ := He.ba h
  refine ⟨of_decide_eq_true h1, of_decide_eq_true h2, of_decide_eq_true h3, ?_⟩
  unfold He5.wf
  split at h4
  · rename_i f r e
    exact ⟨r, by rw [e]⟩
  · cases h4
def smB (K : Frag) (C : Addr) (m : Str) : Bool := PySem.W.readsIn K C (.type "type") && (decide (PySem.W.specialIn K (.ref C) "__getattribute__" = some (some (.builtin "type.__getattribute__"))) && (He5.wrapB K C "staticmethod" "staticmethod.__get__" m && PySem.W.keepIn K (.ref (He5.wf K C "staticmethod" m))))
theorem smB_ok {K : Frag} {C : Addr} {m : Str} (h : smB K C m = true) : SMet K C (.type "type") m (He.ma K C m) (He5.wf K C "staticmethod" m) := by
  unfold smB at h
  obtain ⟨h1, h⟩ := He.ba h
  obtain ⟨h2, h⟩ := He.ba h
  obtain ⟨h3, h4⟩ := He.ba h
  obtain ⟨h5, h6⟩ := He5.wrapB_ok h3
  exact ⟨h1, of_decide_eq_true h2, h5, h6, h4⟩
/-- an error of one field -/
def xB (K : Frag) (x f : Str) : Bool := oexB K (He.ga K x) && ((He.Fa.glo x).ok K && (decide (PySem.W.findIn K (.ref (He.ga K x)) "__init__" = some (some (.ref (He.ma K (He.ga K x) "__init__")))) && (decide (PySem.W.typeIn K (.ref (He.ma K (He.ga K x) "__init__")) = some (.type "function")) && (He.Fa.noat x f).ok K)))
/-! ### the facts, by number -/
def exL : List (Frag → Bool) := [
  fun K => (He.Fa.free "isinstance").ok K, fun K => (He.Fa.free "int").ok K, fun K => (He.Fa.free "bool").ok K, fun K => (He.Fa.free "str").ok K, fun K => (He.Fa.free "abs").ok K, fun K => (He.Fa.free "len").ok K, fun K => (He.Fa.free "range").ok K,
  fun K => (He.Fa.free "enumerate").ok K, fun K => (He.Fa.free "list").ok K, fun K => (He.Fa.free "tuple").ok K,
  fun K => decide (PySem.W.nsIn K mainGlobals "gcd" = some (some (.builtin "math.gcd"))),
  fun K => cfB K "Ratio" ["top", "bottom"], fun K => (He.Fa.glo "Ratio").ok K,
  fun K => ktB K (.type "int"), fun K => ktB K (.type "bool"), fun K => ktB K (.type "NoneType"), fun K => ktB K (.type "str"), fun K => ktB K (.type "tuple"), fun K => ktB K (.type "list"),
  fun K => decide (PySem.W.exmOne K (.ref (cX K "BadNumber")) (.ref (cX K "BadNumber")) = some true), fun K => decide (PySem.W.exmOne K (.ref (cX K "Unlike")) (.ref (cX K "BadNumber")) = some false), fun K => decide (PySem.W.exmOne K (.ref (cX K "Unlike")) (.ref (cX K "Unlike")) = some true),
  fun K => xfB K (cX K "BadNumber"), fun K => xfB K (cX K "Unlike"),
  fun K => xB K "BadRatio" "part", fun K => xB K "BadNumber" "part", fun K => xB K "Unlike" "what",
  fun K => propB K (cR K) "below", fun K => propB K (cR K) "is_whole", fun K => smB K (cR K) "of",
  fun K => (He.Fa.mkr "Ratio").ok K, fun K => decide ((He.cT K ("_law_whole_right", none)).2 ≠ (He.cT K ("_law_refused_right", none)).2), fun K => (He.Fa.free "sum").ok K]
end Sp
end
section
set_option Elab.async false
set_option linter.all false
set_option maxRecDepth 100000
set_option maxHeartbeats 0
namespace Sp
open PySem PySem.Spec PyProof.Rows L2
open PySem.W (Frag)
def fnL : List He5.DefA := [
  ⟨fun K => He.ga K "is_integer", "is_integer", "is_integer", defArgs (topS 10), defBody (topS 10), defScope (topS 10), [], []⟩,
  ⟨fun K => He.ga K "is_ratio", "is_ratio", "is_ratio", defArgs (topS 20), defBody (topS 20), defScope (topS 20), [], []⟩,
  ⟨fun K => He.ga K "need_ratio", "need_ratio", "need_ratio", defArgs (topS 22), defBody (topS 22), defScope (topS 22), [], []⟩,
  ⟨fun K => He.ga K "inverse", "inverse", "inverse", defArgs (topS 26), defBody (topS 26), defScope (topS 26), [], []⟩,
  ⟨fun K => He.ga K "mediant", "mediant", "mediant", defArgs (topS 28), defBody (topS 28), defScope (topS 28), [], []⟩,
  ⟨fun K => He.ga K "are_near", "are_near", "are_near", defArgs (topS 29), defBody (topS 29), defScope (topS 29), [], []⟩,
  ⟨fun K => He.ga K "whole_of", "whole_of", "whole_of", defArgs (topS 30), defBody (topS 30), defScope (topS 30), [], []⟩,
  ⟨fun K => He.ga K "parents", "parents", "parents", defArgs (topS 31), defBody (topS 31), defScope (topS 31), [], []⟩,
  ⟨fun K => He.ga K "runs_of", "runs_of", "runs_of", defArgs (topS 32), defBody (topS 32), defScope (topS 32), [], []⟩,
  ⟨fun K => He.ga K "_law_pail", "_law_pail", "_law_pail", defArgs (topS 34), defBody (topS 34), defScope (topS 34), [], []⟩,
  ⟨fun K => He.ga K "_law_dip", "_law_dip", "_law_dip", defArgs (topS 35), defBody (topS 35), defScope (topS 35), [], []⟩,
  ⟨fun K => He.ga K "_law_runs", "_law_runs", "_law_runs", defArgs (topS 36), defBody (topS 36), defScope (topS 36), [], []⟩,
  ⟨fun K => He.ga K "_law_led", "_law_led", "_law_led", defArgs (topS 37), defBody (topS 37), defScope (topS 37), [], []⟩,
  ⟨fun K => He.ga K "_law_is", "_law_is", "_law_is", defArgs (topS 38), defBody (topS 38), defScope (topS 38), [], []⟩,
  ⟨fun K => He.ga K "_law_lowest", "_law_lowest", "_law_lowest", defArgs (topS 39), defBody (topS 39), defScope (topS 39), [], []⟩,
  ⟨fun K => He.ga K "_law_heard", "_law_heard", "_law_heard", defArgs (topS 40), defBody (topS 40), defScope (topS 40), [], []⟩,
  ⟨fun K => He.ga K "_law_letters_right", "_law_letters_right", "_law_letters_right", defArgs (topS 41), defBody (topS 41), defScope (topS 41), [], []⟩,
  ⟨fun K => He.ga K "_law_led_right", "_law_led_right", "_law_led_right", defArgs (topS 42), defBody (topS 42), defScope (topS 42), [], []⟩,
  ⟨fun K => He.ga K "_law_whole_right", "_law_whole_right", "_law_whole_right", defArgs (topS 43), defBody (topS 43), defScope (topS 43), [], []⟩,
  ⟨fun K => He.ga K "_law_any_right", "_law_any_right", "_law_any_right", defArgs (topS 44), defBody (topS 44), defScope (topS 44), [], []⟩,
  ⟨fun K => He.ga K "_law_refused_right", "_law_refused_right", "_law_refused_right", defArgs (topS 45), defBody (topS 45), defScope (topS 45), [], []⟩,
  ⟨fun K => He.ga K "law", "law", "law", defArgs (topS 46), defBody (topS 46), defScope (topS 46), [], []⟩,
  ⟨fun K => He.ma K (He.ga K "Ratio") "__init__", "__init__", "Ratio.__init__", defArgs (inClass (topS 18) 0), defBody (inClass (topS 18) 0), defScope (inClass (topS 18) 0), [.int 1], []⟩,
  ⟨fun K => He.ma K (He.ga K "BadRatio") "__init__", "__init__", "BadRatio.__init__", defArgs (inClass (topS 4) 0), defBody (inClass (topS 4) 0), defScope (inClass (topS 4) 0), [], []⟩,
  ⟨fun K => He.ma K (He.ga K "BadNumber") "__init__", "__init__", "BadNumber.__init__", defArgs (inClass (topS 5) 0), defBody (inClass (topS 5) 0), defScope (inClass (topS 5) 0), [], []⟩,
  ⟨fun K => He.ma K (He.ga K "Unlike") "__init__", "__init__", "Unlike.__init__", defArgs (inClass (topS 6) 0), defBody (inClass (topS 6) 0), defScope (inClass (topS 6) 0), [], []⟩,
  ⟨fun K => He5.wf K (He.ga K "Ratio") "staticmethod" "of", "of", "Ratio.of", defArgs (inClass (topS 18) 17), defBody (inClass (topS 18) 17), defScope (inClass (topS 18) 17), [], []⟩,
  ⟨fun K => He5.wf K (He.ga K "Ratio") "property" "below", "below", "Ratio.below", defArgs (inClass (topS 18) 3), defBody (inClass (topS 18) 3), defScope (inClass (topS 18) 3), [], []⟩,
  ⟨fun K => He5.wf K (He.ga K "Ratio") "property" "is_whole", "is_whole", "Ratio.is_whole", defArgs (inClass (topS 18) 2), defBody (inClass (topS 18) 2), defScope (inClass (topS 18) 2), [], []⟩]
def glL : List Str := (["is_integer", "is_ratio", "need_ratio", "inverse", "mediant", "are_near", "whole_of", "parents", "runs_of", "_law_pail", "_law_dip", "_law_runs"] : List Str) ++ (["_law_led", "_law_is", "_law_lowest", "_law_heard", "_law_letters_right", "_law_led_right", "_law_whole_right", "_law_any_right", "_law_refused_right", "law"] : List Str)
def tfL : List He.Defn := [("_law_whole_right", none), ("_law_refused_right", none)]
def kB (g : Addr → Option Obj) (n : Nat) : Frag := He.frT g (He5.asA g n)
def bB (g : Addr → Option Obj) (K : Frag) : Bool := (exL.all fun f => f K) && ((glL.all fun x => (He.Fa.glo x).ok K) && ((fnL.all fun d => d.ok K) && He.tabsB g tfL K))
def obsB (n : Nat) (g : Addr → Option Obj) : He.AlD := (bB g (kB g n), fnL.map fun d => He5.fnA (kB g n) (d.at_ (kB g n)))
def valB : He.AlD := (true, fnL.map He5.DefA.val)
structure SaysB (h : Heap) (K : Frag) : Prop where
  ex : ∀ f ∈ exL, f K = true
  gl : ∀ x ∈ glL, (He.Fa.glo x).ok K = true
  fn : ∀ d ∈ fnL, d.ok K = true ∧ He5.fnA K (d.at_ K) = d.val
  hd : ∀ p ∈ tfL, PySem.W.codeHdIn K (He.cT K p).1 (He.cT K p).2 = true
  out : ∀ p ∈ tfL, K.lookup (He.cT K p).2 = none
  empty : ∀ p ∈ tfL, h.get? (He.cT K p).2 = some { cls := .none, data := .fields #[] }
theorem map_eq {α β : Type} {f g : α → β} : ∀ {l : List α}, l.map f = l.map g → ∀ x ∈ l, f x = g x
  | [], _, x, h => by cases h
  | y :: l, e, x, h => by
    rw [List.map_cons, List.map_cons] at e
    injection e with e1 e2
    rcases List.mem_cons.mp h with rfl | h
    · exact e1
    · exact map_eq e2 x h
theorem saysB_of {n : Nat} {h : Heap} (e : obsB n h.get? = valB) : SaysB h (kB h.get? n) := by
  have e1 : bB h.get? (kB h.get? n) = true := congrArg (fun z : He.AlD => z.1) e
  have e2 : fnL.map (fun d => He5.fnA (kB h.get? n) (d.at_ (kB h.get? n))) = fnL.map He5.DefA.val := congrArg (fun z : He.AlD => z.2) e
  obtain ⟨h1, e1⟩ := He.ba e1
  obtain ⟨h2, e1⟩ := He.ba e1
  obtain ⟨h3, h4⟩ := He.ba e1
  have key : ∀ p ∈ tfL, PySem.W.codeHdIn (kB h.get? n) (He.cT (kB h.get? n) p).1 (He.cT (kB h.get? n) p).2 = true ∧ ∃ o, h.get? (He.cT (kB h.get? n) p).2 = some o ∧ He.emptyTab o = true := fun p hp => by
    obtain ⟨h5, h6⟩ := He.ba (List.all_eq_true.mp h4 p hp)
    refine ⟨h5, ?_⟩
    cases q : h.get? (He.cT (kB h.get? n) p).2 with
    | none =>
      rw [q] at h6
      cases h6
    | some o =>
      rw [q] at h6
      exact ⟨o, rfl, h6⟩
  exact ⟨fun f hf => List.all_eq_true.mp h1 f hf, fun x hx => List.all_eq_true.mp h2 x hx, fun d hd => ⟨List.all_eq_true.mp h3 d hd, map_eq e2 d hd⟩, fun p hp => (key p hp).1, fun p hp => by
    obtain ⟨_, o, q, z⟩ := key p hp
    exact He.frT_none q z, fun p hp => by
    obtain ⟨_, o, q, z⟩ := key p hp
    rw [q, He.emptyTab_eq z]⟩
def hookB (n : Nat) : PySem.W.Hook where
  α := He.AlD
  obs := fun s => obsB n s.heap.get?
  val := fun _ => valB
  says := fun _ h => ∃ K : Frag, K.In h ∧ SaysB h K
  of := fun _ _ e => ⟨_, He.frT_in, saysB_of e⟩
  keeps := fun _ _ _ ⟨K, hK, c⟩ k => ⟨K, PySem.W.Frag.In.keeps hK k, ⟨c.ex, c.gl, c.fn, c.hd, c.out, fun p hp => k _ _ (c.empty p hp)⟩⟩
theorem obsB_eq {n : Nat} {g : Addr → Option Obj} {s : Shared} (h : ∀ a, g a = s.heap.get? a) : obsB n g = (hookB n).obs s := by
  have e : g = s.heap.get? := funext h
  rw [e] <;> rfl
abbrev Rw : PySem.W.OpenRow := PySem.W.OpenLaw.row PySem.Challenge.rw_spiralsays_k07_fractions_by_their_letter
abbrev qv : Program := PySem.W.view Rw.prog [0, 46]
def names : List Str := (["_wall", "__name__", "SpiralError", "BadRatio", "BadNumber", "Unlike", "BadText", "DIGITS", "is_integer", "MOST_DIGITS", "integer_of", "Words"] : List Str) ++ (["words_in", "read_whole", "Ratio", "sign_of", "is_ratio", "at_right", "need_ratio", "ratio_of", "take_ratio", "inverse", "mediant", "are_near", "whole_of"] : List Str) ++ (["parents", "runs_of", "_law_pail", "_law_dip", "_law_runs", "_law_led", "_law_is", "_law_lowest", "_law_heard", "_law_letters_right", "_law_led_right", "_law_whole_right"] : List Str) ++ (["_law_any_right", "_law_refused_right"] : List Str)
abbrev hk : PySem.W.Hook := hookB 5
def ob (s : PySem.W.SharedT) : He.AlD := obsB 5 (HandSHeadRun.getT s)
theorem ob_eq (s : PySem.W.SharedT) : ob s = hk.obs s.abs := obsB_eq (HandSHeadRun.getT_eq s)
end Sp
end
section
set_option Elab.async false
set_option linter.all false
set_option maxRecDepth 100000
set_option maxHeartbeats 0
namespace Sp
open PySem PySem.Spec PyProof.Rows L2 HandSHeadRun PySem.W PySem.Calls
theorem runA (w : World) : (wholeF (fun p => stepQ (denQ tabQ) p w) fenceQ 30000 Rw.prog).map (fun x => (looksF Rw.prog x.1.heap x.2.abs, seenQ qv names (importedModules Rw.prog.main.body) (fun s => xlAt qv [] s && recOk Rw.toRowW.records s) x.2.abs)) = some (true, openGood qv names) := by
  kernel_rfl
theorem runB (w : World) : (wholeF (fun p => stepQ (denQ tabQ) p w) fenceQ 30000 Rw.prog).map (fun x => ob x.2) = some valB := by
  kernel_rfl
theorem join3 {A B C D : Type} {o : Option A} {f : A → B} {g : A → C} {h : A → D} {b : B} {c : C} {d : D} (a : o.map (fun x => (f x, g x)) = some (b, c)) (e : o.map (fun x => h x) = some d) : o.map (fun x => (f x, g x, h x)) = some (b, c, d) := by
  cases o with
  | none => cases a
  | some x =>
    have a1 : (f x, g x) = (b, c) := Option.some.inj a
    have e1 : h x = d := Option.some.inj e
    injection a1 with a2 a3
    show some (f x, g x, h x) = some (b, c, d)
    rw [a2, a3, e1]
theorem run (w : World) : RunEqI Rw qv hk ob 30000 names w := by
  delta HandSHeadRun.RunEqI
  exact join3 (runA w) (runB w)
end Sp
end
section
set_option Elab.async false
set_option linter.all false
set_option exponentiation.threshold 5000
set_option maxRecDepth 100000
set_option maxHeartbeats 0
local macro_rules | `(tactic| walk_at "leaf") => `(tactic| first | rfl | assumption | exact True.intro | exact L2.upd_same | exact L2.ClsV.ty _ | exact L2.ClsV.own _ | decide | exact of_decide_eq_true rfl | exact L2.SqL.of (by assumption) | exact L2.SqL.of L2.upd_same | exact Or.inl (L2.SqL.of L2.upd_same) | exact Or.inl (L2.SqL.of (by assumption)) | exact L2.SqT.of (by assumption) | exact L2.SqT.of L2.upd_same | exact Sp.cmL (by decide) | exact Sp.cmR (by decide) | exact ⟨by decide, by decide, by decide⟩ | exact ⟨by decide, by decide⟩ | exact Or.inr (L2.SqT.of (by assumption)) | exact Or.inl ⟨rfl, _, L2.SqL.of (by assumption)⟩ | exact Or.inl ⟨rfl, _, L2.SqL.of L2.upd_same⟩ | omega | fail)
local macro_rules | `(tactic| walk_at "rd1") => `(tactic| first
  | apply Sp.exI
  | (refine And.intro ?lf ?_; (case lf => walk_at "leaf"))
  | fail)
local macro_rules | `(tactic| walk_at "rd") => `(tactic| repeat (walk_at "rd1"))
local macro_rules | `(tactic| walk_at "fR") => `(tactic| (have := (‹Sp.G0 _ _›).R.cl; have := (‹Sp.G0 _ _›).R.no "top" (by simp); have := (‹Sp.G0 _ _›).R.no "bottom" (by simp)))
namespace Sp
open PySem PySem.Spec PyProof.Rows L2
section
variable {P : Program} {w : World} {K : PySem.W.Frag} {mg : Str → Option Value} {base : Heap} {f : Addr} {fd : FuncData}
variable (g_is_integer : GD P w K mg base (L2.CX P w) 1 "is_integer" ["value"] [] (spIsInt K))
  (g_is_ratio : GD P w K mg base (L2.CX P w) 2 "is_ratio" ["value"] [] (spIsRat K)) (g_need_ratio : GD P w K mg base (L2.CX P w) 6 "need_ratio" ["value", "part"] [] (spNeed K))
  (g_xBadRatio : GX P w K mg base 1 "BadRatio" "part" (cX K "BadRatio")) (g_xBadNumber : GX P w K mg base 1 "BadNumber" "part" (cX K "BadNumber")) (g_xUnlike : GX P w K mg base 1 "Unlike" "what" (cX K "Unlike"))
  (g_mRatio : GM P w K mg base (L2.CX P w) 3 "Ratio" (cR K) ["self", "top", "bottom"] [] (spInitR K)) (g_mRatio1 : GM P w K mg base (L2.CX P w) 3 "Ratio" (cR K) ["self", "top", "bottom"] [.int 1] (spInitR K))
  (g_Ratio_of : GS P w K mg base (L2.CX P w) 5 (cR K) "of" (spOf K)) (g_R_below : GP P w K mg base (L2.CX P w) 1 (cR K) "below" (spBelow K)) (g_R_is_whole : GP P w K mg base (L2.CX P w) 1 (cR K) "is_whole" (spWhole K))
variable (g_inverse : GD P w K mg base (L2.CX P w) 1 "inverse" ["number", "modulus"] [] spInv) (g_mediant : GD P w K mg base (L2.CX P w) 7 "mediant" ["one", "other"] [] (spMed K)) (g_are_near : GD P w K mg base (L2.CX P w) 7 "are_near" ["one", "other"] [] (spNear K))
  (g_whole_of : GD P w K mg base (L2.CX P w) 7 "whole_of" ["ratio"] [] (spWh K)) (g_parents : GD P w K mg base (L2.CX P w) 7 "parents" ["ratio"] [] (spPar K)) (g_runs_of : GD P w K mg base (L2.CX P w) 7 "runs_of" ["ratio"] [] (spRuns K))
variable (g_l_dip : GD P w K mg base (L2.CX P w) 1 "_law_dip" ["_law_pail_here", "_law_many"] [] spDip) (g_l_pail : GD P w K mg base (L2.CX P w) 1 "_law_pail" ["_law_script"] [] (spPail K)) (g_l_runs : GD P w K mg base (L2.CX P w) 2 "_law_runs" ["_law_pail_here"] [] spRunsL)
  (g_l_led : GD P w K mg base (L2.CX P w) 1 "_law_led" ["_law_whole", "_law_runs_here"] [] spLed) (g_l_is : GD P w K mg base (L2.CX P w) 1 "_law_is" ["_law_ratio", "_law_pair"] [] (spIs K)) (g_l_lowest : GD P w K mg base (L2.CX P w) 1 "_law_lowest" ["_law_top", "_law_bottom"] [] spLow)
  (g_l_letters_right : GD P w K mg base (L2.CX P w) 1 "_law_letters_right" ["_law_whole", "_law_runs_here", "_law_pair"] [] spLet) (g_l_led_right : GD P w K mg base (L2.CX P w) 8 "_law_led_right" ["_law_whole", "_law_runs_here"] [] spLedR) (g_l_any_right : GD P w K mg base (L2.CX P w) 8 "_law_any_right" ["_law_one", "_law_other"] [] spAnyR)
variable (g_are_near_k : GDK P w K mg base (L2.CX P w) 7 "are_near" ["one", "other"] 2 [0, 1] (spNear K)) (g_mediant_k : GDK P w K mg base (L2.CX P w) 7 "mediant" ["other", "one"] 2 [1, 0] (spMed K))
  (g_whole_of_k : GDK P w K mg base (L2.CX P w) 7 "whole_of" ["ratio"] 1 [0] (spWh K)) (g_parents_k : GDK P w K mg base (L2.CX P w) 7 "parents" ["ratio"] 1 [0] (spPar K))

theorem sc_isInt : FnScope ["value"] ["value"] (defScope (topS 10)) := ⟨rfl, rfl, rfl, by decide +kernel, rfl, by decide +kernel, by decide +kernel⟩
theorem ok_isInt (G : G0 K mg) (F : FP K "is_integer" "is_integer" (topS 10) [] f fd) : FnOk P w K mg base (L2.CX P w) 1 f fd ["value"] (spIsInt K) := by
  have nd := sc_isInt.nd
  refine F.ok sc_isInt (fun vs H Q E h => by obtain ⟨v, t, rfl, _⟩ := h; rfl) (fun cdv A outer s H vs Q E hr h => ⟨_, pss_one (ps_ret (pe_and (pe_callB call_isi rfl G.nm.isinstance (by decide +kernel) (pa_cons (pv 0) (pa_cons ((pe_bltn (v := .ty "int") (u := .type "int") rfl G.nm.int PyProof.Rows.Boot.«int» rfl)) (pa_nil)))) (pe_one (pe_not (pe_callB call_isi rfl G.nm.isinstance (by decide +kernel) (pa_cons (pv 0) (pa_cons ((pe_bltn (v := .ty "bool") (u := .type "bool") rfl G.nm.bool PyProof.Rows.Boot.«bool» rfl)) (pa_nil)))))))), ?_⟩)
  obtain ⟨v, t, rfl, ⟨ty, k⟩, q⟩ := h
  have k1 := k.int
  have k2 := k.bool
  walk_at "rd"
  by_cases h1 : t = .type "int"
  · subst h1
    walk_at "rd"
    exact q
  · have e : decide (t = Value.type "int") = false := decide_eq_false h1
    rw [e] at q ⊢
    by_cases h2 : t = .type "bool"
    · subst h2
      walk_at "rd"
      exact q
    · rw [decide_eq_false h2]
      exact q
theorem sc_isRat : FnScope ["value"] ["value"] (defScope (topS 20)) := ⟨rfl, rfl, rfl, by decide +kernel, rfl, by decide +kernel, by decide +kernel⟩
include g_is_integer in
theorem ok_isRat (G : G0 K mg) (F : FP K "is_ratio" "is_ratio" (topS 20) [] f fd) : FnOk P w K mg base (L2.CX P w) 2 f fd ["value"] (spIsRat K) := by
  have nd := sc_isRat.nd
  refine F.ok sc_isRat (fun vs H Q E h => by obtain ⟨_, _, rfl, _⟩ := h; rfl) (fun cdv A outer s H vs Q E hr h => ⟨_, pss_one (ps_ret (pe_or (pe_callB call_isi rfl G.nm.isinstance (by decide +kernel) (pa_cons (pv 0) (pa_cons ((pe_glob (v := .ref (cR K)) rfl G.mgRatio rfl)) (pa_nil)))) (pe_one (pe_gd g_is_integer (hr.mono (by decide)) rfl (pxE rfl rfl rfl rfl) (pa_cons (pv 0) (pa_nil)))))), ?_⟩)
  obtain ⟨v, t, rfl, ty, q⟩ := h
  have k1 := ty.2.R
  have k2 := ty.1
  walk_at "rd"
  cases e : decide (t = .ref (cR K)) with
  | true =>
    rw [e] at q
    exact q
  | false =>
    rw [e] at q
    walk_at "rd"
    exact q
theorem sc_initR : FnScope ["self", "top", "bottom", "common"] ["self", "top", "bottom"] (defScope (inClass (topS 18) 0)) := ⟨rfl, rfl, rfl, by decide +kernel, rfl, by decide +kernel, by decide +kernel⟩
include g_is_integer g_xBadRatio in
theorem ok_initR (G : G0 K mg) (F : FP K "__init__" "Ratio.__init__" (inClass (topS 18) 0) [.int 1] f fd) : FnOk P w K mg base (L2.CX P w) 3 f fd ["self", "top", "bottom"] (spInitR K) := by
  have nd := sc_initR.nd
  refine F.ok sc_initR (fun vs H Q E h => by obtain ⟨_, _, _, _, rfl, _⟩ := h; rfl) (fun cdv A outer s H vs Q E hr h => ⟨_, pss_cons (ps_if (pt_not (pt_val (pe_gd g_is_integer (hr.mono (by decide)) rfl (pxE rfl rfl rfl rfl) (pa_cons (pv 1) (pa_nil))))) (pss_one (ps_raise rfl (takes_of rfl rfl rfl rfl) (pmk1 g_xBadRatio (hr.mono (by decide)) rfl (pa_cons (pe_str) (pa_nil))))) (pss_nil)) (pss_cons (ps_if (PW.pt (pw_or (pt_not (pt_val (pe_gd g_is_integer (hr.mono (by decide)) rfl (pxE rfl rfl rfl rfl) (pa_cons (pv 2) (pa_nil))))) (pw_or1 (pt_cmpR op_eq (pv 2) (pe_int) (nomark _))))) (pss_one (ps_raise rfl (takes_of rfl rfl rfl rfl) (pmk1 g_xBadRatio (hr.mono (by decide)) rfl (pa_cons (pe_str) (pa_nil))))) (pss_nil)) (pss_cons (ps_set (i := 3) nd rfl (Or.inl rfl) (pe_ifExp (pt_cmpR op_gt (pv 2) (pe_int) (nomark _)) (pe_callBfun cr_gcd rfl G.gcd (pa_cons (pv 1) (pa_cons (pv 2) (pa_nil)))) (pe_un un_neg (pe_callBfun cr_gcd rfl G.gcd (pa_cons (pv 1) (pa_cons (pv 2) (pa_nil))))))) (pss_cons (ps_fld (pv 0) (pe_op op_fdivB (pv 1) (pv 3)) rfl) (pss_one (ps_fld (pv 0) (pe_op op_fdivB (pv 2) (pv 3)) rfl))))), ?_⟩)
  obtain ⟨a, dx, t, b, rfl, ha, hb, s1, s2, q⟩ := h
  have t1 := G.tInt (H := H) t
  have t2 := G.tInt (H := H) b
  have cl := G.R.cl
  have n1 : NoAttr K (cR K) "top" := G.R.no _ (by simp)
  have n2 : NoAttr K (cR K) "bottom" := G.R.no _ (by simp)
  have hd : ∀ x, CDivB x (comm t b) := fun x => ⟨comm_ne hb, by
    have h1 := comm_le (a := t) hb
    have h2 : (2 : Nat) ^ 3900 ≤ 2 ^ 4000 := Nat.pow_le_pow_right (by decide) (by decide)
    omega⟩
  have fin : ∀ g : Int, g = comm t b → Q .non (upd (upd H a (.ins (cR K) dx [("top", .int (t.fdiv g))])) a (.ins (cR K) dx [("top", .int (t.fdiv g)), ("bottom", .int (b.fdiv g))])) := by
    intro g e
    subst e
    refine q _ (fun c o nc hc => ?_) ?_
    · rw [upd_ne nc, upd_ne nc]
      exact hc
    · rw [upd_same, comm_num hb, comm_den hb]
  walk_at "rd"
  refine iteP (fun h1 => absurd (by simpa using h1) hb) (fun _ => ?_)
  walk_at "rd"
  refine iteP (fun h2 => ?_) (fun h2 => ?_)
  · have e : ((Nat.gcd t.natAbs b.natAbs : Nat) : Int) = comm t b := by
      unfold comm
      rw [if_pos (of_decide_eq_true h2)]
    have d1 : CDivB t ((Nat.gcd t.natAbs b.natAbs : Nat) : Int) := e ▸ hd t
    have d2 : CDivB b ((Nat.gcd t.natAbs b.natAbs : Nat) : Int) := e ▸ hd b
    have u1 : ∀ {o}, (upd H a o) a = some o := upd_same
    walk_at "rd"
    exact fin _ e
  · have e : -((Nat.gcd t.natAbs b.natAbs : Nat) : Int) = comm t b := by
      unfold comm
      rw [if_neg (fun z => h2 (decide_eq_true z))]
    have d1 : CDivB t (-((Nat.gcd t.natAbs b.natAbs : Nat) : Int)) := e ▸ hd t
    have d2 : CDivB b (-((Nat.gcd t.natAbs b.natAbs : Nat) : Int)) := e ▸ hd b
    walk_at "rd"
    exact fin _ e
theorem sc_of : FnScope ["value"] ["value"] (defScope (inClass (topS 18) 17)) := ⟨rfl, rfl, rfl, by decide +kernel, rfl, by decide +kernel, by decide +kernel⟩
include g_is_ratio g_mRatio1 g_xBadRatio in
theorem ok_of (G : G0 K mg) (F : FP K "of" "Ratio.of" (inClass (topS 18) 17) [] f fd) : FnOk P w K mg base (L2.CX P w) 5 f fd ["value"] (spOf K) := by
  have nd := sc_of.nd
  refine F.ok sc_of (fun vs H Q E h => by obtain ⟨_, _, rfl, _⟩ := h; rfl) (fun cdv A outer s H vs Q E hr h => ⟨_, pss_cons (ps_if (pt_not (pt_val (pe_gd g_is_ratio (hr.mono (by decide)) rfl (pxE rfl rfl rfl rfl) (pa_cons (pv 0) (pa_nil))))) (pss_one (ps_raise rfl (takes_of rfl rfl rfl rfl) (pmk1 g_xBadRatio (hr.mono (by decide)) rfl (pa_cons (pe_str) (pa_nil))))) (pss_nil)) (pss_one (ps_ret (pe_ifExp (pt_val (pe_callB call_isi rfl G.nm.isinstance (by decide +kernel) (pa_cons (pv 0) (pa_cons ((pe_glob (v := .ref (cR K)) rfl G.mgRatio rfl)) (pa_nil))))) (pv 0) (pe_gm g_mRatio1 (hr.mono (by decide)) rfl (pxE rfl rfl rfl rfl) (pa_cons (pv 0) (pa_nil)))))), ?_⟩)
  obtain ⟨v, q, rfl, rv, sz, k⟩ := h
  rcases rv with ⟨p, rfl, r⟩ | ⟨i, rfl, rfl⟩
  · have ty := G.tR r
    have k1 := ty.2.R
    have k2 := ty.1
    walk_at "rd"
    refine iteP (fun h1 => absurd h1 (by simp)) (fun h1 => ?_)
    walk_at "rd"
    refine iteP (fun h2 => ?_) (fun h2 => absurd (by simp) h2)
    walk_at "rd"
    exact k p H (fun _ _ z => z) r
  · have ty := G.tInt (H := H) i
    have k1 := ty.2.R
    have k2 := ty.1
    walk_at "rd"
    exact makeR1 (by have := sz.1; rw [Rat.num_intCast] at this; exact this) fun p H' s _ r => k p H' s r
theorem sc_need : FnScope ["value", "part"] ["value", "part"] (defScope (topS 22)) := ⟨rfl, rfl, rfl, by decide +kernel, rfl, by decide +kernel, by decide +kernel⟩
include g_Ratio_of g_is_ratio g_xBadNumber in
theorem ok_need (G : G0 K mg) (F : FP K "need_ratio" "need_ratio" (topS 22) [] f fd) : FnOk P w K mg base (L2.CX P w) 6 f fd ["value", "part"] (spNeed K) := by
  have nd := sc_need.nd
  refine F.ok sc_need (fun vs H Q E h => by obtain ⟨_, _, rfl, _⟩ := h; rfl) (fun cdv A outer s H vs Q E hr h => ⟨_, pss_cons (ps_if (pt_not (pt_val (pe_gd g_is_ratio (hr.mono (by decide)) rfl (pxE rfl rfl rfl rfl) (pa_cons (pv 0) (pa_nil))))) (pss_one (ps_raise rfl (takes_of rfl rfl rfl rfl) (pmk1 g_xBadNumber (hr.mono (by decide)) rfl (pa_cons (pv 1) (pa_nil))))) (pss_nil)) (pss_one (ps_ret (pe_gs (pe_glob (v := .ref (cR K)) rfl G.mgRatio rfl) g_Ratio_of (hr.mono (by decide)) (pxE rfl rfl rfl rfl) (pa_cons (pv 0) (pa_nil))))), ?_⟩)
  obtain ⟨v, pt, rfl, ⟨q, rv, sz, k⟩ | ⟨n, h⟩⟩ := h
  · obtain ⟨t, ty, e⟩ := G.tRV rv
    walk_at "rd"
    refine iteP (fun h1 => ?_) (fun h1 => ?_)
    · rw [e] at h1
      cases h1
    · walk_at "rd"
      exact k
  · obtain ⟨t, ty, e⟩ := n.ty G
    walk_at "rd"
    refine iteP (fun h1 => ?_) (fun h1 => ?_)
    · walk_at "rd"
      exact (mk1 (fun d H2 sm n e => h d H2 sm n e)).2
    · rw [e] at h1
      exact absurd rfl h1
theorem sc_below : FnScope ["self"] ["self"] (defScope (inClass (topS 18) 3)) := ⟨rfl, rfl, rfl, by decide +kernel, rfl, by decide +kernel, by decide +kernel⟩
theorem ok_below (G : G0 K mg) (F : FP K "below" "Ratio.below" (inClass (topS 18) 3) [] f fd) : FnOk P w K mg base (L2.CX P w) 1 f fd ["self"] (spBelow K) := by
  have nd := sc_below.nd
  refine F.ok sc_below (fun vs H Q E h => by obtain ⟨_, _, rfl, _⟩ := h; rfl) (fun cdv A outer s H vs Q E hr h => ⟨_, pss_one (ps_ret (pe_op op_fdivB (pe_fld (pv 0) rfl) (pe_fld (pv 0) rfl))), ?_⟩)
  obtain ⟨a, q, rfl, ⟨dx, r⟩, z, k⟩ := h
  have d : CDivB q.num ((q.den : Nat) : Int) := ⟨den_ne q, nb_le z.d⟩
  walk_at "fR"
  walk_at "rd"
  exact k
theorem sc_isw : FnScope ["self"] ["self"] (defScope (inClass (topS 18) 2)) := ⟨rfl, rfl, rfl, by decide +kernel, rfl, by decide +kernel, by decide +kernel⟩
theorem ok_isw (G : G0 K mg) (F : FP K "is_whole" "Ratio.is_whole" (inClass (topS 18) 2) [] f fd) : FnOk P w K mg base (L2.CX P w) 1 f fd ["self"] (spWhole K) := by
  have nd := sc_isw.nd
  refine F.ok sc_isw (fun vs H Q E h => by obtain ⟨_, _, rfl, _⟩ := h; rfl) (fun cdv A outer s H vs Q E hr h => ⟨_, pss_one (ps_ret (pe_cmpR op_eq (pe_fld (pv 0) rfl) (pe_int) (nomark _))), ?_⟩)
  obtain ⟨a, q, rfl, ⟨dx, r⟩, k⟩ := h
  walk_at "fR"
  walk_at "rd"
  have e : decide (V.int ((q.den : Nat) : Int) = V.int 1) = decide (((q.den : Nat) : Int) = 1) := by simp
  rw [e]
  exact k
theorem sc_inv : FnScope ["number", "modulus", "left", "right", "share", "following", "times"] ["number", "modulus"] (defScope (topS 26)) := ⟨rfl, rfl, rfl, by decide +kernel, rfl, by decide +kernel, by decide +kernel⟩
theorem ok_inv (F : FP K "inverse" "inverse" (topS 26) [] f fd) : FnOk P w K mg base (L2.CX P w) 1 f fd ["number", "modulus"] spInv := by
  have nd := sc_inv.nd
  refine F.ok sc_inv (fun vs H Q E h => by obtain ⟨_, _, rfl, _⟩ := h; rfl) (fun cdv A outer s H vs Q E hr h => ⟨_, pss_cons (ps_par (i := 2) (j := 3) rfl nd rfl rfl (by decide) rfl rfl (pa_cons (pv 1) (pa_cons (pe_op op_modN (pv 0) (pv 1)) pa_nil)) rfl) (pss_cons (ps_asg (pe_tup (pa_cons (pe_int) (pa_cons (pe_int) (pa_nil)))) (pg_tup rfl (pgs_cons (pg_name (i := 4) nd rfl (Or.inl rfl)) (pgs_cons (pg_name (i := 5) nd rfl (Or.inl rfl)) (pgs_nil))))) (pss_cons (ps_while (passes_of rfl) (pt_cmpR op_ne (pv 3) (pe_int) (nomark _)) (pss_cons (ps_set (i := 6) nd rfl (Or.inl rfl) (pe_op op_fdivB (pv 2) (pv 3))) (pss_cons (ps_par (i := 2) (j := 3) rfl nd rfl rfl (by decide) rfl rfl (pa_cons (pv 3) (pa_cons (pe_op op_sub (pv 2) (pe_op op_mulB (pv 6) (pv 3))) pa_nil)) rfl) (pss_one (ps_par (i := 4) (j := 5) rfl nd rfl rfl (by decide) rfl rfl (pa_cons (pv 5) (pa_cons (pe_op op_sub (pv 4) (pe_op op_mulB (pv 6) (pv 5))) pa_nil)) rfl))))) (pss_one (ps_ret (pe_op op_modN (pv 4) (pv 1)))))), ?_⟩)
  obtain ⟨n, m, rfl, hm, zm, hg, k⟩ := h
  have m0 : m ≠ 0 := by omega
  walk_at "rd"
  intro z hz
  have sz := Same.new (o := .tup [.int 0, .int 1]) hz
  walk_at "rd"
  refine while_by (fun σ Hh => ∃ l r s f x, σ = [some (.int n), some (.int m), some (.int l), some (.int r), some (.int s), some (.int f), x] ∧ Hh = upd H z (.tup [.int 0, .int 1]) ∧ Ek n m l r s f)
    (fun σ _ => match σ with | [_, _, _, some (.int r), _, _, _] => r.natAbs | _ => 0) ⟨_, _, _, _, _, rfl, rfl, Ek.start hm hg⟩ (fun σ Hh hP => ?_) ?_
  · obtain ⟨l, r, s, f, x, rfl, rfl, ek⟩ := hP
    walk_at "rd"
    refine iteP (fun h1 => ?_) (fun h1 => ?_)
    · have hr : r ≠ 0 := by simpa using h1
      obtain ⟨z1, z2⟩ := ek.bounds hr
      have lm := ek.lm
      have rm := ek.rm
      have r0 := ek.r0
      have l0 := ek.l0
      have d1 : CDivB l r := ⟨hr, nb_le (show r.natAbs < 2 ^ 1900 by omega)⟩
      have c1 : CMulB (l.fdiv r) r := cm (show (l.fdiv r).natAbs < 2 ^ 1900 by omega) (show r.natAbs < 2 ^ 1900 by omega)
      have c2 : CMulB (l.fdiv r) f := cm (show (l.fdiv r).natAbs < 2 ^ 1900 by omega) (show f.natAbs < 2 ^ 1900 by omega)
      have st := ek.step hr
      walk_at "rd"
      have e : l - l.fdiv r * r = l.fmod r := by
        have := Int.mul_fdiv_add_fmod l r
        grind
      have := Int.fmod_lt_of_pos l (show 0 < r by omega)
      have := Int.fmod_nonneg_of_pos l (show 0 < r by omega)
      refine ⟨⟨_, _, _, _, _, rfl, rfl, st⟩, ?_⟩
      show (l - l.fdiv r * r).natAbs < r.natAbs
      omega
    · have hr : r = 0 := by simpa using h1
      subst hr
      obtain ⟨a, b, c⟩ := ek.done hm
      walk_at "rd"
      exact k _ _ sz a b c
  · exact mono_ne
theorem sc_med : FnScope ["one", "other", "left", "right"] ["one", "other"] (defScope (topS 28)) := ⟨rfl, rfl, rfl, by decide +kernel, rfl, by decide +kernel, by decide +kernel⟩
include g_mRatio g_need_ratio in
theorem ok_med (G : G0 K mg) (F : FP K "mediant" "mediant" (topS 28) [] f fd) : FnOk P w K mg base (L2.CX P w) 7 f fd ["one", "other"] (spMed K) := by
  have nd := sc_med.nd
  refine F.ok sc_med (fun vs H Q E h => by obtain ⟨_, _, rfl, _⟩ := h; rfl) (fun cdv A outer s H vs Q E hr h => ⟨_, pss_cons (ps_set (i := 2) nd rfl (Or.inl rfl) (pe_gd g_need_ratio (hr.mono (by decide)) rfl (pxE rfl rfl rfl rfl) (pa_cons (pv 0) (pa_cons (pe_str) (pa_nil))))) (pss_cons (ps_set (i := 3) nd rfl (Or.inl rfl) (pe_gd g_need_ratio (hr.mono (by decide)) rfl (pxE rfl rfl rfl rfl) (pa_cons (pv 1) (pa_cons (pe_str) (pa_nil))))) (pss_one (ps_ret (pe_gm g_mRatio (hr.mono (by decide)) rfl (pxE rfl rfl rfl rfl) (pa_cons (pe_op op_add (pe_fld (pv 2) rfl) (pe_fld (pv 3) rfl)) (pa_cons (pe_op op_add (pe_fld (pv 2) rfl) (pe_fld (pv 3) rfl)) (pa_nil))))))), ?_⟩)
  obtain ⟨u, v, rfl, ⟨q1, q2, r1, r2, z1, z2, k⟩ | ⟨n, h⟩ | ⟨q1, r1, z1, n, h⟩⟩ := h
  · have y1 : Sz q1 3900 := z1.mono
    have y2 : Sz q2 3900 := z2.mono
    walk_at "rd"
    refine .inl ⟨_, r1, y1, fun p1 H1 s1 i1 => ?_⟩
    have r2 := r2.ext s1
    walk_at "rd"
    refine .inl ⟨_, r2, y2, fun p2 H2 s2 i2 => ?_⟩
    obtain ⟨d1, i1⟩ := i1.ext s2
    obtain ⟨d2, i2⟩ := i2
    walk_at "fR"
    walk_at "rd"
    exact makeR (by have := q1.den_nz; omega) (nb_le (nb_add (n := 1901) z1.1 z2.1)) (nb_le (nb_add (n := 1901) z1.d z2.d)) fun p H' s3 _ r => k p H' ((s1.trans s2).trans s3) r
  · walk_at "rd"
    exact .inr ⟨n, h⟩
  · have y1 : Sz q1 3900 := z1.mono
    walk_at "rd"
    refine .inl ⟨_, r1, y1, fun p1 H1 s1 i1 => ?_⟩
    walk_at "rd"
    exact .inr ⟨n.ext s1, h.ext s1⟩
theorem sc_near : FnScope ["one", "other", "left", "right"] ["one", "other"] (defScope (topS 29)) := ⟨rfl, rfl, rfl, by decide +kernel, rfl, by decide +kernel, by decide +kernel⟩
include g_need_ratio in
theorem ok_near (G : G0 K mg) (F : FP K "are_near" "are_near" (topS 29) [] f fd) : FnOk P w K mg base (L2.CX P w) 7 f fd ["one", "other"] (spNear K) := by
  have nd := sc_near.nd
  refine F.ok sc_near (fun vs H Q E h => by obtain ⟨_, _, rfl, _⟩ := h; rfl) (fun cdv A outer s H vs Q E hr h => ⟨_, pss_cons (ps_set (i := 2) nd rfl (Or.inl rfl) (pe_gd g_need_ratio (hr.mono (by decide)) rfl (pxE rfl rfl rfl rfl) (pa_cons (pv 0) (pa_cons (pe_str) (pa_nil))))) (pss_cons (ps_set (i := 3) nd rfl (Or.inl rfl) (pe_gd g_need_ratio (hr.mono (by decide)) rfl (pxE rfl rfl rfl rfl) (pa_cons (pv 1) (pa_cons (pe_str) (pa_nil))))) (pss_one (ps_ret (pe_cmpR op_eq (pe_callB call_abs rfl G.nm.abs (by decide +kernel) (pa_cons (pe_op op_sub (pe_op op_mulB (pe_fld (pv 2) rfl) (pe_fld (pv 3) rfl)) (pe_op op_mulB (pe_fld (pv 3) rfl) (pe_fld (pv 2) rfl))) (pa_nil))) (pe_int) (nomark _))))), ?_⟩)
  obtain ⟨u, v, rfl, ⟨q1, q2, r1, r2, z1, z2, k⟩ | ⟨n, h⟩ | ⟨q1, r1, z1, n, h⟩⟩ := h
  · have y1 : Sz q1 3900 := z1.mono
    have y2 : Sz q2 3900 := z2.mono
    walk_at "rd"
    refine .inl ⟨_, r1, y1, fun p1 H1 s1 i1 => ?_⟩
    have r2 := r2.ext s1
    walk_at "rd"
    refine .inl ⟨_, r2, y2, fun p2 H2 s2 i2 => ?_⟩
    obtain ⟨d1, i1⟩ := i1.ext s2
    obtain ⟨d2, i2⟩ := i2
    have c1 : CMulB q1.num ((q2.den : Nat) : Int) := cm z1.1 z2.d
    have c2 : CMulB q2.num ((q1.den : Nat) : Int) := cm z2.1 z1.d
    walk_at "fR"
    walk_at "rd"
    have e : qnear q1 q2 = decide (V.int (if q1.num * (q2.den : Nat) - q2.num * (q1.den : Nat) < 0 then -(q1.num * (q2.den : Nat) - q2.num * (q1.den : Nat)) else q1.num * (q2.den : Nat) - q2.num * (q1.den : Nat)) = V.int 1) := by
      unfold qnear
      rw [decide_eq_decide, V.int.injEq]
      generalize q1.num * (q2.den : Nat) - q2.num * (q1.den : Nat) = x
      split <;> omega
    rw [← e]
    exact k H2 (s1.trans s2)
  · walk_at "rd"
    exact .inr ⟨n, h⟩
  · have y1 : Sz q1 3900 := z1.mono
    walk_at "rd"
    refine .inl ⟨_, r1, y1, fun p1 H1 s1 i1 => ?_⟩
    walk_at "rd"
    exact .inr ⟨n.ext s1, h.ext s1⟩
theorem sc_wh : FnScope ["ratio"] ["ratio"] (defScope (topS 30)) := ⟨rfl, rfl, rfl, by decide +kernel, rfl, by decide +kernel, by decide +kernel⟩
include g_R_below g_need_ratio in
theorem ok_wh (G : G0 K mg) (F : FP K "whole_of" "whole_of" (topS 30) [] f fd) : FnOk P w K mg base (L2.CX P w) 7 f fd ["ratio"] (spWh K) := by
  have nd := sc_wh.nd
  refine F.ok sc_wh (fun vs H Q E h => by obtain ⟨_, rfl, _⟩ := h; rfl) (fun cdv A outer s H vs Q E hr h => ⟨_, pss_one (ps_ret (pe_gp (pe_gd g_need_ratio (hr.mono (by decide)) rfl (pxE rfl rfl rfl rfl) (pa_cons (pv 0) (pa_cons (pe_str) (pa_nil)))) g_R_below (hr.mono (by decide)) rfl)), ?_⟩)
  obtain ⟨v, rfl, ⟨q, rv, z, k⟩ | ⟨n, h⟩⟩ := h
  · walk_at "rd"
    refine .inl ⟨_, rv, z, fun p1 H1 s1 i1 => ?_⟩
    obtain ⟨d1, i1'⟩ := id i1
    have k := k H1 s1
    walk_at "rd"
    exact k
  · walk_at "rd"
    exact .inr ⟨n, h⟩
theorem sc_par : FnScope ["ratio", "told", "bottom", "top"] ["ratio"] (defScope (topS 31)) := ⟨rfl, rfl, rfl, by decide +kernel, rfl, by decide +kernel, by decide +kernel⟩
include g_R_is_whole g_inverse g_mRatio g_need_ratio in
theorem ok_par (G : G0 K mg) (F : FP K "parents" "parents" (topS 31) [] f fd) : FnOk P w K mg base (L2.CX P w) 7 f fd ["ratio"] (spPar K) := by
  have nd := sc_par.nd
  refine F.ok sc_par (fun vs H Q E h => by obtain ⟨_, rfl, _⟩ := h; rfl) (fun cdv A outer s H vs Q E hr h => ⟨_, pss_cons (ps_set (i := 1) nd rfl (Or.inl rfl) (pe_gd g_need_ratio (hr.mono (by decide)) rfl (pxE rfl rfl rfl rfl) (pa_cons (pv 0) (pa_cons (pe_str) (pa_nil))))) (pss_cons (ps_if (pt_val (pe_gp (pv 1) g_R_is_whole (hr.mono (by decide)) rfl)) (pss_one (ps_ret (pe_tup (pa_cons (pe_non) (pa_cons (pe_non) (pa_nil)))))) (pss_nil)) (pss_cons (ps_set (i := 2) nd rfl (Or.inl rfl) (pe_gd g_inverse (hr.mono (by decide)) rfl (pxE rfl rfl rfl rfl) (pa_cons (pe_fld (pv 1) rfl) (pa_cons (pe_fld (pv 1) rfl) (pa_nil))))) (pss_cons (ps_set (i := 3) nd rfl (Or.inl rfl) (pe_op op_fdivB (pe_op op_sub (pe_op op_mulB (pe_fld (pv 1) rfl) (pv 2)) (pe_int)) (pe_fld (pv 1) rfl))) (pss_one (ps_ret (pe_tup (pa_cons (pe_gm g_mRatio (hr.mono (by decide)) rfl (pxE rfl rfl rfl rfl) (pa_cons (pv 3) (pa_cons (pv 2) (pa_nil)))) (pa_cons (pe_gm g_mRatio (hr.mono (by decide)) rfl (pxE rfl rfl rfl rfl) (pa_cons (pe_op op_sub (pe_fld (pv 1) rfl) (pv 3)) (pa_cons (pe_op op_sub (pe_fld (pv 1) rfl) (pv 2)) (pa_nil)))) (pa_nil))))))))), ?_⟩)
  obtain ⟨v, rfl, ⟨q, rv, z, k1, k2⟩ | ⟨n, h⟩⟩ := h
  · have z' : Sz q 3900 := z.mono
    walk_at "rd"
    refine .inl ⟨_, rv, z', fun p1 H1 s1 i1 => ?_⟩
    obtain ⟨d1, i1'⟩ := id i1
    walk_at "rd"
    refine iteP (fun h1 => ?_) (fun h1 => ?_)
    · have h1 : ((q.den : Nat) : Int) = 1 := of_decide_eq_true h1
      walk_at "rd"
      intro p hp
      exact k1 h1 p _ (s1.trans (Same.new hp)) upd_same
    · have h1 : ((q.den : Nat) : Int) ≠ 1 := fun e => h1 (decide_eq_true e)
      have hd : 1 ≤ ((q.den : Nat) : Int) := by have := q.den_nz; omega
      have zd : ((q.den : Nat) : Int).natAbs < 2 ^ 1900 := nb_le z.d
      have cop : Nat.gcd q.num.natAbs ((q.den : Nat) : Int).natAbs = 1 := q.reduced
      walk_at "fR"
      walk_at "rd"
      intro b H2 s2 b0 b1 hb
      obtain ⟨a, ha⟩ := hb
      have i2 := s2 _ _ i1'
      have zb : b.natAbs < 2 ^ 1800 := by have := z.d; omega
      have c1 : CMulB q.num b := cm z.1 zb
      have d1 : CDivB (q.num * b - 1) ((q.den : Nat) : Int) := ⟨by omega, nb_le z.d⟩
      have ea : (q.num * b - 1).fdiv ((q.den : Nat) : Int) = a := by rw [ha, Int.mul_fdiv_cancel _ (by omega)]
      have ha' : q.num * b - 1 = (q.num * b - 1).fdiv ((q.den : Nat) : Int) * ((q.den : Nat) : Int) := by rw [ea]; exact ha
      have za : ((q.num * b - 1).fdiv ((q.den : Nat) : Int)).natAbs < 2 ^ 3602 := by
        rw [ea]
        have h1 : (a * ((q.den : Nat) : Int)).natAbs < 2 ^ 3602 := by
          rw [← ha]
          exact nb_sub (n := 3602) (nb_mul z.1 zb) (show (1 : Int).natAbs < 2 ^ 1 by decide)
        rw [Int.natAbs_mul] at h1
        exact Nat.lt_of_le_of_lt (Nat.le_mul_of_pos_right _ (by omega)) h1
      have hb0 : b ≠ 0 := by
        rintro rfl
        have : ((q.den : Nat) : Int) ∣ 1 := ⟨-a, by rw [Int.mul_neg, Int.mul_comm, ← ha]; omega⟩
        have := Int.le_of_dvd (by decide) this
        omega
      walk_at "rd"
      apply makeR2 hb0 (nb_le za) (nb_le zb)
      intro x1 H3 s3 _ r3
      have i3 := s3 _ _ i2
      walk_at "rd"
      apply makeR2 (by omega) (nb_sub (n := 3900) z.1 za) (nb_sub (n := 3900) z.d zb)
      intro x2 H4 s4 _ r4
      walk_at "rd"
      intro p hp
      have s5 := Same.new (o := .tup [.ref x1, .ref x2]) hp
      exact k2 h1 p x1 x2 _ _ _ ((((s1.trans s2).trans s3).trans s4).trans s5) upd_same ((r3.ext s4).ext s5) (r4.ext s5) b0 b1 ha'
  · walk_at "rd"
    exact .inr ⟨n, h⟩
theorem sc_runs : FnScope ["ratio", "told", "left", "right", "runs"] ["ratio"] (defScope (topS 32)) := ⟨rfl, rfl, rfl, by decide +kernel, rfl, by decide +kernel, by decide +kernel⟩
include g_R_is_whole g_need_ratio g_xUnlike in
theorem ok_runs (G : G0 K mg) (F : FP K "runs_of" "runs_of" (topS 32) [] f fd) : FnOk P w K mg base (L2.CX P w) 7 f fd ["ratio"] (spRuns K) := by
  have nd := sc_runs.nd
  refine F.ok sc_runs (fun vs H Q E h => by obtain ⟨_, rfl, _⟩ := h; rfl) (fun cdv A outer s H vs Q E hr h => ⟨_, pss_cons (ps_set (i := 1) nd rfl (Or.inl rfl) (pe_gd g_need_ratio (hr.mono (by decide)) rfl (pxE rfl rfl rfl rfl) (pa_cons (pv 0) (pa_cons (pe_str) (pa_nil))))) (pss_cons (ps_if (pt_val (pe_gp (pv 1) g_R_is_whole (hr.mono (by decide)) rfl)) (pss_one (ps_raise rfl (takes_of rfl rfl rfl rfl) (pmk1 g_xUnlike (hr.mono (by decide)) rfl (pa_cons (pe_str) (pa_nil))))) (pss_nil)) (pss_cons (ps_par (i := 2) (j := 3) rfl nd rfl rfl (by decide) rfl rfl (pa_cons (pe_fld (pv 1) rfl) (pa_cons (pe_op op_modN (pe_fld (pv 1) rfl) (pe_fld (pv 1) rfl)) pa_nil)) rfl) (pss_cons (ps_set (i := 4) nd rfl (Or.inl rfl) (pe_lst (pa_nil))) (pss_cons (ps_while (passes_of rfl) (pt_cmpR op_ne (pv 3) (pe_int) (nomark _)) (pss_cons (ps_expr (pe_bm PySem.F.plainAttrs_list PySem.F.slot_list_append PySem.F.type_list_append mt_append (pv 4) (pa_cons (pe_op op_fdivB (pv 2) (pv 3)) (pa_nil)))) (pss_one (ps_par (i := 2) (j := 3) rfl nd rfl rfl (by decide) rfl rfl (pa_cons (pv 3) (pa_cons (pe_op op_modN (pv 2) (pv 3)) pa_nil)) rfl)))) (pss_cons (ps_augS (pv 4) (pe_int) get_list (pe_int) ip_sub set_list) (pss_cons (ps_augS (pv 4) (pe_un un_neg (pe_int)) get_list (pe_int) ip_sub set_list) (pss_one (ps_ret (pe_ifExp (pt_cmpR (op_eqD hr.units) (pv 4) (pe_lst (pa_cons (pe_int) (pa_nil))) (nomark _)) (pe_tup (pa_nil)) (pe_callTy call_tuple_of rfl G.nm.tuple (by decide +kernel) (pa_cons (pv 4) (pa_nil)))))))))))), ?_⟩)
  obtain ⟨v, rfl, ⟨q, rv, z, k1, k2⟩ | ⟨n, h⟩⟩ := h
  · have z' : Sz q 3900 := z.mono
    walk_at "rd"
    refine .inl ⟨_, rv, z', fun p1 H1 s1 i1 => ?_⟩
    obtain ⟨d1, i1'⟩ := id i1
    walk_at "rd"
    refine iteP (fun h1 => ?_) (fun h1 => ?_)
    · have h1 : ((q.den : Nat) : Int) = 1 := of_decide_eq_true h1
      walk_at "rd"
      exact (mk1 (fun d H2 sm n e => ((k1 h1).ext s1) d H2 sm n e)).2
    · have h1 : ((q.den : Nat) : Int) ≠ 1 := fun e => h1 (decide_eq_true e)
      obtain ⟨rs, hne, hon, hle, hpq, k⟩ := k2 h1
      have hd : ((q.den : Nat) : Int) ≠ 0 := den_ne q
      walk_at "fR"
      walk_at "rd"
      intro L hL
      have sL := s1.trans (Same.new (o := .lst []) hL)
      walk_at "rd"
      have z0 : 0 ≤ q.num.fmod ((q.den : Nat) : Int) := Int.fmod_nonneg_of_pos _ (by omega)
      have z1 : q.num.fmod ((q.den : Nat) : Int) < ((q.den : Nat) : Int) := Int.fmod_lt_of_pos _ (by omega)
      have zd : ((q.den : Nat) : Int).natAbs < 2 ^ 1800 := z.d
      refine while_by (fun σ Hh => ∃ l r qs, σ = [some v, some (.ref p1), some (.int l), some (.int r), some (.ref L)] ∧ (∀ c o, c ≠ L → H1 c = some o → Hh c = some o) ∧ Hh L = some (.lst (qs.map V.int)) ∧ 0 ≤ r ∧ r < ((q.den : Nat) : Int) ∧
          ((r = 0 ∧ qs = bump rs) ∨ ∃ rest, rest ≠ [] ∧ Ones rest ∧ PQ rest = (l, r) ∧ qs ++ bump rest = bump rs))
        (fun σ _ => match σ with | [_, _, _, some (.int r), _] => r.natAbs | _ => 0) ⟨_, _, [], rfl, fun c o nc hc => by rw [upd_ne nc]; exact hc, upd_same, z0, z1, .inr ⟨rs, hne, hon, hpq, rfl⟩⟩ (fun σ Hh hP => ?_) mono_ne
      obtain ⟨l, r, qs, rfl, sb, hLs, r0, r1, alt⟩ := hP
      walk_at "rd"
      refine iteP (fun h2 => ?_) (fun h2 => ?_)
      · have hr0 : r ≠ 0 := by simpa using h2
        rcases alt with ⟨e, _⟩ | ⟨rest, hne', hon', hpq', hq⟩
        · exact absurd e hr0
        match rest, hne' with
        | r' :: t, _ =>
          obtain ⟨e1, e2, e3⟩ := pq_step hon'
          rw [hpq'] at e1 e2 e3
          have dv : CDivB l r := ⟨hr0, by have : r.natAbs < 2 ^ 1800 := by omega
                                          exact nb_le this⟩
          have hlen : (qs.map V.int).length < sizeLine := by
            have h1 := congrArg List.length hq
            rw [List.length_append, bump_len, bump_len] at h1
            have : 4000 ≤ sizeLine := by decide
            rw [List.length_map]
            omega
          walk_at "rd"
          have hlt := Int.fmod_lt_of_pos l (show 0 < r by omega)
          have hge := Int.fmod_nonneg_of_pos l (show 0 < r by omega)
          refine ⟨⟨_, _, qs ++ [l.fdiv r], rfl, fun c o nc hc => by rw [upd_ne nc]; exact sb c o nc hc, by rw [upd_same]; simp, hge, by show l.fmod r < _; omega, ?_⟩, ?_⟩
          · cases t with
            | nil =>
              refine .inl ⟨e2, ?_⟩
              rw [← hq, ← e1]
              rfl
            | cons r2 t2 =>
              refine .inr ⟨r2 :: t2, by simp, hon'.tail, ?_, ?_⟩
              · exact Prod.ext e3.symm e2.symm
              · rw [← hq, ← e1]
                simp
          · show (l.fmod r).natAbs < r.natAbs
            omega
      · have hr0 : r = 0 := by simpa using h2
        subst hr0
        have hq : qs = bump rs := by
          rcases alt with ⟨_, e⟩ | ⟨rest, hne', hon', hpq', hq⟩
          · exact e
          · have := (pq_pos rest hon'.nn).2
            rw [hpq'] at this
            exact absurd this (by show ¬ (1 : Int) ≤ 0; decide)
        subst hq
        obtain ⟨x0, t0, e0⟩ : ∃ x0 t0, bump rs = x0 :: t0 := by
          cases e : bump rs with
          | nil =>
            have := bump_len rs
            rw [e] at this
            match rs, hne, this with
            | _ :: _, _, h => cases h
          | cons x t => exact ⟨x, t, rfl⟩
        have k : ∀ p H', Same H H' → H' p = some (.tup ((if decL (dec0 (x0 :: t0)) = [0] then [] else decL (dec0 (x0 :: t0))).map V.int)) → Q (.ref p) H' := by
          rw [← e0]
          exact k
        rw [e0] at hLs
        have g0 : atI ((x0 :: t0).map V.int) 0 = some (.int x0) := atI_nat (j := 0) (by simp)
        have j0 : ixN ((x0 :: t0).map V.int).length 0 = some 0 := by rw [List.length_map]; exact ixN_zero _
        have hL2 : upd Hh L (.lst (((x0 :: t0).map V.int).set 0 (V.int (x0 - 1)))) L = some (.lst ((dec0 (x0 :: t0)).map V.int)) := upd_same
        obtain ⟨y, hy⟩ : ∃ y, (dec0 (x0 :: t0))[(dec0 (x0 :: t0)).length - 1]? = some y := ⟨_, List.getElem?_eq_getElem (by show _ < t0.length + 1; simp [dec0])⟩
        have hn : (dec0 (x0 :: t0)).length = t0.length + 1 := by simp [dec0]
        have g1 : atI ((dec0 (x0 :: t0)).map V.int) (-1) = some (.int y) := by
          unfold atI
          rw [List.length_map, hn, ixN_last]
          show ((dec0 (x0 :: t0)).map V.int)[t0.length]? = _
          rw [hn] at hy
          rw [List.getElem?_map, show t0.length = t0.length + 1 - 1 by omega, hy]
          rfl
        have j1 : ixN ((dec0 (x0 :: t0)).map V.int).length (-1) = some ((dec0 (x0 :: t0)).length - 1) := by rw [List.length_map, hn, ixN_last] <;> simp
        have e2 : ((dec0 (x0 :: t0)).map V.int).set ((dec0 (x0 :: t0)).length - 1) (.int (y - 1)) = (decL (dec0 (x0 :: t0))).map V.int := by rw [decL_set hy, List.map_set]
        obtain ⟨D2, hD⟩ : ∃ D2, D2 = decL (dec0 (x0 :: t0)) := ⟨_, rfl⟩
        rw [← hD] at k e2
        walk_at "rd"
        intro Z hZ
        have hL3 : upd (upd Hh L (.lst (((x0 :: t0).map V.int).set 0 (V.int (x0 - 1))))) L (.lst (((dec0 (x0 :: t0)).map V.int).set ((dec0 (x0 :: t0)).length - 1) (.int (y - 1)))) L = some (.lst (D2.map V.int)) := by rw [upd_same, e2]
        have s4 : Same H (upd (upd Hh L (.lst (((x0 :: t0).map V.int).set 0 (V.int (x0 - 1))))) L (.lst (((dec0 (x0 :: t0)).map V.int).set ((dec0 (x0 :: t0)).length - 1) (.int (y - 1))))) := fun c o hc => by
          have h1 := s1 _ _ hc
          have nc : c ≠ L := ne_of_none h1 hL
          rw [upd_ne nc, upd_ne nc]
          exact sb c o nc h1
        generalize upd (upd Hh L (.lst (((x0 :: t0).map V.int).set 0 (V.int (x0 - 1))))) L (.lst (((dec0 (x0 :: t0)).map V.int).set ((dec0 (x0 :: t0)).length - 1) (.int (y - 1)))) = H4 at hZ hL3 s4 ⊢
        have sZ := Same.new (o := .lst [.int 0]) hZ
        have hL5 := sZ _ _ hL3
        have dZ : upd H4 Z (.lst [.int 0]) Z = some (.lst [.int 0]) := upd_same
        have s5 := s4.trans sZ
        refine ⟨.list (D2.map PyData.int), .list ([0].map PyData.int), .lst (SqL.of hL5) (dp_ints D2), .lst (SqL.of dZ) (dp_ints [0]), shaped_ints D2, shaped_ints [0], ?_⟩
        rw [eqv_ints]
        walk_at "rd"
        refine iteP (fun h3 => ?_) (fun h3 => ?_)
        · walk_at "rd"
          intro p hp
          rw [if_pos (of_decide_eq_true h3)] at k
          exact k p _ (s5.trans (Same.new hp)) upd_same
        · walk_at "rd"
          refine .inl ⟨SqL.of hL5, fun p hp => ?_⟩
          rw [if_neg (fun z => h3 (decide_eq_true z))] at k
          exact k p _ (s5.trans (Same.new hp)) upd_same
  · walk_at "rd"
    exact .inr ⟨n, h⟩
end
end Sp
end
section
set_option Elab.async false
set_option linter.all false
set_option exponentiation.threshold 5000
set_option maxRecDepth 100000
set_option maxHeartbeats 0
local macro_rules | `(tactic| walk_at "leaf") => `(tactic| first | rfl | assumption | exact True.intro | exact L2.upd_same | exact L2.ClsV.ty _ | exact L2.ClsV.own _ | decide | exact of_decide_eq_true rfl | exact L2.SqL.of (by assumption) | exact L2.SqL.of L2.upd_same | exact Or.inl (L2.SqL.of L2.upd_same) | exact Or.inl (L2.SqL.of (by assumption)) | exact L2.SqT.of (by assumption) | exact L2.SqT.of L2.upd_same | exact Sp.cmL (by decide) | exact Sp.cmR (by decide) | exact ⟨by decide, by decide, by decide⟩ | exact ⟨by decide, by decide⟩ | exact Or.inr (L2.SqT.of (by assumption)) | exact Or.inl ⟨rfl, _, L2.SqL.of (by assumption)⟩ | exact Or.inl ⟨rfl, _, L2.SqL.of L2.upd_same⟩ | omega | fail)
local macro_rules | `(tactic| walk_at "rd1") => `(tactic| first
  | apply Sp.exI
  | (refine And.intro ?lf ?_; (case lf => walk_at "leaf"))
  | fail)
local macro_rules | `(tactic| walk_at "rd") => `(tactic| repeat (walk_at "rd1"))
local macro_rules | `(tactic| walk_at "fR") => `(tactic| (have := (‹Sp.G0 _ _›).R.cl; have := (‹Sp.G0 _ _›).R.no "top" (by simp); have := (‹Sp.G0 _ _›).R.no "bottom" (by simp)))
namespace Sp
open PySem PySem.Spec PyProof.Rows L2
section
variable {P : Program} {w : World} {K : PySem.W.Frag} {mg : Str → Option Value} {base : Heap} {f : Addr} {fd : FuncData}
variable (g_is_integer : GD P w K mg base (L2.CX P w) 1 "is_integer" ["value"] [] (spIsInt K))
  (g_is_ratio : GD P w K mg base (L2.CX P w) 2 "is_ratio" ["value"] [] (spIsRat K)) (g_need_ratio : GD P w K mg base (L2.CX P w) 6 "need_ratio" ["value", "part"] [] (spNeed K))
  (g_xBadRatio : GX P w K mg base 1 "BadRatio" "part" (cX K "BadRatio")) (g_xBadNumber : GX P w K mg base 1 "BadNumber" "part" (cX K "BadNumber")) (g_xUnlike : GX P w K mg base 1 "Unlike" "what" (cX K "Unlike"))
  (g_mRatio : GM P w K mg base (L2.CX P w) 3 "Ratio" (cR K) ["self", "top", "bottom"] [] (spInitR K)) (g_mRatio1 : GM P w K mg base (L2.CX P w) 3 "Ratio" (cR K) ["self", "top", "bottom"] [.int 1] (spInitR K))
  (g_Ratio_of : GS P w K mg base (L2.CX P w) 5 (cR K) "of" (spOf K)) (g_R_below : GP P w K mg base (L2.CX P w) 1 (cR K) "below" (spBelow K)) (g_R_is_whole : GP P w K mg base (L2.CX P w) 1 (cR K) "is_whole" (spWhole K))
variable (g_inverse : GD P w K mg base (L2.CX P w) 1 "inverse" ["number", "modulus"] [] spInv) (g_mediant : GD P w K mg base (L2.CX P w) 7 "mediant" ["one", "other"] [] (spMed K)) (g_are_near : GD P w K mg base (L2.CX P w) 7 "are_near" ["one", "other"] [] (spNear K))
  (g_whole_of : GD P w K mg base (L2.CX P w) 7 "whole_of" ["ratio"] [] (spWh K)) (g_parents : GD P w K mg base (L2.CX P w) 7 "parents" ["ratio"] [] (spPar K)) (g_runs_of : GD P w K mg base (L2.CX P w) 7 "runs_of" ["ratio"] [] (spRuns K))
variable (g_l_dip : GD P w K mg base (L2.CX P w) 1 "_law_dip" ["_law_pail_here", "_law_many"] [] spDip) (g_l_pail : GD P w K mg base (L2.CX P w) 1 "_law_pail" ["_law_script"] [] (spPail K)) (g_l_runs : GD P w K mg base (L2.CX P w) 2 "_law_runs" ["_law_pail_here"] [] spRunsL)
  (g_l_led : GD P w K mg base (L2.CX P w) 1 "_law_led" ["_law_whole", "_law_runs_here"] [] spLed) (g_l_is : GD P w K mg base (L2.CX P w) 1 "_law_is" ["_law_ratio", "_law_pair"] [] (spIs K)) (g_l_lowest : GD P w K mg base (L2.CX P w) 1 "_law_lowest" ["_law_top", "_law_bottom"] [] spLow)
  (g_l_letters_right : GD P w K mg base (L2.CX P w) 1 "_law_letters_right" ["_law_whole", "_law_runs_here", "_law_pair"] [] spLet) (g_l_led_right : GD P w K mg base (L2.CX P w) 8 "_law_led_right" ["_law_whole", "_law_runs_here"] [] spLedR) (g_l_any_right : GD P w K mg base (L2.CX P w) 8 "_law_any_right" ["_law_one", "_law_other"] [] spAnyR)
variable (g_are_near_k : GDK P w K mg base (L2.CX P w) 7 "are_near" ["one", "other"] 2 [0, 1] (spNear K)) (g_mediant_k : GDK P w K mg base (L2.CX P w) 7 "mediant" ["other", "one"] 2 [1, 0] (spMed K))
  (g_whole_of_k : GDK P w K mg base (L2.CX P w) 7 "whole_of" ["ratio"] 1 [0] (spWh K)) (g_parents_k : GDK P w K mg base (L2.CX P w) 7 "parents" ["ratio"] 1 [0] (spPar K))

theorem sc_pail : FnScope ["_law_script", "_law_cell"] ["_law_script"] (defScope (topS 34)) := ⟨rfl, rfl, rfl, by decide +kernel, rfl, by decide +kernel, by decide +kernel⟩
theorem ok_pail (G : G0 K mg) (F : FP K "_law_pail" "_law_pail" (topS 34) [] f fd) : FnOk P w K mg base (L2.CX P w) 1 f fd ["_law_script"] (spPail K) := by
  have nd := sc_pail.nd
  refine F.ok sc_pail (fun vs H Q E h => by obtain ⟨_, _, rfl, _⟩ := h; rfl) (fun cdv A outer s H vs Q E hr h => ⟨_, pss_one (ps_ret (pe_lst (pa_cons (pe_lc (own := [("_law_cell", 1)]) (g := gName 1) (tt := tYes) rfl nd (pi_list (pe_slice sl_list (pv 0) po_none (po_some pe_int))) (blkOk_by (N := ["_law_script", "_law_cell"]) (sc := defScope (topS 34)) (by decide +kernel)) (fun _ _ _ _ _ => pg_name (i := 1) nd rfl (Or.inl rfl)) (fun _ _ _ _ _ => pts_nil) (fun _ _ _ _ _ => pe_callTy call_int1i rfl G.nm.int (by decide +kernel) (pa_cons (pv 1) pa_nil))) (pa_cons (pe_int) (pa_cons (pe_int) (pa_nil)))))), ?_⟩)
  obtain ⟨a, ns, rfl, h, q⟩ := h
  walk_at "rd"
  intro p hp
  have ey : ∃ ys : List Int, cutV (List.map V.int ns) none (some 60) = ys.map V.int ∧ ys.length ≤ 60 := by
    unfold cutV
    rw [← List.map_drop, ← List.map_take]
    refine ⟨_, rfl, ?_⟩
    have e : HT.sIx (List.map V.int ns).length (List.map V.int ns).length (some 60) = min 60 (List.map V.int ns).length := HT.sIx_nat _ _ 60
    rw [List.length_take, List.length_drop, e]
    omega
  obtain ⟨ys, ey, hlen⟩ := ey
  rw [ey]
  refine ⟨p, rfl, ⟨_, SqL.of upd_same⟩, fun D hD => ?_⟩
  have s1 : Same H (upd H p (.lst (ys.map V.int))) := fun b o e => by rw [upd_ne (ne_of_none e hp)]; exact e
  have pD : p ≠ D := ne_of_none upd_same hD
  refine lc_list (K := K) (a := p) (xs := ys.map V.int) (fun i Hh => Same H Hh ∧ Hh p = some (.lst (ys.map V.int)) ∧ Hh D = some (.lst ((ys.take i).map V.int))) ?_ (fun i H _ h => SqL.of h.2.1) ?_ ?_
  · refine ⟨fun b o e => ?_, ?_, upd_same⟩
    · rw [upd_ne (ne_of_none (s1 _ _ e) hD)]
      exact s1 _ _ e
    · rw [upd_ne pD]
      exact upd_same
  · intro i x H1 hx hP
    obtain ⟨p1, p2, p3⟩ := hP
    rw [List.getElem?_map] at hx
    obtain ⟨y, hy, rfl⟩ := Option.map_eq_some_iff.mp hx
    have hi := (List.getElem?_eq_some_iff.mp hy).1
    walk_at "rd"
    have h60 : 60 < sizeLine := by decide
    refine ⟨by rw [List.length_map, List.length_take]; omega, fun b o e => ?_, ?_, ?_⟩
    · rw [upd_ne]
      · exact p1 _ _ e
      · intro z
        subst z
        rw [show H b = none from by
          cases q : H b with
          | none => rfl
          | some u => rw [s1 _ _ q] at hD; cases hD] at e
        cases e
    · rw [upd_ne pD]
      exact p2
    · rw [upd_same, List.take_add_one, hy]
      simp
  · intro H1 hP
    obtain ⟨p1, p2, p3⟩ := hP
    have h3 : 3 ≤ sizeLine := by decide
    walk_at "rd"
    intro r hr
    have rD : D ≠ r := ne_of_none p3 hr
    refine q r _ (fun b o e => ?_) ?_ ⟨D, ys, 0, 0, upd_same, ?_, by omega, by omega, by omega⟩
    · rw [upd_ne (ne_of_none (p1 _ _ e) hr)]
      exact p1 _ _ e
    · cases z : H r with
      | none => rfl
      | some u => rw [p1 _ _ z] at hr; cases hr
    · rw [upd_ne rD, p3, List.length_map, List.take_length]
theorem sc_dip : FnScope ["_law_pail_here", "_law_many", "_law_digit", "_law_at", "_law_cell", "_law_great", "_law_mixed"] ["_law_pail_here", "_law_many"] (defScope (topS 35)) := ⟨rfl, rfl, rfl, by decide +kernel, rfl, by decide +kernel, by decide +kernel⟩
theorem ok_dip (G : G0 K mg) (F : FP K "_law_dip" "_law_dip" (topS 35) [] f fd) : FnOk P w K mg base (L2.CX P w) 1 f fd ["_law_pail_here", "_law_many"] spDip := by
  have nd := sc_dip.nd
  refine F.ok sc_dip (fun vs H Q E h => by obtain ⟨_, _, _, _, rfl, _⟩ := h; rfl) (fun cdv A outer s H vs Q E hr h => ⟨_, pss_cons (ps_if (pt_cmpR op_gt (pe_ix ix_list (pv 0) (pe_int) (fun _ _ => rfl)) (pe_int) (nomark _)) (pss_cons (ps_set (i := 2) nd rfl (Or.inl rfl) (pe_op op_mod (pe_callTy call_int1i rfl G.nm.int (by decide +kernel) (pa_cons (pe_ix ix_list (pv 0) (pe_int) (fun _ _ => rfl)) (pa_nil))) (pv 1))) (pss_cons (ps_asg (pe_op op_fdivB (pe_callTy call_int1i rfl G.nm.int (by decide +kernel) (pa_cons (pe_ix ix_list (pv 0) (pe_int) (fun _ _ => rfl)) (pa_nil))) (pv 1)) (pg_sub (pv 0) (pe_int) set_list)) (pss_one (ps_ret (pv 2))))) (pss_nil)) (pss_cons (ps_set (i := 3) nd rfl (Or.inl rfl) (pe_ix ix_list (pv 0) (pe_int) (fun _ _ => rfl))) (pss_cons (ps_asg (pe_op op_add (pv 3) (pe_int)) (pg_sub (pv 0) (pe_int) set_list)) (pss_cons (ps_set (i := 4) nd rfl (Or.inl rfl) (pe_op op_add (pe_op op_mul (pe_int) (pv 3)) (pe_int))) (pss_cons (ps_if (pt_cmpR (op_neD hr.units) (pe_ix ix_list (pv 0) (pe_int) (fun _ _ => rfl)) (pe_lst (pa_nil)) (nomark _)) (pss_one (ps_set (i := 4) nd rfl (Or.inl rfl) (pe_ix ix_list (pe_ix ix_list (pv 0) (pe_int) (fun _ _ => rfl)) (pe_op op_mod (pe_callTy call_int1i rfl G.nm.int (by decide +kernel) (pa_cons (pv 3) (pa_nil))) (pe_callB call_len_seq rfl G.nm.len (by decide +kernel) (pa_cons (pe_ix ix_list (pv 0) (pe_int) (fun _ _ => rfl)) (pa_nil)))) (fun _ _ => rfl)))) (pss_nil)) (pss_cons (ps_if (PW.pt (pw_and (pt_cmpR op_lt (pv 3) (pe_callB call_len_seq rfl G.nm.len (by decide +kernel) (pa_cons (pe_ix ix_list (pv 0) (pe_int) (fun _ _ => rfl)) (pa_nil))) (nomark _)) (pw_and1 (pt_cmpR op_ge (pe_callB call_abs rfl G.nm.abs (by decide +kernel) (pa_cons (pv 4) (pa_nil))) (pe_op op_pow (pe_int) (pe_int)) (nomark _))))) (pss_cons (ps_set (i := 5) nd rfl (Or.inl rfl) (pe_op op_add (pe_op op_mul (pe_int) (pe_op op_sub (pe_callB call_abs rfl G.nm.abs (by decide +kernel) (pa_cons (pv 4) (pa_nil))) (pe_op op_pow (pe_int) (pe_int)))) (pe_callTy call_int1b rfl G.nm.int (by decide +kernel) (pa_cons (pe_cmpR op_lt (pv 4) (pe_int) (nomark _)) (pa_nil))))) (pss_cons (ps_asg (pe_op op_fdivB (pe_callTy call_int1i rfl G.nm.int (by decide +kernel) (pa_cons (pv 5) (pa_nil))) (pv 1)) (pg_sub (pv 0) (pe_int) set_list)) (pss_one (ps_ret (pe_op op_mod (pe_callTy call_int1i rfl G.nm.int (by decide +kernel) (pa_cons (pv 5) (pa_nil))) (pv 1)))))) (pss_nil)) (pss_cons (ps_set (i := 6) nd rfl (Or.inl rfl) (pe_op op_mod (pe_callTy call_int1i rfl G.nm.int (by decide +kernel) (pa_cons (pe_op op_pow (pe_op op_add (pe_op op_add (pe_op op_mod (pe_callTy call_int1i rfl G.nm.int (by decide +kernel) (pa_cons (pv 4) (pa_nil))) (pe_int)) (pe_op op_mul (pe_int) (pv 3))) (pe_int)) (pe_int)) (pa_nil))) (pe_int))) (pss_cons (ps_set (i := 6) nd rfl (Or.inl rfl) (pe_op op_mod (pe_callTy call_int1i rfl G.nm.int (by decide +kernel) (pa_cons (pe_op op_pow (pe_op op_add (pe_op op_add (pe_op op_mul (pv 6) (pe_op op_add (pe_op op_mul (pe_int) (pv 3)) (pe_int))) (pe_op op_mul (pe_op op_mul (pe_int) (pv 3)) (pv 3))) (pe_int)) (pe_int)) (pa_nil))) (pe_int))) (pss_one (ps_ret (pe_op op_mod (pe_callTy call_int1i rfl G.nm.int (by decide +kernel) (pa_cons (pe_op op_fdivB (pv 6) (pe_int)) (pa_nil))) (pv 1))))))))))), ?_⟩)
  obtain ⟨a, c, m, N, rfl, ⟨cs, n, g, ha, hc, n0, nN, g0⟩, hN, m0, m1, q⟩ := h
  have dm : ∀ x, CDivB x m := fun x => ⟨by omega, by have h2 : (2 : Nat) ^ 30 ≤ 2 ^ 4000 := Nat.pow_le_pow_right (by decide) (by decide); omega⟩
  have dg := dm g
  have ca : c ≠ a := by
    intro z
    subst z
    rw [ha] at hc
    injection hc with hc
    injection hc with hc
    cases cs <;> cases hc
  walk_at "rd"
  refine iteP (fun h1 => ?_) (fun h1 => ?_)
  · have h1 : 0 < g := of_decide_eq_true h1
    walk_at "rd"
    have e : Sb a H (upd H a (.lst [.ref c, .int n, .int (g.fdiv m)])) := fun b o nb e => by rw [upd_ne nb]; exact e
    exact q (g % m) _ (Int.emod_nonneg _ (by omega)) (Int.emod_lt_of_pos _ m0) ⟨cs, n, g.fdiv m, upd_same, e _ _ ca hc, n0, by omega, Int.fdiv_nonneg g0 (by omega)⟩ e
  · have hc1 : upd H a (.lst [.ref c, .int (n + 1), .int g]) c = some (.lst (cs.map V.int)) := by
      rw [upd_ne ca]
      exact hc
    walk_at "rd"
    intro l hl
    have hc2 := (upd_ne (o := .lst []) (ne_of_none hc1 hl)).trans hc1
    refine ⟨_, _, .lst (SqL.of hc2) (dp_ints cs), .lst (SqL.of upd_same) .nil, shaped_ints cs, rfl, ?_⟩
    walk_at "rd"
    have hla : a ≠ l := ne_of_none (show upd H a (.lst [.ref c, .int (n + 1), .int g]) a = some _ from upd_same) hl
    have ha2 : upd (upd H a (.lst [.ref c, .int (n + 1), .int g])) l (.lst []) a = some (.lst [.ref c, .int (n + 1), .int g]) := by
      rw [upd_ne hla]
      exact upd_same
    apply tailR
    · intro tail
      refine iteP (fun h2 => ?_) (fun h2 => ?_)
      · have hl0 : 0 < ((cs.map V.int).length : Int) := by
          cases cs with
          | nil => cases h2
          | cons y ys => simp
        have hat : ∃ x : Int, atI (cs.map V.int) (n % ((cs.map V.int).length : Int)) = some (.int x) := by
          have r1 := Int.emod_nonneg n (show ((cs.map V.int).length : Int) ≠ 0 by omega)
          have r2 := Int.emod_lt_of_pos n hl0
          obtain ⟨j, hj⟩ : ∃ j : Nat, n % ((cs.map V.int).length : Int) = j := ⟨(n % ((cs.map V.int).length : Int)).toNat, by omega⟩
          rw [hj]
          have hjl : j < cs.length := by rw [hj, List.length_map] at r2; omega
          refine ⟨cs[j], atI_nat ?_⟩
          rw [List.getElem?_map, List.getElem?_eq_getElem hjl]
          rfl
        obtain ⟨x, hat⟩ := hat
        walk_at "rd"
        exact tail x
      · walk_at "rd"
        exact tail (59113 * n + 5011)
    · intro x
      have nM : n ≤ 1000000 := by omega
      have cp1 : CPow (x % 2147483629 + 66301 * n + 5011) 5 := ⟨by decide, by decide, by omega⟩
      have y0 := Int.emod_nonneg ((x % 2147483629 + 66301 * n + 5011) ^ Int.toNat 5) (show (2147483647 : Int) ≠ 0 by decide)
      have y1 := Int.emod_lt_of_pos ((x % 2147483629 + 66301 * n + 5011) ^ Int.toNat 5) (show (0 : Int) < 2147483647 by decide)
      have cm1 : CMul ((x % 2147483629 + 66301 * n + 5011) ^ Int.toNat 5 % 2147483647) (2 * n + 2473) := .inr ⟨by omega, by omega⟩
      have cm2 : CMul (59113 * n) n := .inr ⟨by omega, by omega⟩
      have cp2 : CPow ((x % 2147483629 + 66301 * n + 5011) ^ Int.toNat 5 % 2147483647 * (2 * n + 2473) + 59113 * n * n + 41203) 3 := by
        refine ⟨by decide, by decide, ?_⟩
        revert y0 y1
        generalize (x % 2147483629 + 66301 * n + 5011) ^ Int.toNat 5 % 2147483647 = y
        intro y0 y1
        have b1 : y * (2 * n + 2473) ≤ 2147483647 * 2002473 := Int.mul_le_mul (by omega) (by omega) (by omega) (by decide)
        have b2 : 0 ≤ y * (2 * n + 2473) := Int.mul_nonneg y0 (by omega)
        have b3 : n * n ≤ 1000000 * 1000000 := Int.mul_le_mul nM nM n0 (by decide)
        have b4 : 0 ≤ n * n := Int.mul_nonneg n0 n0
        rw [Int.mul_assoc 59113]
        omega
      have d64 : ∀ z : Int, CDivB z 64 := fun z => ⟨by decide, by decide⟩
      have d64' := d64 (((x % 2147483629 + 66301 * n + 5011) ^ Int.toNat 5 % 2147483647 * (2 * n + 2473) + 59113 * n * n + 41203) ^ Int.toNat 3 % 2147483587)
      have dgr := dm (2 * ((if x < 0 then -x else x) - 10 ^ Int.toNat 18) + (if decide (x < 0) = true then 1 else 0))
      have sb2 : ∀ o', Sb a H (upd (upd (upd H a (.lst [.ref c, .int (n + 1), .int g])) l (.lst [])) a o') := fun o' b o nb e => by
        have h1 := (upd_ne (o := .lst [.ref c, .int (n + 1), .int g]) nb).trans e
        rw [upd_ne nb, upd_ne (ne_of_none h1 hl)]
        exact h1
      have sb1 : Sb a H (upd (upd H a (.lst [.ref c, .int (n + 1), .int g])) l (.lst [])) := fun b o nb e => by
        have h1 := (upd_ne (o := .lst [.ref c, .int (n + 1), .int g]) nb).trans e
        rw [upd_ne (ne_of_none h1 hl)]
        exact h1
      have fin1 : Pail (upd (upd H a (.lst [.ref c, .int (n + 1), .int g])) l (.lst [])) a c (N + 1) := ⟨cs, n + 1, g, ha2, hc2, by omega, by omega, g0⟩
      refine iteP (fun h3 => ?_) (fun h3 => ?_)
      · walk_at "rd"
        refine iteP (fun h4 => ?_) (fun h4 => ?_)
        · walk_at "rd"
          refine q _ _ (Int.emod_nonneg _ (by omega)) (Int.emod_lt_of_pos _ m0) ⟨cs, n + 1, _, upd_same, sb2 _ _ _ ca hc, by omega, by omega, Int.fdiv_nonneg ?_ (by omega)⟩ (sb2 _)
          have h4 : (10 : Int) ^ Int.toNat 18 ≤ (if x < 0 then -x else x) := of_decide_eq_true h4
          have : (0 : Int) ≤ (if decide (x < 0) = true then 1 else 0) := by split <;> decide
          omega
        · walk_at "rd"
          exact q _ _ (Int.emod_nonneg _ (by omega)) (Int.emod_lt_of_pos _ m0) fin1 sb1
      · walk_at "rd"
        exact q _ _ (Int.emod_nonneg _ (by omega)) (Int.emod_lt_of_pos _ m0) fin1 sb1
end
end Sp
end
section
set_option Elab.async false
set_option linter.all false
set_option exponentiation.threshold 5000
set_option maxRecDepth 100000
set_option maxHeartbeats 0
local macro_rules | `(tactic| walk_at "leaf") => `(tactic| first | rfl | assumption | exact True.intro | exact L2.upd_same | exact L2.ClsV.ty _ | exact L2.ClsV.own _ | decide | exact of_decide_eq_true rfl | exact L2.SqL.of (by assumption) | exact L2.SqL.of L2.upd_same | exact Or.inl (L2.SqL.of L2.upd_same) | exact Or.inl (L2.SqL.of (by assumption)) | exact L2.SqT.of (by assumption) | exact L2.SqT.of L2.upd_same | exact Sp.cmL (by decide) | exact Sp.cmR (by decide) | exact ⟨by decide, by decide, by decide⟩ | exact ⟨by decide, by decide⟩ | exact Or.inr (L2.SqT.of (by assumption)) | exact Or.inl ⟨rfl, _, L2.SqL.of (by assumption)⟩ | exact Or.inl ⟨rfl, _, L2.SqL.of L2.upd_same⟩ | omega | fail)
local macro_rules | `(tactic| walk_at "rd1") => `(tactic| first
  | apply Sp.exI
  | (refine And.intro ?lf ?_; (case lf => walk_at "leaf"))
  | fail)
local macro_rules | `(tactic| walk_at "rd") => `(tactic| repeat (walk_at "rd1"))
local macro_rules | `(tactic| walk_at "fR") => `(tactic| (have := (‹Sp.G0 _ _›).R.cl; have := (‹Sp.G0 _ _›).R.no "top" (by simp); have := (‹Sp.G0 _ _›).R.no "bottom" (by simp)))
namespace Sp
open PySem PySem.Spec PyProof.Rows L2
section
variable {P : Program} {w : World} {K : PySem.W.Frag} {mg : Str → Option Value} {base : Heap} {f : Addr} {fd : FuncData}
variable (g_is_integer : GD P w K mg base (L2.CX P w) 1 "is_integer" ["value"] [] (spIsInt K))
  (g_is_ratio : GD P w K mg base (L2.CX P w) 2 "is_ratio" ["value"] [] (spIsRat K)) (g_need_ratio : GD P w K mg base (L2.CX P w) 6 "need_ratio" ["value", "part"] [] (spNeed K))
  (g_xBadRatio : GX P w K mg base 1 "BadRatio" "part" (cX K "BadRatio")) (g_xBadNumber : GX P w K mg base 1 "BadNumber" "part" (cX K "BadNumber")) (g_xUnlike : GX P w K mg base 1 "Unlike" "what" (cX K "Unlike"))
  (g_mRatio : GM P w K mg base (L2.CX P w) 3 "Ratio" (cR K) ["self", "top", "bottom"] [] (spInitR K)) (g_mRatio1 : GM P w K mg base (L2.CX P w) 3 "Ratio" (cR K) ["self", "top", "bottom"] [.int 1] (spInitR K))
  (g_Ratio_of : GS P w K mg base (L2.CX P w) 5 (cR K) "of" (spOf K)) (g_R_below : GP P w K mg base (L2.CX P w) 1 (cR K) "below" (spBelow K)) (g_R_is_whole : GP P w K mg base (L2.CX P w) 1 (cR K) "is_whole" (spWhole K))
variable (g_inverse : GD P w K mg base (L2.CX P w) 1 "inverse" ["number", "modulus"] [] spInv) (g_mediant : GD P w K mg base (L2.CX P w) 7 "mediant" ["one", "other"] [] (spMed K)) (g_are_near : GD P w K mg base (L2.CX P w) 7 "are_near" ["one", "other"] [] (spNear K))
  (g_whole_of : GD P w K mg base (L2.CX P w) 7 "whole_of" ["ratio"] [] (spWh K)) (g_parents : GD P w K mg base (L2.CX P w) 7 "parents" ["ratio"] [] (spPar K)) (g_runs_of : GD P w K mg base (L2.CX P w) 7 "runs_of" ["ratio"] [] (spRuns K))
variable (g_l_dip : GD P w K mg base (L2.CX P w) 1 "_law_dip" ["_law_pail_here", "_law_many"] [] spDip) (g_l_pail : GD P w K mg base (L2.CX P w) 1 "_law_pail" ["_law_script"] [] (spPail K)) (g_l_runs : GD P w K mg base (L2.CX P w) 2 "_law_runs" ["_law_pail_here"] [] spRunsL)
  (g_l_led : GD P w K mg base (L2.CX P w) 1 "_law_led" ["_law_whole", "_law_runs_here"] [] spLed) (g_l_is : GD P w K mg base (L2.CX P w) 1 "_law_is" ["_law_ratio", "_law_pair"] [] (spIs K)) (g_l_lowest : GD P w K mg base (L2.CX P w) 1 "_law_lowest" ["_law_top", "_law_bottom"] [] spLow)
  (g_l_letters_right : GD P w K mg base (L2.CX P w) 1 "_law_letters_right" ["_law_whole", "_law_runs_here", "_law_pair"] [] spLet) (g_l_led_right : GD P w K mg base (L2.CX P w) 8 "_law_led_right" ["_law_whole", "_law_runs_here"] [] spLedR) (g_l_any_right : GD P w K mg base (L2.CX P w) 8 "_law_any_right" ["_law_one", "_law_other"] [] spAnyR)
variable (g_are_near_k : GDK P w K mg base (L2.CX P w) 7 "are_near" ["one", "other"] 2 [0, 1] (spNear K)) (g_mediant_k : GDK P w K mg base (L2.CX P w) 7 "mediant" ["other", "one"] 2 [1, 0] (spMed K))
  (g_whole_of_k : GDK P w K mg base (L2.CX P w) 7 "whole_of" ["ratio"] 1 [0] (spWh K)) (g_parents_k : GDK P w K mg base (L2.CX P w) 7 "parents" ["ratio"] 1 [0] (spPar K))

/-- the list while it is made -/
structure MkR (H0 H : Hp) (a c l : Addr) (N : Nat) (rs : List Int) : Prop where
  lst : H l = some (.lst (rs.map V.int))
  first : ∀ r t, rs = r :: t → 0 ≤ r ∧ Ones t
  size : ∀ x ∈ rs, x < 2 ^ 31
  pail : Pail H a c N
  sb : Sb a H0 H
  new : H0 l = none
  la : l ≠ a
  lc : l ≠ c
theorem MkR.go {H0 H H' : Hp} {a c l : Addr} {N M : Nat} {rs : List Int} (h : MkR H0 H a c l N rs) (p : Pail H' a c M) (s : Sb a H H') : MkR H0 H' a c l M rs := ⟨s _ _ h.la h.lst, h.first, h.size, p, h.sb.trans s, h.new, h.la, h.lc⟩
theorem MkR.mono {H0 H : Hp} {a c l : Addr} {N M : Nat} {rs : List Int} (h : MkR H0 H a c l N rs) (e : N ≤ M := by omega) : MkR H0 H a c l M rs := h.go (h.pail.mono e) (fun _ _ _ e => e)
theorem MkR.push {H0 H : Hp} {a c l : Addr} {N : Nat} {rs : List Int} {x : Int} (h : MkR H0 H a c l N rs) (h0 : rs = [] → 0 ≤ x) (h1 : rs ≠ [] → 1 ≤ x) (hx : x < 2 ^ 31) : MkR H0 (upd H l (.lst (rs.map V.int ++ [.int x]))) a c l N (rs ++ [x]) := by
  refine ⟨by rw [upd_same]; simp, ?_, ?_, ?_, ?_, h.new, h.la, h.lc⟩
  · intro r t e
    cases rs with
    | nil =>
      cases e
      exact ⟨h0 rfl, fun y hy => by cases hy⟩
    | cons r' t' =>
      obtain ⟨z1, z2⟩ := h.first r' t' rfl
      cases e
      refine ⟨z1, fun y hy => ?_⟩
      rcases List.mem_append.mp hy with z | z
      · exact z2 y z
      · rw [List.mem_singleton.mp z]
        exact h1 (by simp)
  · intro y hy
    rcases List.mem_append.mp hy with z | z
    · exact h.size y z
    · rw [List.mem_singleton.mp z]
      exact hx
  · obtain ⟨cs, n, g, e1, e2, r⟩ := h.pail
    exact ⟨cs, n, g, by rw [upd_ne h.la.symm]; exact e1, by rw [upd_ne h.lc.symm]; exact e2, r⟩
  · intro b o nb e
    rw [upd_ne (ne_of_none e h.new)]
    exact h.sb b o nb e
theorem sc_lruns : FnScope ["_law_pail_here", "_law_runs_here", "_law_turn", "_law_many"] ["_law_pail_here"] (defScope (topS 36)) := ⟨rfl, rfl, rfl, by decide +kernel, rfl, by decide +kernel, by decide +kernel⟩
include g_l_dip in
theorem ok_lruns (G : G0 K mg) (F : FP K "_law_runs" "_law_runs" (topS 36) [] f fd) : FnOk P w K mg base (L2.CX P w) 2 f fd ["_law_pail_here"] spRunsL := by
  have nd := sc_lruns.nd
  refine F.ok sc_lruns (fun vs H Q E h => by obtain ⟨_, _, _, rfl, _⟩ := h; rfl) (fun cdv A outer s H vs Q E hr h => ⟨_, pss_cons (ps_set (i := 1) nd rfl (Or.inl rfl) (pe_lst (pa_nil))) (pss_cons (ps_for ((passes_of rfl)) rfl (pi_range1 rfl G.nm.range (pa_cons (pe_gd g_l_dip (hr.mono (by decide)) rfl (pxE rfl rfl rfl rfl) (pa_cons (pv 0) (pa_cons (pe_int) (pa_nil)))) (pa_nil))) (pg_name (i := 2) nd rfl (Or.inl rfl)) (pss_cons (ps_set (i := 3) nd rfl (Or.inl rfl) (pe_gd g_l_dip (hr.mono (by decide)) rfl (pxE rfl rfl rfl rfl) (pa_cons (pv 0) (pa_cons (pe_int) (pa_nil))))) (pss_cons (ps_if (pt_cmpR op_eq (pe_gd g_l_dip (hr.mono (by decide)) rfl (pxE rfl rfl rfl rfl) (pa_cons (pv 0) (pa_cons (pe_int) (pa_nil)))) (pe_int) (nomark _)) (pss_one (ps_set (i := 3) nd rfl (Or.inl rfl) (pe_op op_add (pe_op op_mul (pe_gd g_l_dip (hr.mono (by decide)) rfl (pxE rfl rfl rfl rfl) (pa_cons (pv 0) (pa_cons (pe_int) (pa_nil)))) (pe_int)) (pv 3)))) (pss_nil)) (pss_one (ps_expr (pe_bm PySem.F.plainAttrs_list PySem.F.slot_list_append PySem.F.type_list_append mt_append (pv 1) (pa_cons (pe_op op_add (pv 3) (pe_callTy call_int1b rfl G.nm.int (by decide +kernel) (pa_cons (pe_cmpR op_gt (pv 2) (pe_int) (nomark _)) (pa_nil)))) (pa_nil)))))))) (pss_one (ps_ret (pe_ifExp (pt_cmpR (op_eqD hr.units) (pv 1) (pe_lst (pa_cons (pe_int) (pa_nil))) (nomark _)) (pe_lst (pa_cons (pe_op op_add (pe_int) (pe_gd g_l_dip (hr.mono (by decide)) rfl (pxE rfl rfl rfl rfl) (pa_cons (pv 0) (pa_cons (pe_int) (pa_nil))))) (pa_nil))) (pv 1))))), ?_⟩)
  obtain ⟨a, c, N, rfl, hp, hN, q⟩ := h
  walk_at "rd"
  intro L hL
  have hLa : L ≠ a := fun z => by
    obtain ⟨cs, n, g, e1, _⟩ := hp
    rw [z, e1] at hL
    cases hL
  have hLc : L ≠ c := fun z => by
    obtain ⟨cs, n, g, _, e2, _⟩ := hp
    rw [z, e2] at hL
    cases hL
  have sA := Same.new (o := .lst []) hL
  have m0 : MkR H (upd H L (.lst [])) a c L N [] := ⟨upd_same, fun _ _ e => (by cases e), fun _ e => (by cases e), hp.ext sA, Same.sb sA, hL, hLa, hLc⟩
  have p0 := m0.pail
  walk_at "rd"
  intro n H1 n0 n6 p1 s1
  have m1 := m0.go p1 s1
  walk_at "rd"
  refine for_range (n := n.toNat) (lo := 0) (fun i σ Hh => ∃ x2 x3 rs, σ = [some (V.ref a), some (V.ref L), x2, x3] ∧ rs.length = i ∧ MkR H Hh a c L (N + 1 + 3 * i) rs) ⟨_, _, [], rfl, rfl, m1⟩ (fun i σ Hh hi hP => ?_) (fun σ Hh hP => ?_)
  · obtain ⟨x2, x3, rs, rfl, hl, m⟩ := hP
    have i5 : i < 5 ∨ i = 5 := by omega
    have hN1 : N + 1 + 3 * i ≤ 1000000 := by omega
    have pm := m.pail
    walk_at "rd"
    intro d1 H2 a1 b1 p2 s2
    have m2 := m.go p2 s2
    walk_at "rd"
    intro d2 H3 a2 b2 p3 s3
    have m3 := m2.go p3 s3
    walk_at "rd"
    have fin : ∀ (y : Int) (Hx : Hp), 0 ≤ y → y < 2 ^ 31 - 5 → MkR H Hx a c L (N + 1 + 3 * (i + 1)) rs → MkR H (upd Hx L (.lst (rs.map V.int ++ [.int (y + (if decide (0 < 0 + (i : Int)) = true then 1 else 0))]))) a c L (N + 1 + 3 * (i + 1)) (rs ++ [y + (if decide (0 < 0 + (i : Int)) = true then 1 else 0)]) := fun y Hx y0 y1 m => by
      refine m.push (fun e => ?_) (fun e => ?_) ?_
      · split <;> omega
      · have : 0 < i := by rw [← hl]; exact List.length_pos_iff.mpr e
        rw [if_pos (decide_eq_true (by omega))]
        omega
      · split <;> omega
    have hls : ∀ {Hx : Hp} {M : Nat}, MkR H Hx a c L M rs → (rs.map V.int).length < sizeLine := fun _ => by
      rw [List.length_map, hl]
      have : 4000 ≤ sizeLine := by decide
      omega
    have hls' := hls m3
    refine iteP (fun h1 => ?_) (fun h1 => ?_)
    · have p3 := m3.pail
      walk_at "rd"
      intro d3 H4 a3 b3 p4 s4
      have m4 := (m3.go p4 s4).mono (M := N + 1 + 3 * (i + 1))
      have cm1 : CMul d3 31622 := .inr ⟨by decide, by decide⟩
      have hL4 := m4.lst
      walk_at "rd"
      refine ⟨?_, fin _ _ ?_ ?_ m4⟩
      · simp [hl]
      · omega
      · omega
    · have m4 := m3.mono (M := N + 1 + 3 * (i + 1))
      have hL4 := m4.lst
      walk_at "rd"
      refine ⟨?_, fin _ _ ?_ ?_ m4⟩
      · simp [hl]
      · omega
      · omega
  · obtain ⟨x2, x3, rs, rfl, hl, m⟩ := hP
    have hn : rs.length ≤ 5 := by omega
    have hLs := m.lst
    walk_at "rd"
    intro Z hZ
    have sZ := Same.new (o := .lst [.int 0]) hZ
    have m5 := m.go (m.pail.ext sZ) (Same.sb sZ)
    have hL5 := m5.lst
    have dZ : upd Hh Z (.lst [.int 0]) Z = some (.lst [.int 0]) := upd_same
    refine ⟨.list (rs.map PyData.int), .list ([0].map PyData.int), .lst (SqL.of hL5) (dp_ints rs), .lst (SqL.of dZ) (dp_ints [0]), shaped_ints rs, shaped_ints [0], ?_⟩
    rw [eqv_ints]
    walk_at "rd"
    have p5 := m5.pail
    have hN5 : N + 1 + 3 * n.toNat ≤ 1000000 := by omega
    refine iteP (fun h3 => ?_) (fun h3 => ?_)
    · walk_at "rd"
      intro d H6 a6 b6 p6 s6
      have m6 := m5.go p6 s6
      walk_at "rd"
      intro Y hY
      have sY := Same.new (o := .lst [.int (1 + d)]) hY
      have m7 := m6.go (m6.pail.ext sY) (Same.sb sY)
      refine q Y [1 + d] _ ⟨fun r t e => ?_, fun e => ?_, by simp, fun x hx => ?_⟩ upd_same (fun z => ?_) (fun z => ?_) (m7.pail.mono (by omega)) m7.sb
      · cases e
        exact ⟨by omega, fun y hy => by cases hy⟩
      · injection e with e
        omega
      · rw [List.mem_singleton.mp hx]
        omega
      · obtain ⟨cs, n, g, e1, _⟩ := p6
        rw [z, e1] at hY
        cases hY
      · obtain ⟨cs, n, g, _, e2, _⟩ := p6
        rw [z, e2] at hY
        cases hY
    · walk_at "rd"
      exact q L rs _ ⟨m.first, fun e => h3 (decide_eq_true e), hn, m.size⟩ hL5 hLa hLc (m5.pail.mono (by omega)) m5.sb
theorem sc_led : FnScope ["_law_whole", "_law_runs_here", "_law_low", "_law_high", "_law_at", "_law_many"] ["_law_whole", "_law_runs_here"] (defScope (topS 37)) := ⟨rfl, rfl, rfl, by decide +kernel, rfl, by decide +kernel, by decide +kernel⟩
theorem ok_led (G : G0 K mg) (F : FP K "_law_led" "_law_led" (topS 37) [] f fd) : FnOk P w K mg base (L2.CX P w) 1 f fd ["_law_whole", "_law_runs_here"] spLed := by
  have nd := sc_led.nd
  refine F.ok sc_led (fun vs H Q E h => by obtain ⟨_, _, _, rfl, _⟩ := h; rfl) (fun cdv A outer s H vs Q E hr h => ⟨_, pss_cons (ps_par (i := 2) (j := 3) rfl nd rfl rfl (by decide) rfl rfl (pa_cons (pe_tup (pa_cons (pv 0) (pa_cons (pe_int) (pa_nil)))) (pa_cons (pe_tup (pa_cons (pe_op op_add (pv 0) (pe_int)) (pa_cons (pe_int) (pa_nil)))) pa_nil)) rfl) (pss_cons (ps_for ((passes_of rfl)) rfl (pi_enum rfl G.nm.enumerate (pa_cons (pv 1) pa_nil)) (pg_tup rfl (pgs_cons (pg_name (i := 4) nd rfl (Or.inl rfl)) (pgs_cons (pg_name (i := 5) nd rfl (Or.inl rfl)) (pgs_nil)))) (pss_one (ps_if (pt_cmpR op_in_seq (pv 4) (pe_tup (pa_cons (pe_int) (pa_cons (pe_int) (pa_cons (pe_int) (pa_nil))))) rfl) (pss_one (ps_set (i := 3) nd rfl (Or.inl rfl) (pe_tup (pa_cons (pe_op op_add (pe_ix ix_tup (pv 3) (pe_int) (fun _ _ => rfl)) (pe_op op_mulB (pv 5) (pe_ix ix_tup (pv 2) (pe_int) (fun _ _ => rfl)))) (pa_cons (pe_op op_add (pe_ix ix_tup (pv 3) (pe_int) (fun _ _ => rfl)) (pe_op op_mulB (pv 5) (pe_ix ix_tup (pv 2) (pe_int) (fun _ _ => rfl)))) (pa_nil)))))) (pss_one (ps_set (i := 2) nd rfl (Or.inl rfl) (pe_tup (pa_cons (pe_op op_add (pe_ix ix_tup (pv 2) (pe_int) (fun _ _ => rfl)) (pe_op op_mulB (pv 5) (pe_ix ix_tup (pv 3) (pe_int) (fun _ _ => rfl)))) (pa_cons (pe_op op_add (pe_ix ix_tup (pv 2) (pe_int) (fun _ _ => rfl)) (pe_op op_mulB (pv 5) (pe_ix ix_tup (pv 3) (pe_int) (fun _ _ => rfl)))) (pa_nil))))))))) (pss_one (ps_ret (pe_tup (pa_cons (pv 2) (pa_cons (pv 3) (pa_nil))))))), ?_⟩)
  obtain ⟨w0, l, rs, rfl, hl, hrs, hw, q⟩ := h
  walk_at "rd"
  intro p1 hp1
  have s1 := Same.new (o := .tup [.int w0, .int 1]) hp1
  walk_at "rd"
  intro p2 hp2
  have s2 := Same.new (o := .tup [.int (w0 + 1), .int 1]) hp2
  have hl2 := s2 _ _ (s1 _ _ hl)
  have e1 := s2 _ _ (upd_same (H := H) (a := p1) (o := .tup [.int w0, .int 1]))
  walk_at "rd"
  refine for_enum (xs := rs.map V.int) (fun i σ Hh => ∃ x4 x5 q1 q2, ∃ s : Q4, σ = [some (V.int w0), some (V.ref l), some (V.ref q1), some (V.ref q2), x4, x5] ∧ Same H Hh ∧ Hh l = some (.lst (rs.map V.int)) ∧ Two Hh q1 s.a s.b ∧ Two Hh q2 s.c s.d ∧
      ledGo (decide (i % 2 = 0)) (rs.drop i) s = ledGo true rs ⟨w0, 1, w0 + 1, 1⟩ ∧ s.Sm (7 + 32 * i)) ⟨_, _, p1, p2, ⟨w0, 1, w0 + 1, 1⟩, rfl, s1.trans s2, hl2, e1, upd_same, rfl, ?_⟩ (fun i σ Hh _ hP => ?_) (fun i x σ Hh T hx hP hT => ?_) (fun σ Hh hP => ?_)
  · exact ⟨by show w0.natAbs < 128; omega, by show (1 : Int).natAbs < 128; decide, by show (w0 + 1).natAbs < 128; omega, by show (1 : Int).natAbs < 128; decide⟩
  · obtain ⟨x4, x5, q1, q2, s, rfl, _, h, _⟩ := hP
    exact SqL.of h
  · obtain ⟨x4, x5, q1, q2, s, rfl, sm, hlh, t1, t2, eg, z⟩ := hP
    rw [List.getElem?_map] at hx
    obtain ⟨r, hr', rfl⟩ := Option.map_eq_some_iff.mp hx
    have hi := (List.getElem?_eq_some_iff.mp hr').1
    have h5 := hrs.many
    have i5 : i < 5 := by omega
    have r0 := hrs.nn r (List.mem_of_getElem? hr')
    have r1 := hrs.size r (List.mem_of_getElem? hr')
    have ed : rs.drop i = r :: rs.drop (i + 1) := by rw [List.drop_eq_getElem_cons hi, (List.getElem?_eq_some_iff.mp hr').2]
    rw [ed] at eg
    have sT := Same.new (o := .tup [.int (i : Nat), .int r]) hT
    have t1' := sT _ _ t1
    have t2' := sT _ _ t2
    have hl' := sT _ _ hlh
    have sm' := sm.trans sT
    have zr : r.natAbs < 2 ^ 31 := by omega
    have zz : 7 + 32 * i ≤ 4000 := by omega
    have c1 : CMulB r s.a := cm zr z.a
    have c2 : CMulB r s.b := cm zr z.b
    have c3 : CMulB r s.c := cm zr z.c
    have c4 : CMulB r s.d := cm zr z.d
    walk_at "rd"
    intro M hM
    have sM := Same.new (o := .tup [.int 0, .int 2, .int 4]) hM
    have t1m := sM _ _ t1'
    have t2m := sM _ _ t2'
    have hlm := sM _ _ hl'
    have smm := sm'.trans sM
    have i3 := in3 i i5
    refine ⟨M, _, rfl, .inr (SqT.of upd_same), rfl, rfl, decide (i % 2 = 0), congrArg V.bl i3, ?_⟩
    refine iteP (fun h1 => ?_) (fun h1 => ?_)
    · have hp : i % 2 = 0 := of_decide_eq_true h1
      rw [h1] at eg
      walk_at "rd"
      intro W hW
      have sW := Same.new (o := .tup [.int (s.c + r * s.a), .int (s.d + r * s.b)]) hW
      refine ⟨_, _, q1, W, ⟨s.a, s.b, s.c + r * s.a, s.d + r * s.b⟩, rfl, smm.trans sW, sW _ _ hlm, sW _ _ t1m, upd_same, ?_, ?_⟩
      · rw [decide_eq_false (by omega)]
        exact eg
      · have z1 := sm1 z.c z.a r0 r1
        have z2 := sm1 z.d z.b r0 r1
        exact ⟨nb_le z.a, nb_le z.b, nb_le z1, nb_le z2⟩
    · have hp : ¬ i % 2 = 0 := fun e => h1 (decide_eq_true e)
      rw [decide_eq_false hp] at eg
      walk_at "rd"
      intro W hW
      have sW := Same.new (o := .tup [.int (s.a + r * s.c), .int (s.b + r * s.d)]) hW
      refine ⟨_, _, W, q2, ⟨s.a + r * s.c, s.b + r * s.d, s.c, s.d⟩, rfl, smm.trans sW, sW _ _ hlm, upd_same, sW _ _ t2m, ?_, ?_⟩
      · rw [decide_eq_true (by omega)]
        exact eg
      · have z1 := sm1 z.a z.c r0 r1
        have z2 := sm1 z.b z.d r0 r1
        exact ⟨nb_le z1, nb_le z2, nb_le z.c, nb_le z.d⟩
  · obtain ⟨x4, x5, q1, q2, s, rfl, sm, hlh, t1, t2, eg, z⟩ := hP
    have e : s = ledGo true rs ⟨w0, 1, w0 + 1, 1⟩ := by
      rw [← eg, List.length_map, List.drop_length]
      cases decide (rs.length % 2 = 0) <;> rfl
    subst e
    walk_at "rd"
    intro p hp
    have sp := Same.new (o := .tup [.ref q1, .ref q2]) hp
    exact q p q1 q2 _ (sm.trans sp) upd_same (sp _ _ t1) (sp _ _ t2)
theorem sc_is : FnScope ["_law_ratio", "_law_pair"] ["_law_ratio", "_law_pair"] (defScope (topS 38)) := ⟨rfl, rfl, rfl, by decide +kernel, rfl, by decide +kernel, by decide +kernel⟩
theorem ok_is (G : G0 K mg) (F : FP K "_law_is" "_law_is" (topS 38) [] f fd) : FnOk P w K mg base (L2.CX P w) 1 f fd ["_law_ratio", "_law_pair"] (spIs K) := by
  have nd := sc_is.nd
  refine F.ok sc_is (fun vs H Q E h => by obtain ⟨_, _, _, _, _, rfl, _⟩ := h; rfl) (fun cdv A outer s H vs Q E hr h => ⟨_, pss_one (ps_ret (pe_and (pe_callB call_isi rfl G.nm.isinstance (by decide +kernel) (pa_cons (pv 0) (pa_cons ((pe_glob (v := .ref (cR K)) rfl G.mgRatio rfl)) (pa_nil)))) (pe_one (pe_cmpR (op_eqD hr.units) (pe_tup (pa_cons (pe_fld (pv 0) rfl) (pa_cons (pe_fld (pv 0) rfl) (pa_nil)))) (pv 1) (nomark _))))), ?_⟩)
  obtain ⟨r, p, q, a, b, rfl, ir, hp, ea, eb, k⟩ := h
  have ty := G.tR ir
  have k1 := ty.2.R
  have k2 := ty.1
  obtain ⟨dx, ir⟩ := ir
  walk_at "fR"
  walk_at "rd"
  refine iteP (fun _ => ?_) (fun z => absurd (by simp) z)
  walk_at "rd"
  intro Z hZ
  have sZ := Same.new (o := .tup [.int q.num, .int (q.den : Nat)]) hZ
  have hp' := sZ _ _ hp
  have hz : upd H Z (.tup [.int q.num, .int (q.den : Nat)]) Z = some (.tup [.int q.num, .int (q.den : Nat)]) := upd_same
  refine ⟨_, rfl, ?_⟩
  refine ⟨.tuple ([q.num, ((q.den : Nat) : Int)].map PyData.int), .tuple ([a, b].map PyData.int), .tup (SqT.of hz) (dp_ints [_, _]), .tup (SqT.of hp') (dp_ints [a, b]), rfl, rfl, ?_⟩
  rw [eqv_intsT, ea, eb, decide_eq_true rfl]
  exact k _ (ea ▸ eb ▸ sZ)
theorem sc_low : FnScope ["_law_top", "_law_bottom", "_law_here", "_law_there", "_law_turn"] ["_law_top", "_law_bottom"] (defScope (topS 39)) := ⟨rfl, rfl, rfl, by decide +kernel, rfl, by decide +kernel, by decide +kernel⟩
theorem ok_low (G : G0 K mg) (F : FP K "_law_lowest" "_law_lowest" (topS 39) [] f fd) : FnOk P w K mg base (L2.CX P w) 1 f fd ["_law_top", "_law_bottom"] spLow := by
  have nd := sc_low.nd
  refine F.ok sc_low (fun vs H Q E h => by obtain ⟨_, _, rfl, _⟩ := h; rfl) (fun cdv A outer s H vs Q E hr h => ⟨_, pss_cons (ps_par (i := 2) (j := 3) rfl nd rfl rfl (by decide) rfl rfl (pa_cons (pe_callB call_abs rfl G.nm.abs (by decide +kernel) (pa_cons (pv 0) (pa_nil))) (pa_cons (pv 1) pa_nil)) rfl) (pss_cons (ps_for ((passes_of rfl)) rfl (pi_range1 rfl G.nm.range (pa_cons (pe_int) (pa_nil))) (pg_name (i := 4) nd rfl (Or.inl rfl)) (pss_one (ps_if (pt_cmpR op_gt (pv 3) (pe_int) (nomark _)) (pss_one (ps_par (i := 2) (j := 3) rfl nd rfl rfl (by decide) rfl rfl (pa_cons (pv 3) (pa_cons (pe_op op_modN (pe_callTy call_int1i rfl G.nm.int (by decide +kernel) (pa_cons (pv 2) (pa_nil))) (pv 3)) pa_nil)) rfl)) (pss_nil)))) (pss_one (ps_ret (pe_tup (pa_cons (pe_op op_fdivB (pv 0) (pv 2)) (pa_cons (pe_op op_fdivB (pv 1) (pv 2)) (pa_nil))))))), ?_⟩)
  obtain ⟨t, b, rfl, b1, b2, ht, k⟩ := h
  walk_at "rd"
  refine for_range (n := 200) (lo := 0) (fun i σ Hh => ∃ x y x4, σ = [some (V.int t), some (V.int b), some (V.int x), some (V.int y), x4] ∧ Hh = H ∧ 0 ≤ x ∧ 0 ≤ y ∧ (y + i ≤ 150 ∨ y = 0) ∧ Nat.gcd x.natAbs y.natAbs = Nat.gcd t.natAbs b.natAbs) ⟨_, b, _, rfl, rfl, ?_, by omega, .inl (by omega), ?_⟩ (fun i σ Hh hi hP => ?_) (fun σ Hh hP => ?_)
  · split <;> omega
  · congr 1
    split <;> omega
  · obtain ⟨x, y, x4, rfl, rfl, hx, hy, hb, hg⟩ := hP
    walk_at "rd"
    refine iteP (fun h1 => ?_) (fun h1 => ?_)
    · have h1 : 0 < y := of_decide_eq_true h1
      have hy0 : y ≠ 0 := by omega
      have l1 := Int.fmod_nonneg_of_pos x h1
      have l2 := Int.fmod_lt_of_pos x h1
      walk_at "rd"
      show Int.gcd y (x.fmod y) = _
      have e : x.fmod y = x - x.fdiv y * y := by
        have := Int.mul_fdiv_add_fmod x y
        grind
      rw [e, Int.gcd_sub_mul_right_right, Int.gcd_comm]
      exact hg
    · have h1 : y = 0 := by
        have : ¬ 0 < y := fun z => h1 (decide_eq_true z)
        omega
      refine ⟨_, _, _, rfl, rfl, hx, hy, .inr h1, hg⟩
  · obtain ⟨x, y, x4, rfl, rfl, hx, hy, hb, hg⟩ := hP
    have hy0 : y = 0 := by omega
    subst hy0
    have hb0 : b ≠ 0 := by omega
    have ex : x = comm t b := by
      unfold comm
      rw [if_pos (by omega), ← hg]
      show x = ((Nat.gcd x.natAbs 0 : Nat) : Int)
      rw [Nat.gcd_zero_right]
      omega
    have hc := comm_le (a := t) hb0
    have d : ∀ y, CDivB y x := fun y => ⟨by rw [ex]; exact comm_ne hb0, nb_le (show x.natAbs < 2 ^ 10 by rw [ex]; omega)⟩
    have d1 := d t
    have d2 := d b
    walk_at "rd"
    intro p hp
    refine k p _ (Same.new hp) ?_
    show _ = some (HO.tup [V.int _, V.int _])
    rw [← comm_num hb0, ← comm_den hb0, ← ex]
    exact upd_same
end
end Sp
end
section
set_option Elab.async false
set_option linter.all false
set_option exponentiation.threshold 5000
set_option maxRecDepth 100000
set_option maxHeartbeats 0
local macro_rules | `(tactic| walk_at "leaf") => `(tactic| first | rfl | assumption | exact True.intro | exact L2.upd_same | exact L2.ClsV.ty _ | exact L2.ClsV.own _ | decide | exact of_decide_eq_true rfl | exact L2.SqL.of (by assumption) | exact L2.SqL.of L2.upd_same | exact Or.inl (L2.SqL.of L2.upd_same) | exact Or.inl (L2.SqL.of (by assumption)) | exact L2.SqT.of (by assumption) | exact L2.SqT.of L2.upd_same | exact Sp.cmL (by decide) | exact Sp.cmR (by decide) | exact ⟨by decide, by decide, by decide⟩ | exact ⟨by decide, by decide⟩ | exact Or.inr (L2.SqT.of (by assumption)) | exact Or.inl ⟨rfl, _, L2.SqL.of (by assumption)⟩ | exact Or.inl ⟨rfl, _, L2.SqL.of L2.upd_same⟩ | omega | fail)
local macro_rules | `(tactic| walk_at "rd1") => `(tactic| first
  | apply Sp.exI
  | (refine And.intro ?lf ?_; (case lf => walk_at "leaf"))
  | fail)
local macro_rules | `(tactic| walk_at "rd") => `(tactic| repeat (walk_at "rd1"))
local macro_rules | `(tactic| walk_at "fR") => `(tactic| (have := (‹Sp.G0 _ _›).R.cl; have := (‹Sp.G0 _ _›).R.no "top" (by simp); have := (‹Sp.G0 _ _›).R.no "bottom" (by simp)))
namespace Sp
open PySem PySem.Spec PyProof.Rows L2
section
variable {P : Program} {w : World} {K : PySem.W.Frag} {mg : Str → Option Value} {base : Heap} {f : Addr} {fd : FuncData}
variable (g_is_integer : GD P w K mg base (L2.CX P w) 1 "is_integer" ["value"] [] (spIsInt K))
  (g_is_ratio : GD P w K mg base (L2.CX P w) 2 "is_ratio" ["value"] [] (spIsRat K)) (g_need_ratio : GD P w K mg base (L2.CX P w) 6 "need_ratio" ["value", "part"] [] (spNeed K))
  (g_xBadRatio : GX P w K mg base 1 "BadRatio" "part" (cX K "BadRatio")) (g_xBadNumber : GX P w K mg base 1 "BadNumber" "part" (cX K "BadNumber")) (g_xUnlike : GX P w K mg base 1 "Unlike" "what" (cX K "Unlike"))
  (g_mRatio : GM P w K mg base (L2.CX P w) 3 "Ratio" (cR K) ["self", "top", "bottom"] [] (spInitR K)) (g_mRatio1 : GM P w K mg base (L2.CX P w) 3 "Ratio" (cR K) ["self", "top", "bottom"] [.int 1] (spInitR K))
  (g_Ratio_of : GS P w K mg base (L2.CX P w) 5 (cR K) "of" (spOf K)) (g_R_below : GP P w K mg base (L2.CX P w) 1 (cR K) "below" (spBelow K)) (g_R_is_whole : GP P w K mg base (L2.CX P w) 1 (cR K) "is_whole" (spWhole K))
variable (g_inverse : GD P w K mg base (L2.CX P w) 1 "inverse" ["number", "modulus"] [] spInv) (g_mediant : GD P w K mg base (L2.CX P w) 7 "mediant" ["one", "other"] [] (spMed K)) (g_are_near : GD P w K mg base (L2.CX P w) 7 "are_near" ["one", "other"] [] (spNear K))
  (g_whole_of : GD P w K mg base (L2.CX P w) 7 "whole_of" ["ratio"] [] (spWh K)) (g_parents : GD P w K mg base (L2.CX P w) 7 "parents" ["ratio"] [] (spPar K)) (g_runs_of : GD P w K mg base (L2.CX P w) 7 "runs_of" ["ratio"] [] (spRuns K))
variable (g_l_dip : GD P w K mg base (L2.CX P w) 1 "_law_dip" ["_law_pail_here", "_law_many"] [] spDip) (g_l_pail : GD P w K mg base (L2.CX P w) 1 "_law_pail" ["_law_script"] [] (spPail K)) (g_l_runs : GD P w K mg base (L2.CX P w) 2 "_law_runs" ["_law_pail_here"] [] spRunsL)
  (g_l_led : GD P w K mg base (L2.CX P w) 1 "_law_led" ["_law_whole", "_law_runs_here"] [] spLed) (g_l_is : GD P w K mg base (L2.CX P w) 1 "_law_is" ["_law_ratio", "_law_pair"] [] (spIs K)) (g_l_lowest : GD P w K mg base (L2.CX P w) 1 "_law_lowest" ["_law_top", "_law_bottom"] [] spLow)
  (g_l_letters_right : GD P w K mg base (L2.CX P w) 1 "_law_letters_right" ["_law_whole", "_law_runs_here", "_law_pair"] [] spLet) (g_l_led_right : GD P w K mg base (L2.CX P w) 8 "_law_led_right" ["_law_whole", "_law_runs_here"] [] spLedR) (g_l_any_right : GD P w K mg base (L2.CX P w) 8 "_law_any_right" ["_law_one", "_law_other"] [] spAnyR)
variable (g_are_near_k : GDK P w K mg base (L2.CX P w) 7 "are_near" ["one", "other"] 2 [0, 1] (spNear K)) (g_mediant_k : GDK P w K mg base (L2.CX P w) 7 "mediant" ["other", "one"] 2 [1, 0] (spMed K))
  (g_whole_of_k : GDK P w K mg base (L2.CX P w) 7 "whole_of" ["ratio"] 1 [0] (spWh K)) (g_parents_k : GDK P w K mg base (L2.CX P w) 7 "parents" ["ratio"] 1 [0] (spPar K))

theorem sc_let : FnScope ["_law_whole", "_law_runs_here", "_law_pair", "_law_low", "_law_high", "_law_found", "_law_turn", "_law_middle", "_law_apart", "_law_due", "_law_at", "_law_many"] ["_law_whole", "_law_runs_here", "_law_pair"] (defScope (topS 41)) := ⟨rfl, rfl, rfl, by decide +kernel, rfl, by decide +kernel, by decide +kernel⟩
theorem ok_let (G : G0 K mg) (F : FP K "_law_letters_right" "_law_letters_right" (topS 41) [] f fd) : FnOk P w K mg base (L2.CX P w) 1 f fd ["_law_whole", "_law_runs_here", "_law_pair"] spLet := by
  have nd := sc_let.nd
  refine F.ok sc_let (fun vs H Q E h => by obtain ⟨_, _, _, _, _, rfl, _⟩ := h; rfl) (fun cdv A outer s H vs Q E hr h => ⟨_, pss_cons (ps_if (pt_cmpR op_gt (pe_callB (cr_sum rfl) rfl G.sum (by decide +kernel) (pa_cons (pe_callTy call_list_of rfl G.nm.list (by decide +kernel) (pa_cons (pv 1) (pa_nil))) (pa_nil))) (pe_int) (nomark _)) (pss_one (ps_ret (pe_bl))) (pss_nil)) (pss_cons (ps_par3 (i := 3) (j := 4) (l := 5) rfl nd rfl rfl rfl (by decide) (by decide) (by decide) rfl rfl rfl (pa_cons (pe_tup (pa_cons (pv 0) (pa_cons (pe_int) (pa_nil)))) (pa_cons (pe_tup (pa_cons (pe_op op_add (pv 0) (pe_int)) (pa_cons (pe_int) (pa_nil)))) (pa_cons (pe_lst (pa_nil)) pa_nil))) rfl) (pss_cons (ps_for ((passes_of rfl)) rfl (pi_range1 rfl G.nm.range (pa_cons (pe_int) (pa_nil))) (pg_name (i := 6) nd rfl (Or.inl rfl)) (pss_cons (ps_set (i := 7) nd rfl (Or.inl rfl) (pe_tup (pa_cons (pe_op op_add (pe_ix ix_tup (pv 3) (pe_int) (fun _ _ => rfl)) (pe_ix ix_tup (pv 4) (pe_int) (fun _ _ => rfl))) (pa_cons (pe_op op_add (pe_ix ix_tup (pv 3) (pe_int) (fun _ _ => rfl)) (pe_ix ix_tup (pv 4) (pe_int) (fun _ _ => rfl))) (pa_nil))))) (pss_cons (ps_set (i := 8) nd rfl (Or.inl rfl) (pe_op op_sub (pe_op op_mulB (pe_ix ix_tup (pv 2) (pe_int) (fun _ _ => rfl)) (pe_ix ix_tup (pv 7) (pe_int) (fun _ _ => rfl))) (pe_op op_mulB (pe_ix ix_tup (pv 7) (pe_int) (fun _ _ => rfl)) (pe_ix ix_tup (pv 2) (pe_int) (fun _ _ => rfl))))) (pss_cons (ps_if (pt_cmpR op_eq (pv 8) (pe_int) (nomark _)) (pss_one (ps_break)) (pss_nil)) (pss_cons (ps_if (pt_cmpR op_lt (pv 8) (pe_int) (nomark _)) (pss_one (ps_set (i := 4) nd rfl (Or.inl rfl) (pv 7))) (pss_one (ps_set (i := 3) nd rfl (Or.inl rfl) (pv 7)))) (pss_one (ps_expr (pe_bm PySem.F.plainAttrs_list PySem.F.slot_list_append PySem.F.type_list_append mt_append (pv 5) (pa_cons (pe_cmpR op_lt (pv 8) (pe_int) (nomark _)) (pa_nil)))))))))) (pss_cons (ps_set (i := 9) nd rfl (Or.inl rfl) (pe_lst (pa_nil))) (pss_cons (ps_for ((passes_of rfl)) rfl (pi_enum rfl G.nm.enumerate (pa_cons (pv 1) pa_nil)) (pg_tup rfl (pgs_cons (pg_name (i := 10) nd rfl (Or.inl rfl)) (pgs_cons (pg_name (i := 11) nd rfl (Or.inl rfl)) (pgs_nil)))) (pss_one (ps_set (i := 9) nd rfl (Or.inl rfl) (pe_op op_cat (pv 9) (pe_op op_rep (pe_lst (pa_cons (pe_cmpR op_in_seq (pv 10) (pe_tup (pa_cons (pe_int) (pa_cons (pe_int) (pa_cons (pe_int) (pa_nil))))) rfl) (pa_nil))) (pv 11)))))) (pss_one (ps_ret (pe_cmpR (op_eqD hr.units) (pv 5) (pv 9) (nomark _)))))))), ?_⟩)
  obtain ⟨w0, l, p, rs, s, rfl, hl, hrs, hw, led, hp, q⟩ := h
  walk_at "rd"
  intro L hL
  have sL := Same.new (o := .lst (rs.map V.int)) hL
  have hL1 : upd H L (.lst (rs.map V.int)) L = some (.lst (rs.map V.int)) := upd_same
  walk_at "rd"
  refine iteP (fun h1 => ?_) (fun h1 => ?_)
  · walk_at "rd"
    exact q _ sL
  · have hsum : rs.sum ≤ 60 := by
      have : ¬ 60 < rs.sum := fun e => h1 (decide_eq_true e)
      omega
    walk_at "rd"
    intro q1 hq1
    have s1 := Same.new (o := .tup [.int w0, .int 1]) hq1
    walk_at "rd"
    intro q2 hq2
    have s2 := Same.new (o := .tup [.int (w0 + 1), .int 1]) hq2
    walk_at "rd"
    intro fL hfL
    have s3 := Same.new (o := .lst []) hfL
    have s03 := ((sL.trans s1).trans s2).trans s3
    walk_at "rd"
    have e1 := s3 _ _ (s2 _ _ (upd_same (H := upd H L (.lst (rs.map V.int))) (a := q1) (o := .tup [.int w0, .int 1])))
    have e2 := s3 _ _ (upd_same (H := upd (upd H L (.lst (rs.map V.int))) q1 (.tup [.int w0, .int 1])) (a := q2) (o := .tup [.int (w0 + 1), .int 1]))
    have hf0 : H fL = none := by
      cases z : H fL with
      | none => rfl
      | some o => rw [(sL.trans s1).trans s2 _ _ z] at hfL; cases hfL
    refine for_range (n := 61) (lo := 0) (fun i σ Hh => Bx (∃ q1 q2 fo x6 x7 x8 x9 x10 x11, ∃ t : Q4, σ = [some (V.int w0), some (V.ref l), some (V.ref p), some (V.ref q1), some (V.ref q2), some (V.ref fL), x6, x7, x8, x9, x10, x11] ∧ Same H Hh ∧
      Two Hh q1 t.a t.b ∧ Two Hh q2 t.c t.d ∧ Hh fL = some (.lst (fo.map V.bl)) ∧ t.Sm (7 + i) ∧ Wk rs (s.a + s.c) (s.b + s.d) t fo i ∧ fo.length ≤ i))
      ⟨⟨q1, q2, [], _, _, _, _, _, _, ⟨w0, 1, w0 + 1, 1⟩, rfl, s03, e1, e2, upd_same, ?_, Wk.start led hrs hsum, Nat.le_refl _⟩⟩ (fun i σ Hh hi hP => ?_) (fun σ Hh hP => ?_)
    · exact ⟨by show w0.natAbs < 128; omega, by show (1 : Int).natAbs < 128; decide, by show (w0 + 1).natAbs < 128; omega, by show (1 : Int).natAbs < 128; decide⟩
    · obtain ⟨q1, q2, fo, x6, x7, x8, x9, x10, x11, t, rfl, sm, t1, t2, hfo, z, wk, hlen⟩ := hP.out
      have hp1 := sm _ _ hp
      walk_at "rd"
      intro M hM
      have sM := Same.new (o := .tup [.int (t.a + t.c), .int (t.b + t.d)]) hM
      have t1 := sM _ _ t1
      have t2 := sM _ _ t2
      have hM1 : upd Hh M (.tup [.int (t.a + t.c), .int (t.b + t.d)]) M = some (.tup [.int (t.a + t.c), .int (t.b + t.d)]) := upd_same
      have hp1 := sM _ _ hp1
      have hfo := sM _ _ hfo
      have hl1 := (sm.trans sM) _ _ hl
      have sm := sm.trans sM
      obtain ⟨z1, z2⟩ := z.mid
      obtain ⟨y1, y2⟩ := led.sm.mid
      have c1 : CMulB (s.a + s.c) (t.b + t.d) := cm y1 z2
      have c2 : CMulB (t.a + t.c) (s.b + s.d) := cm z1 y2
      have hfl : (fo.map V.bl).length < sizeLine := by
        have : 4000 ≤ sizeLine := by decide
        rw [List.length_map]
        omega
      walk_at "rd"
      have wt := wk.turn
      have ea : (s.a + s.c) * (t.b + t.d) - (t.a + t.c) * (s.b + s.d) = apart t (s.a + s.c) (s.b + s.d) := rfl
      refine iteP (fun h2 => ?_) (fun h2 => ?_)
      · have h2 : apart t (s.a + s.c) (s.b + s.d) = 0 := V.int.inj (of_decide_eq_true h2)
        rcases wt with ⟨_, efo⟩ | ⟨n0, _⟩
        · clear wk z1 z2 c1 c2 e1 e2 t1 t2 hM1 hp1
          subst efo
          walk_at "rd"
          intro dL hdL
          have sd := Same.new (o := .lst []) hdL
          have hl2 := sd _ _ hl1
          have hf2 := sd _ _ hfo
          have sm2 := sm.trans sd
          walk_at "rd"
          have ll := letters_len (f := true) hrs.nn
          refine for_enum (xs := rs.map V.int) (fun i σ Hh => Bx (∃ x6 x7 x8 d du x10 x11, σ = [some (V.int w0), some (V.ref l), some (V.ref p), some (V.ref q1), some (V.ref q2), some (V.ref fL), x6, x7, x8, some (V.ref d), x10, x11] ∧
            Same H Hh ∧ Hh l = some (.lst (rs.map V.int)) ∧ Hh fL = some (.lst ((letters true rs).map V.bl)) ∧ Hh d = some (.lst (du.map V.bl)) ∧ du ++ letters (decide (i % 2 = 0)) (rs.drop i) = letters true rs)) ⟨⟨_, _, _, dL, [], _, _, rfl, sm2, hl2, hf2, upd_same, rfl⟩⟩ (fun j σ Hx _ hP => ?_) (fun j x σ Hx T hx hP hT => ?_) (fun σ Hx hP => ?_)
          · obtain ⟨x6, x7, x8, d, du, x10, x11, rfl, _, h, _⟩ := hP.out
            exact SqL.of h
          · obtain ⟨x6, x7, x8, d, du, x10, x11, rfl, smx, hlx, hfx, hdx, eg⟩ := hP.out
            rw [List.getElem?_map] at hx
            obtain ⟨r, hr', rfl⟩ := Option.map_eq_some_iff.mp hx
            have hj := (List.getElem?_eq_some_iff.mp hr').1
            have h5 := hrs.many
            have j5 : j < 5 := by omega
            have r0 := hrs.nn r (List.mem_of_getElem? hr')
            have r60 := mem_le_sum hrs.nn (List.mem_of_getElem? hr')
            have ed : rs.drop j = r :: rs.drop (j + 1) := by rw [List.drop_eq_getElem_cons hj, (List.getElem?_eq_some_iff.mp hr').2]
            rw [ed] at eg
            have i3 := in3 j j5
            have lu : du.length ≤ 60 := by
              have := congrArg List.length eg
              rw [List.length_append] at this
              omega
            have s4000 : 4000 ≤ sizeLine := by decide
            have sT := smx.trans (Same.new (o := .tup [.int (j : Nat), .int r]) hT)
            have sT1 := Same.new (o := .tup [.int (j : Nat), .int r]) hT
            have hlx := sT1 _ _ hlx
            have hfx := sT1 _ _ hfx
            have hdx := sT1 _ _ hdx
            walk_at "rd"
            intro M2 hM2
            have sM2 := Same.new (o := .tup [.int 0, .int 2, .int 4]) hM2
            refine ⟨M2, _, rfl, .inr (SqT.of upd_same), rfl, rfl, ?_⟩
            rw [show (if (false : Bool) = true then !inV (V.int (j : Int)) [.int 0, .int 2, .int 4] else inV (V.int (j : Int)) [.int 0, .int 2, .int 4]) = decide (j % 2 = 0) from i3]
            walk_at "rd"
            intro A1 hA1
            have sA1 := Same.new (o := .lst [.bl (decide (j % 2 = 0))]) hA1
            have b1 : -(2 ^ 63) ≤ r := by omega
            have b2 : r < 2 ^ 63 := by omega
            have b3 : [V.bl (decide (j % 2 = 0))].length * r.toNat ≤ sizeLine := by simp; omega
            walk_at "rd"
            intro A2 hA2
            have sA2 := Same.new (o := .lst (List.replicate r.toNat [V.bl (decide (j % 2 = 0))]).flatten) hA2
            have hdx := sA2 _ _ (sA1 _ _ (sM2 _ _ hdx))
            have b4 : (du.map V.bl).length + (List.replicate r.toNat [V.bl (decide (j % 2 = 0))]).flatten.length ≤ sizeLine := by simp; omega
            walk_at "rd"
            intro A3 hA3
            have sA3 := Same.new (o := .lst (du.map V.bl ++ (List.replicate r.toNat [V.bl (decide (j % 2 = 0))]).flatten)) hA3
            have s4 := ((sM2.trans sA1).trans sA2).trans sA3
            refine ⟨_, _, _, A3, du ++ List.replicate r.toNat (decide (j % 2 = 0)), _, _, rfl, sT.trans s4, s4 _ _ hlx, s4 _ _ hfx, by rw [upd_same]; simp, ?_⟩
            rw [← eg, List.append_assoc]
            congr 1
            show _ = List.replicate r.toNat _ ++ letters _ _
            congr 2
            by_cases e : j % 2 = 0
            · rw [decide_eq_true e, decide_eq_false (by omega)]
              rfl
            · rw [decide_eq_false e, decide_eq_true (by omega)]
              rfl
          · obtain ⟨x6, x7, x8, d, du, x10, x11, rfl, smx, hlx, hfx, hdx, eg⟩ := hP.out
            rw [List.length_map, List.drop_length] at eg
            have eg : du = letters true rs := by
              rw [← eg]
              simp [letters]
            subst eg
            walk_at "rd"
            refine ⟨.lst (SqL.of hfx) (dp_bls _), .lst (SqL.of hdx) (dp_bls _), shaped_bls _, shaped_bls _, ?_⟩
            rw [eqr (shaped_bls _)]
            exact q _ smx
        · exact absurd h2 n0
      · have h2 : apart t (s.a + s.c) (s.b + s.d) ≠ 0 := fun e => h2 (decide_eq_true (congrArg V.int e))
        rcases wt with ⟨e0, _⟩ | ⟨_, wk'⟩
        · exact absurd e0 h2
        have k0 : Hh fL = some (.lst (fo.map V.bl)) → fL ≠ M := fun e z => by rw [z, hM] at e; cases e
        have hfM := k0 (by assumption)
        have fin : ∀ (r1 r2 : Addr) (x6 x7 x8 x9 x10 x11 : Option V), Two (upd Hh M (.tup [.int (t.a + t.c), .int (t.b + t.d)])) r1 (go1 (decide (apart t (s.a + s.c) (s.b + s.d) < 0)) t).a (go1 (decide (apart t (s.a + s.c) (s.b + s.d) < 0)) t).b → Two (upd Hh M (.tup [.int (t.a + t.c), .int (t.b + t.d)])) r2 (go1 (decide (apart t (s.a + s.c) (s.b + s.d) < 0)) t).c (go1 (decide (apart t (s.a + s.c) (s.b + s.d) < 0)) t).d →
            Bx (∃ q1 q2 fo' x6' x7' x8' x9' x10' x11', ∃ t' : Q4, [some (V.int w0), some (V.ref l), some (V.ref p), some (V.ref r1), some (V.ref r2), some (V.ref fL), x6, x7, x8, x9, x10, x11] = [some (V.int w0), some (V.ref l), some (V.ref p), some (V.ref q1), some (V.ref q2), some (V.ref fL), x6', x7', x8', x9', x10', x11'] ∧
              Same H (upd (upd Hh M (.tup [.int (t.a + t.c), .int (t.b + t.d)])) fL (.lst (fo.map V.bl ++ [.bl (decide (apart t (s.a + s.c) (s.b + s.d) < 0))]))) ∧
              Two (upd (upd Hh M (.tup [.int (t.a + t.c), .int (t.b + t.d)])) fL (.lst (fo.map V.bl ++ [.bl (decide (apart t (s.a + s.c) (s.b + s.d) < 0))]))) q1 t'.a t'.b ∧ Two (upd (upd Hh M (.tup [.int (t.a + t.c), .int (t.b + t.d)])) fL (.lst (fo.map V.bl ++ [.bl (decide (apart t (s.a + s.c) (s.b + s.d) < 0))]))) q2 t'.c t'.d ∧
              (upd (upd Hh M (.tup [.int (t.a + t.c), .int (t.b + t.d)])) fL (.lst (fo.map V.bl ++ [.bl (decide (apart t (s.a + s.c) (s.b + s.d) < 0))]))) fL = some (.lst (fo'.map V.bl)) ∧ t'.Sm (7 + (i + 1)) ∧ Wk rs (s.a + s.c) (s.b + s.d) t' fo' (i + 1) ∧ fo'.length ≤ i + 1) := by
          intro r1 r2 x6 x7 x8 x9 x10 x11 u1 u2
          have nt : ∀ {r : Addr} {a b : Int} {o : HO}, Two (upd Hh M (.tup [.int (t.a + t.c), .int (t.b + t.d)])) r a b → Two (upd (upd Hh M (.tup [.int (t.a + t.c), .int (t.b + t.d)])) fL o) r a b := fun {r a b o} e => by
            show upd _ fL o r = _
            rw [upd_ne (fun z => by unfold Two at e; rw [z, hfo] at e; cases e)]
            exact e
          refine ⟨r1, r2, fo ++ [decide (apart t (s.a + s.c) (s.b + s.d) < 0)], _, _, _, _, _, _, go1 (decide (apart t (s.a + s.c) (s.b + s.d) < 0)) t, rfl, fun c o e => ?_, nt u1, nt u2, by rw [upd_same]; simp, go1_sm _ z, wk', by simp; omega⟩
          rw [upd_ne (ne_of_none e hf0)]
          exact sm _ _ e
        walk_at "rd"
        refine iteP (fun h3 => ?_) (fun h3 => ?_)
        · have h3 : decide (apart t (s.a + s.c) (s.b + s.d) < 0) = true := h3
          walk_at "rd"
          exact fin q1 M _ _ _ _ _ _ (by rw [h3]; exact t1) (by rw [h3]; exact hM1)
        · have h3 : decide (apart t (s.a + s.c) (s.b + s.d) < 0) = false := Bool.eq_false_iff.mpr h3
          walk_at "rd"
          exact fin M q2 _ _ _ _ _ _ (by rw [h3]; exact hM1) (by rw [h3]; exact t2)
    · obtain ⟨q1, q2, fo, x6, x7, x8, x9, x10, x11, t, rfl, sm, t1, t2, hfo, z, wk, hlen⟩ := hP.out
      exact absurd wk (fun e => e.last)
end
end Sp
end
section
set_option Elab.async false
set_option linter.all false
set_option exponentiation.threshold 5000
set_option maxRecDepth 100000
set_option maxHeartbeats 0
local macro_rules | `(tactic| walk_at "leaf") => `(tactic| first | rfl | assumption | exact True.intro | exact L2.upd_same | exact L2.ClsV.ty _ | exact L2.ClsV.own _ | decide | exact of_decide_eq_true rfl | exact L2.SqL.of (by assumption) | exact L2.SqL.of L2.upd_same | exact Or.inl (L2.SqL.of L2.upd_same) | exact Or.inl (L2.SqL.of (by assumption)) | exact L2.SqT.of (by assumption) | exact L2.SqT.of L2.upd_same | exact Sp.cmL (by decide) | exact Sp.cmR (by decide) | exact ⟨by decide, by decide, by decide⟩ | exact ⟨by decide, by decide⟩ | exact Or.inr (L2.SqT.of (by assumption)) | exact Or.inl ⟨rfl, _, L2.SqL.of (by assumption)⟩ | exact Or.inl ⟨rfl, _, L2.SqL.of L2.upd_same⟩ | omega | fail)
local macro_rules | `(tactic| walk_at "rd1") => `(tactic| first
  | apply Sp.exI
  | (refine And.intro ?lf ?_; (case lf => walk_at "leaf"))
  | fail)
local macro_rules | `(tactic| walk_at "rd") => `(tactic| repeat (walk_at "rd1"))
local macro_rules | `(tactic| walk_at "fR") => `(tactic| (have := (‹Sp.G0 _ _›).R.cl; have := (‹Sp.G0 _ _›).R.no "top" (by simp); have := (‹Sp.G0 _ _›).R.no "bottom" (by simp)))
namespace Sp
open PySem PySem.Spec PyProof.Rows L2
section
variable {P : Program} {w : World} {K : PySem.W.Frag} {mg : Str → Option Value} {base : Heap} {f : Addr} {fd : FuncData}
variable (g_is_integer : GD P w K mg base (L2.CX P w) 1 "is_integer" ["value"] [] (spIsInt K))
  (g_is_ratio : GD P w K mg base (L2.CX P w) 2 "is_ratio" ["value"] [] (spIsRat K)) (g_need_ratio : GD P w K mg base (L2.CX P w) 6 "need_ratio" ["value", "part"] [] (spNeed K))
  (g_xBadRatio : GX P w K mg base 1 "BadRatio" "part" (cX K "BadRatio")) (g_xBadNumber : GX P w K mg base 1 "BadNumber" "part" (cX K "BadNumber")) (g_xUnlike : GX P w K mg base 1 "Unlike" "what" (cX K "Unlike"))
  (g_mRatio : GM P w K mg base (L2.CX P w) 3 "Ratio" (cR K) ["self", "top", "bottom"] [] (spInitR K)) (g_mRatio1 : GM P w K mg base (L2.CX P w) 3 "Ratio" (cR K) ["self", "top", "bottom"] [.int 1] (spInitR K))
  (g_Ratio_of : GS P w K mg base (L2.CX P w) 5 (cR K) "of" (spOf K)) (g_R_below : GP P w K mg base (L2.CX P w) 1 (cR K) "below" (spBelow K)) (g_R_is_whole : GP P w K mg base (L2.CX P w) 1 (cR K) "is_whole" (spWhole K))
variable (g_inverse : GD P w K mg base (L2.CX P w) 1 "inverse" ["number", "modulus"] [] spInv) (g_mediant : GD P w K mg base (L2.CX P w) 7 "mediant" ["one", "other"] [] (spMed K)) (g_are_near : GD P w K mg base (L2.CX P w) 7 "are_near" ["one", "other"] [] (spNear K))
  (g_whole_of : GD P w K mg base (L2.CX P w) 7 "whole_of" ["ratio"] [] (spWh K)) (g_parents : GD P w K mg base (L2.CX P w) 7 "parents" ["ratio"] [] (spPar K)) (g_runs_of : GD P w K mg base (L2.CX P w) 7 "runs_of" ["ratio"] [] (spRuns K))
variable (g_l_dip : GD P w K mg base (L2.CX P w) 1 "_law_dip" ["_law_pail_here", "_law_many"] [] spDip) (g_l_pail : GD P w K mg base (L2.CX P w) 1 "_law_pail" ["_law_script"] [] (spPail K)) (g_l_runs : GD P w K mg base (L2.CX P w) 2 "_law_runs" ["_law_pail_here"] [] spRunsL)
  (g_l_led : GD P w K mg base (L2.CX P w) 1 "_law_led" ["_law_whole", "_law_runs_here"] [] spLed) (g_l_is : GD P w K mg base (L2.CX P w) 1 "_law_is" ["_law_ratio", "_law_pair"] [] (spIs K)) (g_l_lowest : GD P w K mg base (L2.CX P w) 1 "_law_lowest" ["_law_top", "_law_bottom"] [] spLow)
  (g_l_letters_right : GD P w K mg base (L2.CX P w) 1 "_law_letters_right" ["_law_whole", "_law_runs_here", "_law_pair"] [] spLet) (g_l_led_right : GD P w K mg base (L2.CX P w) 8 "_law_led_right" ["_law_whole", "_law_runs_here"] [] spLedR) (g_l_any_right : GD P w K mg base (L2.CX P w) 8 "_law_any_right" ["_law_one", "_law_other"] [] spAnyR)
variable (g_are_near_k : GDK P w K mg base (L2.CX P w) 7 "are_near" ["one", "other"] 2 [0, 1] (spNear K)) (g_mediant_k : GDK P w K mg base (L2.CX P w) 7 "mediant" ["other", "one"] 2 [1, 0] (spMed K))
  (g_whole_of_k : GDK P w K mg base (L2.CX P w) 7 "whole_of" ["ratio"] 1 [0] (spWh K)) (g_parents_k : GDK P w K mg base (L2.CX P w) 7 "parents" ["ratio"] 1 [0] (spPar K))

theorem sc_any : FnScope ["_law_one", "_law_other", "_law_here", "_law_there", "_law_first", "_law_second", "_law_apart"] ["_law_one", "_law_other"] (defScope (topS 44)) := ⟨rfl, rfl, rfl, by decide +kernel, rfl, by decide +kernel, by decide +kernel⟩
include g_are_near g_are_near_k g_l_is g_l_lowest g_mRatio g_mediant in
theorem ok_any (G : G0 K mg) (F : FP K "_law_any_right" "_law_any_right" (topS 44) [] f fd) : FnOk P w K mg base (L2.CX P w) 8 f fd ["_law_one", "_law_other"] spAnyR := by
  have nd := sc_any.nd
  refine F.ok sc_any (fun vs H Q E h => by obtain ⟨_, _, _, _, _, _, rfl, _⟩ := h; rfl) (fun cdv A outer s H vs Q E hr h => ⟨_, pss_cons (ps_par (i := 2) (j := 3) rfl nd rfl rfl (by decide) rfl rfl (pa_cons (pe_gd g_l_lowest (hr.mono (by decide)) rfl (pxE rfl rfl rfl rfl) (pa_cons (pe_ix ix_tup (pv 0) (pe_int) (fun _ _ => rfl)) (pa_cons (pe_ix ix_tup (pv 0) (pe_int) (fun _ _ => rfl)) (pa_nil)))) (pa_cons (pe_gd g_l_lowest (hr.mono (by decide)) rfl (pxE rfl rfl rfl rfl) (pa_cons (pe_ix ix_tup (pv 1) (pe_int) (fun _ _ => rfl)) (pa_cons (pe_ix ix_tup (pv 1) (pe_int) (fun _ _ => rfl)) (pa_nil)))) pa_nil)) rfl) (pss_cons (ps_par (i := 4) (j := 5) rfl nd rfl rfl (by decide) rfl rfl (pa_cons (pe_gm g_mRatio (hr.mono (by decide)) rfl (pxE rfl rfl rfl rfl) (pa_cons (pe_ix ix_tup (pv 0) (pe_int) (fun _ _ => rfl)) (pa_cons (pe_ix ix_tup (pv 0) (pe_int) (fun _ _ => rfl)) (pa_nil)))) (pa_cons (pe_gm g_mRatio (hr.mono (by decide)) rfl (pxE rfl rfl rfl rfl) (pa_cons (pe_ix ix_tup (pv 1) (pe_int) (fun _ _ => rfl)) (pa_cons (pe_ix ix_tup (pv 1) (pe_int) (fun _ _ => rfl)) (pa_nil)))) pa_nil)) rfl) (pss_cons (ps_if (pt_not (pt_val (pe_gd g_l_is (hr.mono (by decide)) rfl (pxE rfl rfl rfl rfl) (pa_cons (pe_gd g_mediant (hr.mono (by decide)) rfl (pxE rfl rfl rfl rfl) (pa_cons (pv 4) (pa_cons (pv 5) (pa_nil)))) (pa_cons (pe_gd g_l_lowest (hr.mono (by decide)) rfl (pxE rfl rfl rfl rfl) (pa_cons (pe_op op_add (pe_ix ix_tup (pv 2) (pe_int) (fun _ _ => rfl)) (pe_ix ix_tup (pv 3) (pe_int) (fun _ _ => rfl))) (pa_cons (pe_op op_add (pe_ix ix_tup (pv 2) (pe_int) (fun _ _ => rfl)) (pe_ix ix_tup (pv 3) (pe_int) (fun _ _ => rfl))) (pa_nil)))) (pa_nil)))))) (pss_one (ps_ret (pe_bl))) (pss_nil)) (pss_cons (ps_set (i := 6) nd rfl (Or.inl rfl) (pe_op op_sub (pe_op op_mulB (pe_ix ix_tup (pv 2) (pe_int) (fun _ _ => rfl)) (pe_ix ix_tup (pv 3) (pe_int) (fun _ _ => rfl))) (pe_op op_mulB (pe_ix ix_tup (pv 3) (pe_int) (fun _ _ => rfl)) (pe_ix ix_tup (pv 2) (pe_int) (fun _ _ => rfl))))) (pss_one (ps_ret (pe_and (pe_cmpR op_eq (pe_gdk g_are_near_k (hr.mono (by decide)) rfl (pxE rfl rfl rfl rfl) (pk_cons (pv 4) (pk_cons (pv 5) (pk_nil)))) (pe_cmpR op_in_seq (pv 6) (pe_tup (pa_cons (pe_int) (pa_cons (pe_un un_neg (pe_int)) (pa_nil)))) rfl) (nomark _)) (pe_one (pe_cmpR op_eq (pe_gd g_are_near (hr.mono (by decide)) rfl (pxE rfl rfl rfl rfl) (pa_cons (pv 5) (pa_cons (pv 4) (pa_nil)))) (pe_cmpR op_in_seq (pv 6) (pe_tup (pa_cons (pe_int) (pa_cons (pe_un un_neg (pe_int)) (pa_nil)))) rfl) (nomark _))))))))), ?_⟩)
  obtain ⟨p1, p2, t, b, u, c, rfl, h1, h2, ht, hu, b1, b2, c1, c2, q⟩ := h
  have b150 : b ≤ 150 := by omega
  have c150 : c ≤ 150 := by omega
  have t1000 : t.natAbs ≤ 1000 := by omega
  have u1000 : u.natAbs ≤ 1000 := by omega
  walk_at "rd"
  intro x H1 s1 tx
  have h2 := s1 _ _ h2
  walk_at "rd"
  intro y H2 s2 ty
  have tx := s2 _ _ tx
  have h1 := s2 _ _ (s1 _ _ h1)
  have h2 := s2 _ _ h2
  walk_at "rd"
  have hb0 : b ≠ 0 := by omega
  have hc0 : c ≠ 0 := by omega
  apply makeR2 hb0 (nb_le (show t.natAbs < 2 ^ 10 by omega)) (nb_le (show b.natAbs < 2 ^ 10 by omega))
  intro ra H3 s3 _ ir3
  have h2 := s3 _ _ h2
  walk_at "rd"
  apply makeR2 hc0 (nb_le (show u.natAbs < 2 ^ 10 by omega)) (nb_le (show c.natAbs < 2 ^ 10 by omega))
  intro rb H4 s4 _ ir4
  have ir3 := ir3.ext s4
  have tx := s4 _ _ (s3 _ _ tx)
  have ty := s4 _ _ (s3 _ _ ty)
  have s14 := ((s1.trans s2).trans s3).trans s4
  obtain ⟨Q1, hQ1⟩ : ∃ q, q = Rat.divInt t b := ⟨_, rfl⟩
  obtain ⟨Q2, hQ2⟩ : ∃ q, q = Rat.divInt u c := ⟨_, rfl⟩
  have z1 : Sz Q1 10 := hQ1 ▸ sz_divInt hb0 (by omega) (by omega)
  have z2 : Sz Q2 10 := hQ2 ▸ sz_divInt hc0 (by omega) (by omega)
  obtain ⟨n1, d1⟩ : Q1.num.natAbs ≤ 60 ∧ Q1.den ≤ 40 := hQ1 ▸ ⟨Nat.le_trans (di_le hb0).1 ht, Nat.le_trans (di_le hb0).2 (by omega)⟩
  obtain ⟨n2, d2⟩ : Q2.num.natAbs ≤ 60 ∧ Q2.den ≤ 40 := hQ2 ▸ ⟨Nat.le_trans (di_le hc0).1 hu, Nat.le_trans (di_le hc0).2 (by omega)⟩
  rw [← hQ1] at ir3 tx
  rw [← hQ2] at ir4 ty
  have v3 := RV.mk ir3
  have v4 := RV.mk ir4
  have z1' : Sz Q1 1900 := z1.mono
  have z2' : Sz Q2 1900 := z2.mono
  walk_at "rd"
  refine .inl ⟨Q1, Q2, v3, v4, z1', z2', fun m H5 s5 im => ?_⟩
  have tx := s5 _ _ tx
  have ty := s5 _ _ ty
  have e1 : 1 ≤ ((Q1.den : Nat) : Int) + ((Q2.den : Nat) : Int) := by have := Q1.den_nz; omega
  have e2 : ((Q1.den : Nat) : Int) + ((Q2.den : Nat) : Int) ≤ 150 := by omega
  have e3 : (Q1.num + Q2.num).natAbs ≤ 1000 := by omega
  walk_at "rd"
  intro pz H6 s6 tz
  have im := im.ext s6
  walk_at "rd"
  intro H7 s7
  have s57 := (s5.trans s6).trans s7
  have ir3 := ir3.ext s57
  have ir4 := ir4.ext s57
  have v3 := RV.mk ir3
  have v4 := RV.mk ir4
  have tx := s7 _ _ (s6 _ _ tx)
  have ty := s7 _ _ (s6 _ _ ty)
  have c1 : CMulB Q1.num ((Q2.den : Nat) : Int) := cm z1.1 z2.d
  have c2 : CMulB Q2.num ((Q1.den : Nat) : Int) := cm z2.1 z1.d
  walk_at "rd"
  refine .inl ⟨Q1, Q2, v3, v4, z1', z2', fun H8 s8 => ?_⟩
  have v3 := v3.ext s8
  have v4 := v4.ext s8
  walk_at "rd"
  intro M1 hM1
  have s9 := Same.new (o := .tup [.int 1, .int (-1)]) hM1
  have v3 := v3.ext s9
  have v4 := v4.ext s9
  refine ⟨M1, _, rfl, .inr (SqT.of upd_same), rfl, rfl, ?_⟩
  rw [show (if (false : Bool) = true then !inV (V.int (Q1.num * ((Q2.den : Nat) : Int) - Q2.num * ((Q1.den : Nat) : Int))) [.int 1, .int (-1)] else inV (V.int (Q1.num * ((Q2.den : Nat) : Int) - Q2.num * ((Q1.den : Nat) : Int))) [.int 1, .int (-1)]) = qnear Q1 Q2 from in11 _]
  have enear : qnear Q2 Q1 = qnear Q1 Q2 := by
    unfold qnear
    rw [decide_eq_decide]
    omega
  walk_at "rd"
  refine iteP (fun _ => ?_) (fun z => absurd (decide_eq_true rfl) z)
  walk_at "rd"
  refine .inl ⟨Q2, Q1, v4, v3, z2', z1', fun H9 s9' => ?_⟩
  walk_at "rd"
  intro M2 hM2
  have s10 := Same.new (o := .tup [.int 1, .int (-1)]) hM2
  refine ⟨M2, _, rfl, .inr (SqT.of upd_same), rfl, rfl, ?_⟩
  rw [show (if (false : Bool) = true then !inV (V.int (Q1.num * ((Q2.den : Nat) : Int) - Q2.num * ((Q1.den : Nat) : Int))) [.int 1, .int (-1)] else inV (V.int (Q1.num * ((Q2.den : Nat) : Int) - Q2.num * ((Q1.den : Nat) : Int))) [.int 1, .int (-1)]) = qnear Q1 Q2 from in11 _, enear]
  walk_at "rd"
  rw [decide_eq_true (rfl : V.bl (qnear Q1 Q2) = V.bl (qnear Q1 Q2))]
  exact q _ ((((((s14.trans s57).trans s8).trans s9)).trans s9').trans s10)
structure LR (K : PySem.W.Frag) (H : Hp) (l q1 q2 pz ra : Addr) (rs : List Int) (s : Q4) (q0 : Rat) : Prop where
  hl : H l = some (.lst (rs.map V.int))
  t1 : Two H q1 s.a s.b
  t2 : Two H q2 s.c s.d
  tz : Two H pz (s.a + s.c) (s.b + s.d)
  ir : IsR K H ra q0
theorem LR.ext {H H' : Hp} {l q1 q2 pz ra : Addr} {rs : List Int} {s : Q4} {q0 : Rat} (h : LR K H l q1 q2 pz ra rs s q0) (e : Same H H') : LR K H' l q1 q2 pz ra rs s q0 := ⟨e _ _ h.hl, e _ _ h.t1, e _ _ h.t2, e _ _ h.tz, h.ir.ext e⟩
structure LP (K : PySem.W.Frag) (H : Hp) (pt p1 p2 : Addr) (qa qc : Rat) : Prop where
  tp : H pt = some (.tup [.ref p1, .ref p2])
  i1 : IsR K H p1 qa
  i2 : IsR K H p2 qc
theorem LP.ext {H H' : Hp} {pt p1 p2 : Addr} {qa qc : Rat} (h : LP K H pt p1 p2 qa qc) (e : Same H H') : LP K H' pt p1 p2 qa qc := ⟨e _ _ h.tp, h.i1.ext e, h.i2.ext e⟩
theorem sc_ledR : FnScope ["_law_whole", "_law_runs_here", "_law_low", "_law_high", "_law_pair", "_law_ratio", "_law_told"] ["_law_whole", "_law_runs_here"] (defScope (topS 42)) := ⟨rfl, rfl, rfl, by decide +kernel, rfl, by decide +kernel, by decide +kernel⟩
include g_are_near g_l_is g_l_led g_l_letters_right g_mRatio g_mediant g_mediant_k g_parents_k g_runs_of g_whole_of g_whole_of_k in
theorem ok_ledR (G : G0 K mg) (F : FP K "_law_led_right" "_law_led_right" (topS 42) [] f fd) : FnOk P w K mg base (L2.CX P w) 8 f fd ["_law_whole", "_law_runs_here"] spLedR := by
  have nd := sc_ledR.nd
  refine F.ok sc_ledR (fun vs H Q E h => by obtain ⟨_, _, _, rfl, _⟩ := h; rfl) (fun cdv A outer s H vs Q E hr h => ⟨_, pss_cons (ps_asg (pe_gd g_l_led (hr.mono (by decide)) rfl (pxE rfl rfl rfl rfl) (pa_cons (pv 0) (pa_cons (pv 1) (pa_nil)))) (pg_tup rfl (pgs_cons (pg_name (i := 2) nd rfl (Or.inl rfl)) (pgs_cons (pg_name (i := 3) nd rfl (Or.inl rfl)) (pgs_nil))))) (pss_cons (ps_set (i := 4) nd rfl (Or.inl rfl) (pe_tup (pa_cons (pe_op op_add (pe_ix ix_tup (pv 2) (pe_int) (fun _ _ => rfl)) (pe_ix ix_tup (pv 3) (pe_int) (fun _ _ => rfl))) (pa_cons (pe_op op_add (pe_ix ix_tup (pv 2) (pe_int) (fun _ _ => rfl)) (pe_ix ix_tup (pv 3) (pe_int) (fun _ _ => rfl))) (pa_nil))))) (pss_cons (ps_set (i := 5) nd rfl (Or.inl rfl) (pe_gm g_mRatio (hr.mono (by decide)) rfl (pxE rfl rfl rfl rfl) (pa_cons (pe_ix ix_tup (pv 4) (pe_int) (fun _ _ => rfl)) (pa_cons (pe_ix ix_tup (pv 4) (pe_int) (fun _ _ => rfl)) (pa_nil))))) (pss_cons (ps_if (PW.pt (pw_or (pt_cmpR (op_neD hr.units) (pe_gd g_runs_of (hr.mono (by decide)) rfl (pxE rfl rfl rfl rfl) (pa_cons (pv 5) (pa_nil))) (pe_callTy call_tuple_of rfl G.nm.tuple (by decide +kernel) (pa_cons (pv 1) (pa_nil))) (nomark _)) (pw_or (pt_cmpR op_ne (pe_gd g_whole_of (hr.mono (by decide)) rfl (pxE rfl rfl rfl rfl) (pa_cons (pv 5) (pa_nil))) (pv 0) (nomark _)) (pw_or1 (pt_val (pe_callB call_isi rfl G.nm.isinstance (by decide +kernel) (pa_cons (pe_gdk g_whole_of_k (hr.mono (by decide)) rfl (pxE rfl rfl rfl rfl) (pk_cons (pv 5) (pk_nil))) (pa_cons ((pe_bltn (v := .ty "bool") (u := .type "bool") rfl G.nm.bool PyProof.Rows.Boot.«bool» rfl)) (pa_nil))))))))) (pss_one (ps_ret (pe_bl))) (pss_nil)) (pss_cons (ps_set (i := 6) nd rfl (Or.inl rfl) (pe_gdk g_parents_k (hr.mono (by decide)) rfl (pxE rfl rfl rfl rfl) (pk_cons (pv 5) (pk_nil)))) (pss_cons (ps_if (PW.pt (pw_or (pt_not (pt_val (pe_callB call_isi rfl G.nm.isinstance (by decide +kernel) (pa_cons (pv 6) (pa_cons ((pe_bltn (v := .ty "tuple") (u := .type "tuple") rfl G.nm.tuple PyProof.Rows.Boot.«tuple» rfl)) (pa_nil)))))) (pw_or (pt_cmpR op_ne (pe_callB call_len_seq rfl G.nm.len (by decide +kernel) (pa_cons (pv 6) (pa_nil))) (pe_int) (nomark _)) (pw_or (pt_not (pt_val (pe_gd g_l_is (hr.mono (by decide)) rfl (pxE rfl rfl rfl rfl) (pa_cons (pe_ix ix_tup (pv 6) (pe_int) (fun _ _ => rfl)) (pa_cons (pv 2) (pa_nil)))))) (pw_or1 (pt_not (pt_val (pe_gd g_l_is (hr.mono (by decide)) rfl (pxE rfl rfl rfl rfl) (pa_cons (pe_ix ix_tup (pv 6) (pe_int) (fun _ _ => rfl)) (pa_cons (pv 3) (pa_nil))))))))))) (pss_one (ps_ret (pe_bl))) (pss_nil)) (pss_cons (ps_if (PW.pt (pw_or (pt_not (pt_val (pe_gd g_l_is (hr.mono (by decide)) rfl (pxE rfl rfl rfl rfl) (pa_cons (pe_gd g_mediant (hr.mono (by decide)) rfl (pxE rfl rfl rfl rfl) (pa_cons (pe_ix ix_tup (pv 6) (pe_int) (fun _ _ => rfl)) (pa_cons (pe_ix ix_tup (pv 6) (pe_int) (fun _ _ => rfl)) (pa_nil)))) (pa_cons (pv 4) (pa_nil)))))) (pw_or1 (pt_not (pt_val (pe_gd g_l_is (hr.mono (by decide)) rfl (pxE rfl rfl rfl rfl) (pa_cons (pe_gdk g_mediant_k (hr.mono (by decide)) rfl (pxE rfl rfl rfl rfl) (pk_cons (pe_ix ix_tup (pv 6) (pe_int) (fun _ _ => rfl)) (pk_cons (pe_ix ix_tup (pv 6) (pe_int) (fun _ _ => rfl)) (pk_nil)))) (pa_cons (pv 4) (pa_nil))))))))) (pss_one (ps_ret (pe_bl))) (pss_nil)) (pss_cons (ps_if (PW.pt (pw_or (pt_cmpR op_isnot_bl (pe_gd g_are_near (hr.mono (by decide)) rfl (pxE rfl rfl rfl rfl) (pa_cons (pe_ix ix_tup (pv 6) (pe_int) (fun _ _ => rfl)) (pa_cons (pe_ix ix_tup (pv 6) (pe_int) (fun _ _ => rfl)) (pa_nil)))) (pe_bl) (nomark _)) (pw_or (pt_cmpR op_isnot_bl (pe_gd g_are_near (hr.mono (by decide)) rfl (pxE rfl rfl rfl rfl) (pa_cons (pe_ix ix_tup (pv 6) (pe_int) (fun _ _ => rfl)) (pa_cons (pv 5) (pa_nil)))) (pe_bl) (nomark _)) (pw_or1 (pt_cmpR op_isnot_bl (pe_gd g_are_near (hr.mono (by decide)) rfl (pxE rfl rfl rfl rfl) (pa_cons (pv 5) (pa_cons (pe_ix ix_tup (pv 6) (pe_int) (fun _ _ => rfl)) (pa_nil)))) (pe_bl) (nomark _)))))) (pss_one (ps_ret (pe_bl))) (pss_nil)) (pss_one (ps_ret (pe_gd g_l_letters_right (hr.mono (by decide)) rfl (pxE rfl rfl rfl rfl) (pa_cons (pv 0) (pa_cons (pv 1) (pa_cons (pv 4) (pa_nil)))))))))))))), ?_⟩)
  obtain ⟨w0, l, rs, rfl, hl, hrs, hw, q⟩ := h
  have led := led_of hw hrs
  obtain ⟨s, hs⟩ : ∃ s, s = ledGo true rs ⟨w0, 1, w0 + 1, 1⟩ := ⟨_, rfl⟩
  rw [← hs] at led
  walk_at "rd"
  intro pp q1 q2 H1 s1 tp t1 t2
  rw [← hs] at t1 t2
  have hl1 := s1 _ _ hl
  walk_at "rd"
  intro pz hz
  have s2 := Same.new (o := .tup [.int (s.a + s.c), .int (s.b + s.d)]) hz
  have t1 := s2 _ _ t1
  have t2 := s2 _ _ t2
  have hl2 := s2 _ _ hl1
  have tz : upd H1 pz (.tup [.int (s.a + s.c), .int (s.b + s.d)]) pz = some (.tup [.int (s.a + s.c), .int (s.b + s.d)]) := upd_same
  obtain ⟨y1, y2⟩ := led.sm.mid
  have hb := led.b
  have hd := led.d
  walk_at "rd"
  apply makeR2 (show s.b + s.d ≠ 0 by omega) (nb_le y1) (nb_le y2)
  intro ra H3 s3 _ ir3
  obtain ⟨q0, hq0⟩ : ∃ q0, q0 = Rat.divInt (s.a + s.c) (s.b + s.d) := ⟨_, rfl⟩
  have hcr := led.cr
  simp only [Q4.cr] at hcr
  obtain ⟨en, ed⟩ := cop_num (a := s.a + s.c) (b := s.b + s.d) (by omega) (cop_of (x := s.b) (y := s.a) (by grind))
  rw [← hq0] at ir3 en ed
  have v3 := RV.mk ir3
  have z0 : Sz q0 201 := ⟨by rw [en]; exact y1, by omega⟩
  have z1800 : Sz q0 1800 := z0.mono
  have z1900 : Sz q0 1900 := z0.mono
  have z3900 : Sz q0 3900 := z0.mono
  have nd1 : ((q0.den : Nat) : Int) ≠ 1 := by rw [ed]; omega
  have t1 := s3 _ _ t1
  have t2 := s3 _ _ t2
  have tz := s3 _ _ tz
  have hl3 := s3 _ _ hl2
  have s13 := (s1.trans s2).trans s3
  obtain ⟨ew, em⟩ := led.fdm hrs
  walk_at "rd"
  refine .inl ⟨q0, v3, z1800, fun e => absurd e nd1, fun _ => ⟨rs1 rs, rs1_ne rs, hrs.ones, by have := hrs.many; cases rs <;> simp [rs1] at this ⊢ <;> omega, by rw [en, ed]; exact led.pq hrs, fun pr H4 s4 tr => ?_⟩⟩
  rw [fin_rs1 hrs] at tr
  have hl4 := s4 _ _ hl3
  walk_at "rd"
  refine .inl ⟨SqL.of hl4, fun pt hpt => ?_⟩
  have s5 := Same.new (o := .tup (rs.map V.int)) hpt
  have tr := s5 _ _ tr
  have tt : upd H4 pt (.tup (rs.map V.int)) pt = some (.tup (rs.map V.int)) := upd_same
  have v5 := v3.ext (s4.trans s5)
  refine ⟨.tuple (rs.map PyData.int), .tuple (rs.map PyData.int), .tup (SqT.of tr) (dp_ints _), .tup (SqT.of tt) (dp_ints _), shaped_intsT _, shaped_intsT _, ?_⟩
  rw [eqr (shaped_intsT _)]
  have lr4 : LR K (upd H4 pt (.tup (rs.map V.int))) l q1 q2 pz ra rs s q0 := (LR.mk hl3 t1 t2 tz ir3).ext (s4.trans s5)
  clear t1 t2 tz ir3 v3 tt tr hl4 hl3
  have ew' : q0.num.fdiv ((q0.den : Nat) : Int) = w0 := by rw [en, ed]; exact ew
  have s15 := (s13.trans s4).trans s5
  walk_at "rd"
  refine .inl ⟨q0, v5, z3900, fun H6 s6 => ?_⟩
  rw [ew']
  have lr6 := lr4.ext s6
  have s16 := s15.trans s6
  clear lr4 s15 v5
  walk_at "rd"
  refine iteP (fun z => absurd z (by simp)) (fun _ => ?_)
  walk_at "rd"
  refine .inl ⟨q0, RV.mk lr6.ir, z3900, fun H7 s7 => ?_⟩
  rw [ew']
  have lr7 := lr6.ext s7
  have s17 := s16.trans s7
  clear lr6 s16
  have k1 := (G.tInt (H := H7) w0).2.bool
  have k2 := (G.tInt (H := H7) w0).1
  walk_at "rd"
  refine .inl ⟨q0, RV.mk lr7.ir, z1800, fun e => absurd e nd1, fun _ pt p1 p2 H8 a b s8 tp i1 i2 b0 b1 hab => ?_⟩
  rw [en, ed] at hab i2
  rw [ed] at b1
  have hsb : (s.a + s.c) * s.b - 1 = s.a * (s.b + s.d) := by grind
  obtain rfl : b = s.b := inv_uniq b0 b1 (by omega) (by omega) hab hsb
  obtain rfl : a = s.a := Int.eq_of_mul_eq_mul_right (show s.b + s.d ≠ 0 by omega) (hab.symm.trans hsb)
  rw [show s.a + s.c - s.a = s.c by omega, show s.b + s.d - s.b = s.d by omega] at i2
  have lr8 := lr7.ext s8
  have s18 := s17.trans s8
  clear lr7 s17
  obtain ⟨qa, hqa⟩ : ∃ q, q = Rat.divInt s.a s.b := ⟨_, rfl⟩
  obtain ⟨qc, hqc⟩ : ∃ q, q = Rat.divInt s.c s.d := ⟨_, rfl⟩
  have a3 := cop_of (a := s.b) (b := s.a) (x := s.c) (y := s.d) (by grind)
  rw [Nat.gcd_comm] at a3
  obtain ⟨ea1, ea2⟩ := cop_num (a := s.a) (b := s.b) (by omega) a3
  obtain ⟨ec1, ec2⟩ := cop_num (a := s.c) (b := s.d) (by omega) (cop_of (x := s.b) (y := s.a) (by grind))
  rw [← hqa] at i1 ea1 ea2
  rw [← hqc] at i2 ec1 ec2
  have lp8 : LP K H8 pt p1 p2 qa qc := ⟨tp, i1, i2⟩
  have za : Sz qa 1900 := ⟨by rw [ea1]; exact nb_le led.sm.a, by have := led.sm.b; have := nb_le this (n := 1900); omega⟩
  have zc : Sz qc 1900 := ⟨by rw [ec1]; exact nb_le led.sm.c, by have := led.sm.d; have := nb_le this (n := 1900); omega⟩
  have k3 := (G.tTup tp).2.tup
  have k4 := (G.tTup tp).1
  have t1 := lr8.t1
  walk_at "rd"
  intro H9 s9
  have lr9 := lr8.ext s9
  have lp9 := lp8.ext s9
  have s19 := s18.trans s9
  clear lr8 lp8 s18 t1 tp i1 i2 k3 k4
  obtain ⟨tp, i1, i2⟩ := id lp9
  have t2 := lr9.t2
  walk_at "rd"
  intro H10 s10
  have lr10 := lr9.ext s10
  have lp10 := lp9.ext s10
  have s1A := s19.trans s10
  clear lr9 lp9 s19 t2 tp i1 i2
  obtain ⟨tp, i1, i2⟩ := id lp10
  have em1 : Rat.divInt (qa.num + qc.num) (((qa.den : Nat) : Int) + ((qc.den : Nat) : Int)) = q0 := by rw [ea1, ea2, ec1, ec2, hq0]
  have em2 : Rat.divInt (qc.num + qa.num) (((qc.den : Nat) : Int) + ((qa.den : Nat) : Int)) = q0 := by rw [ea1, ea2, ec1, ec2, hq0, Int.add_comm s.c s.a, Int.add_comm s.d s.b]
  walk_at "rd"
  refine .inl ⟨qa, qc, RV.mk i1, RV.mk i2, za, zc, fun m H11 s11 im => ?_⟩
  rw [em1] at im
  have lr11 := lr10.ext s11
  have lp11 := lp10.ext s11
  have s1B := s1A.trans s11
  clear lr10 lp10 s1A tp i1 i2
  have tz := lr11.tz
  walk_at "rd"
  intro H12 s12
  have lr12 := lr11.ext s12
  have lp12 := lp11.ext s12
  have s1C := s1B.trans s12
  clear lr11 lp11 s1B tz im
  obtain ⟨tp, i1, i2⟩ := id lp12
  walk_at "rd"
  refine .inl ⟨qc, qa, RV.mk i2, RV.mk i1, zc, za, fun m H13 s13' im => ?_⟩
  rw [em2] at im
  have lr13 := lr12.ext s13'
  have lp13 := lp12.ext s13'
  have s1D := s1C.trans s13'
  clear lr12 lp12 s1C tp i1 i2
  have tz := lr13.tz
  walk_at "rd"
  intro H14 s14
  have lr14 := lr13.ext s14
  have lp14 := lp13.ext s14
  have s1E := s1D.trans s14
  clear lr13 lp13 s1D tz im
  obtain ⟨tp, i1, i2⟩ := id lp14
  have n1 : qnear qa qc = true := decide_eq_true (by rw [ea1, ea2, ec1, ec2]; have : s.a * s.d - s.c * s.b = -1 := by grind
                                                     omega)
  have n2 : qnear qa q0 = true := decide_eq_true (by rw [ea1, ea2, en, ed]; have : s.a * (s.b + s.d) - (s.a + s.c) * s.b = -1 := by grind
                                                     omega)
  have n3 : qnear q0 qc = true := decide_eq_true (by rw [ec1, ec2, en, ed]; have : (s.a + s.c) * s.d - s.c * (s.b + s.d) = -1 := by grind
                                                     omega)
  walk_at "rd"
  refine .inl ⟨qa, qc, RV.mk i1, RV.mk i2, za, zc, fun H15 s15 => ?_⟩
  rw [n1]
  have lr15 := lr14.ext s15
  have lp15 := lp14.ext s15
  have s1F := s1E.trans s15
  clear lr14 lp14 s1E tp i1 i2
  obtain ⟨tp, i1, i2⟩ := id lp15
  walk_at "rd"
  refine .inl ⟨qa, q0, RV.mk i1, RV.mk lr15.ir, za, z1900, fun H16 s16 => ?_⟩
  rw [n2]
  have lr16 := lr15.ext s16
  have lp16 := lp15.ext s16
  have s1G := s1F.trans s16
  clear lr15 lp15 s1F tp i1 i2
  obtain ⟨tp, i1, i2⟩ := id lp16
  walk_at "rd"
  refine .inl ⟨q0, qc, RV.mk lr16.ir, RV.mk i2, z1900, zc, fun H17 s17 => ?_⟩
  rw [n3]
  have lr17 := lr16.ext s17
  have s1H := s1G.trans s17
  clear lr16 lp16 s1G tp i1 i2
  have hlz := lr17.hl
  have tz := lr17.tz
  walk_at "rd"
  exact ⟨s, rfl, hlz, hrs, hw, led, tz, fun H18 s18 => q _ (s1H.trans s18)⟩
end
end Sp
end
section
set_option Elab.async false
set_option linter.all false
set_option exponentiation.threshold 5000
set_option maxRecDepth 100000
set_option maxHeartbeats 0
local macro_rules | `(tactic| walk_at "leaf") => `(tactic| first | rfl | assumption | exact True.intro | exact L2.upd_same | exact L2.ClsV.ty _ | exact L2.ClsV.own _ | decide | exact of_decide_eq_true rfl | exact L2.SqL.of (by assumption) | exact L2.SqL.of L2.upd_same | exact Or.inl (L2.SqL.of L2.upd_same) | exact Or.inl (L2.SqL.of (by assumption)) | exact L2.SqT.of (by assumption) | exact L2.SqT.of L2.upd_same | exact Sp.cmL (by decide) | exact Sp.cmR (by decide) | exact ⟨by decide, by decide, by decide⟩ | exact ⟨by decide, by decide⟩ | exact Or.inr (L2.SqT.of (by assumption)) | exact Or.inl ⟨rfl, _, L2.SqL.of (by assumption)⟩ | exact Or.inl ⟨rfl, _, L2.SqL.of L2.upd_same⟩ | omega | fail)
local macro_rules | `(tactic| walk_at "rd1") => `(tactic| first
  | apply Sp.exI
  | (refine And.intro ?lf ?_; (case lf => walk_at "leaf"))
  | fail)
local macro_rules | `(tactic| walk_at "rd") => `(tactic| repeat (walk_at "rd1"))
local macro_rules | `(tactic| walk_at "fR") => `(tactic| (have := (‹Sp.G0 _ _›).R.cl; have := (‹Sp.G0 _ _›).R.no "top" (by simp); have := (‹Sp.G0 _ _›).R.no "bottom" (by simp)))
namespace Sp
open PySem PySem.Spec PyProof.Rows L2
section
variable {P : Program} {w : World} {K : PySem.W.Frag} {mg : Str → Option Value} {base : Heap} {f : Addr} {fd : FuncData}
variable (g_is_integer : GD P w K mg base (L2.CX P w) 1 "is_integer" ["value"] [] (spIsInt K))
  (g_is_ratio : GD P w K mg base (L2.CX P w) 2 "is_ratio" ["value"] [] (spIsRat K)) (g_need_ratio : GD P w K mg base (L2.CX P w) 6 "need_ratio" ["value", "part"] [] (spNeed K))
  (g_xBadRatio : GX P w K mg base 1 "BadRatio" "part" (cX K "BadRatio")) (g_xBadNumber : GX P w K mg base 1 "BadNumber" "part" (cX K "BadNumber")) (g_xUnlike : GX P w K mg base 1 "Unlike" "what" (cX K "Unlike"))
  (g_mRatio : GM P w K mg base (L2.CX P w) 3 "Ratio" (cR K) ["self", "top", "bottom"] [] (spInitR K)) (g_mRatio1 : GM P w K mg base (L2.CX P w) 3 "Ratio" (cR K) ["self", "top", "bottom"] [.int 1] (spInitR K))
  (g_Ratio_of : GS P w K mg base (L2.CX P w) 5 (cR K) "of" (spOf K)) (g_R_below : GP P w K mg base (L2.CX P w) 1 (cR K) "below" (spBelow K)) (g_R_is_whole : GP P w K mg base (L2.CX P w) 1 (cR K) "is_whole" (spWhole K))
variable (g_inverse : GD P w K mg base (L2.CX P w) 1 "inverse" ["number", "modulus"] [] spInv) (g_mediant : GD P w K mg base (L2.CX P w) 7 "mediant" ["one", "other"] [] (spMed K)) (g_are_near : GD P w K mg base (L2.CX P w) 7 "are_near" ["one", "other"] [] (spNear K))
  (g_whole_of : GD P w K mg base (L2.CX P w) 7 "whole_of" ["ratio"] [] (spWh K)) (g_parents : GD P w K mg base (L2.CX P w) 7 "parents" ["ratio"] [] (spPar K)) (g_runs_of : GD P w K mg base (L2.CX P w) 7 "runs_of" ["ratio"] [] (spRuns K))
variable (g_l_dip : GD P w K mg base (L2.CX P w) 1 "_law_dip" ["_law_pail_here", "_law_many"] [] spDip) (g_l_pail : GD P w K mg base (L2.CX P w) 1 "_law_pail" ["_law_script"] [] (spPail K)) (g_l_runs : GD P w K mg base (L2.CX P w) 2 "_law_runs" ["_law_pail_here"] [] spRunsL)
  (g_l_led : GD P w K mg base (L2.CX P w) 1 "_law_led" ["_law_whole", "_law_runs_here"] [] spLed) (g_l_is : GD P w K mg base (L2.CX P w) 1 "_law_is" ["_law_ratio", "_law_pair"] [] (spIs K)) (g_l_lowest : GD P w K mg base (L2.CX P w) 1 "_law_lowest" ["_law_top", "_law_bottom"] [] spLow)
  (g_l_letters_right : GD P w K mg base (L2.CX P w) 1 "_law_letters_right" ["_law_whole", "_law_runs_here", "_law_pair"] [] spLet) (g_l_led_right : GD P w K mg base (L2.CX P w) 8 "_law_led_right" ["_law_whole", "_law_runs_here"] [] spLedR) (g_l_any_right : GD P w K mg base (L2.CX P w) 8 "_law_any_right" ["_law_one", "_law_other"] [] spAnyR)
variable (g_are_near_k : GDK P w K mg base (L2.CX P w) 7 "are_near" ["one", "other"] 2 [0, 1] (spNear K)) (g_mediant_k : GDK P w K mg base (L2.CX P w) 7 "mediant" ["other", "one"] 2 [1, 0] (spMed K))
  (g_whole_of_k : GDK P w K mg base (L2.CX P w) 7 "whole_of" ["ratio"] 1 [0] (spWh K)) (g_parents_k : GDK P w K mg base (L2.CX P w) 7 "parents" ["ratio"] 1 [0] (spPar K))

theorem takesLen {X : Cx} {W : WX} (t : Takes X W) : Takes X (fun c d σ H => σ.length = X.N.length → W c d σ H) := fun u s' ⟨a, B, sI, pins, σ, H, cls, d, e, I, nb, up, sky, na, os, ag, w⟩ =>
  t u s' ⟨a, B, sI, pins, σ, H, cls, d, e, I, nb, up, sky, na, os, ag, w I.len⟩
/-- what is caught: BadNumber, Unlike, with its field -/
def HErr (K : PySem.W.Frag) (Q : VK) : XK := fun cls d H' =>
  (cls = .ref (cX K "BadNumber") ∧ ∃ dd v, d = some dd ∧ H' dd = some (.xd [("part", v)]) ∧ ∀ p, H' p = none → Q (.ref p) (upd H' p (.tup [.str "number", v]))) ∨
  (cls = .ref (cX K "Unlike") ∧ ∃ dd v, d = some dd ∧ H' dd = some (.xd [("what", v)]) ∧ ∀ p, H' p = none → Q (.ref p) (upd H' p (.tup [.str "unlike", v])))
/-- what _law_heard makes of the lambda's reading -/
def TTH (K : PySem.W.Frag) : (XK → Hp → VK → Prop) → Hp → VK → Prop := fun tl H Q => ∀ R : VK, (∀ v H1, (∀ p, H1 p = none → Q (.ref p) (upd H1 p (.tup [.str "told", v]))) → R v H1) → tl (HErr K Q) H R
structure GE (K : PySem.W.Frag) (mg : Str → Option Value) : Prop where
  ss : PySem.W.exmOne K (.ref (cX K "BadNumber")) (.ref (cX K "BadNumber")) = some true
  rs : PySem.W.exmOne K (.ref (cX K "Unlike")) (.ref (cX K "BadNumber")) = some false
  rr : PySem.W.exmOne K (.ref (cX K "Unlike")) (.ref (cX K "Unlike")) = some true
  xs : XfC K (cX K "BadNumber")
  xr : XfC K (cX K "Unlike")
  ns : PySem.W.findIn K (.ref (cX K "BadNumber")) "part" = some none
  nr : PySem.W.findIn K (.ref (cX K "Unlike")) "what" = some none
  ms : mg "BadNumber" = some (.ref (cX K "BadNumber"))
  mr : mg "Unlike" = some (.ref (cX K "Unlike"))
theorem sc_heard : FnScope ["_law_ask", "_law_heard_here", "error"] ["_law_ask"] (defScope (topS 40)) := ⟨rfl, rfl, rfl, by decide +kernel, rfl, by decide +kernel, by decide +kernel⟩
theorem heard_gives {X : Cx} {g : Addr} {cdg : Value} {q : Str} (E : GE X.K X.mg) : LamX.GivesTo X ["_law_ask", "_law_heard_here", "error"] "_law_heard" (defScope (topS 40)) g cdg (defBody (topS 40)) "_law_ask" q (TTH X.K) := by
  intro f c' s H Q tl act hc h
  have nd := sc_heard.nd
  refine ⟨_, pss_cons (ps_set (i := 1) nd rfl (Or.inl rfl) pe_non) (pss_cons (ps_try_manyA (X := (cxOf C8.CX0 X.prog X.w X.K X.mg X.base ["_law_ask", "_law_heard_here", "error"] "_law_heard" (defScope (topS 40)) g cdg X.A X.stack s H C8.E0).nox)
      (l := [(.ref (cX X.K "BadNumber"), 2, fun a cls d => _), (.ref (cX X.K "Unlike"), 2, fun a cls d => _)])
      (tb := fun W D σ H => ∃ Ech : XK, (∀ cls d σ' H', Ech cls d H' → σ'.length = 3 → W cls d σ' H') ∧ σ[0]? = some (some (.ref f)) ∧ H c' = some (LamX.CodeO c' q) ∧ tl Ech H (fun v H1 => ([V.str "told", v] : List V).length ≤ sizeLine ∧ ∀ p, H1 p = none → D.nx (σ.set 1 (some (.ref p))) (upd H1 p (.tup [.str "told", v]))))
      rfl rfl nd LamX.takes0 (fun W pn xe tk _ => ?body) (.cons ⟨rfl, rfl, .inl E.ms⟩ rfl rfl (fun a oe cls d pn hz hf => pss_one (ps_set (i := 1) nd rfl (Or.inl rfl) (pe_tup (pa_cons pe_str (pa_cons (pe_xf E.xs E.ns hz hf (pv 2)) pa_nil)))))
        (.cons ⟨rfl, rfl, .inl E.mr⟩ rfl rfl (fun a oe cls d pn hz hf => pss_one (ps_set (i := 1) nd rfl (Or.inl rfl) (pe_tup (pa_cons pe_str (pa_cons (pe_xf E.xr E.nr hz hf (pv 2)) pa_nil))))) .nil))) (pss_one (ps_ret (pv 1)))), ?_⟩
  · refine ⟨fun pins s' σ H' D I h' => ?_⟩
    obtain ⟨Ech, hW, h1, h2, h3⟩ := h'
    exact (pss_one (ps_set (i := 1) nd rfl (Or.inl rfl) (pe_tup (pa_cons pe_str (pa_cons (act (fun c d σ H => σ.length = 3 → W c d σ H) pn xe Ech _ _ (takesLen tk) (fun cls d σ' H' e l => hW cls d σ' H' e l)) pa_nil))))).run pins s' σ H' D I ⟨h1, h2, h3⟩
  · refine ⟨HErr X.K Q, fun cls d σ' H' he hl => ?_, rfl, hc, h _ fun v H1 hh => ⟨by show 2 ≤ sizeLine; decide, fun p hp => ⟨_, rfl, hh p hp⟩⟩⟩
    match σ', hl with
    | [x0, x1, x2], _ =>
      have h2 : 2 ≤ sizeLine := by decide
      rcases he with ⟨rfl, dd, v, rfl, e1, e2⟩ | ⟨rfl, dd, v, rfl, e1, e2⟩
      · refine ⟨true, E.ss, fun _ a na => ?_, fun z => Bool.noConfusion z⟩
        exact ⟨_, rfl, rfl, rfl, dd, _, v, rfl, e1, rfl, h2, fun p hp => ⟨_, rfl, e2 p hp⟩⟩
      · refine ⟨false, E.rs, fun z => Bool.noConfusion z, fun _ => ⟨true, E.rr, fun _ a na => ?_, fun z => Bool.noConfusion z⟩⟩
        exact ⟨_, rfl, rfl, rfl, dd, _, v, rfl, e1, rfl, h2, fun p hp => ⟨_, rfl, e2 p hp⟩⟩
/-- what stands at _law_heard -/
structure GHd (K : PySem.W.Frag) (mg : Str → Option Value) : Prop where
  ex : ∃ (g : Addr) (oc : Value) (od : Option Addr) (dV kV doc pm : Value) (an : Option Addr) (cdv ct : Value) (osl : Array (Option Value)), mg "_law_heard" = some (.ref g) ∧ PySem.W.keepIn K (.ref g) = true ∧
    K.lookup g = some ⟨oc, od, .func (PySem.W.fnOf "_law_heard" "_law_heard" (defArgs (topS 40)) (defBody (topS 40)) (defScope (topS 40)) dV kV doc pm an cdv ct), osl⟩ ∧ PySem.W.codeIn K cdv "_law_heard" = true ∧
    Binds K (PySem.W.fnOf "_law_heard" "_law_heard" (defArgs (topS 40)) (defBody (topS 40)) (defScope (topS 40)) dV kV doc pm an cdv ct) ["_law_ask"] []
theorem GHd.of (F : FP K "_law_heard" "_law_heard" (topS 40) [] f fd) (hm : mg "_law_heard" = some (.ref f)) : GHd K mg := by
  have b := FunD.bindsN (ps := ["_law_ask"]) F fun _ _ _ _ _ _ us hl => match us, hl with | [_], _ => rfl
  obtain ⟨oc, od, dV, kV, doc, pm, an, cdv, ct, osl, rfl, lk, hcd, _, _⟩ := F.ex
  exact ⟨f, oc, od, dV, kV, doc, pm, an, cdv, ct, osl, hm, F.kp, lk, hcd, b⟩
theorem pe_heard {X : Cx} {T : List (Addr × Str)} {c P : Addr} {k : Nat} {params : Arguments} {body : Expr} {scope : Scope} {t : XK → TE} {p lpos pos : Pos} (G : GHd X.K X.mg) (E : GE X.K X.mg) (hg : Gl X "_law_heard")
    (TB : LamX.TabB X.base X.mg c P) (hcode : X.env.code = .ref c) (hmT : (P, X.env.qual ++ "<lambda>") ∈ T) (hu : ∀ p ∈ T, p.1 = P → p.2 = X.env.qual ++ "<lambda>") (hr : Room (k + 2) X.A) (L : LamX.LamS X.env.scope scope) (hdef : defaultsOf params X.env = ([], []))
    (hbind : ∀ (q : Str) (cl : List (Str × Addr)) (pm cv ctv : Value), bindArgs (PySem.W.kla_fn "<lambda>" q params body scope cl pm cv ctv) ⟨[], []⟩ = pure [])
    (hbody : ∀ (A : Around) (outer : List Env) (s : Shared) (H : Hp) (E : XK) (f c' : Addr), Room k (A.deeper (LamX.lamEnv X scope s.heap.objs.size f c')) → PE (LamX.lamCx X A outer s H E scope f c') body (t E)) :
    PE X (.Call (.Name "_law_heard" p) [.Lambda params body scope lpos] [] pos) (LamX.tLam T (TTH X.K) t) := by
  obtain ⟨g, oc, od, dV, kV, doc, pm, an, cdv, ct, osl, hm, hk, lk, hcd, hb⟩ := G.ex
  exact LamX.pe_lamcall (Ng := ["_law_ask", "_law_heard_here", "error"]) hg hm hk lk hcd hb sc_heard rfl (Or.inl rfl) (heard_gives E) TB hcode hmT hu hr L hdef hbind hbody
end
/-- as FunD.ok, the code object named -/
theorem okC {P : Program} {w : World} {K : PySem.W.Frag} {mg : Str → Option Value} {base : Heap} {x qual : Str} {params : Arguments} {body : List Stmt} {scope : Scope} {dvs : List V} {kws : List (Str × V)} {f c : Addr} {fd : FuncData} {CX : CXT} {N ps : List Str} {k : Nat} {sp : Sp}
    (F : FunD K x qual params body scope dvs kws f fd) (hc : fd.code = .ref c) (S : FnScope N ps scope) (len : ∀ vs H Q E, sp vs H Q E → vs.length = ps.length)
    (hbody : ∀ (A : Around) (outer : List Env) (s : Shared) (H : Hp) (vs : List V) (Q : VK) (E : XK), Room k (A.deeper (envOfC qual scope s.heap.objs.size f (.ref c))) → sp vs H Q E →
      ∃ t, PSs (cxOf CX P w K mg base N qual scope f (.ref c) A outer s H E) body t ∧ t { nx := fun _ H' => Q .non H', rt := Q } (L2.start N vs) H) : FnOk P w K mg base CX (k + 1) f fd ps sp := by
  obtain ⟨oc, od, dV, kV, doc, pm, an, cdv, ct, osl, rfl, lk, hcd, _, _⟩ := F.ex
  have e : cdv = .ref c := hc
  subst e
  exact fn_of lk hcd S len fun A outer s H vs Q E hr hsp => hbody A outer s H vs Q E hr hsp
end Sp
end
section
set_option Elab.async false
set_option linter.all false
set_option exponentiation.threshold 5000
set_option maxRecDepth 100000
set_option maxHeartbeats 0
local macro_rules | `(tactic| walk_at "leaf") => `(tactic| first | rfl | assumption | exact True.intro | exact L2.upd_same | exact L2.ClsV.ty _ | exact L2.ClsV.own _ | decide | exact of_decide_eq_true rfl | exact L2.SqL.of (by assumption) | exact L2.SqL.of L2.upd_same | exact Or.inl (L2.SqL.of L2.upd_same) | exact Or.inl (L2.SqL.of (by assumption)) | exact L2.SqT.of (by assumption) | exact L2.SqT.of L2.upd_same | exact Sp.cmL (by decide) | exact Sp.cmR (by decide) | exact ⟨by decide, by decide, by decide⟩ | exact ⟨by decide, by decide⟩ | exact Or.inr (L2.SqT.of (by assumption)) | exact Or.inl ⟨rfl, _, L2.SqL.of (by assumption)⟩ | exact Or.inl ⟨rfl, _, L2.SqL.of L2.upd_same⟩ | omega | fail)
local macro_rules | `(tactic| walk_at "rd1") => `(tactic| first
  | apply Sp.exI
  | (refine And.intro ?lf ?_; (case lf => walk_at "leaf"))
  | fail)
local macro_rules | `(tactic| walk_at "rd") => `(tactic| repeat (walk_at "rd1"))
local macro_rules | `(tactic| walk_at "fR") => `(tactic| (have := (‹Sp.G0 _ _›).R.cl; have := (‹Sp.G0 _ _›).R.no "top" (by simp); have := (‹Sp.G0 _ _›).R.no "bottom" (by simp)))
namespace Sp
open PySem PySem.Spec PyProof.Rows L2
section
variable {P : Program} {w : World} {K : PySem.W.Frag} {mg : Str → Option Value} {base : Heap} {f : Addr} {fd : FuncData}
variable (g_is_integer : GD P w K mg base (L2.CX P w) 1 "is_integer" ["value"] [] (spIsInt K))
  (g_is_ratio : GD P w K mg base (L2.CX P w) 2 "is_ratio" ["value"] [] (spIsRat K)) (g_need_ratio : GD P w K mg base (L2.CX P w) 6 "need_ratio" ["value", "part"] [] (spNeed K))
  (g_xBadRatio : GX P w K mg base 1 "BadRatio" "part" (cX K "BadRatio")) (g_xBadNumber : GX P w K mg base 1 "BadNumber" "part" (cX K "BadNumber")) (g_xUnlike : GX P w K mg base 1 "Unlike" "what" (cX K "Unlike"))
  (g_mRatio : GM P w K mg base (L2.CX P w) 3 "Ratio" (cR K) ["self", "top", "bottom"] [] (spInitR K)) (g_mRatio1 : GM P w K mg base (L2.CX P w) 3 "Ratio" (cR K) ["self", "top", "bottom"] [.int 1] (spInitR K))
  (g_Ratio_of : GS P w K mg base (L2.CX P w) 5 (cR K) "of" (spOf K)) (g_R_below : GP P w K mg base (L2.CX P w) 1 (cR K) "below" (spBelow K)) (g_R_is_whole : GP P w K mg base (L2.CX P w) 1 (cR K) "is_whole" (spWhole K))
variable (g_inverse : GD P w K mg base (L2.CX P w) 1 "inverse" ["number", "modulus"] [] spInv) (g_mediant : GD P w K mg base (L2.CX P w) 7 "mediant" ["one", "other"] [] (spMed K)) (g_are_near : GD P w K mg base (L2.CX P w) 7 "are_near" ["one", "other"] [] (spNear K))
  (g_whole_of : GD P w K mg base (L2.CX P w) 7 "whole_of" ["ratio"] [] (spWh K)) (g_parents : GD P w K mg base (L2.CX P w) 7 "parents" ["ratio"] [] (spPar K)) (g_runs_of : GD P w K mg base (L2.CX P w) 7 "runs_of" ["ratio"] [] (spRuns K))
variable (g_l_dip : GD P w K mg base (L2.CX P w) 1 "_law_dip" ["_law_pail_here", "_law_many"] [] spDip) (g_l_pail : GD P w K mg base (L2.CX P w) 1 "_law_pail" ["_law_script"] [] (spPail K)) (g_l_runs : GD P w K mg base (L2.CX P w) 2 "_law_runs" ["_law_pail_here"] [] spRunsL)
  (g_l_led : GD P w K mg base (L2.CX P w) 1 "_law_led" ["_law_whole", "_law_runs_here"] [] spLed) (g_l_is : GD P w K mg base (L2.CX P w) 1 "_law_is" ["_law_ratio", "_law_pair"] [] (spIs K)) (g_l_lowest : GD P w K mg base (L2.CX P w) 1 "_law_lowest" ["_law_top", "_law_bottom"] [] spLow)
  (g_l_letters_right : GD P w K mg base (L2.CX P w) 1 "_law_letters_right" ["_law_whole", "_law_runs_here", "_law_pair"] [] spLet) (g_l_led_right : GD P w K mg base (L2.CX P w) 8 "_law_led_right" ["_law_whole", "_law_runs_here"] [] spLedR) (g_l_any_right : GD P w K mg base (L2.CX P w) 8 "_law_any_right" ["_law_one", "_law_other"] [] spAnyR)
variable (g_are_near_k : GDK P w K mg base (L2.CX P w) 7 "are_near" ["one", "other"] 2 [0, 1] (spNear K)) (g_mediant_k : GDK P w K mg base (L2.CX P w) 7 "mediant" ["other", "one"] 2 [1, 0] (spMed K))
  (g_whole_of_k : GDK P w K mg base (L2.CX P w) 7 "whole_of" ["ratio"] 1 [0] (spWh K)) (g_parents_k : GDK P w K mg base (L2.CX P w) 7 "parents" ["ratio"] 1 [0] (spPar K))

theorem di_three (w : Int) : Rat.divInt (3 * w) 3 = (w : Rat) := by
  rw [← divInt_one]
  exact (Rat.divInt_eq_divInt_iff (by decide) (by decide)).mpr (by omega)
theorem shN : SeqAt.shaped (.tuple [.none, .none]) = true := by decide +kernel
theorem shU : SeqAt.shaped (.tuple [.str "unlike", .str "whole"]) = true := by decide +kernel
abbrev qWh : Str := (("_law_whole_right" : Str) ++ ".<locals>.") ++ "<lambda>"
structure Wv (K : PySem.W.Frag) (T : List (Addr × Str)) (H0 H : Hp) (tt r1 r2 : Addr) (w : Int) : Prop where
  ex : LamX.ExtN H0 H
  tb : LamX.Tabs T H
  tt : H tt = some (.tup [.int w, .ref r1, .ref r2])
  i1 : IsR K H r1 (w : Rat)
  i2 : IsR K H r2 (w : Rat)
theorem exR {H H' : Hp} {p : Addr} {q : Rat} (h : IsR K H p q) (e : LamX.ExtN H H') : IsR K H' p q := let ⟨dx, h⟩ := h; ⟨dx, e _ _ h (fun _ z => by cases z)⟩
theorem exRV {H H' : Hp} {v : V} {q : Rat} (h : RV K H v q) (e : LamX.ExtN H H') : RV K H' v q := h.elim (fun ⟨p, a, b⟩ => .inl ⟨p, a, exR b e⟩) .inr
theorem Wv.extN {T : List (Addr × Str)} {H0 H H' : Hp} {tt r1 r2 : Addr} {w : Int} (h : Wv K T H0 H tt r1 r2 w) (e : LamX.ExtN H H') (t : LamX.Tabs T H') : Wv K T H0 H' tt r1 r2 w := ⟨h.ex.trans e, t, e _ _ h.tt (fun _ z => by cases z), exR h.i1 e, exR h.i2 e⟩
theorem Wv.ext {T : List (Addr × Str)} {H0 H H' : Hp} {tt r1 r2 : Addr} {w : Int} (h : Wv K T H0 H tt r1 r2 w) (e : Same H H') : Wv K T H0 H' tt r1 r2 w := h.extN (LamX.ExtN.of e) (h.tb.ext e)
theorem sc_whR : FnScope ["_law_whole", "_law_value"] ["_law_whole"] (defScope (topS 43)) := ⟨rfl, rfl, rfl, by decide +kernel, rfl, by decide +kernel, by decide +kernel⟩
include g_are_near g_mRatio g_mRatio1 g_parents g_runs_of g_whole_of in
theorem ok_whR {c Pt : Addr} {T : List (Addr × Str)} (G : G0 K mg) (gEr : GE K mg) (gHd : GHd K mg) (hTB : LamX.TabB base mg c Pt) (hmT : (Pt, qWh) ∈ T) (huT : ∀ p ∈ T, p.1 = Pt → p.2 = qWh) (hfc : fd.code = .ref c)
    (F : FP K "_law_whole_right" "_law_whole_right" (topS 43) [] f fd) : FnOk P w K mg base (L2.CX P w) 12 f fd ["_law_whole"] (spWhR T) := by
  have nd := sc_whR.nd
  refine okC F hfc sc_whR (fun vs H Q E h => by obtain ⟨_, rfl, _⟩ := h; rfl) (fun A outer s H vs Q E hr h => ⟨_, pss_cons (ps_for ((passes_of rfl)) rfl (pi_tup (pe_tup (pa_cons (pv 0) (pa_cons (pe_gm g_mRatio1 (hr.mono (by decide)) rfl (pxE rfl rfl rfl rfl) (pa_cons (pv 0) (pa_nil))) (pa_cons (pe_gm g_mRatio (hr.mono (by decide)) rfl (pxE rfl rfl rfl rfl) (pa_cons (pe_op op_mulB (pe_int) (pv 0)) (pa_cons (pe_int) (pa_nil)))) (pa_nil)))))) (pg_name (i := 1) nd rfl (Or.inr rfl)) (pss_one (ps_if (PW.pt (pw_or (pt_cmpR (op_neD hr.units) (pe_gd g_parents (hr.mono (by decide)) rfl (pxE rfl rfl rfl rfl) (pa_cons (pv 1) (pa_nil))) (pe_tup (pa_cons (pe_non) (pa_cons (pe_non) (pa_nil)))) (nomark _)) (pw_or (pt_cmpR op_ne (pe_gd g_whole_of (hr.mono (by decide)) rfl (pxE rfl rfl rfl rfl) (pa_cons (pv 1) (pa_nil))) (pv 0) (nomark _)) (pw_or1 (pt_cmpR (op_neD hr.units) (pe_heard (k := 9) gHd gEr rfl hTB rfl hmT huT (hr.mono (by decide)) (LamX.lamS_by (sc := defScope (topS 43)) (by decide +kernel)) rfl (fun _ _ _ _ _ => rfl) (fun _ _ _ _ _ _ _ hr => pe_gd g_runs_of (hr.mono (by decide)) rfl (pxE rfl rfl rfl rfl) (pa_cons (pv 1) (pa_nil)))) (pe_tup (pa_cons (pe_str) (pa_cons (pe_str) (pa_nil)))) (nomark _)))))) (pss_one (ps_ret (pe_bl))) (pss_nil)))) (pss_one (ps_ret (pe_and (pe_cmpR op_is_bl (pe_gd g_are_near (hr.mono (by decide)) rfl (pxE rfl rfl rfl rfl) (pa_cons (pv 0) (pa_cons (pe_op op_add (pv 0) (pe_int)) (pa_nil)))) (pe_bl) (nomark _)) (pe_and (pe_cmpR op_is_bl (pe_gd g_are_near (hr.mono (by decide)) rfl (pxE rfl rfl rfl rfl) (pa_cons (pv 0) (pa_cons (pv 0) (pa_nil)))) (pe_bl) (nomark _)) (pe_one (pe_cmpR op_is_bl (pe_gd g_are_near (hr.mono (by decide)) rfl (pxE rfl rfl rfl rfl) (pa_cons (pv 0) (pa_cons (pe_op op_add (pv 0) (pe_int)) (pa_nil)))) (pe_bl) (nomark _))))))), ?_⟩)
  obtain ⟨w0, rfl, hw, hT, q⟩ := h
  have cm3 : CMulB 3 w0 := cm (n := 2) (m := 6) (by decide) (by omega)
  walk_at "rd"
  apply makeR12 (show w0.natAbs < 2 ^ 3900 from nb_le (show w0.natAbs < 2 ^ 6 by omega))
  intro r1 H1 s1 _ i1
  walk_at "rd"
  apply makeR2 (by decide) (nb_le (show (3 * w0).natAbs < 2 ^ 8 by omega)) (nb_le (show (3 : Int).natAbs < 2 ^ 2 by decide))
  intro r2 H2 s2 _ i2
  rw [di_three] at i2
  walk_at "rd"
  intro tt htt
  have s3 := Same.new (o := .tup [.int w0, .ref r1, .ref r2]) htt
  have s13 := (s1.trans s2).trans s3
  have wv3 : Wv K T H (upd H2 tt (.tup [.int w0, .ref r1, .ref r2])) tt r1 r2 w0 := ⟨LamX.ExtN.of s13, hT.ext s13, upd_same, i1.ext (s2.trans s3), i2.ext s3⟩
  have dw : (((w0 : Rat).den : Nat) : Int) = 1 := by rw [Rat.den_intCast]; rfl
  have zw : Sz (w0 : Rat) 7 := sz_int (by omega)
  have z1 : Sz (w0 : Rat) 1800 := zw.mono
  have z2 : Sz (w0 : Rat) 3900 := zw.mono
  have ew : (w0 : Rat).num.fdiv (((w0 : Rat).den : Nat) : Int) = w0 := by rw [dw, Rat.num_intCast, Int.fdiv_one]
  walk_at "rd"
  refine ⟨⟨_, SqT.of upd_same⟩, ?_⟩
  refine for_tup (xs := [.int w0, .ref r1, .ref r2]) (fun i σ Hh => Bx (∃ x1, σ = [some (.int w0), x1] ∧ Wv K T H Hh tt r1 r2 w0)) ⟨⟨_, rfl, wv3⟩⟩ (fun i σ Hh _ hP => ?_) (fun i x σ Hh hx hP => ?_) (fun σ Hh hP => ?_)
  · obtain ⟨x1, rfl, wv⟩ := hP.out
    exact SqT.of wv.tt
  · obtain ⟨x1, rfl, wv⟩ := hP.out
    have rv : RV K Hh x (w0 : Rat) := by
      match i, hx with
      | 0, hx => cases hx; exact RV.int K Hh w0
      | 1, hx => cases hx; exact RV.mk wv.i1
      | 2, hx => cases hx; exact RV.mk wv.i2
    walk_at "rd"
    refine .inl ⟨_, rv, z1, fun _ pp H4 s4 tp => ?_, fun e => absurd dw e⟩
    have rv4 := rv.ext s4
    have wv4 := wv.ext s4
    walk_at "rd"
    intro pn hpn
    have s5 := Same.new (o := .tup [.non, .non]) hpn
    have tp5 := s5 _ _ tp
    have tn : upd H4 pn (.tup [.non, .non]) pn = some (.tup [.non, .non]) := upd_same
    have rv5 := rv4.ext s5
    have wv5 := wv4.ext s5
    refine ⟨.tuple [.none, .none], .tuple [.none, .none], .tup (SqT.of tp5) (.cons .non (.cons .non .nil)), .tup (SqT.of tn) (.cons .non (.cons .non .nil)), shN, shN, ?_⟩
    rw [eqr shN]
    walk_at "rd"
    refine .inl ⟨_, rv5, z2, fun H6 s6 => ?_⟩
    rw [ew]
    have rv6 := rv5.ext s6
    have wv6 := wv5.ext s6
    walk_at "rd"
    refine iteP (fun z => absurd z (by simp)) (fun _ => ?_)
    walk_at "rd"
    refine ⟨wv6.tb, fun H7 e7 t7 R7 hR7 => ?_⟩
    have rv7 := exRV rv6 e7
    have wv7 := wv6.extN e7 t7
    refine ⟨_, rfl, x, rfl, .inl ⟨_, rv7, z1, fun _ => fun dd H8 s8 nd' ed => .inr ⟨rfl, dd, _, rfl, ed, fun t8 ht8 => ?_⟩, fun e => absurd dw e⟩⟩
    have wv8 := (wv7.ext s8).ext (Same.new (o := .tup [.str "unlike", .str "whole"]) ht8)
    have tp8 : upd H8 t8 (.tup [.str "unlike", .str "whole"]) t8 = some (.tup [.str "unlike", .str "whole"]) := upd_same
    walk_at "rd"
    intro pu hpu
    have s9 := Same.new (o := .tup [.str "unlike", .str "whole"]) hpu
    have tp9 := s9 _ _ tp8
    have tu : upd (upd H8 t8 (.tup [.str "unlike", .str "whole"])) pu (.tup [.str "unlike", .str "whole"]) pu = some (.tup [.str "unlike", .str "whole"]) := upd_same
    refine ⟨.tuple [.str "unlike", .str "whole"], .tuple [.str "unlike", .str "whole"], .tup (SqT.of tp9) (.cons (.str _) (.cons (.str _) .nil)), .tup (SqT.of tu) (.cons (.str _) (.cons (.str _) .nil)), shU, shU, ?_⟩
    rw [eqr shU]
    walk_at "rd"
    exact ⟨⟨_, rfl, wv8.ext s9⟩⟩
  · obtain ⟨x1, rfl, wv⟩ := hP.out
    have zw' : ∀ x : Int, x.natAbs ≤ 50 → Sz (x : Rat) 1900 := fun x hx => (sz_int (n := 7) (by omega)).mono
    have nc : ∀ a b : Int, qnear (a : Rat) (b : Rat) = decide ((a - b).natAbs = 1) := fun a b => by
      unfold qnear
      rw [Rat.num_intCast, Rat.num_intCast, Rat.den_intCast, Rat.den_intCast]
      simp
    walk_at "rd"
    refine .inl ⟨_, _, RV.int K Hh w0, RV.int K Hh (w0 + 1), zw' _ (by omega), zw' _ (by omega), fun H4 s4 => ?_⟩
    rw [nc, decide_eq_true (by omega)]
    walk_at "rd"
    refine .inl ⟨_, _, RV.int K H4 w0, RV.int K H4 w0, zw' _ (by omega), zw' _ (by omega), fun H5 s5 => ?_⟩
    rw [nc, decide_eq_false (by omega)]
    walk_at "rd"
    refine .inl ⟨_, _, RV.int K H5 w0, RV.int K H5 (w0 + 2), zw' _ (by omega), zw' _ (by omega), fun H6 s6 => ?_⟩
    rw [nc, decide_eq_false (by omega)]
    walk_at "rd"
    have e := (s4.trans s5).trans s6
    exact q _ (wv.ext e).ex (wv.ext e).tb
end
end Sp
end
section
set_option Elab.async false
set_option linter.all false
set_option exponentiation.threshold 5000
set_option maxRecDepth 100000
set_option maxHeartbeats 0
local macro_rules | `(tactic| walk_at "leaf") => `(tactic| first | rfl | assumption | exact True.intro | exact L2.upd_same | exact L2.ClsV.ty _ | exact L2.ClsV.own _ | decide | exact of_decide_eq_true rfl | exact L2.SqL.of (by assumption) | exact L2.SqL.of L2.upd_same | exact Or.inl (L2.SqL.of L2.upd_same) | exact Or.inl (L2.SqL.of (by assumption)) | exact L2.SqT.of (by assumption) | exact L2.SqT.of L2.upd_same | exact Sp.cmL (by decide) | exact Sp.cmR (by decide) | exact ⟨by decide, by decide, by decide⟩ | exact ⟨by decide, by decide⟩ | exact Or.inr (L2.SqT.of (by assumption)) | exact Or.inl ⟨rfl, _, L2.SqL.of (by assumption)⟩ | exact Or.inl ⟨rfl, _, L2.SqL.of L2.upd_same⟩ | omega | fail)
local macro_rules | `(tactic| walk_at "rd1") => `(tactic| first
  | apply Sp.exI
  | (refine And.intro ?lf ?_; (case lf => walk_at "leaf"))
  | fail)
local macro_rules | `(tactic| walk_at "rd") => `(tactic| repeat (walk_at "rd1"))
local macro_rules | `(tactic| walk_at "fR") => `(tactic| (have := (‹Sp.G0 _ _›).R.cl; have := (‹Sp.G0 _ _›).R.no "top" (by simp); have := (‹Sp.G0 _ _›).R.no "bottom" (by simp)))
namespace Sp
open PySem PySem.Spec PyProof.Rows L2
section
variable {P : Program} {w : World} {K : PySem.W.Frag} {mg : Str → Option Value} {base : Heap} {f : Addr} {fd : FuncData}
variable (g_is_integer : GD P w K mg base (L2.CX P w) 1 "is_integer" ["value"] [] (spIsInt K))
  (g_is_ratio : GD P w K mg base (L2.CX P w) 2 "is_ratio" ["value"] [] (spIsRat K)) (g_need_ratio : GD P w K mg base (L2.CX P w) 6 "need_ratio" ["value", "part"] [] (spNeed K))
  (g_xBadRatio : GX P w K mg base 1 "BadRatio" "part" (cX K "BadRatio")) (g_xBadNumber : GX P w K mg base 1 "BadNumber" "part" (cX K "BadNumber")) (g_xUnlike : GX P w K mg base 1 "Unlike" "what" (cX K "Unlike"))
  (g_mRatio : GM P w K mg base (L2.CX P w) 3 "Ratio" (cR K) ["self", "top", "bottom"] [] (spInitR K)) (g_mRatio1 : GM P w K mg base (L2.CX P w) 3 "Ratio" (cR K) ["self", "top", "bottom"] [.int 1] (spInitR K))
  (g_Ratio_of : GS P w K mg base (L2.CX P w) 5 (cR K) "of" (spOf K)) (g_R_below : GP P w K mg base (L2.CX P w) 1 (cR K) "below" (spBelow K)) (g_R_is_whole : GP P w K mg base (L2.CX P w) 1 (cR K) "is_whole" (spWhole K))
variable (g_inverse : GD P w K mg base (L2.CX P w) 1 "inverse" ["number", "modulus"] [] spInv) (g_mediant : GD P w K mg base (L2.CX P w) 7 "mediant" ["one", "other"] [] (spMed K)) (g_are_near : GD P w K mg base (L2.CX P w) 7 "are_near" ["one", "other"] [] (spNear K))
  (g_whole_of : GD P w K mg base (L2.CX P w) 7 "whole_of" ["ratio"] [] (spWh K)) (g_parents : GD P w K mg base (L2.CX P w) 7 "parents" ["ratio"] [] (spPar K)) (g_runs_of : GD P w K mg base (L2.CX P w) 7 "runs_of" ["ratio"] [] (spRuns K))
variable (g_l_dip : GD P w K mg base (L2.CX P w) 1 "_law_dip" ["_law_pail_here", "_law_many"] [] spDip) (g_l_pail : GD P w K mg base (L2.CX P w) 1 "_law_pail" ["_law_script"] [] (spPail K)) (g_l_runs : GD P w K mg base (L2.CX P w) 2 "_law_runs" ["_law_pail_here"] [] spRunsL)
  (g_l_led : GD P w K mg base (L2.CX P w) 1 "_law_led" ["_law_whole", "_law_runs_here"] [] spLed) (g_l_is : GD P w K mg base (L2.CX P w) 1 "_law_is" ["_law_ratio", "_law_pair"] [] (spIs K)) (g_l_lowest : GD P w K mg base (L2.CX P w) 1 "_law_lowest" ["_law_top", "_law_bottom"] [] spLow)
  (g_l_letters_right : GD P w K mg base (L2.CX P w) 1 "_law_letters_right" ["_law_whole", "_law_runs_here", "_law_pair"] [] spLet) (g_l_led_right : GD P w K mg base (L2.CX P w) 8 "_law_led_right" ["_law_whole", "_law_runs_here"] [] spLedR) (g_l_any_right : GD P w K mg base (L2.CX P w) 8 "_law_any_right" ["_law_one", "_law_other"] [] spAnyR)
variable (g_are_near_k : GDK P w K mg base (L2.CX P w) 7 "are_near" ["one", "other"] 2 [0, 1] (spNear K)) (g_mediant_k : GDK P w K mg base (L2.CX P w) 7 "mediant" ["other", "one"] 2 [1, 0] (spMed K))
  (g_whole_of_k : GDK P w K mg base (L2.CX P w) 7 "whole_of" ["ratio"] 1 [0] (spWh K)) (g_parents_k : GDK P w K mg base (L2.CX P w) 7 "parents" ["ratio"] 1 [0] (spPar K))

structure Rq (K : PySem.W.Frag) (T : List (Addr × Str)) (H : Hp) (r : Addr) (v : V) (q : Rat) : Prop where
  ir : IsR K H r q
  nr : NR K H v
  tb : LamX.Tabs T H
theorem Rq.extN {T : List (Addr × Str)} {H H' : Hp} {r : Addr} {v : V} {q : Rat} (h : Rq K T H r v q) (e : LamX.ExtN H H') (t : LamX.Tabs T H') : Rq K T H' r v q := ⟨exR h.ir e, h.nr.extN e, t⟩
theorem Rq.ext {T : List (Addr × Str)} {H H' : Hp} {r : Addr} {v : V} {q : Rat} (h : Rq K T H r v q) (e : Same H H') : Rq K T H' r v q := h.extN (LamX.ExtN.of e) (h.tb.ext e)
abbrev qRf : Str := (("_law_refused_right" : Str) ++ ".<locals>.") ++ "<lambda>"
def spRefR (K : PySem.W.Frag) (T : List (Addr × Str)) : Sp := fun vs H Q _ => ∃ (a c r : Addr) (N : Nat) (q0 : Rat), vs = [.ref a, .ref r] ∧ Pail H a c N ∧ N ≤ 900000 ∧ IsR K H r q0 ∧ Sz q0 100 ∧ LamX.Tabs T H ∧ ∀ H', Q (.bl true) H'
theorem tabsSb {T : List (Addr × Str)} {H H' : Hp} {a : Addr} {xs : List V} (h : LamX.Tabs T H) (ha : H a = some (.lst xs)) (e : Sb a H H') : LamX.Tabs T H' := fun p hp => by
  obtain ⟨ps, h1, h2, h3⟩ := h p hp
  refine ⟨ps, e _ _ (fun z => ?_) h1, h2, fun pos cv hc => ?_⟩
  · rw [z, ha] at h1
    cases h1
  · obtain ⟨c, e1, e2⟩ := h3 pos cv hc
    refine ⟨c, e1, e _ _ (fun z => ?_) e2⟩
    rw [z, ha] at e2
    unfold LamX.CodeO at e2
    cases e2
theorem rSb {H H' : Hp} {a r : Addr} {q : Rat} {xs : List V} (h : IsR K H r q) (ha : H a = some (.lst xs)) (e : Sb a H H') : IsR K H' r q := by
  obtain ⟨d, h⟩ := h
  exact ⟨d, e _ _ (fun z => by rw [z, ha] at h; cases h) h⟩
theorem shA : SeqAt.shaped (.list [.tuple [.str "number", .str "one"], .tuple [.str "number", .str "other"], .tuple [.str "number", .str "one"]]) = true := by decide +kernel
theorem shB : SeqAt.shaped (.list [.tuple [.str "number", .str "other"], .tuple [.str "number", .str "ratio"], .tuple [.str "number", .str "ratio"]]) = true := by decide +kernel
theorem shC : SeqAt.shaped (.tuple [.str "number", .str "ratio"]) = true := by decide +kernel
theorem sc_refR : FnScope ["_law_pail_here", "_law_ratio", "_law_heard_here", "_law_odd"] ["_law_pail_here", "_law_ratio"] (defScope (topS 45)) := ⟨rfl, rfl, rfl, by decide +kernel, rfl, by decide +kernel, by decide +kernel⟩
include g_are_near g_l_dip g_mediant g_parents g_runs_of g_whole_of in
theorem ok_refR {c Pt : Addr} {T : List (Addr × Str)} (G : G0 K mg) (gEr : GE K mg) (gHd : GHd K mg) (hTB : LamX.TabB base mg c Pt) (hmT : (Pt, qRf) ∈ T) (huT : ∀ p ∈ T, p.1 = Pt → p.2 = qRf) (hfc : fd.code = .ref c)
    (F : FP K "_law_refused_right" "_law_refused_right" (topS 45) [] f fd) : FnOk P w K mg base (L2.CX P w) 12 f fd ["_law_pail_here", "_law_ratio"] (spRefR K T) := by
  have nd := sc_refR.nd
  refine okC F hfc sc_refR (fun vs H Q E h => by obtain ⟨_, _, _, _, _, rfl, _⟩ := h; rfl) (fun A outer s H vs Q E hr h => ⟨_, pss_cons (ps_set (i := 3) nd rfl (Or.inr rfl) (pe_ix ix_tup (pe_tup (pa_cons (pe_non) (pa_cons (pe_bl) (pa_cons (pe_str) (pa_cons (pe_tup (pa_cons (pe_int) (pa_cons (pe_int) (pa_nil)))) (pa_cons (pe_lst (pa_nil)) (pa_cons (pe_bl) (pa_nil)))))))) (pe_gd g_l_dip (hr.mono (by decide)) rfl (pxE rfl rfl rfl rfl) (pa_cons (pv 0) (pa_cons (pe_int) (pa_nil)))) (fun _ _ => rfl))) (pss_cons (ps_set (i := 2) nd rfl (Or.inl rfl) (pe_lst (pa_cons (pe_heard (k := 9) gHd gEr rfl hTB rfl hmT huT (hr.mono (by decide)) (LamX.lamS_by (sc := defScope (topS 45)) (by decide +kernel)) rfl (fun _ _ _ _ _ => rfl) (fun _ _ _ _ _ _ _ hr => pe_gd g_mediant (hr.mono (by decide)) rfl (pxE rfl rfl rfl rfl) (pa_cons (pv 3) (pa_cons (pv 3) (pa_nil))))) (pa_cons (pe_heard (k := 9) gHd gEr rfl hTB rfl hmT huT (hr.mono (by decide)) (LamX.lamS_by (sc := defScope (topS 45)) (by decide +kernel)) rfl (fun _ _ _ _ _ => rfl) (fun _ _ _ _ _ _ _ hr => pe_gd g_mediant (hr.mono (by decide)) rfl (pxE rfl rfl rfl rfl) (pa_cons (pv 1) (pa_cons (pv 3) (pa_nil))))) (pa_cons (pe_heard (k := 9) gHd gEr rfl hTB rfl hmT huT (hr.mono (by decide)) (LamX.lamS_by (sc := defScope (topS 45)) (by decide +kernel)) rfl (fun _ _ _ _ _ => rfl) (fun _ _ _ _ _ _ _ hr => pe_gd g_are_near (hr.mono (by decide)) rfl (pxE rfl rfl rfl rfl) (pa_cons (pv 3) (pa_cons (pv 3) (pa_nil))))) (pa_nil)))))) (pss_cons (ps_if (pt_cmpR (op_neD hr.units) (pv 2) (pe_lst (pa_cons (pe_tup (pa_cons (pe_str) (pa_cons (pe_str) (pa_nil)))) (pa_cons (pe_tup (pa_cons (pe_str) (pa_cons (pe_str) (pa_nil)))) (pa_cons (pe_tup (pa_cons (pe_str) (pa_cons (pe_str) (pa_nil)))) (pa_nil))))) (nomark _)) (pss_one (ps_ret (pe_bl))) (pss_nil)) (pss_cons (ps_set (i := 2) nd rfl (Or.inl rfl) (pe_lst (pa_cons (pe_heard (k := 9) gHd gEr rfl hTB rfl hmT huT (hr.mono (by decide)) (LamX.lamS_by (sc := defScope (topS 45)) (by decide +kernel)) rfl (fun _ _ _ _ _ => rfl) (fun _ _ _ _ _ _ _ hr => pe_gd g_are_near (hr.mono (by decide)) rfl (pxE rfl rfl rfl rfl) (pa_cons (pe_int) (pa_cons (pv 3) (pa_nil))))) (pa_cons (pe_heard (k := 9) gHd gEr rfl hTB rfl hmT huT (hr.mono (by decide)) (LamX.lamS_by (sc := defScope (topS 45)) (by decide +kernel)) rfl (fun _ _ _ _ _ => rfl) (fun _ _ _ _ _ _ _ hr => pe_gd g_parents (hr.mono (by decide)) rfl (pxE rfl rfl rfl rfl) (pa_cons (pv 3) (pa_nil)))) (pa_cons (pe_heard (k := 9) gHd gEr rfl hTB rfl hmT huT (hr.mono (by decide)) (LamX.lamS_by (sc := defScope (topS 45)) (by decide +kernel)) rfl (fun _ _ _ _ _ => rfl) (fun _ _ _ _ _ _ _ hr => pe_gd g_whole_of (hr.mono (by decide)) rfl (pxE rfl rfl rfl rfl) (pa_cons (pv 3) (pa_nil)))) (pa_nil)))))) (pss_one (ps_ret (pe_and (pe_cmpR (op_eqD hr.units) (pv 2) (pe_lst (pa_cons (pe_tup (pa_cons (pe_str) (pa_cons (pe_str) (pa_nil)))) (pa_cons (pe_tup (pa_cons (pe_str) (pa_cons (pe_str) (pa_nil)))) (pa_cons (pe_tup (pa_cons (pe_str) (pa_cons (pe_str) (pa_nil)))) (pa_nil))))) (nomark _)) (pe_one (pe_cmpR (op_eqD hr.units) (pe_heard (k := 9) gHd gEr rfl hTB rfl hmT huT (hr.mono (by decide)) (LamX.lamS_by (sc := defScope (topS 45)) (by decide +kernel)) rfl (fun _ _ _ _ _ => rfl) (fun _ _ _ _ _ _ _ hr => pe_gd g_runs_of (hr.mono (by decide)) rfl (pxE rfl rfl rfl rfl) (pa_cons (pv 3) (pa_nil)))) (pe_tup (pa_cons (pe_str) (pa_cons (pe_str) (pa_nil)))) (nomark _))))))))), ?_⟩)
  obtain ⟨a, c', r, N, q0, rfl, hp, hN, hir, hz0, hT, q⟩ := h
  have zq : Sz q0 1900 := hz0.mono
  have z1 : Sz ((1 : Int) : Rat) 1900 := (sz_int (n := 2) (by decide)).mono
  walk_at "rd"
  intro y hy
  have sY := Same.new (o := .tup [.int 1, .int 2]) hy
  walk_at "rd"
  intro l hl
  have sA := Same.new (o := .lst []) hl
  walk_at "rd"
  intro z hz
  have sB := (sY.trans sA).trans (Same.new (o := .tup [.non, .bl true, .str "1/2", .ref y, .ref l, .bl false]) hz)
  have pB := hp.ext sB
  obtain ⟨xsA, hA⟩ := pB.lst
  have tb3 := hT.ext sB
  have ir3 := hir.ext sB
  have hzB : upd (upd (upd H y (.tup [.int 1, .int 2])) l (.lst [])) z (.tup [.non, .bl true, .str "1/2", .ref y, .ref l, .bl false]) z = some (.tup [.non, .bl true, .str "1/2", .ref y, .ref l, .bl false]) := upd_same
  have hyB := (Same.new (o := .tup [.non, .bl true, .str "1/2", .ref y, .ref l, .bl false]) hz) _ _ (sA y (.tup [.int 1, .int 2]) upd_same)
  have hlB := (Same.new (o := .tup [.non, .bl true, .str "1/2", .ref y, .ref l, .bl false]) hz) l (.lst []) upd_same
  have nla : l ≠ a := by
    obtain ⟨xs0, h0⟩ := hp.lst
    exact (ne_of_none (sY _ _ h0) hl).symm
  walk_at "rd"
  intro d H1 d0 d1 p1 s1
  have d1 : d < 6 := d1
  have hz1 := s1 _ _ (fun e => by have h2 := hA; rw [← e, hzB] at h2; cases h2) hzB
  have hy1 := s1 _ _ (fun e => by have h2 := hA; rw [← e, hyB] at h2; cases h2) hyB
  have hl1 := s1 _ _ nla hlB
  have T1 := tabsSb tb3 hA s1
  have i1 := rSb ir3 hA s1
  obtain ⟨v, hv, ov⟩ : ∃ v, atI [V.non, .bl true, .str "1/2", .ref y, .ref l, .bl false] d = some v ∧ NR K H1 v := by
    rcases (show d = 0 ∨ d = 1 ∨ d = 2 ∨ d = 3 ∨ d = 4 ∨ d = 5 by omega) with rfl | rfl | rfl | rfl | rfl | rfl
    · exact ⟨_, rfl, .inl rfl⟩
    · exact ⟨_, rfl, .inr (.inl ⟨_, rfl⟩)⟩
    · exact ⟨_, rfl, .inr (.inr (.inl ⟨_, rfl⟩))⟩
    · exact ⟨_, rfl, .inr (.inr (.inr (.inl ⟨_, _, rfl, hy1⟩)))⟩
    · exact ⟨_, rfl, .inr (.inr (.inr (.inr ⟨_, _, rfl, hl1⟩)))⟩
    · exact ⟨_, rfl, .inr (.inl ⟨_, rfl⟩)⟩
  have rf0 : Rq K T H1 r v q0 := ⟨i1, ov, T1⟩
  clear T1 hl1 hy1 hyB hlB ir3 tb3 i1 ov pB
  walk_at "rd"
  refine ⟨rf0.tb, fun HL1 eN1 TL1 R1 hR1 => ?_⟩
  have rL1 := rf0.extN eN1 TL1
  refine ⟨_, rfl, _, rfl, _, _, rfl, .inr (.inl ⟨rL1.nr, fun dd HE1 sE1 nd1 ed1 => .inl ⟨rfl, dd, _, rfl, ed1, fun t1 ht1 => ?_⟩⟩)⟩
  have eE1 := eN1.trans (LamX.ExtN.of (sE1.trans (Same.new (o := (.tup [.str "number", .str "one"])) ht1)))
  have rf1 := (rL1.ext sE1).ext (Same.new (o := (.tup [.str "number", .str "one"])) ht1)
  have tp1 : upd HE1 t1 (.tup [.str "number", .str "one"]) t1 = some (.tup [.str "number", .str "one"]) := upd_same
  walk_at "rd"
  refine ⟨rf1.tb, fun HL2 eN2 TL2 R2 hR2 => ?_⟩
  have rL2 := rf1.extN eN2 TL2
  refine ⟨_, rfl, _, rfl, _, _, rfl, .inr (.inr ⟨_, RV.mk rL2.ir, zq, rL2.nr, fun dd HE2 sE2 nd2 ed2 => .inl ⟨rfl, dd, _, rfl, ed2, fun t2 ht2 => ?_⟩⟩)⟩
  have eE2 := eN2.trans (LamX.ExtN.of (sE2.trans (Same.new (o := (.tup [.str "number", .str "other"])) ht2)))
  have rf2 := (rL2.ext sE2).ext (Same.new (o := (.tup [.str "number", .str "other"])) ht2)
  have tp2 : upd HE2 t2 (.tup [.str "number", .str "other"]) t2 = some (.tup [.str "number", .str "other"]) := upd_same
  have tp1 := eE2 _ _ tp1 (fun _ z => by cases z)
  walk_at "rd"
  refine ⟨rf2.tb, fun HL3 eN3 TL3 R3 hR3 => ?_⟩
  have rL3 := rf2.extN eN3 TL3
  refine ⟨_, rfl, _, rfl, _, _, rfl, .inr (.inl ⟨rL3.nr, fun dd HE3 sE3 nd3 ed3 => .inl ⟨rfl, dd, _, rfl, ed3, fun t3 ht3 => ?_⟩⟩)⟩
  have eE3 := eN3.trans (LamX.ExtN.of (sE3.trans (Same.new (o := (.tup [.str "number", .str "one"])) ht3)))
  have rf3 := (rL3.ext sE3).ext (Same.new (o := (.tup [.str "number", .str "one"])) ht3)
  have tp3 : upd HE3 t3 (.tup [.str "number", .str "one"]) t3 = some (.tup [.str "number", .str "one"]) := upd_same
  have tp1 := eE3 _ _ tp1 (fun _ z => by cases z)
  have tp2 := eE3 _ _ tp2 (fun _ z => by cases z)
  walk_at "rd"
  intro LA hLA
  have xA1 := Same.new (o := (.lst [.ref t1, .ref t2, .ref t3])) hLA
  have cAa := xA1 _ _ tp1
  have cAb := xA1 _ _ tp2
  have cAc := xA1 _ _ tp3
  have rgA := rf3.ext xA1
  walk_at "rd"
  intro uA huA
  have yA0 := Same.new (o := (.tup [.str "number", .str "one"])) huA
  walk_at "rd"
  intro vA hvA
  have yA1 := Same.new (o := (.tup [.str "number", .str "other"])) hvA
  walk_at "rd"
  intro wA hwA
  have yA2 := Same.new (o := (.tup [.str "number", .str "one"])) hwA
  walk_at "rd"
  intro zA hzA
  have yA3 := Same.new (o := .lst [.ref uA, .ref vA, .ref wA]) hzA
  have yyA := ((yA0.trans yA1).trans yA2).trans yA3
  have bLA := yyA LA (.lst [.ref t1, .ref t2, .ref t3]) upd_same
  have baA := yyA _ _ cAa
  have bbA := yyA _ _ cAb
  have bcA := yyA _ _ cAc
  have buA := ((yA1.trans yA2).trans yA3) uA (.tup [.str "number", .str "one"]) upd_same
  have bvA := (yA2.trans yA3) vA (.tup [.str "number", .str "other"]) upd_same
  have bwA := yA3 wA (.tup [.str "number", .str "one"]) upd_same
  have rf4 := rgA.ext yyA
  refine ⟨_, _, .lst (SqL.of bLA) (.cons (.tup (SqT.of baA) (.cons (.str _) (.cons (.str _) .nil))) (.cons (.tup (SqT.of bbA) (.cons (.str _) (.cons (.str _) .nil))) (.cons (.tup (SqT.of bcA) (.cons (.str _) (.cons (.str _) .nil))) .nil))), .lst (SqL.of upd_same) (.cons (.tup (SqT.of buA) (.cons (.str _) (.cons (.str _) .nil))) (.cons (.tup (SqT.of bvA) (.cons (.str _) (.cons (.str _) .nil))) (.cons (.tup (SqT.of bwA) (.cons (.str _) (.cons (.str _) .nil))) .nil))), shA, shA, ?_⟩
  rw [eqr shA]
  walk_at "rd"
  refine ⟨rf4.tb, fun HL5 eN5 TL5 R5 hR5 => ?_⟩
  have rL5 := rf4.extN eN5 TL5
  refine ⟨_, rfl, _, _, rfl, .inr (.inr ⟨_, RV.int K HL5 1, z1, rL5.nr, fun dd HE5 sE5 nd5 ed5 => .inl ⟨rfl, dd, _, rfl, ed5, fun t5 ht5 => ?_⟩⟩)⟩
  have eE5 := eN5.trans (LamX.ExtN.of (sE5.trans (Same.new (o := (.tup [.str "number", .str "other"])) ht5)))
  have rf5 := (rL5.ext sE5).ext (Same.new (o := (.tup [.str "number", .str "other"])) ht5)
  have tp5 : upd HE5 t5 (.tup [.str "number", .str "other"]) t5 = some (.tup [.str "number", .str "other"]) := upd_same
  walk_at "rd"
  refine ⟨rf5.tb, fun HL6 eN6 TL6 R6 hR6 => ?_⟩
  have rL6 := rf5.extN eN6 TL6
  refine ⟨_, rfl, _, rfl, .inr ⟨rL6.nr, fun dd HE6 sE6 nd6 ed6 => .inl ⟨rfl, dd, _, rfl, ed6, fun t6 ht6 => ?_⟩⟩⟩
  have eE6 := eN6.trans (LamX.ExtN.of (sE6.trans (Same.new (o := (.tup [.str "number", .str "ratio"])) ht6)))
  have rf6 := (rL6.ext sE6).ext (Same.new (o := (.tup [.str "number", .str "ratio"])) ht6)
  have tp6 : upd HE6 t6 (.tup [.str "number", .str "ratio"]) t6 = some (.tup [.str "number", .str "ratio"]) := upd_same
  have tp5 := eE6 _ _ tp5 (fun _ z => by cases z)
  walk_at "rd"
  refine ⟨rf6.tb, fun HL7 eN7 TL7 R7 hR7 => ?_⟩
  have rL7 := rf6.extN eN7 TL7
  refine ⟨_, rfl, _, rfl, .inr ⟨rL7.nr, fun dd HE7 sE7 nd7 ed7 => .inl ⟨rfl, dd, _, rfl, ed7, fun t7 ht7 => ?_⟩⟩⟩
  have eE7 := eN7.trans (LamX.ExtN.of (sE7.trans (Same.new (o := (.tup [.str "number", .str "ratio"])) ht7)))
  have rf7 := (rL7.ext sE7).ext (Same.new (o := (.tup [.str "number", .str "ratio"])) ht7)
  have tp7 : upd HE7 t7 (.tup [.str "number", .str "ratio"]) t7 = some (.tup [.str "number", .str "ratio"]) := upd_same
  have tp5 := eE7 _ _ tp5 (fun _ z => by cases z)
  have tp6 := eE7 _ _ tp6 (fun _ z => by cases z)
  walk_at "rd"
  intro LB hLB
  have xB1 := Same.new (o := (.lst [.ref t5, .ref t6, .ref t7])) hLB
  have cBa := xB1 _ _ tp5
  have cBb := xB1 _ _ tp6
  have cBc := xB1 _ _ tp7
  have rgB := rf7.ext xB1
  walk_at "rd"
  intro uB huB
  have yB0 := Same.new (o := (.tup [.str "number", .str "other"])) huB
  walk_at "rd"
  intro vB hvB
  have yB1 := Same.new (o := (.tup [.str "number", .str "ratio"])) hvB
  walk_at "rd"
  intro wB hwB
  have yB2 := Same.new (o := (.tup [.str "number", .str "ratio"])) hwB
  walk_at "rd"
  intro zB hzB
  have yB3 := Same.new (o := .lst [.ref uB, .ref vB, .ref wB]) hzB
  have yyB := ((yB0.trans yB1).trans yB2).trans yB3
  have bLB := yyB LB (.lst [.ref t5, .ref t6, .ref t7]) upd_same
  have baB := yyB _ _ cBa
  have bbB := yyB _ _ cBb
  have bcB := yyB _ _ cBc
  have buB := ((yB1.trans yB2).trans yB3) uB (.tup [.str "number", .str "other"]) upd_same
  have bvB := (yB2.trans yB3) vB (.tup [.str "number", .str "ratio"]) upd_same
  have bwB := yB3 wB (.tup [.str "number", .str "ratio"]) upd_same
  have rf8 := rgB.ext yyB
  refine ⟨_, _, .lst (SqL.of bLB) (.cons (.tup (SqT.of baB) (.cons (.str _) (.cons (.str _) .nil))) (.cons (.tup (SqT.of bbB) (.cons (.str _) (.cons (.str _) .nil))) (.cons (.tup (SqT.of bcB) (.cons (.str _) (.cons (.str _) .nil))) .nil))), .lst (SqL.of upd_same) (.cons (.tup (SqT.of buB) (.cons (.str _) (.cons (.str _) .nil))) (.cons (.tup (SqT.of bvB) (.cons (.str _) (.cons (.str _) .nil))) (.cons (.tup (SqT.of bwB) (.cons (.str _) (.cons (.str _) .nil))) .nil))), shB, shB, ?_⟩
  rw [eqr shB]
  walk_at "rd"
  refine ⟨rf8.tb, fun HL9 eN9 TL9 R9 hR9 => ?_⟩
  have rL9 := rf8.extN eN9 TL9
  refine ⟨_, rfl, _, rfl, .inr ⟨rL9.nr, fun dd HE9 sE9 nd9 ed9 => .inl ⟨rfl, dd, _, rfl, ed9, fun t9 ht9 => ?_⟩⟩⟩
  have eE9 := eN9.trans (LamX.ExtN.of (sE9.trans (Same.new (o := (.tup [.str "number", .str "ratio"])) ht9)))
  have rf9 := (rL9.ext sE9).ext (Same.new (o := (.tup [.str "number", .str "ratio"])) ht9)
  have tp9 : upd HE9 t9 (.tup [.str "number", .str "ratio"]) t9 = some (.tup [.str "number", .str "ratio"]) := upd_same
  walk_at "rd"
  intro pu hpu
  have s9 := Same.new (o := .tup [.str "number", .str "ratio"]) hpu
  have tp9' := s9 _ _ tp9
  refine ⟨.tuple [.str "number", .str "ratio"], .tuple [.str "number", .str "ratio"], .tup (SqT.of tp9') (.cons (.str _) (.cons (.str _) .nil)), .tup (SqT.of upd_same) (.cons (.str _) (.cons (.str _) .nil)), shC, shC, ?_⟩
  rw [eqr shC]
  exact q _
end
end Sp
end
section
set_option Elab.async false
set_option linter.all false
set_option exponentiation.threshold 5000
set_option maxRecDepth 100000
set_option maxHeartbeats 0
local macro_rules | `(tactic| walk_at "leaf") => `(tactic| first | rfl | assumption | exact True.intro | exact L2.upd_same | exact L2.ClsV.ty _ | exact L2.ClsV.own _ | decide | exact of_decide_eq_true rfl | exact L2.SqL.of (by assumption) | exact L2.SqL.of L2.upd_same | exact Or.inl (L2.SqL.of L2.upd_same) | exact Or.inl (L2.SqL.of (by assumption)) | exact L2.SqT.of (by assumption) | exact L2.SqT.of L2.upd_same | exact Sp.cmL (by decide) | exact Sp.cmR (by decide) | exact ⟨by decide, by decide, by decide⟩ | exact ⟨by decide, by decide⟩ | exact Or.inr (L2.SqT.of (by assumption)) | exact Or.inl ⟨rfl, _, L2.SqL.of (by assumption)⟩ | exact Or.inl ⟨rfl, _, L2.SqL.of L2.upd_same⟩ | omega | fail)
local macro_rules | `(tactic| walk_at "rd1") => `(tactic| first
  | apply Sp.exI
  | (refine And.intro ?lf ?_; (case lf => walk_at "leaf"))
  | fail)
local macro_rules | `(tactic| walk_at "rd") => `(tactic| repeat (walk_at "rd1"))
local macro_rules | `(tactic| walk_at "fR") => `(tactic| (have := (‹Sp.G0 _ _›).R.cl; have := (‹Sp.G0 _ _›).R.no "top" (by simp); have := (‹Sp.G0 _ _›).R.no "bottom" (by simp)))
namespace Sp
open PySem PySem.Spec PyProof.Rows L2
section
variable {P : Program} {w : World} {K : PySem.W.Frag} {mg : Str → Option Value} {base : Heap} {f : Addr} {fd : FuncData}
variable (g_is_integer : GD P w K mg base (L2.CX P w) 1 "is_integer" ["value"] [] (spIsInt K))
  (g_is_ratio : GD P w K mg base (L2.CX P w) 2 "is_ratio" ["value"] [] (spIsRat K)) (g_need_ratio : GD P w K mg base (L2.CX P w) 6 "need_ratio" ["value", "part"] [] (spNeed K))
  (g_xBadRatio : GX P w K mg base 1 "BadRatio" "part" (cX K "BadRatio")) (g_xBadNumber : GX P w K mg base 1 "BadNumber" "part" (cX K "BadNumber")) (g_xUnlike : GX P w K mg base 1 "Unlike" "what" (cX K "Unlike"))
  (g_mRatio : GM P w K mg base (L2.CX P w) 3 "Ratio" (cR K) ["self", "top", "bottom"] [] (spInitR K)) (g_mRatio1 : GM P w K mg base (L2.CX P w) 3 "Ratio" (cR K) ["self", "top", "bottom"] [.int 1] (spInitR K))
  (g_Ratio_of : GS P w K mg base (L2.CX P w) 5 (cR K) "of" (spOf K)) (g_R_below : GP P w K mg base (L2.CX P w) 1 (cR K) "below" (spBelow K)) (g_R_is_whole : GP P w K mg base (L2.CX P w) 1 (cR K) "is_whole" (spWhole K))
variable (g_inverse : GD P w K mg base (L2.CX P w) 1 "inverse" ["number", "modulus"] [] spInv) (g_mediant : GD P w K mg base (L2.CX P w) 7 "mediant" ["one", "other"] [] (spMed K)) (g_are_near : GD P w K mg base (L2.CX P w) 7 "are_near" ["one", "other"] [] (spNear K))
  (g_whole_of : GD P w K mg base (L2.CX P w) 7 "whole_of" ["ratio"] [] (spWh K)) (g_parents : GD P w K mg base (L2.CX P w) 7 "parents" ["ratio"] [] (spPar K)) (g_runs_of : GD P w K mg base (L2.CX P w) 7 "runs_of" ["ratio"] [] (spRuns K))
variable (g_l_dip : GD P w K mg base (L2.CX P w) 1 "_law_dip" ["_law_pail_here", "_law_many"] [] spDip) (g_l_pail : GD P w K mg base (L2.CX P w) 1 "_law_pail" ["_law_script"] [] (spPail K)) (g_l_runs : GD P w K mg base (L2.CX P w) 2 "_law_runs" ["_law_pail_here"] [] spRunsL)
  (g_l_led : GD P w K mg base (L2.CX P w) 1 "_law_led" ["_law_whole", "_law_runs_here"] [] spLed) (g_l_is : GD P w K mg base (L2.CX P w) 1 "_law_is" ["_law_ratio", "_law_pair"] [] (spIs K)) (g_l_lowest : GD P w K mg base (L2.CX P w) 1 "_law_lowest" ["_law_top", "_law_bottom"] [] spLow)
  (g_l_letters_right : GD P w K mg base (L2.CX P w) 1 "_law_letters_right" ["_law_whole", "_law_runs_here", "_law_pair"] [] spLet) (g_l_led_right : GD P w K mg base (L2.CX P w) 8 "_law_led_right" ["_law_whole", "_law_runs_here"] [] spLedR) (g_l_any_right : GD P w K mg base (L2.CX P w) 8 "_law_any_right" ["_law_one", "_law_other"] [] spAnyR)
variable (g_are_near_k : GDK P w K mg base (L2.CX P w) 7 "are_near" ["one", "other"] 2 [0, 1] (spNear K)) (g_mediant_k : GDK P w K mg base (L2.CX P w) 7 "mediant" ["other", "one"] 2 [1, 0] (spMed K))
  (g_whole_of_k : GDK P w K mg base (L2.CX P w) 7 "whole_of" ["ratio"] 1 [0] (spWh K)) (g_parents_k : GDK P w K mg base (L2.CX P w) 7 "parents" ["ratio"] 1 [0] (spPar K))

variable {T : List (Addr × Str)} (g_l_whole_right : GD P w K mg base (L2.CX P w) 12 "_law_whole_right" ["_law_whole"] [] (spWhR T)) (g_l_refused_right : GD P w K mg base (L2.CX P w) 12 "_law_refused_right" ["_law_pail_here", "_law_ratio"] [] (spRefR K T))
structure Lc (T : List (Addr × Str)) (H : Hp) (a c : Addr) (N : Nat) : Prop where
  pail : Pail H a c N
  tb : LamX.Tabs T H
theorem Lc.extN {H H' : Hp} {a c : Addr} {N : Nat} (h : Lc T H a c N) (e : LamX.ExtN H H') (t : LamX.Tabs T H') : Lc T H' a c N :=
  ⟨let ⟨cs, n, g, h1, h2, h3⟩ := h.pail; ⟨cs, n, g, e _ _ h1 (fun _ z => by cases z), e _ _ h2 (fun _ z => by cases z), h3⟩, t⟩
theorem Lc.ext {H H' : Hp} {a c : Addr} {N : Nat} (h : Lc T H a c N) (e : Same H H') : Lc T H' a c N := h.extN (LamX.ExtN.of e) (h.tb.ext e)
theorem Lc.go {H H' : Hp} {a c : Addr} {N M : Nat} (h : Lc T H a c N) (p : Pail H' a c M) (s : Sb a H H') : Lc T H' a c M := ⟨p, let ⟨_, ha⟩ := h.pail.lst; tabsSb h.tb ha s⟩
theorem Lc.mono {H : Hp} {a c : Addr} {N M : Nat} (h : Lc T H a c N) (l : N ≤ M := by omega) : Lc T H a c M := ⟨h.pail.mono l, h.tb⟩
theorem twoSb {H H' : Hp} {a p : Addr} {N : Nat} {x y : Int} {c : Addr} (h : Two H p x y) (l : Lc T H a c N) (e : Sb a H H') : Two H' p x y := e _ _ (fun z => by
  obtain ⟨xs, ha⟩ := l.pail.lst
  unfold Two at h
  rw [z, ha] at h
  cases h) h
def spLaw (K : PySem.W.Frag) (T : List (Addr × Str)) : Sp := fun vs H Q _ => ∃ (a : Addr) (ns : List Int), vs = [.ref a] ∧ SqL K H a (ns.map V.int) ∧ LamX.Tabs T H ∧ ∀ H', Q (.bl true) H'
theorem sc_law : FnScope ["_law_script", "_law_pail_here", "_law_turn", "_law_whole", "_law_runs_here", "_law_one", "_law_other"] ["_law_script"] (defScope (topS 46)) := ⟨rfl, rfl, rfl, by decide +kernel, rfl, by decide +kernel, by decide +kernel⟩
include g_l_any_right g_l_dip g_l_led_right g_l_pail g_l_refused_right g_l_runs g_l_whole_right g_mRatio in
theorem ok_law (G : G0 K mg) (F : FP K "law" "law" (topS 46) [] f fd) : FnOk P w K mg base (L2.CX P w) 13 f fd ["_law_script"] (spLaw K T) := by
  have nd := sc_law.nd
  refine F.ok sc_law (fun vs H Q E h => by obtain ⟨_, _, rfl, _⟩ := h; rfl) (fun cdv A outer s H vs Q E hr h => ⟨_, pss_cons (ps_set (i := 1) nd rfl (Or.inl rfl) (pe_gd g_l_pail (hr.mono (by decide)) rfl (pxE rfl rfl rfl rfl) (pa_cons (pv 0) (pa_nil)))) (pss_cons (ps_for ((passes_of rfl)) rfl (pi_range1 rfl G.nm.range (pa_cons (pe_int) (pa_nil))) (pg_name (i := 2) nd rfl (Or.inl rfl)) (pss_cons (ps_par (i := 3) (j := 4) rfl nd rfl rfl (by decide) rfl rfl (pa_cons (pe_op op_sub (pe_gd g_l_dip (hr.mono (by decide)) rfl (pxE rfl rfl rfl rfl) (pa_cons (pv 1) (pa_cons (pe_int) (pa_nil)))) (pe_int)) (pa_cons (pe_gd g_l_runs (hr.mono (by decide)) rfl (pxE rfl rfl rfl rfl) (pa_cons (pv 1) (pa_nil))) pa_nil)) rfl) (pss_one (ps_if (PW.pt (pw_or (pt_not (pt_val (pe_gd g_l_led_right (hr.mono (by decide)) rfl (pxE rfl rfl rfl rfl) (pa_cons (pv 3) (pa_cons (pv 4) (pa_nil)))))) (pw_or1 (pt_not (pt_val (pe_gd g_l_whole_right (hr.mono (by decide)) rfl (pxE rfl rfl rfl rfl) (pa_cons (pv 3) (pa_nil)))))))) (pss_one (ps_ret (pe_bl))) (pss_nil))))) (pss_cons (ps_for ((passes_of rfl)) rfl (pi_range1 rfl G.nm.range (pa_cons (pe_int) (pa_nil))) (pg_name (i := 2) nd rfl (Or.inl rfl)) (pss_cons (ps_par (i := 5) (j := 6) rfl nd rfl rfl (by decide) rfl rfl (pa_cons (pe_tup (pa_cons (pe_op op_sub (pe_gd g_l_dip (hr.mono (by decide)) rfl (pxE rfl rfl rfl rfl) (pa_cons (pv 1) (pa_cons (pe_int) (pa_nil)))) (pe_int)) (pa_cons (pe_op op_add (pe_int) (pe_gd g_l_dip (hr.mono (by decide)) rfl (pxE rfl rfl rfl rfl) (pa_cons (pv 1) (pa_cons (pe_int) (pa_nil))))) (pa_nil)))) (pa_cons (pe_tup (pa_cons (pe_op op_sub (pe_gd g_l_dip (hr.mono (by decide)) rfl (pxE rfl rfl rfl rfl) (pa_cons (pv 1) (pa_cons (pe_int) (pa_nil)))) (pe_int)) (pa_cons (pe_op op_add (pe_int) (pe_gd g_l_dip (hr.mono (by decide)) rfl (pxE rfl rfl rfl rfl) (pa_cons (pv 1) (pa_cons (pe_int) (pa_nil))))) (pa_nil)))) pa_nil)) rfl) (pss_one (ps_if (PW.pt (pw_or (pt_not (pt_val (pe_gd g_l_any_right (hr.mono (by decide)) rfl (pxE rfl rfl rfl rfl) (pa_cons (pv 5) (pa_cons (pv 6) (pa_nil)))))) (pw_or1 (pt_not (pt_val (pe_gd g_l_any_right (hr.mono (by decide)) rfl (pxE rfl rfl rfl rfl) (pa_cons (pv 5) (pa_cons (pv 5) (pa_nil))))))))) (pss_one (ps_ret (pe_bl))) (pss_nil))))) (pss_one (ps_ret (pe_gd g_l_refused_right (hr.mono (by decide)) rfl (pxE rfl rfl rfl rfl) (pa_cons (pv 1) (pa_cons (pe_gm g_mRatio (hr.mono (by decide)) rfl (pxE rfl rfl rfl rfl) (pa_cons (pe_int) (pa_cons (pe_op op_add (pe_int) (pe_gd g_l_dip (hr.mono (by decide)) rfl (pxE rfl rfl rfl rfl) (pa_cons (pv 1) (pa_cons (pe_int) (pa_nil))))) (pa_nil)))) (pa_nil)))))))), ?_⟩)
  obtain ⟨sa, ns, rfl, hS, hT, q⟩ := h
  walk_at "rd"
  intro a H1 s1 _ hp
  obtain ⟨c, p1⟩ := hp
  have lc1 : Lc T H1 a c 0 := ⟨p1, hT.ext s1⟩
  clear hT hS s1
  walk_at "rd"
  refine for_range (n := 2) (lo := 0) (fun i σ Hh => Bx (∃ x2 x3 x4 x5 x6, σ = [some (V.ref sa), some (V.ref a), x2, x3, x4, x5, x6] ∧ Lc T Hh a c (100 * i))) ⟨⟨_, _, _, _, _, rfl, lc1⟩⟩ (fun i σ Hh hi hP => ?_) (fun σ Hh hP => ?_)
  · obtain ⟨x2, x3, x4, x5, x6, rfl, lc⟩ := hP.out
    have pp := lc.pail
    have hN : 100 * i ≤ 1000000 := by omega
    walk_at "rd"
    intro d H2 d0 d1 p2 s2
    have lc2 := lc.go p2 s2
    have hN2 : 100 * i + 1 ≤ 900000 := by omega
    clear pp
    walk_at "rd"
    intro l rs H3 hrs hl nla nlc p3 s3
    have lc3 := lc2.go p3 s3
    have hw : (d - 40).natAbs ≤ 40 := by omega
    clear p2 p3
    walk_at "rd"
    intro H4 s4
    have lc4 := lc3.ext s4
    have tb4 := lc4.tb
    walk_at "rd"
    intro H5 e5 t5
    have lc5 := lc4.extN e5 t5
    walk_at "rd"
    exact ⟨⟨_, _, _, _, _, rfl, lc5.mono⟩⟩
  · obtain ⟨x2, x3, x4, x5, x6, rfl, lc⟩ := hP.out
    walk_at "rd"
    refine for_range (n := 2) (lo := 0) (fun i σ Hh => Bx (∃ x2 x3 x4 x5 x6, σ = [some (V.ref sa), some (V.ref a), x2, x3, x4, x5, x6] ∧ Lc T Hh a c (200 + 100 * i))) ⟨⟨_, _, _, _, _, rfl, lc⟩⟩ (fun i σ Hh hi hP => ?_) (fun σ Hh hP => ?_)
    · obtain ⟨x2, x3, x4, x5, x6, rfl, lc⟩ := hP.out
      have pp := lc.pail
      have hN : 200 + 100 * i ≤ 1000000 := by omega
      walk_at "rd"
      intro d H2 d0 d1 p2 s2
      have lc2 := lc.go p2 s2
      have hN : 200 + 100 * i + 1 ≤ 1000000 := by omega
      clear pp
      walk_at "rd"
      intro e H3 e0 e1 p3 s3
      have lc3 := lc2.go p3 s3
      have hN : 200 + 100 * i + 1 + 1 ≤ 1000000 := by omega
      clear p2 p3
      walk_at "rd"
      intro t1 ht1
      have s4 := Same.new (o := .tup [.int (d - 60), .int (1 + e)]) ht1
      have lc4 := lc3.ext s4
      have w1 : Two (upd H3 t1 (.tup [.int (d - 60), .int (1 + e)])) t1 (d - 60) (1 + e) := upd_same
      have p4 := lc4.pail
      walk_at "rd"
      intro d' H5 d0' d1' p5 s5
      have lc5 := lc4.go p5 s5
      have w1 := twoSb w1 lc4 s5
      have hN : 200 + 100 * i + 1 + 1 + 1 ≤ 1000000 := by omega
      clear p4
      walk_at "rd"
      intro e' H6 e0' e1' p6 s6
      have lc6 := lc5.go p6 s6
      have w1 := twoSb w1 lc5 s6
      clear p5 p6
      walk_at "rd"
      intro t2 ht2
      have s7 := Same.new (o := .tup [.int (d' - 60), .int (1 + e')]) ht2
      have lc7 := lc6.ext s7
      have w1 := s7 _ _ w1
      have w2 : Two (upd H6 t2 (.tup [.int (d' - 60), .int (1 + e')])) t2 (d' - 60) (1 + e') := upd_same
      have b1 : (d - 60).natAbs ≤ 60 := by omega
      have b2 : (d' - 60).natAbs ≤ 60 := by omega
      walk_at "rd"
      intro H8 s8
      have lc8 := lc7.ext s8
      have w1 := s8 _ _ w1
      walk_at "rd"
      intro H9 s9
      have lc9 := lc8.ext s9
      walk_at "rd"
      exact ⟨⟨_, _, _, _, _, rfl, lc9.mono⟩⟩
    · obtain ⟨x2, x3, x4, x5, x6, rfl, lc⟩ := hP.out
      have pp := lc.pail
      have hN : 200 + 100 * 2 ≤ 1000000 := by omega
      walk_at "rd"
      intro d H2 d0 d1 p2 s2
      have lc2 := lc.go p2 s2
      clear pp
      walk_at "rd"
      apply makeR2 (show 1 + d ≠ 0 by omega) (nb_le (show (1 : Int).natAbs < 2 ^ 2 by decide)) (nb_le (show (1 + d).natAbs < 2 ^ 7 by omega))
      intro r H3 s3 _ ir
      have z : Sz (Rat.divInt 1 (1 + d)) 100 := (sz_divInt (n := 7) (show 1 + d ≠ 0 by omega) (by decide) (by omega)).mono
      have lc3 := lc2.ext s3
      have p3 := lc3.pail
      have tb3 := lc3.tb
      have hN3 : 200 + 100 * 2 + 1 ≤ 900000 := by omega
      walk_at "rd"
      exact q
end
end Sp
end
section
set_option Elab.async false
set_option linter.all false
set_option maxRecDepth 100000
set_option maxHeartbeats 0
namespace Sp
open PySem PySem.Spec PyProof.Rows L2
open PySem.W (Frag)
section
variable {P : Program} {w : World} {K : PySem.W.Frag} {mg : Str → Option Value} {base : Heap} {f : Addr} {fd : FuncData}
theorem sc_xi_BadRatio : FnScope ["self", "part"] ["self", "part"] (defScope (inClass (topS 4) 0)) := ⟨rfl, rfl, rfl, by decide +kernel, rfl, by decide +kernel, by decide +kernel⟩
theorem ok_xi_BadRatio {C : Addr} (T : OexC K C) (hno : PySem.W.findIn K (.ref C) "part" = some none) (F : FP K "__init__" "BadRatio.__init__" (inClass (topS 4) 0) [] f fd) : FnOk P w K mg base (L2.CX P w) 1 f fd ["self", "part"] (spI1 C "part") := by
  refine F.ok sc_xi_BadRatio (fun vs H Q E h => by obtain ⟨_, _, rfl, _⟩ := h; rfl) (fun cdv A outer s H vs Q E hr h => ⟨_, pss_one (ps_ost (pv 0) (pv 1)), ?_⟩)
  obtain ⟨a, v, rfl, ha, q⟩ := h
  exact ⟨_, rfl, _, rfl, a, C, rfl, T, hno, .inl ⟨ha, fun dx n ne => q dx n ne⟩⟩
theorem sc_xi_BadNumber : FnScope ["self", "part"] ["self", "part"] (defScope (inClass (topS 5) 0)) := ⟨rfl, rfl, rfl, by decide +kernel, rfl, by decide +kernel, by decide +kernel⟩
theorem ok_xi_BadNumber {C : Addr} (T : OexC K C) (hno : PySem.W.findIn K (.ref C) "part" = some none) (F : FP K "__init__" "BadNumber.__init__" (inClass (topS 5) 0) [] f fd) : FnOk P w K mg base (L2.CX P w) 1 f fd ["self", "part"] (spI1 C "part") := by
  refine F.ok sc_xi_BadNumber (fun vs H Q E h => by obtain ⟨_, _, rfl, _⟩ := h; rfl) (fun cdv A outer s H vs Q E hr h => ⟨_, pss_one (ps_ost (pv 0) (pv 1)), ?_⟩)
  obtain ⟨a, v, rfl, ha, q⟩ := h
  exact ⟨_, rfl, _, rfl, a, C, rfl, T, hno, .inl ⟨ha, fun dx n ne => q dx n ne⟩⟩
theorem sc_xi_Unlike : FnScope ["self", "what"] ["self", "what"] (defScope (inClass (topS 6) 0)) := ⟨rfl, rfl, rfl, by decide +kernel, rfl, by decide +kernel, by decide +kernel⟩
theorem ok_xi_Unlike {C : Addr} (T : OexC K C) (hno : PySem.W.findIn K (.ref C) "what" = some none) (F : FP K "__init__" "Unlike.__init__" (inClass (topS 6) 0) [] f fd) : FnOk P w K mg base (L2.CX P w) 1 f fd ["self", "what"] (spI1 C "what") := by
  refine F.ok sc_xi_Unlike (fun vs H Q E h => by obtain ⟨_, _, rfl, _⟩ := h; rfl) (fun cdv A outer s H vs Q E hr h => ⟨_, pss_one (ps_ost (pv 0) (pv 1)), ?_⟩)
  obtain ⟨a, v, rfl, ha, q⟩ := h
  exact ⟨_, rfl, _, rfl, a, C, rfl, T, hno, .inl ⟨ha, fun dx n ne => q dx n ne⟩⟩
end
theorem code_of {K : Frag} {x qual : Str} {params : Arguments} {body : List Stmt} {scope : Scope} {fd : FuncData} (F : FunD K x qual params body scope [] [] (He.ga K x) fd) : fd.code = .ref (He.cT K (x, none)).1 := by
  obtain ⟨oc, od, dV, kV, doc, pm, an, cdv, ct, osl, rfl, lk, hcd, _, _⟩ := F.ex
  obtain ⟨c, rfl⟩ := He.codeIn_ref hcd
  exact congrArg Value.ref (He.codeOf_eq (p := (x, none)) lk rfl).symm
def TT (K : Frag) : List (Addr × Str) := [((He.cT K ("_law_whole_right", none)).2, qWh), ((He.cT K ("_law_refused_right", none)).2, qRf)]
theorem law_ok {P : Program} {w : World} {K : Frag} {mg : Str → Option Value} {base h : Heap} (c : SaysB h K) (KB : K.In base) (NB : base.Ns mainGlobals mg) (hpq : (He.cT K ("_law_whole_right", none)).2 ≠ (He.cT K ("_law_refused_right", none)).2)
    (TB : ∀ p ∈ tfL.map (He.cT K), LamX.TabB base mg p.1 p.2) {fd : FuncData} (F_law : FP K "law" "law" (topS 46) [] (He.ga K "law") fd) : FnOk P w K mg base (L2.CX P w) 13 (He.ga K "law") fd ["_law_script"] (spLaw K (TT K)) := by
  have fx : ∀ (i : Nat) (f : Frag → Bool), exL[i]? = some f → f K = true := fun i f h => c.ex f (List.mem_of_getElem? h)
  have gl : ∀ x : Str, x ∈ glL → mg x = some (.ref (He.ga K x)) := fun x hx => He.glo_ok KB NB (c.gl x hx)
  have fn : ∀ (i : Nat) (d : He5.DefA), fnL[i]? = some d → ∃ fd, FunD K d.name d.qual d.params d.body d.scope (d.dvs K) (d.kws K) (d.at_ K) fd := fun i d h => (c.fn d (List.mem_of_getElem? h)).elim fun h1 h2 => He5.DefA.funD h2 h1
  have nmf : Nm mg := ⟨He.free_ok KB NB (fx 0 _ rfl), He.free_ok KB NB (fx 1 _ rfl), He.free_ok KB NB (fx 2 _ rfl), He.free_ok KB NB (fx 3 _ rfl), He.free_ok KB NB (fx 4 _ rfl), He.free_ok KB NB (fx 5 _ rfl), He.free_ok KB NB (fx 6 _ rfl), He.free_ok KB NB (fx 7 _ rfl), He.free_ok KB NB (fx 8 _ rfl), He.free_ok KB NB (fx 9 _ rfl)⟩
  have G0 : G0 K mg := ⟨nmf, He.free_ok KB NB (fx 32 _ rfl), PySem.W.mg_of KB NB (of_decide_eq_true (fx 10 _ rfl)), cfB_ok (fx 11 _ rfl), He.glo_ok KB NB (fx 12 _ rfl), ktB_ok (fx 13 _ rfl), ktB_ok (fx 14 _ rfl), ktB_ok (fx 15 _ rfl), ktB_ok (fx 16 _ rfl), ktB_ok (fx 17 _ rfl), ktB_ok (fx 18 _ rfl)⟩
  have mx : ∀ x fl : Str, xB K x fl = true → mg x = some (.ref (He.ga K x)) ∧ PySem.W.findIn K (.ref (He.ga K x)) fl = some none := fun x fl hx => by
    obtain ⟨h1, hq⟩ := He.ba hx
    obtain ⟨h2, hq⟩ := He.ba hq
    obtain ⟨h3, hq⟩ := He.ba hq
    obtain ⟨h4, h5⟩ := He.ba hq
    exact ⟨He.glo_ok KB NB h2, He.noat_ok h5⟩
  have gE : GE K mg := ⟨of_decide_eq_true (fx 19 _ rfl), of_decide_eq_true (fx 20 _ rfl), of_decide_eq_true (fx 21 _ rfl), xfB_ok (fx 22 _ rfl), xfB_ok (fx 23 _ rfl), (mx "BadNumber" "part" (fx 25 _ rfl)).2, (mx "Unlike" "what" (fx 26 _ rfl)).2, (mx "BadNumber" "part" (fx 25 _ rfl)).1, (mx "Unlike" "what" (fx 26 _ rfl)).1⟩
  have huP : ∀ p ∈ TT K, p.1 = (He.cT K ("_law_whole_right", none)).2 → p.2 = qWh := fun p hp e => by
    rcases List.mem_cons.mp hp with rfl | hp
    · rfl
    · rw [List.mem_singleton.mp hp] at e
      exact absurd e.symm hpq
  have huR : ∀ p ∈ TT K, p.1 = (He.cT K ("_law_refused_right", none)).2 → p.2 = qRf := fun p hp e => by
    rcases List.mem_cons.mp hp with rfl | hp
    · exact absurd e hpq
    · rw [List.mem_singleton.mp hp]
  obtain ⟨fd_isInt, F_isInt⟩ := fn 0 _ rfl
  have F_isInt : FP K "is_integer" "is_integer" (topS 10) [] (He.ga K "is_integer") fd_isInt := F_isInt
  have b_isInt := FunD.bindsN (ps := ["value"]) F_isInt fun _ _ _ _ _ _ us hl => match us, hl with | [_], _ => rfl
  have g_is_integer := GD.mk (P := P) (w := w) (K := K) (mg := mg) (base := base) ⟨_, _, [], ok_isInt G0 F_isInt, gl "is_integer" (by decide +kernel), F_isInt.kp, b_isInt, .nil⟩
  obtain ⟨fd_xBadRatio, F_xBadRatio⟩ := fn 23 _ rfl
  have F_xBadRatio : FP K "__init__" "BadRatio.__init__" (inClass (topS 4) 0) [] (He.ma K (He.ga K "BadRatio") "__init__") fd_xBadRatio := F_xBadRatio
  have b_xBadRatio := FunD.bindsN (ps := ["self", "part"]) F_xBadRatio fun _ _ _ _ _ _ us hl => match us, hl with | [_, _], _ => rfl
  have g_xBadRatio : GX P w K mg base 1 "BadRatio" "part" (cX K "BadRatio") := by
    obtain ⟨h1, hq⟩ := He.ba (show xB K "BadRatio" "part" = true from fx 24 _ rfl)
    obtain ⟨h2, hq⟩ := He.ba hq
    obtain ⟨h3, hq⟩ := He.ba hq
    obtain ⟨h4, h5⟩ := He.ba hq
    exact ⟨oexB_ok h1, He.glo_ok KB NB h2, _, _, of_decide_eq_true h3, of_decide_eq_true h4, ok_xi_BadRatio (oexB_ok h1) (He.noat_ok h5) F_xBadRatio, b_xBadRatio⟩
  obtain ⟨fd_xBadNumber, F_xBadNumber⟩ := fn 24 _ rfl
  have F_xBadNumber : FP K "__init__" "BadNumber.__init__" (inClass (topS 5) 0) [] (He.ma K (He.ga K "BadNumber") "__init__") fd_xBadNumber := F_xBadNumber
  have b_xBadNumber := FunD.bindsN (ps := ["self", "part"]) F_xBadNumber fun _ _ _ _ _ _ us hl => match us, hl with | [_, _], _ => rfl
  have g_xBadNumber : GX P w K mg base 1 "BadNumber" "part" (cX K "BadNumber") := by
    obtain ⟨h1, hq⟩ := He.ba (show xB K "BadNumber" "part" = true from fx 25 _ rfl)
    obtain ⟨h2, hq⟩ := He.ba hq
    obtain ⟨h3, hq⟩ := He.ba hq
    obtain ⟨h4, h5⟩ := He.ba hq
    exact ⟨oexB_ok h1, He.glo_ok KB NB h2, _, _, of_decide_eq_true h3, of_decide_eq_true h4, ok_xi_BadNumber (oexB_ok h1) (He.noat_ok h5) F_xBadNumber, b_xBadNumber⟩
  obtain ⟨fd_xUnlike, F_xUnlike⟩ := fn 25 _ rfl
  have F_xUnlike : FP K "__init__" "Unlike.__init__" (inClass (topS 6) 0) [] (He.ma K (He.ga K "Unlike") "__init__") fd_xUnlike := F_xUnlike
  have b_xUnlike := FunD.bindsN (ps := ["self", "what"]) F_xUnlike fun _ _ _ _ _ _ us hl => match us, hl with | [_, _], _ => rfl
  have g_xUnlike : GX P w K mg base 1 "Unlike" "what" (cX K "Unlike") := by
    obtain ⟨h1, hq⟩ := He.ba (show xB K "Unlike" "what" = true from fx 26 _ rfl)
    obtain ⟨h2, hq⟩ := He.ba hq
    obtain ⟨h3, hq⟩ := He.ba hq
    obtain ⟨h4, h5⟩ := He.ba hq
    exact ⟨oexB_ok h1, He.glo_ok KB NB h2, _, _, of_decide_eq_true h3, of_decide_eq_true h4, ok_xi_Unlike (oexB_ok h1) (He.noat_ok h5) F_xUnlike, b_xUnlike⟩
  obtain ⟨fd_isRat, F_isRat⟩ := fn 1 _ rfl
  have F_isRat : FP K "is_ratio" "is_ratio" (topS 20) [] (He.ga K "is_ratio") fd_isRat := F_isRat
  have b_isRat := FunD.bindsN (ps := ["value"]) F_isRat fun _ _ _ _ _ _ us hl => match us, hl with | [_], _ => rfl
  have g_is_ratio := GD.mk (P := P) (w := w) (K := K) (mg := mg) (base := base) ⟨_, _, [], ok_isRat (g_is_integer := g_is_integer) G0 F_isRat, gl "is_ratio" (by decide +kernel), F_isRat.kp, b_isRat, .nil⟩
  obtain ⟨fd_initR, F_initR⟩ := fn 22 _ rfl
  have F_initR : FP K "__init__" "Ratio.__init__" (inClass (topS 18) 0) [.int 1] (He.ma K (He.ga K "Ratio") "__init__") fd_initR := F_initR
  obtain ⟨ds3, v3, b3⟩ := FunD.binds1 (ps := ["self", "top", "bottom"]) F_initR 3 1 (by simp) rfl fun T kV doc pm an cdv ct us its hu hi => match us, its, hu, hi with | [_, _, _], [_], _, _ => ⟨_, rfl, rfl⟩
  obtain ⟨ds2, v2, b2⟩ := FunD.binds1 (ps := ["self", "top", "bottom"]) F_initR 2 0 (by simp) rfl fun T kV doc pm an cdv ct us its hu hi => match us, its, hu, hi with | [_, _], [_], _, _ => ⟨_, rfl, rfl⟩
  have o_initR := ok_initR (g_is_integer := g_is_integer) (g_xBadRatio := g_xBadRatio) (P := P) (w := w) (base := base) G0 F_initR
  have g_mRatio : GM P w K mg base (L2.CX P w) 3 "Ratio" (cR K) ["self", "top", "bottom"] [] (spInitR K) := ⟨_, _, ds3, o_initR, He.mkr_ok (fx 30 _ rfl), G0.mgRatio, b3, v3⟩
  have g_mRatio1 : GM P w K mg base (L2.CX P w) 3 "Ratio" (cR K) ["self", "top", "bottom"] [.int 1] (spInitR K) := ⟨_, _, ds2, o_initR, He.mkr_ok (fx 30 _ rfl), G0.mgRatio, b2, v2⟩
  obtain ⟨fd_of, F_of⟩ := fn 26 _ rfl
  have F_of : FP K "of" "Ratio.of" (inClass (topS 18) 17) [] (He5.wf K (He.ga K "Ratio") "staticmethod" "of") fd_of := F_of
  have b_of := FunD.bindsN (ps := ["value"]) F_of fun _ _ _ _ _ _ us hl => match us, hl with | [_], _ => rfl
  have g_Ratio_of : GS P w K mg base (L2.CX P w) 5 (cR K) "of" (spOf K) := ⟨_, _, _, _, _, smB_ok (fx 29 _ rfl), ok_of (g_is_ratio := g_is_ratio) (g_mRatio1 := g_mRatio1) (g_xBadRatio := g_xBadRatio) G0 F_of, b_of⟩
  obtain ⟨fd_below, F_below⟩ := fn 27 _ rfl
  have F_below : FP K "below" "Ratio.below" (inClass (topS 18) 3) [] (He5.wf K (He.ga K "Ratio") "property" "below") fd_below := F_below
  have b_below := FunD.bindsN (ps := ["self"]) F_below fun _ _ _ _ _ _ us hl => match us, hl with | [_], _ => rfl
  have g_R_below : GP P w K mg base (L2.CX P w) 1 (cR K) "below" (spBelow K) := ⟨G0.R.cl, _, _, _, _, propB_ok (fx 27 _ rfl), ok_below G0 F_below, b_below⟩
  obtain ⟨fd_is_whole, F_is_whole⟩ := fn 28 _ rfl
  have F_is_whole : FP K "is_whole" "Ratio.is_whole" (inClass (topS 18) 2) [] (He5.wf K (He.ga K "Ratio") "property" "is_whole") fd_is_whole := F_is_whole
  have b_is_whole := FunD.bindsN (ps := ["self"]) F_is_whole fun _ _ _ _ _ _ us hl => match us, hl with | [_], _ => rfl
  have g_R_is_whole : GP P w K mg base (L2.CX P w) 1 (cR K) "is_whole" (spWhole K) := ⟨G0.R.cl, _, _, _, _, propB_ok (fx 28 _ rfl), ok_isw G0 F_is_whole, b_is_whole⟩
  obtain ⟨fd_need, F_need⟩ := fn 2 _ rfl
  have F_need : FP K "need_ratio" "need_ratio" (topS 22) [] (He.ga K "need_ratio") fd_need := F_need
  have b_need := FunD.bindsN (ps := ["value", "part"]) F_need fun _ _ _ _ _ _ us hl => match us, hl with | [_, _], _ => rfl
  have g_need_ratio := GD.mk (P := P) (w := w) (K := K) (mg := mg) (base := base) ⟨_, _, [], ok_need (g_Ratio_of := g_Ratio_of) (g_is_ratio := g_is_ratio) (g_xBadNumber := g_xBadNumber) G0 F_need, gl "need_ratio" (by decide +kernel), F_need.kp, b_need, .nil⟩
  obtain ⟨fd_inv, F_inv⟩ := fn 3 _ rfl
  have F_inv : FP K "inverse" "inverse" (topS 26) [] (He.ga K "inverse") fd_inv := F_inv
  have b_inv := FunD.bindsN (ps := ["number", "modulus"]) F_inv fun _ _ _ _ _ _ us hl => match us, hl with | [_, _], _ => rfl
  have g_inverse := GD.mk (P := P) (w := w) (K := K) (mg := mg) (base := base) ⟨_, _, [], ok_inv F_inv, gl "inverse" (by decide +kernel), F_inv.kp, b_inv, .nil⟩
  obtain ⟨fd_med, F_med⟩ := fn 4 _ rfl
  have F_med : FP K "mediant" "mediant" (topS 28) [] (He.ga K "mediant") fd_med := F_med
  have b_med := FunD.bindsN (ps := ["one", "other"]) F_med fun _ _ _ _ _ _ us hl => match us, hl with | [_, _], _ => rfl
  have g_mediant := GD.mk (P := P) (w := w) (K := K) (mg := mg) (base := base) ⟨_, _, [], ok_med (g_mRatio := g_mRatio) (g_need_ratio := g_need_ratio) G0 F_med, gl "mediant" (by decide +kernel), F_med.kp, b_med, .nil⟩
  obtain ⟨fd_near, F_near⟩ := fn 5 _ rfl
  have F_near : FP K "are_near" "are_near" (topS 29) [] (He.ga K "are_near") fd_near := F_near
  have b_near := FunD.bindsN (ps := ["one", "other"]) F_near fun _ _ _ _ _ _ us hl => match us, hl with | [_, _], _ => rfl
  have g_are_near := GD.mk (P := P) (w := w) (K := K) (mg := mg) (base := base) ⟨_, _, [], ok_near (g_need_ratio := g_need_ratio) G0 F_near, gl "are_near" (by decide +kernel), F_near.kp, b_near, .nil⟩
  obtain ⟨fd_wh, F_wh⟩ := fn 6 _ rfl
  have F_wh : FP K "whole_of" "whole_of" (topS 30) [] (He.ga K "whole_of") fd_wh := F_wh
  have b_wh := FunD.bindsN (ps := ["ratio"]) F_wh fun _ _ _ _ _ _ us hl => match us, hl with | [_], _ => rfl
  have g_whole_of := GD.mk (P := P) (w := w) (K := K) (mg := mg) (base := base) ⟨_, _, [], ok_wh (g_R_below := g_R_below) (g_need_ratio := g_need_ratio) G0 F_wh, gl "whole_of" (by decide +kernel), F_wh.kp, b_wh, .nil⟩
  obtain ⟨fd_par, F_par⟩ := fn 7 _ rfl
  have F_par : FP K "parents" "parents" (topS 31) [] (He.ga K "parents") fd_par := F_par
  have b_par := FunD.bindsN (ps := ["ratio"]) F_par fun _ _ _ _ _ _ us hl => match us, hl with | [_], _ => rfl
  have g_parents := GD.mk (P := P) (w := w) (K := K) (mg := mg) (base := base) ⟨_, _, [], ok_par (g_R_is_whole := g_R_is_whole) (g_inverse := g_inverse) (g_mRatio := g_mRatio) (g_need_ratio := g_need_ratio) G0 F_par, gl "parents" (by decide +kernel), F_par.kp, b_par, .nil⟩
  obtain ⟨fd_runs, F_runs⟩ := fn 8 _ rfl
  have F_runs : FP K "runs_of" "runs_of" (topS 32) [] (He.ga K "runs_of") fd_runs := F_runs
  have b_runs := FunD.bindsN (ps := ["ratio"]) F_runs fun _ _ _ _ _ _ us hl => match us, hl with | [_], _ => rfl
  have g_runs_of := GD.mk (P := P) (w := w) (K := K) (mg := mg) (base := base) ⟨_, _, [], ok_runs (g_R_is_whole := g_R_is_whole) (g_need_ratio := g_need_ratio) (g_xUnlike := g_xUnlike) G0 F_runs, gl "runs_of" (by decide +kernel), F_runs.kp, b_runs, .nil⟩
  have g_are_near_k : GDK P w K mg base (L2.CX P w) 7 "are_near" ["one", "other"] 2 [0, 1] (spNear K) := ⟨_, _, ["one", "other"], ok_near (g_need_ratio := g_need_ratio) G0 F_near, gl "are_near" (by decide +kernel), F_near.kp, gk_2 F_near rfl (fun _ _ _ _ _ _ _ _ => rfl)⟩
  have g_mediant_k : GDK P w K mg base (L2.CX P w) 7 "mediant" ["other", "one"] 2 [1, 0] (spMed K) := ⟨_, _, ["one", "other"], ok_med (g_mRatio := g_mRatio) (g_need_ratio := g_need_ratio) G0 F_med, gl "mediant" (by decide +kernel), F_med.kp, gk_2 F_med rfl (fun _ _ _ _ _ _ _ _ => rfl)⟩
  have g_whole_of_k : GDK P w K mg base (L2.CX P w) 7 "whole_of" ["ratio"] 1 [0] (spWh K) := ⟨_, _, ["ratio"], ok_wh (g_R_below := g_R_below) (g_need_ratio := g_need_ratio) G0 F_wh, gl "whole_of" (by decide +kernel), F_wh.kp, gk_1 F_wh rfl (fun _ _ _ _ _ _ _ => rfl)⟩
  have g_parents_k : GDK P w K mg base (L2.CX P w) 7 "parents" ["ratio"] 1 [0] (spPar K) := ⟨_, _, ["ratio"], ok_par (g_R_is_whole := g_R_is_whole) (g_inverse := g_inverse) (g_mRatio := g_mRatio) (g_need_ratio := g_need_ratio) G0 F_par, gl "parents" (by decide +kernel), F_par.kp, gk_1 F_par rfl (fun _ _ _ _ _ _ _ => rfl)⟩
  obtain ⟨fd_pail, F_pail⟩ := fn 9 _ rfl
  have F_pail : FP K "_law_pail" "_law_pail" (topS 34) [] (He.ga K "_law_pail") fd_pail := F_pail
  have b_pail := FunD.bindsN (ps := ["_law_script"]) F_pail fun _ _ _ _ _ _ us hl => match us, hl with | [_], _ => rfl
  have g_l_pail := GD.mk (P := P) (w := w) (K := K) (mg := mg) (base := base) ⟨_, _, [], ok_pail G0 F_pail, gl "_law_pail" (by decide +kernel), F_pail.kp, b_pail, .nil⟩
  obtain ⟨fd_dip, F_dip⟩ := fn 10 _ rfl
  have F_dip : FP K "_law_dip" "_law_dip" (topS 35) [] (He.ga K "_law_dip") fd_dip := F_dip
  have b_dip := FunD.bindsN (ps := ["_law_pail_here", "_law_many"]) F_dip fun _ _ _ _ _ _ us hl => match us, hl with | [_, _], _ => rfl
  have g_l_dip := GD.mk (P := P) (w := w) (K := K) (mg := mg) (base := base) ⟨_, _, [], ok_dip G0 F_dip, gl "_law_dip" (by decide +kernel), F_dip.kp, b_dip, .nil⟩
  obtain ⟨fd_lruns, F_lruns⟩ := fn 11 _ rfl
  have F_lruns : FP K "_law_runs" "_law_runs" (topS 36) [] (He.ga K "_law_runs") fd_lruns := F_lruns
  have b_lruns := FunD.bindsN (ps := ["_law_pail_here"]) F_lruns fun _ _ _ _ _ _ us hl => match us, hl with | [_], _ => rfl
  have g_l_runs := GD.mk (P := P) (w := w) (K := K) (mg := mg) (base := base) ⟨_, _, [], ok_lruns (g_l_dip := g_l_dip) G0 F_lruns, gl "_law_runs" (by decide +kernel), F_lruns.kp, b_lruns, .nil⟩
  obtain ⟨fd_led, F_led⟩ := fn 12 _ rfl
  have F_led : FP K "_law_led" "_law_led" (topS 37) [] (He.ga K "_law_led") fd_led := F_led
  have b_led := FunD.bindsN (ps := ["_law_whole", "_law_runs_here"]) F_led fun _ _ _ _ _ _ us hl => match us, hl with | [_, _], _ => rfl
  have g_l_led := GD.mk (P := P) (w := w) (K := K) (mg := mg) (base := base) ⟨_, _, [], ok_led G0 F_led, gl "_law_led" (by decide +kernel), F_led.kp, b_led, .nil⟩
  obtain ⟨fd_is, F_is⟩ := fn 13 _ rfl
  have F_is : FP K "_law_is" "_law_is" (topS 38) [] (He.ga K "_law_is") fd_is := F_is
  have b_is := FunD.bindsN (ps := ["_law_ratio", "_law_pair"]) F_is fun _ _ _ _ _ _ us hl => match us, hl with | [_, _], _ => rfl
  have g_l_is := GD.mk (P := P) (w := w) (K := K) (mg := mg) (base := base) ⟨_, _, [], ok_is G0 F_is, gl "_law_is" (by decide +kernel), F_is.kp, b_is, .nil⟩
  obtain ⟨fd_low, F_low⟩ := fn 14 _ rfl
  have F_low : FP K "_law_lowest" "_law_lowest" (topS 39) [] (He.ga K "_law_lowest") fd_low := F_low
  have b_low := FunD.bindsN (ps := ["_law_top", "_law_bottom"]) F_low fun _ _ _ _ _ _ us hl => match us, hl with | [_, _], _ => rfl
  have g_l_lowest := GD.mk (P := P) (w := w) (K := K) (mg := mg) (base := base) ⟨_, _, [], ok_low G0 F_low, gl "_law_lowest" (by decide +kernel), F_low.kp, b_low, .nil⟩
  obtain ⟨fd_let, F_let⟩ := fn 16 _ rfl
  have F_let : FP K "_law_letters_right" "_law_letters_right" (topS 41) [] (He.ga K "_law_letters_right") fd_let := F_let
  have b_let := FunD.bindsN (ps := ["_law_whole", "_law_runs_here", "_law_pair"]) F_let fun _ _ _ _ _ _ us hl => match us, hl with | [_, _, _], _ => rfl
  have g_l_letters_right := GD.mk (P := P) (w := w) (K := K) (mg := mg) (base := base) ⟨_, _, [], ok_let G0 F_let, gl "_law_letters_right" (by decide +kernel), F_let.kp, b_let, .nil⟩
  obtain ⟨fd_ledR, F_ledR⟩ := fn 17 _ rfl
  have F_ledR : FP K "_law_led_right" "_law_led_right" (topS 42) [] (He.ga K "_law_led_right") fd_ledR := F_ledR
  have b_ledR := FunD.bindsN (ps := ["_law_whole", "_law_runs_here"]) F_ledR fun _ _ _ _ _ _ us hl => match us, hl with | [_, _], _ => rfl
  have g_l_led_right := GD.mk (P := P) (w := w) (K := K) (mg := mg) (base := base) ⟨_, _, [], ok_ledR (g_are_near := g_are_near) (g_l_is := g_l_is) (g_l_led := g_l_led) (g_l_letters_right := g_l_letters_right) (g_mRatio := g_mRatio) (g_mediant := g_mediant) (g_mediant_k := g_mediant_k) (g_parents_k := g_parents_k) (g_runs_of := g_runs_of) (g_whole_of := g_whole_of) (g_whole_of_k := g_whole_of_k) G0 F_ledR, gl "_law_led_right" (by decide +kernel), F_ledR.kp, b_ledR, .nil⟩
  obtain ⟨fd_any, F_any⟩ := fn 19 _ rfl
  have F_any : FP K "_law_any_right" "_law_any_right" (topS 44) [] (He.ga K "_law_any_right") fd_any := F_any
  have b_any := FunD.bindsN (ps := ["_law_one", "_law_other"]) F_any fun _ _ _ _ _ _ us hl => match us, hl with | [_, _], _ => rfl
  have g_l_any_right := GD.mk (P := P) (w := w) (K := K) (mg := mg) (base := base) ⟨_, _, [], ok_any (g_are_near := g_are_near) (g_are_near_k := g_are_near_k) (g_l_is := g_l_is) (g_l_lowest := g_l_lowest) (g_mRatio := g_mRatio) (g_mediant := g_mediant) G0 F_any, gl "_law_any_right" (by decide +kernel), F_any.kp, b_any, .nil⟩
  obtain ⟨fd_heard, F_heard⟩ := fn 15 _ rfl
  have F_heard : FP K "_law_heard" "_law_heard" (topS 40) [] (He.ga K "_law_heard") fd_heard := F_heard
  have gHd : GHd K mg := GHd.of F_heard (gl "_law_heard" (by decide +kernel))
  obtain ⟨fd_whR, F_whR⟩ := fn 18 _ rfl
  have F_whR : FP K "_law_whole_right" "_law_whole_right" (topS 43) [] (He.ga K "_law_whole_right") fd_whR := F_whR
  have b_whR := FunD.bindsN (ps := ["_law_whole"]) F_whR fun _ _ _ _ _ _ us hl => match us, hl with | [_], _ => rfl
  have c_whR : fd_whR.code = .ref (He.cT K ("_law_whole_right", none)).1 := code_of F_whR
  obtain ⟨fd_refR, F_refR⟩ := fn 20 _ rfl
  have F_refR : FP K "_law_refused_right" "_law_refused_right" (topS 45) [] (He.ga K "_law_refused_right") fd_refR := F_refR
  have b_refR := FunD.bindsN (ps := ["_law_pail_here", "_law_ratio"]) F_refR fun _ _ _ _ _ _ us hl => match us, hl with | [_, _], _ => rfl
  have c_refR : fd_refR.code = .ref (He.cT K ("_law_refused_right", none)).1 := code_of F_refR
  have g_l_whole_right := GD.mk (P := P) (w := w) (K := K) (mg := mg) (base := base) ⟨_, _, [], ok_whR (g_are_near := g_are_near) (g_mRatio := g_mRatio) (g_mRatio1 := g_mRatio1) (g_parents := g_parents) (g_runs_of := g_runs_of) (g_whole_of := g_whole_of) (T := TT K) G0 gE gHd (TB _ (List.mem_map.mpr ⟨_, List.mem_cons_self, rfl⟩)) List.mem_cons_self huP c_whR F_whR, gl "_law_whole_right" (by decide +kernel), F_whR.kp, b_whR, .nil⟩
  have g_l_refused_right := GD.mk (P := P) (w := w) (K := K) (mg := mg) (base := base) ⟨_, _, [], ok_refR (g_are_near := g_are_near) (g_l_dip := g_l_dip) (g_mediant := g_mediant) (g_parents := g_parents) (g_runs_of := g_runs_of) (g_whole_of := g_whole_of) (T := TT K) G0 gE gHd (TB _ (List.mem_map.mpr ⟨_, List.mem_cons_of_mem _ List.mem_cons_self, rfl⟩)) (List.mem_cons_of_mem _ List.mem_cons_self) huR c_refR F_refR, gl "_law_refused_right" (by decide +kernel), F_refR.kp, b_refR, .nil⟩
  exact ok_law (g_l_any_right := g_l_any_right) (g_l_dip := g_l_dip) (g_l_led_right := g_l_led_right) (g_l_pail := g_l_pail) (g_l_refused_right := g_l_refused_right) (g_l_runs := g_l_runs) (g_l_whole_right := g_l_whole_right) (g_mRatio := g_mRatio) (T := TT K) G0 F_law
end Sp
end
set_option Elab.async false
set_option linter.all false
set_option maxRecDepth 100000
set_option maxHeartbeats 0
namespace Sp
open PySem PySem.Spec PyProof.Rows L2
open PySem.W (Frag)
abbrev lw : PySem.W.OpenLaw := PySem.Challenge.rw_spiralsays_k07_fractions_by_their_letter
theorem law_at {w : World} {mg : Str → Option Value} {fa : Addr} {h : Heap} (Y : ∃ K : Frag, K.In h ∧ SaysB h K) (G : h.Ns mainGlobals mg) (hfa : mg "law" = some (.ref fa)) :
    ∃ K : Frag, K.In h ∧ LamX.LawAtS lw w K (L2.CX lw.prog w) 13 63 "_law_script" mg fa h := by
  obtain ⟨K, KX, c⟩ := Y
  have e := hfa.symm.trans (He.glo_ok KX G (c.gl "law" (by decide +kernel)))
  cases e
  obtain ⟨fd, F⟩ := (c.fn _ (List.mem_of_getElem? (show fnL[21]? = some _ from rfl))).elim fun h1 h2 => He5.DefA.funD h2 h1
  have F : FP K "law" "law" (topS 46) [] (He.ga K "law") fd := F
  have b := FunD.bindsA (ps := ["_law_script"]) F fun _ _ _ _ _ _ us hl => match us, hl with | [_], _ => rfl
  have hpq : (He.cT K ("_law_whole_right", none)).2 ≠ (He.cT K ("_law_refused_right", none)).2 := of_decide_eq_true (c.ex (fun K => decide ((He.cT K ("_law_whole_right", none)).2 ≠ (He.cT K ("_law_refused_right", none)).2)) (List.mem_of_getElem? (show exL[31]? = some _ from rfl)))
  refine ⟨K, KX, fd, tfL.map (He.cT K), spLaw K (TT K), fun p hp => ?_, fun p hp => ?_, fun p hp => ?_, fun s v => b s [v] rfl, fun H a ns hl _ hH hS => ⟨a, ns, rfl, hS, fun p hp => ?_, fun _ => rfl⟩, fun base KB NB TB => law_ok c KB NB hpq TB F⟩
  · obtain ⟨q, hq, rfl⟩ := List.mem_map.mp hp
    exact c.empty q hq
  · obtain ⟨q, hq, rfl⟩ := List.mem_map.mp hp
    exact c.out q hq
  · obtain ⟨q, hq, rfl⟩ := List.mem_map.mp hp
    exact PySem.W.codeHd_of_K KX (c.hd q hq)
  · rcases List.mem_cons.mp hp with rfl | hp
    · exact LamX.TabS.nil (hH _ (List.mem_map.mpr ⟨_, List.mem_cons_self, rfl⟩))
    · rw [List.mem_singleton.mp hp]
      exact LamX.TabS.nil (hH _ (List.mem_map.mpr ⟨_, List.mem_cons_of_mem _ List.mem_cons_self, rfl⟩))
end Sp
open PySem PySem.W PySem.Calls PyProof.Rows
theorem PySem.Challenge.cw_spiralsays_k07_fractions_by_their_letter_holds : PySem.Challenge.rw_spiralsays_k07_fractions_by_their_letter.Holds := by
  w_on; o_law
  refine HandSHeadRun.head_imp (r := Sp.Rw) (q := Sp.qv) (H := Sp.hk) (ob := Sp.ob) (M := 30000) (loose := Sp.names) (d := HandSHeadRun.topDef Sp.Rw.prog 46) (kwd := []) Sp.ob_eq Sp.run (by kernel_rfl) (by kernel_rfl) (by kernel_rfl) (by rfl) (by first | assumption | decide +kernel) (by decide +kernel) ⟨rfl, rfl, rfl, rfl, rfl, by decide +kernel⟩ ?hw ?hc
  case hw => w_witness2
  case hc =>
    refine LamX.walk_ofTsE (l := Sp.lw) (n := 63) (k := 13) (x := "_law_script") (CX := fun w => L2.CX Sp.lw.prog w) rfl (by decide) (by kernel_rfl) ⟨rfl, by decide, by decide⟩ ?F (fun w H s e s' z => ?C)
    case C =>
      obtain ⟨_, _, _, _, _, _, _, _, _, _, _, _, z⟩ := z
      exact z
    case F =>
      intro w mg fa h Y G hmg0
      have hmg : mg ("law" : PySem.Str) = some (.ref fa) := by
        have e : (HandSHeadRun.topDef Sp.Rw.prog 46).name = ("law" : PySem.Str) := by kernel_rfl
        rw [← e]
        exact hmg0
      exact Sp.law_at Y G hmg
