import PyProof.Rows.All
import Wide.All
import OpenK.AllK
import Wide.FinOn
import KE.KOpsOwn
import HandS.ForMost
import HandS.Exc
import HandS.ExcInit
import HandS.ExcField
import HandS.TryMany
import HandS.Property
import HandS.ClsMeth
import HandS.SlotsOwn
import HandS.IsInst
import HandS.Gcd
import HandS.Wide
import HandS.WordsExc
import HandS.Evl
import HandS.CallSlots
import HandS.Lambda
import HandS.EndTab
import HandS.Defaults
import HandS.TupLe
import HandS.Style
import KE.KFmtOwn
import PyProof.InstEq
import HandS.HeadHook4
import HandS.HeadWalk
import HandS.Head4
import HandS.HeadNt
import HandS.Head0
import HandS.Head1
import HandS.Head2
import HandS.Head3
import PySem.Challenge.RW_spiralsays_k14_who_stands_above_whom
section
set_option Elab.async false
set_option linter.all false
set_option maxRecDepth 100000
set_option maxHeartbeats 4000000
namespace Sp
open PySem PySem.Spec PyProof.Rows L2
/-! ### operators of an own class -/
/-- what of the text the class at C must have for the operator's name, its def at g -/
structure OpC (K : PySem.W.Frag) (C : Addr) (m r : Str) (g : Addr) : Prop where
  first : PySem.W.selfFirst K C = true
  at_ : PySem.W.findIn K (.ref C) m = some (some (.ref g))
  fn : PySem.W.isFn K (.ref g) = true
  rev : PySem.W.findIn K (.ref C) r = some none
  int1 : ∃ fo, PySem.W.findIn K (.type "int") m = some fo
  int2 : ∃ ro, PySem.W.findIn K (.type "int") r = some ro
  sub : PySem.W.subIn K (.type "int") (.ref C) = some false
def rBin (C : Addr) (sp : Sp) (E : XK) : R2 := fun x y H Q => ∃ a dx fs, x = .ref a ∧ H a = some (.ins C dx fs) ∧
  ((∃ b dy gs, y = .ref b ∧ H b = some (.ins C dy gs)) ∨ ∃ i, y = .int i) ∧ sp [x, y] H Q E
section
variable {X : Cx} {CX : CXT} {k : Nat} {C g : Addr} {fd : FuncData} {ps : List Str} {sp : Sp} {E : XK} {op : Operator}
theorem run_dun {pins : List (Addr × Obj)} {σ : L2.St} {H : Hp} {s : Shared} {Q : VK} {us : List Value} {vs : List V} (F : FnOk X.prog X.w X.K X.mg X.base CX k g fd ps sp) (hr : Room k X.A) (hb : Binds X.K fd ps []) (hx : Passes CX X E)
    (I : Inv X pins σ H s) (r : Vals vs us) (h : sp vs H Q E) : wpAny (model X.prog X.w) X.A (call (.ref g) us) (PySem.W.CmpBack (EP X pins σ Q)) X.xe s := by
  refine wpAny_mono (run_fn (dvs := []) (ds := []) F hr hb .nil hx I r (by rw [List.append_nil]; exact h)) (fun v s' z => ?_) fun _ _ x => x
  obtain ⟨z', H', I', rz, qz⟩ := z
  exact SlX.cmpback rz ⟨z', H', I', rz, qz⟩
/-- x op y by the class's own def -/
theorem op_bin (O : OpC X.K C (PySem.dunder op.info.2) (PySem.dunderR op.info.2) g) (F : FnOk X.prog X.w X.K X.mg X.base CX k g fd ps sp) (hr : Room k X.A) (hb : Binds X.K fd ps []) (hx : Passes CX X E) :
    OpR X (binaryOp op) (rBin C sp E) := by
  intro pins s σ H x y v u Q I rx ry h
  obtain ⟨a, dx, fs, rfl, ha, hy, q⟩ := h
  cases (show v = Value.ref a from rx)
  obtain ⟨mA, J, _⟩ := ins_get I.hok ha
  obtain ⟨od, J, _⟩ := J.look
  obtain ⟨m, hF⟩ := I.fr
  rcases hy with ⟨b, dy, gs, rfl, hb'⟩ | ⟨i, rfl⟩
  · cases (show u = Value.ref b from ry)
    obtain ⟨mB, J', _⟩ := ins_get I.hok hb'
    obtain ⟨od', J', _⟩ := J'.look
    exact PySem.W.binop_K hF I.ok.mod.kin J J'.type O.first O.at_ O.fn (run_dun (us := [.ref a, .ref b]) (vs := [.ref a, .ref b]) F hr hb hx I (.cons rfl (.cons rfl .nil)) q)
  · obtain ⟨fo, h1⟩ := O.int1
    obtain ⟨ro, h2⟩ := O.int2
    obtain ⟨t, rfl⟩ := ry
    exact PySem.W.ksp_binT hF I.ok.mod.kin J rfl O.first O.at_ O.fn O.rev (.inl rfl) h1 h2 O.sub (run_dun (us := [.ref a, .int i t]) (vs := [.ref a, .int i]) F hr hb hx I (.cons rfl (.cons ⟨t, rfl⟩ .nil)) q)
/-- -x by the class's own def -/
def rUn (C : Addr) (sp : Sp) (E : XK) : V → Hp → VK → Prop := fun x H Q => ∃ a dx fs, x = .ref a ∧ H a = some (.ins C dx fs) ∧ sp [x] H Q E
theorem un_own (hs : PySem.W.findIn X.K (.ref C) "__neg__" = some (some (.ref g))) (hf : PySem.W.isFn X.K (.ref g) = true) (F : FnOk X.prog X.w X.K X.mg X.base CX k g fd ps sp) (hr : Room k X.A) (hb : Binds X.K fd ps []) (hx : Passes CX X E) :
    UnR X (unaryOp .USub) (rUn C sp E) := by
  intro pins s σ H x v Q I rx h
  obtain ⟨a, dx, fs, rfl, ha, q⟩ := h
  cases (show v = Value.ref a from rx)
  obtain ⟨mA, J, _⟩ := ins_get I.hok ha
  obtain ⟨od, J, _⟩ := J.look
  obtain ⟨m, hF⟩ := I.fr
  refine PySem.W.ksp_neg hF I.ok.mod.kin J hs hf ?_
  exact run_fn (dvs := []) (ds := []) (us := [.ref a]) (vs := [.ref a]) F hr hb .nil hx I (.cons rfl .nil) (by rw [List.append_nil]; exact q)
/-- x == y, x of the class at C with an own __eq__; y an instance of C, or a flat value whose type is no class below C -/
def rEqOwn (K : PySem.W.Frag) (C : Addr) (sp : Sp) (E : XK) : R2 := fun x y H Q => ∃ a dx fs t, x = .ref a ∧ H a = some (.ins C dx fs) ∧ TyX K H y t ∧ PySem.W.notFirst K C t = true ∧ sp [x, y] H Q E
theorem ty_looks {pins : List (Addr × Obj)} {σ : L2.St} {H : Hp} {s : Shared} {y : V} {u t : Value} (I : Inv X pins σ H s) (ry : RelV y u) (ty : TyX X.K H y t) : PySem.W.Looks (model X.prog X.w) s.heap (typeOf u) t := by
  obtain ⟨P, Z, p, _⟩ := kit_of I ry ty
  exact Z.ty _ _ I.kIn p

theorem op_eqOwn (hs : PySem.W.findIn X.K (.ref C) "__eq__" = some (some (.ref g))) (hf : PySem.W.isFn X.K (.ref g) = true) (F : FnOk X.prog X.w X.K X.mg X.base CX k g fd ps sp) (hr : Room k X.A) (hb : Binds X.K fd ps []) (hx : Passes CX X E) :
    OpR X (compareOp .Eq) (rEqOwn X.K C sp E) := by
  intro pins s σ H x y v u Q I rx ry h
  obtain ⟨a, dx, fs, t, rfl, ha, ty, hn, q⟩ := h
  cases (show v = Value.ref a from rx)
  obtain ⟨mA, J, _⟩ := ins_get I.hok ha
  obtain ⟨od, J, _⟩ := J.look
  obtain ⟨m, hF⟩ := I.fr
  show wpAny (model X.prog X.w) X.A (richCompare .Eq (.ref a) u) (EP X pins σ Q) X.xe s
  exact PySem.W.cmp_K (op := .Eq) (tb := t) hr.units0 hF I.ok.mod.kin J (ty_looks I ry ty) hn hs hf (run_dun (us := [.ref a, u]) (vs := [.ref a, y]) F hr hb hx I (.cons rfl (.cons ry .nil)) q)
/-- abs(x) by the class's own def -/
def rAbsOwn (C : Addr) (sp : Sp) (E : XK) : List V → Hp → VK → Prop := fun xs H Q => ∃ a dx fs, xs = [.ref a] ∧ H a = some (.ins C dx fs) ∧ sp [.ref a] H Q E
theorem entry_abs : entryFor table "abs" = some Builtin.«abs» := entryFor_of_tree (by kernel_rfl)
/-- staticmethod: its record at p, its def at g -/
structure SMet (K : PySem.W.Frag) (C : Addr) (mc : Value) (m : Str) (p g : Addr) : Prop where
  rd : PySem.W.readsIn K C mc = true
  ga : PySem.W.specialIn K (.ref C) "__getattribute__" = some (some (.builtin "type.__getattribute__"))
  at_ : PySem.W.findCls K (.ref C) mc m = some (.get (.builtin "staticmethod.__get__") (.ref p) .none (.ref C))
  rc : ∃ rest, PySem.W.recIn K p "staticmethod" = some (.ref g :: rest)
  kp : PySem.W.keepIn K (.ref g) = true
def tSMeth (C : Addr) (sp : Sp) (E : XK) (ta : TE) (t : TA) : TE := fun σ H Q => ta σ H fun x H1 => x = .ref C ∧ t σ H1 fun vs H2 => sp vs H2 Q E
variable {o e : Expr} {es : List Expr} {m : Str} {apos pos : Pos} {ta : TE} {t : TA} {pl : Sem Bool} {mc : Value} {p : Addr}
theorem pe_smeth (he : PE X o ta) (c : SMet X.K C mc m p g) (F : FnOk X.prog X.w X.K X.mg X.base CX k g fd ps sp) (hr : Room k X.A) (hb : Binds X.K fd ps []) (hx : Passes CX X E) (ha : PA X (e :: es) t)
    (hst : starEach (e :: es) X.env = (false, eval e X.env) :: starEach es X.env := by rfl) (hpl : (backTo pos (starEach es X.env)).any (·.1) = false := by rfl)
    (ht : eval (.Call (.Attribute o m apos) (e :: es) [] pos) X.env = (do
      let ov ← eval o X.env
      standAt apos.atName
      let (f, first) ← holding [ov] (getMethod ov m pl)
      callWith pos f first (backTo pos (starEach (e :: es) X.env)) (backToKw pos (keywordEach [] X.env))) := by rfl) :
    PE X (.Call (.Attribute o m apos) (e :: es) [] pos) (tSMeth C sp E ta t) := by
  refine ⟨fun pins s σ H Q I h => ?_⟩
  refine PySem.W.methodCall_KW (pl := pl) (thn (he.run pins s σ H _ I h) fun u s1 ⟨x, H1, I1, rx, ex, q⟩ => ?_) ht
  subst ex
  obtain rfl : u = Value.ref C := rx
  obtain ⟨rest, hp⟩ := c.rc
  refine PySem.W.method_cls I1.kIn c.ga (PySem.W.cls_bind I1.kIn c.rd c.at_ (wpAny_call (PySem.W.sm_get (s := { s1 with toks := s1.toks + 1 }) I1.kIn hp (PySem.W.handed_on rfl ?_))))
  have I2 := I1.tok (s1.toks + 1)
  refine PySem.W.callWith_K (h₀ := X.base) I.ok.mod.kin c.kp (thn (ha.run pos pins _ σ H1 _ I2 q) fun us s3 ⟨vs, H2, I3, r, q2⟩ => ⟨I3.kIn, ?_⟩) hst hpl
  exact run_fn (dvs := []) (ds := []) F hr hb .nil hx I3 r (by rw [List.append_nil]; exact q2)
end
/-! ### numbers -/
def CDivB (_ j : Int) : Prop := j ≠ 0 ∧ j.natAbs < 2 ^ 4000
def CMulB (i j : Int) : Prop := i.natAbs < 2 ^ 4000 ∧ j.natAbs < 2 ^ 4000
section
variable {X : Cx}
theorem lg {x : Int} (h : x.natAbs < 2 ^ 4000) : x.natAbs.log2 < 4000 := PySem.Flt.log2_lt_of (by decide) h
theorem op_fdivB : OpR X (binaryOp .FloorDiv) (rI CDivB fun i j => .int (i.fdiv j)) := opI fun i j _ _ _ _ _ hc q =>
  floordiv_int hc.1 q (.inl (PyProof.noPylong_of_log2 (Nat.lt_of_lt_of_le (lg hc.2) (by decide))))
theorem op_mulB : OpR X (binaryOp .Mult) (rI CMulB fun i j => .int (i * j)) := opI fun _ _ _ _ _ _ _ hc q => mul_int q (CMulW.ok (show _ + _ < 1000000 by have := lg hc.1; have := lg hc.2; omega))
end

section
variable {X : Cx} {CX : CXT} {k : Nat} {C g : Addr} {fd : FuncData} {ps ks : List Str} {sp : Sp} {E : XK}
theorem run_in1 {pins : List (Addr × Obj)} {σ : L2.St} {H : Hp} {s : Shared} {Q : VK} {us : List Value} {vs : List V} (F : FnOk X.prog X.w X.K X.mg X.base CX k g fd ps sp) (hr : Room (k + 1) X.A) (hb : Binds X.K fd ps []) (hx : Passes CX X E)
    (I : Inv X pins σ H s) (r : Vals vs us) (h : sp vs H Q E) : wpAny (model X.prog X.w) X.A.in1 (call (.ref g) us) (EP X pins σ Q) X.xe s := by
  have hl : (us ++ []).length = ps.length := by
    rw [List.append_nil, ← r.length]
    exact F.len _ _ _ _ h
  have hb' := hb s us I.kIn hl
  rw [List.append_nil] at hb'
  refine wpAny_call (codeAny_mono (F.run X.A.in1 X.stack s H ⟨us, []⟩ us vs Q E hr.in1 I.env0.in1 hb' r h) fun r s' hq => ?_)
  cases r with
  | error e => exact hx pins σ H s e s' I hq
  | ok fl =>
    cases fl with
    | ret u => exact I.after hq
    | next => exact False.elim hq
    | brk => exact False.elim hq
    | cont => exact False.elim hq
theorem call_absOwn (hs : PySem.W.findIn X.K (.ref C) "__abs__" = some (some (.ref g))) (hf : PySem.W.isFn X.K (.ref g) = true) (F : FnOk X.prog X.w X.K X.mg X.base CX k g fd ps sp) (hr : Room (k + 1) X.A) (hb : Binds X.K fd ps []) (hx : Passes CX X E) :
    CallR X (.builtin "abs") (rAbsOwn C sp E) := by
  intro pins s σ H xs us Q I r h
  obtain ⟨a, dx, fs, rfl, ha, q⟩ := h
  obtain ⟨u, rfl, ru⟩ := vals1 r
  cases (show u = Value.ref a from ru)
  obtain ⟨mA, J, _⟩ := ins_get I.hok ha
  obtain ⟨od, J, _⟩ := J.look
  refine PySem.Calls.call_function_entry kind_abs plain_abs PyProof.Rows.entry_abs (args_abs _) ?_
  unfold Builtin.«abs»
  refine wpAny_bind (m := oneArg "abs" _) (wpAny_pure ?_)
  refine wpAny_bind (m := callSpecial? (.ref a) (Str.ofString "__abs__")) (PySem.W.special_fn I.kIn J hs (beq_iff_eq.mp hf) (wpAny_mono (run_in1 (us := [.ref a]) (vs := [.ref a]) F hr hb hx I (.cons rfl .nil) q) (fun v s' z => ?_) fun _ _ x => x))
  exact wpAny_pure ⟨_, rfl, z⟩
/-! ### a def's name in a call -/
/-- the module's name x is a def that keeps sp; dvs fill up -/
structure GD (P : Program) (w : World) (K : PySem.W.Frag) (mg : Str → Option Value) (base : Heap) (CX : CXT) (k : Nat) (x : Str) (ps : List Str) (dvs : List V) (sp : Sp) : Prop where
  ex : ∃ (f : Addr) (fd : FuncData) (ds : List Value), FnOk P w K mg base CX k f fd ps sp ∧ mg x = some (.ref f) ∧ PySem.W.keepIn K (.ref f) = true ∧ Binds K fd ps ds ∧ Vals dvs ds
theorem pe_gd {dvs : List V} {x : Str} {p pos : Pos} {e : Expr} {es : List Expr} {t : TA} (G : GD X.prog X.w X.K X.mg X.base CX k x ps dvs sp) (hr : Room k X.A) (hg : Gl X x) (hx : Passes CX X E)
    (ha : PA X (e :: es) t) (hdb : (x == ("__debug__" : Str)) = false := by decide) (he : starEach (e :: es) X.env = (false, eval e X.env) :: starEach es X.env := by rfl) (hpl : (backTo pos (starEach es X.env)).any (·.1) = false := by rfl) :
    PE X (.Call (.Name x p) (e :: es) [] pos) (tCall sp dvs E t) := by
  obtain ⟨f, fd, ds, F, h1, h2, h3, h4⟩ := G.ex
  exact pe_call F hr hg h1 h2 h3 h4 hx ha hdb he hpl
/-- the same for any caller's slots -/
theorem pe_gdS {dvs : List V} {x : Str} {p pos : Pos} {e : Expr} {es : List Expr} {t : TA} {E : L2.St → XK} (G : GD X.prog X.w X.K X.mg X.base CX k x ps dvs sp) (hr : Room k X.A) (hg : Gl X x) (hx : ∀ σ, PassesAt CX X σ (E σ))
    (ha : PA X (e :: es) t) (hdb : (x == ("__debug__" : Str)) = false := by decide) (he : starEach (e :: es) X.env = (false, eval e X.env) :: starEach es X.env := by rfl) (hpl : (backTo pos (starEach es X.env)).any (·.1) = false := by rfl) :
    PE X (.Call (.Name x p) (e :: es) [] pos) (tCallSD sp dvs E t) := by
  obtain ⟨f, fd, ds, F, h1, h2, h3, h4⟩ := G.ex
  exact pe_callSD F hr hg h1 h2 h3 h4 hx ha hdb he hpl
/-- a class that is made by its __init__ -/
structure GM (P : Program) (w : World) (K : PySem.W.Frag) (mg : Str → Option Value) (base : Heap) (CX : CXT) (k : Nat) (x : Str) (C : Addr) (ps : List Str) (dvs : List V) (sp : Sp) : Prop where
  ex : ∃ (f : Addr) (fd : FuncData) (ds : List Value), FnOk P w K mg base CX k f fd ps sp ∧ Mk K C f ∧ mg x = some (.ref C) ∧ Binds K fd ps ds ∧ Vals dvs ds
theorem pe_gm {dvs : List V} {x : Str} {p pos : Pos} {e : Expr} {es : List Expr} {t : TA} (G : GM X.prog X.w X.K X.mg X.base CX k x C ps dvs sp) (hr : Room (k + 1) X.A) (hg : Gl X x) (hx : Passes CX X E)
    (ha : PA X (e :: es) t) (hdb : (x == ("__debug__" : Str)) = false := by decide) (he : starEach (e :: es) X.env = (false, eval e X.env) :: starEach es X.env := by rfl) (hpl : (backTo pos (starEach es X.env)).any (·.1) = false := by rfl) :
    PE X (.Call (.Name x p) (e :: es) [] pos) (tMake C sp dvs E t) := by
  obtain ⟨f, fd, ds, F, M, h1, h3, h4⟩ := G.ex
  exact pe_make M F hr hg h1 h3 h4 hx ha hdb he hpl
/-- a method of the class at C -/
structure GH (P : Program) (w : World) (K : PySem.W.Frag) (mg : Str → Option Value) (base : Heap) (CX : CXT) (k : Nat) (C : Addr) (m : Str) (ps : List Str) (sp : Sp) : Prop where
  ex : ∃ (f : Addr) (fd : FuncData), FnOk P w K mg base CX k f fd ps sp ∧ Meth K C m f ∧ Binds K fd ps []
theorem pe_gh {o e : Expr} {es : List Expr} {m : Str} {apos pos : Pos} {ta : TE} {t : TA} {pl : Sem Bool} (he : PE X o ta) (c : Cls X.K C) (G : GH X.prog X.w X.K X.mg X.base CX k C m ps sp) (hr : Room k X.A) (hx : Passes CX X E) (ha : PA X (e :: es) t)
    (hst : starEach (e :: es) X.env = (false, eval e X.env) :: starEach es X.env := by rfl) (hpl : (backTo pos (starEach es X.env)).any (·.1) = false := by rfl)
    (ht : eval (.Call (.Attribute o m apos) (e :: es) [] pos) X.env = (do
      let ov ← eval o X.env
      standAt apos.atName
      let (f, first) ← holding [ov] (getMethod ov m pl)
      callWith pos f first (backTo pos (starEach (e :: es) X.env)) (backToKw pos (keywordEach [] X.env))) := by rfl) :
    PE X (.Call (.Attribute o m apos) (e :: es) [] pos) (tMeth C m sp [] E ta t) := by
  obtain ⟨f, fd, F, M, hb⟩ := G.ex
  exact pe_meth he c M F hr hb .nil hx ha hst hpl ht
end

/-! ### an error of one field -/
def spI1 (C : Addr) (f : Str) : Sp := fun vs H Q _ => ∃ a v, vs = [.ref a, v] ∧ H a = some (exo a C none) ∧ ∀ dx, H dx = none → dx ≠ a → Q .non (upd (upd H dx (exd dx [(f, v)])) a (exo a C (some dx)))
/-- the error's class x, at C, its field f -/
structure GX (P : Program) (w : World) (K : PySem.W.Frag) (mg : Str → Option Value) (base : Heap) (k : Nat) (x f : Str) (C : Addr) : Prop where
  T : OexC K C
  hm : mg x = some (.ref C)
  ex : ∃ (fI : Addr) (fd : FuncData), PySem.W.findIn K (.ref C) "__init__" = some (some (.ref fI)) ∧ PySem.W.typeIn K (.ref fI) = some (.type "function") ∧ FnOk P w K mg base (L2.CX P w) k fI fd ["self", f] (spI1 C f) ∧ Binds K fd ["self", f] []
section
variable {X : Cx} {k : Nat} {x f : Str} {C : Addr} {e : Expr} {ta : TA} {p pos pos2 : Pos}
theorem pmk1 (G : GX X.prog X.w X.K X.mg X.base k x f C) (hr : Room (k + 1) X.A) (hg : Gl X x) (ha : PA X [e] ta) (hdb : (x == ("__debug__" : Str)) = false := by decide)
    (he : starEach (e :: []) X.env = (false, eval e X.env) :: starEach [] X.env := by rfl) (hpl : (backTo pos (starEach [] X.env)).any (·.1) = false := by rfl) : PMk X (.Call (.Name x p) [e] [] pos) (tMkO C (spI1 C f) [] ta) := by
  obtain ⟨fI, fd, h1, h2, h3, h4⟩ := G.ex
  exact pmk_oex G.T h1 h2 h3 hr h4 .nil passL hg G.hm ha hdb he hpl
/-- what such a raise asks behind its argument v, at H1 -/
theorem mk1 {v : V} {H1 : Hp} {Q : XK} (h : ∀ d H2, Same H1 H2 → H1 d = none → H2 d = some (.xd [(f, v)]) → Q (.ref C) (some d) H2) :
    ([v] : List V).length ≤ 1000 ∧ ∀ a, H1 a = none → spI1 C f (.ref a :: ([v] ++ [])) (upd H1 a (exo a C none))
      (fun u H2 => u = .non ∧ ∃ (d : Addr) (fs : List (Str × V)), H2 a = some (exo a C (some d)) ∧ H2 d = some (exd d fs) ∧ H1 d = none ∧ Q (.ref C) (some d) (upd (del H2 a) d (.xd fs))) (fun _ _ _ => False) := by
  refine ⟨by simp, fun a na => ⟨a, v, rfl, upd_same, fun dx nd ne => ⟨rfl, dx, [(f, v)], upd_same, ?_, ?_, h _ _ (fun b o hb => ?_) ?_ upd_same⟩⟩⟩
  · rw [upd_ne ne, upd_same]
  · rw [upd_ne ne] at nd
    exact nd
  · have nb : b ≠ a := ne_of_none hb na
    have nd' : H1 dx = none := by
      rw [upd_ne ne] at nd
      exact nd
    rw [upd_ne (ne_of_none hb nd'), del_ne nb, upd_ne nb, upd_ne (ne_of_none hb nd'), upd_ne nb]
    exact hb
  · rw [upd_ne ne] at nd
    exact nd
end
/-! ### several clauses with names -/
def wManyA (K : PySem.W.Frag) (Wout : WX) (D : Ends) : List (Value × Nat × (Addr → Value → Option Addr → TS)) → WX
  | [] => Wout
  | (c, i, ts) :: r => fun cls d σ H => ∃ b, PySem.W.exmOne K cls c = some b ∧
      (b = true → ∀ a, H a = none → ts a cls d { nx := fun σ' H' => D.nx (σ'.set i none) H', rt := D.rt, bk := fun σ' H' => D.bk (σ'.set i none) H', ct := fun σ' H' => D.ct (σ'.set i none) H' } (σ.set i (some (.ref a))) H) ∧
      (b = false → wManyA K Wout D r cls d σ H)
inductive HdsA (X : Cx) : List ExceptHandler → List (Value × Nat × (Addr → Value → Option Addr → TS)) → Prop
  | nil : HdsA X [] []
  | cons {x n : Str} {c : Value} {i : Nat} {ts : Addr → Value → Option Addr → TS} {b₀ : Stmt} {suite : List Stmt} {np pos' : Pos} {hds : List ExceptHandler} {l : List (Value × Nat × (Addr → Value → Option Addr → TS))} (hc : Names X x c)
      (hi : X.N[i]? = some n) (hln : X.env.kindOf n = some .local)
      (hsu : ∀ (a : Addr) (oe : Obj) (cls : Value) (d : Option Addr) (pn : List (Addr × Obj)), Zc cls d oe → (∃ vs, oe.data = .fields vs) → PSs (X.suite a ((a, oe) :: pn)) (b₀ :: suite) (ts a cls d)) (r : HdsA X hds l) :
      HdsA X (.ExceptHandler (some (.Name x np)) (some n) (b₀ :: suite) pos' :: hds) ((c, i, ts) :: l)
section
variable {X : Cx} {body : List Stmt} {h₀ : ExceptHandler} {hds : List ExceptHandler} {l : List (Value × Nat × (Addr → Value → Option Addr → TS))} {pos : Pos} {tb : WX → TS} {Wout : WX}
theorem ps_try_manyA (hs : X.stack = X.env :: X.outer) (hf : X.env.frame = some X.env.locals) (hN : X.N.Nodup) (tk : Takes X Wout)
    (hb : ∀ (W : WX) (pn : List (Addr × Obj)) (xe : Value → Shared → Prop), Takes (X.tr pn xe) W → PassesOwn (model X.prog X.w) X.A X.env xe → PSs (X.tr pn xe) body (tb W))
    (hh : HdsA X (h₀ :: hds) l) : PS X (.Try body (h₀ :: hds) [] [] pos) (fun D σ H => tb (wManyA X.K Wout D l) D σ H) := by
  refine ⟨fun pins s σ H D I h => ?_⟩
  have ok := I.ok
  have hfr : X.A.frames = some (X.env :: X.outer) := by rw [ok.frames, hs]
  refine wpAny_Try_except ?_
  refine wpAny_mono ((hb (wManyA X.K Wout D l) (X.pn ++ pins) (fun e s₁ => wpAny (model X.prog X.w) X.A (noteFrame e X.env) (fun _ s₂ => wpAny (model X.prog X.w) X.A (setFlight e none) (fun _ s₃ =>
    wpAny (model X.prog X.w) X.A (handleBy e X.env (h₀ :: hds)) (SP X pins D) X.xe s₃) X.xe s₂) X.xe s₁) (fun u s' xx => ?_) PassesOwn.looking).run [] s σ H D (I.toTry _) h) (fun f s1 hsp => ?_) (fun e s1 he => he)
  · obtain ⟨a, B, sI, pins', σ', H', cls, d, rfl, J', nb, up, sky, na, os, ag, w⟩ := xx
    have J : Inv X pins σ' H' sI := J'.ofTry ok
    have sky' : Sky B (X.env :: X.outer) a (Zc cls d) X.env.locals s'.heap := by rw [← hs]; exact sky
    show wpAny (model X.prog X.w) X.A (noteFrame (.ref a) X.env) _ _ _
    refine Sky.land Zc.steady hfr hf sky' fun h3 fl3 up3 => ?_
    have J3 : Inv X pins σ' H' { s' with heap := h3 } := J.landed nb fl3.1 (up.trans up3) os ag
    obtain ⟨oe3, vs3, he3, hz3, hd3⟩ := fl3.there
    have notFr : ∀ {h : Heap} {o : Obj} {vs : Array Value}, h.FunFrames B (X.env :: X.outer) → h.get? a = some o → o.data = .fields vs → a ∉ frs (X.env :: X.outer) := fun {h o vs} ff e dd hm => by
      obtain ⟨_, o', e', hnf⟩ := ff.mem hm
      rw [e] at e'; cases e'
      exact hnf _ dd
    have nfr := notFr fl3.2.2.1 he3 hd3
    have nL : a ≠ X.env.locals := fun z => nfr (List.mem_filterMap.mpr ⟨X.env, List.mem_cons_self, by rw [hf, z]⟩)
    have nF : a ∉ X.fs := fun hm => by
      obtain ⟨e, he, q⟩ := List.mem_filterMap.mp hm
      exact nfr (List.mem_filterMap.mpr ⟨e, List.mem_cons_of_mem _ he, q⟩)
    have S3 := J3.suite he3 hd3 na nL nF
    have go : ∀ {hds' : List ExceptHandler} {l' : List (Value × Nat × (Addr → Value → Option Addr → TS))}, HdsA X hds' l' → wManyA X.K Wout D l' cls d σ' H' →
        wpAny (model X.prog X.w) X.A (handleBy (.ref a) X.env hds') (SP X pins D) X.xe { s' with heap := h3 } := by
      intro hds' l' hk
      induction hk with
      | nil =>
        intro w
        refine wpAny_handleBy_nil ?_
        obtain ⟨k1, k2, k3, oe, vs, T, oT, ts', he, hz, hd, h1, hr⟩ := id fl3
        unfold PySem.passOn
        refine wpAny_bind (wpAny_field he hd h1 ?_)
        rw [if_neg (show ¬ ((Value.ref T == Value.none) = true) from by simp)]
        have fin : wpAny (model X.prog X.w) X.A (setFlight (.ref a) X.env.frame) (fun _ s4 => wpAny (model X.prog X.w) X.A (throw (.ref a) : Sem Flow) (SP X pins D) X.xe s4) X.xe { s' with heap := h3 } := by
          rw [hf]
          refine HandSPX.setFlight_upZ fl3 fun h4 hh4 up4 => wpAny_throw (tk _ _ ?_)
          exact ⟨a, B, sI, pins, σ', H', cls, d, rfl, J, nb, (up.trans up3).trans up4, .inr (.inr (by rw [hs]; exact hh4)), na, os, ag, w⟩
        first
          | exact wpAny_bind (wpAny_pure (wpAny_bind fin))
          | exact wpAny_bind fin
      | @cons x n c i ts b₀ suite np pos' hds2 l2 hc hi hln hsu r ih =>
        intro w
        have hloc : Loc X.env.scope n := .inl hln
        obtain ⟨b, hb1, hyes, hno⟩ := w
        refine wpAny_handleBy_cons (codeAny_handlers_test ?_) (by intro q; cases q)
        have LT : PySem.W.Looks (model X.prog X.w) h3 (typeOf (.ref a)) cls := fun A Q E s k q => wpAny_typeOf_ref (k _ _ he3) (by rw [hz3.1]; exact q)
        have LM := PySem.W.exm_one (M := model X.prog X.w) (J3.kIn) LT hb1
        have test : ∀ {Q : Value → Shared → Prop} {E : Value → Shared → Prop}, Q c { s' with heap := h3 } → wpAny (model X.prog X.w) (X.A.mark (some (.ref a))) (eval (.Name x np) X.env) Q E { s' with heap := h3 } := fun {Q E} q => by
          obtain ⟨hg, hdbg, hm | ⟨hm, hv, hnn⟩⟩ := hc
          · exact ld_glob (X := X.suite a ((a, oe3) :: (X.pn ++ pins))) S3 hg hm q hdbg
          · exact ld_blt (X := X.suite a ((a, oe3) :: (X.pn ++ pins))) S3 hg hm hv q hnn hdbg
        refine test (LM.here ?_)
        cases b with
        | true =>
          refine codeAny_handlers_suite_as ?_
          refine HandSPX.lands_againZ fl3 fun h4 fl4 up4 => ?_
          have J4 : Inv X pins σ' H' { s' with heap := h4 } := J.landed nb fl4.1 ((up.trans up3).trans up4) os ag
          obtain ⟨oe4, vs4, he4, hz4, hd4⟩ := fl4.there
          have S4 := J4.suite he4 hd4 na nL nF
          refine store_ok (X := X.suite a ((a, oe4) :: (X.pn ++ pins))) (v := .ref a) S4 hN hi hloc rfl (fun s5 S5 => ?_) (.inr hln)
          refine wpAny_mono ((hsu a oe4 cls d (X.pn ++ pins) hz4 ⟨_, hd4⟩).run [] s5 _ H' _ S5 (hyes rfl a na)) (fun f s6 hsp => ?_) (fun _ _ z => False.elim z)
          have end_ : ∀ {σ6 : L2.St} {H6 : Hp} {Q : Shared → Prop}, Inv (X.suite a ((a, oe4) :: (X.pn ++ pins))) [] σ6 H6 s6 → (∀ s7, Inv X pins (σ6.set i none) H6 s7 → Q s7) →
              wpAny (model X.prog X.w) X.A (do bindName X.env n .none; unbindBehindTheSuite X.env n pos') (fun _ s7 => Q s7) X.xe s6 := fun {σ6 H6 Q} S6 hq => gone_ok (S6.unsuite ok) hN hi hln hq
          cases f with
          | next =>
            obtain ⟨σ6, H6, S6, q6⟩ := hsp
            exact end_ S6 fun s7 J7 => ⟨_, _, J7, q6⟩
          | brk =>
            obtain ⟨σ6, H6, S6, q6⟩ := hsp
            exact end_ S6 fun s7 J7 => ⟨_, _, J7, q6⟩
          | cont =>
            obtain ⟨σ6, H6, S6, q6⟩ := hsp
            exact end_ S6 fun s7 J7 => ⟨_, _, J7, q6⟩
          | ret u =>
            obtain ⟨v6, σ6, H6, S6, r6, q6⟩ := hsp
            exact end_ S6 fun s7 J7 => ⟨_, _, _, J7, r6, q6⟩
        | false =>
          show wpAny _ X.A (handleBy (.ref a) X.env hds2) _ _ _
          exact ih (hno rfl)
    exact go hh w
  · cases f with
    | next =>
      obtain ⟨σ', H', J', q⟩ := hsp
      exact wpAny_execs_nil ⟨σ', H', J'.ofTry ok, q⟩
    | brk =>
      obtain ⟨σ', H', J', q⟩ := hsp
      exact ⟨σ', H', J'.ofTry ok, q⟩
    | cont =>
      obtain ⟨σ', H', J', q⟩ := hsp
      exact ⟨σ', H', J'.ofTry ok, q⟩
    | ret u =>
      obtain ⟨v, σ', H', J', r, q⟩ := hsp
      exact ⟨v, σ', H', J'.ofTry ok, r, q⟩
end

/-! ### shapes -/
theorem pxE {X : Cx} {E : XK} {E₁ : Value → Shared → Prop} (hs : X.stack = X.env :: X.outer) (hf : X.env.frame = some X.env.locals) (hex : X.ex = [])
    (hx : X.xe = fun e s' => wpAny (model X.prog X.w) X.A (leaving X.env e) (fun _ s'' => L2.CX X.prog X.w X.outer X.H_0 X.s_0 E e s'') E₁ s') : Passes (L2.CX X.prog X.w) X E :=
  passes_call (takes_of hs hf hex hx) (fun _ _ _ _ h => h)
/-- an operator -/
structure GO (P : Program) (w : World) (K : PySem.W.Frag) (mg : Str → Option Value) (base : Heap) (CX : CXT) (k : Nat) (C : Addr) (op : Operator) (sp : Sp) : Prop where
  ex : ∃ (g : Addr) (fd : FuncData) (ps : List Str), OpC K C (PySem.dunder op.info.2) (PySem.dunderR op.info.2) g ∧ FnOk P w K mg base CX k g fd ps sp ∧ Binds K fd ps []
/-- a special method that is found by its name -/
structure GN (P : Program) (w : World) (K : PySem.W.Frag) (mg : Str → Option Value) (base : Heap) (CX : CXT) (k : Nat) (C : Addr) (m : Str) (sp : Sp) : Prop where
  ex : ∃ (g : Addr) (fd : FuncData) (ps : List Str), PySem.W.findIn K (.ref C) m = some (some (.ref g)) ∧ PySem.W.isFn K (.ref g) = true ∧ FnOk P w K mg base CX k g fd ps sp ∧ Binds K fd ps []
/-- a property -/
structure GP (P : Program) (w : World) (K : PySem.W.Frag) (mg : Str → Option Value) (base : Heap) (CX : CXT) (k : Nat) (C : Addr) (f : Str) (sp : Sp) : Prop where
  c : Cls K C
  ex : ∃ (p g : Addr) (fd : FuncData) (ps : List Str), PropOf K C f p g ∧ FnOk P w K mg base CX k g fd ps sp ∧ Binds K fd ps []
/-- a static method -/
structure GS (P : Program) (w : World) (K : PySem.W.Frag) (mg : Str → Option Value) (base : Heap) (CX : CXT) (k : Nat) (C : Addr) (m : Str) (sp : Sp) : Prop where
  ex : ∃ (mc : Value) (p g : Addr) (fd : FuncData) (ps : List Str), SMet K C mc m p g ∧ FnOk P w K mg base CX k g fd ps sp ∧ Binds K fd ps []
/-- free names -/
structure Nm (mg : Str → Option Value) : Prop where
  isinstance : mg "isinstance" = none
  int : mg "int" = none
  bool : mg "bool" = none
  str : mg "str" = none
  abs : mg "abs" = none
  len : mg "len" = none
  range : mg "range" = none
  enumerate : mg "enumerate" = none
  list : mg "list" = none
  tuple : mg "tuple" = none
section
variable {X : Cx} {CX : CXT} {k : Nat} {C : Addr} {sp : Sp} {E : XK} {op : Operator} {o e : Expr} {es : List Expr} {m f : Str} {apos pos : Pos} {ta : TE} {t : TA} {pl : Sem Bool}
theorem op_go (G : GO X.prog X.w X.K X.mg X.base CX k C op sp) (hr : Room k X.A) (hx : Passes CX X E) : OpR X (binaryOp op) (rBin C sp E) := by
  obtain ⟨g, fd, ps, O, F, hb⟩ := G.ex
  exact op_bin O F hr hb hx
theorem op_eqGo (G : GN X.prog X.w X.K X.mg X.base CX k C "__eq__" sp) (hr : Room k X.A) (hx : Passes CX X E) : OpR X (compareOp .Eq) (rEqOwn X.K C sp E) := by
  obtain ⟨g, fd, ps, h1, h2, F, hb⟩ := G.ex
  exact op_eqOwn h1 h2 F hr hb hx
theorem call_absGo (G : GN X.prog X.w X.K X.mg X.base CX k C "__abs__" sp) (hr : Room (k + 1) X.A) (hx : Passes CX X E) : CallR X (.builtin "abs") (rAbsOwn C sp E) := by
  obtain ⟨g, fd, ps, h1, h2, F, hb⟩ := G.ex
  exact call_absOwn h1 h2 F hr hb hx
theorem un_go (G : GN X.prog X.w X.K X.mg X.base CX k C "__neg__" sp) (hr : Room k X.A) (hx : Passes CX X E) : UnR X (unaryOp .USub) (rUn C sp E) := by
  obtain ⟨g, fd, ps, h1, h2, F, hb⟩ := G.ex
  exact un_own h1 h2 F hr hb hx
theorem passN {X : Cx} : Passes (L2.CX X.prog X.w) X.nox E0 := passL (X := X.nox)
theorem pe_gp (he : PE X o ta) (G : GP X.prog X.w X.K X.mg X.base (L2.CX X.prog X.w) k C f sp) (hr : Room (k + 1) X.A) (hab : attributeBase o f X.env (eval o X.env) = eval o X.env) :
    PE X (.Attribute o f pos) (tProp C sp [] E0 ta) := by
  obtain ⟨p, g, fd, ps, hp, F, hb⟩ := G.ex
  exact pe_prop (ds := []) he G.c hp F hr hb .nil passN hab
theorem pe_gs (he : PE X o ta) (G : GS X.prog X.w X.K X.mg X.base CX k C m sp) (hr : Room k X.A) (hx : Passes CX X E) (ha : PA X (e :: es) t)
    (hst : starEach (e :: es) X.env = (false, eval e X.env) :: starEach es X.env := by rfl) (hpl : (backTo pos (starEach es X.env)).any (·.1) = false := by rfl)
    (ht : eval (.Call (.Attribute o m apos) (e :: es) [] pos) X.env = (do
      let ov ← eval o X.env
      standAt apos.atName
      let (f, first) ← holding [ov] (getMethod ov m pl)
      callWith pos f first (backTo pos (starEach (e :: es) X.env)) (backToKw pos (keywordEach [] X.env))) := by rfl) :
    PE X (.Call (.Attribute o m apos) (e :: es) [] pos) (tSMeth C sp E ta t) := by
  obtain ⟨mc, p, g, fd, ps, S, F, hb⟩ := G.ex
  exact pe_smeth he S F hr hb hx ha hst hpl ht
end
section
variable {X : Cx}
theorem call_int1i : CallR X (.type "int") (fun xs H Q => ∃ i, xs = [.int i] ∧ Q (.int i) H) := fun pins s σ H xs us Q I r h => call_int1 pins s σ H xs us Q I r (.inl h)
theorem call_int1b : CallR X (.type "int") (fun xs H Q => ∃ k, xs = [.bl k] ∧ Q (.int (if k then 1 else 0)) H) := fun pins s σ H xs us Q I r h => call_int1 pins s σ H xs us Q I r (.inr h)
end
theorem cmL {i j : Int} (h : -(2 ^ 64) < i ∧ i < 2 ^ 64) : CMul i j := .inl h
theorem cmR {i j : Int} (h : -(2 ^ 64) < j ∧ j < 2 ^ 64) : CMul i j := .inr h
end Sp
end
section
set_option linter.all false
namespace Sp
/-! ### ratios as Lean's own -/
def Sz (q : Rat) (n : Nat) : Prop := q.num.natAbs < 2 ^ n ∧ q.den < 2 ^ n
theorem dvd_g1 (a b : Int) : ((Nat.gcd a.natAbs b.natAbs : Nat) : Int) ∣ a := Int.gcd_dvd_left (a := a) (b := b)
theorem dvd_g2 (a b : Int) : ((Nat.gcd a.natAbs b.natAbs : Nat) : Int) ∣ b := Int.gcd_dvd_right (a := a) (b := b)
/-- the divisor that Ratio's __init__ takes -/
def comm (a b : Int) : Int := if 0 < b then ((Nat.gcd a.natAbs b.natAbs : Nat) : Int) else -((Nat.gcd a.natAbs b.natAbs : Nat) : Int)
theorem comm_ne {a b : Int} (h : b ≠ 0) : comm a b ≠ 0 := by
  unfold comm
  have : Nat.gcd a.natAbs b.natAbs ≠ 0 := by
    intro z
    have := (Nat.gcd_eq_zero_iff.mp z).2
    omega
  split <;> omega
theorem comm_le {a b : Int} (h : b ≠ 0) : (comm a b).natAbs ≤ b.natAbs := by
  have := Nat.gcd_le_right a.natAbs (show 0 < b.natAbs by omega)
  unfold comm
  split <;> omega
theorem comm_num {a b : Int} (h : b ≠ 0) : a.fdiv (comm a b) = (Rat.divInt a b).num := by
  rw [Rat.num_divInt]
  have hg : (b.gcd a : Nat) = Nat.gcd a.natAbs b.natAbs := by rw [Int.gcd, Nat.gcd_comm]
  rw [hg]
  have d := dvd_g1 a b
  unfold comm
  split
  · rename_i hb
    rw [Int.sign_eq_one_of_pos hb, Int.one_mul, Int.fdiv_eq_ediv_of_dvd d]
  · rw [Int.sign_eq_neg_one_of_neg (by omega), Int.fdiv_eq_ediv_of_dvd (Int.neg_dvd.mpr d), Int.ediv_neg]
    rw [show (-1 : Int) * a = -a by omega, Int.neg_ediv_of_dvd d]
theorem comm_den {a b : Int} (h : b ≠ 0) : b.fdiv (comm a b) = (Rat.divInt a b).den := by
  rw [Rat.den_divInt, if_neg h]
  have hg : (b.gcd a : Nat) = Nat.gcd a.natAbs b.natAbs := by rw [Int.gcd, Nat.gcd_comm]
  rw [hg]
  have d := dvd_g2 a b
  unfold comm
  split
  · rename_i hb
    rw [Int.fdiv_eq_ediv_of_dvd d]
    have : b = (b.natAbs : Int) := by omega
    generalize Nat.gcd a.natAbs b.natAbs = g
    rw [Int.natCast_ediv, ← this]
  · rename_i hb
    rw [Int.fdiv_eq_ediv_of_dvd (Int.neg_dvd.mpr d), Int.ediv_neg, ← Int.neg_ediv_of_dvd d]
    have : -b = (b.natAbs : Int) := by omega
    rw [this, Int.natCast_ediv]
theorem sz_divInt {a b : Int} {n : Nat} (h : b ≠ 0) (ha : a.natAbs < 2 ^ n) (hb : b.natAbs < 2 ^ n) : Sz (Rat.divInt a b) n := by
  refine ⟨?_, ?_⟩
  · rw [Rat.num_divInt]
    have : (b.sign * a / ((b.gcd a : Nat) : Int)).natAbs ≤ (b.sign * a).natAbs := Int.natAbs_ediv_le_natAbs _ _
    have h2 : (b.sign * a).natAbs = a.natAbs := by rw [Int.natAbs_mul, Int.natAbs_sign, if_neg h]; omega
    omega
  · rw [Rat.den_divInt, if_neg h]
    have := Nat.div_le_self b.natAbs (b.gcd a)
    omega
theorem nb_mul {x y : Int} {a b : Nat} (hx : x.natAbs < 2 ^ a) (hy : y.natAbs < 2 ^ b) : (x * y).natAbs < 2 ^ (a + b) := by
  rw [Int.natAbs_mul, Nat.pow_add]
  exact Nat.mul_lt_mul'' hx hy
theorem nb_add {x y : Int} {a b n : Nat} (hx : x.natAbs < 2 ^ a) (hy : y.natAbs < 2 ^ b) (ha : a + 1 ≤ n := by omega) (hb : b + 1 ≤ n := by omega) : (x + y).natAbs < 2 ^ n := by
  have h1 : 2 ^ a ≤ 2 ^ (n - 1) := Nat.pow_le_pow_right (by decide) (by omega)
  have h2 : 2 ^ b ≤ 2 ^ (n - 1) := Nat.pow_le_pow_right (by decide) (by omega)
  have h3 : 2 ^ n = 2 ^ (n - 1) + 2 ^ (n - 1) := by
    obtain ⟨m, rfl⟩ : ∃ m, n = m + 1 := ⟨n - 1, by omega⟩
    rw [Nat.add_sub_cancel, Nat.pow_succ]
    omega
  omega
theorem nb_neg {x : Int} {a : Nat} (hx : x.natAbs < 2 ^ a) : (-x).natAbs < 2 ^ a := by omega
theorem nb_sub {x y : Int} {a b n : Nat} (hx : x.natAbs < 2 ^ a) (hy : y.natAbs < 2 ^ b) (ha : a + 1 ≤ n := by omega) (hb : b + 1 ≤ n := by omega) : (x - y).natAbs < 2 ^ n := by
  rw [Int.sub_eq_add_neg]
  exact nb_add hx (nb_neg hy) ha hb
theorem nb_le {x : Int} {a n : Nat} (hx : x.natAbs < 2 ^ a) (h : a ≤ n := by omega) : x.natAbs < 2 ^ n := Nat.lt_of_lt_of_le hx (Nat.pow_le_pow_right (by decide) h)
theorem Sz.mono {q : Rat} {m n : Nat} (h : Sz q m) (l : m ≤ n := by omega) : Sz q n := ⟨nb_le h.1 l, Nat.lt_of_lt_of_le h.2 (Nat.pow_le_pow_right (by decide) l)⟩
theorem Sz.d {q : Rat} {n : Nat} (h : Sz q n) : ((q.den : Nat) : Int).natAbs < 2 ^ n := by have := h.2; omega
theorem den_ne (q : Rat) : ((q.den : Nat) : Int) ≠ 0 := by have := q.den_nz; omega
theorem add_eq (p q : Rat) : Rat.divInt (p.num * q.den + q.num * p.den) (p.den * q.den) = p + q := by
  rw [← Rat.divInt_add_divInt _ _ (den_ne p) (den_ne q), Rat.num_divInt_den, Rat.num_divInt_den]
theorem sub_eq (p q : Rat) : Rat.divInt (p.num * q.den - q.num * p.den) (p.den * q.den) = p - q := by
  rw [← Rat.divInt_sub_divInt _ _ (den_ne p) (den_ne q), Rat.num_divInt_den, Rat.num_divInt_den]
theorem mul_eq (p q : Rat) : Rat.divInt (p.num * q.num) (p.den * q.den) = p * q := by
  rw [← Rat.divInt_mul_divInt, Rat.num_divInt_den, Rat.num_divInt_den]
theorem dd_ne (p q : Rat) : ((p.den : Nat) : Int) * ((q.den : Nat) : Int) ≠ 0 := Int.mul_ne_zero (den_ne p) (den_ne q)
theorem sz_add {p q : Rat} {m n k : Nat} (hp : Sz p m) (hq : Sz q n) (h : m + n + 1 ≤ k := by omega) : Sz (p + q) k := by
  rw [← add_eq]
  exact sz_divInt (dd_ne p q) (nb_add (nb_mul hp.1 hq.d) (nb_mul hq.1 hp.d)) (nb_le (nb_mul hp.d hq.d))
theorem sz_sub {p q : Rat} {m n k : Nat} (hp : Sz p m) (hq : Sz q n) (h : m + n + 1 ≤ k := by omega) : Sz (p - q) k := by
  rw [← sub_eq]
  exact sz_divInt (dd_ne p q) (nb_sub (nb_mul hp.1 hq.d) (nb_mul hq.1 hp.d)) (nb_le (nb_mul hp.d hq.d))
theorem sz_mul {p q : Rat} {m n k : Nat} (hp : Sz p m) (hq : Sz q n) (h : m + n ≤ k := by omega) : Sz (p * q) k := by
  rw [← mul_eq]
  exact sz_divInt (dd_ne p q) (nb_le (nb_mul hp.1 hq.1)) (nb_le (nb_mul hp.d hq.d))
theorem sz_int {i : Int} {n : Nat} (h : i.natAbs < 2 ^ n) (h0 : 1 ≤ n := by omega) : Sz (i : Rat) n := by
  refine ⟨by rw [Rat.num_intCast]; exact h, ?_⟩
  rw [Rat.den_intCast]
  exact Nat.lt_of_lt_of_le (by decide : 1 < 2 ^ 1) (Nat.pow_le_pow_right (by decide) h0)
theorem divInt_one (i : Int) : Rat.divInt i 1 = (i : Rat) := by
  rw [Rat.divInt_eq_div]
  show (i : Rat) / ((1 : Int) : Rat) = i
  rw [Rat.intCast_one]
  grind
/-- what a ratio that stands for a / b says -/
theorem is_pair {q : Rat} {a b : Int} (h : b ≠ 0) (e : q = Rat.divInt a b) : q.num * b = a * q.den := by
  have : Rat.divInt q.num q.den = Rat.divInt a b := by rw [Rat.num_divInt_den, e]
  exact (Rat.divInt_eq_divInt_iff (den_ne q) h).mp this
theorem div_eq {a b : Int} : Rat.divInt a b = (a : Rat) / (b : Rat) := Rat.divInt_eq_div a b
theorem below_eq (p q : Rat) : decide ((p.num * q.den - q.num * p.den).sign < 0) = decide (p < q) := by
  rw [decide_eq_decide, Rat.lt_iff, Int.sign_neg_iff]
  omega
def qabs (q : Rat) : Rat := if q < 0 then -q else q
theorem num_neg (q : Rat) : q.num < 0 ↔ q < 0 := by
  rw [Rat.lt_iff]
  simp
theorem qabs_eq (q : Rat) : Rat.divInt (if q.num < 0 then -q.num else q.num) q.den = qabs q := by
  unfold qabs
  by_cases h : q < 0
  · rw [if_pos h, if_pos ((num_neg q).mpr h), ← Rat.neg_divInt, Rat.num_divInt_den]
  · rw [if_neg h, if_neg (fun z => h ((num_neg q).mp z)), Rat.num_divInt_den]
theorem req (p q : Rat) : p = q ↔ p.num = q.num ∧ ((p.den : Nat) : Int) = ((q.den : Nat) : Int) := by
  constructor
  · intro h
    subst h
    exact ⟨rfl, rfl⟩
  · intro ⟨a, b⟩
    exact Rat.ext a (by omega)
theorem num_pos {q : Rat} : 0 < q.num ↔ 0 < q := by
  rw [Rat.lt_iff]
  simp
theorem sz_abs {q : Rat} {n : Nat} (h : Sz q n) : Sz (qabs q) n := by
  rw [← qabs_eq]
  refine sz_divInt (den_ne q) ?_ h.d
  have := h.1
  split <;> omega
end Sp
end
section
set_option Elab.async false
set_option linter.all false
set_option maxRecDepth 100000
set_option maxHeartbeats 4000000
namespace Sp
open PySem PySem.Spec PyProof.Rows L2
section
variable {X : Cx}
/-- xs[i] as it is read ahead of xs[i] op= e -/
theorem get_list : PGet X (rIxL X.K) := by
  intro pins s σ H x y v u Q I rx ry h
  obtain ⟨p, xs, i, z, rfl, rfl, hq, he, q⟩ := h
  cases rx
  obtain ⟨t, rfl⟩ := ry
  obtain ⟨its, r, pl, hz⟩ := I.list hq
  obtain ⟨j, h1, h2, h3, h4, h5⟩ := atI_get he
  obtain ⟨w, ew, rw'⟩ := r.get h2
  have hl := r.length
  have hn := line63
  have fin : EP X pins σ Q w s := ⟨z, H, I, rw', q⟩
  by_cases h0 : 0 ≤ i
  · have hj : i.toNat = j := by
      rw [seqIndex_of h0 h5] at h1
      exact Option.some.inj h1
    exact wpAny_getItem_list pl.isList h0 (by omega) (by rw [hj]; simpa using ew) fin
  · have hj : (i + (its.toArray.size : Int)).toNat = j := by
      rw [seqIndex_neg (by omega) h4] at h1
      rw [List.size_toArray, ← hl]
      exact Option.some.inj h1
    exact wpAny_getItem_list_neg pl.isList (by omega) (by rw [List.size_toArray] <;> omega) (by omega) (by rw [hj]; simpa using ew) fin
end
/-! ### f(k = v, ..) -/
section
variable {X : Cx} {CX : CXT} {k : Nat} {f : Addr} {fd : FuncData} {ps ks : List Str} {sp : Sp} {E : XK} {g : List Value → List Value → List Value} {gV : List V → List V → List V}
theorem pe_callK0 {x : Str} {p pos : Pos} {kws : List Keyword} {tk : TA} (F : FnOk X.prog X.w X.K X.mg X.base CX k f fd ps sp) (hr : Room k X.A) (hg : Gl X x) (hm : X.mg x = some (.ref f)) (hk : PySem.W.keepIn X.K (.ref f) = true) (hb : KBinds X.K fd ps ks g gV) (hx : Passes CX X E)
    (hkw : PK X kws tk) (hall : (backToKw pos (keywordEach kws X.env)).all (·.1.isSome) = true := by rfl) (hks : (backToKw pos (keywordEach kws X.env)).filterMap (·.1) = ks := by rfl)
    (hdb : (x == ("__debug__" : Str)) = false := by decide) (hpl : ((backTo pos (starEach [] X.env)).any (·.1) || (backToKw pos (keywordEach kws X.env)).any (·.1.isNone)) = false := by rfl) :
    PE X (.Call (.Name x p) [] kws pos) (fun σ H Q => tk σ H fun zs H2 => sp (gV [] zs) H2 Q E) := by
  refine ⟨fun pins s σ H Q I h => ?_⟩
  refine wpAny_Call_Name_kw (ld_glob I hg hm ?_ hdb)
  refine PySem.W.callWith_KW0 (first := []) (h₀ := X.base) I.ok.mod.kin hk hall (thn (hkw.run pos pins _ σ H _ I h) fun ws s2 ⟨zs, H2, I2, rz, q2⟩ => ⟨I2.kIn, ?_⟩) hpl
  rw [hks]
  exact run_fnk (us := []) (vs := []) F hr hb hx I2 .nil rz q2
/-- the keywords' values stand for the parameters by pick -/
def gk (n : Nat) (pick : List Nat) {α : Type} (us ws : List α) : List α := if us.length = 0 ∧ ws.length = n then pick.filterMap fun i => ws[i]? else []
theorem vals_pick {vs : List V} {us : List Value} (r : Vals vs us) : ∀ l : List Nat, Vals (l.filterMap fun i => vs[i]?) (l.filterMap fun i => us[i]?)
  | [] => .nil
  | i :: l => by
    have hl := r.length
    by_cases h : i < vs.length
    · obtain ⟨w, e, rw'⟩ := r.get (List.getElem?_eq_getElem h)
      rw [List.filterMap_cons, List.filterMap_cons, e, List.getElem?_eq_getElem h]
      exact .cons rw' (vals_pick r l)
    · rw [List.filterMap_cons, List.filterMap_cons, List.getElem?_eq_none (by omega), List.getElem?_eq_none (by omega)]
      exact vals_pick r l
theorem gk_rel {n : Nat} {pick : List Nat} {vs : List V} {us : List Value} {zs : List V} {ws : List Value} (r : Vals vs us) (q : Vals zs ws) : Vals (gk n pick vs zs) (gk n pick us ws) := by
  unfold gk
  rw [r.length, q.length]
  split
  · exact vals_pick q pick
  · exact .nil
structure GDK (P : Program) (w : World) (K : PySem.W.Frag) (mg : Str → Option Value) (base : Heap) (CX : CXT) (k : Nat) (x : Str) (ks : List Str) (n : Nat) (pick : List Nat) (sp : Sp) : Prop where
  ex : ∃ (f : Addr) (fd : FuncData) (ps : List Str), FnOk P w K mg base CX k f fd ps sp ∧ mg x = some (.ref f) ∧ PySem.W.keepIn K (.ref f) = true ∧ KBinds K fd ps ks (gk n pick) (gk n pick)
theorem pe_gdk {x : Str} {p pos : Pos} {kws : List Keyword} {tk : TA} {n : Nat} {pick : List Nat} (G : GDK X.prog X.w X.K X.mg X.base CX k x ks n pick sp) (hr : Room k X.A) (hg : Gl X x) (hx : Passes CX X E)
    (hkw : PK X kws tk) (hall : (backToKw pos (keywordEach kws X.env)).all (·.1.isSome) = true := by rfl) (hks : (backToKw pos (keywordEach kws X.env)).filterMap (·.1) = ks := by rfl)
    (hdb : (x == ("__debug__" : Str)) = false := by decide) (hpl : ((backTo pos (starEach [] X.env)).any (·.1) || (backToKw pos (keywordEach kws X.env)).any (·.1.isNone)) = false := by rfl) :
    PE X (.Call (.Name x p) [] kws pos) (fun σ H Q => tk σ H fun zs H2 => sp (gk n pick [] zs) H2 Q E) := by
  obtain ⟨f, fd, ps, F, hm, hk, hb⟩ := G.ex
  exact pe_callK0 F hr hg hm hk hb hx hkw hall hks hdb hpl
end
section
variable {K : PySem.W.Frag} {f : Addr} {fd : FuncData} {x qual : Str} {params : Arguments} {body : List Stmt} {scope : Scope} {ps : List Str}
theorem gk_1 {k1 : Str} (F : FunD K x qual params body scope [] [] f fd) (hl : ps.length = 1)
    (h : ∀ (kV doc pm : Value) (an : Option Addr) (cdv ct u : Value), bindArgs (PySem.W.fnOf x qual params body scope .none kV doc pm an cdv ct) ⟨[], [(k1, u)]⟩ = pure (ps.zip [u])) : KBinds K fd ps [k1] (gk 1 [0]) (gk 1 [0]) := by
  refine ⟨fun s us ws hK hlen => ?_, fun {vs us zs ws} r q => gk_rel r q⟩
  obtain ⟨oc, od, dV, kV, doc, pm, an, cdv, ct, osl, rfl, lk, hcd, hD, hKw⟩ := F.ex
  rw [hl] at hlen
  unfold gk at hlen ⊢
  by_cases hc : us.length = 0 ∧ ws.length = 1
  · rw [if_pos hc]
    match us, ws, hc with
    | [], [u], _ =>
      rcases hD with ⟨_, rfl⟩ | ⟨e, _⟩
      · exact .of_eq (h kV doc pm an cdv ct u)
      · exact absurd rfl e
  · rw [if_neg hc] at hlen
    cases hlen
theorem gk_2 {k1 k2 : Str} {i j : Nat} (F : FunD K x qual params body scope [] [] f fd) (hl : ps.length = 2)
    (h : ∀ (kV doc pm : Value) (an : Option Addr) (cdv ct u v : Value), bindArgs (PySem.W.fnOf x qual params body scope .none kV doc pm an cdv ct) ⟨[], [(k1, u), (k2, v)]⟩ = pure (ps.zip ([i, j].filterMap fun i => [u, v][i]?))) : KBinds K fd ps [k1, k2] (gk 2 [i, j]) (gk 2 [i, j]) := by
  refine ⟨fun s us ws hK hlen => ?_, fun {vs us zs ws} r q => gk_rel r q⟩
  obtain ⟨oc, od, dV, kV, doc, pm, an, cdv, ct, osl, rfl, lk, hcd, hD, hKw⟩ := F.ex
  rw [hl] at hlen
  unfold gk at hlen ⊢
  by_cases hc : us.length = 0 ∧ ws.length = 2
  · rw [if_pos hc]
    match us, ws, hc with
    | [], [u, v], _ =>
      rcases hD with ⟨_, rfl⟩ | ⟨e, _⟩
      · exact .of_eq (h kV doc pm an cdv ct u v)
      · exact absurd rfl e
  · rw [if_neg hc] at hlen
    cases hlen
end
theorem mono_ne {i : Nat} {v : V} : ∀ (σ : L2.St) (H : Hp) (Q Q' : Bool → Hp → Prop), (∀ (b : Bool) (H1 : Hp), Q b H1 → Q' b H1) → tTest (tOp rNe (tVar i) (tC v)) σ H Q → tTest (tOp rNe (tVar i) (tC v)) σ H Q' := by
  rintro σ H Q Q' hq ⟨x, e, sc, k, hk, h⟩
  exact ⟨x, e, sc, k, hk, hq _ _ h⟩
theorem ixN_zero (n : Nat) : ixN (n + 1) 0 = some 0 := by
  unfold ixN
  rw [if_pos (by decide), if_pos (by omega)]
  rfl
theorem ixN_last (n : Nat) : ixN (n + 1) (-1) = some n := by
  unfold ixN
  rw [if_neg (by decide), if_pos (by omega)]
  congr 1
  omega
theorem eqv_ints : ∀ a b : List Int, PyData.eqv (.list (a.map PyData.int)) (.list (b.map PyData.int)) = decide (a = b)
  | [], [] => rfl
  | [], _ :: _ => rfl
  | _ :: _, [] => rfl
  | x :: a, y :: b => by
    have h := eqv_ints a b
    show ((x == y) && PyData.eqv (.list (a.map PyData.int)) (.list (b.map PyData.int))) = _
    rw [h]
    by_cases e : x = y <;> by_cases e' : a = b <;> simp [e, e']
theorem eqv_intsT (a b : List Int) : PyData.eqv (.tuple (a.map PyData.int)) (.tuple (b.map PyData.int)) = decide (a = b) := eqv_ints a b
theorem for_enum {K : PySem.W.Frag} {a : Addr} {xs : List V} {g : TG} {tb : TS} {D : Ends} {σ : L2.St} {H : Hp} (Pv : Nat → L2.St → Hp → Prop) (h0 : Pv 0 σ H) (hl : ∀ i σ H, i ≤ xs.length → Pv i σ H → SqL K H a xs)
    (hs : ∀ i x σ H T, xs[i]? = some x → Pv i σ H → H T = none → g (.ref T) σ (upd H T (.tup [.int (i : Nat), x])) fun σ2 H2 => tb { D with nx := Pv (i + 1), ct := Pv (i + 1), bk := D.nx } σ2 H2) (hd : ∀ σ H, Pv xs.length σ H → D.nx σ H) :
    ∃ W : Nat → Nat → L2.St → Hp → Prop, (∃ m, W 0 m σ H) ∧ ∀ i m σ H, W i m σ H →
      ((Ite K a).stop i H ∧ D.nx σ H) ∨ ((Ite K a).go i H ∧ ∃ N : L2.St → Hp → Prop, (∀ σ' H', N σ' H' → ∃ m', m' < m ∧ W (i + 1) m' σ' H') ∧ ∀ x H', (Ite K a).yld i H x H' → g x σ H' fun σ2 H2 => tb { D with nx := N, ct := N, bk := D.nx } σ2 H2) := by
  refine ⟨fun i m σ H => m = xs.length - i ∧ i ≤ xs.length ∧ Pv i σ H, ⟨xs.length, by simp, Nat.zero_le _, h0⟩, ?_⟩
  rintro i m σ H ⟨rfl, hi, p⟩
  have q := hl i σ H hi p
  by_cases hlt : i < xs.length
  · refine .inr ⟨⟨xs, xs[i], q, by simp [hlt]⟩, Pv (i + 1), fun σ' H' p' => ⟨xs.length - (i + 1), by omega, rfl, hlt, p'⟩, fun x H' y => ?_⟩
    obtain ⟨T, z, rfl, hT, rfl, hz⟩ := y
    exact hs i z σ H T (hz xs q) p hT
  · have e : i = xs.length := by omega
    subst e
    exact .inl ⟨⟨xs, q, Nat.le_refl _⟩, hd σ H p⟩
theorem in3 (i : Nat) (h : i < 5) : inV (V.int (i : Int)) [.int 0, .int 2, .int 4] = decide (i % 2 = 0) := by
  match i, h with
  | 0, _ => rfl
  | 1, _ => rfl
  | 2, _ => rfl
  | 3, _ => rfl
  | 4, _ => rfl
theorem dp_bls {K : PySem.W.Frag} {H : Hp} (bs : List Bool) : DpAll K H (bs.map V.bl) (bs.map PyData.bool) := by
  induction bs with
  | nil => exact .nil
  | cons c cs ih => exact .cons (.bl c) ih
theorem shaped_bls (bs : List Bool) : SeqAt.shaped (.list (bs.map PyData.bool)) = true := by
  induction bs with
  | nil => rfl
  | cons c cs ih => exact ih
theorem eqr {d : PyData} (h : SeqAt.shaped d = true) : PyData.eqv d d = true := SeqAt.eqv_refl d (SeqAt.canLay_of_shaped h)
/-- a word at which the reading stops -/
structure Bx (p : Prop) : Prop where
  out : p
theorem in11 (x : Int) : inV (V.int x) [.int 1, .int (-1)] = decide (x.natAbs = 1) := by
  show ((decide ((1 : Int) = x)) || ((decide ((-1 : Int) = x)) || false)) = _
  rw [Bool.or_false]
  by_cases h : x = 1
  · subst h
    rfl
  · by_cases h' : x = -1
    · subst h'
      rfl
    · rw [decide_eq_false (fun e => h e.symm), decide_eq_false (fun e => h' e.symm), decide_eq_false (by omega)]
      rfl
end Sp
end
section
set_option Elab.async false
set_option linter.all false
set_option maxRecDepth 100000
set_option maxHeartbeats 4000000
namespace Sp
open PySem PySem.Spec PyProof.Rows L2
section
variable {prog : Program} {w : World} {M : Model} {A : Around} {E : Value → Shared → Prop} {s : Shared} {K : PySem.W.Frag} {x C f : Addr} {ox : Obj} {od : Option Obj} {name : Str} {id : String}
theorem ifBound_B {args : List Value} {Q : Option Value → Shared → Prop} (X : K.In s.heap) (I : PySem.W.InstAt s.heap x ox C od) (hs : PySem.W.findIn K (.ref C) name = some (some (.builtin id)))
    (hb : ∀ self, bindSpecial (.builtin id) self = pure (.builtin id, [self])) (h : wpAny M A (call (.builtin id) (.ref x :: args)) (fun v => Q (some v)) E s) : wpAny M A (callSpecialIfBound? (.ref x) name args) Q E s := by
  simp only [callSpecialIfBound?, bindSpecialIfBound?]
  refine wpAny_holding (wpAny_bind (wpAny_bind (wpAny_bind (I.type.here ((PySem.W.looks_findIn X hs).here ?_)))))
  refine wpAny_bind (wpAny_askSetting (wpAny_ite ?_))
  have fin : wpAny M A (call (.builtin id) ([.ref x] ++ args) >>= fun v => pure (some v)) Q E s := wpAny_bind (wpAny_mono h (fun v s' h' => wpAny_pure h') fun _ _ h' => h')
  split
  · exact wpAny_bind ((PySem.W.Looks.of_pure (hb _)).here (wpAny_pure (by exact fin)))
  · exact wpAny_tryCatch (wpAny_bind ((PySem.W.Looks.of_pure (hb _)).here (wpAny_pure (by exact fin))))
end
/-- x != y by the class's own __eq__ -/
def rNeOwn (K : PySem.W.Frag) (C : Addr) (sp : Sp) (E : XK) : R2 := fun x y H Q => ∃ a dx fs t, x = .ref a ∧ H a = some (.ins C dx fs) ∧ TyX K H y t ∧ PySem.W.notFirst K C t = true ∧ sp [x, y] H (fun v H' => ∃ b, v = .bl b ∧ Q (.bl (!b)) H') E
section
variable {X : Cx} {CX : CXT} {k : Nat} {C g : Addr} {fd : FuncData} {ps : List Str} {sp : Sp} {E : XK}
open Builtin in
theorem op_neOwn (hn : PySem.W.findIn X.K (.ref C) "__ne__" = some (some (.builtin "object.__ne__"))) (hmo : PySem.W.mroIn X.K C (.type "object") = some true) (hs : PySem.W.findIn X.K (.ref C) "__eq__" = some (some (.ref g))) (hf : PySem.W.isFn X.K (.ref g) = true)
    (F : FnOk X.prog X.w X.K X.mg X.base CX k g fd ps sp) (hr : Room (k + 1) X.A) (hb : Binds X.K fd ps []) (hx : Passes CX X E) : OpR X (compareOp .NotEq) (rNeOwn X.K C sp E) := by
  intro pins s σ H x y v u Q I rx ry h
  obtain ⟨a, dx, fs, t, rfl, ha, ty, hnf, q⟩ := h
  cases (show v = Value.ref a from rx)
  obtain ⟨mA, J, _⟩ := ins_get I.hok ha
  obtain ⟨od, J, _⟩ := J.look
  have X0 : X.K.In s.heap := I.kIn
  have one : wpAny (model X.prog X.w) X.A (tryCompare (.ref a) "__ne__" u) (fun r s' => ∃ v, r = some v ∧ EP X pins σ Q v s') X.xe s := by
    unfold tryCompare
    refine wpAny_bind (ifBound_B X0 J hn PySem.F.cmp_object.ne.bind ?_)
    refine wpAny_call (codeAny_call_builtin PySem.F.cmp_object.ne.plain PySem.F.cmpEntry_ne (PySem.W.check_slot (i := "object.__ne__") (owner := "object") (n := "__ne__") PySem.F.cmpKind_ne PySem.F.cmpSplit_ne (J.type.andThen (PySem.W.looks_mroIn X0 hmo)) (PySem.F.cmpArgs_ne _ _) ?_))
    unfold Builtin.«object.__ne__»
    refine wpAny_bind (m := slotArgs "__ne__" 1 _) (wpAny_pure ?_)
    refine wpAny_bind (m := cRoomFor _ _) (wpAny_cRoomFor hr.in1.units0 ?_)
    refine wpAny_bind (m := callSpecialIfBound? (.ref a) (Str.ofString "__eq__") _) (PySem.W.ifBound_K X0 J hs hf (wpAny_mono (run_in1 (us := [.ref a, u]) (vs := [.ref a, y]) F hr hb hx I (.cons rfl (.cons ry .nil)) q) (fun v s' z => ?_) fun _ _ e => e))
    obtain ⟨v', H', I', rv, b, rfl, qb⟩ := z
    cases (show v = Value.bool b from rv)
    refine wpAny_bind (m := truthy (.bool b)) (wpAny_truthy_bool ?_)
    exact wpAny_pure (wpAny_pure ⟨_, rfl, .bl (!b), H', I', rfl, qb⟩)
  show wpAny (model X.prog X.w) X.A (richCompare .NotEq (.ref a) u) (EP X pins σ Q) X.xe s
  unfold richCompare
  simp only [oneThing_ref]
  refine wpAny_holding (wpAny_bind (wpAny_cRoomFor hr.units0 ?_))
  refine wpAny_bind (J.type.here (wpAny_bind ((ty_looks I ry ty).here ?_)))
  split
  · rename_i q
    have e : PySem.W.subIn X.K t (.ref C) = some false := by
      rcases Bool.or_eq_true_iff.mp hnf with e | e
      · rw [beq_iff_eq.mp e] at q; simp at q
      · exact beq_iff_eq.mp e
    refine wpAny_bind ((PySem.W.looks_subIn X0 e).here ?_)
    simp only [Bool.false_eq_true, if_false]
    refine wpAny_bind (wpAny_mono one (fun r s' z => ?_) fun _ _ e => e)
    obtain ⟨v, rfl, hq⟩ := z
    exact wpAny_pure hq
  · refine wpAny_bind (wpAny_pure ?_)
    simp only [Bool.false_eq_true, if_false]
    refine wpAny_bind (wpAny_mono one (fun r s' z => ?_) fun _ _ e => e)
    obtain ⟨v, rfl, hq⟩ := z
    exact wpAny_pure hq
end
/-! ### a, b, .. = a list -/
section
variable {prog : Program} {w : World} {A : Around} {E : Value → Shared → Prop} {s : Shared}
theorem draw_lst {it t : Addr} {items : Array Value} (hne : t ≠ it) : ∀ (n i : Nat) (s : Shared) (Q : List Value → Shared → Prop), s.heap.IsListIter it t i → s.heap.IsList t items → i + n ≤ items.size →
    (∀ h' : Heap, h'.IsListIter it t (i + n) → Heap.SameBut it s.heap h' → Q ((items.toList.drop i).take n) { s with heap := h' }) → wpAny (model prog w) A (draw (.ref it) n) Q E s
  | 0, i, s, Q, hit, _, _, hQ => by
    show wpAny _ _ (pure []) Q E s
    exact wpAny_pure (by simpa using hQ s.heap hit (Heap.SameBut.refl ..))
  | n + 1, i, s, Q, hit, ht, hle, hQ => by
    have hlt : i < items.size := by omega
    show wpAny _ _ (pyNext (.ref it) >>= _) Q E s
    refine wpAny_bind (wpAny_pyNext_list_item hit ht (x := items[i]) (by simp [hlt]) fun h₁ hit₁ hs₁ => ?_)
    refine wpAny_bind (wpAny_holding (draw_lst hne n (i + 1) _ _ hit₁ (ht.extBut hs₁.extBut hne) (by omega) fun h₂ hit₂ hs₂ => wpAny_pure ?_))
    have hd : items.toList.drop i = items[i] :: items.toList.drop (i + 1) := by simp [List.drop_eq_getElem_cons, hlt]
    have := hQ h₂ (by rw [show i + (n + 1) = i + 1 + n by omega]; exact hit₂) (hs₁.trans hs₂)
    rw [hd, List.take_succ_cons] at this
    exact this
theorem unpackItems_lst {t : Addr} {items : Array Value} {Q : List Value → Shared → Prop} (hh : A.handled = none) (ht : s.heap.IsList t items)
    (hQ : ∀ h', Heap.ExtBut s.heap.objs.size s.heap h' → Q items.toList { s with heap := h' }) : wpAny (model prog w) A (unpackItems (.ref t) items.size none) Q E s := by
  have hlt : t ≠ s.heap.objs.size := by obtain ⟨o, ho, _⟩ := ht; exact Nat.ne_of_lt (Heap.lt_size ho)
  unfold unpackItems
  refine wpAny_bind ?_
  · unfold notIterableAtAll
    refine wpAny_bind (wpAny_specialOf ht.typeIs slot_list_iter.lookup ?_)
    refine wpAny_pure ?_
    simp only [Bool.false_eq_true, if_false]
    refine wpAny_bind (wpAny_holding (wpAny_pyIter_list ht ?_))
    refine wpAny_bind (wpAny_holding (draw_lst hlt items.size 0 _ _ ⟨_, Heap.get?_push_size _ rfl, rfl, rfl⟩ (ht.push _) (by omega) fun h₁ hit₁ hs₁ => ?_))
    have hall : List.take items.size (List.drop 0 items.toList) = items.toList := by
      rw [List.drop_zero]; exact List.take_of_length_le (by simp)
    rw [hall]
    rw [if_neg (by simp)]
    have ht₁ : h₁.IsList t items := (ht.push _).extBut hs₁.extBut hlt
    refine wpAny_bind (wpAny_holding (wpAny_pyNext_list_end hh hit₁ ht₁ (by simp) fun h₂ he₂ => ?_))
    simp only [Option.isSome_none, Bool.false_eq_true, if_false]
    refine wpAny_pure (hQ h₂ fun b o hb e => he₂ b o hb (hs₁.extBut b o hb (Heap.get?_push_of_some _ e)))
theorem assign_Tuple_lst {env : Env} {elts : List Expr} {x1} {pos : Pos} {t : Addr} {items : Array Value} {Q : Unit → Shared → Prop} (hh : A.handled = none) (ht : s.heap.IsList t items)
    (hn : (assignEach elts env).length = items.size) (hstar : (assignEach elts env).findIdx? (·.1) = none)
    (h : ∀ h', Heap.ExtBut s.heap.objs.size s.heap h' → wpAny (model prog w) A (assignInOrder ((assignEach elts env).map (·.2)) items.toList) Q E { s with heap := h' }) :
    wpAny (model prog w) A (assign (.Tuple elts x1 pos) env (.ref t)) Q E s := by
  rw [assign_Tuple]
  refine wpAny_bind (wpAny_standAt ?_)
  unfold unpack
  rw [hn, hstar]
  exact wpAny_bind (wpAny_holding (unpackItems_lst hh ht h))
end
def gTupL (K : PySem.W.Frag) (n : Nat) (t : TGs) : TG := fun v σ H Q => ∃ a xs, v = .ref a ∧ SqL K H a xs ∧ xs.length = n ∧ t xs σ H Q
section
variable {X : Cx}
theorem pg_tupL {es : List Expr} {k : Nat} {t : TGs} {n : Nat} {pos : Pos} (hc : X.calm = true) (h : PGs X es t)
    (hn : (assignEach es X.env).length = n := by rfl) (hst : (assignEach es X.env).findIdx? (·.1) = none := by rfl) : PG X (.Tuple es k pos) (gTupL X.K n t) := by
  refine ⟨fun pins s σ H v u Q I r hw => ?_⟩
  obtain ⟨a, xs, e1, hq, hl, hw⟩ := hw
  subst e1
  cases r
  obtain ⟨its, rv, ht, hz⟩ := I.list hq
  refine assign_Tuple_lst (I.ok.hd hc) ht.isList (by simp [hn, ← hl, rv.length]) hst fun h' hx => ?_
  have I1 : Inv X pins σ H { s with heap := h' } := I.kept (t' := s.toks) fun b o e => hx b o (Nat.ne_of_lt (Heap.lt_size e)) e
  exact h.run pins _ σ H xs _ Q I1 (by simpa using rv) hw
/-- x is True, of a number or None -/
theorem op_isTrue : OpR X (compareOp .Is) (fun x y H Q => y = .bl true ∧ (x = .non ∨ ∃ i, x = .int i) ∧ Q (.bl false) H) := by
  intro pins s σ H x y v u Q I rx ry h
  obtain ⟨rfl, h, q⟩ := h
  cases (show u = Value.bool true from ry)
  rcases h with rfl | ⟨i, rfl⟩
  · cases (show v = Value.none from rx)
    exact wpAny_is_other rfl (fun z => by cases z) ⟨.bl false, H, I, rfl, q⟩
  · obtain ⟨t, rfl⟩ := rx
    exact wpAny_is_other rfl (fun z => by cases z) ⟨.bl false, H, I, rfl, q⟩
end
/-! ### f(e, .., k = v, ..) -/
def gmix (a b : Nat) {α : Type} (us ws : List α) : List α := if us.length = a ∧ ws.length = b then us ++ ws else []
theorem vals_app {vs zs : List V} {us ws : List Value} (r : Vals vs us) (q : Vals zs ws) : Vals (vs ++ zs) (us ++ ws) := by
  induction r with
  | nil => exact q
  | cons h _ ih => exact .cons h ih
theorem gmix_rel {a b : Nat} {vs : List V} {us : List Value} {zs : List V} {ws : List Value} (r : Vals vs us) (q : Vals zs ws) : Vals (gmix a b vs zs) (gmix a b us ws) := by
  unfold gmix
  rw [r.length, q.length]
  split
  · exact vals_app r q
  · exact .nil
structure GDM (P : Program) (w : World) (K : PySem.W.Frag) (mg : Str → Option Value) (base : Heap) (CX : CXT) (k : Nat) (x : Str) (ks : List Str) (a b : Nat) (sp : Sp) : Prop where
  ex : ∃ (f : Addr) (fd : FuncData) (ps : List Str), FnOk P w K mg base CX k f fd ps sp ∧ mg x = some (.ref f) ∧ PySem.W.keepIn K (.ref f) = true ∧ KBinds K fd ps ks (gmix a b) (gmix a b)
section
variable {X : Cx} {CX : CXT} {k : Nat} {sp : Sp} {E : XK}
theorem pe_gdm {x : Str} {p pos : Pos} {e : Expr} {es : List Expr} {kws : List Keyword} {t tk : TA} {ks : List Str} {a b : Nat} (G : GDM X.prog X.w X.K X.mg X.base CX k x ks a b sp) (hr : Room k X.A) (hg : Gl X x) (hx : Passes CX X E)
    (ha : PA X (e :: es) t) (hkw : PK X kws tk) (hall : (backToKw pos (keywordEach kws X.env)).all (·.1.isSome) = true := by rfl) (hks : (backToKw pos (keywordEach kws X.env)).filterMap (·.1) = ks := by rfl)
    (hdb : (x == ("__debug__" : Str)) = false := by decide) (he : starEach (e :: es) X.env = (false, eval e X.env) :: starEach es X.env := by rfl)
    (hpl : ((backTo pos (starEach (e :: es) X.env)).any (·.1) || (backToKw pos (keywordEach kws X.env)).any (·.1.isNone)) = false := by rfl) :
    PE X (.Call (.Name x p) (e :: es) kws pos) (tCallK sp (gmix a b) E t tk) := by
  obtain ⟨f, fd, ps, F, hm, hk, hb⟩ := G.ex
  exact pe_callK F hr hg hm hk hb hx ha hkw hall hks hdb he hpl
end
section
variable {K : PySem.W.Frag} {f : Addr} {fd : FuncData} {x qual : Str} {params : Arguments} {body : List Stmt} {scope : Scope} {ps : List Str}
theorem gm_22 {k1 k2 : Str} (F : FunD K x qual params body scope [] [] f fd) (hl : ps.length = 4)
    (h : ∀ (kV doc pm : Value) (an : Option Addr) (cdv ct a b u v : Value), bindArgs (PySem.W.fnOf x qual params body scope .none kV doc pm an cdv ct) ⟨[a, b], [(k1, u), (k2, v)]⟩ = pure (ps.zip [a, b, u, v])) : KBinds K fd ps [k1, k2] (gmix 2 2) (gmix 2 2) := by
  refine ⟨fun s us ws hK hlen => ?_, fun {vs us zs ws} r q => gmix_rel r q⟩
  obtain ⟨oc, od, dV, kV, doc, pm, an, cdv, ct, osl, rfl, lk, hcd, hD, hKw⟩ := F.ex
  rw [hl] at hlen
  unfold gmix at hlen ⊢
  by_cases hc : us.length = 2 ∧ ws.length = 2
  · rw [if_pos hc]
    match us, ws, hc with
    | [a, b], [u, v], _ =>
      rcases hD with ⟨_, rfl⟩ | ⟨e, _⟩
      · exact .of_eq (h kV doc pm an cdv ct a b u v)
      · exact absurd rfl e
  · rw [if_neg hc] at hlen
    cases hlen
theorem gk_4 {k1 k2 k3 k4 : Str} (F : FunD K x qual params body scope [] [] f fd) (hl : ps.length = 4)
    (h : ∀ (kV doc pm : Value) (an : Option Addr) (cdv ct a b u v : Value), bindArgs (PySem.W.fnOf x qual params body scope .none kV doc pm an cdv ct) ⟨[], [(k1, a), (k2, b), (k3, u), (k4, v)]⟩ = pure (ps.zip [a, b, u, v])) : KBinds K fd ps [k1, k2, k3, k4] (gk 4 [0, 1, 2, 3]) (gk 4 [0, 1, 2, 3]) := by
  refine ⟨fun s us ws hK hlen => ?_, fun {vs us zs ws} r q => gk_rel r q⟩
  obtain ⟨oc, od, dV, kV, doc, pm, an, cdv, ct, osl, rfl, lk, hcd, hD, hKw⟩ := F.ex
  rw [hl] at hlen
  unfold gk at hlen ⊢
  by_cases hc : us.length = 0 ∧ ws.length = 4
  · rw [if_pos hc]
    match us, ws, hc with
    | [], [a, b, u, v], _ =>
      rcases hD with ⟨_, rfl⟩ | ⟨e, _⟩
      · exact .of_eq (h kV doc pm an cdv ct a b u v)
      · exact absurd rfl e
  · rw [if_neg hc] at hlen
    cases hlen
end
/-- != by __eq__ -/
structure GNe (P : Program) (w : World) (K : PySem.W.Frag) (mg : Str → Option Value) (base : Heap) (CX : CXT) (k : Nat) (C : Addr) (sp : Sp) : Prop where
  ne : PySem.W.findIn K (.ref C) "__ne__" = some (some (.builtin "object.__ne__"))
  mo : PySem.W.mroIn K C (.type "object") = some true
  eq : GN P w K mg base CX k C "__eq__" sp
theorem op_neGo {X : Cx} {CX : CXT} {k : Nat} {C : Addr} {sp : Sp} {E : XK} (G : GNe X.prog X.w X.K X.mg X.base CX k C sp) (hr : Room (k + 1) X.A) (hx : Passes CX X E) : OpR X (compareOp .NotEq) (rNeOwn X.K C sp E) := by
  obtain ⟨g, fd, ps, h1, h2, F, hb⟩ := G.eq.ex
  exact op_neOwn G.ne G.mo h1 h2 F hr hb hx
theorem mono_I0 {i : Nat} {v : V} {f : Int → Int → V} : ∀ (σ : L2.St) (H : Hp) (Q Q' : Bool → Hp → Prop), (∀ (b : Bool) (H1 : Hp), Q b H1 → Q' b H1) → tTest (tOp (rI0 f) (tVar i) (tC v)) σ H Q → tTest (tOp (rI0 f) (tVar i) (tC v)) σ H Q' := by
  rintro σ H Q Q' hq ⟨x, e, i, j, e1, e2, k, hk, h⟩
  exact ⟨x, e, i, j, e1, e2, k, hk, hq _ _ h⟩
theorem mono_gt : True := trivial
end Sp
end
section
set_option linter.all false
set_option exponentiation.threshold 5000
namespace Sp
/-! ### places -/
theorem flr_eq (q : Rat) : q.num.fdiv ((q.den : Nat) : Int) = q.floor := by
  rw [Rat.floor_def, Int.fdiv_eq_ediv_of_nonneg _ (by omega)]
def frac (q : Rat) : Rat := q - (q.floor : Rat)
theorem frac_nn (q : Rat) : 0 ≤ frac q := by
  have := Rat.floor_le q
  unfold frac
  grind
theorem frac_lt (q : Rat) : frac q < 1 := by
  have := Rat.lt_floor_add_one q
  rw [Rat.intCast_add, Rat.intCast_one] at this
  unfold frac
  grind
theorem floor_of {q : Rat} {n : Int} (h1 : (n : Rat) ≤ q) (h2 : q < (n : Rat) + 1) : q.floor = n := by
  have a : n ≤ q.floor := Rat.le_floor_iff.mpr h1
  have b : q.floor < n + 1 := Rat.floor_lt_iff.mpr (by rw [Rat.intCast_add, Rat.intCast_one]; exact h2)
  omega
theorem frac_add (q : Rat) (n : Int) : frac (q + (n : Rat)) = frac q := by
  unfold frac
  rw [Rat.floor_add_intCast, Rat.intCast_add]
  grind
theorem frac_eq {p q : Rat} : frac p = frac q ↔ ∃ n : Int, p = q + (n : Rat) := by
  constructor
  · intro h
    refine ⟨p.floor - q.floor, ?_⟩
    unfold frac at h
    rw [Rat.intCast_sub]
    grind
  · rintro ⟨n, rfl⟩
    exact frac_add q n
/-- a place: n left of it, a / b of a round on -/
theorem split_div {a b : Int} (hb : 0 < b) : Rat.divInt a b = Rat.divInt (a % b) b + ((a / b : Int) : Rat) := by
  have hb' : (b : Rat) ≠ 0 := by
    intro h
    have : b = 0 := by
      have := Rat.intCast_inj.mp (show ((b : Int) : Rat) = ((0 : Int) : Rat) from h)
      exact this
    omega
  rw [div_eq, div_eq]
  have e : (a : Rat) = (b : Rat) * ((a / b : Int) : Rat) + ((a % b : Int) : Rat) := by
    rw [← Rat.intCast_mul, ← Rat.intCast_add, Int.mul_ediv_add_emod]
  grind
theorem one_div : Rat.divInt 1 1 = 1 := rfl
theorem zero_div : Rat.divInt 0 1 = 0 := rfl
theorem di_lt_di {a b c d : Int} (hb : 0 < b) (hd : 0 < d) : Rat.divInt a b < Rat.divInt c d ↔ a * d < c * b := by
  have hb' : (0 : Rat) < (b : Rat) := Rat.intCast_pos.mpr hb
  have hd' : (0 : Rat) < (d : Rat) := Rat.intCast_pos.mpr hd
  have hbd : (0 : Rat) < (b : Rat) * (d : Rat) := by
    rw [← Rat.intCast_mul]
    exact Rat.intCast_pos.mpr (Int.mul_pos hb hd)
  rw [← Rat.mul_lt_mul_left hbd, div_eq, div_eq]
  have e1 : (b : Rat) * (d : Rat) * ((a : Rat) / (b : Rat)) = ((a * d : Int) : Rat) := by
    rw [Rat.intCast_mul]
    grind
  have e2 : (b : Rat) * (d : Rat) * ((c : Rat) / (d : Rat)) = ((c * b : Int) : Rat) := by
    rw [Rat.intCast_mul]
    grind
  rw [e1, e2]
  exact Rat.intCast_lt_intCast
theorem di_le_di {a b c d : Int} (hb : 0 < b) (hd : 0 < d) : Rat.divInt a b ≤ Rat.divInt c d ↔ a * d ≤ c * b := by
  rw [← Rat.not_lt, di_lt_di hd hb]
  omega
theorem divInt_lt_one {a b : Int} (hb : 0 < b) (h0 : 0 ≤ a) (h1 : a < b) : 0 ≤ Rat.divInt a b ∧ Rat.divInt a b < 1 := by
  rw [← zero_div, ← one_div, di_le_di (by decide) hb, di_lt_di hb (by decide)]
  omega
theorem floor_div {a b : Int} (hb : 0 < b) : (Rat.divInt a b).floor = a / b := by
  obtain ⟨h0, h1⟩ := divInt_lt_one hb (Int.emod_nonneg a (by omega)) (Int.emod_lt_of_pos a hb)
  rw [split_div hb, Rat.floor_add_intCast, floor_of (n := 0) (by rw [Rat.intCast_zero]; exact h0) (by rw [Rat.intCast_zero]; grind)]
  omega
theorem frac_div {a b : Int} (hb : 0 < b) : frac (Rat.divInt a b) = Rat.divInt (a % b) b := by
  unfold frac
  rw [floor_div hb]
  have := split_div (a := a) hb
  grind
theorem mul_int {a b : Int} (k : Int) : Rat.divInt a b * (k : Rat) = Rat.divInt (k * a) b := by
  rw [div_eq, div_eq, Rat.intCast_mul]
  grind
/-- the place of stud k at the turn p / q -/
theorem place_div {p q : Int} (hq : 0 < q) (k : Int) : frac (Rat.divInt p q * (k : Rat)) = Rat.divInt (k * p % q) q := by
  rw [mul_int, frac_div hq]
/-- two studs stand at one place just if the turn's bottom goes into what they are apart -/
theorem place_same (D : Rat) (i j : Int) : frac (D * (i : Rat)) = frac (D * (j : Rat)) ↔ ((D.den : Nat) : Int) ∣ i - j := by
  rw [frac_eq]
  have hd : (0 : Int) < (D.den : Nat) := by have := D.den_pos; omega
  have hd' : (((D.den : Nat) : Int) : Rat) ≠ 0 := by
    intro h
    have := Rat.intCast_inj.mp (show (((D.den : Nat) : Int) : Rat) = ((0 : Int) : Rat) from h)
    omega
  have eD : D * (((D.den : Nat) : Int) : Rat) = (D.num : Rat) := by
    have : D = Rat.divInt D.num D.den := (Rat.num_divInt_den D).symm
    rw [div_eq] at this
    grind
  constructor
  · rintro ⟨n, h⟩
    have e : (D.num : Rat) * ((i - j : Int) : Rat) = (n : Rat) * (((D.den : Nat) : Int) : Rat) := by
      rw [Rat.intCast_sub]
      grind
    rw [← Rat.intCast_mul, ← Rat.intCast_mul] at e
    have e := Rat.intCast_inj.mp e
    have c : Nat.Coprime D.den D.num.natAbs := D.reduced.symm
    have h1 : D.den ∣ D.num.natAbs * (i - j).natAbs := by
      have : ((D.den : Nat) : Int) ∣ D.num * (i - j) := ⟨n, by rw [e, Int.mul_comm]⟩
      have := Int.natAbs_dvd_natAbs.mpr this
      rw [Int.natAbs_mul] at this
      exact this
    have h2 := c.dvd_of_dvd_mul_left h1
    exact Int.natAbs_dvd_natAbs.mp h2
  · rintro ⟨n, h⟩
    refine ⟨D.num * n, ?_⟩
    have e : (i : Rat) = (j : Rat) + (((D.den : Nat) : Int) : Rat) * (n : Rat) := by
      rw [← Rat.intCast_mul, ← Rat.intCast_add]
      congr 1
      omega
    rw [Rat.intCast_mul, e]
    grind
/-- rounds put on -/
theorem push_eq (D : Rat) (t k : Int) : (D + (t : Rat)) * (k : Rat) = D * (k : Rat) + ((t * k : Int) : Rat) := by
  rw [Rat.intCast_mul]
  grind
/-- the nearest rounds of q -/
def nrs (q : Rat) : List Int := if frac q = Rat.divInt 1 2 then [q.floor, q.floor + 1] else if frac q < Rat.divInt 1 2 then [q.floor] else [q.floor + 1]
theorem nrs_add (q : Rat) (n : Int) : nrs (q + (n : Rat)) = (nrs q).map (· + n) := by
  unfold nrs
  rw [frac_add, Rat.floor_add_intCast]
  split
  · simp
    omega
  · split
    · simp
    · simp
      omega
/-- the first of 1 to n that P tells, or none -/
def IsFirst (P : Int → Prop) (n : Nat) (r : Option Int) : Prop := (∃ k : Int, r = some k ∧ 1 ≤ k ∧ k ≤ n ∧ P k ∧ ∀ j : Int, 1 ≤ j → j < k → ¬ P j) ∨ (r = none ∧ ∀ j : Int, 1 ≤ j → j ≤ n → ¬ P j)
theorem IsFirst.uniq {P P' : Int → Prop} {n : Nat} {r r' : Option Int} (h : IsFirst P n r) (h' : IsFirst P' n r') (e : ∀ k, 1 ≤ k → (P k ↔ P' k)) : r = r' := by
  rcases h with ⟨k, rfl, a1, a2, a3, a4⟩ | ⟨rfl, a⟩ <;> rcases h' with ⟨k', rfl, b1, b2, b3, b4⟩ | ⟨rfl, b⟩
  · have h1 : ¬ k < k' := fun z => b4 k a1 z ((e k a1).mp a3)
    have h2 : ¬ k' < k := fun z => a4 k' b1 z ((e k' b1).mpr b3)
    congr 1
    omega
  · exact absurd ((e k a1).mp a3) (b k a1 a2)
  · exact absurd ((e k' b1).mpr b3) (a k' b1 b2)
  · rfl
def Pw (D ql qh : Rat) (k : Int) : Prop := ql ≤ frac (D * (k : Rat)) ∧ frac (D * (k : Rat)) ≤ qh
def Pl (p q lo hi u : Int) (k : Int) : Prop := lo * q ≤ (k * p % q) * u ∧ (k * p % q) * u ≤ hi * q
theorem pw_pl {p q lo hi u k : Int} (hq : 0 < q) (hu : 0 < u) : Pw (Rat.divInt p q) (Rat.divInt lo u) (Rat.divInt hi u) k ↔ Pl p q lo hi u k := by
  unfold Pw Pl
  rw [place_div hq, di_le_di hu hq, di_le_di hq hu]
/-- what is drawn for a stem -/
structure Po (p q n m : Int) : Prop where
  q0 : 1 ≤ q
  q1 : q ≤ 40
  m0 : 1 ≤ m
  m1 : m ≤ 40
  pb : p.natAbs ≤ 200
  n0 : 0 ≤ n
  n1 : n.natAbs < 2 ^ 21
  up : m * p * p < n * (q * q)
theorem Po.rise {p q n m : Int} (h : Po p q n m) : 0 < Rat.divInt n m - Rat.divInt p q * Rat.divInt p q := by
  have hq := h.q0
  have hm := h.m0
  have e : Rat.divInt p q * Rat.divInt p q = Rat.divInt (p * p) (q * q) := Rat.divInt_mul_divInt _ _
  rw [e]
  have := (di_lt_di (a := p * p) (b := q * q) (c := n) (d := m) (Int.mul_pos (by omega) (by omega)) (by omega)).mpr (by
    have := h.up
    grind)
  grind
theorem Po.szD {p q n m : Int} (h : Po p q n m) : Sz (Rat.divInt p q) 9 := by
  have := h.q0
  have := h.q1
  have := h.pb
  exact sz_divInt (by omega) (by omega) (by omega)
theorem Po.szF {p q n m : Int} (h : Po p q n m) : Sz (Rat.divInt n m) 21 := by
  have := h.m0
  have := h.m1
  exact sz_divInt (by omega) h.n1 (by omega)
theorem cmp_sign0 (p q : Rat) : (p.num * q.den - q.num * p.den).sign = 0 ↔ p = q := by
  rw [Int.sign_eq_zero_iff_zero]
  constructor
  · intro h
    have : Rat.divInt p.num p.den = Rat.divInt q.num q.den := (Rat.divInt_eq_divInt_iff (den_ne p) (den_ne q)).mpr (by omega)
    rw [Rat.num_divInt_den, Rat.num_divInt_den] at this
    exact this
  · intro h
    subst h
    omega
theorem nat_floor (q : Rat) (n : Nat) (h : q.num.natAbs < 2 ^ n) : q.floor.natAbs < 2 ^ n := by
  rw [Rat.floor_def]
  have : (q.num / ((q.den : Nat) : Int)).natAbs ≤ q.num.natAbs := Int.natAbs_ediv_le_natAbs _ _
  omega
theorem sz_frac {q : Rat} {n m : Nat} (h : Sz q n) (hn : 1 ≤ n := by omega) (hm : n + n + 1 ≤ m := by omega) : Sz (frac q) m := sz_sub h (sz_int (nat_floor q n h.1) hn) hm
theorem cast_ne {q : Int} (hq : 0 < q) : (q : Rat) ≠ 0 := by
  intro h
  have := Rat.intCast_inj.mp (show ((q : Int) : Rat) = ((0 : Int) : Rat) from h)
  omega
theorem push_div {p q t : Int} (hq : 0 < q) : Rat.divInt (p + t * q) q = Rat.divInt p q + (t : Rat) := by
  have := cast_ne hq
  rw [div_eq, div_eq, Rat.intCast_add, Rat.intCast_mul]
  grind
theorem two_div {p q t : Int} : Rat.divInt (2 * p * t) q = 2 * Rat.divInt p q * (t : Rat) := by
  rw [div_eq, div_eq, Rat.intCast_mul, Rat.intCast_mul]
  have : ((2 : Int) : Rat) = 2 := rfl
  rw [this]
  grind
theorem push_rise (D F : Rat) (t : Int) : F + 2 * D * (t : Rat) + ((t * t : Int) : Rat) - (D + (t : Rat)) * (D + (t : Rat)) = F - D * D := by
  rw [Rat.intCast_mul]
  grind
end Sp
end
section
set_option Elab.async false
set_option linter.all false
set_option maxRecDepth 100000
set_option maxHeartbeats 4000000
/-! ### reading from the left -/
local macro_rules | `(tactic| walk_at "leaf") => `(tactic| first | rfl | assumption | exact True.intro | exact L2.upd_same | exact L2.ClsV.ty _ | exact L2.ClsV.own _ | decide | exact of_decide_eq_true rfl | fail)
local macro_rules | `(tactic| walk_at "rd1") => `(tactic| first
  | apply Exists.intro
  | (refine And.intro ?lf ?_; (case lf => walk_at "leaf"))
  | fail)
local macro_rules | `(tactic| walk_at "rd") => `(tactic| repeat (walk_at "rd1"))
namespace Sp
open PySem PySem.Spec PyProof.Rows L2
theorem iteB {b : Bool} {A B : Prop} (h1 : b = true → A) (h2 : b = false → B) : if b = true then A else B := by
  cases b
  · rw [if_neg (by simp)]
    exact h2 rfl
  · rw [if_pos rfl]
    exact h1 rfl
theorem iteP {c A B : Prop} {d : Decidable c} (h1 : c → A) (h2 : ¬ c → B) : @ite Prop c d A B := by
  by_cases h : c
  · rw [if_pos h]
    exact h1 h
  · rw [if_neg h]
    exact h2 h
/-- what the reading may leave open (no loop's invariant) -/
class Good (α : Type) : Prop where
  ok : True
instance : Good Nat := ⟨trivial⟩
instance : Good Int := ⟨trivial⟩
instance : Good V := ⟨trivial⟩
instance : Good Bool := ⟨trivial⟩
instance : Good Str := ⟨trivial⟩
instance : Good String := ⟨trivial⟩
instance : Good Value := ⟨trivial⟩
instance : Good Rat := ⟨trivial⟩
instance : Good PyData := ⟨trivial⟩
instance : Good HO := ⟨trivial⟩
instance : Good Obj := ⟨trivial⟩
instance {α : Type} : Good (List α) := ⟨trivial⟩
instance {α : Type} : Good (Option α) := ⟨trivial⟩
theorem exI {α : Type} [Good α] {p : α → Prop} (w : α) (h : p w) : ∃ x, p x := ⟨w, h⟩
/-! ### the text -/
def topS (i : Nat) : Stmt := PySem.Challenge.pw_spiralsays_k14_who_stands_above_whom.main.body.getD i (.Pass ⟨0, 0, 0, 0⟩)
abbrev cR (K : PySem.W.Frag) : Addr := He.ga K "Ratio"
abbrev cT (K : PySem.W.Frag) : Addr := He.ga K "Stem"
abbrev cX (K : PySem.W.Frag) (x : Str) : Addr := He.ga K x
/-! ### what stands in the heap -/
def IsR (K : PySem.W.Frag) (H : Hp) (p : Addr) (q : Rat) : Prop := ∃ dx, H p = some (.ins (cR K) dx [("top", .int q.num), ("bottom", .int (q.den : Nat))])
def IsT (K : PySem.W.Frag) (H : Hp) (p : Addr) (D E : Rat) : Prop := ∃ dx a b c, H p = some (.ins (cT K) dx [("turn", .ref a), ("squared", .ref b), ("rise", .ref c)]) ∧ IsR K H a D ∧ IsR K H b E ∧ IsR K H c (E - D * D)
/-- a ratio as told: a Ratio or an int -/
def RV (K : PySem.W.Frag) (H : Hp) (v : V) (q : Rat) : Prop := (∃ p, v = .ref p ∧ IsR K H p q) ∨ ∃ i : Int, v = .int i ∧ q = (i : Rat)
theorem IsR.ext {K : PySem.W.Frag} {H H' : Hp} {p : Addr} {q : Rat} (h : IsR K H p q) (e : Same H H') : IsR K H' p q := let ⟨dx, h⟩ := h; ⟨dx, e _ _ h⟩
theorem IsT.ext {K : PySem.W.Frag} {H H' : Hp} {p : Addr} {D E : Rat} (h : IsT K H p D E) (e : Same H H') : IsT K H' p D E := let ⟨dx, a, b, c, h, h1, h2, h3⟩ := h; ⟨dx, a, b, c, e _ _ h, h1.ext e, h2.ext e, h3.ext e⟩
theorem RV.ext {K : PySem.W.Frag} {H H' : Hp} {v : V} {q : Rat} (h : RV K H v q) (e : Same H H') : RV K H' v q := h.elim (fun ⟨p, a, b⟩ => .inl ⟨p, a, b.ext e⟩) .inr
/-- what isinstance finds of a type t -/
structure Kt (K : PySem.W.Frag) (t : Value) : Prop where
  int : PySem.W.kitOne K t (.type "int") = some (decide (t = .type "int") || decide (t = .type "bool"))
  bool : PySem.W.kitOne K t (.type "bool") = some (decide (t = .type "bool"))
  R : PySem.W.kitOne K t (.ref (cR K)) = some (decide (t = .ref (cR K)))
  T : PySem.W.kitOne K t (.ref (cT K)) = some (decide (t = .ref (cT K)))
/-- an own class whose instances have the attributes fl -/
structure CF (K : PySem.W.Frag) (C : Addr) (fl : List Str) : Prop where
  cl : Cls K C
  ha : PySem.W.findIn K (.ref C) "__class__" = some (some (.builtin "object.__class__"))
  hn : PySem.W.specialIn K (.builtin "object.__class__") "__get__" = some (some (.builtin "getset_descriptor.__get__"))
  htk : PySem.W.takesIn K (.builtin "object.__class__") = some true
  hm : PySem.W.mroIn K C (.type "object") = some true
  no : ∀ f ∈ fl, NoAttr K C f
  kt : Kt K (.ref C)
/-- what all leans on of the text -/
structure G0 (K : PySem.W.Frag) (mg : Str → Option Value) : Prop where
  nm : Nm mg
  far : ∃ t, mg "FARTHEST" = some (.int 1000 t)
  gcd : mg "gcd" = some (.builtin "math.gcd")
  R : CF K (cR K) ["top", "bottom"]
  T : CF K (cT K) ["turn", "squared", "rise"]
  mgRatio : mg "Ratio" = some (.ref (cR K))
  mgStem : mg "Stem" = some (.ref (cT K))
  hTR : cT K ≠ cR K
  kInt : Kt K (.type "int")
  kBool : Kt K (.type "bool")
  kNone : Kt K (.type "NoneType")
  kStr : Kt K (.type "str")
  kTup : Kt K (.type "tuple")
  kLst : Kt K (.type "list")
/-- a value's type, as isinstance finds it -/
def Ty (K : PySem.W.Frag) (H : Hp) (v : V) (t : Value) : Prop := TyX K H v t ∧ Kt K t
section
variable {K : PySem.W.Frag} {mg : Str → Option Value} {H : Hp}
theorem CF.ty {C : Addr} {fl : List Str} (c : CF K C fl) {p dx : Addr} {fs : List (Str × V)} (h : H p = some (.ins C dx fs)) : Ty K H (.ref p) (.ref C) := ⟨.base (.ins h c.cl c.ha c.hn c.htk c.hm), c.kt⟩
theorem G0.tInt (G : G0 K mg) (i : Int) : Ty K H (.int i) (.type "int") := ⟨.base (.int i), G.kInt⟩
theorem G0.tR (G : G0 K mg) {p : Addr} {q : Rat} (h : IsR K H p q) : Ty K H (.ref p) (.ref (cR K)) := let ⟨_, h⟩ := h; G.R.ty h
theorem G0.tT (G : G0 K mg) {p : Addr} {D F : Rat} (h : IsT K H p D F) : Ty K H (.ref p) (.ref (cT K)) := let ⟨_, _, _, _, h, _⟩ := h; G.T.ty h
theorem G0.tRV (G : G0 K mg) {v : V} {q : Rat} (h : RV K H v q) : ∃ t, Ty K H v t ∧ (decide (t = .ref (cR K)) || decide (t = .type "int")) = true := by
  rcases h with ⟨p, rfl, h⟩ | ⟨i, rfl, _⟩
  · exact ⟨_, G.tR h, by simp⟩
  · exact ⟨_, G.tInt i, by simp⟩
end
/-! ### promises -/
/-- the error at C with its field -/
def Err (f : Str) (v : V) (C : Addr) (H : Hp) (E : XK) : Prop := ∀ d H', Same H H' → H d = none → H' d = some (.xd [(f, v)]) → E (.ref C) (some d) H'
theorem Err.ext {f : Str} {v : V} {C : Addr} {H H1 : Hp} {E : XK} (h : Err f v C H E) (s : Same H H1) : Err f v C H1 E := fun d H' s' n e => h d H' (s.trans s') (by
  cases q : H d with
  | none => rfl
  | some o => rw [s _ _ q] at n; cases n) e
/-- no ratio -/
def NR (K : PySem.W.Frag) (H : Hp) (v : V) : Prop := v = .non ∨ (∃ b, v = .bl b) ∨ (∃ z, v = .str z) ∨ (∃ p xs, v = .ref p ∧ H p = some (.tup xs)) ∨ ∃ p xs, v = .ref p ∧ H p = some (.lst xs)
theorem NR.extN {K : PySem.W.Frag} {H H' : Hp} {v : V} (h : NR K H v) (e : LamX.ExtN H H') : NR K H' v := by
  rcases h with h | h | h | ⟨p, xs, h1, h2⟩ | ⟨p, xs, h1, h2⟩
  · exact .inl h
  · exact .inr (.inl h)
  · exact .inr (.inr (.inl h))
  · exact .inr (.inr (.inr (.inl ⟨p, xs, h1, e _ _ h2 (fun _ z => by cases z)⟩)))
  · exact .inr (.inr (.inr (.inr ⟨p, xs, h1, e _ _ h2 (fun _ z => by cases z)⟩)))
theorem NR.ext {K : PySem.W.Frag} {H H' : Hp} {v : V} (h : NR K H v) (e : Same H H') : NR K H' v := h.extN (LamX.ExtN.of e)
def spIsInt (K : PySem.W.Frag) : Sp := fun vs H Q _ => ∃ v t, vs = [v] ∧ Ty K H v t ∧ Q (.bl (decide (t = .type "int"))) H
def spIsRat (K : PySem.W.Frag) : Sp := fun vs H Q _ => ∃ v t, vs = [v] ∧ Ty K H v t ∧ Q (.bl (decide (t = .ref (cR K)) || decide (t = .type "int"))) H
def spSign : Sp := fun vs H Q _ => ∃ n : Int, vs = [.int n] ∧ Q (.int n.sign) H
def spInitR (K : PySem.W.Frag) : Sp := fun vs H Q _ => ∃ (a dx : Addr) (t b : Int), vs = [.ref a, .int t, .int b] ∧ H a = some (.ins (cR K) dx []) ∧ b ≠ 0 ∧ t.natAbs < 2 ^ 3900 ∧ b.natAbs < 2 ^ 3900 ∧
  ∀ H', (∀ c o, c ≠ a → H c = some o → H' c = some o) → H' a = some (.ins (cR K) dx [("top", .int (Rat.divInt t b).num), ("bottom", .int ((Rat.divInt t b).den : Nat))]) → Q .non H'
def spOf (K : PySem.W.Frag) : Sp := fun vs H Q _ => ∃ v q, vs = [v] ∧ RV K H v q ∧ Sz q 3900 ∧ ∀ p H', Same H H' → IsR K H' p q → Q (.ref p) H'
def spBinR (K : PySem.W.Frag) (fn : Rat → Rat → Rat) : Sp := fun vs H Q _ => ∃ a v q1 q2, vs = [.ref a, v] ∧ IsR K H a q1 ∧ RV K H v q2 ∧ Sz q1 1900 ∧ Sz q2 1900 ∧ ∀ p H', Same H H' → IsR K H' p (fn q1 q2) → Q (.ref p) H'
def spCmp (K : PySem.W.Frag) : Sp := fun vs H Q _ => ∃ a v q1 q2, vs = [.ref a, v] ∧ IsR K H a q1 ∧ RV K H v q2 ∧ Sz q1 1900 ∧ Sz q2 1900 ∧ ∀ H', Same H H' → Q (.int (q1.num * q2.den - q2.num * q1.den).sign) H'
def spBelow (K : PySem.W.Frag) : Sp := fun vs H Q _ => ∃ a v q1 q2, vs = [.ref a, v] ∧ IsR K H a q1 ∧ RV K H v q2 ∧ Sz q1 1900 ∧ Sz q2 1900 ∧ ∀ H', Same H H' → Q (.bl (decide (q1 < q2))) H'
def spEqR (K : PySem.W.Frag) : Sp := fun vs H Q _ => ∃ a v q1 q2, vs = [.ref a, v] ∧ IsR K H a q1 ∧ RV K H v q2 ∧ Q (.bl (decide (q1 = q2))) H
def spSgn (K : PySem.W.Frag) : Sp := fun vs H Q _ => ∃ a q, vs = [.ref a] ∧ IsR K H a q ∧ Q (.int q.num.sign) H
/-- a new instance: what its __init__ leaves -/
theorem same_new {H H' : Hp} {x dx C : Addr} (nx : H x = none) (nd : H dx = none) (k : ∀ c o, c ≠ x → (upd (upd H dx (.own x)) x (.ins C dx [])) c = some o → H' c = some o) : Same H H' := fun b o e =>
  k b o (ne_of_none e nx) (by rw [upd_ne (ne_of_none e nx), upd_ne (ne_of_none e nd)]; exact e)
theorem makeR {K : PySem.W.Frag} {H : Hp} {t b : Int} {Q : VK} {E : XK} (hb : b ≠ 0) (h1 : t.natAbs < 2 ^ 3900) (h2 : b.natAbs < 2 ^ 3900) (h : ∀ p H', Same H H' → H p = none → IsR K H' p (Rat.divInt t b) → Q (.ref p) H') :
    ∀ x dx, H x = none → H dx = none → dx ≠ x → spInitR K (.ref x :: ([.int t, .int b] ++ [])) (upd (upd H dx (.own x)) x (.ins (cR K) dx [])) (fun v H2 => v = .non ∧ Q (.ref x) H2) E :=
  fun x dx nx nd _ => ⟨x, dx, t, b, rfl, upd_same, hb, h1, h2, fun H' k e => ⟨rfl, h x H' (same_new nx nd k) nx ⟨dx, e⟩⟩⟩
theorem makeR1 {K : PySem.W.Frag} {H : Hp} {t : Int} {Q : VK} {E : XK} (h1 : t.natAbs < 2 ^ 3900) (h : ∀ p H', Same H H' → H p = none → IsR K H' p (t : Rat) → Q (.ref p) H') :
    ∀ x dx, H x = none → H dx = none → dx ≠ x → spInitR K (.ref x :: ([.int t] ++ [.int 1])) (upd (upd H dx (.own x)) x (.ins (cR K) dx [])) (fun v H2 => v = .non ∧ Q (.ref x) H2) E :=
  makeR (t := t) (b := 1) (by decide) h1 (Nat.one_lt_two_pow (by decide)) fun p H' s n r => h p H' s n (by rw [← divInt_one]; exact r)
abbrev FP (K : PySem.W.Frag) (x q : Str) (st : Stmt) (dvs : List V) (f : Addr) (fd : FuncData) : Prop := FunD K x q (defArgs st) (defBody st) (defScope st) dvs [] f fd
theorem cm {i j : Int} {n m : Nat} (h1 : i.natAbs < 2 ^ n) (h2 : j.natAbs < 2 ^ m) (ln : n ≤ 4000 := by omega) (lm : m ≤ 4000 := by omega) : CMulB i j := ⟨nb_le h1, nb_le h2⟩
theorem szm {p q : Rat} (hp : Sz p 1900) (hq : Sz q 1900) : CMulB p.num q.den ∧ CMulB q.num p.den ∧ CMulB p.den q.den ∧ CMulB p.num q.num := ⟨cm hp.1 hq.d, cm hq.1 hp.d, cm hp.d hq.d, cm hp.1 hq.1⟩
def spInitT (K : PySem.W.Frag) : Sp := fun vs H Q _ => ∃ (a dx p1 p2 : Addr) (D F : Rat), vs = [.ref a, .ref p1, .ref p2] ∧ H a = some (.ins (cT K) dx []) ∧ IsR K H p1 D ∧ IsR K H p2 F ∧ Sz D 40 ∧ Sz F 80 ∧ 0 < F - D * D ∧
  ∀ H', (∀ c o, c ≠ a → H c = some o → H' c = some o) → IsT K H' a D F → Q .non H'
def ST (K : PySem.W.Frag) (H : Hp) (a : Addr) (D F : Rat) : Prop := IsT K H a D F ∧ Sz D 40 ∧ Sz F 80
theorem ST.ext {K : PySem.W.Frag} {H H' : Hp} {a : Addr} {D F : Rat} (h : ST K H a D F) (e : Same H H') : ST K H' a D F := ⟨h.1.ext e, h.2⟩
theorem rbR {K : PySem.W.Frag} {H : Hp} {a : Addr} {v : V} {q1 q2 : Rat} {fn : Rat → Rat → Rat} {Q : VK} {E : XK} (h1 : IsR K H a q1) (h2 : RV K H v q2) (z1 : Sz q1 1900) (z2 : Sz q2 1900)
    (k : ∀ p H', Same H H' → IsR K H' p (fn q1 q2) → Q (.ref p) H') : rBin (cR K) (spBinR K fn) E (.ref a) v H Q := by
  obtain ⟨dx, h1'⟩ := h1
  refine ⟨a, dx, _, rfl, h1', ?_, a, v, q1, q2, rfl, ⟨dx, h1'⟩, h2, z1, z2, k⟩
  rcases h2 with ⟨p, rfl, d, h⟩ | ⟨i, rfl, _⟩
  · exact .inl ⟨p, d, _, rfl, h⟩
  · exact .inr ⟨i, rfl⟩
theorem RV.mk {K : PySem.W.Frag} {H : Hp} {p : Addr} {q : Rat} (h : IsR K H p q) : RV K H (.ref p) q := .inl ⟨p, rfl, h⟩
theorem RV.int (K : PySem.W.Frag) (H : Hp) (i : Int) : RV K H (.int i) (i : Rat) := .inr ⟨i, rfl, rfl⟩
/-! ### the pail -/
def Pail (H : Hp) (a c : Addr) (N : Nat) : Prop := ∃ (cs : List Int) (n g : Int), H a = some (.lst [.ref c, .int n, .int g]) ∧ H c = some (.lst (cs.map V.int)) ∧ 0 ≤ n ∧ n ≤ N ∧ 0 ≤ g
def Sb (a : Addr) (H H' : Hp) : Prop := ∀ b o, b ≠ a → H b = some o → H' b = some o
theorem Sb.trans {a : Addr} {H H1 H2 : Hp} (x : Sb a H H1) (y : Sb a H1 H2) : Sb a H H2 := fun b o n e => y b o n (x b o n e)
theorem Same.sb {a : Addr} {H H' : Hp} (x : Same H H') : Sb a H H' := fun b o _ e => x b o e
def spPail (K : PySem.W.Frag) : Sp := fun vs H Q _ => ∃ (a : Addr) (ns : List Int), vs = [.ref a] ∧ SqL K H a (ns.map V.int) ∧ ∀ p H', Same H H' → H p = none → (∃ c, Pail H' p c 0) → Q (.ref p) H'
def spDip : Sp := fun vs H Q _ => ∃ (a c : Addr) (m : Int) (N : Nat), vs = [.ref a, .int m] ∧ Pail H a c N ∧ N ≤ 1000000 ∧ 0 < m ∧ m < 2 ^ 30 ∧ ∀ d H', 0 ≤ d → d < m → Pail H' a c (N + 1) → Sb a H H' → Q (.int d) H'
theorem shaped_ints (cs : List Int) : SeqAt.shaped (.list (cs.map PyData.int)) = true := by
  induction cs with
  | nil => rfl
  | cons c cs ih => exact ih
theorem dp_ints {K : PySem.W.Frag} {H : Hp} (cs : List Int) : DpAll K H (cs.map V.int) (cs.map PyData.int) := by
  induction cs with
  | nil => exact .nil
  | cons c cs ih => exact .cons (.int c) ih
theorem tailR {P : Int → Prop} {G : Prop} (main : (∀ x, P x) → G) (tl : ∀ x, P x) : G := main tl
theorem Pail.mono {H : Hp} {a c : Addr} {N M : Nat} (h : Pail H a c N) (l : N ≤ M := by omega) : Pail H a c M := let ⟨cs, n, g, h1, h2, h3, h4, h5⟩ := h; ⟨cs, n, g, h1, h2, h3, by omega, h5⟩
theorem Pail.lst {H : Hp} {a c : Addr} {N : Nat} (h : Pail H a c N) : ∃ xs, H a = some (.lst xs) := let ⟨_, _, _, h, _⟩ := h; ⟨_, h⟩
/-- the pail stands as it was where the heap only grew -/
theorem Pail.ext {H H' : Hp} {a c : Addr} {N : Nat} (h : Pail H a c N) (e : Same H H') : Pail H' a c N := let ⟨cs, n, g, h1, h2, h3, h4, h5⟩ := h; ⟨cs, n, g, e _ _ h1, e _ _ h2, h3, h4, h5⟩
theorem Same.new {H : Hp} {p : Addr} {o : HO} (h : H p = none) : Same H (upd H p o) := fun b u e => by rw [upd_ne (ne_of_none e h)]; exact e
theorem tail3 {P : Addr → Hp → Option V → Prop} {G : Prop} (F : Addr → Hp → Prop) (main : (∀ x H t, F x H → P x H t) → G) (tl : ∀ x H t, F x H → P x H t) : G := main tl
theorem makeR2 {K : PySem.W.Frag} {H : Hp} {t b : Int} {Q : Addr → Hp → Prop} {E : XK} (hb : b ≠ 0) (h1 : t.natAbs < 2 ^ 3900) (h2 : b.natAbs < 2 ^ 3900) (h : ∀ p H', Same H H' → H p = none → IsR K H' p (Rat.divInt t b) → Q p H') :
    ∀ x dx, H x = none → H dx = none → dx ≠ x → spInitR K (.ref x :: ([.int t, .int b] ++ [])) (upd (upd H dx (.own x)) x (.ins (cR K) dx [])) (fun v H2 => v = .non ∧ Q x H2) E :=
  fun x dx nx nd _ => ⟨x, dx, t, b, rfl, upd_same, hb, h1, h2, fun H' k e => ⟨rfl, h x H' (same_new nx nd k) nx ⟨dx, e⟩⟩⟩
theorem makeT2 {K : PySem.W.Frag} {H : Hp} {p1 p2 : Addr} {D F : Rat} {Q : Addr → Hp → Prop} {E : XK} (r1 : IsR K H p1 D) (r2 : IsR K H p2 F) (z1 : Sz D 40) (z2 : Sz F 80) (hp : 0 < F - D * D) (h : ∀ p H', Same H H' → H p = none → IsT K H' p D F → Q p H') :
    ∀ x dx, H x = none → H dx = none → dx ≠ x → spInitT K (.ref x :: ([.ref p1, .ref p2] ++ [])) (upd (upd H dx (.own x)) x (.ins (cT K) dx [])) (fun v H2 => v = .non ∧ Q x H2) E :=
  fun x dx nx nd _ => by
    have e : Same H (upd (upd H dx (.own x)) x (.ins (cT K) dx [])) := fun b o e => by rw [upd_ne (ne_of_none e nx), upd_ne (ne_of_none e nd)]; exact e
    exact ⟨x, dx, p1, p2, D, F, rfl, upd_same, r1.ext e, r2.ext e, z1, z2, hp, fun H' k t => ⟨rfl, h x H' (same_new nx nd k) nx t⟩⟩
theorem tailH {P : Hp → Prop} {G : Prop} (F : Hp → Prop) (main : (∀ H, F H → P H) → G) (tl : ∀ H, F H → P H) : G := main tl
theorem makeR12 {K : PySem.W.Frag} {H : Hp} {t : Int} {Q : Addr → Hp → Prop} {E : XK} (h1 : t.natAbs < 2 ^ 3900) (h : ∀ p H', Same H H' → H p = none → IsR K H' p (t : Rat) → Q p H') :
    ∀ x dx, H x = none → H dx = none → dx ≠ x → spInitR K (.ref x :: ([.int t] ++ [.int 1])) (upd (upd H dx (.own x)) x (.ins (cR K) dx [])) (fun v H2 => v = .non ∧ Q x H2) E :=
  makeR2 (t := t) (b := 1) (by decide) h1 (Nat.one_lt_two_pow (by decide)) fun p H' s n r => h p H' s n (by rw [← divInt_one]; exact r)
/-! ### this law's program -/
theorem NR.ty {K : PySem.W.Frag} {mg : Str → Option Value} {H : Hp} {v : V} (h : NR K H v) (G : G0 K mg) : ∃ t, Ty K H v t ∧ t ≠ .ref (cR K) ∧ t ≠ .type "int" ∧ t ≠ .ref (cT K) := by
  rcases h with rfl | ⟨b, rfl⟩ | ⟨z, rfl⟩ | ⟨p, xs, rfl, h⟩ | ⟨p, xs, rfl, h⟩
  · exact ⟨_, ⟨.base .non, G.kNone⟩, by simp, by simp, by simp⟩
  · exact ⟨_, ⟨.base (.bl b), G.kBool⟩, by simp, by simp, by simp⟩
  · exact ⟨_, ⟨.base (.str z), G.kStr⟩, by simp, by simp, by simp⟩
  · exact ⟨_, ⟨.base (.tup h), G.kTup⟩, by simp, by simp, by simp⟩
  · exact ⟨_, ⟨.base (.lst h), G.kLst⟩, by simp, by simp, by simp⟩
/-- no stem: no value of data, a number, or a ratio -/
def NT (K : PySem.W.Frag) (H : Hp) (v : V) : Prop := NR K H v ∨ ∃ q, RV K H v q
/-- no number from 1 to 1000 -/
def NM (K : PySem.W.Frag) (H : Hp) (v : V) : Prop := NR K H v ∨ (∃ p q, v = .ref p ∧ IsR K H p q) ∨ ∃ i : Int, v = .int i ∧ ¬ (1 ≤ i ∧ i ≤ 1000)
/-- no ratio from ql to below 1 -/
def NL (K : PySem.W.Frag) (H : Hp) (v : V) (ql : Rat) : Prop := NR K H v ∨ ∃ q, RV K H v q ∧ Sz q 1900 ∧ ¬ (ql ≤ q ∧ q < 1)
theorem exR {K : PySem.W.Frag} {H H' : Hp} {p : Addr} {q : Rat} (h : IsR K H p q) (e : LamX.ExtN H H') : IsR K H' p q := let ⟨dx, h⟩ := h; ⟨dx, e _ _ h (fun _ z => by cases z)⟩
theorem exRV {K : PySem.W.Frag} {H H' : Hp} {v : V} {q : Rat} (h : RV K H v q) (e : LamX.ExtN H H') : RV K H' v q := h.elim (fun ⟨p, a, b⟩ => .inl ⟨p, a, exR b e⟩) .inr
theorem exT {K : PySem.W.Frag} {H H' : Hp} {p : Addr} {D F : Rat} (h : IsT K H p D F) (e : LamX.ExtN H H') : IsT K H' p D F := let ⟨dx, a, b, c, h, h1, h2, h3⟩ := h; ⟨dx, a, b, c, e _ _ h (fun _ z => by cases z), exR h1 e, exR h2 e, exR h3 e⟩
theorem NT.extN {K : PySem.W.Frag} {H H' : Hp} {v : V} (h : NT K H v) (e : LamX.ExtN H H') : NT K H' v := h.elim (fun h => .inl (h.extN e)) fun ⟨q, h⟩ => .inr ⟨q, exRV h e⟩
theorem NM.extN {K : PySem.W.Frag} {H H' : Hp} {v : V} (h : NM K H v) (e : LamX.ExtN H H') : NM K H' v := h.elim (fun h => .inl (h.extN e)) fun h => .inr (h.elim (fun ⟨p, q, a, b⟩ => .inl ⟨p, q, a, exR b e⟩) .inr)
theorem NL.extN {K : PySem.W.Frag} {H H' : Hp} {v : V} {ql : Rat} (h : NL K H v ql) (e : LamX.ExtN H H') : NL K H' v ql := h.elim (fun h => .inl (h.extN e)) fun ⟨q, a, b⟩ => .inr ⟨q, exRV a e, b⟩
theorem NT.ty {K : PySem.W.Frag} {mg : Str → Option Value} {H : Hp} {v : V} (h : NT K H v) (G : G0 K mg) : ∃ t, Ty K H v t ∧ t ≠ .ref (cT K) := by
  rcases h with h | ⟨q, ⟨p, rfl, h⟩ | ⟨i, rfl, _⟩⟩
  · obtain ⟨t, a, _, _, b⟩ := h.ty G
    exact ⟨t, a, b⟩
  · exact ⟨_, G.tR h, by have := G.hTR; simp; exact fun e => this e.symm⟩
  · exact ⟨_, G.tInt i, by simp⟩
def spFlr (K : PySem.W.Frag) : Sp := fun vs H Q _ => ∃ a q, vs = [.ref a] ∧ IsR K H a q ∧ Sz q 3900 ∧ Q (.int q.floor) H
def spNeedT (K : PySem.W.Frag) : Sp := fun vs H Q E => ∃ v pt, vs = [v, pt] ∧ ((∃ p D F, v = .ref p ∧ IsT K H p D F ∧ Q .non H) ∨ (NT K H v ∧ Err "part" pt (cX K "BadStem") H E))
def spNeedI : Sp := fun vs H Q _ => ∃ (i : Int) (pt : V), vs = [.int i, pt] ∧ Q .non H
def spInW (K : PySem.W.Frag) : Sp := fun vs H Q _ => ∃ v, vs = [v, .int 1, .int 1000] ∧ ((∃ i : Int, v = .int i ∧ 1 ≤ i ∧ i ≤ 1000 ∧ Q (.bl true) H) ∨ (NM K H v ∧ Q (.bl false) H))
def spNeedW (K : PySem.W.Frag) : Sp := fun vs H Q E => ∃ v pt, vs = [v, .int 1, .int 1000, pt] ∧ ((∃ i : Int, v = .int i ∧ 1 ≤ i ∧ i ≤ 1000 ∧ Q .non H) ∨ (NM K H v ∧ Err "part" pt (cX K "BadNumber") H E))
def spPlace (K : PySem.W.Frag) : Sp := fun vs H Q _ => ∃ (a : Addr) (D F : Rat) (k : Int), vs = [.ref a, .int k] ∧ ST K H a D F ∧ k.natAbs < 2 ^ 40 ∧ ∀ p H', Same H H' → IsR K H' p (frac (D * (k : Rat))) → Q (.ref p) H'
def spNRs (K : PySem.W.Frag) : Sp := fun vs H Q _ => ∃ (a : Addr) (D F : Rat) (k : Int), vs = [.ref a, .int k] ∧ ST K H a D F ∧ k.natAbs < 2 ^ 40 ∧ ∀ p H', Same H H' → H' p = some (.tup ((nrs (D * (k : Rat))).map V.int)) → Q (.ref p) H'
def spBetw (K : PySem.W.Frag) : Sp := fun vs H Q _ => ∃ a b q1 q2, vs = [.ref a, .ref b] ∧ IsR K H a q1 ∧ IsR K H b q2 ∧ Sz q1 1900 ∧ Sz q2 1900 ∧ ∀ H', Same H H' → Q (.bl (!decide (q2 < q1) && decide (q2 < ((1 : Int) : Rat)))) H'
def optV : Option Int → V
  | none => .non
  | some k => .int k
def spFW (K : PySem.W.Frag) : Sp := fun vs H Q E => ∃ sv lo hi mv, vs = [sv, lo, hi, mv] ∧
  ((NT K H sv ∧ Err "part" (.str "stem") (cX K "BadStem") H E) ∨
   ∃ a D F, sv = .ref a ∧ ST K H a D F ∧
    ((NL K H lo 0 ∧ Err "part" (.str "low") (cX K "BadNumber") H E) ∨
     ∃ ql, RV K H lo ql ∧ Sz ql 1900 ∧ 0 ≤ ql ∧ ql < 1 ∧
      ((NL K H hi ql ∧ Err "part" (.str "high") (cX K "BadNumber") H E) ∨
       ∃ qh, RV K H hi qh ∧ Sz qh 1900 ∧ ql ≤ qh ∧ qh < 1 ∧
        ((NM K H mv ∧ Err "part" (.str "most") (cX K "BadNumber") H E) ∨
         ∃ n : Int, mv = .int n ∧ 1 ≤ n ∧ n ≤ 1000 ∧ ∀ r H', Same H H' → IsFirst (Pw D ql qh) n.toNat r → Q (optV r) H'))))
/-! ### the law's defs -/
def spOfL : Sp := fun vs H Q _ => ∃ (a c l : Addr) (N : Nat) (xs : List V), vs = [.ref a, .ref l] ∧ Pail H a c N ∧ N ≤ 1000000 ∧ H l = some (.lst xs) ∧ l ≠ a ∧ 0 < xs.length ∧ xs.length < 1000 ∧
  ∀ d v H', 0 ≤ d → d < (xs.length : Int) → atI xs d = some v → Pail H' a c (N + 1) → Sb a H H' → Q v H'
def spStemL : Sp := fun vs H Q _ => ∃ (a c : Addr) (N : Nat), vs = [.ref a] ∧ Pail H a c N ∧ N ≤ 900000 ∧ ∀ l p q n m H', Po p q n m → H' l = some (.lst [.int p, .int q, .int n, .int m]) → l ≠ a → Pail H' a c (N + 20) → Sb a H H' → Q (.ref l) H'
def spDiv : Sp := fun vs H Q _ => ∃ (x y : Int), vs = [.int x, .int y] ∧ 0 ≤ x ∧ 0 ≤ y ∧ Q (.int ((Nat.gcd x.natAbs y.natAbs : Nat) : Int)) H
def spFirstL : Sp := fun vs H Q _ => ∃ (p q lo hi u n : Int), vs = [.int p, .int q, .int lo, .int hi, .int u, .int n] ∧ p.natAbs ≤ 200 ∧ 1 ≤ q ∧ q ≤ 40 ∧ lo.natAbs ≤ 100 ∧ hi.natAbs ≤ 100 ∧ 1 ≤ u ∧ u ≤ 100 ∧ 1 ≤ n ∧ n ≤ 1000 ∧ ∀ r, IsFirst (Pl p q lo hi u) n.toNat r → Q (optV r) H
def spStretch : Sp := fun vs H Q _ => ∃ (a c : Addr) (N : Nat) (p q : Int), vs = [.ref a, .int p, .int q] ∧ Pail H a c N ∧ N ≤ 900000 ∧ p.natAbs ≤ 200 ∧ 1 ≤ q ∧ q ≤ 40 ∧
  ∀ t (lo hi u : Int) H', 0 ≤ lo → lo ≤ hi → hi < u → u ≤ 60 → H' t = some (.tup [.int lo, .int hi, .int u]) → Pail H' a c (N + 10) → Sb a H H' → Q (.ref t) H'
/-- what the law asks of a stem -/
def spAsk (K : PySem.W.Frag) : Sp := fun vs H Q _ => ∃ (a c l st : Addr) (N : Nat) (p q n m : Int), vs = [.ref a, .ref l, .ref st] ∧ Pail H a c N ∧ N ≤ 800000 ∧ H l = some (.lst [.int p, .int q, .int n, .int m]) ∧ l ≠ a ∧ Po p q n m ∧ IsT K H st (Rat.divInt p q) (Rat.divInt n m) ∧
  ∀ H', Pail H' a c (N + 40) → Sb a H H' → Q (.bl true) H'
theorem IsR.sb {K : PySem.W.Frag} {H H' : Hp} {a c p : Addr} {N : Nat} {q : Rat} (h : IsR K H p q) (l : Pail H a c N) (e : Sb a H H') : IsR K H' p q := by
  obtain ⟨d, h⟩ := h
  obtain ⟨xs, ha⟩ := l.lst
  exact ⟨d, e _ _ (fun z => by rw [z, ha] at h; cases h) h⟩
theorem IsT.sb {K : PySem.W.Frag} {H H' : Hp} {a c p : Addr} {N : Nat} {D F : Rat} (h : IsT K H p D F) (l : Pail H a c N) (e : Sb a H H') : IsT K H' p D F := by
  obtain ⟨d, x, y, z, h, h1, h2, h3⟩ := h
  obtain ⟨xs, ha⟩ := l.lst
  exact ⟨d, x, y, z, e _ _ (fun z => by rw [z, ha] at h; cases h) h, h1.sb l e, h2.sb l e, h3.sb l e⟩
theorem Pail.ne {H : Hp} {a c L : Addr} {N : Nat} (h : Pail H a c N) (n : H L = none) : L ≠ a := fun z => by
  obtain ⟨xs, ha⟩ := h.lst
  rw [z, ha] at n
  cases n
theorem Pail.tupNe {H : Hp} {a c t : Addr} {N : Nat} {xs : List V} (h : Pail H a c N) (n : H t = some (.tup xs)) : t ≠ a := fun z => by
  obtain ⟨xs, ha⟩ := h.lst
  rw [z, ha] at n
  cases n
/-! ### past a change of one list -/
section
variable {K : PySem.W.Frag} {H H' : Hp} {L : Addr} {xs ys : List V}
theorem IsR.mv {p : Addr} {q : Rat} (h : IsR K H p q) (e : Sb L H H') (h1 : H L = some (.lst xs)) : IsR K H' p q := by
  obtain ⟨d, h⟩ := h
  exact ⟨d, e _ _ (fun z => by rw [z, h1] at h; cases h) h⟩
theorem IsT.mv {p : Addr} {D F : Rat} (h : IsT K H p D F) (e : Sb L H H') (h1 : H L = some (.lst xs)) : IsT K H' p D F := by
  obtain ⟨d, x, y, z, h, r1, r2, r3⟩ := h
  exact ⟨d, x, y, z, e _ _ (fun z => by rw [z, h1] at h; cases h) h, r1.mv e h1, r2.mv e h1, r3.mv e h1⟩
theorem RV.mv {v : V} {q : Rat} (h : RV K H v q) (e : Sb L H H') (h1 : H L = some (.lst xs)) : RV K H' v q := h.elim (fun ⟨p, a, b⟩ => .inl ⟨p, a, b.mv e h1⟩) .inr
theorem tupMv {p : Addr} {zs : List V} (h : H p = some (.tup zs)) (e : Sb L H H') (h1 : H L = some (.lst xs)) : H' p = some (.tup zs) := e _ _ (fun z => by rw [z, h1] at h; cases h) h
theorem NR.mv {v : V} (h : NR K H v) (e : Sb L H H') (h1 : H L = some (.lst xs)) (h2 : H' L = some (.lst ys)) : NR K H' v := by
  rcases h with h | h | h | ⟨p, zs, a, b⟩ | ⟨p, zs, a, b⟩
  · exact .inl h
  · exact .inr (.inl h)
  · exact .inr (.inr (.inl h))
  · exact .inr (.inr (.inr (.inl ⟨p, zs, a, tupMv b e h1⟩)))
  · by_cases z : p = L
    · exact .inr (.inr (.inr (.inr ⟨p, ys, a, by rw [z]; exact h2⟩)))
    · exact .inr (.inr (.inr (.inr ⟨p, zs, a, e _ _ z b⟩)))
theorem NT.mv {v : V} (h : NT K H v) (e : Sb L H H') (h1 : H L = some (.lst xs)) (h2 : H' L = some (.lst ys)) : NT K H' v := h.elim (fun h => .inl (h.mv e h1 h2)) fun ⟨q, h⟩ => .inr ⟨q, h.mv e h1⟩
theorem NM.mv {v : V} (h : NM K H v) (e : Sb L H H') (h1 : H L = some (.lst xs)) (h2 : H' L = some (.lst ys)) : NM K H' v := h.elim (fun h => .inl (h.mv e h1 h2)) fun h => .inr (h.elim (fun ⟨p, q, a, b⟩ => .inl ⟨p, q, a, b.mv e h1⟩) .inr)
theorem NL.mv {v : V} {ql : Rat} (h : NL K H v ql) (e : Sb L H H') (h1 : H L = some (.lst xs)) (h2 : H' L = some (.lst ys)) : NL K H' v ql := h.elim (fun h => .inl (h.mv e h1 h2)) fun ⟨q, a, b⟩ => .inr ⟨q, a.mv e h1, b⟩
theorem tabsMv {T : List (Addr × Str)} (h : LamX.Tabs T H) (e : Sb L H H') (ha : H L = some (.lst xs)) : LamX.Tabs T H' := fun p hp => by
  obtain ⟨ps, h1, h2, h3⟩ := h p hp
  refine ⟨ps, e _ _ (fun z => ?_) h1, h2, fun pos cv hc => ?_⟩
  · rw [z, ha] at h1
    cases h1
  · obtain ⟨c, e1, e2⟩ := h3 pos cv hc
    refine ⟨c, e1, e _ _ (fun z => ?_) e2⟩
    rw [z, ha] at e2
    unfold LamX.CodeO at e2
    cases e2
theorem pailN {a c : Addr} {N : Nat} (h : Pail H a c N) (e : LamX.ExtN H H') : Pail H' a c N := let ⟨cs, n, g, h1, h2, h3⟩ := h; ⟨cs, n, g, e _ _ h1 (fun _ z => by cases z), e _ _ h2 (fun _ z => by cases z), h3⟩
theorem pailMv {a c : Addr} {N : Nat} (h : Pail H a c N) (e : Sb L H H') (na : L ≠ a) (nc : L ≠ c) : Pail H' a c N := let ⟨cs, n, g, h1, h2, h3⟩ := h; ⟨cs, n, g, e _ _ na.symm h1, e _ _ nc.symm h2, h3⟩
theorem Pail.neC {a c : Addr} {N : Nat} (h : Pail H a c N) (n : H L = none) : L ≠ c := fun z => by
  obtain ⟨cs, _, _, _, h2, _⟩ := h
  rw [z, h2] at n
  cases n
theorem sbUpd {o : HO} : Sb L H (upd H L o) := fun b u nb e => by rw [upd_ne nb]; exact e
end
end Sp
end
section
set_option Elab.async false
set_option linter.all false
set_option maxRecDepth 100000
set_option maxHeartbeats 0
namespace Sp
open PySem PySem.Spec PyProof.Rows L2
open PySem.W (Frag)
/-! ### facts read off the heap that the top leaves -/
def oexB (K : Frag) (C : Addr) : Bool := (match K.lookup C with
  | some ⟨.type "type", _, .cls cd, sl⟩ => (match cd.mro, sl.toList with
    | .ref C' :: bm, [_, _, _, _, some (.builtin n), _] => C' == C && (n == "ValueError.__new__" && (!cd.hasDel && (cd.hasDict && PySem.HandSPX.refsVE bm)))
    | _, _ => false)
  | _ => false) && (decide (PySem.W.findIn K (.ref C) "__setattr__" = some (some (.builtin "object.__setattr__"))) && (decide (PySem.W.subIn K (.ref C) (.type "BaseException") = some true) && (decide (PySem.W.typeIn K (.ref C) = some (.type "type")) && PySem.W.keepIn K (.ref C))))
theorem oexB_ok {K : Frag} {C : Addr} (h : oexB K C = true) : OexC K C := by
  unfold oexB at h
  obtain ⟨h1, h⟩ := He.ba h
  obtain ⟨h2, h⟩ := He.ba h
  obtain ⟨h3, h⟩ := He.ba h
  obtain ⟨h4, h5⟩ := He.ba h
  refine ⟨?_, of_decide_eq_true h2, of_decide_eq_true h3, of_decide_eq_true h4, h5⟩
  split at h1
  · rename_i dd cd sl ho
    split at h1
    · rename_i C' bm k0 k1 k2 k3 n k5 hm hs
      simp only [Bool.and_eq_true, beq_iff_eq, Bool.not_eq_true'] at h1
      obtain ⟨rfl, rfl, hdel, hdict, hr⟩ := h1
      obtain ⟨nm, bs, mro, ns, qn, hd, sn, sub, ab, col, del⟩ := cd
      dsimp only at hm hdel hdict
      subst hm hdel hdict
      have hsl : sl = #[k0, k1, k2, k3, some (.builtin "ValueError.__new__"), k5] := by
        obtain ⟨l⟩ := sl
        simp only at hs
        rw [hs]
      subst hsl
      exact ⟨nm, qn, ns, bs, bm, sn, sub, ab, col, dd, k0, k1, k2, k3, k5, ho, hr⟩
    · cases h1
  · cases h1
def ktB (K : Frag) (t : Value) : Bool := decide (PySem.W.kitOne K t (.type "int") = some (decide (t = .type "int") || decide (t = .type "bool"))) && (decide (PySem.W.kitOne K t (.type "bool") = some (decide (t = .type "bool"))) &&
  (decide (PySem.W.kitOne K t (.ref (cR K)) = some (decide (t = .ref (cR K)))) && decide (PySem.W.kitOne K t (.ref (cT K)) = some (decide (t = .ref (cT K))))))
theorem ktB_ok {K : Frag} {t : Value} (h : ktB K t = true) : Kt K t := by
  unfold ktB at h
  obtain ⟨h1, h⟩ := He.ba h
  obtain ⟨h2, h⟩ := He.ba h
  obtain ⟨h3, h4⟩ := He.ba h
  exact ⟨of_decide_eq_true h1, of_decide_eq_true h2, of_decide_eq_true h3, of_decide_eq_true h4⟩
def cfB (K : Frag) (x : Str) (fl : List Str) : Bool := (He.Fa.cls x).ok K && (decide (PySem.W.findIn K (.ref (He.ga K x)) "__class__" = some (some (.builtin "object.__class__"))) && (decide (PySem.W.specialIn K (.builtin "object.__class__") "__get__" = some (some (.builtin "getset_descriptor.__get__"))) &&
  (decide (PySem.W.takesIn K (.builtin "object.__class__") = some true) && (decide (PySem.W.mroIn K (He.ga K x) (.type "object") = some true) && ((fl.all fun f => (He.Fa.noat x f).ok K) && ktB K (.ref (He.ga K x)))))))
theorem cfB_ok {K : Frag} {x : Str} {fl : List Str} (h : cfB K x fl = true) : CF K (He.ga K x) fl := by
  unfold cfB at h
  obtain ⟨h1, h⟩ := He.ba h
  obtain ⟨h2, h⟩ := He.ba h
  obtain ⟨h3, h⟩ := He.ba h
  obtain ⟨h4, h⟩ := He.ba h
  obtain ⟨h5, h⟩ := He.ba h
  obtain ⟨h6, h7⟩ := He.ba h
  exact ⟨He.cls_ok h1, of_decide_eq_true h2, of_decide_eq_true h3, of_decide_eq_true h4, of_decide_eq_true h5, fun f hf => He.noat_ok (List.all_eq_true.mp h6 f hf), ktB_ok h7⟩
/-- an operator's def at ma K C m -/
def opB (K : Frag) (C : Addr) (m r : Str) : Bool := PySem.W.selfFirst K C && (decide (PySem.W.findIn K (.ref C) m = some (some (.ref (He.ma K C m)))) && (PySem.W.isFn K (.ref (He.ma K C m)) && (decide (PySem.W.findIn K (.ref C) r = some none) &&
  ((PySem.W.findIn K (.type "int") m).isSome && ((PySem.W.findIn K (.type "int") r).isSome && decide (PySem.W.subIn K (.type "int") (.ref C) = some false))))))
theorem opB_ok {K : Frag} {C : Addr} {m r : Str} (h : opB K C m r = true) : OpC K C m r (He.ma K C m) := by
  unfold opB at h
  obtain ⟨h1, h⟩ := He.ba h
  obtain ⟨h2, h⟩ := He.ba h
  obtain ⟨h3, h⟩ := He.ba h
  obtain ⟨h4, h⟩ := He.ba h
  obtain ⟨h5, h⟩ := He.ba h
  obtain ⟨h6, h7⟩ := He.ba h
  exact ⟨h1, of_decide_eq_true h2, h3, of_decide_eq_true h4, Option.isSome_iff_exists.mp h5, Option.isSome_iff_exists.mp h6, of_decide_eq_true h7⟩
def nmB (K : Frag) (C : Addr) (m : Str) : Bool := decide (PySem.W.findIn K (.ref C) m = some (some (.ref (He.ma K C m)))) && PySem.W.isFn K (.ref (He.ma K C m))
def metB (K : Frag) (C : Addr) (m : Str) : Bool := nmB K C m && PySem.W.keepIn K (.ref (He.ma K C m))
theorem metB_ok {K : Frag} {C : Addr} {m : Str} (h : metB K C m = true) : Meth K C m (He.ma K C m) := by
  unfold metB nmB at h
  obtain ⟨h1, h3⟩ := He.ba h
  obtain ⟨h1, h2⟩ := He.ba h1
  exact ⟨of_decide_eq_true h1, h2, h3⟩
def propB (K : Frag) (C : Addr) (m : Str) : Bool := decide (PySem.W.findIn K (.ref C) m = some (some (.ref (He.ma K C m)))) && (decide (PySem.W.specialIn K (.ref (He.ma K C m)) "__get__" = some (some (.builtin "property.__get__"))) && (decide (PySem.W.takesIn K (.ref (He.ma K C m)) = some true) && (match PySem.W.recIn K (He.ma K C m) "property" with
  | some (.ref _ :: _) => true
  | _ => false)))
theorem propB_ok {K : Frag} {C : Addr} {m : Str} (h : propB K C m = true) : PropOf K C m (He.ma K C m) (He5.wf K C "property" m) := by
  unfold propB at h
  obtain ⟨h1, h⟩ := He.ba h
  obtain ⟨h2, h⟩ := He.ba h
  obtain ⟨h3, h4⟩ := He.ba h
  refine ⟨of_decide_eq_true h1, of_decide_eq_true h2, of_decide_eq_true h3, ?_⟩
  unfold He5.wf
  split at h4
  · rename_i f r e
    exact ⟨r, by rw [e]⟩
  · cases h4
def smB (K : Frag) (C : Addr) (m : Str) : Bool := PySem.W.readsIn K C (.type "type") && (decide (PySem.W.specialIn K (.ref C) "__getattribute__" = some (some (.builtin "type.__getattribute__"))) && (He5.wrapB K C "staticmethod" "staticmethod.__get__" m && PySem.W.keepIn K (.ref (He5.wf K C "staticmethod" m))))
theorem smB_ok {K : Frag} {C : Addr} {m : Str} (h : smB K C m = true) : SMet K C (.type "type") m (He.ma K C m) (He5.wf K C "staticmethod" m) := by
  unfold smB at h
  obtain ⟨h1, h⟩ := He.ba h
  obtain ⟨h2, h⟩ := He.ba h
  obtain ⟨h3, h4⟩ := He.ba h
  obtain ⟨h5, h6⟩ := He5.wrapB_ok h3
  exact ⟨h1, of_decide_eq_true h2, h5, h6, h4⟩
/-- an error of one field -/
def xB (K : Frag) (x f : Str) : Bool := oexB K (He.ga K x) && ((He.Fa.glo x).ok K && (decide (PySem.W.findIn K (.ref (He.ga K x)) "__init__" = some (some (.ref (He.ma K (He.ga K x) "__init__")))) && (decide (PySem.W.typeIn K (.ref (He.ma K (He.ga K x) "__init__")) = some (.type "function")) && (He.Fa.noat x f).ok K)))
/-- a module's whole number -/
def farB (K : Frag) : Bool := match PySem.W.nsIn K mainGlobals "FARTHEST" with
  | some (some (.int 1000 _)) => true
  | _ => false
theorem farB_ok {K : Frag} (h : farB K = true) : ∃ t, PySem.W.nsIn K mainGlobals "FARTHEST" = some (some (.int 1000 t)) := by
  unfold farB at h
  split at h
  · rename_i t e
    exact ⟨t, e⟩
  · cases h
/-! ### the facts, by number -/
def exL : List (Frag → Bool) := [
  fun K => (He.Fa.free "isinstance").ok K, fun K => (He.Fa.free "int").ok K, fun K => (He.Fa.free "bool").ok K, fun K => (He.Fa.free "str").ok K, fun K => (He.Fa.free "abs").ok K, fun K => (He.Fa.free "len").ok K, fun K => (He.Fa.free "range").ok K,
  fun K => (He.Fa.free "enumerate").ok K, fun K => (He.Fa.free "list").ok K, fun K => (He.Fa.free "tuple").ok K,
  fun K => decide (PySem.W.nsIn K mainGlobals "gcd" = some (some (.builtin "math.gcd"))),
  fun K => cfB K "Ratio" ["top", "bottom"], fun K => cfB K "Stem" ["turn", "squared", "rise"], fun K => (He.Fa.glo "Ratio").ok K, fun K => (He.Fa.glo "Stem").ok K,
  fun K => ktB K (.type "int"), fun K => ktB K (.type "bool"), fun K => ktB K (.type "NoneType"), fun K => ktB K (.type "str"), fun K => ktB K (.type "tuple"), fun K => ktB K (.type "list"),
  fun K => decide (PySem.W.exmOne K (.ref (cX K "BadStem")) (.ref (cX K "BadStem")) = some true), fun K => decide (PySem.W.exmOne K (.ref (cX K "BadNumber")) (.ref (cX K "BadStem")) = some false), fun K => decide (PySem.W.exmOne K (.ref (cX K "BadNumber")) (.ref (cX K "BadNumber")) = some true),
  fun K => xfB K (cX K "BadStem"), fun K => xfB K (cX K "BadNumber"),
  fun K => xB K "BadRatio" "part", fun K => xB K "BadNumber" "part", fun K => xB K "BadStem" "part",
  fun K => PySem.W.notFirst K (cR K) (.ref (cR K)), fun K => decide (cT K ≠ cR K),
  fun K => opB K (cR K) "__add__" "__radd__", fun K => opB K (cR K) "__sub__" "__rsub__", fun K => opB K (cR K) "__mul__" "__rmul__",
  fun K => nmB K (cR K) "__eq__", fun K => propB K (cR K) "sign", fun K => propB K (cR K) "below", fun K => smB K (cR K) "of", fun K => metB K (cR K) "is_below", fun K => metB K (cR K) "compared",
  fun K => (He.Fa.mkr "Ratio").ok K, fun K => (He.Fa.mkr "Stem").ok K, farB, fun K => decide (PySem.W.findIn K (.ref (cR K)) "__ne__" = some (some (.builtin "object.__ne__")))]
end Sp
end
section
set_option Elab.async false
set_option linter.all false
set_option maxRecDepth 100000
set_option maxHeartbeats 0
namespace Sp
open PySem PySem.Spec PyProof.Rows L2
open PySem.W (Frag)
def fnL : List He5.DefA := [
  ⟨fun K => He.ga K "is_integer", "is_integer", "is_integer", defArgs (topS 10), defBody (topS 10), defScope (topS 10), [], []⟩,
  ⟨fun K => He.ga K "is_within", "is_within", "is_within", defArgs (topS 11), defBody (topS 11), defScope (topS 11), [], []⟩,
  ⟨fun K => He.ga K "need_integer", "need_integer", "need_integer", defArgs (topS 12), defBody (topS 12), defScope (topS 12), [], []⟩,
  ⟨fun K => He.ga K "need_within", "need_within", "need_within", defArgs (topS 13), defBody (topS 13), defScope (topS 13), [], []⟩,
  ⟨fun K => He.ga K "sign_of", "sign_of", "sign_of", defArgs (topS 22), defBody (topS 22), defScope (topS 22), [], []⟩,
  ⟨fun K => He.ga K "is_ratio", "is_ratio", "is_ratio", defArgs (topS 23), defBody (topS 23), defScope (topS 23), [], []⟩,
  ⟨fun K => He.ga K "at_right", "at_right", "at_right", defArgs (topS 24), defBody (topS 24), defScope (topS 24), [], []⟩,
  ⟨fun K => He.ga K "need_stem", "need_stem", "need_stem", defArgs (topS 29), defBody (topS 29), defScope (topS 29), [], []⟩,
  ⟨fun K => He.ga K "place", "place", "place", defArgs (topS 33), defBody (topS 33), defScope (topS 33), [], []⟩,
  ⟨fun K => He.ga K "nearest_rounds", "nearest_rounds", "nearest_rounds", defArgs (topS 34), defBody (topS 34), defScope (topS 34), [], []⟩,
  ⟨fun K => He.ga K "first_within", "first_within", "first_within", defArgs (topS 35), defBody (topS 35), defScope (topS 35), [], []⟩,
  ⟨fun K => He.ga K "is_between", "is_between", "is_between", defArgs (topS 36), defBody (topS 36), defScope (topS 36), [], []⟩,
  ⟨fun K => He.ga K "_law_purse", "_law_purse", "_law_purse", defArgs (topS 38), defBody (topS 38), defScope (topS 38), [], []⟩,
  ⟨fun K => He.ga K "_law_coin", "_law_coin", "_law_coin", defArgs (topS 39), defBody (topS 39), defScope (topS 39), [], []⟩,
  ⟨fun K => He.ga K "_law_of", "_law_of", "_law_of", defArgs (topS 40), defBody (topS 40), defScope (topS 40), [], []⟩,
  ⟨fun K => He.ga K "_law_stem", "_law_stem", "_law_stem", defArgs (topS 41), defBody (topS 41), defScope (topS 41), [], []⟩,
  ⟨fun K => He.ga K "_law_pair_right", "_law_pair_right", "_law_pair_right", defArgs (topS 42), defBody (topS 42), defScope (topS 42), [], []⟩,
  ⟨fun K => He.ga K "_law_divisor", "_law_divisor", "_law_divisor", defArgs (topS 43), defBody (topS 43), defScope (topS 43), [], []⟩,
  ⟨fun K => He.ga K "_law_pushed_right", "_law_pushed_right", "_law_pushed_right", defArgs (topS 44), defBody (topS 44), defScope (topS 44), [], []⟩,
  ⟨fun K => He.ga K "_law_stretch", "_law_stretch", "_law_stretch", defArgs (topS 45), defBody (topS 45), defScope (topS 45), [], []⟩,
  ⟨fun K => He.ga K "_law_first", "_law_first", "_law_first", defArgs (topS 46), defBody (topS 46), defScope (topS 46), [], []⟩,
  ⟨fun K => He.ga K "_law_within_right", "_law_within_right", "_law_within_right", defArgs (topS 47), defBody (topS 47), defScope (topS 47), [], []⟩,
  ⟨fun K => He.ga K "_law_heard", "_law_heard", "_law_heard", defArgs (topS 48), defBody (topS 48), defScope (topS 48), [], []⟩,
  ⟨fun K => He.ga K "_law_refused_right", "_law_refused_right", "_law_refused_right", defArgs (topS 49), defBody (topS 49), defScope (topS 49), [], []⟩,
  ⟨fun K => He.ga K "law", "law", "law", defArgs (topS 50), defBody (topS 50), defScope (topS 50), [], []⟩,
  ⟨fun K => He.ma K (He.ga K "Ratio") "__init__", "__init__", "Ratio.__init__", defArgs (inClass (topS 21) 0), defBody (inClass (topS 21) 0), defScope (inClass (topS 21) 0), [.int 1], []⟩,
  ⟨fun K => He.ma K (He.ga K "BadRatio") "__init__", "__init__", "BadRatio.__init__", defArgs (inClass (topS 4) 0), defBody (inClass (topS 4) 0), defScope (inClass (topS 4) 0), [], []⟩,
  ⟨fun K => He.ma K (He.ga K "BadNumber") "__init__", "__init__", "BadNumber.__init__", defArgs (inClass (topS 6) 0), defBody (inClass (topS 6) 0), defScope (inClass (topS 6) 0), [], []⟩,
  ⟨fun K => He.ma K (He.ga K "BadStem") "__init__", "__init__", "BadStem.__init__", defArgs (inClass (topS 5) 0), defBody (inClass (topS 5) 0), defScope (inClass (topS 5) 0), [], []⟩,
  ⟨fun K => He.ma K (He.ga K "Stem") "__init__", "__init__", "Stem.__init__", defArgs (inClass (topS 28) 0), defBody (inClass (topS 28) 0), defScope (inClass (topS 28) 0), [], []⟩,
  ⟨fun K => He.ma K (He.ga K "Ratio") "__add__", "__add__", "Ratio.__add__", defArgs (inClass (topS 21) 4), defBody (inClass (topS 21) 4), defScope (inClass (topS 21) 4), [], []⟩,
  ⟨fun K => He.ma K (He.ga K "Ratio") "__sub__", "__sub__", "Ratio.__sub__", defArgs (inClass (topS 21) 5), defBody (inClass (topS 21) 5), defScope (inClass (topS 21) 5), [], []⟩,
  ⟨fun K => He.ma K (He.ga K "Ratio") "__mul__", "__mul__", "Ratio.__mul__", defArgs (inClass (topS 21) 6), defBody (inClass (topS 21) 6), defScope (inClass (topS 21) 6), [], []⟩,
  ⟨fun K => He.ma K (He.ga K "Ratio") "compared", "compared", "Ratio.compared", defArgs (inClass (topS 21) 8), defBody (inClass (topS 21) 8), defScope (inClass (topS 21) 8), [], []⟩,
  ⟨fun K => He.ma K (He.ga K "Ratio") "is_below", "is_below", "Ratio.is_below", defArgs (inClass (topS 21) 9), defBody (inClass (topS 21) 9), defScope (inClass (topS 21) 9), [], []⟩,
  ⟨fun K => He.ma K (He.ga K "Ratio") "__eq__", "__eq__", "Ratio.__eq__", defArgs (inClass (topS 21) 13), defBody (inClass (topS 21) 13), defScope (inClass (topS 21) 13), [], []⟩,
  ⟨fun K => He5.wf K (He.ga K "Ratio") "staticmethod" "of", "of", "Ratio.of", defArgs (inClass (topS 21) 17), defBody (inClass (topS 21) 17), defScope (inClass (topS 21) 17), [], []⟩,
  ⟨fun K => He5.wf K (He.ga K "Ratio") "property" "sign", "sign", "Ratio.sign", defArgs (inClass (topS 21) 1), defBody (inClass (topS 21) 1), defScope (inClass (topS 21) 1), [], []⟩,
  ⟨fun K => He5.wf K (He.ga K "Ratio") "property" "below", "below", "Ratio.below", defArgs (inClass (topS 21) 3), defBody (inClass (topS 21) 3), defScope (inClass (topS 21) 3), [], []⟩]
def glL : List Str := (["is_integer", "is_within", "need_integer", "need_within", "sign_of", "is_ratio", "at_right", "need_stem", "place", "nearest_rounds", "first_within", "is_between"] : List Str) ++ (["_law_purse", "_law_coin", "_law_of", "_law_stem", "_law_pair_right", "_law_divisor", "_law_pushed_right", "_law_stretch", "_law_first", "_law_within_right", "_law_heard", "_law_refused_right"] : List Str) ++ (["law"] : List Str)
def tfL : List He.Defn := [("_law_refused_right", none)]
def kB (g : Addr → Option Obj) (n : Nat) : Frag := He.frT g (He5.asA g n)
def bB (g : Addr → Option Obj) (K : Frag) : Bool := (exL.all fun f => f K) && ((glL.all fun x => (He.Fa.glo x).ok K) && ((fnL.all fun d => d.ok K) && He.tabsB g tfL K))
def obsB (n : Nat) (g : Addr → Option Obj) : He.AlD := (bB g (kB g n), fnL.map fun d => He5.fnA (kB g n) (d.at_ (kB g n)))
def valB : He.AlD := (true, fnL.map He5.DefA.val)
structure SaysB (h : Heap) (K : Frag) : Prop where
  ex : ∀ f ∈ exL, f K = true
  gl : ∀ x ∈ glL, (He.Fa.glo x).ok K = true
  fn : ∀ d ∈ fnL, d.ok K = true ∧ He5.fnA K (d.at_ K) = d.val
  hd : ∀ p ∈ tfL, PySem.W.codeHdIn K (He.cT K p).1 (He.cT K p).2 = true
  out : ∀ p ∈ tfL, K.lookup (He.cT K p).2 = none
  empty : ∀ p ∈ tfL, h.get? (He.cT K p).2 = some { cls := .none, data := .fields #[] }
theorem map_eq {α β : Type} {f g : α → β} : ∀ {l : List α}, l.map f = l.map g → ∀ x ∈ l, f x = g x
  | [], _, x, h => by cases h
  | y :: l, e, x, h => by
    rw [List.map_cons, List.map_cons] at e
    injection e with e1 e2
    rcases List.mem_cons.mp h with rfl | h
    · exact e1
    · exact map_eq e2 x h
theorem saysB_of {n : Nat} {h : Heap} (e : obsB n h.get? = valB) : SaysB h (kB h.get? n) := by
  have e1 : bB h.get? (kB h.get? n) = true := congrArg (fun z : He.AlD => z.1) e
  have e2 : fnL.map (fun d => He5.fnA (kB h.get? n) (d.at_ (kB h.get? n))) = fnL.map He5.DefA.val := congrArg (fun z : He.AlD => z.2) e
  obtain ⟨h1, e1⟩ := He.ba e1
  obtain ⟨h2, e1⟩ := He.ba e1
  obtain ⟨h3, h4⟩ := He.ba e1
  have key : ∀ p ∈ tfL, PySem.W.codeHdIn (kB h.get? n) (He.cT (kB h.get? n) p).1 (He.cT (kB h.get? n) p).2 = true ∧ ∃ o, h.get? (He.cT (kB h.get? n) p).2 = some o ∧ He.emptyTab o = true := fun p hp => by
    obtain ⟨h5, h6⟩ := He.ba (List.all_eq_true.mp h4 p hp)
    refine ⟨h5, ?_⟩
    cases q : h.get? (He.cT (kB h.get? n) p).2 with
    | none =>
      rw [q] at h6
      cases h6
    | some o =>
      rw [q] at h6
      exact ⟨o, rfl, h6⟩
  exact ⟨fun f hf => List.all_eq_true.mp h1 f hf, fun x hx => List.all_eq_true.mp h2 x hx, fun d hd => ⟨List.all_eq_true.mp h3 d hd, map_eq e2 d hd⟩, fun p hp => (key p hp).1, fun p hp => by
    obtain ⟨_, o, q, z⟩ := key p hp
    exact He.frT_none q z, fun p hp => by
    obtain ⟨_, o, q, z⟩ := key p hp
    rw [q, He.emptyTab_eq z]⟩
def hookB (n : Nat) : PySem.W.Hook where
  α := He.AlD
  obs := fun s => obsB n s.heap.get?
  val := fun _ => valB
  says := fun _ h => ∃ K : Frag, K.In h ∧ SaysB h K
  of := fun _ _ e => ⟨_, He.frT_in, saysB_of e⟩
  keeps := fun _ _ _ ⟨K, hK, c⟩ k => ⟨K, PySem.W.Frag.In.keeps hK k, ⟨c.ex, c.gl, c.fn, c.hd, c.out, fun p hp => k _ _ (c.empty p hp)⟩⟩
theorem obsB_eq {n : Nat} {g : Addr → Option Obj} {s : Shared} (h : ∀ a, g a = s.heap.get? a) : obsB n g = (hookB n).obs s := by
  have e : g = s.heap.get? := funext h
  rw [e] <;> rfl
abbrev Rw : PySem.W.OpenRow := PySem.W.OpenLaw.row PySem.Challenge.rw_spiralsays_k14_who_stands_above_whom
abbrev qv : Program := PySem.W.view Rw.prog [0, 50]
def names : List Str := (["_wall", "__name__", "SpiralError", "BadRatio", "BadStem", "BadNumber", "BadText", "DIGITS", "is_integer", "is_within", "need_integer", "need_within"] : List Str) ++ (["MOST_DIGITS", "integer_of", "Words", "words_in", "read_whole", "Ratio", "sign_of", "is_ratio", "at_right", "ratio_of", "take_ratio", "Stem", "need_stem"] : List Str) ++ (["take_stem", "FARTHEST", "place", "nearest_rounds", "first_within", "is_between", "_law_purse", "_law_coin", "_law_of", "_law_stem", "_law_pair_right", "_law_divisor"] : List Str) ++ (["_law_pushed_right", "_law_stretch", "_law_first", "_law_within_right", "_law_heard", "_law_refused_right"] : List Str)
abbrev hk : PySem.W.Hook := hookB 5
def ob (s : PySem.W.SharedT) : He.AlD := obsB 5 (HandSHeadRun.getT s)
theorem ob_eq (s : PySem.W.SharedT) : ob s = hk.obs s.abs := obsB_eq (HandSHeadRun.getT_eq s)
end Sp
end
section
set_option Elab.async false
set_option linter.all false
set_option maxRecDepth 100000
set_option maxHeartbeats 0
namespace Sp
open PySem PySem.Spec PyProof.Rows L2 HandSHeadRun PySem.W PySem.Calls
theorem runA (w : World) : (wholeF (fun p => stepQ (denQ tabQ) p w) fenceQ 30000 Rw.prog).map (fun x => (looksF Rw.prog x.1.heap x.2.abs, seenQ qv names (importedModules Rw.prog.main.body) (fun s => xlAt qv [] s && recOk Rw.toRowW.records s) x.2.abs)) = some (true, openGood qv names) := by
  kernel_rfl
theorem runB (w : World) : (wholeF (fun p => stepQ (denQ tabQ) p w) fenceQ 30000 Rw.prog).map (fun x => ob x.2) = some valB := by
  kernel_rfl
theorem join3 {A B C D : Type} {o : Option A} {f : A → B} {g : A → C} {h : A → D} {b : B} {c : C} {d : D} (a : o.map (fun x => (f x, g x)) = some (b, c)) (e : o.map (fun x => h x) = some d) : o.map (fun x => (f x, g x, h x)) = some (b, c, d) := by
  cases o with
  | none => cases a
  | some x =>
    have a1 : (f x, g x) = (b, c) := Option.some.inj a
    have e1 : h x = d := Option.some.inj e
    injection a1 with a2 a3
    show some (f x, g x, h x) = some (b, c, d)
    rw [a2, a3, e1]
theorem run (w : World) : RunEqI Rw qv hk ob 30000 names w := by
  delta HandSHeadRun.RunEqI
  exact join3 (runA w) (runB w)
end Sp
end
section
set_option Elab.async false
set_option linter.all false
set_option exponentiation.threshold 5000
set_option maxRecDepth 100000
set_option maxHeartbeats 0
local macro_rules | `(tactic| walk_at "leaf") => `(tactic| first | rfl | assumption | exact True.intro | exact L2.upd_same | exact L2.ClsV.ty _ | exact L2.ClsV.own _ | decide | exact of_decide_eq_true rfl | exact L2.SqL.of (by assumption) | exact L2.SqL.of L2.upd_same | exact Or.inl (L2.SqL.of L2.upd_same) | exact Or.inl (L2.SqL.of (by assumption)) | exact L2.SqT.of (by assumption) | exact L2.SqT.of L2.upd_same | exact Sp.cmL (by decide) | exact Sp.cmR (by decide) | exact ⟨by decide, by decide, by decide⟩ | exact ⟨by decide, by decide⟩ | exact Or.inr (L2.SqT.of (by assumption)) | exact Or.inl ⟨rfl, _, L2.SqL.of (by assumption)⟩ | exact Or.inl ⟨rfl, _, L2.SqL.of L2.upd_same⟩ | omega | fail)
local macro_rules | `(tactic| walk_at "rd1") => `(tactic| first
  | refine Sp.rbR (by assumption) (by assumption) (by assumption) (by assumption) ?_
  | apply Sp.exI
  | (refine And.intro ?lf ?_; (case lf => walk_at "leaf"))
  | fail)
local macro_rules | `(tactic| walk_at "rd") => `(tactic| repeat (walk_at "rd1"))
local macro_rules | `(tactic| walk_at "fR") => `(tactic| (have := (‹Sp.G0 _ _›).R.cl; have := (‹Sp.G0 _ _›).R.no "top" (by simp); have := (‹Sp.G0 _ _›).R.no "bottom" (by simp)))
local macro_rules | `(tactic| walk_at "fT") => `(tactic| (have := (‹Sp.G0 _ _›).T.cl; have := (‹Sp.G0 _ _›).T.no "turn" (by simp); have := (‹Sp.G0 _ _›).T.no "squared" (by simp); have := (‹Sp.G0 _ _›).T.no "rise" (by simp)))
namespace Sp
open PySem PySem.Spec PyProof.Rows L2
section
variable {P : Program} {w : World} {K : PySem.W.Frag} {mg : Str → Option Value} {base : Heap} {f : Addr} {fd : FuncData}
variable (g_is_integer : GD P w K mg base (L2.CX P w) 1 "is_integer" ["value"] [] (spIsInt K)) (g_sign_of : GD P w K mg base (L2.CX P w) 1 "sign_of" ["number"] [] spSign)
  (g_is_ratio : GD P w K mg base (L2.CX P w) 2 "is_ratio" ["value"] [] (spIsRat K)) (g_at_right : GD P w K mg base (L2.CX P w) 6 "at_right" ["value"] [] (spOf K))
  (g_xBadRatio : GX P w K mg base 1 "BadRatio" "part" (cX K "BadRatio")) (g_xBadNumber : GX P w K mg base 1 "BadNumber" "part" (cX K "BadNumber")) (g_xBadStem : GX P w K mg base 1 "BadStem" "part" (cX K "BadStem"))
  (g_mRatio : GM P w K mg base (L2.CX P w) 3 "Ratio" (cR K) ["self", "top", "bottom"] [] (spInitR K)) (g_mRatio1 : GM P w K mg base (L2.CX P w) 3 "Ratio" (cR K) ["self", "top", "bottom"] [.int 1] (spInitR K))
  (g_Ratio_of : GS P w K mg base (L2.CX P w) 5 (cR K) "of" (spOf K)) (g_R_compared : GH P w K mg base (L2.CX P w) 7 (cR K) "compared" ["self", "other"] (spCmp K))
variable (g_radd : GO P w K mg base (L2.CX P w) 7 (cR K) .Add (spBinR K (· + ·))) (g_rsub : GO P w K mg base (L2.CX P w) 7 (cR K) .Sub (spBinR K (· - ·))) (g_rmul : GO P w K mg base (L2.CX P w) 7 (cR K) .Mult (spBinR K (· * ·)))
  (g_req : GN P w K mg base (L2.CX P w) 2 (cR K) "__eq__" (spEqR K)) (g_R_sign : GP P w K mg base (L2.CX P w) 2 (cR K) "sign" (spSgn K)) (g_R_below : GP P w K mg base (L2.CX P w) 1 (cR K) "below" (spFlr K)) (g_R_is_below : GH P w K mg base (L2.CX P w) 8 (cR K) "is_below" ["self", "other"] (spBelow K))
variable (g_mStem : GM P w K mg base (L2.CX P w) 8 "Stem" (cT K) ["self", "turn", "squared"] [] (spInitT K)) (g_need_stem : GD P w K mg base (L2.CX P w) 3 "need_stem" ["value", "part"] [] (spNeedT K)) (g_need_integer : GD P w K mg base (L2.CX P w) 3 "need_integer" ["value", "part"] [] spNeedI)
  (g_is_within : GD P w K mg base (L2.CX P w) 2 "is_within" ["value", "least", "most"] [] (spInW K)) (g_need_within : GD P w K mg base (L2.CX P w) 3 "need_within" ["value", "least", "most", "part"] [] (spNeedW K))
  (g_place : GD P w K mg base (L2.CX P w) 8 "place" ["stem", "stud"] [] (spPlace K)) (g_nearest_rounds : GD P w K mg base (L2.CX P w) 9 "nearest_rounds" ["stem", "stud"] [] (spNRs K))
  (g_is_between : GD P w K mg base (L2.CX P w) 9 "is_between" ["least", "ratio"] [] (spBetw K)) (g_first_within : GD P w K mg base (L2.CX P w) 10 "first_within" ["stem", "low", "high", "most"] [] (spFW K))
variable (g_l_coin : GD P w K mg base (L2.CX P w) 1 "_law_coin" ["_law_purse_here", "_law_many"] [] spDip) (g_l_purse : GD P w K mg base (L2.CX P w) 1 "_law_purse" ["_law_script"] [] (spPail K)) (g_l_of : GD P w K mg base (L2.CX P w) 2 "_law_of" ["_law_purse_here", "_law_some"] [] spOfL)
  (g_l_stem : GD P w K mg base (L2.CX P w) 3 "_law_stem" ["_law_purse_here"] [] spStemL) (g_l_divisor : GD P w K mg base (L2.CX P w) 1 "_law_divisor" ["_law_one", "_law_other"] [] spDiv) (g_l_first : GD P w K mg base (L2.CX P w) 1 "_law_first" ["_law_p", "_law_q", "_law_low", "_law_high", "_law_under", "_law_most"] [] spFirstL)
  (g_l_stretch : GD P w K mg base (L2.CX P w) 3 "_law_stretch" ["_law_purse_here", "_law_p", "_law_q"] [] spStretch) (g_l_pair_right : GD P w K mg base (L2.CX P w) 11 "_law_pair_right" ["_law_purse_here", "_law_plain", "_law_stem_here"] [] (spAsk K))
  (g_l_within_right : GD P w K mg base (L2.CX P w) 11 "_law_within_right" ["_law_purse_here", "_law_plain", "_law_stem_here"] [] (spAsk K)) (g_l_pushed_right : GD P w K mg base (L2.CX P w) 11 "_law_pushed_right" ["_law_purse_here", "_law_plain", "_law_stem_here"] [] (spAsk K))
  (g_rne : GNe P w K mg base (L2.CX P w) 2 (cR K) (spEqR K)) (g_first_within_k : GDK P w K mg base (L2.CX P w) 10 "first_within" ["stem", "low", "high", "most"] 4 [0, 1, 2, 3] (spFW K)) (g_first_within_m : GDM P w K mg base (L2.CX P w) 10 "first_within" ["high", "most"] 2 2 (spFW K))

theorem sc_isInt : FnScope ["value"] ["value"] (defScope (topS 10)) := ⟨rfl, rfl, rfl, by decide +kernel, rfl, by decide +kernel, by decide +kernel⟩
theorem ok_isInt (G : G0 K mg) (F : FP K "is_integer" "is_integer" (topS 10) [] f fd) : FnOk P w K mg base (L2.CX P w) 1 f fd ["value"] (spIsInt K) := by
  have nd := sc_isInt.nd
  refine F.ok sc_isInt (fun vs H Q E h => by obtain ⟨v, t, rfl, _⟩ := h; rfl) (fun cdv A outer s H vs Q E hr h => ⟨_, pss_one (ps_ret (pe_and (pe_callB call_isi rfl G.nm.isinstance (by decide +kernel) (pa_cons (pv 0) (pa_cons ((pe_bltn (v := .ty "int") (u := .type "int") rfl G.nm.int PyProof.Rows.Boot.«int» rfl)) (pa_nil)))) (pe_one (pe_not (pe_callB call_isi rfl G.nm.isinstance (by decide +kernel) (pa_cons (pv 0) (pa_cons ((pe_bltn (v := .ty "bool") (u := .type "bool") rfl G.nm.bool PyProof.Rows.Boot.«bool» rfl)) (pa_nil)))))))), ?_⟩)
  obtain ⟨v, t, rfl, ⟨ty, k⟩, q⟩ := h
  have k1 := k.int
  have k2 := k.bool
  walk_at "rd"
  by_cases h1 : t = .type "int"
  · subst h1
    walk_at "rd"
    exact q
  · have e : decide (t = Value.type "int") = false := decide_eq_false h1
    rw [e] at q ⊢
    by_cases h2 : t = .type "bool"
    · subst h2
      walk_at "rd"
      exact q
    · rw [decide_eq_false h2]
      exact q
theorem sc_sign : FnScope ["number"] ["number"] (defScope (topS 22)) := ⟨rfl, rfl, rfl, by decide +kernel, rfl, by decide +kernel, by decide +kernel⟩
theorem ok_sign (F : FP K "sign_of" "sign_of" (topS 22) [] f fd) : FnOk P w K mg base (L2.CX P w) 1 f fd ["number"] spSign := by
  have nd := sc_sign.nd
  refine F.ok sc_sign (fun vs H Q E h => by obtain ⟨v, rfl, _⟩ := h; rfl) (fun cdv A outer s H vs Q E hr h => ⟨_, pss_cons (ps_if (pt_cmpR op_lt (pv 0) (pe_int) (nomark _)) (pss_one (ps_ret (pe_un un_neg (pe_int)))) (pss_nil)) (pss_one (ps_ret (pe_ifExp (pt_cmpR op_gt (pv 0) (pe_int) (nomark _)) (pe_int) (pe_int)))), ?_⟩)
  obtain ⟨n, rfl, q⟩ := h
  walk_at "rd"
  refine iteP (fun h1 => ?_) (fun h1 => ?_)
  · have : n.sign = -1 := Int.sign_eq_neg_one_of_neg (of_decide_eq_true h1)
    rw [this] at q
    walk_at "rd"
    exact q
  · have h1 : ¬ n < 0 := fun z => h1 (decide_eq_true z)
    walk_at "rd"
    refine iteP (fun h2 => ?_) (fun h2 => ?_)
    · rw [Int.sign_eq_one_of_pos (of_decide_eq_true h2)] at q
      exact q
    · have : n = 0 := by
        have h2 : ¬ 0 < n := fun z => h2 (decide_eq_true z)
        omega
      subst this
      exact q


theorem sc_isRat : FnScope ["value"] ["value"] (defScope (topS 23)) := ⟨rfl, rfl, rfl, by decide +kernel, rfl, by decide +kernel, by decide +kernel⟩
include g_is_integer in
theorem ok_isRat (G : G0 K mg) (F : FP K "is_ratio" "is_ratio" (topS 23) [] f fd) : FnOk P w K mg base (L2.CX P w) 2 f fd ["value"] (spIsRat K) := by
  have nd := sc_isRat.nd
  refine F.ok sc_isRat (fun vs H Q E h => by obtain ⟨_, _, rfl, _⟩ := h; rfl) (fun cdv A outer s H vs Q E hr h => ⟨_, pss_one (ps_ret (pe_or (pe_callB call_isi rfl G.nm.isinstance (by decide +kernel) (pa_cons (pv 0) (pa_cons ((pe_glob (v := .ref (cR K)) rfl G.mgRatio rfl)) (pa_nil)))) (pe_one (pe_gd g_is_integer (hr.mono (by decide)) rfl (pxE rfl rfl rfl rfl) (pa_cons (pv 0) (pa_nil)))))), ?_⟩)
  obtain ⟨v, t, rfl, ty, q⟩ := h
  have k1 := ty.2.R
  have k2 := ty.1
  walk_at "rd"
  cases e : decide (t = .ref (cR K)) with
  | true =>
    rw [e] at q
    exact q
  | false =>
    rw [e] at q
    walk_at "rd"
    exact q
theorem sc_initR : FnScope ["self", "top", "bottom", "common"] ["self", "top", "bottom"] (defScope (inClass (topS 21) 0)) := ⟨rfl, rfl, rfl, by decide +kernel, rfl, by decide +kernel, by decide +kernel⟩
include g_is_integer g_xBadRatio in
theorem ok_initR (G : G0 K mg) (F : FP K "__init__" "Ratio.__init__" (inClass (topS 21) 0) [.int 1] f fd) : FnOk P w K mg base (L2.CX P w) 3 f fd ["self", "top", "bottom"] (spInitR K) := by
  have nd := sc_initR.nd
  refine F.ok sc_initR (fun vs H Q E h => by obtain ⟨_, _, _, _, rfl, _⟩ := h; rfl) (fun cdv A outer s H vs Q E hr h => ⟨_, pss_cons (ps_if (pt_not (pt_val (pe_gd g_is_integer (hr.mono (by decide)) rfl (pxE rfl rfl rfl rfl) (pa_cons (pv 1) (pa_nil))))) (pss_one (ps_raise rfl (takes_of rfl rfl rfl rfl) (pmk1 g_xBadRatio (hr.mono (by decide)) rfl (pa_cons (pe_str) (pa_nil))))) (pss_nil)) (pss_cons (ps_if (PW.pt (pw_or (pt_not (pt_val (pe_gd g_is_integer (hr.mono (by decide)) rfl (pxE rfl rfl rfl rfl) (pa_cons (pv 2) (pa_nil))))) (pw_or1 (pt_cmpR op_eq (pv 2) (pe_int) (nomark _))))) (pss_one (ps_raise rfl (takes_of rfl rfl rfl rfl) (pmk1 g_xBadRatio (hr.mono (by decide)) rfl (pa_cons (pe_str) (pa_nil))))) (pss_nil)) (pss_cons (ps_set (i := 3) nd rfl (Or.inl rfl) (pe_ifExp (pt_cmpR op_gt (pv 2) (pe_int) (nomark _)) (pe_callBfun cr_gcd rfl G.gcd (pa_cons (pv 1) (pa_cons (pv 2) (pa_nil)))) (pe_un un_neg (pe_callBfun cr_gcd rfl G.gcd (pa_cons (pv 1) (pa_cons (pv 2) (pa_nil))))))) (pss_cons (ps_fld (pv 0) (pe_op op_fdivB (pv 1) (pv 3)) rfl) (pss_one (ps_fld (pv 0) (pe_op op_fdivB (pv 2) (pv 3)) rfl))))), ?_⟩)
  obtain ⟨a, dx, t, b, rfl, ha, hb, s1, s2, q⟩ := h
  have t1 := G.tInt (H := H) t
  have t2 := G.tInt (H := H) b
  have cl := G.R.cl
  have n1 : NoAttr K (cR K) "top" := G.R.no _ (by simp)
  have n2 : NoAttr K (cR K) "bottom" := G.R.no _ (by simp)
  have hd : ∀ x, CDivB x (comm t b) := fun x => ⟨comm_ne hb, by
    have h1 := comm_le (a := t) hb
    have h2 : (2 : Nat) ^ 3900 ≤ 2 ^ 4000 := Nat.pow_le_pow_right (by decide) (by decide)
    omega⟩
  have fin : ∀ g : Int, g = comm t b → Q .non (upd (upd H a (.ins (cR K) dx [("top", .int (t.fdiv g))])) a (.ins (cR K) dx [("top", .int (t.fdiv g)), ("bottom", .int (b.fdiv g))])) := by
    intro g e
    subst e
    refine q _ (fun c o nc hc => ?_) ?_
    · rw [upd_ne nc, upd_ne nc]
      exact hc
    · rw [upd_same, comm_num hb, comm_den hb]
  walk_at "rd"
  refine iteP (fun h1 => absurd (by simpa using h1) hb) (fun _ => ?_)
  walk_at "rd"
  refine iteP (fun h2 => ?_) (fun h2 => ?_)
  · have e : ((Nat.gcd t.natAbs b.natAbs : Nat) : Int) = comm t b := by
      unfold comm
      rw [if_pos (of_decide_eq_true h2)]
    have d1 : CDivB t ((Nat.gcd t.natAbs b.natAbs : Nat) : Int) := e ▸ hd t
    have d2 : CDivB b ((Nat.gcd t.natAbs b.natAbs : Nat) : Int) := e ▸ hd b
    have u1 : ∀ {o}, (upd H a o) a = some o := upd_same
    walk_at "rd"
    exact fin _ e
  · have e : -((Nat.gcd t.natAbs b.natAbs : Nat) : Int) = comm t b := by
      unfold comm
      rw [if_neg (fun z => h2 (decide_eq_true z))]
    have d1 : CDivB t (-((Nat.gcd t.natAbs b.natAbs : Nat) : Int)) := e ▸ hd t
    have d2 : CDivB b (-((Nat.gcd t.natAbs b.natAbs : Nat) : Int)) := e ▸ hd b
    walk_at "rd"
    exact fin _ e
theorem sc_of : FnScope ["value"] ["value"] (defScope (inClass (topS 21) 17)) := ⟨rfl, rfl, rfl, by decide +kernel, rfl, by decide +kernel, by decide +kernel⟩
include g_is_ratio g_mRatio1 g_xBadRatio in
theorem ok_of (G : G0 K mg) (F : FP K "of" "Ratio.of" (inClass (topS 21) 17) [] f fd) : FnOk P w K mg base (L2.CX P w) 5 f fd ["value"] (spOf K) := by
  have nd := sc_of.nd
  refine F.ok sc_of (fun vs H Q E h => by obtain ⟨_, _, rfl, _⟩ := h; rfl) (fun cdv A outer s H vs Q E hr h => ⟨_, pss_cons (ps_if (pt_not (pt_val (pe_gd g_is_ratio (hr.mono (by decide)) rfl (pxE rfl rfl rfl rfl) (pa_cons (pv 0) (pa_nil))))) (pss_one (ps_raise rfl (takes_of rfl rfl rfl rfl) (pmk1 g_xBadRatio (hr.mono (by decide)) rfl (pa_cons (pe_str) (pa_nil))))) (pss_nil)) (pss_one (ps_ret (pe_ifExp (pt_val (pe_callB call_isi rfl G.nm.isinstance (by decide +kernel) (pa_cons (pv 0) (pa_cons ((pe_glob (v := .ref (cR K)) rfl G.mgRatio rfl)) (pa_nil))))) (pv 0) (pe_gm g_mRatio1 (hr.mono (by decide)) rfl (pxE rfl rfl rfl rfl) (pa_cons (pv 0) (pa_nil)))))), ?_⟩)
  obtain ⟨v, q, rfl, rv, sz, k⟩ := h
  rcases rv with ⟨p, rfl, r⟩ | ⟨i, rfl, rfl⟩
  · have ty := G.tR r
    have k1 := ty.2.R
    have k2 := ty.1
    walk_at "rd"
    refine iteP (fun h1 => absurd h1 (by simp)) (fun h1 => ?_)
    walk_at "rd"
    refine iteP (fun h2 => ?_) (fun h2 => absurd (by simp) h2)
    walk_at "rd"
    exact k p H (fun _ _ z => z) r
  · have ty := G.tInt (H := H) i
    have k1 := ty.2.R
    have k2 := ty.1
    walk_at "rd"
    exact makeR1 (by have := sz.1; rw [Rat.num_intCast] at this; exact this) fun p H' s _ r => k p H' s r
theorem sc_atRight : FnScope ["value"] ["value"] (defScope (topS 24)) := ⟨rfl, rfl, rfl, by decide +kernel, rfl, by decide +kernel, by decide +kernel⟩
include g_Ratio_of g_is_ratio g_xBadRatio in
theorem ok_atRight (G : G0 K mg) (F : FP K "at_right" "at_right" (topS 24) [] f fd) : FnOk P w K mg base (L2.CX P w) 6 f fd ["value"] (spOf K) := by
  have nd := sc_atRight.nd
  refine F.ok sc_atRight (fun vs H Q E h => by obtain ⟨_, _, rfl, _⟩ := h; rfl) (fun cdv A outer s H vs Q E hr h => ⟨_, pss_cons (ps_if (pt_not (pt_val (pe_gd g_is_ratio (hr.mono (by decide)) rfl (pxE rfl rfl rfl rfl) (pa_cons (pv 0) (pa_nil))))) (pss_one (ps_raise rfl (takes_of rfl rfl rfl rfl) (pmk1 g_xBadRatio (hr.mono (by decide)) rfl (pa_cons (pe_str) (pa_nil))))) (pss_nil)) (pss_one (ps_ret (pe_gs (pe_glob (v := .ref (cR K)) rfl G.mgRatio rfl) g_Ratio_of (hr.mono (by decide)) (pxE rfl rfl rfl rfl) (pa_cons (pv 0) (pa_nil))))), ?_⟩)
  obtain ⟨v, q, rfl, rv, sz, k⟩ := h
  obtain ⟨t, ty, e⟩ := G.tRV rv
  walk_at "rd"
  refine iteP (fun h1 => ?_) (fun h1 => ?_)
  · rw [e] at h1
    cases h1
  · walk_at "rd"
    exact k
theorem sc_add : FnScope ["self", "other", "right"] ["self", "other"] (defScope (inClass (topS 21) 4)) := ⟨rfl, rfl, rfl, by decide +kernel, rfl, by decide +kernel, by decide +kernel⟩
include g_at_right g_mRatio in
theorem ok_add (G : G0 K mg) (F : FP K "__add__" "Ratio.__add__" (inClass (topS 21) 4) [] f fd) : FnOk P w K mg base (L2.CX P w) 7 f fd ["self", "other"] (spBinR K (· + ·)) := by
  have nd := sc_add.nd
  refine F.ok sc_add (fun vs H Q E h => by obtain ⟨_, _, _, _, rfl, _⟩ := h; rfl) (fun cdv A outer s H vs Q E hr h => ⟨_, pss_cons (ps_set (i := 2) nd rfl (Or.inl rfl) (pe_gd g_at_right (hr.mono (by decide)) rfl (pxE rfl rfl rfl rfl) (pa_cons (pv 1) (pa_nil)))) (pss_one (ps_ret (pe_gm g_mRatio (hr.mono (by decide)) rfl (pxE rfl rfl rfl rfl) (pa_cons (pe_op op_add (pe_op op_mulB (pe_fld (pv 0) rfl) (pe_fld (pv 2) rfl)) (pe_op op_mulB (pe_fld (pv 2) rfl) (pe_fld (pv 0) rfl))) (pa_cons (pe_op op_mulB (pe_fld (pv 0) rfl) (pe_fld (pv 2) rfl)) (pa_nil)))))), ?_⟩)
  obtain ⟨a, v, q1, q2, rfl, r1, r2, z1, z2, k⟩ := h
  have z2' : Sz q2 3900 := z2.mono
  walk_at "rd"
  intro p H' sm r
  obtain ⟨dx, r⟩ := r
  obtain ⟨dx1, r1⟩ := r1.ext sm
  walk_at "fR"
  obtain ⟨m1, m2, m3, m4⟩ := szm z1 z2
  walk_at "rd"
  exact makeR (dd_ne q1 q2) (nb_add (nb_mul z1.1 z2.d) (nb_mul z2.1 z1.d)) (nb_le (nb_mul z1.d z2.d)) fun p' H'' sm' _ r' => k p' H'' (sm.trans sm') (by rw [add_eq] at r'; exact r')
theorem sc_sub : FnScope ["self", "other", "right"] ["self", "other"] (defScope (inClass (topS 21) 5)) := ⟨rfl, rfl, rfl, by decide +kernel, rfl, by decide +kernel, by decide +kernel⟩
include g_at_right g_mRatio in
theorem ok_sub (G : G0 K mg) (F : FP K "__sub__" "Ratio.__sub__" (inClass (topS 21) 5) [] f fd) : FnOk P w K mg base (L2.CX P w) 7 f fd ["self", "other"] (spBinR K (· - ·)) := by
  have nd := sc_sub.nd
  refine F.ok sc_sub (fun vs H Q E h => by obtain ⟨_, _, _, _, rfl, _⟩ := h; rfl) (fun cdv A outer s H vs Q E hr h => ⟨_, pss_cons (ps_set (i := 2) nd rfl (Or.inl rfl) (pe_gd g_at_right (hr.mono (by decide)) rfl (pxE rfl rfl rfl rfl) (pa_cons (pv 1) (pa_nil)))) (pss_one (ps_ret (pe_gm g_mRatio (hr.mono (by decide)) rfl (pxE rfl rfl rfl rfl) (pa_cons (pe_op op_sub (pe_op op_mulB (pe_fld (pv 0) rfl) (pe_fld (pv 2) rfl)) (pe_op op_mulB (pe_fld (pv 2) rfl) (pe_fld (pv 0) rfl))) (pa_cons (pe_op op_mulB (pe_fld (pv 0) rfl) (pe_fld (pv 2) rfl)) (pa_nil)))))), ?_⟩)
  obtain ⟨a, v, q1, q2, rfl, r1, r2, z1, z2, k⟩ := h
  have z2' : Sz q2 3900 := z2.mono
  walk_at "rd"
  intro p H' sm r
  obtain ⟨dx, r⟩ := r
  obtain ⟨dx1, r1⟩ := r1.ext sm
  walk_at "fR"
  obtain ⟨m1, m2, m3, m4⟩ := szm z1 z2
  walk_at "rd"
  exact makeR (dd_ne q1 q2) (nb_sub (nb_mul z1.1 z2.d) (nb_mul z2.1 z1.d)) (nb_le (nb_mul z1.d z2.d)) fun p' H'' sm' _ r' => k p' H'' (sm.trans sm') (by rw [sub_eq] at r'; exact r')
theorem sc_mul : FnScope ["self", "other", "right"] ["self", "other"] (defScope (inClass (topS 21) 6)) := ⟨rfl, rfl, rfl, by decide +kernel, rfl, by decide +kernel, by decide +kernel⟩
include g_at_right g_mRatio in
theorem ok_mul (G : G0 K mg) (F : FP K "__mul__" "Ratio.__mul__" (inClass (topS 21) 6) [] f fd) : FnOk P w K mg base (L2.CX P w) 7 f fd ["self", "other"] (spBinR K (· * ·)) := by
  have nd := sc_mul.nd
  refine F.ok sc_mul (fun vs H Q E h => by obtain ⟨_, _, _, _, rfl, _⟩ := h; rfl) (fun cdv A outer s H vs Q E hr h => ⟨_, pss_cons (ps_set (i := 2) nd rfl (Or.inl rfl) (pe_gd g_at_right (hr.mono (by decide)) rfl (pxE rfl rfl rfl rfl) (pa_cons (pv 1) (pa_nil)))) (pss_one (ps_ret (pe_gm g_mRatio (hr.mono (by decide)) rfl (pxE rfl rfl rfl rfl) (pa_cons (pe_op op_mulB (pe_fld (pv 0) rfl) (pe_fld (pv 2) rfl)) (pa_cons (pe_op op_mulB (pe_fld (pv 0) rfl) (pe_fld (pv 2) rfl)) (pa_nil)))))), ?_⟩)
  obtain ⟨a, v, q1, q2, rfl, r1, r2, z1, z2, k⟩ := h
  have z2' : Sz q2 3900 := z2.mono
  walk_at "rd"
  intro p H' sm r
  obtain ⟨dx, r⟩ := r
  obtain ⟨dx1, r1⟩ := r1.ext sm
  walk_at "fR"
  obtain ⟨m1, m2, m3, m4⟩ := szm z1 z2
  walk_at "rd"
  exact makeR (dd_ne q1 q2) (nb_le (nb_mul z1.1 z2.1)) (nb_le (nb_mul z1.d z2.d)) fun p' H'' sm' _ r' => k p' H'' (sm.trans sm') (by rw [mul_eq] at r'; exact r')
theorem sc_cmp : FnScope ["self", "other", "right"] ["self", "other"] (defScope (inClass (topS 21) 8)) := ⟨rfl, rfl, rfl, by decide +kernel, rfl, by decide +kernel, by decide +kernel⟩
include g_at_right g_sign_of in
theorem ok_cmp (G : G0 K mg) (F : FP K "compared" "Ratio.compared" (inClass (topS 21) 8) [] f fd) : FnOk P w K mg base (L2.CX P w) 7 f fd ["self", "other"] (spCmp K) := by
  have nd := sc_cmp.nd
  refine F.ok sc_cmp (fun vs H Q E h => by obtain ⟨_, _, _, _, rfl, _⟩ := h; rfl) (fun cdv A outer s H vs Q E hr h => ⟨_, pss_cons (ps_set (i := 2) nd rfl (Or.inl rfl) (pe_gd g_at_right (hr.mono (by decide)) rfl (pxE rfl rfl rfl rfl) (pa_cons (pv 1) (pa_nil)))) (pss_one (ps_ret (pe_gd g_sign_of (hr.mono (by decide)) rfl (pxE rfl rfl rfl rfl) (pa_cons (pe_op op_sub (pe_op op_mulB (pe_fld (pv 0) rfl) (pe_fld (pv 2) rfl)) (pe_op op_mulB (pe_fld (pv 2) rfl) (pe_fld (pv 0) rfl))) (pa_nil))))), ?_⟩)
  obtain ⟨a, v, q1, q2, rfl, r1, r2, z1, z2, k⟩ := h
  have z2' : Sz q2 3900 := z2.mono
  walk_at "rd"
  intro p H' sm r
  obtain ⟨dx, r⟩ := r
  obtain ⟨dx1, r1⟩ := r1.ext sm
  walk_at "fR"
  obtain ⟨m1, m2, m3, m4⟩ := szm z1 z2
  walk_at "rd"
  exact k H' sm
theorem sc_below : FnScope ["self", "other"] ["self", "other"] (defScope (inClass (topS 21) 9)) := ⟨rfl, rfl, rfl, by decide +kernel, rfl, by decide +kernel, by decide +kernel⟩
include g_R_compared in
theorem ok_below (G : G0 K mg) (F : FP K "is_below" "Ratio.is_below" (inClass (topS 21) 9) [] f fd) : FnOk P w K mg base (L2.CX P w) 8 f fd ["self", "other"] (spBelow K) := by
  have nd := sc_below.nd
  refine F.ok sc_below (fun vs H Q E h => by obtain ⟨_, _, _, _, rfl, _⟩ := h; rfl) (fun cdv A outer s H vs Q E hr h => ⟨_, pss_one (ps_ret (pe_cmpR op_lt (pe_gh (pv 0) G.R.cl g_R_compared (hr.mono (by decide)) (pxE rfl rfl rfl rfl) (pa_cons (pv 1) (pa_nil))) (pe_int) (nomark _))), ?_⟩)
  obtain ⟨a, v, q1, q2, rfl, r1, r2, z1, z2, k⟩ := h
  obtain ⟨dx1, r1'⟩ := r1
  have r1 : IsR K H a q1 := ⟨dx1, r1'⟩
  walk_at "rd"
  intro H' sm
  have := k H' sm
  rw [← below_eq] at this
  walk_at "rd"
  exact this
theorem sc_eqR : FnScope ["self", "other"] ["self", "other"] (defScope (inClass (topS 21) 13)) := ⟨rfl, rfl, rfl, by decide +kernel, rfl, by decide +kernel, by decide +kernel⟩
include g_is_integer in
theorem ok_eqR (G : G0 K mg) (F : FP K "__eq__" "Ratio.__eq__" (inClass (topS 21) 13) [] f fd) : FnOk P w K mg base (L2.CX P w) 2 f fd ["self", "other"] (spEqR K) := by
  have nd := sc_eqR.nd
  refine F.ok sc_eqR (fun vs H Q E h => by obtain ⟨_, _, _, _, rfl, _⟩ := h; rfl) (fun cdv A outer s H vs Q E hr h => ⟨_, pss_cons (ps_if (pt_val (pe_callB call_isi rfl G.nm.isinstance (by decide +kernel) (pa_cons (pv 1) (pa_cons ((pe_glob (v := .ref (cR K)) rfl G.mgRatio rfl)) (pa_nil))))) (pss_one (ps_ret (pe_and (pe_cmpR op_eq (pe_fld (pv 0) rfl) (pe_fld (pv 1) rfl) (nomark _)) (pe_one (pe_cmpR op_eq (pe_fld (pv 0) rfl) (pe_fld (pv 1) rfl) (nomark _)))))) (pss_nil)) (pss_one (ps_ret (pe_and (pe_gd g_is_integer (hr.mono (by decide)) rfl (pxE rfl rfl rfl rfl) (pa_cons (pv 1) (pa_nil))) (pe_and (pe_cmpR op_eq (pe_fld (pv 0) rfl) (pe_int) (nomark _)) (pe_one (pe_cmpR op_eq (pe_fld (pv 0) rfl) (pv 1) (nomark _))))))), ?_⟩)
  obtain ⟨a, v, q1, q2, rfl, ⟨dx1, r1⟩, r2, k⟩ := h
  walk_at "fR"
  rcases r2 with ⟨p, rfl, r2⟩ | ⟨i, rfl, rfl⟩
  · have ty := G.tR r2
    have k1 := ty.2.R
    have k2 := ty.1
    obtain ⟨dx2, r2⟩ := r2
    walk_at "rd"
    refine iteP (fun h2 => ?_) (fun h2 => absurd (by simp) h2)
    walk_at "rd"
    refine iteP (fun h3 => ?_) (fun h3 => ?_)
    · have h3 : q1.num = q2.num := by simpa using h3
      walk_at "rd"
      have e : decide (q1 = q2) = decide (V.int q1.den = V.int q2.den) := decide_eq_decide.mpr (by rw [req, V.int.injEq]; exact ⟨fun z => z.2, fun z => ⟨h3, z⟩⟩)
      rw [e] at k
      exact k
    · have h3 : ¬ q1.num = q2.num := by simpa using h3
      rw [decide_eq_false (fun z => h3 ((req _ _).mp z).1)] at k
      exact k
  · have ty := G.tInt (H := H) i
    have k1 := ty.2.R
    have k2 := ty.1
    walk_at "rd"
    refine iteP (fun h3 => ?_) (fun h3 => ?_)
    · have h3 : ((q1.den : Nat) : Int) = 1 := by simpa using h3
      walk_at "rd"
      have e : decide (q1 = (i : Rat)) = decide (V.int q1.num = V.int i) := decide_eq_decide.mpr (by rw [req, V.int.injEq, Rat.num_intCast, Rat.den_intCast]; exact ⟨fun z => z.1, fun z => ⟨z, h3⟩⟩)
      rw [e] at k
      exact k
    · have h3 : ¬ ((q1.den : Nat) : Int) = 1 := by simpa using h3
      rw [decide_eq_false (fun z => h3 (by have := ((req _ _).mp z).2; rw [Rat.den_intCast] at this; exact this))] at k
      exact k
theorem sc_sgn : FnScope ["self"] ["self"] (defScope (inClass (topS 21) 1)) := ⟨rfl, rfl, rfl, by decide +kernel, rfl, by decide +kernel, by decide +kernel⟩
include g_sign_of in
theorem ok_sgn (G : G0 K mg) (F : FP K "sign" "Ratio.sign" (inClass (topS 21) 1) [] f fd) : FnOk P w K mg base (L2.CX P w) 2 f fd ["self"] (spSgn K) := by
  have nd := sc_sgn.nd
  refine F.ok sc_sgn (fun vs H Q E h => by obtain ⟨_, _, rfl, _⟩ := h; rfl) (fun cdv A outer s H vs Q E hr h => ⟨_, pss_one (ps_ret (pe_gd g_sign_of (hr.mono (by decide)) rfl (pxE rfl rfl rfl rfl) (pa_cons (pe_fld (pv 0) rfl) (pa_nil)))), ?_⟩)
  obtain ⟨a, q, rfl, ⟨dx, r⟩, k⟩ := h
  walk_at "fR"
  walk_at "rd"
  exact k
theorem IsR.upd {H : Hp} {p a C dx : Addr} {q : Rat} {fs : List (Str × V)} {o : HO} (h : IsR K H p q) (ha : H a = some (.ins C dx fs)) (hf : fs.map (·.1) ≠ (["top", "bottom"] : List Str)) : IsR K (upd H a o) p q := by
  obtain ⟨d, h⟩ := h
  refine ⟨d, ?_⟩
  rw [upd_ne (fun z => ?_)]
  · exact h
  · subst z
    rw [ha] at h
    injection h with h
    injection h with _ _ h
    rw [h] at hf
    exact hf rfl
theorem sc_initT : FnScope ["self", "turn", "squared"] ["self", "turn", "squared"] (defScope (inClass (topS 28) 0)) := ⟨rfl, rfl, rfl, by decide +kernel, rfl, by decide +kernel, by decide +kernel⟩
include g_R_sign g_Ratio_of g_is_ratio g_rmul g_rsub g_xBadStem in
theorem ok_initT (G : G0 K mg) (F : FP K "__init__" "Stem.__init__" (inClass (topS 28) 0) [] f fd) : FnOk P w K mg base (L2.CX P w) 8 f fd ["self", "turn", "squared"] (spInitT K) := by
  have nd := sc_initT.nd
  refine F.ok sc_initT (fun vs H Q E h => by obtain ⟨_, _, _, _, _, _, rfl, _⟩ := h; rfl) (fun cdv A outer s H vs Q E hr h => ⟨_, pss_cons (ps_if (pt_not (pt_val (pe_gd g_is_ratio (hr.mono (by decide)) rfl (pxE rfl rfl rfl rfl) (pa_cons (pv 1) (pa_nil))))) (pss_one (ps_raise rfl (takes_of rfl rfl rfl rfl) (pmk1 g_xBadStem (hr.mono (by decide)) rfl (pa_cons (pe_str) (pa_nil))))) (pss_nil)) (pss_cons (ps_if (pt_not (pt_val (pe_gd g_is_ratio (hr.mono (by decide)) rfl (pxE rfl rfl rfl rfl) (pa_cons (pv 2) (pa_nil))))) (pss_one (ps_raise rfl (takes_of rfl rfl rfl rfl) (pmk1 g_xBadStem (hr.mono (by decide)) rfl (pa_cons (pe_str) (pa_nil))))) (pss_nil)) (pss_cons (ps_fld (pv 0) (pe_gs (pe_glob (v := .ref (cR K)) rfl G.mgRatio rfl) g_Ratio_of (hr.mono (by decide)) (pxE rfl rfl rfl rfl) (pa_cons (pv 1) (pa_nil))) rfl) (pss_cons (ps_fld (pv 0) (pe_gs (pe_glob (v := .ref (cR K)) rfl G.mgRatio rfl) g_Ratio_of (hr.mono (by decide)) (pxE rfl rfl rfl rfl) (pa_cons (pv 2) (pa_nil))) rfl) (pss_cons (ps_fld (pv 0) (pe_op (op_go g_rsub (hr.mono (by decide)) (pxE rfl rfl rfl rfl)) (pe_fld (pv 0) rfl) (pe_op (op_go g_rmul (hr.mono (by decide)) (pxE rfl rfl rfl rfl)) (pe_fld (pv 0) rfl) (pe_fld (pv 0) rfl))) rfl) (pss_one (ps_if (pt_cmpR op_le (pe_gp (pe_fld (pv 0) rfl) g_R_sign (hr.mono (by decide)) rfl) (pe_int) (nomark _)) (pss_one (ps_raise rfl (takes_of rfl rfl rfl rfl) (pmk1 g_xBadStem (hr.mono (by decide)) rfl (pa_cons (pe_str) (pa_nil))))) (pss_nil))))))), ?_⟩)
  obtain ⟨a, dx, p1, p2, D, F0, rfl, ha, r1, r2, z1, z2, hp, q⟩ := h
  have t1 := G.tR r1
  have t2 := G.tR r2
  have rv1 : RV K H (.ref p1) D := .inl ⟨p1, rfl, r1⟩
  have z1' : Sz D 3900 := z1.mono
  have z2' : Sz F0 3900 := z2.mono
  walk_at "fT"
  walk_at "rd"
  refine iteP (fun h1 => absurd h1 (by simp)) (fun _ => ?_)
  walk_at "rd"
  refine iteP (fun h1 => absurd h1 (by simp)) (fun _ => ?_)
  walk_at "rd"
  intro pa H1 s1 ra
  have ha1 := s1 _ _ ha
  have rv2 : RV K (upd H1 a (.ins (cT K) dx [("turn", .ref pa)])) (.ref p2) F0 := .inl ⟨_, rfl, (r2.ext s1).upd ha1 (by simp <;> decide)⟩
  walk_at "rd"
  intro pb H2 s2 rb
  have ha2 : H2 a = some (.ins (cT K) dx [("turn", .ref pa)]) := s2 _ _ upd_same
  have ra2 := (IsR.upd (o := .ins (cT K) dx [("turn", .ref pa), ("squared", .ref pb)]) (IsR.ext (IsR.upd (o := .ins (cT K) dx [("turn", .ref pa)]) ra ha1 (by simp <;> decide)) s2) ha2 (by simp <;> decide))
  have rb2 := (IsR.upd (o := .ins (cT K) dx [("turn", .ref pa), ("squared", .ref pb)]) rb ha2 (by simp <;> decide))
  have va2 := RV.mk ra2
  have z3 : Sz D 1900 := z1.mono
  have z4 : Sz F0 1900 := z2.mono
  have z5 : Sz (D * D) 1900 := sz_mul z1 z1
  walk_at "rd"
  intro p3 H3 s3 r3
  have rb3 := rb2.ext s3
  have vd3 := RV.mk r3
  walk_at "rd"
  intro p4 H4 s4 r4
  have ha4 : H4 a = some (.ins (cT K) dx [("turn", .ref pa), ("squared", .ref pb)]) := s4 _ _ (s3 _ _ upd_same)
  have r5 := (IsR.upd (o := .ins (cT K) dx [("turn", .ref pa), ("squared", .ref pb), ("rise", .ref p4)]) r4 ha4 (by simp <;> decide))
  have ra5 := (IsR.upd (o := .ins (cT K) dx [("turn", .ref pa), ("squared", .ref pb), ("rise", .ref p4)]) ((ra2.ext s3).ext s4) ha4 (by simp <;> decide))
  have rb5 := (IsR.upd (o := .ins (cT K) dx [("turn", .ref pa), ("squared", .ref pb), ("rise", .ref p4)]) (rb3.ext s4) ha4 (by simp <;> decide))
  obtain ⟨d4, r5'⟩ := id r5
  walk_at "fR"
  walk_at "rd"
  refine iteP (fun h1 => ?_) (fun h1 => ?_)
  · have h1 : (F0 - D * D).num.sign ≤ 0 := of_decide_eq_true h1
    have : 0 < (F0 - D * D).num := num_pos.mpr hp
    rw [Int.sign_eq_one_of_pos this] at h1
    omega
  · refine q _ (fun c o nc hc => ?_) ⟨dx, pa, pb, p4, upd_same, ra5, rb5, r5⟩
    rw [upd_ne nc]
    have e : ∀ {H : Hp} {o o' : HO}, H c = some o → (upd H a o') c = some o := fun h => by rw [upd_ne nc]; exact h
    exact s4 _ _ (s3 _ _ (e (s2 _ _ (e (s1 _ _ hc)))))
end
end Sp
end
section
set_option Elab.async false
set_option linter.all false
set_option exponentiation.threshold 5000
set_option maxRecDepth 100000
set_option maxHeartbeats 0
local macro_rules | `(tactic| walk_at "leaf") => `(tactic| first | rfl | assumption | exact True.intro | exact L2.upd_same | exact L2.ClsV.ty _ | exact L2.ClsV.own _ | decide | exact of_decide_eq_true rfl | exact L2.SqL.of (by assumption) | exact L2.SqL.of L2.upd_same | exact Or.inl (L2.SqL.of L2.upd_same) | exact Or.inl (L2.SqL.of (by assumption)) | exact L2.SqT.of (by assumption) | exact L2.SqT.of L2.upd_same | exact Sp.cmL (by decide) | exact Sp.cmR (by decide) | exact ⟨by decide, by decide, by decide⟩ | exact ⟨by decide, by decide⟩ | exact Or.inr (L2.SqT.of (by assumption)) | exact Or.inl ⟨rfl, _, L2.SqL.of (by assumption)⟩ | exact Or.inl ⟨rfl, _, L2.SqL.of L2.upd_same⟩ | omega | fail)
local macro_rules | `(tactic| walk_at "rd1") => `(tactic| first
  | refine Sp.rbR (by assumption) (by assumption) (by assumption) (by assumption) ?_
  | apply Sp.exI
  | (refine And.intro ?lf ?_; (case lf => walk_at "leaf"))
  | fail)
local macro_rules | `(tactic| walk_at "rd") => `(tactic| repeat (walk_at "rd1"))
local macro_rules | `(tactic| walk_at "fR") => `(tactic| (have := (‹Sp.G0 _ _›).R.cl; have := (‹Sp.G0 _ _›).R.no "top" (by simp); have := (‹Sp.G0 _ _›).R.no "bottom" (by simp)))
local macro_rules | `(tactic| walk_at "fT") => `(tactic| (have := (‹Sp.G0 _ _›).T.cl; have := (‹Sp.G0 _ _›).T.no "turn" (by simp); have := (‹Sp.G0 _ _›).T.no "squared" (by simp); have := (‹Sp.G0 _ _›).T.no "rise" (by simp)))
namespace Sp
open PySem PySem.Spec PyProof.Rows L2
section
variable {P : Program} {w : World} {K : PySem.W.Frag} {mg : Str → Option Value} {base : Heap} {f : Addr} {fd : FuncData}
variable (g_is_integer : GD P w K mg base (L2.CX P w) 1 "is_integer" ["value"] [] (spIsInt K)) (g_sign_of : GD P w K mg base (L2.CX P w) 1 "sign_of" ["number"] [] spSign)
  (g_is_ratio : GD P w K mg base (L2.CX P w) 2 "is_ratio" ["value"] [] (spIsRat K)) (g_at_right : GD P w K mg base (L2.CX P w) 6 "at_right" ["value"] [] (spOf K))
  (g_xBadRatio : GX P w K mg base 1 "BadRatio" "part" (cX K "BadRatio")) (g_xBadNumber : GX P w K mg base 1 "BadNumber" "part" (cX K "BadNumber")) (g_xBadStem : GX P w K mg base 1 "BadStem" "part" (cX K "BadStem"))
  (g_mRatio : GM P w K mg base (L2.CX P w) 3 "Ratio" (cR K) ["self", "top", "bottom"] [] (spInitR K)) (g_mRatio1 : GM P w K mg base (L2.CX P w) 3 "Ratio" (cR K) ["self", "top", "bottom"] [.int 1] (spInitR K))
  (g_Ratio_of : GS P w K mg base (L2.CX P w) 5 (cR K) "of" (spOf K)) (g_R_compared : GH P w K mg base (L2.CX P w) 7 (cR K) "compared" ["self", "other"] (spCmp K))
variable (g_radd : GO P w K mg base (L2.CX P w) 7 (cR K) .Add (spBinR K (· + ·))) (g_rsub : GO P w K mg base (L2.CX P w) 7 (cR K) .Sub (spBinR K (· - ·))) (g_rmul : GO P w K mg base (L2.CX P w) 7 (cR K) .Mult (spBinR K (· * ·)))
  (g_req : GN P w K mg base (L2.CX P w) 2 (cR K) "__eq__" (spEqR K)) (g_R_sign : GP P w K mg base (L2.CX P w) 2 (cR K) "sign" (spSgn K)) (g_R_below : GP P w K mg base (L2.CX P w) 1 (cR K) "below" (spFlr K)) (g_R_is_below : GH P w K mg base (L2.CX P w) 8 (cR K) "is_below" ["self", "other"] (spBelow K))
variable (g_mStem : GM P w K mg base (L2.CX P w) 8 "Stem" (cT K) ["self", "turn", "squared"] [] (spInitT K)) (g_need_stem : GD P w K mg base (L2.CX P w) 3 "need_stem" ["value", "part"] [] (spNeedT K)) (g_need_integer : GD P w K mg base (L2.CX P w) 3 "need_integer" ["value", "part"] [] spNeedI)
  (g_is_within : GD P w K mg base (L2.CX P w) 2 "is_within" ["value", "least", "most"] [] (spInW K)) (g_need_within : GD P w K mg base (L2.CX P w) 3 "need_within" ["value", "least", "most", "part"] [] (spNeedW K))
  (g_place : GD P w K mg base (L2.CX P w) 8 "place" ["stem", "stud"] [] (spPlace K)) (g_nearest_rounds : GD P w K mg base (L2.CX P w) 9 "nearest_rounds" ["stem", "stud"] [] (spNRs K))
  (g_is_between : GD P w K mg base (L2.CX P w) 9 "is_between" ["least", "ratio"] [] (spBetw K)) (g_first_within : GD P w K mg base (L2.CX P w) 10 "first_within" ["stem", "low", "high", "most"] [] (spFW K))
variable (g_l_coin : GD P w K mg base (L2.CX P w) 1 "_law_coin" ["_law_purse_here", "_law_many"] [] spDip) (g_l_purse : GD P w K mg base (L2.CX P w) 1 "_law_purse" ["_law_script"] [] (spPail K)) (g_l_of : GD P w K mg base (L2.CX P w) 2 "_law_of" ["_law_purse_here", "_law_some"] [] spOfL)
  (g_l_stem : GD P w K mg base (L2.CX P w) 3 "_law_stem" ["_law_purse_here"] [] spStemL) (g_l_divisor : GD P w K mg base (L2.CX P w) 1 "_law_divisor" ["_law_one", "_law_other"] [] spDiv) (g_l_first : GD P w K mg base (L2.CX P w) 1 "_law_first" ["_law_p", "_law_q", "_law_low", "_law_high", "_law_under", "_law_most"] [] spFirstL)
  (g_l_stretch : GD P w K mg base (L2.CX P w) 3 "_law_stretch" ["_law_purse_here", "_law_p", "_law_q"] [] spStretch) (g_l_pair_right : GD P w K mg base (L2.CX P w) 11 "_law_pair_right" ["_law_purse_here", "_law_plain", "_law_stem_here"] [] (spAsk K))
  (g_l_within_right : GD P w K mg base (L2.CX P w) 11 "_law_within_right" ["_law_purse_here", "_law_plain", "_law_stem_here"] [] (spAsk K)) (g_l_pushed_right : GD P w K mg base (L2.CX P w) 11 "_law_pushed_right" ["_law_purse_here", "_law_plain", "_law_stem_here"] [] (spAsk K))
  (g_rne : GNe P w K mg base (L2.CX P w) 2 (cR K) (spEqR K)) (g_first_within_k : GDK P w K mg base (L2.CX P w) 10 "first_within" ["stem", "low", "high", "most"] 4 [0, 1, 2, 3] (spFW K)) (g_first_within_m : GDM P w K mg base (L2.CX P w) 10 "first_within" ["high", "most"] 2 2 (spFW K))

theorem sc_flr : FnScope ["self"] ["self"] (defScope (inClass (topS 21) 3)) := ⟨rfl, rfl, rfl, by decide +kernel, rfl, by decide +kernel, by decide +kernel⟩
theorem ok_flr (G : G0 K mg) (F : FP K "below" "Ratio.below" (inClass (topS 21) 3) [] f fd) : FnOk P w K mg base (L2.CX P w) 1 f fd ["self"] (spFlr K) := by
  have nd := sc_flr.nd
  refine F.ok sc_flr (fun vs H Q E h => by obtain ⟨_, _, rfl, _⟩ := h; rfl) (fun cdv A outer s H vs Q E hr h => ⟨_, pss_one (ps_ret (pe_op op_fdivB (pe_fld (pv 0) rfl) (pe_fld (pv 0) rfl))), ?_⟩)
  obtain ⟨a, q, rfl, ⟨dx, r⟩, z, k⟩ := h
  have d : CDivB q.num ((q.den : Nat) : Int) := ⟨den_ne q, nb_le z.d⟩
  rw [← flr_eq] at k
  walk_at "fR"
  walk_at "rd"
  exact k
theorem sc_needT : FnScope ["value", "part"] ["value", "part"] (defScope (topS 29)) := ⟨rfl, rfl, rfl, by decide +kernel, rfl, by decide +kernel, by decide +kernel⟩
include g_xBadStem in
theorem ok_needT (G : G0 K mg) (F : FP K "need_stem" "need_stem" (topS 29) [] f fd) : FnOk P w K mg base (L2.CX P w) 3 f fd ["value", "part"] (spNeedT K) := by
  have nd := sc_needT.nd
  refine F.ok sc_needT (fun vs H Q E h => by obtain ⟨_, _, rfl, _⟩ := h; rfl) (fun cdv A outer s H vs Q E hr h => ⟨_, pss_one (ps_if (pt_not (pt_val (pe_callB call_isi rfl G.nm.isinstance (by decide +kernel) (pa_cons (pv 0) (pa_cons ((pe_glob (v := .ref (cT K)) rfl G.mgStem rfl)) (pa_nil)))))) (pss_one (ps_raise rfl (takes_of rfl rfl rfl rfl) (pmk1 g_xBadStem (hr.mono (by decide)) rfl (pa_cons (pv 1) (pa_nil))))) (pss_nil)), ?_⟩)
  obtain ⟨v, pt, rfl, ⟨p, D, F0, rfl, it, k⟩ | ⟨n, h⟩⟩ := h
  · have ty := G.tT it
    have k1 := ty.2.T
    have k2 := ty.1
    walk_at "rd"
    refine iteP (fun h1 => absurd h1 (by simp)) (fun h1 => ?_)
    exact k
  · obtain ⟨t, ty, nt⟩ := n.ty G
    have k1 := ty.2.T
    have k2 := ty.1
    walk_at "rd"
    refine iteP (fun h1 => ?_) (fun h1 => absurd (by simp [nt]) h1)
    walk_at "rd"
    exact (mk1 (fun d H2 sm n e => h d H2 sm n e)).2
theorem sc_needI : FnScope ["value", "part"] ["value", "part"] (defScope (topS 12)) := ⟨rfl, rfl, rfl, by decide +kernel, rfl, by decide +kernel, by decide +kernel⟩
include g_is_integer g_xBadNumber in
theorem ok_needI (G : G0 K mg) (F : FP K "need_integer" "need_integer" (topS 12) [] f fd) : FnOk P w K mg base (L2.CX P w) 3 f fd ["value", "part"] spNeedI := by
  have nd := sc_needI.nd
  refine F.ok sc_needI (fun vs H Q E h => by obtain ⟨_, _, rfl, _⟩ := h; rfl) (fun cdv A outer s H vs Q E hr h => ⟨_, pss_one (ps_if (pt_not (pt_val (pe_gd g_is_integer (hr.mono (by decide)) rfl (pxE rfl rfl rfl rfl) (pa_cons (pv 0) (pa_nil))))) (pss_one (ps_raise rfl (takes_of rfl rfl rfl rfl) (pmk1 g_xBadNumber (hr.mono (by decide)) rfl (pa_cons (pv 1) (pa_nil))))) (pss_nil)), ?_⟩)
  obtain ⟨i, pt, rfl, k⟩ := h
  have ty := G.tInt (H := H) i
  walk_at "rd"
  exact k
theorem sc_inW : FnScope ["value", "least", "most"] ["value", "least", "most"] (defScope (topS 11)) := ⟨rfl, rfl, rfl, by decide +kernel, rfl, by decide +kernel, by decide +kernel⟩
include g_is_integer in
theorem ok_inW (G : G0 K mg) (F : FP K "is_within" "is_within" (topS 11) [] f fd) : FnOk P w K mg base (L2.CX P w) 2 f fd ["value", "least", "most"] (spInW K) := by
  have nd := sc_inW.nd
  refine F.ok sc_inW (fun vs H Q E h => by obtain ⟨_, rfl, _⟩ := h; rfl) (fun cdv A outer s H vs Q E hr h => ⟨_, pss_cons (ps_if (pt_not (pt_val (pe_gd g_is_integer (hr.mono (by decide)) rfl (pxE rfl rfl rfl rfl) (pa_cons (pv 0) (pa_nil))))) (pss_one (ps_ret (pe_bl))) (pss_nil)) (pss_one (ps_ret (pe_and (pe_or (pe_cmpR op_isN (pv 1) (pe_non) (nomark _)) (pe_one (pe_cmpR op_ge (pv 0) (pv 1) (nomark _)))) (pe_one (pe_or (pe_cmpR op_isN (pv 2) (pe_non) (nomark _)) (pe_one (pe_cmpR op_le (pv 0) (pv 2) (nomark _)))))))), ?_⟩)
  obtain ⟨v, rfl, h⟩ := h
  have alt : (∃ i : Int, v = .int i ∧ Q (.bl (decide (1 ≤ i) && decide (i ≤ 1000))) H) ∨ (∃ t, Ty K H v t ∧ t ≠ .type "int" ∧ Q (.bl false) H) := by
    rcases h with ⟨i, rfl, h1, h2, k⟩ | ⟨n | ⟨p, q, rfl, r⟩ | ⟨i, rfl, h1⟩, k⟩
    · exact .inl ⟨i, rfl, by rw [decide_eq_true h1, decide_eq_true h2]; exact k⟩
    · obtain ⟨t, ty, _, ni, _⟩ := n.ty G
      exact .inr ⟨t, ty, ni, k⟩
    · exact .inr ⟨_, G.tR r, by simp, k⟩
    · refine .inl ⟨i, rfl, ?_⟩
      rw [show (decide (1 ≤ i) && decide (i ≤ 1000)) = false by
        rw [Bool.and_eq_false_iff, decide_eq_false_iff_not, decide_eq_false_iff_not]
        omega]
      exact k
  rcases alt with ⟨i, rfl, k⟩ | ⟨t, ty, nt, k⟩
  · have ty := G.tInt (H := H) i
    walk_at "rd"
    refine iteP (fun h1 => ?_) (fun h1 => ?_)
    · have h1 : 1 ≤ i := of_decide_eq_true h1
      rw [decide_eq_true h1] at k
      walk_at "rd"
      exact k
    · have h1 : decide (1 ≤ i) = false := Bool.eq_false_iff.mpr h1
      rw [h1] at k
      exact k
  · walk_at "rd"
    refine iteP (fun h1 => ?_) (fun h1 => ?_)
    · exact k
    · exact absurd (by simp [nt]) h1
theorem sc_needW : FnScope ["value", "least", "most", "part"] ["value", "least", "most", "part"] (defScope (topS 13)) := ⟨rfl, rfl, rfl, by decide +kernel, rfl, by decide +kernel, by decide +kernel⟩
include g_is_within g_xBadNumber in
theorem ok_needW (G : G0 K mg) (F : FP K "need_within" "need_within" (topS 13) [] f fd) : FnOk P w K mg base (L2.CX P w) 3 f fd ["value", "least", "most", "part"] (spNeedW K) := by
  have nd := sc_needW.nd
  refine F.ok sc_needW (fun vs H Q E h => by obtain ⟨_, _, rfl, _⟩ := h; rfl) (fun cdv A outer s H vs Q E hr h => ⟨_, pss_one (ps_if (pt_not (pt_val (pe_gd g_is_within (hr.mono (by decide)) rfl (pxE rfl rfl rfl rfl) (pa_cons (pv 0) (pa_cons (pv 1) (pa_cons (pv 2) (pa_nil))))))) (pss_one (ps_raise rfl (takes_of rfl rfl rfl rfl) (pmk1 g_xBadNumber (hr.mono (by decide)) rfl (pa_cons (pv 3) (pa_nil))))) (pss_nil)), ?_⟩)
  obtain ⟨v, pt, rfl, ⟨i, rfl, h1, h2, k⟩ | ⟨n, h⟩⟩ := h
  · walk_at "rd"
    refine .inl ⟨i, rfl, h1, h2, ?_⟩
    walk_at "rd"
    exact k
  · walk_at "rd"
    refine .inr ⟨n, ?_⟩
    walk_at "rd"
    exact (mk1 (fun d H2 sm n e => h d H2 sm n e)).2
theorem sc_place : FnScope ["stem", "stud", "around"] ["stem", "stud"] (defScope (topS 33)) := ⟨rfl, rfl, rfl, by decide +kernel, rfl, by decide +kernel, by decide +kernel⟩
include g_R_below g_need_integer g_need_stem g_rmul g_rsub in
theorem ok_place (G : G0 K mg) (F : FP K "place" "place" (topS 33) [] f fd) : FnOk P w K mg base (L2.CX P w) 8 f fd ["stem", "stud"] (spPlace K) := by
  have nd := sc_place.nd
  refine F.ok sc_place (fun vs H Q E h => by obtain ⟨_, _, _, _, rfl, _⟩ := h; rfl) (fun cdv A outer s H vs Q E hr h => ⟨_, pss_cons (ps_expr (pe_gd g_need_stem (hr.mono (by decide)) rfl (pxE rfl rfl rfl rfl) (pa_cons (pv 0) (pa_cons (pe_str) (pa_nil))))) (pss_cons (ps_expr (pe_gd g_need_integer (hr.mono (by decide)) rfl (pxE rfl rfl rfl rfl) (pa_cons (pv 1) (pa_cons (pe_str) (pa_nil))))) (pss_cons (ps_set (i := 2) nd rfl (Or.inl rfl) (pe_op (op_go g_rmul (hr.mono (by decide)) (pxE rfl rfl rfl rfl)) (pe_fld (pv 0) rfl) (pv 1))) (pss_one (ps_ret (pe_op (op_go g_rsub (hr.mono (by decide)) (pxE rfl rfl rfl rfl)) (pv 2) (pe_gp (pv 2) g_R_below (hr.mono (by decide)) rfl)))))), ?_⟩)
  obtain ⟨a, D, F0, k, rfl, ⟨it, z1, z2⟩, zk, q⟩ := h
  obtain ⟨dx, pa, pb, pc, ha, ra, rb, rc⟩ := id it
  have y1 : Sz D 1900 := z1.mono
  have y2 : Sz (k : Rat) 1900 := sz_int (nb_le zk)
  have vk := RV.int K H k
  walk_at "rd"
  refine .inl ⟨a, D, F0, rfl, it, ?_⟩
  walk_at "fT"
  walk_at "rd"
  intro p1 H1 s1 r1
  have y3 : Sz (D * (k : Rat)) 80 := sz_mul z1 (sz_int zk)
  have y4 : Sz (D * (k : Rat)) 1900 := y3.mono
  have y5 : Sz (D * (k : Rat)) 3900 := y3.mono
  have y6 : Sz ((D * (k : Rat)).floor : Rat) 1900 := sz_int (nb_le (nat_floor _ _ y3.1))
  have vf := RV.int K H1 (D * (k : Rat)).floor
  obtain ⟨_, r1'⟩ := id r1
  walk_at "rd"
  intro p2 H2 s2 r2
  exact q p2 H2 (s1.trans s2) r2
theorem sc_nrs : FnScope ["stem", "stud", "here", "below", "half"] ["stem", "stud"] (defScope (topS 34)) := ⟨rfl, rfl, rfl, by decide +kernel, rfl, by decide +kernel, by decide +kernel⟩
include g_R_below g_R_compared g_mRatio g_place g_rmul in
theorem ok_nrs (G : G0 K mg) (F : FP K "nearest_rounds" "nearest_rounds" (topS 34) [] f fd) : FnOk P w K mg base (L2.CX P w) 9 f fd ["stem", "stud"] (spNRs K) := by
  have nd := sc_nrs.nd
  refine F.ok sc_nrs (fun vs H Q E h => by obtain ⟨_, _, _, _, rfl, _⟩ := h; rfl) (fun cdv A outer s H vs Q E hr h => ⟨_, pss_cons (ps_set (i := 2) nd rfl (Or.inl rfl) (pe_gd g_place (hr.mono (by decide)) rfl (pxE rfl rfl rfl rfl) (pa_cons (pv 0) (pa_cons (pv 1) (pa_nil))))) (pss_cons (ps_set (i := 3) nd rfl (Or.inl rfl) (pe_gp (pe_op (op_go g_rmul (hr.mono (by decide)) (pxE rfl rfl rfl rfl)) (pe_fld (pv 0) rfl) (pv 1)) g_R_below (hr.mono (by decide)) rfl)) (pss_cons (ps_set (i := 4) nd rfl (Or.inl rfl) (pe_gh (pv 2) G.R.cl g_R_compared (hr.mono (by decide)) (pxE rfl rfl rfl rfl) (pa_cons (pe_gm g_mRatio (hr.mono (by decide)) rfl (pxE rfl rfl rfl rfl) (pa_cons (pe_int) (pa_cons (pe_int) (pa_nil)))) (pa_nil)))) (pss_cons (ps_if (pt_cmpR op_eq (pv 4) (pe_int) (nomark _)) (pss_one (ps_ret (pe_tup (pa_cons (pv 3) (pa_cons (pe_op op_add (pv 3) (pe_int)) (pa_nil)))))) (pss_nil)) (pss_one (ps_ret (pe_ifExp (pt_cmpR op_lt (pv 4) (pe_int) (nomark _)) (pe_tup (pa_cons (pv 3) (pa_nil))) (pe_tup (pa_cons (pe_op op_add (pv 3) (pe_int)) (pa_nil))))))))), ?_⟩)
  obtain ⟨a, D, F0, k, rfl, st, zk, q⟩ := h
  obtain ⟨it, z1, z2⟩ := id st
  walk_at "rd"
  intro ph H1 s1 rh
  have st1 := st.ext s1
  obtain ⟨⟨dx, pa, pb, pc, ha, ra, rb, rc⟩, _⟩ := id st1
  have y1 : Sz D 1900 := z1.mono
  have y2 : Sz (k : Rat) 1900 := sz_int (nb_le zk)
  have vk := RV.int K H1 k
  have y3 : Sz (D * (k : Rat)) 80 := sz_mul z1 (sz_int zk)
  have y5 : Sz (D * (k : Rat)) 3900 := y3.mono
  walk_at "fT"
  walk_at "rd"
  intro p1 H2 s2 r1
  obtain ⟨_, r1'⟩ := id r1
  have rh := rh.ext s2
  obtain ⟨_, rh'⟩ := id rh
  have yf : Sz (frac (D * (k : Rat))) 1900 := (sz_frac (m := 161) y3).mono
  walk_at "rd"
  apply makeR2 (by decide) (nb_le (show (1 : Int).natAbs < 2 ^ 2 by decide)) (nb_le (show (2 : Int).natAbs < 2 ^ 2 by decide))
  intro p3 H3 s3 _ r3
  have rh := rh.ext s3
  have v3 := RV.mk r3
  have yh : Sz (Rat.divInt 1 2) 1900 := (sz_divInt (n := 2) (by decide) (by decide) (by decide)).mono
  walk_at "rd"
  intro H4 s4
  have s14 := ((s1.trans s2).trans s3).trans s4
  unfold nrs at q
  walk_at "rd"
  refine iteP (fun h1 => ?_) (fun h1 => ?_)
  · have h1 := (cmp_sign0 _ _).mp (V.int.inj (of_decide_eq_true h1))
    rw [if_pos h1] at q
    walk_at "rd"
    intro p hp
    exact q p _ (s14.trans (Same.new hp)) upd_same
  · have h1 : ¬ frac (D * (k : Rat)) = Rat.divInt 1 2 := fun e => h1 (decide_eq_true (congrArg V.int ((cmp_sign0 _ _).mpr e)))
    rw [if_neg h1] at q
    walk_at "rd"
    refine iteP (fun h2 => ?_) (fun h2 => ?_)
    · rw [below_eq] at h2
      rw [if_pos (of_decide_eq_true h2)] at q
      walk_at "rd"
      intro p hp
      exact q p _ (s14.trans (Same.new hp)) upd_same
    · rw [below_eq] at h2
      rw [if_neg (fun e => h2 (decide_eq_true e))] at q
      walk_at "rd"
      intro p hp
      exact q p _ (s14.trans (Same.new hp)) upd_same
theorem sc_betw : FnScope ["least", "ratio"] ["least", "ratio"] (defScope (topS 36)) := ⟨rfl, rfl, rfl, by decide +kernel, rfl, by decide +kernel, by decide +kernel⟩
include g_R_is_below in
theorem ok_betw (G : G0 K mg) (F : FP K "is_between" "is_between" (topS 36) [] f fd) : FnOk P w K mg base (L2.CX P w) 9 f fd ["least", "ratio"] (spBetw K) := by
  have nd := sc_betw.nd
  refine F.ok sc_betw (fun vs H Q E h => by obtain ⟨_, _, _, _, rfl, _⟩ := h; rfl) (fun cdv A outer s H vs Q E hr h => ⟨_, pss_one (ps_ret (pe_and (pe_not (pe_gh (pv 1) G.R.cl g_R_is_below (hr.mono (by decide)) (pxE rfl rfl rfl rfl) (pa_cons (pv 0) (pa_nil)))) (pe_one (pe_gh (pv 1) G.R.cl g_R_is_below (hr.mono (by decide)) (pxE rfl rfl rfl rfl) (pa_cons (pe_int) (pa_nil)))))), ?_⟩)
  obtain ⟨a, b, q1, q2, rfl, r1, r2, z1, z2, q⟩ := h
  obtain ⟨_, r2'⟩ := id r2
  have v1 := RV.mk r1
  walk_at "rd"
  intro H1 s1
  have r2 := r2.ext s1
  obtain ⟨_, r2'⟩ := id r2
  have vi := RV.int K H1 1
  have zi : Sz ((1 : Int) : Rat) 1900 := (sz_int (n := 2) (by decide)).mono
  walk_at "rd"
  refine iteP (fun h1 => ?_) (fun h1 => ?_)
  · rw [h1] at q
    walk_at "rd"
    intro H2 s2
    exact q H2 (s1.trans s2)
  · have h1 := Bool.eq_false_iff.mpr h1
    rw [h1] at q
    exact q H1 s1
end
end Sp
end
section
set_option Elab.async false
set_option linter.all false
set_option exponentiation.threshold 5000
set_option maxRecDepth 100000
set_option maxHeartbeats 0
local macro_rules | `(tactic| walk_at "leaf") => `(tactic| first | rfl | assumption | exact True.intro | exact L2.upd_same | exact L2.ClsV.ty _ | exact L2.ClsV.own _ | decide | exact of_decide_eq_true rfl | exact L2.SqL.of (by assumption) | exact L2.SqL.of L2.upd_same | exact Or.inl (L2.SqL.of L2.upd_same) | exact Or.inl (L2.SqL.of (by assumption)) | exact L2.SqT.of (by assumption) | exact L2.SqT.of L2.upd_same | exact Sp.cmL (by decide) | exact Sp.cmR (by decide) | exact ⟨by decide, by decide, by decide⟩ | exact ⟨by decide, by decide⟩ | exact Or.inr (L2.SqT.of (by assumption)) | exact Or.inl ⟨rfl, _, L2.SqL.of (by assumption)⟩ | exact Or.inl ⟨rfl, _, L2.SqL.of L2.upd_same⟩ | omega | fail)
local macro_rules | `(tactic| walk_at "rd1") => `(tactic| first
  | refine Sp.rbR (by assumption) (by assumption) (by assumption) (by assumption) ?_
  | apply Sp.exI
  | (refine And.intro ?lf ?_; (case lf => walk_at "leaf"))
  | fail)
local macro_rules | `(tactic| walk_at "rd") => `(tactic| repeat (walk_at "rd1"))
local macro_rules | `(tactic| walk_at "fR") => `(tactic| (have := (‹Sp.G0 _ _›).R.cl; have := (‹Sp.G0 _ _›).R.no "top" (by simp); have := (‹Sp.G0 _ _›).R.no "bottom" (by simp)))
local macro_rules | `(tactic| walk_at "fT") => `(tactic| (have := (‹Sp.G0 _ _›).T.cl; have := (‹Sp.G0 _ _›).T.no "turn" (by simp); have := (‹Sp.G0 _ _›).T.no "squared" (by simp); have := (‹Sp.G0 _ _›).T.no "rise" (by simp)))
namespace Sp
open PySem PySem.Spec PyProof.Rows L2
section
variable {P : Program} {w : World} {K : PySem.W.Frag} {mg : Str → Option Value} {base : Heap} {f : Addr} {fd : FuncData}
variable (g_is_integer : GD P w K mg base (L2.CX P w) 1 "is_integer" ["value"] [] (spIsInt K)) (g_sign_of : GD P w K mg base (L2.CX P w) 1 "sign_of" ["number"] [] spSign)
  (g_is_ratio : GD P w K mg base (L2.CX P w) 2 "is_ratio" ["value"] [] (spIsRat K)) (g_at_right : GD P w K mg base (L2.CX P w) 6 "at_right" ["value"] [] (spOf K))
  (g_xBadRatio : GX P w K mg base 1 "BadRatio" "part" (cX K "BadRatio")) (g_xBadNumber : GX P w K mg base 1 "BadNumber" "part" (cX K "BadNumber")) (g_xBadStem : GX P w K mg base 1 "BadStem" "part" (cX K "BadStem"))
  (g_mRatio : GM P w K mg base (L2.CX P w) 3 "Ratio" (cR K) ["self", "top", "bottom"] [] (spInitR K)) (g_mRatio1 : GM P w K mg base (L2.CX P w) 3 "Ratio" (cR K) ["self", "top", "bottom"] [.int 1] (spInitR K))
  (g_Ratio_of : GS P w K mg base (L2.CX P w) 5 (cR K) "of" (spOf K)) (g_R_compared : GH P w K mg base (L2.CX P w) 7 (cR K) "compared" ["self", "other"] (spCmp K))
variable (g_radd : GO P w K mg base (L2.CX P w) 7 (cR K) .Add (spBinR K (· + ·))) (g_rsub : GO P w K mg base (L2.CX P w) 7 (cR K) .Sub (spBinR K (· - ·))) (g_rmul : GO P w K mg base (L2.CX P w) 7 (cR K) .Mult (spBinR K (· * ·)))
  (g_req : GN P w K mg base (L2.CX P w) 2 (cR K) "__eq__" (spEqR K)) (g_R_sign : GP P w K mg base (L2.CX P w) 2 (cR K) "sign" (spSgn K)) (g_R_below : GP P w K mg base (L2.CX P w) 1 (cR K) "below" (spFlr K)) (g_R_is_below : GH P w K mg base (L2.CX P w) 8 (cR K) "is_below" ["self", "other"] (spBelow K))
variable (g_mStem : GM P w K mg base (L2.CX P w) 8 "Stem" (cT K) ["self", "turn", "squared"] [] (spInitT K)) (g_need_stem : GD P w K mg base (L2.CX P w) 3 "need_stem" ["value", "part"] [] (spNeedT K)) (g_need_integer : GD P w K mg base (L2.CX P w) 3 "need_integer" ["value", "part"] [] spNeedI)
  (g_is_within : GD P w K mg base (L2.CX P w) 2 "is_within" ["value", "least", "most"] [] (spInW K)) (g_need_within : GD P w K mg base (L2.CX P w) 3 "need_within" ["value", "least", "most", "part"] [] (spNeedW K))
  (g_place : GD P w K mg base (L2.CX P w) 8 "place" ["stem", "stud"] [] (spPlace K)) (g_nearest_rounds : GD P w K mg base (L2.CX P w) 9 "nearest_rounds" ["stem", "stud"] [] (spNRs K))
  (g_is_between : GD P w K mg base (L2.CX P w) 9 "is_between" ["least", "ratio"] [] (spBetw K)) (g_first_within : GD P w K mg base (L2.CX P w) 10 "first_within" ["stem", "low", "high", "most"] [] (spFW K))
variable (g_l_coin : GD P w K mg base (L2.CX P w) 1 "_law_coin" ["_law_purse_here", "_law_many"] [] spDip) (g_l_purse : GD P w K mg base (L2.CX P w) 1 "_law_purse" ["_law_script"] [] (spPail K)) (g_l_of : GD P w K mg base (L2.CX P w) 2 "_law_of" ["_law_purse_here", "_law_some"] [] spOfL)
  (g_l_stem : GD P w K mg base (L2.CX P w) 3 "_law_stem" ["_law_purse_here"] [] spStemL) (g_l_divisor : GD P w K mg base (L2.CX P w) 1 "_law_divisor" ["_law_one", "_law_other"] [] spDiv) (g_l_first : GD P w K mg base (L2.CX P w) 1 "_law_first" ["_law_p", "_law_q", "_law_low", "_law_high", "_law_under", "_law_most"] [] spFirstL)
  (g_l_stretch : GD P w K mg base (L2.CX P w) 3 "_law_stretch" ["_law_purse_here", "_law_p", "_law_q"] [] spStretch) (g_l_pair_right : GD P w K mg base (L2.CX P w) 11 "_law_pair_right" ["_law_purse_here", "_law_plain", "_law_stem_here"] [] (spAsk K))
  (g_l_within_right : GD P w K mg base (L2.CX P w) 11 "_law_within_right" ["_law_purse_here", "_law_plain", "_law_stem_here"] [] (spAsk K)) (g_l_pushed_right : GD P w K mg base (L2.CX P w) 11 "_law_pushed_right" ["_law_purse_here", "_law_plain", "_law_stem_here"] [] (spAsk K))
  (g_rne : GNe P w K mg base (L2.CX P w) 2 (cR K) (spEqR K)) (g_first_within_k : GDK P w K mg base (L2.CX P w) 10 "first_within" ["stem", "low", "high", "most"] 4 [0, 1, 2, 3] (spFW K)) (g_first_within_m : GDM P w K mg base (L2.CX P w) 10 "first_within" ["high", "most"] 2 2 (spFW K))

theorem bw (ql q : Rat) : (!decide (q < ql) && decide (q < ((1 : Int) : Rat))) = decide (ql ≤ q ∧ q < 1) := by
  rw [Rat.intCast_one]
  by_cases h : q < ql
  · rw [decide_eq_true h, show decide (ql ≤ q ∧ q < 1) = false from decide_eq_false fun z => Rat.not_lt.mpr z.1 h]
    rfl
  · by_cases h' : q < 1
    · rw [decide_eq_false h, decide_eq_true h', show decide (ql ≤ q ∧ q < 1) = true from decide_eq_true ⟨Rat.not_lt.mp h, h'⟩]
      rfl
    · rw [decide_eq_false h, decide_eq_false h', show decide (ql ≤ q ∧ q < 1) = false from decide_eq_false fun z => h' z.2]
      rfl
theorem sc_fw : FnScope ["stem", "low", "high", "most", "stud", "here"] ["stem", "low", "high", "most"] (defScope (topS 35)) := ⟨rfl, rfl, rfl, by decide +kernel, rfl, by decide +kernel, by decide +kernel⟩
include g_R_is_below g_Ratio_of g_is_between g_is_ratio g_mRatio1 g_need_stem g_need_within g_place g_xBadNumber in
theorem ok_fw (G : G0 K mg) (F : FP K "first_within" "first_within" (topS 35) [] f fd) : FnOk P w K mg base (L2.CX P w) 10 f fd ["stem", "low", "high", "most"] (spFW K) := by
  have nd := sc_fw.nd
  obtain ⟨tk, hfar⟩ := G.far
  refine F.ok sc_fw (fun vs H Q E h => by obtain ⟨_, _, _, _, rfl, _⟩ := h; rfl) (fun cdv A outer s H vs Q E hr h => ⟨_, pss_cons (ps_expr (pe_gd g_need_stem (hr.mono (by decide)) rfl (pxE rfl rfl rfl rfl) (pa_cons (pv 0) (pa_cons (pe_str) (pa_nil))))) (pss_cons (ps_if (PW.pt (pw_or (pt_not (pt_val (pe_gd g_is_ratio (hr.mono (by decide)) rfl (pxE rfl rfl rfl rfl) (pa_cons (pv 1) (pa_nil))))) (pw_or1 (pt_not (pt_val (pe_gd g_is_between (hr.mono (by decide)) rfl (pxE rfl rfl rfl rfl) (pa_cons (pe_gm g_mRatio1 (hr.mono (by decide)) rfl (pxE rfl rfl rfl rfl) (pa_cons (pe_int) (pa_nil))) (pa_cons (pe_gs (pe_glob (v := .ref (cR K)) rfl G.mgRatio rfl) g_Ratio_of (hr.mono (by decide)) (pxE rfl rfl rfl rfl) (pa_cons (pv 1) (pa_nil))) (pa_nil))))))))) (pss_one (ps_raise rfl (takes_of rfl rfl rfl rfl) (pmk1 g_xBadNumber (hr.mono (by decide)) rfl (pa_cons (pe_str) (pa_nil))))) (pss_nil)) (pss_cons (ps_if (PW.pt (pw_or (pt_not (pt_val (pe_gd g_is_ratio (hr.mono (by decide)) rfl (pxE rfl rfl rfl rfl) (pa_cons (pv 2) (pa_nil))))) (pw_or1 (pt_not (pt_val (pe_gd g_is_between (hr.mono (by decide)) rfl (pxE rfl rfl rfl rfl) (pa_cons (pe_gs (pe_glob (v := .ref (cR K)) rfl G.mgRatio rfl) g_Ratio_of (hr.mono (by decide)) (pxE rfl rfl rfl rfl) (pa_cons (pv 1) (pa_nil))) (pa_cons (pe_gs (pe_glob (v := .ref (cR K)) rfl G.mgRatio rfl) g_Ratio_of (hr.mono (by decide)) (pxE rfl rfl rfl rfl) (pa_cons (pv 2) (pa_nil))) (pa_nil))))))))) (pss_one (ps_raise rfl (takes_of rfl rfl rfl rfl) (pmk1 g_xBadNumber (hr.mono (by decide)) rfl (pa_cons (pe_str) (pa_nil))))) (pss_nil)) (pss_cons (ps_expr (pe_gd g_need_within (hr.mono (by decide)) rfl (pxE rfl rfl rfl rfl) (pa_cons (pv 3) (pa_cons (pe_int) (pa_cons (pe_glob (v := .int 1000) rfl hfar ⟨_, rfl⟩) (pa_cons (pe_str) (pa_nil))))))) (pss_cons (ps_for ((passes_of rfl)) rfl (pi_range2 rfl G.nm.range (pa_cons (pe_int) (pa_cons (pe_op op_add (pv 3) (pe_int)) (pa_nil)))) (pg_name (i := 4) nd rfl (Or.inl rfl)) (pss_cons (ps_set (i := 5) nd rfl (Or.inl rfl) (pe_gd g_place (hr.mono (by decide)) rfl (pxE rfl rfl rfl rfl) (pa_cons (pv 0) (pa_cons (pv 4) (pa_nil))))) (pss_one (ps_if (PW.pt (pw_and (pt_not (pt_val (pe_gh (pv 5) G.R.cl g_R_is_below (hr.mono (by decide)) (pxE rfl rfl rfl rfl) (pa_cons (pv 1) (pa_nil))))) (pw_and1 (pt_not (pt_val (pe_gh (pe_gs (pe_glob (v := .ref (cR K)) rfl G.mgRatio rfl) g_Ratio_of (hr.mono (by decide)) (pxE rfl rfl rfl rfl) (pa_cons (pv 2) (pa_nil))) G.R.cl g_R_is_below (hr.mono (by decide)) (pxE rfl rfl rfl rfl) (pa_cons (pv 5) (pa_nil)))))))) (pss_one (ps_ret (pv 4))) (pss_nil))))) (pss_one (ps_ret (pe_non))))))), ?_⟩)
  obtain ⟨sv, lo, hi, mv, rfl, ⟨n, h⟩ | ⟨a, D, F0, rfl, st, h⟩⟩ := h
  · walk_at "rd"
    exact .inr ⟨n, h⟩
  walk_at "rd"
  refine .inl ⟨a, D, F0, rfl, st.1, ?_⟩
  have z0 : Sz ((0 : Int) : Rat) 1900 := (sz_int (n := 2) (by decide)).mono
  -- low
  rcases h with ⟨nl, h⟩ | ⟨ql, rl, zl, l0, l1, h⟩
  · rcases nl with n | ⟨q, rq, zq, hq⟩
    · obtain ⟨t, ty, n1, n2, _⟩ := n.ty G
      walk_at "rd"
      refine iteP (fun h1 => ?_) (fun h1 => absurd (by simp [n1, n2]) h1)
      walk_at "rd"
      exact (mk1 (fun d H2 sm n e => h d H2 sm n e)).2
    · obtain ⟨t, ty, e⟩ := G.tRV rq
      have zq' : Sz q 3900 := zq.mono
      walk_at "rd"
      refine iteP (fun h1 => absurd h1 (by rw [e]; simp)) (fun _ => ?_)
      walk_at "rd"
      apply makeR12 (show (0 : Int).natAbs < 2 ^ 3900 from nb_le (show (0 : Int).natAbs < 2 ^ 2 by decide))
      intro p0 H1 s1 _ r0
      have rq1 := rq.ext s1
      walk_at "rd"
      intro p1 H2 s2 r1
      have r0 := r0.ext s2
      walk_at "rd"
      intro H3 s3
      rw [bw, decide_eq_false (by rw [Rat.intCast_zero]; exact hq)]
      walk_at "rd"
      exact (mk1 (fun d H' sm n e => (h.ext ((s1.trans s2).trans s3)) d H' sm n e)).2
  · obtain ⟨t, ty, e⟩ := G.tRV rl
    have zl' : Sz ql 3900 := zl.mono
    walk_at "rd"
    refine iteP (fun h1 => absurd h1 (by rw [e]; simp)) (fun _ => ?_)
    walk_at "rd"
    apply makeR12 (show (0 : Int).natAbs < 2 ^ 3900 from nb_le (show (0 : Int).natAbs < 2 ^ 2 by decide))
    intro p0 H1 s1 _ r0
    have rl1 := rl.ext s1
    walk_at "rd"
    intro p1 H2 s2 r1
    have r0 := r0.ext s2
    walk_at "rd"
    intro H3 s3
    rw [bw, decide_eq_true (by rw [Rat.intCast_zero]; exact ⟨l0, l1⟩)]
    have s13 := (s1.trans s2).trans s3
    have st3 := st.ext s13
    have rl3 := rl.ext s13
    clear r0 r1 rl1 s1 s2 s3 ty e
    rcases h with ⟨nh, h⟩ | ⟨qh, rh, zh, h0, h1', h⟩
    · have h := h.ext s13
      rcases nh with n | ⟨q, rq, zq, hq⟩
      · obtain ⟨t, ty, n1, n2, _⟩ := (n.ext s13).ty G
        walk_at "rd"
        refine iteP (fun h1 => ?_) (fun h1 => absurd (by simp [n1, n2]) h1)
        walk_at "rd"
        exact (mk1 (fun d H2 sm n e => h d H2 sm n e)).2
      · have rq3 := rq.ext s13
        obtain ⟨t, ty, e⟩ := G.tRV rq3
        have zq' : Sz q 3900 := zq.mono
        walk_at "rd"
        refine iteP (fun h1 => absurd h1 (by rw [e]; simp)) (fun _ => ?_)
        walk_at "rd"
        intro p4 H4 s4 r4
        have rq4 := rq3.ext s4
        walk_at "rd"
        intro p5 H5 s5 r5
        have r4 := r4.ext s5
        walk_at "rd"
        intro H6 s6
        rw [bw, decide_eq_false hq]
        walk_at "rd"
        exact (mk1 (fun d H' sm n e => (h.ext ((s4.trans s5).trans s6)) d H' sm n e)).2
    · have rh3 := rh.ext s13
      obtain ⟨t, ty, e⟩ := G.tRV rh3
      have zh' : Sz qh 3900 := zh.mono
      walk_at "rd"
      refine iteP (fun h1 => absurd h1 (by rw [e]; simp)) (fun _ => ?_)
      walk_at "rd"
      intro p4 H4 s4 r4
      have rh4 := rh3.ext s4
      walk_at "rd"
      intro p5 H5 s5 r5
      have r4 := r4.ext s5
      walk_at "rd"
      intro H6 s6
      rw [bw, decide_eq_true ⟨h0, h1'⟩]
      have s16 := s13.trans ((s4.trans s5).trans s6)
      have st6 := st.ext s16
      have rl6 := rl.ext s16
      have rh6 := rh.ext s16
      clear r4 r5 rh4 rh3 rl3 st3 s4 s5 s6 s13 ty e
      rcases h with ⟨nm, h⟩ | ⟨n, rfl, n1, n2, q⟩
      · have nm6 : NM K H6 mv := nm.extN (LamX.ExtN.of s16)
        walk_at "rd"
        refine .inr ⟨nm6, ?_⟩
        exact h.ext s16
      · walk_at "rd"
        refine .inl ⟨n, rfl, n1, n2, ?_⟩
        walk_at "rd"
        obtain ⟨_, z1, z2⟩ := id st6
        refine for_range (lo := 1) (n := (n + 1 - 1).toNat) (fun i σ Hh => Bx (∃ x4 x5, σ = [some (V.ref a), some lo, some hi, some (V.int n), x4, x5] ∧ Same H6 Hh ∧ ∀ j : Int, 1 ≤ j → j ≤ i → ¬ Pw D ql qh j)) ⟨⟨_, _, rfl, fun _ _ e => e, fun j a b => by omega⟩⟩ (fun i σ Hh hi hP => ?_) (fun σ Hh hP => ?_)
        · obtain ⟨x4, x5, rfl, sm, hall⟩ := hP.out
          have st7 := st6.ext sm
          have hk : (1 + (i : Int)).natAbs < 2 ^ 40 := by omega
          have yk : Sz (D * ((1 + (i : Int) : Int) : Rat)) 80 := sz_mul z1 (sz_int hk)
          have yf : Sz (frac (D * ((1 + (i : Int) : Int) : Rat))) 1900 := (sz_frac (m := 161) yk).mono
          walk_at "rd"
          intro ph H7 s7 rh'
          obtain ⟨_, rh''⟩ := id rh'
          have rl7 := (rl6.ext sm).ext s7
          walk_at "rd"
          intro H8 s8
          walk_at "rd"
          refine iteP (fun h3 => ?_) (fun h3 => ?_)
          · have h3 : ql ≤ frac (D * ((1 + (i : Int) : Int) : Rat)) := Rat.not_lt.mp (fun z => by rw [decide_eq_true z] at h3; cases h3)
            have rh8 := ((rh6.ext sm).ext s7).ext s8
            walk_at "rd"
            intro p9 H9 s9 r9
            obtain ⟨_, r9'⟩ := id r9
            have v9 := RV.mk ((rh'.ext s8).ext s9)
            walk_at "rd"
            intro H10 s10
            have s710 := ((s7.trans s8).trans s9).trans s10
            walk_at "rd"
            refine iteP (fun h4 => ?_) (fun h4 => ?_)
            · have h4 : frac (D * ((1 + (i : Int) : Int) : Rat)) ≤ qh := Rat.not_lt.mp (fun z => by rw [decide_eq_true z] at h4; cases h4)
              walk_at "rd"
              exact q (some (1 + (i : Int))) _ ((s16.trans sm).trans s710) (.inl ⟨_, rfl, by omega, by omega, ⟨h3, h4⟩, fun j a b => hall j a (by omega)⟩)
            · have h4 : ¬ frac (D * ((1 + (i : Int) : Int) : Rat)) ≤ qh := fun z => h4 (by rw [decide_eq_false (Rat.not_lt.mpr z)]; rfl)
              walk_at "rd"
              refine ⟨⟨_, _, rfl, sm.trans s710, fun j a b => ?_⟩⟩
              by_cases e : j ≤ i
              · exact hall j a e
              · obtain rfl : j = 1 + (i : Int) := by omega
                exact fun z => h4 z.2
          · have h3 : ¬ ql ≤ frac (D * ((1 + (i : Int) : Int) : Rat)) := fun z => h3 (by rw [decide_eq_false (Rat.not_lt.mpr z)]; rfl)
            walk_at "rd"
            refine ⟨⟨_, _, rfl, (sm.trans s7).trans s8, fun j a b => ?_⟩⟩
            by_cases e : j ≤ i
            · exact hall j a e
            · obtain rfl : j = 1 + (i : Int) := by omega
              exact fun z => h3 z.1
        · obtain ⟨x4, x5, rfl, sm, hall⟩ := hP.out
          walk_at "rd"
          exact q none _ (s16.trans sm) (.inr ⟨rfl, fun j a b => hall j a (by omega)⟩)
end
end Sp
end
section
set_option Elab.async false
set_option linter.all false
set_option exponentiation.threshold 5000
set_option maxRecDepth 100000
set_option maxHeartbeats 0
local macro_rules | `(tactic| walk_at "leaf") => `(tactic| first | rfl | assumption | exact True.intro | exact L2.upd_same | exact L2.ClsV.ty _ | exact L2.ClsV.own _ | decide | exact of_decide_eq_true rfl | exact L2.SqL.of (by assumption) | exact L2.SqL.of L2.upd_same | exact Or.inl (L2.SqL.of L2.upd_same) | exact Or.inl (L2.SqL.of (by assumption)) | exact L2.SqT.of (by assumption) | exact L2.SqT.of L2.upd_same | exact Sp.cmL (by decide) | exact Sp.cmR (by decide) | exact ⟨by decide, by decide, by decide⟩ | exact ⟨by decide, by decide⟩ | exact Or.inr (L2.SqT.of (by assumption)) | exact Or.inl ⟨rfl, _, L2.SqL.of (by assumption)⟩ | exact Or.inl ⟨rfl, _, L2.SqL.of L2.upd_same⟩ | omega | fail)
local macro_rules | `(tactic| walk_at "rd1") => `(tactic| first
  | refine Sp.rbR (by assumption) (by assumption) (by assumption) (by assumption) ?_
  | apply Sp.exI
  | (refine And.intro ?lf ?_; (case lf => walk_at "leaf"))
  | fail)
local macro_rules | `(tactic| walk_at "rd") => `(tactic| repeat (walk_at "rd1"))
local macro_rules | `(tactic| walk_at "fR") => `(tactic| (have := (‹Sp.G0 _ _›).R.cl; have := (‹Sp.G0 _ _›).R.no "top" (by simp); have := (‹Sp.G0 _ _›).R.no "bottom" (by simp)))
local macro_rules | `(tactic| walk_at "fT") => `(tactic| (have := (‹Sp.G0 _ _›).T.cl; have := (‹Sp.G0 _ _›).T.no "turn" (by simp); have := (‹Sp.G0 _ _›).T.no "squared" (by simp); have := (‹Sp.G0 _ _›).T.no "rise" (by simp)))
namespace Sp
open PySem PySem.Spec PyProof.Rows L2
section
variable {P : Program} {w : World} {K : PySem.W.Frag} {mg : Str → Option Value} {base : Heap} {f : Addr} {fd : FuncData}
variable (g_is_integer : GD P w K mg base (L2.CX P w) 1 "is_integer" ["value"] [] (spIsInt K)) (g_sign_of : GD P w K mg base (L2.CX P w) 1 "sign_of" ["number"] [] spSign)
  (g_is_ratio : GD P w K mg base (L2.CX P w) 2 "is_ratio" ["value"] [] (spIsRat K)) (g_at_right : GD P w K mg base (L2.CX P w) 6 "at_right" ["value"] [] (spOf K))
  (g_xBadRatio : GX P w K mg base 1 "BadRatio" "part" (cX K "BadRatio")) (g_xBadNumber : GX P w K mg base 1 "BadNumber" "part" (cX K "BadNumber")) (g_xBadStem : GX P w K mg base 1 "BadStem" "part" (cX K "BadStem"))
  (g_mRatio : GM P w K mg base (L2.CX P w) 3 "Ratio" (cR K) ["self", "top", "bottom"] [] (spInitR K)) (g_mRatio1 : GM P w K mg base (L2.CX P w) 3 "Ratio" (cR K) ["self", "top", "bottom"] [.int 1] (spInitR K))
  (g_Ratio_of : GS P w K mg base (L2.CX P w) 5 (cR K) "of" (spOf K)) (g_R_compared : GH P w K mg base (L2.CX P w) 7 (cR K) "compared" ["self", "other"] (spCmp K))
variable (g_radd : GO P w K mg base (L2.CX P w) 7 (cR K) .Add (spBinR K (· + ·))) (g_rsub : GO P w K mg base (L2.CX P w) 7 (cR K) .Sub (spBinR K (· - ·))) (g_rmul : GO P w K mg base (L2.CX P w) 7 (cR K) .Mult (spBinR K (· * ·)))
  (g_req : GN P w K mg base (L2.CX P w) 2 (cR K) "__eq__" (spEqR K)) (g_R_sign : GP P w K mg base (L2.CX P w) 2 (cR K) "sign" (spSgn K)) (g_R_below : GP P w K mg base (L2.CX P w) 1 (cR K) "below" (spFlr K)) (g_R_is_below : GH P w K mg base (L2.CX P w) 8 (cR K) "is_below" ["self", "other"] (spBelow K))
variable (g_mStem : GM P w K mg base (L2.CX P w) 8 "Stem" (cT K) ["self", "turn", "squared"] [] (spInitT K)) (g_need_stem : GD P w K mg base (L2.CX P w) 3 "need_stem" ["value", "part"] [] (spNeedT K)) (g_need_integer : GD P w K mg base (L2.CX P w) 3 "need_integer" ["value", "part"] [] spNeedI)
  (g_is_within : GD P w K mg base (L2.CX P w) 2 "is_within" ["value", "least", "most"] [] (spInW K)) (g_need_within : GD P w K mg base (L2.CX P w) 3 "need_within" ["value", "least", "most", "part"] [] (spNeedW K))
  (g_place : GD P w K mg base (L2.CX P w) 8 "place" ["stem", "stud"] [] (spPlace K)) (g_nearest_rounds : GD P w K mg base (L2.CX P w) 9 "nearest_rounds" ["stem", "stud"] [] (spNRs K))
  (g_is_between : GD P w K mg base (L2.CX P w) 9 "is_between" ["least", "ratio"] [] (spBetw K)) (g_first_within : GD P w K mg base (L2.CX P w) 10 "first_within" ["stem", "low", "high", "most"] [] (spFW K))
variable (g_l_coin : GD P w K mg base (L2.CX P w) 1 "_law_coin" ["_law_purse_here", "_law_many"] [] spDip) (g_l_purse : GD P w K mg base (L2.CX P w) 1 "_law_purse" ["_law_script"] [] (spPail K)) (g_l_of : GD P w K mg base (L2.CX P w) 2 "_law_of" ["_law_purse_here", "_law_some"] [] spOfL)
  (g_l_stem : GD P w K mg base (L2.CX P w) 3 "_law_stem" ["_law_purse_here"] [] spStemL) (g_l_divisor : GD P w K mg base (L2.CX P w) 1 "_law_divisor" ["_law_one", "_law_other"] [] spDiv) (g_l_first : GD P w K mg base (L2.CX P w) 1 "_law_first" ["_law_p", "_law_q", "_law_low", "_law_high", "_law_under", "_law_most"] [] spFirstL)
  (g_l_stretch : GD P w K mg base (L2.CX P w) 3 "_law_stretch" ["_law_purse_here", "_law_p", "_law_q"] [] spStretch) (g_l_pair_right : GD P w K mg base (L2.CX P w) 11 "_law_pair_right" ["_law_purse_here", "_law_plain", "_law_stem_here"] [] (spAsk K))
  (g_l_within_right : GD P w K mg base (L2.CX P w) 11 "_law_within_right" ["_law_purse_here", "_law_plain", "_law_stem_here"] [] (spAsk K)) (g_l_pushed_right : GD P w K mg base (L2.CX P w) 11 "_law_pushed_right" ["_law_purse_here", "_law_plain", "_law_stem_here"] [] (spAsk K))
  (g_rne : GNe P w K mg base (L2.CX P w) 2 (cR K) (spEqR K)) (g_first_within_k : GDK P w K mg base (L2.CX P w) 10 "first_within" ["stem", "low", "high", "most"] 4 [0, 1, 2, 3] (spFW K)) (g_first_within_m : GDM P w K mg base (L2.CX P w) 10 "first_within" ["high", "most"] 2 2 (spFW K))

theorem sc_pail : FnScope ["_law_script", "_law_cell"] ["_law_script"] (defScope (topS 38)) := ⟨rfl, rfl, rfl, by decide +kernel, rfl, by decide +kernel, by decide +kernel⟩
theorem ok_pail (G : G0 K mg) (F : FP K "_law_purse" "_law_purse" (topS 38) [] f fd) : FnOk P w K mg base (L2.CX P w) 1 f fd ["_law_script"] (spPail K) := by
  have nd := sc_pail.nd
  refine F.ok sc_pail (fun vs H Q E h => by obtain ⟨_, _, rfl, _⟩ := h; rfl) (fun cdv A outer s H vs Q E hr h => ⟨_, pss_one (ps_ret (pe_lst (pa_cons (pe_lc (own := [("_law_cell", 1)]) (g := gName 1) (tt := tYes) rfl nd (pi_list (pe_slice sl_list (pv 0) po_none (po_some pe_int))) (blkOk_by (N := ["_law_script", "_law_cell"]) (sc := defScope (topS 38)) (by decide +kernel)) (fun _ _ _ _ _ => pg_name (i := 1) nd rfl (Or.inl rfl)) (fun _ _ _ _ _ => pts_nil) (fun _ _ _ _ _ => pe_callTy call_int1i rfl G.nm.int (by decide +kernel) (pa_cons (pv 1) pa_nil))) (pa_cons (pe_int) (pa_cons (pe_int) (pa_nil)))))), ?_⟩)
  obtain ⟨a, ns, rfl, h, q⟩ := h
  walk_at "rd"
  intro p hp
  have ey : ∃ ys : List Int, cutV (List.map V.int ns) none (some 62) = ys.map V.int ∧ ys.length ≤ 62 := by
    unfold cutV
    rw [← List.map_drop, ← List.map_take]
    refine ⟨_, rfl, ?_⟩
    have e : HT.sIx (List.map V.int ns).length (List.map V.int ns).length (some 62) = min 62 (List.map V.int ns).length := HT.sIx_nat _ _ 62
    rw [List.length_take, List.length_drop, e]
    omega
  obtain ⟨ys, ey, hlen⟩ := ey
  rw [ey]
  refine ⟨p, rfl, ⟨_, SqL.of upd_same⟩, fun D hD => ?_⟩
  have s1 : Same H (upd H p (.lst (ys.map V.int))) := fun b o e => by rw [upd_ne (ne_of_none e hp)]; exact e
  have pD : p ≠ D := ne_of_none upd_same hD
  refine lc_list (K := K) (a := p) (xs := ys.map V.int) (fun i Hh => Same H Hh ∧ Hh p = some (.lst (ys.map V.int)) ∧ Hh D = some (.lst ((ys.take i).map V.int))) ?_ (fun i H _ h => SqL.of h.2.1) ?_ ?_
  · refine ⟨fun b o e => ?_, ?_, upd_same⟩
    · rw [upd_ne (ne_of_none (s1 _ _ e) hD)]
      exact s1 _ _ e
    · rw [upd_ne pD]
      exact upd_same
  · intro i x H1 hx hP
    obtain ⟨p1, p2, p3⟩ := hP
    rw [List.getElem?_map] at hx
    obtain ⟨y, hy, rfl⟩ := Option.map_eq_some_iff.mp hx
    have hi := (List.getElem?_eq_some_iff.mp hy).1
    walk_at "rd"
    have h60 : 62 < sizeLine := by decide
    refine ⟨by rw [List.length_map, List.length_take]; omega, fun b o e => ?_, ?_, ?_⟩
    · rw [upd_ne]
      · exact p1 _ _ e
      · intro z
        subst z
        rw [show H b = none from by
          cases q : H b with
          | none => rfl
          | some u => rw [s1 _ _ q] at hD; cases hD] at e
        cases e
    · rw [upd_ne pD]
      exact p2
    · rw [upd_same, List.take_add_one, hy]
      simp
  · intro H1 hP
    obtain ⟨p1, p2, p3⟩ := hP
    have h3 : 3 ≤ sizeLine := by decide
    walk_at "rd"
    intro r hr
    have rD : D ≠ r := ne_of_none p3 hr
    refine q r _ (fun b o e => ?_) ?_ ⟨D, ys, 0, 0, upd_same, ?_, by omega, by omega, by omega⟩
    · rw [upd_ne (ne_of_none (p1 _ _ e) hr)]
      exact p1 _ _ e
    · cases z : H r with
      | none => rfl
      | some u => rw [p1 _ _ z] at hr; cases hr
    · rw [upd_ne rD, p3, List.length_map, List.take_length]
theorem sc_dip : FnScope ["_law_purse_here", "_law_many", "_law_rest", "_law_turn", "_law_cell", "_law_mixed"] ["_law_purse_here", "_law_many"] (defScope (topS 39)) := ⟨rfl, rfl, rfl, by decide +kernel, rfl, by decide +kernel, by decide +kernel⟩
theorem ok_dip (G : G0 K mg) (F : FP K "_law_coin" "_law_coin" (topS 39) [] f fd) : FnOk P w K mg base (L2.CX P w) 1 f fd ["_law_purse_here", "_law_many"] spDip := by
  have nd := sc_dip.nd
  refine F.ok sc_dip (fun vs H Q E h => by obtain ⟨_, _, _, _, rfl, _⟩ := h; rfl) (fun cdv A outer s H vs Q E hr h => ⟨_, pss_cons (ps_if (pt_cmpR op_gt (pe_ix ix_list (pv 0) (pe_int) (fun _ _ => rfl)) (pe_int) (nomark _)) (pss_cons (ps_set (i := 2) nd rfl (Or.inl rfl) (pe_ix ix_list (pv 0) (pe_int) (fun _ _ => rfl))) (pss_cons (ps_asg (pe_op op_fdivB (pe_callTy call_int1i rfl G.nm.int (by decide +kernel) (pa_cons (pv 2) (pa_nil))) (pv 1)) (pg_sub (pv 0) (pe_int) set_list)) (pss_one (ps_ret (pe_op op_mod (pe_callTy call_int1i rfl G.nm.int (by decide +kernel) (pa_cons (pv 2) (pa_nil))) (pv 1)))))) (pss_nil)) (pss_cons (ps_set (i := 3) nd rfl (Or.inl rfl) (pe_ix ix_list (pv 0) (pe_int) (fun _ _ => rfl))) (pss_cons (ps_asg (pe_op op_add (pv 3) (pe_int)) (pg_sub (pv 0) (pe_int) set_list)) (pss_cons (ps_set (i := 4) nd rfl (Or.inl rfl) (pe_op op_add (pe_op op_mul (pe_int) (pv 3)) (pe_int))) (pss_cons (ps_if (pt_cmpR (op_neD hr.units) (pe_ix ix_list (pv 0) (pe_int) (fun _ _ => rfl)) (pe_lst (pa_nil)) (nomark _)) (pss_one (ps_set (i := 4) nd rfl (Or.inl rfl) (pe_ix ix_list (pe_ix ix_list (pv 0) (pe_int) (fun _ _ => rfl)) (pe_op op_mod (pe_callTy call_int1i rfl G.nm.int (by decide +kernel) (pa_cons (pv 3) (pa_nil))) (pe_callB call_len_seq rfl G.nm.len (by decide +kernel) (pa_cons (pe_ix ix_list (pv 0) (pe_int) (fun _ _ => rfl)) (pa_nil)))) (fun _ _ => rfl)))) (pss_nil)) (pss_cons (ps_if (PW.pt (pw_and (pt_cmpR op_lt (pv 3) (pe_callB call_len_seq rfl G.nm.len (by decide +kernel) (pa_cons (pe_ix ix_list (pv 0) (pe_int) (fun _ _ => rfl)) (pa_nil))) (nomark _)) (pw_and1 (pt_cmpR op_ge (pe_callB call_abs rfl G.nm.abs (by decide +kernel) (pa_cons (pv 4) (pa_nil))) (pe_op op_pow (pe_int) (pe_int)) (nomark _))))) (pss_cons (ps_set (i := 2) nd rfl (Or.inl rfl) (pe_op op_add (pe_op op_mul (pe_int) (pe_op op_sub (pe_callB call_abs rfl G.nm.abs (by decide +kernel) (pa_cons (pv 4) (pa_nil))) (pe_op op_pow (pe_int) (pe_int)))) (pe_callTy call_int1b rfl G.nm.int (by decide +kernel) (pa_cons (pe_cmpR op_lt (pv 4) (pe_int) (nomark _)) (pa_nil))))) (pss_cons (ps_asg (pe_op op_fdivB (pe_callTy call_int1i rfl G.nm.int (by decide +kernel) (pa_cons (pv 2) (pa_nil))) (pv 1)) (pg_sub (pv 0) (pe_int) set_list)) (pss_one (ps_ret (pe_op op_mod (pe_callTy call_int1i rfl G.nm.int (by decide +kernel) (pa_cons (pv 2) (pa_nil))) (pv 1)))))) (pss_nil)) (pss_cons (ps_set (i := 5) nd rfl (Or.inl rfl) (pe_op op_mod (pe_callTy call_int1i rfl G.nm.int (by decide +kernel) (pa_cons (pe_op op_pow (pe_op op_add (pe_op op_add (pe_op op_mod (pe_callTy call_int1i rfl G.nm.int (by decide +kernel) (pa_cons (pv 4) (pa_nil))) (pe_int)) (pe_op op_mul (pe_int) (pv 3))) (pe_int)) (pe_int)) (pa_nil))) (pe_int))) (pss_cons (ps_set (i := 5) nd rfl (Or.inl rfl) (pe_op op_mod (pe_callTy call_int1i rfl G.nm.int (by decide +kernel) (pa_cons (pe_op op_pow (pe_op op_add (pe_op op_add (pe_op op_mul (pv 5) (pe_op op_add (pe_op op_mul (pe_int) (pv 3)) (pe_int))) (pe_op op_mul (pe_op op_mul (pe_int) (pv 3)) (pv 3))) (pe_int)) (pe_int)) (pa_nil))) (pe_int))) (pss_one (ps_ret (pe_op op_mod (pe_callTy call_int1i rfl G.nm.int (by decide +kernel) (pa_cons (pe_op op_fdivB (pv 5) (pe_int)) (pa_nil))) (pv 1))))))))))), ?_⟩)
  obtain ⟨a, c, m, N, rfl, ⟨cs, n, g, ha, hc, n0, nN, g0⟩, hN, m0, m1, q⟩ := h
  have dm : ∀ x, CDivB x m := fun x => ⟨by omega, by have h2 : (2 : Nat) ^ 30 ≤ 2 ^ 4000 := Nat.pow_le_pow_right (by decide) (by decide); omega⟩
  have dg := dm g
  have ca : c ≠ a := by
    intro z
    subst z
    rw [ha] at hc
    injection hc with hc
    injection hc with hc
    cases cs <;> cases hc
  walk_at "rd"
  refine iteP (fun h1 => ?_) (fun h1 => ?_)
  · have h1 : 0 < g := of_decide_eq_true h1
    walk_at "rd"
    have e : Sb a H (upd H a (.lst [.ref c, .int n, .int (g.fdiv m)])) := fun b o nb e => by rw [upd_ne nb]; exact e
    exact q (g % m) _ (Int.emod_nonneg _ (by omega)) (Int.emod_lt_of_pos _ m0) ⟨cs, n, g.fdiv m, upd_same, e _ _ ca hc, n0, by omega, Int.fdiv_nonneg g0 (by omega)⟩ e
  · have hc1 : upd H a (.lst [.ref c, .int (n + 1), .int g]) c = some (.lst (cs.map V.int)) := by
      rw [upd_ne ca]
      exact hc
    walk_at "rd"
    intro l hl
    have hc2 := (upd_ne (o := .lst []) (ne_of_none hc1 hl)).trans hc1
    refine ⟨_, _, .lst (SqL.of hc2) (dp_ints cs), .lst (SqL.of upd_same) .nil, shaped_ints cs, rfl, ?_⟩
    walk_at "rd"
    have hla : a ≠ l := ne_of_none (show upd H a (.lst [.ref c, .int (n + 1), .int g]) a = some _ from upd_same) hl
    have ha2 : upd (upd H a (.lst [.ref c, .int (n + 1), .int g])) l (.lst []) a = some (.lst [.ref c, .int (n + 1), .int g]) := by
      rw [upd_ne hla]
      exact upd_same
    apply tailR
    · intro tail
      refine iteP (fun h2 => ?_) (fun h2 => ?_)
      · have hl0 : 0 < ((cs.map V.int).length : Int) := by
          cases cs with
          | nil => cases h2
          | cons y ys => simp
        have hat : ∃ x : Int, atI (cs.map V.int) (n % ((cs.map V.int).length : Int)) = some (.int x) := by
          have r1 := Int.emod_nonneg n (show ((cs.map V.int).length : Int) ≠ 0 by omega)
          have r2 := Int.emod_lt_of_pos n hl0
          obtain ⟨j, hj⟩ : ∃ j : Nat, n % ((cs.map V.int).length : Int) = j := ⟨(n % ((cs.map V.int).length : Int)).toNat, by omega⟩
          rw [hj]
          have hjl : j < cs.length := by rw [hj, List.length_map] at r2; omega
          refine ⟨cs[j], atI_nat ?_⟩
          rw [List.getElem?_map, List.getElem?_eq_getElem hjl]
          rfl
        obtain ⟨x, hat⟩ := hat
        walk_at "rd"
        exact tail x
      · walk_at "rd"
        exact tail (48611 * n + 3329)
    · intro x
      have nM : n ≤ 1000000 := by omega
      have cp1 : CPow (x % 2147483563 + 61813 * n + 3329) 5 := ⟨by decide, by decide, by omega⟩
      have y0 := Int.emod_nonneg ((x % 2147483563 + 61813 * n + 3329) ^ Int.toNat 5) (show (2147483647 : Int) ≠ 0 by decide)
      have y1 := Int.emod_lt_of_pos ((x % 2147483563 + 61813 * n + 3329) ^ Int.toNat 5) (show (0 : Int) < 2147483647 by decide)
      have cm1 : CMul ((x % 2147483563 + 61813 * n + 3329) ^ Int.toNat 5 % 2147483647) (2 * n + 2063) := .inr ⟨by omega, by omega⟩
      have cm2 : CMul (48611 * n) n := .inr ⟨by omega, by omega⟩
      have cp2 : CPow ((x % 2147483563 + 61813 * n + 3329) ^ Int.toNat 5 % 2147483647 * (2 * n + 2063) + 48611 * n * n + 73939) 3 := by
        refine ⟨by decide, by decide, ?_⟩
        revert y0 y1
        generalize (x % 2147483563 + 61813 * n + 3329) ^ Int.toNat 5 % 2147483647 = y
        intro y0 y1
        have b1 : y * (2 * n + 2063) ≤ 2147483647 * 2002063 := Int.mul_le_mul (by omega) (by omega) (by omega) (by decide)
        have b2 : 0 ≤ y * (2 * n + 2063) := Int.mul_nonneg y0 (by omega)
        have b3 : n * n ≤ 1000000 * 1000000 := Int.mul_le_mul nM nM n0 (by decide)
        have b4 : 0 ≤ n * n := Int.mul_nonneg n0 n0
        rw [Int.mul_assoc 48611]
        omega
      have d64 : ∀ z : Int, CDivB z 64 := fun z => ⟨by decide, by decide⟩
      have d64' := d64 (((x % 2147483563 + 61813 * n + 3329) ^ Int.toNat 5 % 2147483647 * (2 * n + 2063) + 48611 * n * n + 73939) ^ Int.toNat 3 % 2147483587)
      have dgr := dm (2 * ((if x < 0 then -x else x) - 10 ^ Int.toNat 18) + (if decide (x < 0) = true then 1 else 0))
      have sb2 : ∀ o', Sb a H (upd (upd (upd H a (.lst [.ref c, .int (n + 1), .int g])) l (.lst [])) a o') := fun o' b o nb e => by
        have h1 := (upd_ne (o := .lst [.ref c, .int (n + 1), .int g]) nb).trans e
        rw [upd_ne nb, upd_ne (ne_of_none h1 hl)]
        exact h1
      have sb1 : Sb a H (upd (upd H a (.lst [.ref c, .int (n + 1), .int g])) l (.lst [])) := fun b o nb e => by
        have h1 := (upd_ne (o := .lst [.ref c, .int (n + 1), .int g]) nb).trans e
        rw [upd_ne (ne_of_none h1 hl)]
        exact h1
      have fin1 : Pail (upd (upd H a (.lst [.ref c, .int (n + 1), .int g])) l (.lst [])) a c (N + 1) := ⟨cs, n + 1, g, ha2, hc2, by omega, by omega, g0⟩
      refine iteP (fun h3 => ?_) (fun h3 => ?_)
      · walk_at "rd"
        refine iteP (fun h4 => ?_) (fun h4 => ?_)
        · walk_at "rd"
          refine q _ _ (Int.emod_nonneg _ (by omega)) (Int.emod_lt_of_pos _ m0) ⟨cs, n + 1, _, upd_same, sb2 _ _ _ ca hc, by omega, by omega, Int.fdiv_nonneg ?_ (by omega)⟩ (sb2 _)
          have h4 : (10 : Int) ^ Int.toNat 18 ≤ (if x < 0 then -x else x) := of_decide_eq_true h4
          have : (0 : Int) ≤ (if decide (x < 0) = true then 1 else 0) := by split <;> decide
          omega
        · walk_at "rd"
          exact q _ _ (Int.emod_nonneg _ (by omega)) (Int.emod_lt_of_pos _ m0) fin1 sb1
      · walk_at "rd"
        exact q _ _ (Int.emod_nonneg _ (by omega)) (Int.emod_lt_of_pos _ m0) fin1 sb1
theorem sc_ofL : FnScope ["_law_purse_here", "_law_some"] ["_law_purse_here", "_law_some"] (defScope (topS 40)) := ⟨rfl, rfl, rfl, by decide +kernel, rfl, by decide +kernel, by decide +kernel⟩
include g_l_coin in
theorem ok_ofL (G : G0 K mg) (F : FP K "_law_of" "_law_of" (topS 40) [] f fd) : FnOk P w K mg base (L2.CX P w) 2 f fd ["_law_purse_here", "_law_some"] spOfL := by
  have nd := sc_ofL.nd
  refine F.ok sc_ofL (fun vs H Q E h => by obtain ⟨_, _, _, _, _, rfl, _⟩ := h; rfl) (fun cdv A outer s H vs Q E hr h => ⟨_, pss_one (ps_ret (pe_ix ix_list (pv 1) (pe_gd g_l_coin (hr.mono (by decide)) rfl (pxE rfl rfl rfl rfl) (pa_cons (pv 0) (pa_cons (pe_callB call_len_seq rfl G.nm.len (by decide +kernel) (pa_cons (pv 1) (pa_nil))) (pa_nil)))) (fun _ _ => rfl))), ?_⟩)
  obtain ⟨a, c, l, N, xs, rfl, hp, hN, hl, nla, x0, x1, q⟩ := h
  have b0 : 0 < ((xs.length : Nat) : Int) := by omega
  have b1 : ((xs.length : Nat) : Int) < 2 ^ 30 := by omega
  iterate 13 (walk_at "rd1")
  refine ⟨N, rfl, hp, hN, b0, b1, ?_⟩
  intro d H1 d0 d1 p1 s1
  have hl1 := s1 _ _ nla hl
  obtain ⟨j, rfl⟩ : ∃ j : Nat, d = j := ⟨d.toNat, by omega⟩
  have hj : j < xs.length := by omega
  have hat : atI xs (j : Int) = some xs[j] := atI_nat (List.getElem?_eq_getElem hj)
  walk_at "rd"
  exact q _ _ _ d0 d1 hat p1 s1
theorem sc_div : FnScope ["_law_one", "_law_other"] ["_law_one", "_law_other"] (defScope (topS 43)) := ⟨rfl, rfl, rfl, by decide +kernel, rfl, by decide +kernel, by decide +kernel⟩
theorem ok_div (G : G0 K mg) (F : FP K "_law_divisor" "_law_divisor" (topS 43) [] f fd) : FnOk P w K mg base (L2.CX P w) 1 f fd ["_law_one", "_law_other"] spDiv := by
  have nd := sc_div.nd
  refine F.ok sc_div (fun vs H Q E h => by obtain ⟨_, _, rfl, _⟩ := h; rfl) (fun cdv A outer s H vs Q E hr h => ⟨_, pss_cons (ps_while (passes_of rfl) (pt_cmpR op_gt (pv 1) (pe_int) (nomark _)) (pss_one (ps_par (i := 0) (j := 1) rfl nd rfl rfl (by decide) rfl rfl (pa_cons (pv 1) (pa_cons (pe_op op_modN (pe_callTy call_int1i rfl G.nm.int (by decide +kernel) (pa_cons (pv 0) (pa_nil))) (pv 1)) pa_nil)) rfl))) (pss_one (ps_ret (pv 0))), ?_⟩)
  obtain ⟨x, y, rfl, x0, y0, k⟩ := h
  refine while_by (fun σ Hh => ∃ u v, σ = [some (.int u), some (.int v)] ∧ Hh = H ∧ 0 ≤ u ∧ 0 ≤ v ∧ Nat.gcd u.natAbs v.natAbs = Nat.gcd x.natAbs y.natAbs)
    (fun σ _ => match σ with | [_, some (.int r)] => r.natAbs | _ => 0) ⟨_, _, rfl, rfl, x0, y0, rfl⟩ (fun σ Hh hP => ?_) mono_I0
  obtain ⟨u, v, rfl, rfl, u0, v0, hg⟩ := hP
  walk_at "rd"
  refine iteP (fun h1 => ?_) (fun h1 => ?_)
  · have h1 : 0 < v := of_decide_eq_true h1
    have hv : v ≠ 0 := by omega
    have l1 := Int.fmod_nonneg_of_pos u h1
    have l2 := Int.fmod_lt_of_pos u h1
    have hg' : Nat.gcd v.natAbs (u.fmod v).natAbs = Nat.gcd x.natAbs y.natAbs := by
      show Int.gcd v (u.fmod v) = _
      have e : u.fmod v = u - u.fdiv v * v := by
        have := Int.mul_fdiv_add_fmod u v
        grind
      rw [e, Int.gcd_sub_mul_right_right, Int.gcd_comm]
      exact hg
    walk_at "rd"
    first
      | exact ⟨⟨_, _, rfl, rfl, v0, l1, hg'⟩, by show (u.fmod v).natAbs < v.natAbs; omega⟩
      | (show (u.fmod v).natAbs < v.natAbs; omega)
  · have hv : v = 0 := by
      have : ¬ 0 < v := fun z => h1 (decide_eq_true z)
      omega
    subst hv
    rw [show (0 : Int).natAbs = 0 from rfl, Nat.gcd_zero_right] at hg
    rw [← hg, show ((u.natAbs : Nat) : Int) = u by omega] at k
    walk_at "rd"
    exact k
theorem sc_first : FnScope ["_law_p", "_law_q", "_law_low", "_law_high", "_law_under", "_law_most", "_law_stud", "_law_here"] ["_law_p", "_law_q", "_law_low", "_law_high", "_law_under", "_law_most"] (defScope (topS 46)) := ⟨rfl, rfl, rfl, by decide +kernel, rfl, by decide +kernel, by decide +kernel⟩
theorem ok_first (G : G0 K mg) (F : FP K "_law_first" "_law_first" (topS 46) [] f fd) : FnOk P w K mg base (L2.CX P w) 1 f fd ["_law_p", "_law_q", "_law_low", "_law_high", "_law_under", "_law_most"] spFirstL := by
  have nd := sc_first.nd
  refine F.ok sc_first (fun vs H Q E h => by obtain ⟨_, _, _, _, _, _, rfl, _⟩ := h; rfl) (fun cdv A outer s H vs Q E hr h => ⟨_, pss_cons (ps_for ((passes_of rfl)) rfl (pi_range2 rfl G.nm.range (pa_cons (pe_int) (pa_cons (pe_op op_add (pv 5) (pe_int)) (pa_nil)))) (pg_name (i := 6) nd rfl (Or.inl rfl)) (pss_cons (ps_set (i := 7) nd rfl (Or.inl rfl) (pe_op op_modN (pe_callTy call_int1i rfl G.nm.int (by decide +kernel) (pa_cons (pe_op op_mulB (pv 6) (pv 0)) (pa_nil))) (pv 1))) (pss_one (ps_if (pt_chain op_le op_le (pe_op op_mulB (pv 2) (pv 1)) (pe_op op_mulB (pv 7) (pv 4)) (pe_op op_mulB (pv 3) (pv 1))) (pss_one (ps_ret (pv 6))) (pss_nil))))) (pss_one (ps_ret (pe_non))), ?_⟩)
  obtain ⟨p, q, lo, ih, u, n, rfl, zp, q1, q2, zl, zh, u1, u2, n1, n2, k⟩ := h
  have hq : q ≠ 0 := by omega
  walk_at "rd"
  refine for_range (lo := 1) (n := (n + 1 - 1).toNat) (fun i σ Hh => Bx (∃ x6 x7, σ = [some (.int p), some (.int q), some (.int lo), some (.int ih), some (.int u), some (.int n), x6, x7] ∧ Hh = H ∧ ∀ j : Int, 1 ≤ j → j ≤ i → ¬ Pl p q lo ih u j)) ⟨⟨_, _, rfl, rfl, fun j a b => by omega⟩⟩ (fun i σ Hh hi hP => ?_) (fun σ Hh hP => ?_)
  · obtain ⟨x6, x7, rfl, rfl, hall⟩ := hP.out
    have e : ((1 + (i : Int)) * p).fmod q = (1 + (i : Int)) * p % q := Int.fmod_eq_emod_of_nonneg _ (by omega)
    have l1 := Int.emod_nonneg ((1 + (i : Int)) * p) hq
    have l2 := Int.emod_lt_of_pos ((1 + (i : Int)) * p) (show 0 < q by omega)
    have c1 : CMulB (1 + (i : Int)) p := cm (n := 12) (m := 8) (by omega) (by omega)
    have c2 : CMulB lo q := cm (n := 8) (m := 6) (by omega) (by omega)
    have c3 : CMulB (((1 + (i : Int)) * p).fmod q) u := cm (n := 6) (m := 7) (by omega) (by omega)
    have c4 : CMulB ih q := cm (n := 8) (m := 6) (by omega) (by omega)
    have stop : ∀ P : Prop, (P ↔ Pl p q lo ih u (1 + (i : Int))) → ¬ P → ∀ j : Int, 1 ≤ j → j ≤ ((i + 1 : Nat) : Int) → ¬ Pl p q lo ih u j := fun P hP hn j a b => by
      by_cases z : j ≤ i
      · exact hall j a z
      · obtain rfl : j = 1 + (i : Int) := by omega
        exact fun w => hn (hP.mpr w)
    have ePl : Pl p q lo ih u (1 + (i : Int)) ↔ lo * q ≤ ((1 + (i : Int)) * p).fmod q * u ∧ ((1 + (i : Int)) * p).fmod q * u ≤ ih * q := by
      unfold Pl
      rw [e]
    walk_at "rd"
    refine iteP (fun h1 => ?_) (fun h1 => ?_)
    · have h1 : lo * q ≤ ((1 + (i : Int)) * p).fmod q * u := of_decide_eq_true h1
      walk_at "rd"
      refine iteP (fun h2 => ?_) (fun h2 => ?_)
      · have h2 : ((1 + (i : Int)) * p).fmod q * u ≤ ih * q := of_decide_eq_true h2
        walk_at "rd"
        exact k (some (1 + (i : Int))) (.inl ⟨_, rfl, by omega, by omega, ePl.mpr ⟨h1, h2⟩, fun j a b => hall j a (by omega)⟩)
      · walk_at "rd"
        exact ⟨⟨_, _, rfl, rfl, stop _ ePl.symm (fun z => h2 (decide_eq_true z.2))⟩⟩
    · walk_at "rd"
      exact ⟨⟨_, _, rfl, rfl, stop _ ePl.symm (fun z => h1 (decide_eq_true z.1))⟩⟩
  · obtain ⟨x6, x7, rfl, rfl, hall⟩ := hP.out
    walk_at "rd"
    exact k none (.inr ⟨rfl, fun j a b => hall j a (by omega)⟩)
end
end Sp
end
section
set_option Elab.async false
set_option linter.all false
set_option exponentiation.threshold 5000
set_option maxRecDepth 100000
set_option maxHeartbeats 0
local macro_rules | `(tactic| walk_at "leaf") => `(tactic| first | rfl | assumption | exact True.intro | exact L2.upd_same | exact L2.ClsV.ty _ | exact L2.ClsV.own _ | decide | exact of_decide_eq_true rfl | exact L2.SqL.of (by assumption) | exact L2.SqL.of L2.upd_same | exact Or.inl (L2.SqL.of L2.upd_same) | exact Or.inl (L2.SqL.of (by assumption)) | exact L2.SqT.of (by assumption) | exact L2.SqT.of L2.upd_same | exact Sp.cmL (by decide) | exact Sp.cmR (by decide) | exact ⟨by decide, by decide, by decide⟩ | exact ⟨by decide, by decide⟩ | exact Or.inr (L2.SqT.of (by assumption)) | exact Or.inl ⟨rfl, _, L2.SqL.of (by assumption)⟩ | exact Or.inl ⟨rfl, _, L2.SqL.of L2.upd_same⟩ | omega | fail)
local macro_rules | `(tactic| walk_at "rd1") => `(tactic| first
  | refine Sp.rbR (by assumption) (by assumption) (by assumption) (by assumption) ?_
  | apply Sp.exI
  | (refine And.intro ?lf ?_; (case lf => walk_at "leaf"))
  | fail)
local macro_rules | `(tactic| walk_at "rd") => `(tactic| repeat (walk_at "rd1"))
local macro_rules | `(tactic| walk_at "fR") => `(tactic| (have := (‹Sp.G0 _ _›).R.cl; have := (‹Sp.G0 _ _›).R.no "top" (by simp); have := (‹Sp.G0 _ _›).R.no "bottom" (by simp)))
local macro_rules | `(tactic| walk_at "fT") => `(tactic| (have := (‹Sp.G0 _ _›).T.cl; have := (‹Sp.G0 _ _›).T.no "turn" (by simp); have := (‹Sp.G0 _ _›).T.no "squared" (by simp); have := (‹Sp.G0 _ _›).T.no "rise" (by simp)))
namespace Sp
open PySem PySem.Spec PyProof.Rows L2
section
variable {P : Program} {w : World} {K : PySem.W.Frag} {mg : Str → Option Value} {base : Heap} {f : Addr} {fd : FuncData}
variable (g_is_integer : GD P w K mg base (L2.CX P w) 1 "is_integer" ["value"] [] (spIsInt K)) (g_sign_of : GD P w K mg base (L2.CX P w) 1 "sign_of" ["number"] [] spSign)
  (g_is_ratio : GD P w K mg base (L2.CX P w) 2 "is_ratio" ["value"] [] (spIsRat K)) (g_at_right : GD P w K mg base (L2.CX P w) 6 "at_right" ["value"] [] (spOf K))
  (g_xBadRatio : GX P w K mg base 1 "BadRatio" "part" (cX K "BadRatio")) (g_xBadNumber : GX P w K mg base 1 "BadNumber" "part" (cX K "BadNumber")) (g_xBadStem : GX P w K mg base 1 "BadStem" "part" (cX K "BadStem"))
  (g_mRatio : GM P w K mg base (L2.CX P w) 3 "Ratio" (cR K) ["self", "top", "bottom"] [] (spInitR K)) (g_mRatio1 : GM P w K mg base (L2.CX P w) 3 "Ratio" (cR K) ["self", "top", "bottom"] [.int 1] (spInitR K))
  (g_Ratio_of : GS P w K mg base (L2.CX P w) 5 (cR K) "of" (spOf K)) (g_R_compared : GH P w K mg base (L2.CX P w) 7 (cR K) "compared" ["self", "other"] (spCmp K))
variable (g_radd : GO P w K mg base (L2.CX P w) 7 (cR K) .Add (spBinR K (· + ·))) (g_rsub : GO P w K mg base (L2.CX P w) 7 (cR K) .Sub (spBinR K (· - ·))) (g_rmul : GO P w K mg base (L2.CX P w) 7 (cR K) .Mult (spBinR K (· * ·)))
  (g_req : GN P w K mg base (L2.CX P w) 2 (cR K) "__eq__" (spEqR K)) (g_R_sign : GP P w K mg base (L2.CX P w) 2 (cR K) "sign" (spSgn K)) (g_R_below : GP P w K mg base (L2.CX P w) 1 (cR K) "below" (spFlr K)) (g_R_is_below : GH P w K mg base (L2.CX P w) 8 (cR K) "is_below" ["self", "other"] (spBelow K))
variable (g_mStem : GM P w K mg base (L2.CX P w) 8 "Stem" (cT K) ["self", "turn", "squared"] [] (spInitT K)) (g_need_stem : GD P w K mg base (L2.CX P w) 3 "need_stem" ["value", "part"] [] (spNeedT K)) (g_need_integer : GD P w K mg base (L2.CX P w) 3 "need_integer" ["value", "part"] [] spNeedI)
  (g_is_within : GD P w K mg base (L2.CX P w) 2 "is_within" ["value", "least", "most"] [] (spInW K)) (g_need_within : GD P w K mg base (L2.CX P w) 3 "need_within" ["value", "least", "most", "part"] [] (spNeedW K))
  (g_place : GD P w K mg base (L2.CX P w) 8 "place" ["stem", "stud"] [] (spPlace K)) (g_nearest_rounds : GD P w K mg base (L2.CX P w) 9 "nearest_rounds" ["stem", "stud"] [] (spNRs K))
  (g_is_between : GD P w K mg base (L2.CX P w) 9 "is_between" ["least", "ratio"] [] (spBetw K)) (g_first_within : GD P w K mg base (L2.CX P w) 10 "first_within" ["stem", "low", "high", "most"] [] (spFW K))
variable (g_l_coin : GD P w K mg base (L2.CX P w) 1 "_law_coin" ["_law_purse_here", "_law_many"] [] spDip) (g_l_purse : GD P w K mg base (L2.CX P w) 1 "_law_purse" ["_law_script"] [] (spPail K)) (g_l_of : GD P w K mg base (L2.CX P w) 2 "_law_of" ["_law_purse_here", "_law_some"] [] spOfL)
  (g_l_stem : GD P w K mg base (L2.CX P w) 3 "_law_stem" ["_law_purse_here"] [] spStemL) (g_l_divisor : GD P w K mg base (L2.CX P w) 1 "_law_divisor" ["_law_one", "_law_other"] [] spDiv) (g_l_first : GD P w K mg base (L2.CX P w) 1 "_law_first" ["_law_p", "_law_q", "_law_low", "_law_high", "_law_under", "_law_most"] [] spFirstL)
  (g_l_stretch : GD P w K mg base (L2.CX P w) 3 "_law_stretch" ["_law_purse_here", "_law_p", "_law_q"] [] spStretch) (g_l_pair_right : GD P w K mg base (L2.CX P w) 11 "_law_pair_right" ["_law_purse_here", "_law_plain", "_law_stem_here"] [] (spAsk K))
  (g_l_within_right : GD P w K mg base (L2.CX P w) 11 "_law_within_right" ["_law_purse_here", "_law_plain", "_law_stem_here"] [] (spAsk K)) (g_l_pushed_right : GD P w K mg base (L2.CX P w) 11 "_law_pushed_right" ["_law_purse_here", "_law_plain", "_law_stem_here"] [] (spAsk K))
  (g_rne : GNe P w K mg base (L2.CX P w) 2 (cR K) (spEqR K)) (g_first_within_k : GDK P w K mg base (L2.CX P w) 10 "first_within" ["stem", "low", "high", "most"] 4 [0, 1, 2, 3] (spFW K)) (g_first_within_m : GDM P w K mg base (L2.CX P w) 10 "first_within" ["high", "most"] 2 2 (spFW K))

theorem sc_stemL : FnScope ["_law_purse_here", "_law_q", "_law_m", "_law_p", "_law_least"] ["_law_purse_here"] (defScope (topS 41)) := ⟨rfl, rfl, rfl, by decide +kernel, rfl, by decide +kernel, by decide +kernel⟩
include g_l_coin g_l_of in
theorem ok_stemL (G : G0 K mg) (F : FP K "_law_stem" "_law_stem" (topS 41) [] f fd) : FnOk P w K mg base (L2.CX P w) 3 f fd ["_law_purse_here"] spStemL := by
  have nd := sc_stemL.nd
  refine F.ok sc_stemL (fun vs H Q E h => by obtain ⟨_, _, _, rfl, _⟩ := h; rfl) (fun cdv A outer s H vs Q E hr h => ⟨_, pss_cons (ps_par (i := 1) (j := 2) rfl nd rfl rfl (by decide) rfl rfl (pa_cons (pe_op op_add (pe_int) (pe_gd g_l_coin (hr.mono (by decide)) rfl (pxE rfl rfl rfl rfl) (pa_cons (pv 0) (pa_cons (pe_int) (pa_nil))))) (pa_cons (pe_op op_add (pe_int) (pe_gd g_l_coin (hr.mono (by decide)) rfl (pxE rfl rfl rfl rfl) (pa_cons (pv 0) (pa_cons (pe_int) (pa_nil))))) pa_nil)) rfl) (pss_cons (ps_set (i := 3) nd rfl (Or.inl rfl) (pe_op op_sub (pe_gd g_l_coin (hr.mono (by decide)) rfl (pxE rfl rfl rfl rfl) (pa_cons (pv 0) (pa_cons (pe_op op_add (pe_op op_mulB (pe_int) (pv 1)) (pe_int)) (pa_nil)))) (pe_op op_mulB (pe_int) (pv 1)))) (pss_cons (ps_set (i := 4) nd rfl (Or.inl rfl) (pe_op op_add (pe_op op_fdivB (pe_op op_mulB (pe_op op_mulB (pv 2) (pv 3)) (pv 3)) (pe_op op_mulB (pv 1) (pv 1))) (pe_int))) (pss_one (ps_ret (pe_lst (pa_cons (pv 3) (pa_cons (pv 1) (pa_cons (pe_op op_add (pv 4) (pe_gd g_l_of (hr.mono (by decide)) rfl (pxE rfl rfl rfl rfl) (pa_cons (pv 0) (pa_cons (pe_lst (pa_cons (pe_int) (pa_cons (pe_int) (pa_cons (pe_int) (pa_cons (pe_gd g_l_coin (hr.mono (by decide)) rfl (pxE rfl rfl rfl rfl) (pa_cons (pv 0) (pa_cons (pe_int) (pa_nil)))) (pa_cons (pe_gd g_l_coin (hr.mono (by decide)) rfl (pxE rfl rfl rfl rfl) (pa_cons (pv 0) (pa_cons (pe_int) (pa_nil)))) (pa_cons (pe_int) (pa_nil)))))))) (pa_nil))))) (pa_cons (pv 2) (pa_nil)))))))))), ?_⟩)
  obtain ⟨a, c, N, rfl, hp, hN, k⟩ := h
  walk_at "rd"
  intro q H1 q0 q1 p1 s1
  have hN1 : N + 1 ≤ 1000000 := by omega
  clear hp
  walk_at "rd"
  intro m H2 m0 m1 p2 s2
  have s12 := s1.trans s2
  have hN2 : N + 1 + 1 ≤ 1000000 := by omega
  clear p1
  have c1 : CMulB 6 (1 + q) := cm (n := 3) (m := 7) (by decide) (by omega)
  have b1 : 0 < 6 * (1 + q) + 1 := by omega
  have b2 : 6 * (1 + q) + 1 < 2 ^ 30 := by omega
  walk_at "rd"
  intro p' H3 p0 p1' p3 s3
  have s13 := s12.trans s3
  have hN3 : N + 1 + 1 + 1 ≤ 1000000 := by omega
  clear p2
  have c2 : CMulB 3 (1 + q) := cm (n := 2) (m := 7) (by decide) (by omega)
  obtain ⟨p, hpp⟩ : ∃ p, p = p' - 3 * (1 + q) := ⟨_, rfl⟩
  have zp : p.natAbs ≤ 120 := by omega
  have c3 : CMulB (1 + m) (p' - 3 * (1 + q)) := cm (n := 7) (m := 8) (by omega) (by omega)
  have hmp : ((1 + m) * (p' - 3 * (1 + q))).natAbs < 2 ^ 14 := nb_mul (a := 6) (b := 8) (by omega) (by omega)
  have c4 : CMulB ((1 + m) * (p' - 3 * (1 + q))) (p' - 3 * (1 + q)) := cm (n := 14) (m := 8) hmp (by omega)
  have c5 : CMulB (1 + q) (1 + q) := cm (n := 7) (m := 7) (by omega) (by omega)
  have hqq : 0 < (1 + q) * (1 + q) := Int.mul_pos (by omega) (by omega)
  have zqq : ((1 + q) * (1 + q)).natAbs < 2 ^ 14 := nb_mul (a := 7) (b := 7) (by omega) (by omega)
  have d1 : CDivB ((1 + m) * (p' - 3 * (1 + q)) * (p' - 3 * (1 + q))) ((1 + q) * (1 + q)) := ⟨by omega, nb_le zqq⟩
  walk_at "rd"
  intro d4 H4 a4 b4 p4 s4
  have s14 := s13.trans s4
  have hN4 : N + 1 + 1 + 1 + 1 ≤ 1000000 := by omega
  clear p3
  walk_at "rd"
  intro d5 H5 a5 b5 p5 s5
  have s15 := s14.trans s5
  have hN5 : N + 1 + 1 + 1 + 1 + 1 ≤ 1000000 := by omega
  clear p4
  walk_at "rd"
  intro L hL
  have nla := p5.ne hL
  have sL := Same.new (o := .lst [.int 0, .int 1, .int 2, .int d4, .int d5, .int 1000]) hL
  have p6 := p5.ext sL
  have hl : upd H5 L (.lst [.int 0, .int 1, .int 2, .int d4, .int d5, .int 1000]) L = some (.lst [.int 0, .int 1, .int 2, .int d4, .int d5, .int 1000]) := upd_same
  clear p5
  walk_at "rd"
  intro d v H6 d0 d1' hv p7 s6
  obtain ⟨x, rfl, x0, x1⟩ : ∃ x : Int, v = .int x ∧ 0 ≤ x ∧ x ≤ 1000 := by
    have d1' : d < 6 := d1'
    rcases (show d = 0 ∨ d = 1 ∨ d = 2 ∨ d = 3 ∨ d = 4 ∨ d = 5 by omega) with rfl | rfl | rfl | rfl | rfl | rfl <;> cases hv
    · exact ⟨_, rfl, by omega, by omega⟩
    · exact ⟨_, rfl, by omega, by omega⟩
    · exact ⟨_, rfl, by omega, by omega⟩
    · exact ⟨_, rfl, by omega, by omega⟩
    · exact ⟨_, rfl, by omega, by omega⟩
    · exact ⟨_, rfl, by omega, by omega⟩
  clear p6
  walk_at "rd"
  intro R hR
  have nra := p7.ne hR
  have sR := Same.new (o := .lst [.int (p' - 3 * (1 + q)), .int (1 + q), .int (((1 + m) * (p' - 3 * (1 + q)) * (p' - 3 * (1 + q))).fdiv ((1 + q) * (1 + q)) + 1 + x), .int (1 + m)]) hR
  have sb := ((s15.trans (Same.sb sL)).trans s6).trans (Same.sb sR)
  refine k R (p' - 3 * (1 + q)) (1 + q) (((1 + m) * (p' - 3 * (1 + q)) * (p' - 3 * (1 + q))).fdiv ((1 + q) * (1 + q)) + 1 + x) (1 + m) _ ?_ upd_same nra ((p7.ext sR).mono) sb
  have mpp0 : 0 ≤ (1 + m) * (p' - 3 * (1 + q)) * (p' - 3 * (1 + q)) := by
    rw [Int.mul_assoc]
    exact Int.mul_nonneg (by omega) (by
      rcases Int.le_total 0 (p' - 3 * (1 + q)) with z | z
      · exact Int.mul_nonneg z z
      · exact Int.mul_nonneg_of_nonpos_of_nonpos z z)
  have zmpp : ((1 + m) * (p' - 3 * (1 + q)) * (p' - 3 * (1 + q))).natAbs < 2 ^ 20 := nb_mul (a := 13) (b := 7) (nb_mul (a := 6) (b := 7) (by omega) (by omega)) (by omega)
  have gen : ∀ t b : Int, 0 ≤ t → 0 < b → t.natAbs < 2 ^ 20 → 0 ≤ t.fdiv b + 1 + x ∧ (t.fdiv b + 1 + x).natAbs < 2 ^ 21 ∧ t < (t.fdiv b + 1 + x) * b := fun t b t0 hb zt => by
    have fd0 : 0 ≤ t.fdiv b := Int.fdiv_nonneg t0 (by omega)
    have fd1 : (t.fdiv b).natAbs ≤ t.natAbs := by
      rw [Int.fdiv_eq_ediv_of_nonneg _ (by omega)]
      exact Int.natAbs_ediv_le_natAbs _ _
    refine ⟨by omega, by omega, ?_⟩
    have e := Int.mul_fdiv_add_fmod t b
    have l := Int.fmod_lt_of_pos t hb
    have hx : 0 ≤ x * b := Int.mul_nonneg x0 (by omega)
    rw [Int.add_mul, Int.add_mul, Int.one_mul, Int.mul_comm (t.fdiv b)]
    omega
  obtain ⟨g1, g2, g3⟩ := gen _ _ mpp0 hqq zmpp
  exact ⟨by omega, by omega, by omega, by omega, by omega, g1, g2, g3⟩
theorem sc_str : FnScope ["_law_purse_here", "_law_p", "_law_q", "_law_way", "_law_stud", "_law_under", "_law_low", "_law_high"] ["_law_purse_here", "_law_p", "_law_q"] (defScope (topS 45)) := ⟨rfl, rfl, rfl, by decide +kernel, rfl, by decide +kernel, by decide +kernel⟩
include g_l_coin g_l_of in
theorem ok_str (G : G0 K mg) (F : FP K "_law_stretch" "_law_stretch" (topS 45) [] f fd) : FnOk P w K mg base (L2.CX P w) 3 f fd ["_law_purse_here", "_law_p", "_law_q"] spStretch := by
  have nd := sc_str.nd
  refine F.ok sc_str (fun vs H Q E h => by obtain ⟨_, _, _, _, _, rfl, _⟩ := h; rfl) (fun cdv A outer s H vs Q E hr h => ⟨_, pss_cons (ps_par (i := 3) (j := 4) rfl nd rfl rfl (by decide) rfl rfl (pa_cons (pe_gd g_l_coin (hr.mono (by decide)) rfl (pxE rfl rfl rfl rfl) (pa_cons (pv 0) (pa_cons (pe_int) (pa_nil)))) (pa_cons (pe_op op_add (pe_int) (pe_gd g_l_coin (hr.mono (by decide)) rfl (pxE rfl rfl rfl rfl) (pa_cons (pv 0) (pa_cons (pe_int) (pa_nil))))) pa_nil)) rfl) (pss_cons (ps_set (i := 5) nd rfl (Or.inl rfl) (pe_gd g_l_of (hr.mono (by decide)) rfl (pxE rfl rfl rfl rfl) (pa_cons (pv 0) (pa_cons (pe_lst (pa_cons (pv 2) (pa_cons (pe_int) (pa_cons (pe_int) (pa_cons (pe_int) (pa_nil)))))) (pa_nil))))) (pss_cons (ps_if (pt_cmpR op_eq (pv 3) (pe_int) (nomark _)) (pss_cons (ps_set (i := 6) nd rfl (Or.inl rfl) (pe_op op_modN (pe_callTy call_int1i rfl G.nm.int (by decide +kernel) (pa_cons (pe_op op_mulB (pv 4) (pv 1)) (pa_nil))) (pv 2))) (pss_one (ps_ret (pe_tup (pa_cons (pv 6) (pa_cons (pv 6) (pa_cons (pv 2) (pa_nil)))))))) (pss_nil)) (pss_cons (ps_if (pt_cmpR op_eq (pv 3) (pe_int) (nomark _)) (pss_cons (ps_set (i := 6) nd rfl (Or.inl rfl) (pe_op op_modN (pe_callTy call_int1i rfl G.nm.int (by decide +kernel) (pa_cons (pe_op op_mulB (pv 4) (pv 1)) (pa_nil))) (pv 2))) (pss_one (ps_ret (pe_tup (pa_cons (pv 6) (pa_cons (pe_op op_add (pv 6) (pe_gd g_l_coin (hr.mono (by decide)) rfl (pxE rfl rfl rfl rfl) (pa_cons (pv 0) (pa_cons (pe_op op_sub (pv 2) (pv 6)) (pa_nil))))) (pa_cons (pv 2) (pa_nil)))))))) (pss_nil)) (pss_cons (ps_set (i := 6) nd rfl (Or.inl rfl) (pe_gd g_l_coin (hr.mono (by decide)) rfl (pxE rfl rfl rfl rfl) (pa_cons (pv 0) (pa_cons (pv 5) (pa_nil))))) (pss_cons (ps_set (i := 7) nd rfl (Or.inl rfl) (pe_op op_add (pv 6) (pe_gd g_l_coin (hr.mono (by decide)) rfl (pxE rfl rfl rfl rfl) (pa_cons (pv 0) (pa_cons (pe_op op_sub (pv 5) (pv 6)) (pa_nil)))))) (pss_one (ps_ret (pe_tup (pa_cons (pv 6) (pa_cons (pv 7) (pa_cons (pv 5) (pa_nil)))))))))))), ?_⟩)
  obtain ⟨a, c, N, p, q, rfl, hp, hN, zp, q1, q2, k⟩ := h
  have hq : q ≠ 0 := by omega
  walk_at "rd"
  intro way H1 w0 w1 p1 s1
  have hN1 : N + 1 ≤ 1000000 := by omega
  clear hp
  walk_at "rd"
  intro st H2 t0 t1 p2 s2
  have s12 := s1.trans s2
  have hN2 : N + 1 + 1 ≤ 1000000 := by omega
  clear p1
  walk_at "rd"
  intro L hL
  have nla := p2.ne hL
  have sL := Same.new (o := .lst [.int q, .int 60, .int 7, .int 1]) hL
  have p3 := p2.ext sL
  have hl : upd H2 L (.lst [.int q, .int 60, .int 7, .int 1]) L = some (.lst [.int q, .int 60, .int 7, .int 1]) := upd_same
  clear p2
  walk_at "rd"
  intro d v H4 d0 d1' hv p4 s4
  obtain ⟨u, rfl, u0, u1⟩ : ∃ u : Int, v = .int u ∧ 1 ≤ u ∧ u ≤ 60 := by
    have d1' : d < 4 := d1'
    rcases (show d = 0 ∨ d = 1 ∨ d = 2 ∨ d = 3 by omega) with rfl | rfl | rfl | rfl <;> cases hv
    · exact ⟨_, rfl, by omega, by omega⟩
    · exact ⟨_, rfl, by omega, by omega⟩
    · exact ⟨_, rfl, by omega, by omega⟩
    · exact ⟨_, rfl, by omega, by omega⟩
  have s14 := (s12.trans (Same.sb sL)).trans s4
  clear p3
  have hN3 : N + 1 + 1 + 1 ≤ 1000000 := by omega
  have c1 : CMulB (1 + st) p := cm (n := 7) (m := 8) (by omega) (by omega)
  have l0 := Int.fmod_nonneg_of_pos ((1 + st) * p) (show 0 < q by omega)
  have l1 := Int.fmod_lt_of_pos ((1 + st) * p) (show 0 < q by omega)
  walk_at "rd"
  refine iteP (fun h1 => ?_) (fun h1 => ?_)
  · walk_at "rd"
    intro T hT
    have sT := Same.new (o := .tup [.int (((1 + st) * p).fmod q), .int (((1 + st) * p).fmod q), .int q]) hT
    exact k T _ _ _ _ l0 (Int.le_refl _) l1 (by omega) upd_same ((p4.ext sT).mono) (s14.trans (Same.sb sT))
  · walk_at "rd"
    refine iteP (fun h2 => ?_) (fun h2 => ?_)
    · have b1 : 0 < q - ((1 + st) * p).fmod q := by omega
      have b2 : q - ((1 + st) * p).fmod q < 2 ^ 30 := by omega
      walk_at "rd"
      intro e H5 e0 e1 p5 s5
      have s15 := s14.trans s5
      walk_at "rd"
      intro T hT
      have sT := Same.new (o := .tup [.int (((1 + st) * p).fmod q), .int (((1 + st) * p).fmod q + e), .int q]) hT
      exact k T _ _ _ _ l0 (by omega) (by omega) (by omega) upd_same ((p5.ext sT).mono) (s15.trans (Same.sb sT))
    · have b1 : 0 < u := by omega
      have b2 : u < 2 ^ 30 := by omega
      walk_at "rd"
      intro e H5 e0 e1 p5 s5
      have s15 := s14.trans s5
      have hN4 : N + 1 + 1 + 1 + 1 ≤ 1000000 := by omega
      have b3 : 0 < u - e := by omega
      have b4 : u - e < 2 ^ 30 := by omega
      clear p4
      walk_at "rd"
      intro g H6 g0 g1 p6 s6
      have s16 := s15.trans s6
      walk_at "rd"
      intro T hT
      have sT := Same.new (o := .tup [.int e, .int (e + g), .int u]) hT
      exact k T _ _ _ _ e0 (by omega) (by omega) (by omega) upd_same ((p6.ext sT).mono) (s16.trans (Same.sb sT))
end
end Sp
end
section
set_option Elab.async false
set_option linter.all false
set_option exponentiation.threshold 5000
set_option maxRecDepth 100000
set_option maxHeartbeats 0
local macro_rules | `(tactic| walk_at "leaf") => `(tactic| first | rfl | assumption | exact True.intro | exact L2.upd_same | exact L2.ClsV.ty _ | exact L2.ClsV.own _ | decide | exact of_decide_eq_true rfl | exact L2.SqL.of (by assumption) | exact L2.SqL.of L2.upd_same | exact Or.inl (L2.SqL.of L2.upd_same) | exact Or.inl (L2.SqL.of (by assumption)) | exact L2.SqT.of (by assumption) | exact L2.SqT.of L2.upd_same | exact Sp.cmL (by decide) | exact Sp.cmR (by decide) | exact ⟨by decide, by decide, by decide⟩ | exact ⟨by decide, by decide⟩ | exact Or.inr (L2.SqT.of (by assumption)) | exact Or.inl ⟨rfl, _, L2.SqL.of (by assumption)⟩ | exact Or.inl ⟨rfl, _, L2.SqL.of L2.upd_same⟩ | omega | fail)
local macro_rules | `(tactic| walk_at "rd1") => `(tactic| first
  | refine Sp.rbR (by assumption) (by assumption) (by assumption) (by assumption) ?_
  | apply Sp.exI
  | (refine And.intro ?lf ?_; (case lf => walk_at "leaf"))
  | fail)
local macro_rules | `(tactic| walk_at "rd") => `(tactic| repeat (walk_at "rd1"))
local macro_rules | `(tactic| walk_at "fR") => `(tactic| (have := (‹Sp.G0 _ _›).R.cl; have := (‹Sp.G0 _ _›).R.no "top" (by simp); have := (‹Sp.G0 _ _›).R.no "bottom" (by simp)))
local macro_rules | `(tactic| walk_at "fT") => `(tactic| (have := (‹Sp.G0 _ _›).T.cl; have := (‹Sp.G0 _ _›).T.no "turn" (by simp); have := (‹Sp.G0 _ _›).T.no "squared" (by simp); have := (‹Sp.G0 _ _›).T.no "rise" (by simp)))
namespace Sp
open PySem PySem.Spec PyProof.Rows L2
section
variable {P : Program} {w : World} {K : PySem.W.Frag} {mg : Str → Option Value} {base : Heap} {f : Addr} {fd : FuncData}
variable (g_is_integer : GD P w K mg base (L2.CX P w) 1 "is_integer" ["value"] [] (spIsInt K)) (g_sign_of : GD P w K mg base (L2.CX P w) 1 "sign_of" ["number"] [] spSign)
  (g_is_ratio : GD P w K mg base (L2.CX P w) 2 "is_ratio" ["value"] [] (spIsRat K)) (g_at_right : GD P w K mg base (L2.CX P w) 6 "at_right" ["value"] [] (spOf K))
  (g_xBadRatio : GX P w K mg base 1 "BadRatio" "part" (cX K "BadRatio")) (g_xBadNumber : GX P w K mg base 1 "BadNumber" "part" (cX K "BadNumber")) (g_xBadStem : GX P w K mg base 1 "BadStem" "part" (cX K "BadStem"))
  (g_mRatio : GM P w K mg base (L2.CX P w) 3 "Ratio" (cR K) ["self", "top", "bottom"] [] (spInitR K)) (g_mRatio1 : GM P w K mg base (L2.CX P w) 3 "Ratio" (cR K) ["self", "top", "bottom"] [.int 1] (spInitR K))
  (g_Ratio_of : GS P w K mg base (L2.CX P w) 5 (cR K) "of" (spOf K)) (g_R_compared : GH P w K mg base (L2.CX P w) 7 (cR K) "compared" ["self", "other"] (spCmp K))
variable (g_radd : GO P w K mg base (L2.CX P w) 7 (cR K) .Add (spBinR K (· + ·))) (g_rsub : GO P w K mg base (L2.CX P w) 7 (cR K) .Sub (spBinR K (· - ·))) (g_rmul : GO P w K mg base (L2.CX P w) 7 (cR K) .Mult (spBinR K (· * ·)))
  (g_req : GN P w K mg base (L2.CX P w) 2 (cR K) "__eq__" (spEqR K)) (g_R_sign : GP P w K mg base (L2.CX P w) 2 (cR K) "sign" (spSgn K)) (g_R_below : GP P w K mg base (L2.CX P w) 1 (cR K) "below" (spFlr K)) (g_R_is_below : GH P w K mg base (L2.CX P w) 8 (cR K) "is_below" ["self", "other"] (spBelow K))
variable (g_mStem : GM P w K mg base (L2.CX P w) 8 "Stem" (cT K) ["self", "turn", "squared"] [] (spInitT K)) (g_need_stem : GD P w K mg base (L2.CX P w) 3 "need_stem" ["value", "part"] [] (spNeedT K)) (g_need_integer : GD P w K mg base (L2.CX P w) 3 "need_integer" ["value", "part"] [] spNeedI)
  (g_is_within : GD P w K mg base (L2.CX P w) 2 "is_within" ["value", "least", "most"] [] (spInW K)) (g_need_within : GD P w K mg base (L2.CX P w) 3 "need_within" ["value", "least", "most", "part"] [] (spNeedW K))
  (g_place : GD P w K mg base (L2.CX P w) 8 "place" ["stem", "stud"] [] (spPlace K)) (g_nearest_rounds : GD P w K mg base (L2.CX P w) 9 "nearest_rounds" ["stem", "stud"] [] (spNRs K))
  (g_is_between : GD P w K mg base (L2.CX P w) 9 "is_between" ["least", "ratio"] [] (spBetw K)) (g_first_within : GD P w K mg base (L2.CX P w) 10 "first_within" ["stem", "low", "high", "most"] [] (spFW K))
variable (g_l_coin : GD P w K mg base (L2.CX P w) 1 "_law_coin" ["_law_purse_here", "_law_many"] [] spDip) (g_l_purse : GD P w K mg base (L2.CX P w) 1 "_law_purse" ["_law_script"] [] (spPail K)) (g_l_of : GD P w K mg base (L2.CX P w) 2 "_law_of" ["_law_purse_here", "_law_some"] [] spOfL)
  (g_l_stem : GD P w K mg base (L2.CX P w) 3 "_law_stem" ["_law_purse_here"] [] spStemL) (g_l_divisor : GD P w K mg base (L2.CX P w) 1 "_law_divisor" ["_law_one", "_law_other"] [] spDiv) (g_l_first : GD P w K mg base (L2.CX P w) 1 "_law_first" ["_law_p", "_law_q", "_law_low", "_law_high", "_law_under", "_law_most"] [] spFirstL)
  (g_l_stretch : GD P w K mg base (L2.CX P w) 3 "_law_stretch" ["_law_purse_here", "_law_p", "_law_q"] [] spStretch) (g_l_pair_right : GD P w K mg base (L2.CX P w) 11 "_law_pair_right" ["_law_purse_here", "_law_plain", "_law_stem_here"] [] (spAsk K))
  (g_l_within_right : GD P w K mg base (L2.CX P w) 11 "_law_within_right" ["_law_purse_here", "_law_plain", "_law_stem_here"] [] (spAsk K)) (g_l_pushed_right : GD P w K mg base (L2.CX P w) 11 "_law_pushed_right" ["_law_purse_here", "_law_plain", "_law_stem_here"] [] (spAsk K))
  (g_rne : GNe P w K mg base (L2.CX P w) 2 (cR K) (spEqR K)) (g_first_within_k : GDK P w K mg base (L2.CX P w) 10 "first_within" ["stem", "low", "high", "most"] 4 [0, 1, 2, 3] (spFW K)) (g_first_within_m : GDM P w K mg base (L2.CX P w) 10 "first_within" ["high", "most"] 2 2 (spFW K))

theorem den_of {p q : Int} (hq : 1 ≤ q) : (p ≠ 0 → q.fdiv ((Nat.gcd p.natAbs q.natAbs : Nat) : Int) = (((Rat.divInt p q).den : Nat) : Int)) ∧ (p = 0 → (((Rat.divInt p q).den : Nat) : Int) = 1) := by
  constructor
  · intro _
    have := comm_den (a := p) (b := q) (by omega)
    unfold comm at this
    rw [if_pos (by omega)] at this
    exact this
  · rintro rfl
    have e : Rat.divInt 0 q = ((0 : Int) : Rat) := by
      rw [← divInt_one]
      exact (Rat.divInt_eq_divInt_iff (by omega) (by decide)).mpr (by omega)
    rw [e, Rat.den_intCast]
    rfl
theorem same_fin {D : Rat} {i j b : Int} (hb : b = ((D.den : Nat) : Int)) : V.bl (decide (V.bl (decide (frac (D * (i : Rat)) = frac (D * (j : Rat)))) = V.bl (decide (V.int ((i - j).fmod b) = V.int 0)))) = V.bl true := by
  congr 1
  apply decide_eq_true
  congr 1
  rw [decide_eq_decide, place_same, V.int.injEq, hb, Int.fmod_eq_emod_of_nonneg _ (by omega)]
  exact Int.dvd_iff_emod_eq_zero
theorem sc_pairR : FnScope ["_law_purse_here", "_law_plain", "_law_stem_here", "_law_p", "_law_q", "_law_size", "_law_one", "_law_far", "_law_other", "_law_shared", "_law_bottom"] ["_law_purse_here", "_law_plain", "_law_stem_here"] (defScope (topS 42)) := ⟨rfl, rfl, rfl, by decide +kernel, rfl, by decide +kernel, by decide +kernel⟩
include g_l_coin g_l_divisor g_l_of g_place g_req in
theorem ok_pairR (hnf : PySem.W.notFirst K (cR K) (.ref (cR K)) = true) (G : G0 K mg) (F : FP K "_law_pair_right" "_law_pair_right" (topS 42) [] f fd) : FnOk P w K mg base (L2.CX P w) 11 f fd ["_law_purse_here", "_law_plain", "_law_stem_here"] (spAsk K) := by
  have nd := sc_pairR.nd
  refine F.ok sc_pairR (fun vs H Q E h => by obtain ⟨_, _, _, _, _, _, _, _, _, rfl, _⟩ := h; rfl) (fun cdv A outer s H vs Q E hr h => ⟨_, pss_cons (ps_par (i := 3) (j := 4) rfl nd rfl rfl (by decide) rfl rfl (pa_cons (pe_ix ix_list (pv 1) (pe_int) (fun _ _ => rfl)) (pa_cons (pe_ix ix_list (pv 1) (pe_int) (fun _ _ => rfl)) pa_nil)) rfl) (pss_cons (ps_set (i := 5) nd rfl (Or.inl rfl) (pe_gd g_l_of (hr.mono (by decide)) rfl (pxE rfl rfl rfl rfl) (pa_cons (pv 0) (pa_cons (pe_lst (pa_cons (pe_int) (pa_cons (pe_int) (pa_cons (pe_int) (pa_nil))))) (pa_nil))))) (pss_cons (ps_par (i := 6) (j := 7) rfl nd rfl rfl (by decide) rfl rfl (pa_cons (pe_op op_sub (pe_gd g_l_coin (hr.mono (by decide)) rfl (pxE rfl rfl rfl rfl) (pa_cons (pv 0) (pa_cons (pe_op op_add (pe_op op_mulB (pe_int) (pv 5)) (pe_int)) (pa_nil)))) (pv 5)) (pa_cons (pe_op op_sub (pe_gd g_l_coin (hr.mono (by decide)) rfl (pxE rfl rfl rfl rfl) (pa_cons (pv 0) (pa_cons (pe_op op_add (pe_op op_mulB (pe_int) (pv 5)) (pe_int)) (pa_nil)))) (pv 5)) pa_nil)) rfl) (pss_cons (ps_set (i := 8) nd rfl (Or.inl rfl) (pe_ifExp (pt_cmpR op_eq (pe_gd g_l_coin (hr.mono (by decide)) rfl (pxE rfl rfl rfl rfl) (pa_cons (pv 0) (pa_cons (pe_int) (pa_nil)))) (pe_int) (nomark _)) (pe_op op_add (pv 6) (pv 7)) (pe_op op_add (pv 6) (pe_op op_mulB (pv 4) (pe_op op_sub (pe_op op_modN (pe_callTy call_int1i rfl G.nm.int (by decide +kernel) (pa_cons (pv 7) (pa_nil))) (pe_int)) (pe_int)))))) (pss_cons (ps_set (i := 9) nd rfl (Or.inl rfl) (pe_ifExp (pt_cmpR op_eq (pv 3) (pe_int) (nomark _)) (pe_int) (pe_gd g_l_divisor (hr.mono (by decide)) rfl (pxE rfl rfl rfl rfl) (pa_cons (pe_callB call_abs rfl G.nm.abs (by decide +kernel) (pa_cons (pv 3) (pa_nil))) (pa_cons (pv 4) (pa_nil)))))) (pss_cons (ps_set (i := 10) nd rfl (Or.inl rfl) (pe_ifExp (pt_cmpR op_ne (pv 3) (pe_int) (nomark _)) (pe_op op_fdivB (pv 4) (pv 9)) (pe_int))) (pss_one (ps_ret (pe_cmpR op_eq (pe_cmpR (op_eqGo g_req (hr.mono (by decide)) (pxE rfl rfl rfl rfl)) (pe_gd g_place (hr.mono (by decide)) rfl (pxE rfl rfl rfl rfl) (pa_cons (pv 2) (pa_cons (pv 6) (pa_nil)))) (pe_gd g_place (hr.mono (by decide)) rfl (pxE rfl rfl rfl rfl) (pa_cons (pv 2) (pa_cons (pv 8) (pa_nil)))) (nomark _)) (pe_cmpR op_eq (pe_op op_modN (pe_callTy call_int1i rfl G.nm.int (by decide +kernel) (pa_cons (pe_op op_sub (pv 6) (pv 8)) (pa_nil))) (pv 10)) (pe_int) (nomark _)) (nomark _))))))))), ?_⟩)
  obtain ⟨a, c, l, st, N, p, q, n, m, rfl, hp, hN, hl, nla, po, it, k⟩ := h
  have q1 := po.q0
  have q2 := po.q1
  have zp := po.pb
  walk_at "rd"
  intro L hL
  have nL := hp.ne hL
  have sL := Same.new (o := .lst [.int 9, .int 60, .int 10000]) hL
  have p1 := hp.ext sL
  have it1 := it.ext sL
  have hl' : upd H L (.lst [.int 9, .int 60, .int 10000]) L = some (.lst [.int 9, .int 60, .int 10000]) := upd_same
  have hN0 : N ≤ 1000000 := by omega
  walk_at "rd"
  intro d v H2 d0 d1 hv p2 s2
  obtain ⟨z, rfl, z0, z1⟩ : ∃ u : Int, v = .int u ∧ 1 ≤ u ∧ u ≤ 10000 := by
    have d1' : d < 3 := d1
    rcases (show d = 0 ∨ d = 1 ∨ d = 2 by omega) with rfl | rfl | rfl <;> cases hv
    · exact ⟨_, rfl, by omega, by omega⟩
    · exact ⟨_, rfl, by omega, by omega⟩
    · exact ⟨_, rfl, by omega, by omega⟩
  have it2 := it1.sb p1 s2
  have sb2 := (Same.sb sL).trans s2
  clear it1 p1 hl' sL
  have hN1 : N + 1 ≤ 1000000 := by omega
  have cz : CMulB 2 z := cm (n := 2) (m := 14) (by decide) (by omega)
  have b1 : 0 < 2 * z + 1 := by omega
  have b2 : 2 * z + 1 < 2 ^ 30 := by omega
  walk_at "rd"
  intro x H3 x0 x1 p3 s3
  have it3 := it2.sb p2 s3
  have sb3 := sb2.trans s3
  have hN2 : N + 1 + 1 ≤ 1000000 := by omega
  clear p2 it2 sb2
  walk_at "rd"
  intro y H4 y0 y1 p4 s4
  have it4 := it3.sb p3 s4
  have sb4 := sb3.trans s4
  have hN3 : N + 1 + 1 + 1 ≤ 1000000 := by omega
  clear p3 it3 sb3
  obtain ⟨one, hone⟩ : ∃ o, o = x - z := ⟨_, rfl⟩
  obtain ⟨far, hfar⟩ : ∃ o, o = y - z := ⟨_, rfl⟩
  have cq : CMulB q ((y - z).fmod 41 - 20) := by
    have := Int.fmod_nonneg_of_pos (y - z) (show (0 : Int) < 41 by decide)
    have := Int.fmod_lt_of_pos (y - z) (show (0 : Int) < 41 by decide)
    exact cm (n := 6) (m := 6) (by omega) (by omega)
  have cq2 : (q * ((y - z).fmod 41 - 20)).natAbs < 2 ^ 12 := by
    have := Int.fmod_nonneg_of_pos (y - z) (show (0 : Int) < 41 by decide)
    have := Int.fmod_lt_of_pos (y - z) (show (0 : Int) < 41 by decide)
    exact nb_mul (a := 6) (b := 6) (by omega) (by omega)
  walk_at "rd"
  intro e H5 e0 e1 p5 s5
  have it5 := it4.sb p4 s5
  have sb5 := sb4.trans s5
  clear p4 it4 sb4
  have ist5 : ST K H5 st (Rat.divInt p q) (Rat.divInt n m) := ⟨it5, po.szD.mono, po.szF.mono⟩
  have zx : (x - z).natAbs < 2 ^ 40 := by omega
  walk_at "rd"
  refine iteP (fun h1 => ?_) (fun h1 => ?_)
  · skip
    have zo : (x - z + (y - z)).natAbs < 2 ^ 40 := by omega
    walk_at "rd"
    refine iteP (fun hp0 => ?_) (fun hp0 => ?_)
    · have hp0 : p = 0 := by simpa using hp0
      walk_at "rd"
      refine iteP (fun z => absurd hp0 (by simpa using z)) (fun _ => ?_)
      walk_at "rd"
      intro pa H6 s6 ra
      have ist6 := ist5.ext s6
      walk_at "rd"
      intro pb H7 s7 rb
      have ra := ra.ext s7
      have tb := (G.tR rb).1
      have vb := RV.mk rb
      obtain ⟨_, ra'⟩ := id ra
      walk_at "rd"
      have e := same_fin (D := Rat.divInt p q) (i := x - z) (j := x - z + (y - z)) (b := 1)
      have k' := k H7 ((p5.ext (s6.trans s7)).mono) (sb5.trans (Same.sb (s6.trans s7)))
      rw [← e ((den_of q1).2 hp0).symm] at k'
      exact k'
    · have hp0 : p ≠ 0 := by simpa using hp0
      have q0 : 0 ≤ q := by omega
      have ga : 0 ≤ (if p < 0 then -p else p) := by split <;> omega
      have gg : Nat.gcd (if p < 0 then -p else p).natAbs q.natAbs = Nat.gcd p.natAbs q.natAbs := by
        congr 1
        split <;> omega
      have dg := (den_of (p := p) q1).1 hp0
      have hg : CDivB q ((Nat.gcd (if p < 0 then -p else p).natAbs q.natAbs : Nat) : Int) := by
        rw [gg]
        have h1 := Nat.gcd_le_right p.natAbs (show 0 < q.natAbs by omega)
        have h2 : Nat.gcd p.natAbs q.natAbs ≠ 0 := fun z => hp0 (by have := (Nat.gcd_eq_zero_iff.mp z).1; omega)
        exact ⟨by omega, nb_le (show ((Nat.gcd p.natAbs q.natAbs : Nat) : Int).natAbs < 2 ^ 8 by omega)⟩
      have hd : q.fdiv ((Nat.gcd (if p < 0 then -p else p).natAbs q.natAbs : Nat) : Int) ≠ 0 := by
        rw [gg, dg]
        exact den_ne _
      walk_at "rd"
      refine iteP (fun _ => ?_) (fun z => absurd hp0 (by simpa using z))
      walk_at "rd"
      intro pa H6 s6 ra
      have ist6 := ist5.ext s6
      walk_at "rd"
      intro pb H7 s7 rb
      have ra := ra.ext s7
      have tb := (G.tR rb).1
      have vb := RV.mk rb
      obtain ⟨_, ra'⟩ := id ra
      walk_at "rd"
      have e := same_fin (D := Rat.divInt p q) (i := x - z) (j := x - z + (y - z)) (b := q.fdiv ((Nat.gcd (if p < 0 then -p else p).natAbs q.natAbs : Nat) : Int))
      have k' := k H7 ((p5.ext (s6.trans s7)).mono) (sb5.trans (Same.sb (s6.trans s7)))
      rw [← e (by rw [gg, dg])] at k'
      exact k'
  · skip
    have zo : (x - z + q * ((y - z).fmod 41 - 20)).natAbs < 2 ^ 40 := by
      have h1 := cq2
      omega
    walk_at "rd"
    refine iteP (fun hp0 => ?_) (fun hp0 => ?_)
    · have hp0 : p = 0 := by simpa using hp0
      walk_at "rd"
      refine iteP (fun z => absurd hp0 (by simpa using z)) (fun _ => ?_)
      walk_at "rd"
      intro pa H6 s6 ra
      have ist6 := ist5.ext s6
      walk_at "rd"
      intro pb H7 s7 rb
      have ra := ra.ext s7
      have tb := (G.tR rb).1
      have vb := RV.mk rb
      obtain ⟨_, ra'⟩ := id ra
      walk_at "rd"
      have e := same_fin (D := Rat.divInt p q) (i := x - z) (j := x - z + q * ((y - z).fmod 41 - 20)) (b := 1)
      have k' := k H7 ((p5.ext (s6.trans s7)).mono) (sb5.trans (Same.sb (s6.trans s7)))
      rw [← e ((den_of q1).2 hp0).symm] at k'
      exact k'
    · have hp0 : p ≠ 0 := by simpa using hp0
      have q0 : 0 ≤ q := by omega
      have ga : 0 ≤ (if p < 0 then -p else p) := by split <;> omega
      have gg : Nat.gcd (if p < 0 then -p else p).natAbs q.natAbs = Nat.gcd p.natAbs q.natAbs := by
        congr 1
        split <;> omega
      have dg := (den_of (p := p) q1).1 hp0
      have hg : CDivB q ((Nat.gcd (if p < 0 then -p else p).natAbs q.natAbs : Nat) : Int) := by
        rw [gg]
        have h1 := Nat.gcd_le_right p.natAbs (show 0 < q.natAbs by omega)
        have h2 : Nat.gcd p.natAbs q.natAbs ≠ 0 := fun z => hp0 (by have := (Nat.gcd_eq_zero_iff.mp z).1; omega)
        exact ⟨by omega, nb_le (show ((Nat.gcd p.natAbs q.natAbs : Nat) : Int).natAbs < 2 ^ 8 by omega)⟩
      have hd : q.fdiv ((Nat.gcd (if p < 0 then -p else p).natAbs q.natAbs : Nat) : Int) ≠ 0 := by
        rw [gg, dg]
        exact den_ne _
      walk_at "rd"
      refine iteP (fun _ => ?_) (fun z => absurd hp0 (by simpa using z))
      walk_at "rd"
      intro pa H6 s6 ra
      have ist6 := ist5.ext s6
      walk_at "rd"
      intro pb H7 s7 rb
      have ra := ra.ext s7
      have tb := (G.tR rb).1
      have vb := RV.mk rb
      obtain ⟨_, ra'⟩ := id ra
      walk_at "rd"
      have e := same_fin (D := Rat.divInt p q) (i := x - z) (j := x - z + q * ((y - z).fmod 41 - 20)) (b := q.fdiv ((Nat.gcd (if p < 0 then -p else p).natAbs q.natAbs : Nat) : Int))
      have k' := k H7 ((p5.ext (s6.trans s7)).mono) (sb5.trans (Same.sb (s6.trans s7)))
      rw [← e (by rw [gg, dg])] at k'
      exact k'
end
end Sp
end
section
set_option Elab.async false
set_option linter.all false
set_option exponentiation.threshold 5000
set_option maxRecDepth 100000
set_option maxHeartbeats 0
local macro_rules | `(tactic| walk_at "leaf") => `(tactic| first | rfl | assumption | exact True.intro | exact L2.upd_same | exact L2.ClsV.ty _ | exact L2.ClsV.own _ | decide | exact of_decide_eq_true rfl | exact L2.SqL.of (by assumption) | exact L2.SqL.of L2.upd_same | exact Or.inl (L2.SqL.of L2.upd_same) | exact Or.inl (L2.SqL.of (by assumption)) | exact L2.SqT.of (by assumption) | exact L2.SqT.of L2.upd_same | exact Sp.cmL (by decide) | exact Sp.cmR (by decide) | exact ⟨by decide, by decide, by decide⟩ | exact ⟨by decide, by decide⟩ | exact Or.inr (L2.SqT.of (by assumption)) | exact Or.inl ⟨rfl, _, L2.SqL.of (by assumption)⟩ | exact Or.inl ⟨rfl, _, L2.SqL.of L2.upd_same⟩ | omega | fail)
local macro_rules | `(tactic| walk_at "rd1") => `(tactic| first
  | refine Sp.rbR (by assumption) (by assumption) (by assumption) (by assumption) ?_
  | apply Sp.exI
  | (refine And.intro ?lf ?_; (case lf => walk_at "leaf"))
  | fail)
local macro_rules | `(tactic| walk_at "rd") => `(tactic| repeat (walk_at "rd1"))
local macro_rules | `(tactic| walk_at "fR") => `(tactic| (have := (‹Sp.G0 _ _›).R.cl; have := (‹Sp.G0 _ _›).R.no "top" (by simp); have := (‹Sp.G0 _ _›).R.no "bottom" (by simp)))
local macro_rules | `(tactic| walk_at "fT") => `(tactic| (have := (‹Sp.G0 _ _›).T.cl; have := (‹Sp.G0 _ _›).T.no "turn" (by simp); have := (‹Sp.G0 _ _›).T.no "squared" (by simp); have := (‹Sp.G0 _ _›).T.no "rise" (by simp)))
namespace Sp
open PySem PySem.Spec PyProof.Rows L2
section
variable {P : Program} {w : World} {K : PySem.W.Frag} {mg : Str → Option Value} {base : Heap} {f : Addr} {fd : FuncData}
variable (g_is_integer : GD P w K mg base (L2.CX P w) 1 "is_integer" ["value"] [] (spIsInt K)) (g_sign_of : GD P w K mg base (L2.CX P w) 1 "sign_of" ["number"] [] spSign)
  (g_is_ratio : GD P w K mg base (L2.CX P w) 2 "is_ratio" ["value"] [] (spIsRat K)) (g_at_right : GD P w K mg base (L2.CX P w) 6 "at_right" ["value"] [] (spOf K))
  (g_xBadRatio : GX P w K mg base 1 "BadRatio" "part" (cX K "BadRatio")) (g_xBadNumber : GX P w K mg base 1 "BadNumber" "part" (cX K "BadNumber")) (g_xBadStem : GX P w K mg base 1 "BadStem" "part" (cX K "BadStem"))
  (g_mRatio : GM P w K mg base (L2.CX P w) 3 "Ratio" (cR K) ["self", "top", "bottom"] [] (spInitR K)) (g_mRatio1 : GM P w K mg base (L2.CX P w) 3 "Ratio" (cR K) ["self", "top", "bottom"] [.int 1] (spInitR K))
  (g_Ratio_of : GS P w K mg base (L2.CX P w) 5 (cR K) "of" (spOf K)) (g_R_compared : GH P w K mg base (L2.CX P w) 7 (cR K) "compared" ["self", "other"] (spCmp K))
variable (g_radd : GO P w K mg base (L2.CX P w) 7 (cR K) .Add (spBinR K (· + ·))) (g_rsub : GO P w K mg base (L2.CX P w) 7 (cR K) .Sub (spBinR K (· - ·))) (g_rmul : GO P w K mg base (L2.CX P w) 7 (cR K) .Mult (spBinR K (· * ·)))
  (g_req : GN P w K mg base (L2.CX P w) 2 (cR K) "__eq__" (spEqR K)) (g_R_sign : GP P w K mg base (L2.CX P w) 2 (cR K) "sign" (spSgn K)) (g_R_below : GP P w K mg base (L2.CX P w) 1 (cR K) "below" (spFlr K)) (g_R_is_below : GH P w K mg base (L2.CX P w) 8 (cR K) "is_below" ["self", "other"] (spBelow K))
variable (g_mStem : GM P w K mg base (L2.CX P w) 8 "Stem" (cT K) ["self", "turn", "squared"] [] (spInitT K)) (g_need_stem : GD P w K mg base (L2.CX P w) 3 "need_stem" ["value", "part"] [] (spNeedT K)) (g_need_integer : GD P w K mg base (L2.CX P w) 3 "need_integer" ["value", "part"] [] spNeedI)
  (g_is_within : GD P w K mg base (L2.CX P w) 2 "is_within" ["value", "least", "most"] [] (spInW K)) (g_need_within : GD P w K mg base (L2.CX P w) 3 "need_within" ["value", "least", "most", "part"] [] (spNeedW K))
  (g_place : GD P w K mg base (L2.CX P w) 8 "place" ["stem", "stud"] [] (spPlace K)) (g_nearest_rounds : GD P w K mg base (L2.CX P w) 9 "nearest_rounds" ["stem", "stud"] [] (spNRs K))
  (g_is_between : GD P w K mg base (L2.CX P w) 9 "is_between" ["least", "ratio"] [] (spBetw K)) (g_first_within : GD P w K mg base (L2.CX P w) 10 "first_within" ["stem", "low", "high", "most"] [] (spFW K))
variable (g_l_coin : GD P w K mg base (L2.CX P w) 1 "_law_coin" ["_law_purse_here", "_law_many"] [] spDip) (g_l_purse : GD P w K mg base (L2.CX P w) 1 "_law_purse" ["_law_script"] [] (spPail K)) (g_l_of : GD P w K mg base (L2.CX P w) 2 "_law_of" ["_law_purse_here", "_law_some"] [] spOfL)
  (g_l_stem : GD P w K mg base (L2.CX P w) 3 "_law_stem" ["_law_purse_here"] [] spStemL) (g_l_divisor : GD P w K mg base (L2.CX P w) 1 "_law_divisor" ["_law_one", "_law_other"] [] spDiv) (g_l_first : GD P w K mg base (L2.CX P w) 1 "_law_first" ["_law_p", "_law_q", "_law_low", "_law_high", "_law_under", "_law_most"] [] spFirstL)
  (g_l_stretch : GD P w K mg base (L2.CX P w) 3 "_law_stretch" ["_law_purse_here", "_law_p", "_law_q"] [] spStretch) (g_l_pair_right : GD P w K mg base (L2.CX P w) 11 "_law_pair_right" ["_law_purse_here", "_law_plain", "_law_stem_here"] [] (spAsk K))
  (g_l_within_right : GD P w K mg base (L2.CX P w) 11 "_law_within_right" ["_law_purse_here", "_law_plain", "_law_stem_here"] [] (spAsk K)) (g_l_pushed_right : GD P w K mg base (L2.CX P w) 11 "_law_pushed_right" ["_law_purse_here", "_law_plain", "_law_stem_here"] [] (spAsk K))
  (g_rne : GNe P w K mg base (L2.CX P w) 2 (cR K) (spEqR K)) (g_first_within_k : GDK P w K mg base (L2.CX P w) 10 "first_within" ["stem", "low", "high", "most"] 4 [0, 1, 2, 3] (spFW K)) (g_first_within_m : GDM P w K mg base (L2.CX P w) 10 "first_within" ["high", "most"] 2 2 (spFW K))

theorem scal_opt (r : Option Int) : scal (optV r) (optV r) = true := by cases r <;> rfl
theorem sc_winR : FnScope ["_law_purse_here", "_law_plain", "_law_stem_here", "_law_p", "_law_q", "_law_low", "_law_high", "_law_under", "_law_most", "_law_told", "_law_zero"] ["_law_purse_here", "_law_plain", "_law_stem_here"] (defScope (topS 47)) := ⟨rfl, rfl, rfl, by decide +kernel, rfl, by decide +kernel, by decide +kernel⟩
include g_first_within_k g_first_within_m g_l_coin g_l_first g_l_of g_l_stretch g_mRatio in
theorem ok_winR (G : G0 K mg) (F : FP K "_law_within_right" "_law_within_right" (topS 47) [] f fd) : FnOk P w K mg base (L2.CX P w) 11 f fd ["_law_purse_here", "_law_plain", "_law_stem_here"] (spAsk K) := by
  have nd := sc_winR.nd
  refine F.ok sc_winR (fun vs H Q E h => by obtain ⟨_, _, _, _, _, _, _, _, _, rfl, _⟩ := h; rfl) (fun cdv A outer s H vs Q E hr h => ⟨_, pss_cons (ps_par (i := 3) (j := 4) rfl nd rfl rfl (by decide) rfl rfl (pa_cons (pe_ix ix_list (pv 1) (pe_int) (fun _ _ => rfl)) (pa_cons (pe_ix ix_list (pv 1) (pe_int) (fun _ _ => rfl)) pa_nil)) rfl) (pss_cons (ps_asg (pe_gd g_l_stretch (hr.mono (by decide)) rfl (pxE rfl rfl rfl rfl) (pa_cons (pv 0) (pa_cons (pv 3) (pa_cons (pv 4) (pa_nil))))) (pg_tup rfl (pgs_cons (pg_name (i := 5) nd rfl (Or.inl rfl)) (pgs_cons (pg_name (i := 6) nd rfl (Or.inl rfl)) (pgs_cons (pg_name (i := 7) nd rfl (Or.inl rfl)) (pgs_nil)))))) (pss_cons (ps_set (i := 8) nd rfl (Or.inl rfl) (pe_gd g_l_of (hr.mono (by decide)) rfl (pxE rfl rfl rfl rfl) (pa_cons (pv 0) (pa_cons (pe_lst (pa_cons (pe_int) (pa_cons (pv 4) (pa_cons (pe_int) (pa_cons (pe_op op_add (pe_int) (pe_gd g_l_coin (hr.mono (by decide)) rfl (pxE rfl rfl rfl rfl) (pa_cons (pv 0) (pa_cons (pe_int) (pa_nil))))) (pa_cons (pe_op op_add (pe_int) (pe_gd g_l_coin (hr.mono (by decide)) rfl (pxE rfl rfl rfl rfl) (pa_cons (pv 0) (pa_cons (pe_int) (pa_nil))))) (pa_cons (pe_int) (pa_nil)))))))) (pa_nil))))) (pss_cons (ps_set (i := 9) nd rfl (Or.inl rfl) (pe_gdm g_first_within_m (hr.mono (by decide)) rfl (pxE rfl rfl rfl rfl) (pa_cons (pv 2) (pa_cons (pe_gm g_mRatio (hr.mono (by decide)) rfl (pxE rfl rfl rfl rfl) (pa_cons (pv 5) (pa_cons (pv 7) (pa_nil)))) (pa_nil))) (pk_cons (pe_gm g_mRatio (hr.mono (by decide)) rfl (pxE rfl rfl rfl rfl) (pa_cons (pv 6) (pa_cons (pv 7) (pa_nil)))) (pk_cons (pv 8) (pk_nil))))) (pss_cons (ps_if (PW.pt (pw_or (pt_cmpR op_ne (pv 9) (pe_gd g_l_first (hr.mono (by decide)) rfl (pxE rfl rfl rfl rfl) (pa_cons (pv 3) (pa_cons (pv 4) (pa_cons (pv 5) (pa_cons (pv 6) (pa_cons (pv 7) (pa_cons (pv 8) (pa_nil)))))))) (nomark _)) (pw_or1 (pt_cmpR op_isTrue (pv 9) (pe_bl) (nomark _))))) (pss_one (ps_ret (pe_bl))) (pss_nil)) (pss_cons (ps_set (i := 10) nd rfl (Or.inl rfl) (pe_gdk g_first_within_k (hr.mono (by decide)) rfl (pxE rfl rfl rfl rfl) (pk_cons (pv 2) (pk_cons (pe_int) (pk_cons (pe_int) (pk_cons (pv 8) (pk_nil))))))) (pss_one (ps_ret (pe_cmpR op_eq (pv 10) (pe_gd g_l_first (hr.mono (by decide)) rfl (pxE rfl rfl rfl rfl) (pa_cons (pv 3) (pa_cons (pv 4) (pa_cons (pe_int) (pa_cons (pe_int) (pa_cons (pe_int) (pa_cons (pv 8) (pa_nil)))))))) (nomark _))))))))), ?_⟩)
  obtain ⟨a, c, l, st, N, p, q, n, m, rfl, hp, hN, hl, nla, po, it, k⟩ := h
  have q1 := po.q0
  have q2 := po.q1
  have zp := po.pb
  have hN0 : N ≤ 900000 := by omega
  walk_at "rd"
  intro t lo hi u H1 l0 lh hu u60 ht p1 s1
  have it1 := it.sb hp s1
  have hN1 : N + 10 ≤ 1000000 := by omega
  clear hp it
  walk_at "rd"
  intro d4 H4 a4 b4 p4 s4
  have it4 := it1.sb p1 s4
  have sb4 := s1.trans s4
  have hN4 : N + 10 + 1 ≤ 1000000 := by omega
  clear p1 it1
  walk_at "rd"
  intro d5 H5 a5 b5 p5 s5
  have it5 := it4.sb p4 s5
  have sb5 := sb4.trans s5
  have hN5 : N + 10 + 1 + 1 ≤ 1000000 := by omega
  clear p4 it4
  walk_at "rd"
  intro L hL
  have nL := p5.ne hL
  have sL := Same.new (o := .lst [.int 60, .int q, .int 1, .int (1 + d4), .int (1 + d5), .int 1000]) hL
  have p6 := p5.ext sL
  have it6 := it5.ext sL
  have hl' : upd H5 L (.lst [.int 60, .int q, .int 1, .int (1 + d4), .int (1 + d5), .int 1000]) L = some (.lst [.int 60, .int q, .int 1, .int (1 + d4), .int (1 + d5), .int 1000]) := upd_same
  clear p5 it5
  walk_at "rd"
  intro d v H7 d0 d1 hv p7 s7
  obtain ⟨z, rfl, z0, z1⟩ : ∃ z : Int, v = .int z ∧ 1 ≤ z ∧ z ≤ 1000 := by
    have d1' : d < 6 := d1
    rcases (show d = 0 ∨ d = 1 ∨ d = 2 ∨ d = 3 ∨ d = 4 ∨ d = 5 by omega) with rfl | rfl | rfl | rfl | rfl | rfl <;> cases hv
    · exact ⟨_, rfl, by omega, by omega⟩
    · exact ⟨_, rfl, by omega, by omega⟩
    · exact ⟨_, rfl, by omega, by omega⟩
    · exact ⟨_, rfl, by omega, by omega⟩
    · exact ⟨_, rfl, by omega, by omega⟩
    · exact ⟨_, rfl, by omega, by omega⟩
  have it7 := it6.sb p6 s7
  have sb7 := (sb5.trans (Same.sb sL)).trans s7
  clear p6 it6 hl'
  have u0 : 0 < u := by omega
  walk_at "rd"
  apply makeR2 (show u ≠ 0 by omega) (nb_le (show lo.natAbs < 2 ^ 7 by omega)) (nb_le (show u.natAbs < 2 ^ 7 by omega))
  intro rl H8 s8 _ irl
  walk_at "rd"
  apply makeR2 (show u ≠ 0 by omega) (nb_le (show hi.natAbs < 2 ^ 7 by omega)) (nb_le (show u.natAbs < 2 ^ 7 by omega))
  intro rh H9 s9 _ irh
  have irl := irl.ext s9
  have it9 := (it7.ext s8).ext s9
  have s79 := s8.trans s9
  obtain ⟨l0', l1'⟩ := divInt_lt_one u0 l0 (show lo < u by omega)
  obtain ⟨h0', h1'⟩ := divInt_lt_one u0 (show 0 ≤ hi by omega) hu
  have zl : Sz (Rat.divInt lo u) 1900 := (sz_divInt (n := 7) (by omega) (by omega) (by omega)).mono
  have zh : Sz (Rat.divInt hi u) 1900 := (sz_divInt (n := 7) (by omega) (by omega) (by omega)).mono
  have lh' : Rat.divInt lo u ≤ Rat.divInt hi u := (di_le_di u0 u0).mpr (Int.mul_le_mul_of_nonneg_right lh (by omega))
  have ist9 : ST K H9 st (Rat.divInt p q) (Rat.divInt n m) := ⟨it9, po.szD.mono, po.szF.mono⟩
  walk_at "rd"
  refine .inr ⟨st, _, _, rfl, ist9, .inr ⟨_, RV.mk irl, zl, l0', l1', .inr ⟨_, RV.mk irh, zh, lh', h1', .inr ⟨z, rfl, z0, z1, fun r H10 s10 hr1 => ?_⟩⟩⟩⟩
  have zlo : lo.natAbs ≤ 100 := by omega
  have zhi : hi.natAbs ≤ 100 := by omega
  have u1 : 1 ≤ u := by omega
  have u100 : u ≤ 100 := by omega
  walk_at "rd"
  intro r' hr2
  obtain rfl := hr1.uniq hr2 (fun k _ => pw_pl (show 0 < q by omega) u0)
  have hsc := scal_opt r
  have hopt : optV r = .non ∨ ∃ i, optV r = .int i := by
    cases r with
    | none => exact .inl rfl
    | some i => exact .inr ⟨i, rfl⟩
  have ist10 := ist9.ext s10
  have z01 : Sz ((0 : Int) : Rat) 1900 := (sz_int (n := 2) (by decide)).mono
  walk_at "rd"
  refine iteP (fun z => absurd z (by simp)) (fun _ => ?_)
  walk_at "rd"
  refine .inr ⟨st, _, _, rfl, ist10, .inr ⟨_, RV.int K H10 0, z01, by rw [Rat.intCast_zero]; exact Rat.le_refl, by rw [Rat.intCast_zero]; decide, .inr ⟨_, RV.int K H10 0, z01, Rat.le_refl, by rw [Rat.intCast_zero]; decide, .inr ⟨z, rfl, z0, z1, fun r2 H11 s11 hr3 => ?_⟩⟩⟩⟩
  have zz : (0 : Int).natAbs ≤ 100 := by decide
  have one1 : (1 : Int) ≤ 1 := by decide
  have one2 : (1 : Int) ≤ 100 := by decide
  walk_at "rd"
  intro r3 hr4
  rw [← divInt_one] at hr3
  obtain rfl := hr3.uniq hr4 (fun k _ => pw_pl (show 0 < q by omega) (by decide))
  have hsc2 := scal_opt r2
  walk_at "rd"
  rw [decide_eq_true (rfl : optV r2 = optV r2)]
  exact k H11 ((p7.ext ((s79.trans s10).trans s11)).mono) (sb7.trans (Same.sb ((s79.trans s10).trans s11)))
end
end Sp
end
section
set_option Elab.async false
set_option linter.all false
set_option exponentiation.threshold 5000
set_option maxRecDepth 100000
set_option maxHeartbeats 0
local macro_rules | `(tactic| walk_at "leaf") => `(tactic| first | rfl | assumption | exact True.intro | exact L2.upd_same | exact L2.ClsV.ty _ | exact L2.ClsV.own _ | decide | exact of_decide_eq_true rfl | exact L2.SqL.of (by assumption) | exact L2.SqL.of L2.upd_same | exact Or.inl (L2.SqL.of L2.upd_same) | exact Or.inl (L2.SqL.of (by assumption)) | exact L2.SqT.of (by assumption) | exact L2.SqT.of L2.upd_same | exact Sp.cmL (by decide) | exact Sp.cmR (by decide) | exact ⟨by decide, by decide, by decide⟩ | exact ⟨by decide, by decide⟩ | exact Or.inr (L2.SqT.of (by assumption)) | exact Or.inl ⟨rfl, _, L2.SqL.of (by assumption)⟩ | exact Or.inl ⟨rfl, _, L2.SqL.of L2.upd_same⟩ | omega | fail)
local macro_rules | `(tactic| walk_at "rd1") => `(tactic| first
  | refine Sp.rbR (by assumption) (by assumption) (by assumption) (by assumption) ?_
  | apply Sp.exI
  | (refine And.intro ?lf ?_; (case lf => walk_at "leaf"))
  | fail)
local macro_rules | `(tactic| walk_at "rd") => `(tactic| repeat (walk_at "rd1"))
local macro_rules | `(tactic| walk_at "fR") => `(tactic| (have := (‹Sp.G0 _ _›).R.cl; have := (‹Sp.G0 _ _›).R.no "top" (by simp); have := (‹Sp.G0 _ _›).R.no "bottom" (by simp)))
local macro_rules | `(tactic| walk_at "fT") => `(tactic| (have := (‹Sp.G0 _ _›).T.cl; have := (‹Sp.G0 _ _›).T.no "turn" (by simp); have := (‹Sp.G0 _ _›).T.no "squared" (by simp); have := (‹Sp.G0 _ _›).T.no "rise" (by simp)))
namespace Sp
open PySem PySem.Spec PyProof.Rows L2
section
variable {P : Program} {w : World} {K : PySem.W.Frag} {mg : Str → Option Value} {base : Heap} {f : Addr} {fd : FuncData}
variable (g_is_integer : GD P w K mg base (L2.CX P w) 1 "is_integer" ["value"] [] (spIsInt K)) (g_sign_of : GD P w K mg base (L2.CX P w) 1 "sign_of" ["number"] [] spSign)
  (g_is_ratio : GD P w K mg base (L2.CX P w) 2 "is_ratio" ["value"] [] (spIsRat K)) (g_at_right : GD P w K mg base (L2.CX P w) 6 "at_right" ["value"] [] (spOf K))
  (g_xBadRatio : GX P w K mg base 1 "BadRatio" "part" (cX K "BadRatio")) (g_xBadNumber : GX P w K mg base 1 "BadNumber" "part" (cX K "BadNumber")) (g_xBadStem : GX P w K mg base 1 "BadStem" "part" (cX K "BadStem"))
  (g_mRatio : GM P w K mg base (L2.CX P w) 3 "Ratio" (cR K) ["self", "top", "bottom"] [] (spInitR K)) (g_mRatio1 : GM P w K mg base (L2.CX P w) 3 "Ratio" (cR K) ["self", "top", "bottom"] [.int 1] (spInitR K))
  (g_Ratio_of : GS P w K mg base (L2.CX P w) 5 (cR K) "of" (spOf K)) (g_R_compared : GH P w K mg base (L2.CX P w) 7 (cR K) "compared" ["self", "other"] (spCmp K))
variable (g_radd : GO P w K mg base (L2.CX P w) 7 (cR K) .Add (spBinR K (· + ·))) (g_rsub : GO P w K mg base (L2.CX P w) 7 (cR K) .Sub (spBinR K (· - ·))) (g_rmul : GO P w K mg base (L2.CX P w) 7 (cR K) .Mult (spBinR K (· * ·)))
  (g_req : GN P w K mg base (L2.CX P w) 2 (cR K) "__eq__" (spEqR K)) (g_R_sign : GP P w K mg base (L2.CX P w) 2 (cR K) "sign" (spSgn K)) (g_R_below : GP P w K mg base (L2.CX P w) 1 (cR K) "below" (spFlr K)) (g_R_is_below : GH P w K mg base (L2.CX P w) 8 (cR K) "is_below" ["self", "other"] (spBelow K))
variable (g_mStem : GM P w K mg base (L2.CX P w) 8 "Stem" (cT K) ["self", "turn", "squared"] [] (spInitT K)) (g_need_stem : GD P w K mg base (L2.CX P w) 3 "need_stem" ["value", "part"] [] (spNeedT K)) (g_need_integer : GD P w K mg base (L2.CX P w) 3 "need_integer" ["value", "part"] [] spNeedI)
  (g_is_within : GD P w K mg base (L2.CX P w) 2 "is_within" ["value", "least", "most"] [] (spInW K)) (g_need_within : GD P w K mg base (L2.CX P w) 3 "need_within" ["value", "least", "most", "part"] [] (spNeedW K))
  (g_place : GD P w K mg base (L2.CX P w) 8 "place" ["stem", "stud"] [] (spPlace K)) (g_nearest_rounds : GD P w K mg base (L2.CX P w) 9 "nearest_rounds" ["stem", "stud"] [] (spNRs K))
  (g_is_between : GD P w K mg base (L2.CX P w) 9 "is_between" ["least", "ratio"] [] (spBetw K)) (g_first_within : GD P w K mg base (L2.CX P w) 10 "first_within" ["stem", "low", "high", "most"] [] (spFW K))
variable (g_l_coin : GD P w K mg base (L2.CX P w) 1 "_law_coin" ["_law_purse_here", "_law_many"] [] spDip) (g_l_purse : GD P w K mg base (L2.CX P w) 1 "_law_purse" ["_law_script"] [] (spPail K)) (g_l_of : GD P w K mg base (L2.CX P w) 2 "_law_of" ["_law_purse_here", "_law_some"] [] spOfL)
  (g_l_stem : GD P w K mg base (L2.CX P w) 3 "_law_stem" ["_law_purse_here"] [] spStemL) (g_l_divisor : GD P w K mg base (L2.CX P w) 1 "_law_divisor" ["_law_one", "_law_other"] [] spDiv) (g_l_first : GD P w K mg base (L2.CX P w) 1 "_law_first" ["_law_p", "_law_q", "_law_low", "_law_high", "_law_under", "_law_most"] [] spFirstL)
  (g_l_stretch : GD P w K mg base (L2.CX P w) 3 "_law_stretch" ["_law_purse_here", "_law_p", "_law_q"] [] spStretch) (g_l_pair_right : GD P w K mg base (L2.CX P w) 11 "_law_pair_right" ["_law_purse_here", "_law_plain", "_law_stem_here"] [] (spAsk K))
  (g_l_within_right : GD P w K mg base (L2.CX P w) 11 "_law_within_right" ["_law_purse_here", "_law_plain", "_law_stem_here"] [] (spAsk K)) (g_l_pushed_right : GD P w K mg base (L2.CX P w) 11 "_law_pushed_right" ["_law_purse_here", "_law_plain", "_law_stem_here"] [] (spAsk K))
  (g_rne : GNe P w K mg base (L2.CX P w) 2 (cR K) (spEqR K)) (g_first_within_k : GDK P w K mg base (L2.CX P w) 10 "first_within" ["stem", "low", "high", "most"] 4 [0, 1, 2, 3] (spFW K)) (g_first_within_m : GDM P w K mg base (L2.CX P w) 10 "first_within" ["high", "most"] 2 2 (spFW K))

theorem sc_push : FnScope ["_law_purse_here", "_law_plain", "_law_stem_here", "_law_p", "_law_q", "_law_n", "_law_m", "_law_times", "_law_stud", "_law_more", "_law_one"] ["_law_purse_here", "_law_plain", "_law_stem_here"] (defScope (topS 44)) := ⟨rfl, rfl, rfl, by decide +kernel, rfl, by decide +kernel, by decide +kernel⟩
include g_l_coin g_mRatio g_mStem g_nearest_rounds g_place g_radd g_rne in
theorem ok_push (hnf : PySem.W.notFirst K (cR K) (.ref (cR K)) = true) (G : G0 K mg) (F : FP K "_law_pushed_right" "_law_pushed_right" (topS 44) [] f fd) : FnOk P w K mg base (L2.CX P w) 11 f fd ["_law_purse_here", "_law_plain", "_law_stem_here"] (spAsk K) := by
  have nd := sc_push.nd
  refine F.ok sc_push (fun vs H Q E h => by obtain ⟨_, _, _, _, _, _, _, _, _, rfl, _⟩ := h; rfl) (fun cdv A outer s H vs Q E hr h => ⟨_, pss_cons (ps_asg (pv 1) (pg_tupL rfl (pgs_cons (pg_name (i := 3) nd rfl (Or.inl rfl)) (pgs_cons (pg_name (i := 4) nd rfl (Or.inl rfl)) (pgs_cons (pg_name (i := 5) nd rfl (Or.inl rfl)) (pgs_cons (pg_name (i := 6) nd rfl (Or.inl rfl)) (pgs_nil))))))) (pss_cons (ps_asg (pe_tup (pa_cons (pe_op op_sub (pe_gd g_l_coin (hr.mono (by decide)) rfl (pxE rfl rfl rfl rfl) (pa_cons (pv 0) (pa_cons (pe_int) (pa_nil)))) (pe_int)) (pa_cons (pe_op op_sub (pe_gd g_l_coin (hr.mono (by decide)) rfl (pxE rfl rfl rfl rfl) (pa_cons (pv 0) (pa_cons (pe_int) (pa_nil)))) (pe_int)) (pa_nil)))) (pg_tup rfl (pgs_cons (pg_name (i := 7) nd rfl (Or.inr rfl)) (pgs_cons (pg_name (i := 8) nd rfl (Or.inr rfl)) (pgs_nil))))) (pss_cons (ps_set (i := 9) nd rfl (Or.inl rfl) (pe_gm g_mStem (hr.mono (by decide)) rfl (pxE rfl rfl rfl rfl) (pa_cons (pe_gm g_mRatio (hr.mono (by decide)) rfl (pxE rfl rfl rfl rfl) (pa_cons (pe_op op_add (pv 3) (pe_op op_mulB (pv 7) (pv 4))) (pa_cons (pv 4) (pa_nil)))) (pa_cons (pe_op (op_go g_radd (hr.mono (by decide)) (pxE rfl rfl rfl rfl)) (pe_op (op_go g_radd (hr.mono (by decide)) (pxE rfl rfl rfl rfl)) (pe_gm g_mRatio (hr.mono (by decide)) rfl (pxE rfl rfl rfl rfl) (pa_cons (pv 5) (pa_cons (pv 6) (pa_nil)))) (pe_gm g_mRatio (hr.mono (by decide)) rfl (pxE rfl rfl rfl rfl) (pa_cons (pe_op op_mulB (pe_op op_mulB (pe_int) (pv 3)) (pv 7)) (pa_cons (pv 4) (pa_nil))))) (pe_op op_mulB (pv 7) (pv 7))) (pa_nil))))) (pss_cons (ps_if (PW.pt (pw_or (pt_cmpR (op_neGo g_rne (hr.mono (by decide)) (pxE rfl rfl rfl rfl)) (pe_fld (pv 9) rfl) (pe_fld (pv 2) rfl) (nomark _)) (pw_or1 (pt_cmpR (op_neGo g_rne (hr.mono (by decide)) (pxE rfl rfl rfl rfl)) (pe_gd g_place (hr.mono (by decide)) rfl (pxE rfl rfl rfl rfl) (pa_cons (pv 9) (pa_cons (pv 8) (pa_nil)))) (pe_gd g_place (hr.mono (by decide)) rfl (pxE rfl rfl rfl rfl) (pa_cons (pv 2) (pa_cons (pv 8) (pa_nil)))) (nomark _))))) (pss_one (ps_ret (pe_bl))) (pss_nil)) (pss_one (ps_ret (pe_cmpR (op_eqD hr.units) (pe_callTy call_list_of rfl G.nm.list (by decide +kernel) (pa_cons (pe_gd g_nearest_rounds (hr.mono (by decide)) rfl (pxE rfl rfl rfl rfl) (pa_cons (pv 9) (pa_cons (pv 8) (pa_nil)))) (pa_nil))) (pe_lc (own := [("_law_one", 10)]) (g := gName 10) (tt := tYes) rfl nd (pi_tup (pe_gd g_nearest_rounds (hr.mono (by decide)) rfl (pxE rfl rfl rfl rfl) (pa_cons (pv 2) (pa_cons (pv 8) pa_nil)))) (blkOk_by (N := ["_law_purse_here", "_law_plain", "_law_stem_here", "_law_p", "_law_q", "_law_n", "_law_m", "_law_times", "_law_stud", "_law_more", "_law_one"]) (sc := defScope (topS 44)) (by decide +kernel)) (fun _ _ _ _ _ => pg_name (i := 10) nd rfl (Or.inl rfl)) (fun _ _ _ _ _ => pts_nil) (fun _ _ _ _ _ => pe_op op_add (pv 10) (pe_op op_mulB (pv 7) (pv 8)))) (nomark _))))))), ?_⟩)
  obtain ⟨a, c, l, st, N, p, q, n, m, rfl, hp, hN, hl, nla, po, it, k⟩ := h
  have q1 := po.q0
  have q2 := po.q1
  have zp := po.pb
  have m0 := po.m0
  have m1 := po.m1
  have hq : 0 < q := by omega
  have hN0 : N ≤ 1000000 := by omega
  walk_at "rd"
  intro t' H1 t0 t1 p1 s1
  have it1 := it.sb hp s1
  have hN1 : N + 1 ≤ 1000000 := by omega
  clear hp it
  walk_at "rd"
  intro s' H2 u0 u1 p2 s2
  have it2 := it1.sb p1 s2
  have sb2 := s1.trans s2
  clear p1 it1
  have zt : (t' - 5).natAbs ≤ 5 := by omega
  have zk : (s' - 100).natAbs ≤ 100 := by omega
  have ztq : ((t' - 5) * q).natAbs < 2 ^ 9 := nb_mul (a := 3) (b := 6) (by omega) (by omega)
  have ztt : ((t' - 5) * (t' - 5)).natAbs < 2 ^ 6 := nb_mul (a := 3) (b := 3) (by omega) (by omega)
  have z2p : (2 * p * (t' - 5)).natAbs < 2 ^ 12 := nb_mul (a := 9) (b := 3) (by omega) (by omega)
  have c1 : CMulB (t' - 5) q := cm (n := 3) (m := 6) (by omega) (by omega)
  have c2 : CMulB 2 p := cm (n := 2) (m := 8) (by decide) (by omega)
  have c3 : CMulB (2 * p) (t' - 5) := cm (n := 9) (m := 3) (by omega) (by omega)
  have c4 : CMulB (t' - 5) (t' - 5) := cm (n := 3) (m := 3) (by omega) (by omega)
  walk_at "rd"
  intro tp htp
  have s3 := Same.new (o := .tup [.int (t' - 5), .int (s' - 100)]) htp
  have it3 := it2.ext s3
  have p3 := p2.ext s3
  clear p2 it2
  walk_at "rd"
  apply makeR2 (show q ≠ 0 by omega) (nb_le (show (p + (t' - 5) * q).natAbs < 2 ^ 10 by omega)) (nb_le (show q.natAbs < 2 ^ 6 by omega))
  intro ra H4 s4 _ ira
  walk_at "rd"
  apply makeR2 (show m ≠ 0 by omega) (nb_le po.n1) (nb_le (show m.natAbs < 2 ^ 6 by omega))
  intro rb H5 s5 _ irb
  walk_at "rd"
  apply makeR2 (show q ≠ 0 by omega) (nb_le z2p) (nb_le (show q.natAbs < 2 ^ 6 by omega))
  intro rc H6 s6 _ irc
  have irb := irb.ext s6
  have vrc := RV.mk irc
  have yF : Sz (Rat.divInt n m) 21 := po.szF
  have yG : Sz (Rat.divInt (2 * p * (t' - 5)) q) 12 := sz_divInt (by omega) z2p (by omega)
  have yF' : Sz (Rat.divInt n m) 1900 := yF.mono
  have yG' : Sz (Rat.divInt (2 * p * (t' - 5)) q) 1900 := yG.mono
  walk_at "rd"
  intro rd H7 s7 ird
  have yS : Sz (Rat.divInt n m + Rat.divInt (2 * p * (t' - 5)) q) 40 := sz_add yF yG
  have yS' : Sz (Rat.divInt n m + Rat.divInt (2 * p * (t' - 5)) q) 1900 := yS.mono
  have yt : Sz (((t' - 5) * (t' - 5) : Int) : Rat) 1900 := sz_int (nb_le ztt)
  have vt := RV.int K H7 ((t' - 5) * (t' - 5))
  walk_at "rd"
  intro re H8 s8 ire
  have s58 := ((s5.trans s6).trans s7).trans s8
  have ira := ira.ext s58
  have eD : Rat.divInt (p + (t' - 5) * q) q = Rat.divInt p q + ((t' - 5 : Int) : Rat) := push_div hq
  have eF : Rat.divInt n m + Rat.divInt (2 * p * (t' - 5)) q + (((t' - 5) * (t' - 5) : Int) : Rat) = Rat.divInt n m + 2 * Rat.divInt p q * ((t' - 5 : Int) : Rat) + (((t' - 5) * (t' - 5) : Int) : Rat) := by rw [two_div]
  have eR : (Rat.divInt n m + Rat.divInt (2 * p * (t' - 5)) q + (((t' - 5) * (t' - 5) : Int) : Rat)) - Rat.divInt (p + (t' - 5) * q) q * Rat.divInt (p + (t' - 5) * q) q = Rat.divInt n m - Rat.divInt p q * Rat.divInt p q := by
    rw [eF, eD]
    exact push_rise _ _ _
  have zD : Sz (Rat.divInt (p + (t' - 5) * q) q) 40 := (sz_divInt (n := 10) (by omega) (by omega) (by omega)).mono
  have zF : Sz (Rat.divInt n m + Rat.divInt (2 * p * (t' - 5)) q + (((t' - 5) * (t' - 5) : Int) : Rat)) 80 := sz_add (m := 40) (n := 7) yS (sz_int (nb_le ztt))
  have hrise : 0 < (Rat.divInt n m + Rat.divInt (2 * p * (t' - 5)) q + (((t' - 5) * (t' - 5) : Int) : Rat)) - Rat.divInt (p + (t' - 5) * q) q * Rat.divInt (p + (t' - 5) * q) q := by
    rw [eR]
    exact po.rise
  walk_at "rd"
  apply makeT2 ira ire zD zF hrise
  intro mo H9 s9 _ im
  have s49 := s4.trans (s58.trans s9)
  have it9 := it3.ext s49
  have p9 := p3.ext s49
  have sb9 := sb2.trans (Same.sb (s3.trans s49))
  clear p3 it3 ira irb irc ird ire vrc vt
  obtain ⟨dx1, a1, b1, r1, h1, i11, i12, i13⟩ := id im
  obtain ⟨dx2, a2, b2, r2, h2, i21, i22, i23⟩ := id it9
  obtain ⟨_, i13'⟩ := id i13
  have ty2 := (G.tR i23).1
  have v23 := RV.mk i23
  walk_at "fT"
  walk_at "rd"
  refine iteP (fun z => absurd z (by rw [eR]; simp)) (fun _ => ?_)
  have istm : ST K H9 mo (Rat.divInt (p + (t' - 5) * q) q) (Rat.divInt n m + Rat.divInt (2 * p * (t' - 5)) q + (((t' - 5) * (t' - 5) : Int) : Rat)) := ⟨im, zD, zF⟩
  have ist : ST K H9 st (Rat.divInt p q) (Rat.divInt n m) := ⟨it9, po.szD.mono, po.szF.mono⟩
  have zk40 : (s' - 100).natAbs < 2 ^ 40 := by omega
  have ek : Rat.divInt (p + (t' - 5) * q) q * (((s' - 100) : Int) : Rat) = Rat.divInt p q * (((s' - 100) : Int) : Rat) + (((t' - 5) * (s' - 100) : Int) : Rat) := by rw [eD, push_eq]
  clear i11 i12 i13 i21 i22 i23 i13' ty2 v23 h1 h2
  walk_at "rd"
  intro pa H10 s10 ra
  have istm := istm.ext s10
  have ist := ist.ext s10
  walk_at "rd"
  intro pb H11 s11 rb
  have istm := istm.ext s11
  have ist := ist.ext s11
  have ra := ra.ext s11
  obtain ⟨_, ra'⟩ := id ra
  have ty2 := (G.tR rb).1
  have v2 := RV.mk rb
  walk_at "rd"
  refine iteP (fun z => absurd z (by rw [ek, frac_add]; simp)) (fun _ => ?_)
  clear ty2 v2 ra ra' rb
  walk_at "rd"
  intro pn H12 s12 tn
  have ist := ist.ext s12
  rw [ek, nrs_add, List.map_map] at tn
  walk_at "rd"
  intro l1 hl1
  have s13 := Same.new (o := .lst ((nrs (Rat.divInt p q * (((s' - 100) : Int) : Rat))).map (V.int ∘ fun x => x + (t' - 5) * (s' - 100)))) hl1
  have ist := ist.ext s13
  have hl1' : upd H12 l1 (.lst ((nrs (Rat.divInt p q * (((s' - 100) : Int) : Rat))).map (V.int ∘ fun x => x + (t' - 5) * (s' - 100)))) l1 = some (.lst ((nrs (Rat.divInt p q * (((s' - 100) : Int) : Rat))).map (V.int ∘ fun x => x + (t' - 5) * (s' - 100)))) := upd_same
  walk_at "rd"
  intro po' H14 s14 tn2
  have hl14 := s14 _ _ hl1'
  have sAll := (((s10.trans s11).trans s12).trans s13).trans s14
  have ctk : CMulB (t' - 5) (s' - 100) := cm (n := 3) (m := 7) (by omega) (by omega)
  obtain ⟨R, hR⟩ : ∃ R, R = nrs (Rat.divInt p q * (((s' - 100) : Int) : Rat)) := ⟨_, rfl⟩
  have hlen : R.length ≤ 2 := by
    rw [hR]
    unfold nrs
    split
    · simp
    · split <;> simp
  rw [← hR] at tn2 hl14
  have s4000 : 4000 ≤ sizeLine := by decide
  walk_at "rd"
  refine ⟨⟨_, SqT.of tn2⟩, fun D0 hD0 => ?_⟩
  refine lc_tup (K := K) (a := po') (xs := R.map V.int) (fun i Hh => Same H14 Hh ∧ Hh D0 = some (.lst ((R.take i).map (V.int ∘ fun x => x + (t' - 5) * (s' - 100))))) ⟨Same.new hD0, upd_same⟩ (fun i Hh _ h => SqT.of (h.1 _ _ tn2)) (fun i x Hh hx hP => ?_) (fun Hh hP => ?_)
  · obtain ⟨sm, hd⟩ := hP
    rw [List.getElem?_map] at hx
    obtain ⟨y, hy, rfl⟩ := Option.map_eq_some_iff.mp hx
    have hi := (List.getElem?_eq_some_iff.mp hy).1
    walk_at "rd"
    refine ⟨by rw [List.length_map, List.length_take]; omega, fun b o e => ?_, ?_⟩
    · have nb : b ≠ D0 := ne_of_none e hD0
      rw [upd_ne nb]
      exact sm _ _ e
    · rw [upd_same, List.take_add_one, hy]
      simp
  · obtain ⟨sm, hd⟩ := hP
    rw [List.length_map, List.take_length] at hd
    have hl15 := sm _ _ hl14
    have em : ∀ l : List Int, l.map (V.int ∘ fun x => x + (t' - 5) * (s' - 100)) = (l.map (fun x => x + (t' - 5) * (s' - 100))).map V.int := fun l => by rw [List.map_map]
    rw [em] at hd hl15
    refine ⟨.list ((R.map (fun x => x + (t' - 5) * (s' - 100))).map PyData.int), .list ((R.map (fun x => x + (t' - 5) * (s' - 100))).map PyData.int), .lst (SqL.of hl15) (dp_ints _), .lst (SqL.of hd) (dp_ints _), shaped_ints _, shaped_ints _, ?_⟩
    rw [eqr (shaped_ints _)]
    have sA := sAll.trans sm
    exact k Hh ((p9.ext sA).mono) (sb9.trans (Same.sb sA))
end
end Sp
end
section
set_option Elab.async false
set_option linter.all false
set_option exponentiation.threshold 5000
set_option maxRecDepth 100000
set_option maxHeartbeats 0
local macro_rules | `(tactic| walk_at "leaf") => `(tactic| first | rfl | assumption | exact True.intro | exact L2.upd_same | exact L2.ClsV.ty _ | exact L2.ClsV.own _ | decide | exact of_decide_eq_true rfl | exact L2.SqL.of (by assumption) | exact L2.SqL.of L2.upd_same | exact Or.inl (L2.SqL.of L2.upd_same) | exact Or.inl (L2.SqL.of (by assumption)) | exact L2.SqT.of (by assumption) | exact L2.SqT.of L2.upd_same | exact Sp.cmL (by decide) | exact Sp.cmR (by decide) | exact ⟨by decide, by decide, by decide⟩ | exact ⟨by decide, by decide⟩ | exact Or.inr (L2.SqT.of (by assumption)) | exact Or.inl ⟨rfl, _, L2.SqL.of (by assumption)⟩ | exact Or.inl ⟨rfl, _, L2.SqL.of L2.upd_same⟩ | omega | fail)
local macro_rules | `(tactic| walk_at "rd1") => `(tactic| first
  | refine Sp.rbR (by assumption) (by assumption) (by assumption) (by assumption) ?_
  | apply Sp.exI
  | (refine And.intro ?lf ?_; (case lf => walk_at "leaf"))
  | fail)
local macro_rules | `(tactic| walk_at "rd") => `(tactic| repeat (walk_at "rd1"))
local macro_rules | `(tactic| walk_at "fR") => `(tactic| (have := (‹Sp.G0 _ _›).R.cl; have := (‹Sp.G0 _ _›).R.no "top" (by simp); have := (‹Sp.G0 _ _›).R.no "bottom" (by simp)))
local macro_rules | `(tactic| walk_at "fT") => `(tactic| (have := (‹Sp.G0 _ _›).T.cl; have := (‹Sp.G0 _ _›).T.no "turn" (by simp); have := (‹Sp.G0 _ _›).T.no "squared" (by simp); have := (‹Sp.G0 _ _›).T.no "rise" (by simp)))
namespace Sp
open PySem PySem.Spec PyProof.Rows L2
section
variable {P : Program} {w : World} {K : PySem.W.Frag} {mg : Str → Option Value} {base : Heap} {f : Addr} {fd : FuncData}
variable (g_is_integer : GD P w K mg base (L2.CX P w) 1 "is_integer" ["value"] [] (spIsInt K)) (g_sign_of : GD P w K mg base (L2.CX P w) 1 "sign_of" ["number"] [] spSign)
  (g_is_ratio : GD P w K mg base (L2.CX P w) 2 "is_ratio" ["value"] [] (spIsRat K)) (g_at_right : GD P w K mg base (L2.CX P w) 6 "at_right" ["value"] [] (spOf K))
  (g_xBadRatio : GX P w K mg base 1 "BadRatio" "part" (cX K "BadRatio")) (g_xBadNumber : GX P w K mg base 1 "BadNumber" "part" (cX K "BadNumber")) (g_xBadStem : GX P w K mg base 1 "BadStem" "part" (cX K "BadStem"))
  (g_mRatio : GM P w K mg base (L2.CX P w) 3 "Ratio" (cR K) ["self", "top", "bottom"] [] (spInitR K)) (g_mRatio1 : GM P w K mg base (L2.CX P w) 3 "Ratio" (cR K) ["self", "top", "bottom"] [.int 1] (spInitR K))
  (g_Ratio_of : GS P w K mg base (L2.CX P w) 5 (cR K) "of" (spOf K)) (g_R_compared : GH P w K mg base (L2.CX P w) 7 (cR K) "compared" ["self", "other"] (spCmp K))
variable (g_radd : GO P w K mg base (L2.CX P w) 7 (cR K) .Add (spBinR K (· + ·))) (g_rsub : GO P w K mg base (L2.CX P w) 7 (cR K) .Sub (spBinR K (· - ·))) (g_rmul : GO P w K mg base (L2.CX P w) 7 (cR K) .Mult (spBinR K (· * ·)))
  (g_req : GN P w K mg base (L2.CX P w) 2 (cR K) "__eq__" (spEqR K)) (g_R_sign : GP P w K mg base (L2.CX P w) 2 (cR K) "sign" (spSgn K)) (g_R_below : GP P w K mg base (L2.CX P w) 1 (cR K) "below" (spFlr K)) (g_R_is_below : GH P w K mg base (L2.CX P w) 8 (cR K) "is_below" ["self", "other"] (spBelow K))
variable (g_mStem : GM P w K mg base (L2.CX P w) 8 "Stem" (cT K) ["self", "turn", "squared"] [] (spInitT K)) (g_need_stem : GD P w K mg base (L2.CX P w) 3 "need_stem" ["value", "part"] [] (spNeedT K)) (g_need_integer : GD P w K mg base (L2.CX P w) 3 "need_integer" ["value", "part"] [] spNeedI)
  (g_is_within : GD P w K mg base (L2.CX P w) 2 "is_within" ["value", "least", "most"] [] (spInW K)) (g_need_within : GD P w K mg base (L2.CX P w) 3 "need_within" ["value", "least", "most", "part"] [] (spNeedW K))
  (g_place : GD P w K mg base (L2.CX P w) 8 "place" ["stem", "stud"] [] (spPlace K)) (g_nearest_rounds : GD P w K mg base (L2.CX P w) 9 "nearest_rounds" ["stem", "stud"] [] (spNRs K))
  (g_is_between : GD P w K mg base (L2.CX P w) 9 "is_between" ["least", "ratio"] [] (spBetw K)) (g_first_within : GD P w K mg base (L2.CX P w) 10 "first_within" ["stem", "low", "high", "most"] [] (spFW K))
variable (g_l_coin : GD P w K mg base (L2.CX P w) 1 "_law_coin" ["_law_purse_here", "_law_many"] [] spDip) (g_l_purse : GD P w K mg base (L2.CX P w) 1 "_law_purse" ["_law_script"] [] (spPail K)) (g_l_of : GD P w K mg base (L2.CX P w) 2 "_law_of" ["_law_purse_here", "_law_some"] [] spOfL)
  (g_l_stem : GD P w K mg base (L2.CX P w) 3 "_law_stem" ["_law_purse_here"] [] spStemL) (g_l_divisor : GD P w K mg base (L2.CX P w) 1 "_law_divisor" ["_law_one", "_law_other"] [] spDiv) (g_l_first : GD P w K mg base (L2.CX P w) 1 "_law_first" ["_law_p", "_law_q", "_law_low", "_law_high", "_law_under", "_law_most"] [] spFirstL)
  (g_l_stretch : GD P w K mg base (L2.CX P w) 3 "_law_stretch" ["_law_purse_here", "_law_p", "_law_q"] [] spStretch) (g_l_pair_right : GD P w K mg base (L2.CX P w) 11 "_law_pair_right" ["_law_purse_here", "_law_plain", "_law_stem_here"] [] (spAsk K))
  (g_l_within_right : GD P w K mg base (L2.CX P w) 11 "_law_within_right" ["_law_purse_here", "_law_plain", "_law_stem_here"] [] (spAsk K)) (g_l_pushed_right : GD P w K mg base (L2.CX P w) 11 "_law_pushed_right" ["_law_purse_here", "_law_plain", "_law_stem_here"] [] (spAsk K))
  (g_rne : GNe P w K mg base (L2.CX P w) 2 (cR K) (spEqR K)) (g_first_within_k : GDK P w K mg base (L2.CX P w) 10 "first_within" ["stem", "low", "high", "most"] 4 [0, 1, 2, 3] (spFW K)) (g_first_within_m : GDM P w K mg base (L2.CX P w) 10 "first_within" ["high", "most"] 2 2 (spFW K))

theorem takesLen {X : Cx} {W : WX} (t : Takes X W) : Takes X (fun c d σ H => σ.length = X.N.length → W c d σ H) := fun u s' ⟨a, B, sI, pins, σ, H, cls, d, e, I, nb, up, sky, na, os, ag, w⟩ =>
  t u s' ⟨a, B, sI, pins, σ, H, cls, d, e, I, nb, up, sky, na, os, ag, w I.len⟩
/-- what is caught: BadStem, BadNumber, with its field -/
def HErr (K : PySem.W.Frag) (Q : VK) : XK := fun cls d H' =>
  (cls = .ref (cX K "BadStem") ∧ ∃ dd v, d = some dd ∧ H' dd = some (.xd [("part", v)]) ∧ ∀ p, H' p = none → Q (.ref p) (upd H' p (.tup [.str "stem", v]))) ∨
  (cls = .ref (cX K "BadNumber") ∧ ∃ dd v, d = some dd ∧ H' dd = some (.xd [("part", v)]) ∧ ∀ p, H' p = none → Q (.ref p) (upd H' p (.tup [.str "number", v])))
/-- what _law_heard makes of the lambda's reading -/
def TTH (K : PySem.W.Frag) : (XK → Hp → VK → Prop) → Hp → VK → Prop := fun tl H Q => ∀ R : VK, (∀ v H1, Q .non H1 → R v H1) → tl (HErr K Q) H R
structure GE (K : PySem.W.Frag) (mg : Str → Option Value) : Prop where
  ss : PySem.W.exmOne K (.ref (cX K "BadStem")) (.ref (cX K "BadStem")) = some true
  rs : PySem.W.exmOne K (.ref (cX K "BadNumber")) (.ref (cX K "BadStem")) = some false
  rr : PySem.W.exmOne K (.ref (cX K "BadNumber")) (.ref (cX K "BadNumber")) = some true
  xs : XfC K (cX K "BadStem")
  xr : XfC K (cX K "BadNumber")
  ns : PySem.W.findIn K (.ref (cX K "BadStem")) "part" = some none
  nr : PySem.W.findIn K (.ref (cX K "BadNumber")) "part" = some none
  ms : mg "BadStem" = some (.ref (cX K "BadStem"))
  mr : mg "BadNumber" = some (.ref (cX K "BadNumber"))
theorem sc_heard : FnScope ["_law_ask", "error"] ["_law_ask"] (defScope (topS 48)) := ⟨rfl, rfl, rfl, by decide +kernel, rfl, by decide +kernel, by decide +kernel⟩
theorem heard_gives {X : Cx} {g : Addr} {cdg : Value} {q : Str} (E : GE X.K X.mg) : LamX.GivesTo X ["_law_ask", "error"] "_law_heard" (defScope (topS 48)) g cdg (defBody (topS 48)) "_law_ask" q (TTH X.K) := by
  intro f c' s H Q tl act hc h
  have nd := sc_heard.nd
  refine ⟨_, pss_cons (ps_try_manyA (X := (cxOf C8.CX0 X.prog X.w X.K X.mg X.base ["_law_ask", "error"] "_law_heard" (defScope (topS 48)) g cdg X.A X.stack s H C8.E0).nox)
      (l := [(.ref (cX X.K "BadStem"), 1, fun a cls d => _), (.ref (cX X.K "BadNumber"), 1, fun a cls d => _)])
      (tb := fun W D σ H => ∃ Ech : XK, (∀ cls d σ' H', Ech cls d H' → σ'.length = 2 → W cls d σ' H') ∧ σ[0]? = some (some (.ref f)) ∧ H c' = some (LamX.CodeO c' q) ∧ tl Ech H (fun v H1 => D.nx σ H1))
      rfl rfl nd LamX.takes0 (fun W pn xe tk _ => ?body) (.cons ⟨rfl, rfl, .inl E.ms⟩ rfl rfl (fun a oe cls d pn hz hf => pss_one (ps_ret (pe_tup (pa_cons pe_str (pa_cons (pe_xf E.xs E.ns hz hf (pv 1)) pa_nil)))))
        (.cons ⟨rfl, rfl, .inl E.mr⟩ rfl rfl (fun a oe cls d pn hz hf => pss_one (ps_ret (pe_tup (pa_cons pe_str (pa_cons (pe_xf E.xr E.nr hz hf (pv 1)) pa_nil))))) .nil))) (pss_one (ps_ret pe_non)), ?_⟩
  · refine ⟨fun pins s' σ H' D I h' => ?_⟩
    obtain ⟨Ech, hW, h1, h2, h3⟩ := h'
    exact (pss_one (ps_expr (act (fun c d σ H => σ.length = 2 → W c d σ H) pn xe Ech _ _ (takesLen tk) (fun cls d σ' H' e l => hW cls d σ' H' e l)))).run pins s' σ H' D I ⟨h1, h2, h3⟩
  · refine ⟨HErr X.K Q, fun cls d σ' H' he hl => ?_, rfl, hc, h _ fun v H1 hh => hh⟩
    match σ', hl with
    | [x0, x1], _ =>
      have h2 : 2 ≤ sizeLine := by decide
      rcases he with ⟨rfl, dd, v, rfl, e1, e2⟩ | ⟨rfl, dd, v, rfl, e1, e2⟩
      · refine ⟨true, E.ss, fun _ a na => ?_, fun z => Bool.noConfusion z⟩
        exact ⟨_, rfl, rfl, rfl, dd, _, v, rfl, e1, rfl, h2, fun p hp => e2 p hp⟩
      · refine ⟨false, E.rs, fun z => Bool.noConfusion z, fun _ => ⟨true, E.rr, fun _ a na => ?_, fun z => Bool.noConfusion z⟩⟩
        exact ⟨_, rfl, rfl, rfl, dd, _, v, rfl, e1, rfl, h2, fun p hp => e2 p hp⟩
/-- what stands at _law_heard -/
structure GHd (K : PySem.W.Frag) (mg : Str → Option Value) : Prop where
  ex : ∃ (g : Addr) (oc : Value) (od : Option Addr) (dV kV doc pm : Value) (an : Option Addr) (cdv ct : Value) (osl : Array (Option Value)), mg "_law_heard" = some (.ref g) ∧ PySem.W.keepIn K (.ref g) = true ∧
    K.lookup g = some ⟨oc, od, .func (PySem.W.fnOf "_law_heard" "_law_heard" (defArgs (topS 48)) (defBody (topS 48)) (defScope (topS 48)) dV kV doc pm an cdv ct), osl⟩ ∧ PySem.W.codeIn K cdv "_law_heard" = true ∧
    Binds K (PySem.W.fnOf "_law_heard" "_law_heard" (defArgs (topS 48)) (defBody (topS 48)) (defScope (topS 48)) dV kV doc pm an cdv ct) ["_law_ask"] []
theorem GHd.of (F : FP K "_law_heard" "_law_heard" (topS 48) [] f fd) (hm : mg "_law_heard" = some (.ref f)) : GHd K mg := by
  have b := FunD.bindsN (ps := ["_law_ask"]) F fun _ _ _ _ _ _ us hl => match us, hl with | [_], _ => rfl
  obtain ⟨oc, od, dV, kV, doc, pm, an, cdv, ct, osl, rfl, lk, hcd, _, _⟩ := F.ex
  exact ⟨f, oc, od, dV, kV, doc, pm, an, cdv, ct, osl, hm, F.kp, lk, hcd, b⟩
theorem pe_heard {X : Cx} {T : List (Addr × Str)} {c P : Addr} {k : Nat} {params : Arguments} {body : Expr} {scope : Scope} {t : XK → TE} {p lpos pos : Pos} (G : GHd X.K X.mg) (E : GE X.K X.mg) (hg : Gl X "_law_heard")
    (TB : LamX.TabB X.base X.mg c P) (hcode : X.env.code = .ref c) (hmT : (P, X.env.qual ++ "<lambda>") ∈ T) (hu : ∀ p ∈ T, p.1 = P → p.2 = X.env.qual ++ "<lambda>") (hr : Room (k + 2) X.A) (L : LamX.LamS X.env.scope scope) (hdef : defaultsOf params X.env = ([], []))
    (hbind : ∀ (q : Str) (cl : List (Str × Addr)) (pm cv ctv : Value), bindArgs (PySem.W.kla_fn "<lambda>" q params body scope cl pm cv ctv) ⟨[], []⟩ = pure [])
    (hbody : ∀ (A : Around) (outer : List Env) (s : Shared) (H : Hp) (E : XK) (f c' : Addr), Room k (A.deeper (LamX.lamEnv X scope s.heap.objs.size f c')) → PE (LamX.lamCx X A outer s H E scope f c') body (t E)) :
    PE X (.Call (.Name "_law_heard" p) [.Lambda params body scope lpos] [] pos) (LamX.tLam T (TTH X.K) t) := by
  obtain ⟨g, oc, od, dV, kV, doc, pm, an, cdv, ct, osl, hm, hk, lk, hcd, hb⟩ := G.ex
  exact LamX.pe_lamcall (Ng := ["_law_ask", "error"]) hg hm hk lk hcd hb sc_heard rfl (Or.inl rfl) (heard_gives E) TB hcode hmT hu hr L hdef hbind hbody
end
/-- as FunD.ok, the code object named -/
theorem okC {P : Program} {w : World} {K : PySem.W.Frag} {mg : Str → Option Value} {base : Heap} {x qual : Str} {params : Arguments} {body : List Stmt} {scope : Scope} {dvs : List V} {kws : List (Str × V)} {f c : Addr} {fd : FuncData} {CX : CXT} {N ps : List Str} {k : Nat} {sp : Sp}
    (F : FunD K x qual params body scope dvs kws f fd) (hc : fd.code = .ref c) (S : FnScope N ps scope) (len : ∀ vs H Q E, sp vs H Q E → vs.length = ps.length)
    (hbody : ∀ (A : Around) (outer : List Env) (s : Shared) (H : Hp) (vs : List V) (Q : VK) (E : XK), Room k (A.deeper (envOfC qual scope s.heap.objs.size f (.ref c))) → sp vs H Q E →
      ∃ t, PSs (cxOf CX P w K mg base N qual scope f (.ref c) A outer s H E) body t ∧ t { nx := fun _ H' => Q .non H', rt := Q } (L2.start N vs) H) : FnOk P w K mg base CX (k + 1) f fd ps sp := by
  obtain ⟨oc, od, dV, kV, doc, pm, an, cdv, ct, osl, rfl, lk, hcd, _, _⟩ := F.ex
  have e : cdv = .ref c := hc
  subst e
  exact fn_of lk hcd S len fun A outer s H vs Q E hr hsp => hbody A outer s H vs Q E hr hsp
end Sp
end
section
set_option Elab.async false
set_option linter.all false
set_option exponentiation.threshold 5000
set_option maxRecDepth 100000
set_option maxHeartbeats 0
local macro_rules | `(tactic| walk_at "leaf") => `(tactic| first | rfl | assumption | exact True.intro | exact L2.upd_same | exact L2.ClsV.ty _ | exact L2.ClsV.own _ | decide | exact of_decide_eq_true rfl | exact L2.SqL.of (by assumption) | exact L2.SqL.of L2.upd_same | exact Or.inl (L2.SqL.of L2.upd_same) | exact Or.inl (L2.SqL.of (by assumption)) | exact L2.SqT.of (by assumption) | exact L2.SqT.of L2.upd_same | exact Sp.cmL (by decide) | exact Sp.cmR (by decide) | exact ⟨by decide, by decide, by decide⟩ | exact ⟨by decide, by decide⟩ | exact Or.inr (L2.SqT.of (by assumption)) | exact Or.inl ⟨rfl, _, L2.SqL.of (by assumption)⟩ | exact Or.inl ⟨rfl, _, L2.SqL.of L2.upd_same⟩ | omega | fail)
local macro_rules | `(tactic| walk_at "rd1") => `(tactic| first
  | refine Sp.rbR (by assumption) (by assumption) (by assumption) (by assumption) ?_
  | apply Sp.exI
  | (refine And.intro ?lf ?_; (case lf => walk_at "leaf"))
  | fail)
local macro_rules | `(tactic| walk_at "rd") => `(tactic| repeat (walk_at "rd1"))
local macro_rules | `(tactic| walk_at "fR") => `(tactic| (have := (‹Sp.G0 _ _›).R.cl; have := (‹Sp.G0 _ _›).R.no "top" (by simp); have := (‹Sp.G0 _ _›).R.no "bottom" (by simp)))
local macro_rules | `(tactic| walk_at "fT") => `(tactic| (have := (‹Sp.G0 _ _›).T.cl; have := (‹Sp.G0 _ _›).T.no "turn" (by simp); have := (‹Sp.G0 _ _›).T.no "squared" (by simp); have := (‹Sp.G0 _ _›).T.no "rise" (by simp)))
namespace Sp
open PySem PySem.Spec PyProof.Rows L2
section
variable {P : Program} {w : World} {K : PySem.W.Frag} {mg : Str → Option Value} {base : Heap} {f : Addr} {fd : FuncData}
variable (g_is_integer : GD P w K mg base (L2.CX P w) 1 "is_integer" ["value"] [] (spIsInt K)) (g_sign_of : GD P w K mg base (L2.CX P w) 1 "sign_of" ["number"] [] spSign)
  (g_is_ratio : GD P w K mg base (L2.CX P w) 2 "is_ratio" ["value"] [] (spIsRat K)) (g_at_right : GD P w K mg base (L2.CX P w) 6 "at_right" ["value"] [] (spOf K))
  (g_xBadRatio : GX P w K mg base 1 "BadRatio" "part" (cX K "BadRatio")) (g_xBadNumber : GX P w K mg base 1 "BadNumber" "part" (cX K "BadNumber")) (g_xBadStem : GX P w K mg base 1 "BadStem" "part" (cX K "BadStem"))
  (g_mRatio : GM P w K mg base (L2.CX P w) 3 "Ratio" (cR K) ["self", "top", "bottom"] [] (spInitR K)) (g_mRatio1 : GM P w K mg base (L2.CX P w) 3 "Ratio" (cR K) ["self", "top", "bottom"] [.int 1] (spInitR K))
  (g_Ratio_of : GS P w K mg base (L2.CX P w) 5 (cR K) "of" (spOf K)) (g_R_compared : GH P w K mg base (L2.CX P w) 7 (cR K) "compared" ["self", "other"] (spCmp K))
variable (g_radd : GO P w K mg base (L2.CX P w) 7 (cR K) .Add (spBinR K (· + ·))) (g_rsub : GO P w K mg base (L2.CX P w) 7 (cR K) .Sub (spBinR K (· - ·))) (g_rmul : GO P w K mg base (L2.CX P w) 7 (cR K) .Mult (spBinR K (· * ·)))
  (g_req : GN P w K mg base (L2.CX P w) 2 (cR K) "__eq__" (spEqR K)) (g_R_sign : GP P w K mg base (L2.CX P w) 2 (cR K) "sign" (spSgn K)) (g_R_below : GP P w K mg base (L2.CX P w) 1 (cR K) "below" (spFlr K)) (g_R_is_below : GH P w K mg base (L2.CX P w) 8 (cR K) "is_below" ["self", "other"] (spBelow K))
variable (g_mStem : GM P w K mg base (L2.CX P w) 8 "Stem" (cT K) ["self", "turn", "squared"] [] (spInitT K)) (g_need_stem : GD P w K mg base (L2.CX P w) 3 "need_stem" ["value", "part"] [] (spNeedT K)) (g_need_integer : GD P w K mg base (L2.CX P w) 3 "need_integer" ["value", "part"] [] spNeedI)
  (g_is_within : GD P w K mg base (L2.CX P w) 2 "is_within" ["value", "least", "most"] [] (spInW K)) (g_need_within : GD P w K mg base (L2.CX P w) 3 "need_within" ["value", "least", "most", "part"] [] (spNeedW K))
  (g_place : GD P w K mg base (L2.CX P w) 8 "place" ["stem", "stud"] [] (spPlace K)) (g_nearest_rounds : GD P w K mg base (L2.CX P w) 9 "nearest_rounds" ["stem", "stud"] [] (spNRs K))
  (g_is_between : GD P w K mg base (L2.CX P w) 9 "is_between" ["least", "ratio"] [] (spBetw K)) (g_first_within : GD P w K mg base (L2.CX P w) 10 "first_within" ["stem", "low", "high", "most"] [] (spFW K))
variable (g_l_coin : GD P w K mg base (L2.CX P w) 1 "_law_coin" ["_law_purse_here", "_law_many"] [] spDip) (g_l_purse : GD P w K mg base (L2.CX P w) 1 "_law_purse" ["_law_script"] [] (spPail K)) (g_l_of : GD P w K mg base (L2.CX P w) 2 "_law_of" ["_law_purse_here", "_law_some"] [] spOfL)
  (g_l_stem : GD P w K mg base (L2.CX P w) 3 "_law_stem" ["_law_purse_here"] [] spStemL) (g_l_divisor : GD P w K mg base (L2.CX P w) 1 "_law_divisor" ["_law_one", "_law_other"] [] spDiv) (g_l_first : GD P w K mg base (L2.CX P w) 1 "_law_first" ["_law_p", "_law_q", "_law_low", "_law_high", "_law_under", "_law_most"] [] spFirstL)
  (g_l_stretch : GD P w K mg base (L2.CX P w) 3 "_law_stretch" ["_law_purse_here", "_law_p", "_law_q"] [] spStretch) (g_l_pair_right : GD P w K mg base (L2.CX P w) 11 "_law_pair_right" ["_law_purse_here", "_law_plain", "_law_stem_here"] [] (spAsk K))
  (g_l_within_right : GD P w K mg base (L2.CX P w) 11 "_law_within_right" ["_law_purse_here", "_law_plain", "_law_stem_here"] [] (spAsk K)) (g_l_pushed_right : GD P w K mg base (L2.CX P w) 11 "_law_pushed_right" ["_law_purse_here", "_law_plain", "_law_stem_here"] [] (spAsk K))
  (g_rne : GNe P w K mg base (L2.CX P w) 2 (cR K) (spEqR K)) (g_first_within_k : GDK P w K mg base (L2.CX P w) 10 "first_within" ["stem", "low", "high", "most"] 4 [0, 1, 2, 3] (spFW K)) (g_first_within_m : GDM P w K mg base (L2.CX P w) 10 "first_within" ["high", "most"] 2 2 (spFW K))

/-- what the lambdas ask, as it stands -/
structure Rg (K : PySem.W.Frag) (T : List (Addr × Str)) (H : Hp) (st pl : Addr) (vo vb vn vl : V) (D F q : Rat) : Prop where
  tb : LamX.Tabs T H
  it : IsT K H st D F
  odd : NT K H vo
  bad : NL K H vb 0
  non : NM K H vn
  low : IsR K H pl q
  less : NL K H vl q
section
variable {T : List (Addr × Str)} {H H' : Hp} {st pl : Addr} {vo vb vn vl : V} {D F q : Rat}
theorem Rg.extN (h : Rg K T H st pl vo vb vn vl D F q) (e : LamX.ExtN H H') (t : LamX.Tabs T H') : Rg K T H' st pl vo vb vn vl D F q := ⟨t, exT h.it e, h.odd.extN e, h.bad.extN e, h.non.extN e, exR h.low e, h.less.extN e⟩
theorem Rg.ext (h : Rg K T H st pl vo vb vn vl D F q) (e : Same H H') : Rg K T H' st pl vo vb vn vl D F q := h.extN (LamX.ExtN.of e) (h.tb.ext e)
theorem Rg.mv {L : Addr} {xs ys : List V} (h : Rg K T H st pl vo vb vn vl D F q) (e : Sb L H H') (h1 : H L = some (.lst xs)) (h2 : H' L = some (.lst ys)) : Rg K T H' st pl vo vb vn vl D F q := ⟨tabsMv h.tb e h1, h.it.mv e h1, h.odd.mv e h1 h2, h.bad.mv e h1 h2, h.non.mv e h1 h2, h.low.mv e h1, h.less.mv e h1 h2⟩
end
abbrev qRf : Str := (("_law_refused_right" : Str) ++ ".<locals>.") ++ "<lambda>"
def spRefR (K : PySem.W.Frag) (T : List (Addr × Str)) : Sp := fun vs H Q _ => ∃ (a c st : Addr) (N : Nat) (D F : Rat), vs = [.ref a, .ref st] ∧ Pail H a c N ∧ N ≤ 800000 ∧ ST K H st D F ∧ LamX.Tabs T H ∧ ∀ H', Pail H' a c (N + 20) → LamX.Tabs T H' → Q (.bl true) H'
theorem shR : SeqAt.shaped (.list [.tuple [.str "stem", .str "stem"], .tuple [.str "number", .str "low"], .tuple [.str "number", .str "high"], .tuple [.str "number", .str "most"], .none]) = true := by decide +kernel
theorem sc_refR : FnScope ["_law_purse_here", "_law_stem_here", "_law_heard_here", "_law_bad", "_law_less", "_law_low", "_law_none", "_law_odd"] ["_law_purse_here", "_law_stem_here"] (defScope (topS 49)) := ⟨rfl, rfl, rfl, by decide +kernel, rfl, by decide +kernel, by decide +kernel⟩
include g_first_within g_l_coin g_l_of g_mRatio g_mRatio1 g_rsub in
theorem ok_refR {c Pt : Addr} {T : List (Addr × Str)} (G : G0 K mg) (gEr : GE K mg) (gHd : GHd K mg) (hTB : LamX.TabB base mg c Pt) (hmT : (Pt, qRf) ∈ T) (huT : ∀ p ∈ T, p.1 = Pt → p.2 = qRf) (hfc : fd.code = .ref c)
    (F : FP K "_law_refused_right" "_law_refused_right" (topS 49) [] f fd) : FnOk P w K mg base (L2.CX P w) 14 f fd ["_law_purse_here", "_law_stem_here"] (spRefR K T) := by
  have nd := sc_refR.nd
  refine okC F hfc sc_refR (fun vs H Q E h => by obtain ⟨_, _, _, _, _, _, rfl, _⟩ := h; rfl) (fun A outer s H vs Q E hr h => ⟨_, pss_cons (ps_asg (pe_tup (pa_cons (pe_gd g_l_of (hr.mono (by decide)) rfl (pxE rfl rfl rfl rfl) (pa_cons (pv 0) (pa_cons (pe_lst (pa_cons (pe_non) (pa_cons (pe_str) (pa_cons (pe_int) (pa_cons (pe_tup (pa_cons (pe_int) (pa_cons (pe_int) (pa_nil)))) (pa_cons (pe_fld (pv 1) rfl) (pa_nil))))))) (pa_nil)))) (pa_cons (pe_gd g_l_of (hr.mono (by decide)) rfl (pxE rfl rfl rfl rfl) (pa_cons (pv 0) (pa_cons (pe_lst (pa_cons (pe_non) (pa_cons (pe_bl) (pa_cons (pe_str) (pa_cons (pe_un un_neg (pe_int)) (pa_cons (pe_int) (pa_cons (pe_gm g_mRatio (hr.mono (by decide)) rfl (pxE rfl rfl rfl rfl) (pa_cons (pe_un un_neg (pe_int)) (pa_cons (pe_int) (pa_nil)))) (pa_cons (pe_gm g_mRatio (hr.mono (by decide)) rfl (pxE rfl rfl rfl rfl) (pa_cons (pe_int) (pa_cons (pe_int) (pa_nil)))) (pa_cons (pe_lst (pa_cons (pe_int) (pa_nil))) (pa_nil)))))))))) (pa_nil)))) (pa_nil)))) (pg_tup rfl (pgs_cons (pg_name (i := 7) nd rfl (Or.inr rfl)) (pgs_cons (pg_name (i := 3) nd rfl (Or.inr rfl)) (pgs_nil))))) (pss_cons (ps_asg (pe_tup (pa_cons (pe_gd g_l_of (hr.mono (by decide)) rfl (pxE rfl rfl rfl rfl) (pa_cons (pv 0) (pa_cons (pe_lst (pa_cons (pe_int) (pa_cons (pe_un un_neg (pe_int)) (pa_cons (pe_int) (pa_cons (pe_bl) (pa_cons (pe_non) (pa_cons (pe_str) (pa_cons (pe_gm g_mRatio1 (hr.mono (by decide)) rfl (pxE rfl rfl rfl rfl) (pa_cons (pe_int) (pa_nil))) (pa_cons (pe_lst (pa_cons (pe_int) (pa_nil))) (pa_nil)))))))))) (pa_nil)))) (pa_cons (pe_gm g_mRatio (hr.mono (by decide)) rfl (pxE rfl rfl rfl rfl) (pa_cons (pe_op op_add (pe_int) (pe_gd g_l_coin (hr.mono (by decide)) rfl (pxE rfl rfl rfl rfl) (pa_cons (pv 0) (pa_cons (pe_int) (pa_nil))))) (pa_cons (pe_int) (pa_nil)))) (pa_nil)))) (pg_tup rfl (pgs_cons (pg_name (i := 6) nd rfl (Or.inr rfl)) (pgs_cons (pg_name (i := 5) nd rfl (Or.inr rfl)) (pgs_nil))))) (pss_cons (ps_set (i := 4) nd rfl (Or.inr rfl) (pe_gd g_l_of (hr.mono (by decide)) rfl (pxE rfl rfl rfl rfl) (pa_cons (pv 0) (pa_cons (pe_lst (pa_cons (pe_op (op_go g_rsub (hr.mono (by decide)) (pxE rfl rfl rfl rfl)) (pv 5) (pe_gm g_mRatio (hr.mono (by decide)) rfl (pxE rfl rfl rfl rfl) (pa_cons (pe_int) (pa_cons (pe_int) (pa_nil))))) (pa_cons (pe_int) (pa_cons (pe_int) (pa_cons (pe_non) (pa_cons (pe_bl) (pa_cons (pe_gm g_mRatio (hr.mono (by decide)) rfl (pxE rfl rfl rfl rfl) (pa_cons (pe_int) (pa_cons (pe_int) (pa_nil)))) (pa_cons (pe_str) (pa_nil))))))))) (pa_nil))))) (pss_cons (ps_set (i := 2) nd rfl (Or.inl rfl) (pe_lst (pa_cons (pe_heard (k := 11) gHd gEr rfl hTB rfl hmT huT (hr.mono (by decide)) (LamX.lamS_by (sc := defScope (topS 49)) (by decide +kernel)) rfl (fun _ _ _ _ _ => rfl) (fun _ _ _ _ _ _ _ hr => pe_gd g_first_within (hr.mono (by decide)) rfl (pxE rfl rfl rfl rfl) (pa_cons (pv 7) (pa_cons (pv 3) (pa_cons (pv 3) (pa_cons (pv 6) (pa_nil))))))) (pa_nil)))) (pss_cons (ps_expr (pe_bm PySem.F.plainAttrs_list PySem.F.slot_list_append PySem.F.type_list_append mt_append (pv 2) (pa_cons (pe_heard (k := 11) gHd gEr rfl hTB rfl hmT huT (hr.mono (by decide)) (LamX.lamS_by (sc := defScope (topS 49)) (by decide +kernel)) rfl (fun _ _ _ _ _ => rfl) (fun _ _ _ _ _ _ _ hr => pe_gd g_first_within (hr.mono (by decide)) rfl (pxE rfl rfl rfl rfl) (pa_cons (pv 1) (pa_cons (pv 3) (pa_cons (pv 3) (pa_cons (pv 6) (pa_nil))))))) (pa_nil)))) (pss_cons (ps_expr (pe_bm PySem.F.plainAttrs_list PySem.F.slot_list_append PySem.F.type_list_append mt_append (pv 2) (pa_cons (pe_heard (k := 11) gHd gEr rfl hTB rfl hmT huT (hr.mono (by decide)) (LamX.lamS_by (sc := defScope (topS 49)) (by decide +kernel)) rfl (fun _ _ _ _ _ => rfl) (fun _ _ _ _ _ _ _ hr => pe_gd g_first_within (hr.mono (by decide)) rfl (pxE rfl rfl rfl rfl) (pa_cons (pv 1) (pa_cons (pv 5) (pa_cons (pv 4) (pa_cons (pv 6) (pa_nil))))))) (pa_nil)))) (pss_cons (ps_expr (pe_bm PySem.F.plainAttrs_list PySem.F.slot_list_append PySem.F.type_list_append mt_append (pv 2) (pa_cons (pe_heard (k := 11) gHd gEr rfl hTB rfl hmT huT (hr.mono (by decide)) (LamX.lamS_by (sc := defScope (topS 49)) (by decide +kernel)) rfl (fun _ _ _ _ _ => rfl) (fun _ _ _ _ _ _ _ hr => pe_gd g_first_within (hr.mono (by decide)) rfl (pxE rfl rfl rfl rfl) (pa_cons (pv 1) (pa_cons (pv 5) (pa_cons (pv 5) (pa_cons (pv 6) (pa_nil))))))) (pa_nil)))) (pss_cons (ps_expr (pe_bm PySem.F.plainAttrs_list PySem.F.slot_list_append PySem.F.type_list_append mt_append (pv 2) (pa_cons (pe_heard (k := 11) gHd gEr rfl hTB rfl hmT huT (hr.mono (by decide)) (LamX.lamS_by (sc := defScope (topS 49)) (by decide +kernel)) rfl (fun _ _ _ _ _ => rfl) (fun _ _ _ _ _ _ _ hr => pe_gd g_first_within (hr.mono (by decide)) rfl (pxE rfl rfl rfl rfl) (pa_cons (pv 1) (pa_cons (pe_int) (pa_cons (pe_gm g_mRatio (hr.mono (by decide)) rfl (pxE rfl rfl rfl rfl) (pa_cons (pe_int) (pa_cons (pe_int) (pa_nil)))) (pa_cons (pe_int) (pa_nil))))))) (pa_nil)))) (pss_one (ps_ret (pe_cmpR (op_eqD hr.units) (pv 2) (pe_lst (pa_cons (pe_tup (pa_cons (pe_str) (pa_cons (pe_str) (pa_nil)))) (pa_cons (pe_tup (pa_cons (pe_str) (pa_cons (pe_str) (pa_nil)))) (pa_cons (pe_tup (pa_cons (pe_str) (pa_cons (pe_str) (pa_nil)))) (pa_cons (pe_tup (pa_cons (pe_str) (pa_cons (pe_str) (pa_nil)))) (pa_cons (pe_non) (pa_nil))))))) (nomark _))))))))))), ?_⟩)
  obtain ⟨a, c', st, N, D, F0, rfl, hp, hN, ist, hT, k⟩ := h
  have hN0 : N ≤ 1000000 := by omega
  obtain ⟨it, zD, zF⟩ := id ist
  obtain ⟨dx, pa, pb, pc, hst, ira, _⟩ := id it
  walk_at "rd"
  intro y hy
  have s1 := Same.new (o := .tup [.int 1, .int 2]) hy
  have hst1 := s1 _ _ hst
  walk_at "fT"
  walk_at "rd"
  intro L1 hL1
  have s2 := Same.new (o := .lst [.non, .str "1/2 1", .int 3, .ref y, .ref pa]) hL1
  have s12 := s1.trans s2
  have p2 := hp.ext s12
  have nL1 := (hp.ext s1).ne hL1
  have hL1' : upd (upd H y (.tup [.int 1, .int 2])) L1 (.lst [.non, .str "1/2 1", .int 3, .ref y, .ref pa]) L1 = some (.lst [.non, .str "1/2 1", .int 3, .ref y, .ref pa]) := upd_same
  have hy2 := s2 y (.tup [.int 1, .int 2]) upd_same
  walk_at "rd"
  intro d1 vo H3 d10 d11 hv1 p3 sb3
  obtain ⟨_, hA2⟩ := p2.lst
  obtain ⟨_, hA3⟩ := p3.lst
  have ist3 : ST K H3 st D F0 := ⟨(it.ext s12).mv sb3 hA2, zD, zF⟩
  have tb3 := tabsMv (hT.ext s12) sb3 hA2
  have ovo : NT K H3 vo := by
    have d11' : d1 < 5 := d11
    rcases (show d1 = 0 ∨ d1 = 1 ∨ d1 = 2 ∨ d1 = 3 ∨ d1 = 4 by omega) with rfl | rfl | rfl | rfl | rfl <;> cases hv1
    · exact .inl (.inl rfl)
    · exact .inl (.inr (.inr (.inl ⟨_, rfl⟩)))
    · exact .inr ⟨_, RV.int K H3 3⟩
    · exact .inl (.inr (.inr (.inr (.inl ⟨_, _, rfl, tupMv hy2 sb3 hA2⟩))))
    · exact .inr ⟨_, RV.mk ((ira.ext s12).mv sb3 hA2)⟩
  clear hst hst1 ira hp hT it ist hy2 hL1' p2 hA2 hv1
  have hN1 : N + 1 ≤ 1000000 := by omega
  walk_at "rd"
  apply makeR2 (show (9 : Int) ≠ 0 by decide) (nb_le (show (-1 : Int).natAbs < 2 ^ 2 by decide)) (nb_le (show (9 : Int).natAbs < 2 ^ 4 by decide))
  intro r1 H4 s4 _ ir1
  walk_at "rd"
  apply makeR2 (show (8 : Int) ≠ 0 by decide) (nb_le (show (9 : Int).natAbs < 2 ^ 4 by decide)) (nb_le (show (8 : Int).natAbs < 2 ^ 4 by decide))
  intro r2 H5 s5 _ ir2
  have ir1 := ir1.ext s5
  walk_at "rd"
  intro l0 hl0
  have s6 := Same.new (o := .lst [.int 0]) hl0
  have hl0' : upd H5 l0 (.lst [.int 0]) l0 = some (.lst [.int 0]) := upd_same
  walk_at "rd"
  intro L2 hL2
  have s7 := Same.new (o := .lst [.non, .bl true, .str "0", .int (-1), .int 1, .ref r1, .ref r2, .ref l0]) hL2
  have s37 := ((s4.trans s5).trans s6).trans s7
  have nL2 := (p3.ext ((s4.trans s5).trans s6)).ne hL2
  have p7 := p3.ext s37
  have hL2' : upd (upd H5 l0 (.lst [.int 0])) L2 (.lst [.non, .bl true, .str "0", .int (-1), .int 1, .ref r1, .ref r2, .ref l0]) L2 = some (.lst [.non, .bl true, .str "0", .int (-1), .int 1, .ref r1, .ref r2, .ref l0]) := upd_same
  have ir1 := (ir1.ext s6).ext s7
  have ir2 := (ir2.ext s6).ext s7
  have hl0' := s7 _ _ hl0'
  walk_at "rd"
  intro d2 vb H8 d20 d21 hv2 p8 sb8
  obtain ⟨_, hA7⟩ := p7.lst
  obtain ⟨_, hA8⟩ := p8.lst
  have ist8 : ST K H8 st D F0 := ⟨(ist3.1.ext s37).mv sb8 hA7, zD, zF⟩
  have tb8 := tabsMv (tb3.ext s37) sb8 hA7
  have ovo8 := (ovo.extN (LamX.ExtN.of s37)).mv sb8 hA7 hA8
  have zq : ∀ {t b : Int}, b ≠ 0 → t.natAbs < 2 ^ 12 → b.natAbs < 2 ^ 12 → Sz (Rat.divInt t b) 1900 := fun h1 h2 h3 => (sz_divInt (n := 12) h1 h2 h3).mono
  have zi : ∀ i : Int, i.natAbs < 2 ^ 12 → Sz (i : Rat) 1900 := fun i h => (sz_int (n := 12) h).mono
  have obad : NL K H8 vb 0 := by
    have d21' : d2 < 8 := d21
    rcases (show d2 = 0 ∨ d2 = 1 ∨ d2 = 2 ∨ d2 = 3 ∨ d2 = 4 ∨ d2 = 5 ∨ d2 = 6 ∨ d2 = 7 by omega) with rfl | rfl | rfl | rfl | rfl | rfl | rfl | rfl <;> cases hv2
    · exact .inl (.inl rfl)
    · exact .inl (.inr (.inl ⟨_, rfl⟩))
    · exact .inl (.inr (.inr (.inl ⟨_, rfl⟩)))
    · exact .inr ⟨_, RV.int K H8 (-1), zi _ (by decide), by decide⟩
    · exact .inr ⟨_, RV.int K H8 1, zi _ (by decide), by decide⟩
    · exact .inr ⟨_, RV.mk (ir1.mv sb8 hA7), zq (by decide) (by decide) (by decide), by decide⟩
    · exact .inr ⟨_, RV.mk (ir2.mv sb8 hA7), zq (by decide) (by decide) (by decide), by decide⟩
    · exact (NL.mv (ys := _) (ql := 0) (.inl (.inr (.inr (.inr (.inr ⟨_, _, rfl, hl0'⟩))))) sb8 hA7 hA8)
  clear hl0' ir1 ir2 hL2' p7 hA7 hv2 tb3 ist3 ovo p3 hA3
  walk_at "rd"
  intro t1 ht1
  have s9 := Same.new (o := .tup [vo, vb]) ht1
  walk_at "rd"
  apply makeR12 (show (1 : Int).natAbs < 2 ^ 3900 from nb_le (show (1 : Int).natAbs < 2 ^ 2 by decide))
  intro r3 H10 s10 _ ir3
  walk_at "rd"
  intro l5 hl5
  have s11 := Same.new (o := .lst [.int 5]) hl5
  have hl5' : upd H10 l5 (.lst [.int 5]) l5 = some (.lst [.int 5]) := upd_same
  walk_at "rd"
  intro L3 hL3
  have s12' := Same.new (o := .lst [.int 0, .int (-1), .int 1001, .bl true, .non, .str "1", .ref r3, .ref l5]) hL3
  have s812 := ((s9.trans s10).trans s11).trans s12'
  have nL3 := (p8.ext ((s9.trans s10).trans s11)).ne hL3
  have p12 := p8.ext s812
  have hL3' : upd (upd H10 l5 (.lst [.int 5])) L3 (.lst [.int 0, .int (-1), .int 1001, .bl true, .non, .str "1", .ref r3, .ref l5]) L3 = some (.lst [.int 0, .int (-1), .int 1001, .bl true, .non, .str "1", .ref r3, .ref l5]) := upd_same
  have ir3 := (ir3.ext s11).ext s12'
  have hl5' := s12' _ _ hl5'
  have hN2 : N + 1 + 1 ≤ 1000000 := by omega
  walk_at "rd"
  intro d3 vn H13 d30 d31 hv3 p13 sb13
  obtain ⟨_, hA12⟩ := p12.lst
  obtain ⟨_, hA13⟩ := p13.lst
  have ist13 : ST K H13 st D F0 := ⟨(ist8.1.ext s812).mv sb13 hA12, zD, zF⟩
  have tb13 := tabsMv (tb8.ext s812) sb13 hA12
  have ovo13 := (ovo8.extN (LamX.ExtN.of s812)).mv sb13 hA12 hA13
  have obad13 := (obad.extN (LamX.ExtN.of s812)).mv sb13 hA12 hA13
  have onon : NM K H13 vn := by
    have d31' : d3 < 8 := d31
    rcases (show d3 = 0 ∨ d3 = 1 ∨ d3 = 2 ∨ d3 = 3 ∨ d3 = 4 ∨ d3 = 5 ∨ d3 = 6 ∨ d3 = 7 by omega) with rfl | rfl | rfl | rfl | rfl | rfl | rfl | rfl <;> cases hv3
    · exact .inr (.inr ⟨_, rfl, by decide⟩)
    · exact .inr (.inr ⟨_, rfl, by decide⟩)
    · exact .inr (.inr ⟨_, rfl, by decide⟩)
    · exact .inl (.inr (.inl ⟨_, rfl⟩))
    · exact .inl (.inl rfl)
    · exact .inl (.inr (.inr (.inl ⟨_, rfl⟩)))
    · exact .inr (.inl ⟨_, _, rfl, ir3.mv sb13 hA12⟩)
    · exact NM.mv (ys := _) (.inl (.inr (.inr (.inr (.inr ⟨_, _, rfl, hl5'⟩))))) sb13 hA12 hA13
  clear hl5' ir3 hL3' p12 hA12 hv3 tb8 ist8 ovo8 obad p8 hA8
  have hN3 : N + 1 + 1 + 1 ≤ 1000000 := by omega
  walk_at "rd"
  intro e H14 e0 e1 p14 sb14
  obtain ⟨_, hA14⟩ := p14.lst
  have ist14 : ST K H14 st D F0 := ⟨ist13.1.mv sb14 hA13, zD, zF⟩
  have tb14 := tabsMv tb13 sb14 hA13
  have ovo14 := ovo13.mv sb14 hA13 hA14
  have obad14 := obad13.mv sb14 hA13 hA14
  have onon14 := onon.mv sb14 hA13 hA14
  clear tb13 ist13 ovo13 obad13 onon p13 hA13
  walk_at "rd"
  apply makeR2 (show (10 : Int) ≠ 0 by decide) (nb_le (show (1 + e).natAbs < 2 ^ 12 by omega)) (nb_le (show (10 : Int).natAbs < 2 ^ 12 by decide))
  intro pl H15 s15 _ irl
  walk_at "rd"
  intro t2 ht2
  have s16 := Same.new (o := .tup [vn, .ref pl]) ht2
  have s1416 := s15.trans s16
  have irl := irl.ext s16
  obtain ⟨q, hq⟩ : ∃ q, q = Rat.divInt (1 + e) 10 := ⟨_, rfl⟩
  have zq13 : Sz q 12 := hq ▸ sz_divInt (by decide) (by omega) (by decide)
  have zq1900 : Sz q 1900 := zq13.mono
  have q0 : 0 ≤ q ∧ q < 1 := hq ▸ divInt_lt_one (by decide) (by omega) (by omega)
  have q01 : 0 < q := by
    rw [hq, ← zero_div, di_lt_di (by decide) (by decide)]
    omega
  rw [← hq] at irl
  have ist16 := ist14.ext s1416
  have p16 := p14.ext s1416
  have tb16 := tb14.ext s1416
  have ovo16 := ovo14.extN (LamX.ExtN.of s1416)
  have obad16 := obad14.extN (LamX.ExtN.of s1416)
  have onon16 := onon14.extN (LamX.ExtN.of s1416)
  clear tb14 ist14 ovo14 obad14 onon14 p14 hA14
  walk_at "rd"
  apply makeR2 (show (90 : Int) ≠ 0 by decide) (nb_le (show (1 : Int).natAbs < 2 ^ 12 by decide)) (nb_le (show (90 : Int).natAbs < 2 ^ 12 by decide))
  intro r4 H17 s17 _ ir4
  have irl := irl.ext s17
  have v4 := RV.mk ir4
  have z4 : Sz (Rat.divInt 1 90) 1900 := zq (by decide) (by decide) (by decide)
  walk_at "rd"
  intro r5 H18 s18 ir5
  walk_at "rd"
  apply makeR2 (show (9 : Int) ≠ 0 by decide) (nb_le (show (10 : Int).natAbs < 2 ^ 12 by decide)) (nb_le (show (9 : Int).natAbs < 2 ^ 12 by decide))
  intro r6 H19 s19 _ ir6
  walk_at "rd"
  intro L4 hL4
  have s20 := Same.new (o := .lst [.ref r5, .int 0, .int 1, .non, .bl true, .ref r6, .str "1/2"]) hL4
  have s1620 := ((s17.trans s18).trans s19).trans s20
  have nL4 := (p16.ext ((s17.trans s18).trans s19)).ne hL4
  have p20 := p16.ext s1620
  have hL4' : upd H19 L4 (.lst [.ref r5, .int 0, .int 1, .non, .bl true, .ref r6, .str "1/2"]) L4 = some (.lst [.ref r5, .int 0, .int 1, .non, .bl true, .ref r6, .str "1/2"]) := upd_same
  have irl := ((irl.ext s18).ext s19).ext s20
  have ir5 := (ir5.ext s19).ext s20
  have ir6 := ir6.ext s20
  have hN4 : N + 1 + 1 + 1 + 1 ≤ 1000000 := by omega
  have h90 : (0 : Rat) < Rat.divInt 1 90 := by decide
  have z5 : Sz (q - Rat.divInt 1 90) 1900 := (sz_sub (m := 12) (n := 12) (k := 25) zq13 (sz_divInt (by decide) (by decide) (by decide))).mono
  walk_at "rd"
  intro d4 vl H21 d40 d41 hv4 p21 sb21
  obtain ⟨_, hA20⟩ := p20.lst
  obtain ⟨_, hA21⟩ := p21.lst
  have oless : NL K H21 vl q := by
    have d41' : d4 < 7 := d41
    rcases (show d4 = 0 ∨ d4 = 1 ∨ d4 = 2 ∨ d4 = 3 ∨ d4 = 4 ∨ d4 = 5 ∨ d4 = 6 by omega) with rfl | rfl | rfl | rfl | rfl | rfl | rfl <;> cases hv4
    · exact .inr ⟨_, RV.mk (ir5.mv sb21 hA20), z5, fun z => by have := z.1; grind⟩
    · exact .inr ⟨_, RV.int K H21 0, zi _ (by decide), fun z => by have h := z.1; rw [Rat.intCast_zero] at h; exact Rat.not_lt.mpr h q01⟩
    · exact .inr ⟨_, RV.int K H21 1, zi _ (by decide), fun z => by have h := z.2; rw [Rat.intCast_one] at h; exact absurd h (by decide)⟩
    · exact .inl (.inl rfl)
    · exact .inl (.inr (.inl ⟨_, rfl⟩))
    · exact .inr ⟨_, RV.mk (ir6.mv sb21 hA20), zq (by decide) (by decide) (by decide), fun z => absurd z.2 (by decide)⟩
    · exact .inl (.inr (.inr (.inl ⟨_, rfl⟩)))
  have rg0 : Rg K T H21 st pl vo vb vn vl D F0 q := ⟨tabsMv (tb16.ext s1620) sb21 hA20, (ist16.1.ext s1620).mv sb21 hA20, (ovo16.extN (LamX.ExtN.of s1620)).mv sb21 hA20 hA21, (obad16.extN (LamX.ExtN.of s1620)).mv sb21 hA20 hA21, (onon16.extN (LamX.ExtN.of s1620)).mv sb21 hA20 hA21, irl.mv sb21 hA20, oless⟩
  clear oless tb16 ist16 ovo16 obad16 onon16 irl ir5 ir6 hL4' p20 hA20 hv4 p16 hA21 ir4 v4
  walk_at "rd"
  refine ⟨rg0.tb, fun HL1 eN1 TL1 R1 hR1 => ?_⟩
  have rL1 := rg0.extN eN1 TL1
  have isL1 : ST K HL1 st D F0 := ⟨rL1.it, zD, zF⟩
  refine ⟨_, rfl, _, rfl, _, rfl, _, rfl, _, _, _, _, rfl, .inl ⟨rL1.odd, fun dd HE1 sE1 nd1 ed1 => .inl ⟨rfl, dd, _, rfl, ed1, fun t1 ht1 => ?_⟩⟩⟩
  have eE1 := eN1.trans (LamX.ExtN.of (sE1.trans (Same.new (o := (.tup [.str "stem", .str "stem"])) ht1)))
  have rf1 := (rL1.ext sE1).ext (Same.new (o := (.tup [.str "stem", .str "stem"])) ht1)
  have pf1 := pailN p21 eE1
  have tp1 : upd HE1 t1 (.tup [.str "stem", .str "stem"]) t1 = some (.tup [.str "stem", .str "stem"]) := upd_same
  walk_at "rd"
  intro LH hLH
  have sLH := Same.new (o := .lst [.ref t1]) hLH
  have rg1 := rf1.ext sLH
  have nLa := pf1.ne hLH
  have nLc := pf1.neC hLH
  have pg1 := pf1.ext sLH
  have tp1 := sLH _ _ tp1
  have lh1 : upd (upd HE1 t1 (.tup [.str "stem", .str "stem"])) LH (.lst [.ref t1]) LH = some (.lst [.ref t1]) := upd_same
  walk_at "rd"
  refine ⟨rg1.tb, fun HL2 eN2 TL2 R2 hR2 => ?_⟩
  have rL2 := rg1.extN eN2 TL2
  have isL2 : ST K HL2 st D F0 := ⟨rL2.it, zD, zF⟩
  refine ⟨_, rfl, _, rfl, _, rfl, _, rfl, _, _, _, _, rfl, .inr ⟨st, D, F0, rfl, isL2, .inl ⟨rL2.bad, fun dd HE2 sE2 nd2 ed2 => .inr ⟨rfl, dd, _, rfl, ed2, fun t2 ht2 => ?_⟩⟩⟩⟩
  have eE2 := eN2.trans (LamX.ExtN.of (sE2.trans (Same.new (o := (.tup [.str "number", .str "low"])) ht2)))
  have rf2 := (rL2.ext sE2).ext (Same.new (o := (.tup [.str "number", .str "low"])) ht2)
  have pf2 := pailN pg1 eE2
  have tp2 : upd HE2 t2 (.tup [.str "number", .str "low"]) t2 = some (.tup [.str "number", .str "low"]) := upd_same
  have tp1 := eE2 _ _ tp1 (fun _ z => by cases z)
  have lf2 := eE2 _ _ lh1 (fun _ z => by cases z)
  have ln2 : ([.ref t1] : List V).length < sizeLine := (show 1 < sizeLine by decide)
  walk_at "rd"
  have rg2 := rf2.mv (sbUpd (o := .lst [.ref t1, .ref t2])) lf2 upd_same
  have pg2 := pailMv pf2 (sbUpd (o := .lst [.ref t1, .ref t2])) nLa nLc
  have lh2 : upd (upd HE2 t2 (.tup [.str "number", .str "low"])) LH (.lst [.ref t1, .ref t2]) LH = some (.lst [.ref t1, .ref t2]) := upd_same
  have tp1 := tupMv tp1 (sbUpd (o := .lst [.ref t1, .ref t2])) lf2
  have tp2 := tupMv tp2 (sbUpd (o := .lst [.ref t1, .ref t2])) lf2
  walk_at "rd"
  refine ⟨rg2.tb, fun HL3 eN3 TL3 R3 hR3 => ?_⟩
  have rL3 := rg2.extN eN3 TL3
  have isL3 : ST K HL3 st D F0 := ⟨rL3.it, zD, zF⟩
  refine ⟨_, rfl, _, rfl, _, rfl, _, rfl, _, _, _, _, rfl, .inr ⟨st, D, F0, rfl, isL3, .inr ⟨q, RV.mk rL3.low, zq1900, q0.1, q0.2, .inl ⟨rL3.less, fun dd HE3 sE3 nd3 ed3 => .inr ⟨rfl, dd, _, rfl, ed3, fun t3 ht3 => ?_⟩⟩⟩⟩⟩
  have eE3 := eN3.trans (LamX.ExtN.of (sE3.trans (Same.new (o := (.tup [.str "number", .str "high"])) ht3)))
  have rf3 := (rL3.ext sE3).ext (Same.new (o := (.tup [.str "number", .str "high"])) ht3)
  have pf3 := pailN pg2 eE3
  have tp3 : upd HE3 t3 (.tup [.str "number", .str "high"]) t3 = some (.tup [.str "number", .str "high"]) := upd_same
  have tp1 := eE3 _ _ tp1 (fun _ z => by cases z)
  have tp2 := eE3 _ _ tp2 (fun _ z => by cases z)
  have lf3 := eE3 _ _ lh2 (fun _ z => by cases z)
  have ln3 : ([.ref t1, .ref t2] : List V).length < sizeLine := (show 2 < sizeLine by decide)
  walk_at "rd"
  have rg3 := rf3.mv (sbUpd (o := .lst [.ref t1, .ref t2, .ref t3])) lf3 upd_same
  have pg3 := pailMv pf3 (sbUpd (o := .lst [.ref t1, .ref t2, .ref t3])) nLa nLc
  have lh3 : upd (upd HE3 t3 (.tup [.str "number", .str "high"])) LH (.lst [.ref t1, .ref t2, .ref t3]) LH = some (.lst [.ref t1, .ref t2, .ref t3]) := upd_same
  have tp1 := tupMv tp1 (sbUpd (o := .lst [.ref t1, .ref t2, .ref t3])) lf3
  have tp2 := tupMv tp2 (sbUpd (o := .lst [.ref t1, .ref t2, .ref t3])) lf3
  have tp3 := tupMv tp3 (sbUpd (o := .lst [.ref t1, .ref t2, .ref t3])) lf3
  walk_at "rd"
  refine ⟨rg3.tb, fun HL4 eN4 TL4 R4 hR4 => ?_⟩
  have rL4 := rg3.extN eN4 TL4
  have isL4 : ST K HL4 st D F0 := ⟨rL4.it, zD, zF⟩
  refine ⟨_, rfl, _, rfl, _, rfl, _, rfl, _, _, _, _, rfl, .inr ⟨st, D, F0, rfl, isL4, .inr ⟨q, RV.mk rL4.low, zq1900, q0.1, q0.2, .inr ⟨q, RV.mk rL4.low, zq1900, Rat.le_refl, q0.2, .inl ⟨rL4.non, fun dd HE4 sE4 nd4 ed4 => .inr ⟨rfl, dd, _, rfl, ed4, fun t4 ht4 => ?_⟩⟩⟩⟩⟩⟩
  have eE4 := eN4.trans (LamX.ExtN.of (sE4.trans (Same.new (o := (.tup [.str "number", .str "most"])) ht4)))
  have rf4 := (rL4.ext sE4).ext (Same.new (o := (.tup [.str "number", .str "most"])) ht4)
  have pf4 := pailN pg3 eE4
  have tp4 : upd HE4 t4 (.tup [.str "number", .str "most"]) t4 = some (.tup [.str "number", .str "most"]) := upd_same
  have tp1 := eE4 _ _ tp1 (fun _ z => by cases z)
  have tp2 := eE4 _ _ tp2 (fun _ z => by cases z)
  have tp3 := eE4 _ _ tp3 (fun _ z => by cases z)
  have lf4 := eE4 _ _ lh3 (fun _ z => by cases z)
  have ln4 : ([.ref t1, .ref t2, .ref t3] : List V).length < sizeLine := (show 3 < sizeLine by decide)
  walk_at "rd"
  have rg4 := rf4.mv (sbUpd (o := .lst [.ref t1, .ref t2, .ref t3, .ref t4])) lf4 upd_same
  have pg4 := pailMv pf4 (sbUpd (o := .lst [.ref t1, .ref t2, .ref t3, .ref t4])) nLa nLc
  have lh4 : upd (upd HE4 t4 (.tup [.str "number", .str "most"])) LH (.lst [.ref t1, .ref t2, .ref t3, .ref t4]) LH = some (.lst [.ref t1, .ref t2, .ref t3, .ref t4]) := upd_same
  have tp1 := tupMv tp1 (sbUpd (o := .lst [.ref t1, .ref t2, .ref t3, .ref t4])) lf4
  have tp2 := tupMv tp2 (sbUpd (o := .lst [.ref t1, .ref t2, .ref t3, .ref t4])) lf4
  have tp3 := tupMv tp3 (sbUpd (o := .lst [.ref t1, .ref t2, .ref t3, .ref t4])) lf4
  have tp4 := tupMv tp4 (sbUpd (o := .lst [.ref t1, .ref t2, .ref t3, .ref t4])) lf4
  walk_at "rd"
  refine ⟨rg4.tb, fun HL5 eN5 TL5 R5 hR5 => ?_⟩
  have rL5 := rg4.extN eN5 TL5
  refine ⟨_, rfl, ?_⟩
  apply makeR2 (show (1000 : Int) ≠ 0 by decide) (nb_le (show (999 : Int).natAbs < 2 ^ 12 by decide)) (nb_le (show (1000 : Int).natAbs < 2 ^ 12 by decide))
  intro r9 H9 s9' _ ir9
  have isL5 : ST K H9 st D F0 := ⟨rL5.it.ext s9', zD, zF⟩
  have z01 : Sz ((0 : Int) : Rat) 1900 := zi _ (by decide)
  walk_at "rd"
  refine .inr ⟨st, D, F0, rfl, isL5, .inr ⟨_, RV.int K H9 0, z01, by rw [Rat.intCast_zero]; exact Rat.le_refl, by rw [Rat.intCast_zero]; decide, .inr ⟨_, RV.mk ir9, zq (by decide) (by decide) (by decide), by rw [Rat.intCast_zero]; decide, by decide, .inr ⟨1, rfl, by decide, by decide, fun r HX sX _ => hR5 _ _ ?_⟩⟩⟩⟩
  have e5 := eN5.trans (LamX.ExtN.of (s9'.trans sX))
  have tbX := TL5.ext (s9'.trans sX)
  have pgX := pailN pg4 e5
  have lfX := e5 _ _ lh4 (fun _ z => by cases z)
  have tp1 := e5 _ _ tp1 (fun _ z => by cases z)
  have tp2 := e5 _ _ tp2 (fun _ z => by cases z)
  have tp3 := e5 _ _ tp3 (fun _ z => by cases z)
  have tp4 := e5 _ _ tp4 (fun _ z => by cases z)
  have lnX : ([.ref t1, .ref t2, .ref t3, .ref t4] : List V).length < sizeLine := (show 4 < sizeLine by decide)
  walk_at "rd"
  have tb6 := tabsMv tbX (sbUpd (o := .lst [.ref t1, .ref t2, .ref t3, .ref t4, .non])) lfX
  have pg6 := pailMv pgX (sbUpd (o := .lst [.ref t1, .ref t2, .ref t3, .ref t4, .non])) nLa nLc
  have lh6 : upd HX LH (.lst [.ref t1, .ref t2, .ref t3, .ref t4, .non]) LH = some (.lst [.ref t1, .ref t2, .ref t3, .ref t4, .non]) := upd_same
  have tp1 := tupMv tp1 (sbUpd (o := .lst [.ref t1, .ref t2, .ref t3, .ref t4, .non])) lfX
  have tp2 := tupMv tp2 (sbUpd (o := .lst [.ref t1, .ref t2, .ref t3, .ref t4, .non])) lfX
  have tp3 := tupMv tp3 (sbUpd (o := .lst [.ref t1, .ref t2, .ref t3, .ref t4, .non])) lfX
  have tp4 := tupMv tp4 (sbUpd (o := .lst [.ref t1, .ref t2, .ref t3, .ref t4, .non])) lfX
  intro u0 hu0
  have y0 := Same.new (o := .tup [.str "stem", .str "stem"]) hu0
  walk_at "rd"
  intro u1 hu1
  have y1 := Same.new (o := .tup [.str "number", .str "low"]) hu1
  walk_at "rd"
  intro u2 hu2
  have y2 := Same.new (o := .tup [.str "number", .str "high"]) hu2
  walk_at "rd"
  intro u3 hu3
  have y3 := Same.new (o := .tup [.str "number", .str "most"]) hu3
  walk_at "rd"
  intro LZ hLZ
  have y4 := Same.new (o := .lst [.ref u0, .ref u1, .ref u2, .ref u3, .non]) hLZ
  have yy := (((y0.trans y1).trans y2).trans y3).trans y4
  have a1 := yy _ _ tp1
  have a2 := yy _ _ tp2
  have a3 := yy _ _ tp3
  have a4 := yy _ _ tp4
  have bLH := yy _ _ lh6
  have b0 := (((y1.trans y2).trans y3).trans y4) u0 (.tup [.str "stem", .str "stem"]) upd_same
  have b1 := ((y2.trans y3).trans y4) u1 (.tup [.str "number", .str "low"]) upd_same
  have b2 := (y3.trans y4) u2 (.tup [.str "number", .str "high"]) upd_same
  have b3 := y4 u3 (.tup [.str "number", .str "most"]) upd_same
  refine ⟨_, _, .lst (SqL.of bLH) (.cons (.tup (SqT.of a1) (.cons (.str _) (.cons (.str _) .nil))) (.cons (.tup (SqT.of a2) (.cons (.str _) (.cons (.str _) .nil))) (.cons (.tup (SqT.of a3) (.cons (.str _) (.cons (.str _) .nil))) (.cons (.tup (SqT.of a4) (.cons (.str _) (.cons (.str _) .nil))) (.cons .non .nil))))), .lst (SqL.of upd_same) (.cons (.tup (SqT.of b0) (.cons (.str _) (.cons (.str _) .nil))) (.cons (.tup (SqT.of b1) (.cons (.str _) (.cons (.str _) .nil))) (.cons (.tup (SqT.of b2) (.cons (.str _) (.cons (.str _) .nil))) (.cons (.tup (SqT.of b3) (.cons (.str _) (.cons (.str _) .nil))) (.cons .non .nil))))), shR, shR, ?_⟩
  rw [eqr shR]
  exact k _ ((pg6.ext yy).mono) (tb6.ext yy)
end
end Sp
end
section
set_option Elab.async false
set_option linter.all false
set_option exponentiation.threshold 5000
set_option maxRecDepth 100000
set_option maxHeartbeats 0
local macro_rules | `(tactic| walk_at "leaf") => `(tactic| first | rfl | assumption | exact True.intro | exact L2.upd_same | exact L2.ClsV.ty _ | exact L2.ClsV.own _ | decide | exact of_decide_eq_true rfl | exact L2.SqL.of (by assumption) | exact L2.SqL.of L2.upd_same | exact Or.inl (L2.SqL.of L2.upd_same) | exact Or.inl (L2.SqL.of (by assumption)) | exact L2.SqT.of (by assumption) | exact L2.SqT.of L2.upd_same | exact Sp.cmL (by decide) | exact Sp.cmR (by decide) | exact ⟨by decide, by decide, by decide⟩ | exact ⟨by decide, by decide⟩ | exact Or.inr (L2.SqT.of (by assumption)) | exact Or.inl ⟨rfl, _, L2.SqL.of (by assumption)⟩ | exact Or.inl ⟨rfl, _, L2.SqL.of L2.upd_same⟩ | omega | fail)
local macro_rules | `(tactic| walk_at "rd1") => `(tactic| first
  | refine Sp.rbR (by assumption) (by assumption) (by assumption) (by assumption) ?_
  | apply Sp.exI
  | (refine And.intro ?lf ?_; (case lf => walk_at "leaf"))
  | fail)
local macro_rules | `(tactic| walk_at "rd") => `(tactic| repeat (walk_at "rd1"))
local macro_rules | `(tactic| walk_at "fR") => `(tactic| (have := (‹Sp.G0 _ _›).R.cl; have := (‹Sp.G0 _ _›).R.no "top" (by simp); have := (‹Sp.G0 _ _›).R.no "bottom" (by simp)))
local macro_rules | `(tactic| walk_at "fT") => `(tactic| (have := (‹Sp.G0 _ _›).T.cl; have := (‹Sp.G0 _ _›).T.no "turn" (by simp); have := (‹Sp.G0 _ _›).T.no "squared" (by simp); have := (‹Sp.G0 _ _›).T.no "rise" (by simp)))
namespace Sp
open PySem PySem.Spec PyProof.Rows L2
section
variable {P : Program} {w : World} {K : PySem.W.Frag} {mg : Str → Option Value} {base : Heap} {f : Addr} {fd : FuncData}
variable (g_is_integer : GD P w K mg base (L2.CX P w) 1 "is_integer" ["value"] [] (spIsInt K)) (g_sign_of : GD P w K mg base (L2.CX P w) 1 "sign_of" ["number"] [] spSign)
  (g_is_ratio : GD P w K mg base (L2.CX P w) 2 "is_ratio" ["value"] [] (spIsRat K)) (g_at_right : GD P w K mg base (L2.CX P w) 6 "at_right" ["value"] [] (spOf K))
  (g_xBadRatio : GX P w K mg base 1 "BadRatio" "part" (cX K "BadRatio")) (g_xBadNumber : GX P w K mg base 1 "BadNumber" "part" (cX K "BadNumber")) (g_xBadStem : GX P w K mg base 1 "BadStem" "part" (cX K "BadStem"))
  (g_mRatio : GM P w K mg base (L2.CX P w) 3 "Ratio" (cR K) ["self", "top", "bottom"] [] (spInitR K)) (g_mRatio1 : GM P w K mg base (L2.CX P w) 3 "Ratio" (cR K) ["self", "top", "bottom"] [.int 1] (spInitR K))
  (g_Ratio_of : GS P w K mg base (L2.CX P w) 5 (cR K) "of" (spOf K)) (g_R_compared : GH P w K mg base (L2.CX P w) 7 (cR K) "compared" ["self", "other"] (spCmp K))
variable (g_radd : GO P w K mg base (L2.CX P w) 7 (cR K) .Add (spBinR K (· + ·))) (g_rsub : GO P w K mg base (L2.CX P w) 7 (cR K) .Sub (spBinR K (· - ·))) (g_rmul : GO P w K mg base (L2.CX P w) 7 (cR K) .Mult (spBinR K (· * ·)))
  (g_req : GN P w K mg base (L2.CX P w) 2 (cR K) "__eq__" (spEqR K)) (g_R_sign : GP P w K mg base (L2.CX P w) 2 (cR K) "sign" (spSgn K)) (g_R_below : GP P w K mg base (L2.CX P w) 1 (cR K) "below" (spFlr K)) (g_R_is_below : GH P w K mg base (L2.CX P w) 8 (cR K) "is_below" ["self", "other"] (spBelow K))
variable (g_mStem : GM P w K mg base (L2.CX P w) 8 "Stem" (cT K) ["self", "turn", "squared"] [] (spInitT K)) (g_need_stem : GD P w K mg base (L2.CX P w) 3 "need_stem" ["value", "part"] [] (spNeedT K)) (g_need_integer : GD P w K mg base (L2.CX P w) 3 "need_integer" ["value", "part"] [] spNeedI)
  (g_is_within : GD P w K mg base (L2.CX P w) 2 "is_within" ["value", "least", "most"] [] (spInW K)) (g_need_within : GD P w K mg base (L2.CX P w) 3 "need_within" ["value", "least", "most", "part"] [] (spNeedW K))
  (g_place : GD P w K mg base (L2.CX P w) 8 "place" ["stem", "stud"] [] (spPlace K)) (g_nearest_rounds : GD P w K mg base (L2.CX P w) 9 "nearest_rounds" ["stem", "stud"] [] (spNRs K))
  (g_is_between : GD P w K mg base (L2.CX P w) 9 "is_between" ["least", "ratio"] [] (spBetw K)) (g_first_within : GD P w K mg base (L2.CX P w) 10 "first_within" ["stem", "low", "high", "most"] [] (spFW K))
variable (g_l_coin : GD P w K mg base (L2.CX P w) 1 "_law_coin" ["_law_purse_here", "_law_many"] [] spDip) (g_l_purse : GD P w K mg base (L2.CX P w) 1 "_law_purse" ["_law_script"] [] (spPail K)) (g_l_of : GD P w K mg base (L2.CX P w) 2 "_law_of" ["_law_purse_here", "_law_some"] [] spOfL)
  (g_l_stem : GD P w K mg base (L2.CX P w) 3 "_law_stem" ["_law_purse_here"] [] spStemL) (g_l_divisor : GD P w K mg base (L2.CX P w) 1 "_law_divisor" ["_law_one", "_law_other"] [] spDiv) (g_l_first : GD P w K mg base (L2.CX P w) 1 "_law_first" ["_law_p", "_law_q", "_law_low", "_law_high", "_law_under", "_law_most"] [] spFirstL)
  (g_l_stretch : GD P w K mg base (L2.CX P w) 3 "_law_stretch" ["_law_purse_here", "_law_p", "_law_q"] [] spStretch) (g_l_pair_right : GD P w K mg base (L2.CX P w) 11 "_law_pair_right" ["_law_purse_here", "_law_plain", "_law_stem_here"] [] (spAsk K))
  (g_l_within_right : GD P w K mg base (L2.CX P w) 11 "_law_within_right" ["_law_purse_here", "_law_plain", "_law_stem_here"] [] (spAsk K)) (g_l_pushed_right : GD P w K mg base (L2.CX P w) 11 "_law_pushed_right" ["_law_purse_here", "_law_plain", "_law_stem_here"] [] (spAsk K))
  (g_rne : GNe P w K mg base (L2.CX P w) 2 (cR K) (spEqR K)) (g_first_within_k : GDK P w K mg base (L2.CX P w) 10 "first_within" ["stem", "low", "high", "most"] 4 [0, 1, 2, 3] (spFW K)) (g_first_within_m : GDM P w K mg base (L2.CX P w) 10 "first_within" ["high", "most"] 2 2 (spFW K))

variable {T : List (Addr × Str)} (g_l_refused_right : GD P w K mg base (L2.CX P w) 14 "_law_refused_right" ["_law_purse_here", "_law_stem_here"] [] (spRefR K T))
structure Ld (K : PySem.W.Frag) (T : List (Addr × Str)) (H : Hp) (a c l st : Addr) (N : Nat) (p q n m : Int) : Prop where
  pail : Pail H a c N
  tb : LamX.Tabs T H
  hl : H l = some (.lst [.int p, .int q, .int n, .int m])
  it : IsT K H st (Rat.divInt p q) (Rat.divInt n m)
theorem Ld.go {H H' : Hp} {a c l st : Addr} {N M : Nat} {p q n m : Int} (h : Ld K T H a c l st N p q n m) (nla : l ≠ a) (pp : Pail H' a c M) (s : Sb a H H') : Ld K T H' a c l st M p q n m := by
  obtain ⟨xs, ha⟩ := h.pail.lst
  exact ⟨pp, tabsMv h.tb s ha, s _ _ nla h.hl, h.it.mv s ha⟩
def spLaw (K : PySem.W.Frag) (T : List (Addr × Str)) : Sp := fun vs H Q _ => ∃ (a : Addr) (ns : List Int), vs = [.ref a] ∧ SqL K H a (ns.map V.int) ∧ LamX.Tabs T H ∧ ∀ H', Q (.bl true) H'
theorem sc_law : FnScope ["_law_script", "_law_purse_here", "_law_lap", "_law_plain", "_law_stem_here", "_law_turn"] ["_law_script"] (defScope (topS 50)) := ⟨rfl, rfl, rfl, by decide +kernel, rfl, by decide +kernel, by decide +kernel⟩
include g_l_pair_right g_l_purse g_l_pushed_right g_l_refused_right g_l_stem g_l_within_right g_mRatio g_mStem in
theorem ok_law (G : G0 K mg) (F : FP K "law" "law" (topS 50) [] f fd) : FnOk P w K mg base (L2.CX P w) 15 f fd ["_law_script"] (spLaw K T) := by
  have nd := sc_law.nd
  refine F.ok sc_law (fun vs H Q E h => by obtain ⟨_, _, rfl, _⟩ := h; rfl) (fun cdv A outer s H vs Q E hr h => ⟨_, pss_cons (ps_set (i := 1) nd rfl (Or.inl rfl) (pe_gd g_l_purse (hr.mono (by decide)) rfl (pxE rfl rfl rfl rfl) (pa_cons (pv 0) (pa_nil)))) (pss_cons (ps_for ((passes_of rfl)) rfl (pi_range1 rfl G.nm.range (pa_cons (pe_int) (pa_nil))) (pg_name (i := 2) nd rfl (Or.inl rfl)) (pss_cons (ps_set (i := 3) nd rfl (Or.inl rfl) (pe_gd g_l_stem (hr.mono (by decide)) rfl (pxE rfl rfl rfl rfl) (pa_cons (pv 1) (pa_nil)))) (pss_cons (ps_set (i := 4) nd rfl (Or.inl rfl) (pe_gm g_mStem (hr.mono (by decide)) rfl (pxE rfl rfl rfl rfl) (pa_cons (pe_gm g_mRatio (hr.mono (by decide)) rfl (pxE rfl rfl rfl rfl) (pa_cons (pe_ix ix_list (pv 3) (pe_int) (fun _ _ => rfl)) (pa_cons (pe_ix ix_list (pv 3) (pe_int) (fun _ _ => rfl)) (pa_nil)))) (pa_cons (pe_gm g_mRatio (hr.mono (by decide)) rfl (pxE rfl rfl rfl rfl) (pa_cons (pe_ix ix_list (pv 3) (pe_int) (fun _ _ => rfl)) (pa_cons (pe_ix ix_list (pv 3) (pe_int) (fun _ _ => rfl)) (pa_nil)))) (pa_nil))))) (pss_cons (ps_for ((passes_of rfl)) rfl (pi_range1 rfl G.nm.range (pa_cons (pe_int) (pa_nil))) (pg_name (i := 5) nd rfl (Or.inl rfl)) (pss_one (ps_if (PW.pt (pw_or (pt_not (pt_val (pe_gd g_l_pair_right (hr.mono (by decide)) rfl (pxE rfl rfl rfl rfl) (pa_cons (pv 1) (pa_cons (pv 3) (pa_cons (pv 4) (pa_nil))))))) (pw_or1 (pt_not (pt_val (pe_gd g_l_within_right (hr.mono (by decide)) rfl (pxE rfl rfl rfl rfl) (pa_cons (pv 1) (pa_cons (pv 3) (pa_cons (pv 4) (pa_nil)))))))))) (pss_one (ps_ret (pe_bl))) (pss_nil)))) (pss_one (ps_if (PW.pt (pw_or (pt_not (pt_val (pe_gd g_l_pushed_right (hr.mono (by decide)) rfl (pxE rfl rfl rfl rfl) (pa_cons (pv 1) (pa_cons (pv 3) (pa_cons (pv 4) (pa_nil))))))) (pw_or1 (pt_not (pt_val (pe_gd g_l_refused_right (hr.mono (by decide)) rfl (pxE rfl rfl rfl rfl) (pa_cons (pv 1) (pa_cons (pv 4) (pa_nil))))))))) (pss_one (ps_ret (pe_bl))) (pss_nil))))))) (pss_one (ps_ret (pe_bl)))), ?_⟩)
  obtain ⟨sa, ns, rfl, hS, hT, q⟩ := h
  walk_at "rd"
  intro a H1 s1 _ hp
  obtain ⟨c, p1⟩ := hp
  have tb1 := hT.ext s1
  clear hT hS s1
  walk_at "rd"
  refine for_range (n := 2) (lo := 0) (fun i σ Hh => Bx (∃ x2 x3 x4 x5, σ = [some (V.ref sa), some (V.ref a), x2, x3, x4, x5] ∧ Pail Hh a c (1000 * i) ∧ LamX.Tabs T Hh)) ⟨⟨_, _, _, _, rfl, p1, tb1⟩⟩ (fun i σ Hh hi hP => ?_) (fun σ Hh hP => ?_)
  · obtain ⟨x2, x3, x4, x5, rfl, p2, tb2⟩ := hP.out
    have hN : 1000 * i ≤ 900000 := by omega
    walk_at "rd"
    intro l p qq n m H3 po hl nla p3 s3
    obtain ⟨_, hA2⟩ := p2.lst
    have tb3 := tabsMv tb2 s3 hA2
    clear p2 tb2 hA2
    have q1 := po.q0
    have m0 := po.m0
    have q2 := po.q1
    have m2 := po.m1
    have zp := po.pb
    walk_at "rd"
    apply makeR2 (show qq ≠ 0 by omega) (nb_le (show p.natAbs < 2 ^ 8 by omega)) (nb_le (show qq.natAbs < 2 ^ 6 by omega))
    intro ra H4 s4 _ ira
    have hl4 := s4 _ _ hl
    walk_at "rd"
    apply makeR2 (show m ≠ 0 by omega) (nb_le po.n1) (nb_le (show m.natAbs < 2 ^ 6 by omega))
    intro rb H5 s5 _ irb
    walk_at "rd"
    apply makeT2 (ira.ext s5) irb (po.szD.mono) (po.szF.mono) po.rise
    intro st H6 s6 _ it6
    have s36 := (s4.trans s5).trans s6
    have ld6 : Ld K T H6 a c l st (1000 * i + 20) p qq n m := ⟨p3.ext s36, tb3.ext s36, s36 _ _ hl, it6⟩
    clear p3 tb3 ira irb hl hl4
    walk_at "rd"
    refine for_range (n := 3) (lo := 0) (fun j σ Hh => Bx (∃ x5, σ = [some (V.ref sa), some (V.ref a), some (V.int (0 + (i : Int))), some (V.ref l), some (V.ref st), x5] ∧ Ld K T Hh a c l st (1000 * i + 20 + 100 * j) p qq n m)) ⟨⟨_, rfl, ld6⟩⟩ (fun j σ Hh hj hP => ?_) (fun σ Hh hP => ?_)
    · obtain ⟨x5, rfl, ld⟩ := hP.out
      obtain ⟨pl, tbl, hll, itl⟩ := id ld
      have hN2 : 1000 * i + 20 + 100 * j ≤ 800000 := by omega
      walk_at "rd"
      intro H7 p7 s7
      have ld7 := ld.go nla p7 s7
      obtain ⟨_, tb7, hl7, it7⟩ := id ld7
      have hN3 : 1000 * i + 20 + 100 * j + 40 ≤ 800000 := by omega
      clear pl tbl hll itl
      walk_at "rd"
      intro H8 p8 s8
      have ld8 := ld7.go nla p8 s8
      walk_at "rd"
      exact ⟨⟨_, rfl, ld8.pail.mono, ld8.tb, ld8.hl, ld8.it⟩⟩
    · obtain ⟨x5, rfl, ld⟩ := hP.out
      obtain ⟨pl, tbl, hll, itl⟩ := id ld
      have hN2 : 1000 * i + 20 + 100 * 3 ≤ 800000 := by omega
      walk_at "rd"
      intro H7 p7 s7
      have ld7 := ld.go nla p7 s7
      obtain ⟨_, tb7, hl7, it7⟩ := id ld7
      have ist7 : ST K H7 st (Rat.divInt p qq) (Rat.divInt n m) := ⟨it7, po.szD.mono, po.szF.mono⟩
      have hN3 : 1000 * i + 20 + 100 * 3 + 40 ≤ 800000 := by omega
      clear pl tbl hll itl
      walk_at "rd"
      intro H8 p8 tb8
      walk_at "rd"
      exact ⟨⟨_, _, _, _, rfl, p8.mono, tb8⟩⟩
  · obtain ⟨x2, x3, x4, x5, rfl, p2, tb2⟩ := hP.out
    walk_at "rd"
    exact q _
end
end Sp
end
section
set_option Elab.async false
set_option linter.all false
set_option maxRecDepth 100000
set_option maxHeartbeats 0
namespace Sp
open PySem PySem.Spec PyProof.Rows L2
open PySem.W (Frag)
section
variable {P : Program} {w : World} {K : PySem.W.Frag} {mg : Str → Option Value} {base : Heap} {f : Addr} {fd : FuncData}
theorem sc_xi_BadRatio : FnScope ["self", "part"] ["self", "part"] (defScope (inClass (topS 4) 0)) := ⟨rfl, rfl, rfl, by decide +kernel, rfl, by decide +kernel, by decide +kernel⟩
theorem ok_xi_BadRatio {C : Addr} (T : OexC K C) (hno : PySem.W.findIn K (.ref C) "part" = some none) (F : FP K "__init__" "BadRatio.__init__" (inClass (topS 4) 0) [] f fd) : FnOk P w K mg base (L2.CX P w) 1 f fd ["self", "part"] (spI1 C "part") := by
  refine F.ok sc_xi_BadRatio (fun vs H Q E h => by obtain ⟨_, _, rfl, _⟩ := h; rfl) (fun cdv A outer s H vs Q E hr h => ⟨_, pss_one (ps_ost (pv 0) (pv 1)), ?_⟩)
  obtain ⟨a, v, rfl, ha, q⟩ := h
  exact ⟨_, rfl, _, rfl, a, C, rfl, T, hno, .inl ⟨ha, fun dx n ne => q dx n ne⟩⟩
theorem sc_xi_BadNumber : FnScope ["self", "part"] ["self", "part"] (defScope (inClass (topS 6) 0)) := ⟨rfl, rfl, rfl, by decide +kernel, rfl, by decide +kernel, by decide +kernel⟩
theorem ok_xi_BadNumber {C : Addr} (T : OexC K C) (hno : PySem.W.findIn K (.ref C) "part" = some none) (F : FP K "__init__" "BadNumber.__init__" (inClass (topS 6) 0) [] f fd) : FnOk P w K mg base (L2.CX P w) 1 f fd ["self", "part"] (spI1 C "part") := by
  refine F.ok sc_xi_BadNumber (fun vs H Q E h => by obtain ⟨_, _, rfl, _⟩ := h; rfl) (fun cdv A outer s H vs Q E hr h => ⟨_, pss_one (ps_ost (pv 0) (pv 1)), ?_⟩)
  obtain ⟨a, v, rfl, ha, q⟩ := h
  exact ⟨_, rfl, _, rfl, a, C, rfl, T, hno, .inl ⟨ha, fun dx n ne => q dx n ne⟩⟩
theorem sc_xi_BadStem : FnScope ["self", "part"] ["self", "part"] (defScope (inClass (topS 5) 0)) := ⟨rfl, rfl, rfl, by decide +kernel, rfl, by decide +kernel, by decide +kernel⟩
theorem ok_xi_BadStem {C : Addr} (T : OexC K C) (hno : PySem.W.findIn K (.ref C) "part" = some none) (F : FP K "__init__" "BadStem.__init__" (inClass (topS 5) 0) [] f fd) : FnOk P w K mg base (L2.CX P w) 1 f fd ["self", "part"] (spI1 C "part") := by
  refine F.ok sc_xi_BadStem (fun vs H Q E h => by obtain ⟨_, _, rfl, _⟩ := h; rfl) (fun cdv A outer s H vs Q E hr h => ⟨_, pss_one (ps_ost (pv 0) (pv 1)), ?_⟩)
  obtain ⟨a, v, rfl, ha, q⟩ := h
  exact ⟨_, rfl, _, rfl, a, C, rfl, T, hno, .inl ⟨ha, fun dx n ne => q dx n ne⟩⟩
end
theorem nm_ok {K : Frag} {C : Addr} {m : Str} (h : nmB K C m = true) : PySem.W.findIn K (.ref C) m = some (some (.ref (He.ma K C m))) ∧ PySem.W.isFn K (.ref (He.ma K C m)) = true := by
  unfold nmB at h
  obtain ⟨h1, h2⟩ := He.ba h
  exact ⟨of_decide_eq_true h1, h2⟩
theorem code_of {K : Frag} {x qual : Str} {params : Arguments} {body : List Stmt} {scope : Scope} {fd : FuncData} (F : FunD K x qual params body scope [] [] (He.ga K x) fd) : fd.code = .ref (He.cT K (x, none)).1 := by
  obtain ⟨oc, od, dV, kV, doc, pm, an, cdv, ct, osl, rfl, lk, hcd, _, _⟩ := F.ex
  obtain ⟨c, rfl⟩ := He.codeIn_ref hcd
  exact congrArg Value.ref (He.codeOf_eq (p := (x, none)) lk rfl).symm
def TT (K : Frag) : List (Addr × Str) := [((He.cT K ("_law_refused_right", none)).2, qRf)]
theorem law_ok {P : Program} {w : World} {K : Frag} {mg : Str → Option Value} {base h : Heap} (c : SaysB h K) (KB : K.In base) (NB : base.Ns mainGlobals mg)
    (TB : ∀ p ∈ tfL.map (He.cT K), LamX.TabB base mg p.1 p.2) {fd : FuncData} (F_law : FP K "law" "law" (topS 50) [] (He.ga K "law") fd) : FnOk P w K mg base (L2.CX P w) 15 (He.ga K "law") fd ["_law_script"] (spLaw K (TT K)) := by
  have fx : ∀ (i : Nat) (f : Frag → Bool), exL[i]? = some f → f K = true := fun i f h => c.ex f (List.mem_of_getElem? h)
  have gl : ∀ x : Str, x ∈ glL → mg x = some (.ref (He.ga K x)) := fun x hx => He.glo_ok KB NB (c.gl x hx)
  have fn : ∀ (i : Nat) (d : He5.DefA), fnL[i]? = some d → ∃ fd, FunD K d.name d.qual d.params d.body d.scope (d.dvs K) (d.kws K) (d.at_ K) fd := fun i d h => (c.fn d (List.mem_of_getElem? h)).elim fun h1 h2 => He5.DefA.funD h2 h1
  have nmf : Nm mg := ⟨He.free_ok KB NB (fx 0 _ rfl), He.free_ok KB NB (fx 1 _ rfl), He.free_ok KB NB (fx 2 _ rfl), He.free_ok KB NB (fx 3 _ rfl), He.free_ok KB NB (fx 4 _ rfl), He.free_ok KB NB (fx 5 _ rfl), He.free_ok KB NB (fx 6 _ rfl), He.free_ok KB NB (fx 7 _ rfl), He.free_ok KB NB (fx 8 _ rfl), He.free_ok KB NB (fx 9 _ rfl)⟩
  obtain ⟨tk, hfar⟩ := farB_ok (fx 42 _ rfl)
  have G0 : G0 K mg := ⟨nmf, ⟨tk, PySem.W.mg_of KB NB hfar⟩, PySem.W.mg_of KB NB (of_decide_eq_true (fx 10 _ rfl)), cfB_ok (fx 11 _ rfl), cfB_ok (fx 12 _ rfl), He.glo_ok KB NB (fx 13 _ rfl), He.glo_ok KB NB (fx 14 _ rfl), of_decide_eq_true (fx 30 _ rfl), ktB_ok (fx 15 _ rfl), ktB_ok (fx 16 _ rfl), ktB_ok (fx 17 _ rfl), ktB_ok (fx 18 _ rfl), ktB_ok (fx 19 _ rfl), ktB_ok (fx 20 _ rfl)⟩
  have mx : ∀ x fl : Str, xB K x fl = true → mg x = some (.ref (He.ga K x)) ∧ PySem.W.findIn K (.ref (He.ga K x)) fl = some none := fun x fl hx => by
    obtain ⟨h1, hq⟩ := He.ba hx
    obtain ⟨h2, hq⟩ := He.ba hq
    obtain ⟨h3, hq⟩ := He.ba hq
    obtain ⟨h4, h5⟩ := He.ba hq
    exact ⟨He.glo_ok KB NB h2, He.noat_ok h5⟩
  have gE : GE K mg := ⟨of_decide_eq_true (fx 21 _ rfl), of_decide_eq_true (fx 22 _ rfl), of_decide_eq_true (fx 23 _ rfl), xfB_ok (fx 24 _ rfl), xfB_ok (fx 25 _ rfl), (mx "BadStem" "part" (fx 28 _ rfl)).2, (mx "BadNumber" "part" (fx 27 _ rfl)).2, (mx "BadStem" "part" (fx 28 _ rfl)).1, (mx "BadNumber" "part" (fx 27 _ rfl)).1⟩
  have hnf : PySem.W.notFirst K (cR K) (.ref (cR K)) = true := fx 29 _ rfl
  have huR : ∀ p ∈ TT K, p.1 = (He.cT K ("_law_refused_right", none)).2 → p.2 = qRf := fun p hp e => by
    rw [List.mem_singleton.mp hp]
  obtain ⟨fd_isInt, F_isInt⟩ := fn 0 _ rfl
  have F_isInt : FP K "is_integer" "is_integer" (topS 10) [] (He.ga K "is_integer") fd_isInt := F_isInt
  have b_isInt := FunD.bindsN (ps := ["value"]) F_isInt fun _ _ _ _ _ _ us hl => match us, hl with | [_], _ => rfl
  have g_is_integer := GD.mk (P := P) (w := w) (K := K) (mg := mg) (base := base) ⟨_, _, [], ok_isInt G0 F_isInt, gl "is_integer" (by decide +kernel), F_isInt.kp, b_isInt, .nil⟩
  obtain ⟨fd_sign, F_sign⟩ := fn 4 _ rfl
  have F_sign : FP K "sign_of" "sign_of" (topS 22) [] (He.ga K "sign_of") fd_sign := F_sign
  have b_sign := FunD.bindsN (ps := ["number"]) F_sign fun _ _ _ _ _ _ us hl => match us, hl with | [_], _ => rfl
  have g_sign_of := GD.mk (P := P) (w := w) (K := K) (mg := mg) (base := base) ⟨_, _, [], ok_sign F_sign, gl "sign_of" (by decide +kernel), F_sign.kp, b_sign, .nil⟩
  obtain ⟨fd_xBadRatio, F_xBadRatio⟩ := fn 26 _ rfl
  have F_xBadRatio : FP K "__init__" "BadRatio.__init__" (inClass (topS 4) 0) [] (He.ma K (He.ga K "BadRatio") "__init__") fd_xBadRatio := F_xBadRatio
  have b_xBadRatio := FunD.bindsN (ps := ["self", "part"]) F_xBadRatio fun _ _ _ _ _ _ us hl => match us, hl with | [_, _], _ => rfl
  have g_xBadRatio : GX P w K mg base 1 "BadRatio" "part" (cX K "BadRatio") := by
    obtain ⟨h1, hq⟩ := He.ba (show xB K "BadRatio" "part" = true from fx 26 _ rfl)
    obtain ⟨h2, hq⟩ := He.ba hq
    obtain ⟨h3, hq⟩ := He.ba hq
    obtain ⟨h4, h5⟩ := He.ba hq
    exact ⟨oexB_ok h1, He.glo_ok KB NB h2, _, _, of_decide_eq_true h3, of_decide_eq_true h4, ok_xi_BadRatio (oexB_ok h1) (He.noat_ok h5) F_xBadRatio, b_xBadRatio⟩
  obtain ⟨fd_xBadNumber, F_xBadNumber⟩ := fn 27 _ rfl
  have F_xBadNumber : FP K "__init__" "BadNumber.__init__" (inClass (topS 6) 0) [] (He.ma K (He.ga K "BadNumber") "__init__") fd_xBadNumber := F_xBadNumber
  have b_xBadNumber := FunD.bindsN (ps := ["self", "part"]) F_xBadNumber fun _ _ _ _ _ _ us hl => match us, hl with | [_, _], _ => rfl
  have g_xBadNumber : GX P w K mg base 1 "BadNumber" "part" (cX K "BadNumber") := by
    obtain ⟨h1, hq⟩ := He.ba (show xB K "BadNumber" "part" = true from fx 27 _ rfl)
    obtain ⟨h2, hq⟩ := He.ba hq
    obtain ⟨h3, hq⟩ := He.ba hq
    obtain ⟨h4, h5⟩ := He.ba hq
    exact ⟨oexB_ok h1, He.glo_ok KB NB h2, _, _, of_decide_eq_true h3, of_decide_eq_true h4, ok_xi_BadNumber (oexB_ok h1) (He.noat_ok h5) F_xBadNumber, b_xBadNumber⟩
  obtain ⟨fd_xBadStem, F_xBadStem⟩ := fn 28 _ rfl
  have F_xBadStem : FP K "__init__" "BadStem.__init__" (inClass (topS 5) 0) [] (He.ma K (He.ga K "BadStem") "__init__") fd_xBadStem := F_xBadStem
  have b_xBadStem := FunD.bindsN (ps := ["self", "part"]) F_xBadStem fun _ _ _ _ _ _ us hl => match us, hl with | [_, _], _ => rfl
  have g_xBadStem : GX P w K mg base 1 "BadStem" "part" (cX K "BadStem") := by
    obtain ⟨h1, hq⟩ := He.ba (show xB K "BadStem" "part" = true from fx 28 _ rfl)
    obtain ⟨h2, hq⟩ := He.ba hq
    obtain ⟨h3, hq⟩ := He.ba hq
    obtain ⟨h4, h5⟩ := He.ba hq
    exact ⟨oexB_ok h1, He.glo_ok KB NB h2, _, _, of_decide_eq_true h3, of_decide_eq_true h4, ok_xi_BadStem (oexB_ok h1) (He.noat_ok h5) F_xBadStem, b_xBadStem⟩
  obtain ⟨fd_isRat, F_isRat⟩ := fn 5 _ rfl
  have F_isRat : FP K "is_ratio" "is_ratio" (topS 23) [] (He.ga K "is_ratio") fd_isRat := F_isRat
  have b_isRat := FunD.bindsN (ps := ["value"]) F_isRat fun _ _ _ _ _ _ us hl => match us, hl with | [_], _ => rfl
  have g_is_ratio := GD.mk (P := P) (w := w) (K := K) (mg := mg) (base := base) ⟨_, _, [], ok_isRat (g_is_integer := g_is_integer) G0 F_isRat, gl "is_ratio" (by decide +kernel), F_isRat.kp, b_isRat, .nil⟩
  obtain ⟨fd_initR, F_initR⟩ := fn 25 _ rfl
  have F_initR : FP K "__init__" "Ratio.__init__" (inClass (topS 21) 0) [.int 1] (He.ma K (He.ga K "Ratio") "__init__") fd_initR := F_initR
  obtain ⟨ds3, v3, b3⟩ := FunD.binds1 (ps := ["self", "top", "bottom"]) F_initR 3 1 (by simp) rfl fun T kV doc pm an cdv ct us its hu hi => match us, its, hu, hi with | [_, _, _], [_], _, _ => ⟨_, rfl, rfl⟩
  obtain ⟨ds2, v2, b2⟩ := FunD.binds1 (ps := ["self", "top", "bottom"]) F_initR 2 0 (by simp) rfl fun T kV doc pm an cdv ct us its hu hi => match us, its, hu, hi with | [_, _], [_], _, _ => ⟨_, rfl, rfl⟩
  have o_initR := ok_initR (g_is_integer := g_is_integer) (g_xBadRatio := g_xBadRatio) (P := P) (w := w) (base := base) G0 F_initR
  have g_mRatio : GM P w K mg base (L2.CX P w) 3 "Ratio" (cR K) ["self", "top", "bottom"] [] (spInitR K) := ⟨_, _, ds3, o_initR, He.mkr_ok (fx 40 _ rfl), G0.mgRatio, b3, v3⟩
  have g_mRatio1 : GM P w K mg base (L2.CX P w) 3 "Ratio" (cR K) ["self", "top", "bottom"] [.int 1] (spInitR K) := ⟨_, _, ds2, o_initR, He.mkr_ok (fx 40 _ rfl), G0.mgRatio, b2, v2⟩
  obtain ⟨fd_of, F_of⟩ := fn 36 _ rfl
  have F_of : FP K "of" "Ratio.of" (inClass (topS 21) 17) [] (He5.wf K (He.ga K "Ratio") "staticmethod" "of") fd_of := F_of
  have b_of := FunD.bindsN (ps := ["value"]) F_of fun _ _ _ _ _ _ us hl => match us, hl with | [_], _ => rfl
  have g_Ratio_of : GS P w K mg base (L2.CX P w) 5 (cR K) "of" (spOf K) := ⟨_, _, _, _, _, smB_ok (fx 37 _ rfl), ok_of (g_is_ratio := g_is_ratio) (g_mRatio1 := g_mRatio1) (g_xBadRatio := g_xBadRatio) G0 F_of, b_of⟩
  obtain ⟨fd_atRight, F_atRight⟩ := fn 6 _ rfl
  have F_atRight : FP K "at_right" "at_right" (topS 24) [] (He.ga K "at_right") fd_atRight := F_atRight
  have b_atRight := FunD.bindsN (ps := ["value"]) F_atRight fun _ _ _ _ _ _ us hl => match us, hl with | [_], _ => rfl
  have g_at_right := GD.mk (P := P) (w := w) (K := K) (mg := mg) (base := base) ⟨_, _, [], ok_atRight (g_Ratio_of := g_Ratio_of) (g_is_ratio := g_is_ratio) (g_xBadRatio := g_xBadRatio) G0 F_atRight, gl "at_right" (by decide +kernel), F_atRight.kp, b_atRight, .nil⟩
  obtain ⟨fd_sgn, F_sgn⟩ := fn 37 _ rfl
  have F_sgn : FP K "sign" "Ratio.sign" (inClass (topS 21) 1) [] (He5.wf K (He.ga K "Ratio") "property" "sign") fd_sgn := F_sgn
  have b_sgn := FunD.bindsN (ps := ["self"]) F_sgn fun _ _ _ _ _ _ us hl => match us, hl with | [_], _ => rfl
  have g_R_sign : GP P w K mg base (L2.CX P w) 2 (cR K) "sign" (spSgn K) := ⟨G0.R.cl, _, _, _, _, propB_ok (fx 35 _ rfl), ok_sgn (g_sign_of := g_sign_of) G0 F_sgn, b_sgn⟩
  obtain ⟨fd_flr, F_flr⟩ := fn 38 _ rfl
  have F_flr : FP K "below" "Ratio.below" (inClass (topS 21) 3) [] (He5.wf K (He.ga K "Ratio") "property" "below") fd_flr := F_flr
  have b_flr := FunD.bindsN (ps := ["self"]) F_flr fun _ _ _ _ _ _ us hl => match us, hl with | [_], _ => rfl
  have g_R_below : GP P w K mg base (L2.CX P w) 1 (cR K) "below" (spFlr K) := ⟨G0.R.cl, _, _, _, _, propB_ok (fx 36 _ rfl), ok_flr G0 F_flr, b_flr⟩
  obtain ⟨fd_radd, F_radd⟩ := fn 30 _ rfl
  have F_radd : FP K "__add__" "Ratio.__add__" (inClass (topS 21) 4) [] (He.ma K (He.ga K "Ratio") "__add__") fd_radd := F_radd
  have b_radd := FunD.bindsN (ps := ["self", "other"]) F_radd fun _ _ _ _ _ _ us hl => match us, hl with | [_, _], _ => rfl
  have g_radd : GO P w K mg base (L2.CX P w) 7 (cR K) .Add (spBinR K (· + ·)) := ⟨_, _, _, opB_ok (fx 31 _ rfl), ok_add (g_at_right := g_at_right) (g_mRatio := g_mRatio) G0 F_radd, b_radd⟩
  obtain ⟨fd_rsub, F_rsub⟩ := fn 31 _ rfl
  have F_rsub : FP K "__sub__" "Ratio.__sub__" (inClass (topS 21) 5) [] (He.ma K (He.ga K "Ratio") "__sub__") fd_rsub := F_rsub
  have b_rsub := FunD.bindsN (ps := ["self", "other"]) F_rsub fun _ _ _ _ _ _ us hl => match us, hl with | [_, _], _ => rfl
  have g_rsub : GO P w K mg base (L2.CX P w) 7 (cR K) .Sub (spBinR K (· - ·)) := ⟨_, _, _, opB_ok (fx 32 _ rfl), ok_sub (g_at_right := g_at_right) (g_mRatio := g_mRatio) G0 F_rsub, b_rsub⟩
  obtain ⟨fd_rmul, F_rmul⟩ := fn 32 _ rfl
  have F_rmul : FP K "__mul__" "Ratio.__mul__" (inClass (topS 21) 6) [] (He.ma K (He.ga K "Ratio") "__mul__") fd_rmul := F_rmul
  have b_rmul := FunD.bindsN (ps := ["self", "other"]) F_rmul fun _ _ _ _ _ _ us hl => match us, hl with | [_, _], _ => rfl
  have g_rmul : GO P w K mg base (L2.CX P w) 7 (cR K) .Mult (spBinR K (· * ·)) := ⟨_, _, _, opB_ok (fx 33 _ rfl), ok_mul (g_at_right := g_at_right) (g_mRatio := g_mRatio) G0 F_rmul, b_rmul⟩
  obtain ⟨fd_cmp, F_cmp⟩ := fn 33 _ rfl
  have F_cmp : FP K "compared" "Ratio.compared" (inClass (topS 21) 8) [] (He.ma K (He.ga K "Ratio") "compared") fd_cmp := F_cmp
  have b_cmp := FunD.bindsN (ps := ["self", "other"]) F_cmp fun _ _ _ _ _ _ us hl => match us, hl with | [_, _], _ => rfl
  have g_R_compared := GH.mk (P := P) (w := w) (K := K) (mg := mg) (base := base) ⟨_, _, ok_cmp (g_at_right := g_at_right) (g_sign_of := g_sign_of) G0 F_cmp, metB_ok (fx 39 _ rfl), b_cmp⟩
  obtain ⟨fd_below, F_below⟩ := fn 34 _ rfl
  have F_below : FP K "is_below" "Ratio.is_below" (inClass (topS 21) 9) [] (He.ma K (He.ga K "Ratio") "is_below") fd_below := F_below
  have b_below := FunD.bindsN (ps := ["self", "other"]) F_below fun _ _ _ _ _ _ us hl => match us, hl with | [_, _], _ => rfl
  have g_R_is_below := GH.mk (P := P) (w := w) (K := K) (mg := mg) (base := base) ⟨_, _, ok_below (g_R_compared := g_R_compared) G0 F_below, metB_ok (fx 38 _ rfl), b_below⟩
  obtain ⟨fd_eqR, F_eqR⟩ := fn 35 _ rfl
  have F_eqR : FP K "__eq__" "Ratio.__eq__" (inClass (topS 21) 13) [] (He.ma K (He.ga K "Ratio") "__eq__") fd_eqR := F_eqR
  have b_eqR := FunD.bindsN (ps := ["self", "other"]) F_eqR fun _ _ _ _ _ _ us hl => match us, hl with | [_, _], _ => rfl
  have g_req := GN.mk (P := P) (w := w) (K := K) (mg := mg) (base := base) (C := cR K) (m := "__eq__") ⟨_, _, _, (nm_ok (fx 34 _ rfl)).1, (nm_ok (fx 34 _ rfl)).2, ok_eqR (g_is_integer := g_is_integer) G0 F_eqR, b_eqR⟩
  have g_rne : GNe P w K mg base (L2.CX P w) 2 (cR K) (spEqR K) := ⟨of_decide_eq_true (fx 43 _ rfl), G0.R.hm, g_req⟩
  obtain ⟨fd_initT, F_initT⟩ := fn 29 _ rfl
  have F_initT : FP K "__init__" "Stem.__init__" (inClass (topS 28) 0) [] (He.ma K (He.ga K "Stem") "__init__") fd_initT := F_initT
  have b_initT := FunD.bindsN (ps := ["self", "turn", "squared"]) F_initT fun _ _ _ _ _ _ us hl => match us, hl with | [_, _, _], _ => rfl
  have g_mStem : GM P w K mg base (L2.CX P w) 8 "Stem" (cT K) ["self", "turn", "squared"] [] (spInitT K) := ⟨_, _, [], ok_initT (g_R_sign := g_R_sign) (g_Ratio_of := g_Ratio_of) (g_is_ratio := g_is_ratio) (g_rmul := g_rmul) (g_rsub := g_rsub) (g_xBadStem := g_xBadStem) G0 F_initT, He.mkr_ok (fx 41 _ rfl), G0.mgStem, b_initT, .nil⟩
  obtain ⟨fd_needT, F_needT⟩ := fn 7 _ rfl
  have F_needT : FP K "need_stem" "need_stem" (topS 29) [] (He.ga K "need_stem") fd_needT := F_needT
  have b_needT := FunD.bindsN (ps := ["value", "part"]) F_needT fun _ _ _ _ _ _ us hl => match us, hl with | [_, _], _ => rfl
  have g_need_stem := GD.mk (P := P) (w := w) (K := K) (mg := mg) (base := base) ⟨_, _, [], ok_needT (g_xBadStem := g_xBadStem) G0 F_needT, gl "need_stem" (by decide +kernel), F_needT.kp, b_needT, .nil⟩
  obtain ⟨fd_needI, F_needI⟩ := fn 2 _ rfl
  have F_needI : FP K "need_integer" "need_integer" (topS 12) [] (He.ga K "need_integer") fd_needI := F_needI
  have b_needI := FunD.bindsN (ps := ["value", "part"]) F_needI fun _ _ _ _ _ _ us hl => match us, hl with | [_, _], _ => rfl
  have g_need_integer := GD.mk (P := P) (w := w) (K := K) (mg := mg) (base := base) ⟨_, _, [], ok_needI (g_is_integer := g_is_integer) (g_xBadNumber := g_xBadNumber) G0 F_needI, gl "need_integer" (by decide +kernel), F_needI.kp, b_needI, .nil⟩
  obtain ⟨fd_inW, F_inW⟩ := fn 1 _ rfl
  have F_inW : FP K "is_within" "is_within" (topS 11) [] (He.ga K "is_within") fd_inW := F_inW
  have b_inW := FunD.bindsN (ps := ["value", "least", "most"]) F_inW fun _ _ _ _ _ _ us hl => match us, hl with | [_, _, _], _ => rfl
  have g_is_within := GD.mk (P := P) (w := w) (K := K) (mg := mg) (base := base) ⟨_, _, [], ok_inW (g_is_integer := g_is_integer) G0 F_inW, gl "is_within" (by decide +kernel), F_inW.kp, b_inW, .nil⟩
  obtain ⟨fd_needW, F_needW⟩ := fn 3 _ rfl
  have F_needW : FP K "need_within" "need_within" (topS 13) [] (He.ga K "need_within") fd_needW := F_needW
  have b_needW := FunD.bindsN (ps := ["value", "least", "most", "part"]) F_needW fun _ _ _ _ _ _ us hl => match us, hl with | [_, _, _, _], _ => rfl
  have g_need_within := GD.mk (P := P) (w := w) (K := K) (mg := mg) (base := base) ⟨_, _, [], ok_needW (g_is_within := g_is_within) (g_xBadNumber := g_xBadNumber) G0 F_needW, gl "need_within" (by decide +kernel), F_needW.kp, b_needW, .nil⟩
  obtain ⟨fd_place, F_place⟩ := fn 8 _ rfl
  have F_place : FP K "place" "place" (topS 33) [] (He.ga K "place") fd_place := F_place
  have b_place := FunD.bindsN (ps := ["stem", "stud"]) F_place fun _ _ _ _ _ _ us hl => match us, hl with | [_, _], _ => rfl
  have g_place := GD.mk (P := P) (w := w) (K := K) (mg := mg) (base := base) ⟨_, _, [], ok_place (g_R_below := g_R_below) (g_need_integer := g_need_integer) (g_need_stem := g_need_stem) (g_rmul := g_rmul) (g_rsub := g_rsub) G0 F_place, gl "place" (by decide +kernel), F_place.kp, b_place, .nil⟩
  obtain ⟨fd_nrs, F_nrs⟩ := fn 9 _ rfl
  have F_nrs : FP K "nearest_rounds" "nearest_rounds" (topS 34) [] (He.ga K "nearest_rounds") fd_nrs := F_nrs
  have b_nrs := FunD.bindsN (ps := ["stem", "stud"]) F_nrs fun _ _ _ _ _ _ us hl => match us, hl with | [_, _], _ => rfl
  have g_nearest_rounds := GD.mk (P := P) (w := w) (K := K) (mg := mg) (base := base) ⟨_, _, [], ok_nrs (g_R_below := g_R_below) (g_R_compared := g_R_compared) (g_mRatio := g_mRatio) (g_place := g_place) (g_rmul := g_rmul) G0 F_nrs, gl "nearest_rounds" (by decide +kernel), F_nrs.kp, b_nrs, .nil⟩
  obtain ⟨fd_betw, F_betw⟩ := fn 11 _ rfl
  have F_betw : FP K "is_between" "is_between" (topS 36) [] (He.ga K "is_between") fd_betw := F_betw
  have b_betw := FunD.bindsN (ps := ["least", "ratio"]) F_betw fun _ _ _ _ _ _ us hl => match us, hl with | [_, _], _ => rfl
  have g_is_between := GD.mk (P := P) (w := w) (K := K) (mg := mg) (base := base) ⟨_, _, [], ok_betw (g_R_is_below := g_R_is_below) G0 F_betw, gl "is_between" (by decide +kernel), F_betw.kp, b_betw, .nil⟩
  obtain ⟨fd_fw, F_fw⟩ := fn 10 _ rfl
  have F_fw : FP K "first_within" "first_within" (topS 35) [] (He.ga K "first_within") fd_fw := F_fw
  have b_fw := FunD.bindsN (ps := ["stem", "low", "high", "most"]) F_fw fun _ _ _ _ _ _ us hl => match us, hl with | [_, _, _, _], _ => rfl
  have g_first_within := GD.mk (P := P) (w := w) (K := K) (mg := mg) (base := base) ⟨_, _, [], ok_fw (g_R_is_below := g_R_is_below) (g_Ratio_of := g_Ratio_of) (g_is_between := g_is_between) (g_is_ratio := g_is_ratio) (g_mRatio1 := g_mRatio1) (g_need_stem := g_need_stem) (g_need_within := g_need_within) (g_place := g_place) (g_xBadNumber := g_xBadNumber) G0 F_fw, gl "first_within" (by decide +kernel), F_fw.kp, b_fw, .nil⟩
  have g_first_within_k : GDK P w K mg base (L2.CX P w) 10 "first_within" ["stem", "low", "high", "most"] 4 [0, 1, 2, 3] (spFW K) := ⟨_, _, ["stem", "low", "high", "most"], ok_fw (g_R_is_below := g_R_is_below) (g_Ratio_of := g_Ratio_of) (g_is_between := g_is_between) (g_is_ratio := g_is_ratio) (g_mRatio1 := g_mRatio1) (g_need_stem := g_need_stem) (g_need_within := g_need_within) (g_place := g_place) (g_xBadNumber := g_xBadNumber) G0 F_fw, gl "first_within" (by decide +kernel), F_fw.kp, gk_4 F_fw rfl (fun _ _ _ _ _ _ _ _ _ _ => rfl)⟩
  have g_first_within_m : GDM P w K mg base (L2.CX P w) 10 "first_within" ["high", "most"] 2 2 (spFW K) := ⟨_, _, ["stem", "low", "high", "most"], ok_fw (g_R_is_below := g_R_is_below) (g_Ratio_of := g_Ratio_of) (g_is_between := g_is_between) (g_is_ratio := g_is_ratio) (g_mRatio1 := g_mRatio1) (g_need_stem := g_need_stem) (g_need_within := g_need_within) (g_place := g_place) (g_xBadNumber := g_xBadNumber) G0 F_fw, gl "first_within" (by decide +kernel), F_fw.kp, gm_22 F_fw rfl (fun _ _ _ _ _ _ _ _ _ _ => rfl)⟩
  obtain ⟨fd_pail, F_pail⟩ := fn 12 _ rfl
  have F_pail : FP K "_law_purse" "_law_purse" (topS 38) [] (He.ga K "_law_purse") fd_pail := F_pail
  have b_pail := FunD.bindsN (ps := ["_law_script"]) F_pail fun _ _ _ _ _ _ us hl => match us, hl with | [_], _ => rfl
  have g_l_purse := GD.mk (P := P) (w := w) (K := K) (mg := mg) (base := base) ⟨_, _, [], ok_pail G0 F_pail, gl "_law_purse" (by decide +kernel), F_pail.kp, b_pail, .nil⟩
  obtain ⟨fd_dip, F_dip⟩ := fn 13 _ rfl
  have F_dip : FP K "_law_coin" "_law_coin" (topS 39) [] (He.ga K "_law_coin") fd_dip := F_dip
  have b_dip := FunD.bindsN (ps := ["_law_purse_here", "_law_many"]) F_dip fun _ _ _ _ _ _ us hl => match us, hl with | [_, _], _ => rfl
  have g_l_coin := GD.mk (P := P) (w := w) (K := K) (mg := mg) (base := base) ⟨_, _, [], ok_dip G0 F_dip, gl "_law_coin" (by decide +kernel), F_dip.kp, b_dip, .nil⟩
  obtain ⟨fd_ofL, F_ofL⟩ := fn 14 _ rfl
  have F_ofL : FP K "_law_of" "_law_of" (topS 40) [] (He.ga K "_law_of") fd_ofL := F_ofL
  have b_ofL := FunD.bindsN (ps := ["_law_purse_here", "_law_some"]) F_ofL fun _ _ _ _ _ _ us hl => match us, hl with | [_, _], _ => rfl
  have g_l_of := GD.mk (P := P) (w := w) (K := K) (mg := mg) (base := base) ⟨_, _, [], ok_ofL (g_l_coin := g_l_coin) G0 F_ofL, gl "_law_of" (by decide +kernel), F_ofL.kp, b_ofL, .nil⟩
  obtain ⟨fd_stemL, F_stemL⟩ := fn 15 _ rfl
  have F_stemL : FP K "_law_stem" "_law_stem" (topS 41) [] (He.ga K "_law_stem") fd_stemL := F_stemL
  have b_stemL := FunD.bindsN (ps := ["_law_purse_here"]) F_stemL fun _ _ _ _ _ _ us hl => match us, hl with | [_], _ => rfl
  have g_l_stem := GD.mk (P := P) (w := w) (K := K) (mg := mg) (base := base) ⟨_, _, [], ok_stemL (g_l_coin := g_l_coin) (g_l_of := g_l_of) G0 F_stemL, gl "_law_stem" (by decide +kernel), F_stemL.kp, b_stemL, .nil⟩
  obtain ⟨fd_div, F_div⟩ := fn 17 _ rfl
  have F_div : FP K "_law_divisor" "_law_divisor" (topS 43) [] (He.ga K "_law_divisor") fd_div := F_div
  have b_div := FunD.bindsN (ps := ["_law_one", "_law_other"]) F_div fun _ _ _ _ _ _ us hl => match us, hl with | [_, _], _ => rfl
  have g_l_divisor := GD.mk (P := P) (w := w) (K := K) (mg := mg) (base := base) ⟨_, _, [], ok_div G0 F_div, gl "_law_divisor" (by decide +kernel), F_div.kp, b_div, .nil⟩
  obtain ⟨fd_first, F_first⟩ := fn 20 _ rfl
  have F_first : FP K "_law_first" "_law_first" (topS 46) [] (He.ga K "_law_first") fd_first := F_first
  have b_first := FunD.bindsN (ps := ["_law_p", "_law_q", "_law_low", "_law_high", "_law_under", "_law_most"]) F_first fun _ _ _ _ _ _ us hl => match us, hl with | [_, _, _, _, _, _], _ => rfl
  have g_l_first := GD.mk (P := P) (w := w) (K := K) (mg := mg) (base := base) ⟨_, _, [], ok_first G0 F_first, gl "_law_first" (by decide +kernel), F_first.kp, b_first, .nil⟩
  obtain ⟨fd_str, F_str⟩ := fn 19 _ rfl
  have F_str : FP K "_law_stretch" "_law_stretch" (topS 45) [] (He.ga K "_law_stretch") fd_str := F_str
  have b_str := FunD.bindsN (ps := ["_law_purse_here", "_law_p", "_law_q"]) F_str fun _ _ _ _ _ _ us hl => match us, hl with | [_, _, _], _ => rfl
  have g_l_stretch := GD.mk (P := P) (w := w) (K := K) (mg := mg) (base := base) ⟨_, _, [], ok_str (g_l_coin := g_l_coin) (g_l_of := g_l_of) G0 F_str, gl "_law_stretch" (by decide +kernel), F_str.kp, b_str, .nil⟩
  obtain ⟨fd_pairR, F_pairR⟩ := fn 16 _ rfl
  have F_pairR : FP K "_law_pair_right" "_law_pair_right" (topS 42) [] (He.ga K "_law_pair_right") fd_pairR := F_pairR
  have b_pairR := FunD.bindsN (ps := ["_law_purse_here", "_law_plain", "_law_stem_here"]) F_pairR fun _ _ _ _ _ _ us hl => match us, hl with | [_, _, _], _ => rfl
  have g_l_pair_right := GD.mk (P := P) (w := w) (K := K) (mg := mg) (base := base) ⟨_, _, [], ok_pairR (g_l_coin := g_l_coin) (g_l_divisor := g_l_divisor) (g_l_of := g_l_of) (g_place := g_place) (g_req := g_req) hnf G0 F_pairR, gl "_law_pair_right" (by decide +kernel), F_pairR.kp, b_pairR, .nil⟩
  obtain ⟨fd_winR, F_winR⟩ := fn 21 _ rfl
  have F_winR : FP K "_law_within_right" "_law_within_right" (topS 47) [] (He.ga K "_law_within_right") fd_winR := F_winR
  have b_winR := FunD.bindsN (ps := ["_law_purse_here", "_law_plain", "_law_stem_here"]) F_winR fun _ _ _ _ _ _ us hl => match us, hl with | [_, _, _], _ => rfl
  have g_l_within_right := GD.mk (P := P) (w := w) (K := K) (mg := mg) (base := base) ⟨_, _, [], ok_winR (g_first_within_k := g_first_within_k) (g_first_within_m := g_first_within_m) (g_l_coin := g_l_coin) (g_l_first := g_l_first) (g_l_of := g_l_of) (g_l_stretch := g_l_stretch) (g_mRatio := g_mRatio) G0 F_winR, gl "_law_within_right" (by decide +kernel), F_winR.kp, b_winR, .nil⟩
  obtain ⟨fd_push, F_push⟩ := fn 18 _ rfl
  have F_push : FP K "_law_pushed_right" "_law_pushed_right" (topS 44) [] (He.ga K "_law_pushed_right") fd_push := F_push
  have b_push := FunD.bindsN (ps := ["_law_purse_here", "_law_plain", "_law_stem_here"]) F_push fun _ _ _ _ _ _ us hl => match us, hl with | [_, _, _], _ => rfl
  have g_l_pushed_right := GD.mk (P := P) (w := w) (K := K) (mg := mg) (base := base) ⟨_, _, [], ok_push (g_l_coin := g_l_coin) (g_mRatio := g_mRatio) (g_mStem := g_mStem) (g_nearest_rounds := g_nearest_rounds) (g_place := g_place) (g_radd := g_radd) (g_rne := g_rne) hnf G0 F_push, gl "_law_pushed_right" (by decide +kernel), F_push.kp, b_push, .nil⟩
  obtain ⟨fd_heard, F_heard⟩ := fn 22 _ rfl
  have F_heard : FP K "_law_heard" "_law_heard" (topS 48) [] (He.ga K "_law_heard") fd_heard := F_heard
  have gHd : GHd K mg := GHd.of F_heard (gl "_law_heard" (by decide +kernel))
  obtain ⟨fd_refR, F_refR⟩ := fn 23 _ rfl
  have F_refR : FP K "_law_refused_right" "_law_refused_right" (topS 49) [] (He.ga K "_law_refused_right") fd_refR := F_refR
  have b_refR := FunD.bindsN (ps := ["_law_purse_here", "_law_stem_here"]) F_refR fun _ _ _ _ _ _ us hl => match us, hl with | [_, _], _ => rfl
  have c_refR : fd_refR.code = .ref (He.cT K ("_law_refused_right", none)).1 := code_of F_refR
  have g_l_refused_right := GD.mk (P := P) (w := w) (K := K) (mg := mg) (base := base) ⟨_, _, [], ok_refR (g_first_within := g_first_within) (g_l_coin := g_l_coin) (g_l_of := g_l_of) (g_mRatio := g_mRatio) (g_mRatio1 := g_mRatio1) (g_rsub := g_rsub) (T := TT K) G0 gE gHd (TB _ (List.mem_map.mpr ⟨_, List.mem_cons_self, rfl⟩)) List.mem_cons_self huR c_refR F_refR, gl "_law_refused_right" (by decide +kernel), F_refR.kp, b_refR, .nil⟩
  exact ok_law (g_l_pair_right := g_l_pair_right) (g_l_purse := g_l_purse) (g_l_pushed_right := g_l_pushed_right) (g_l_refused_right := g_l_refused_right) (g_l_stem := g_l_stem) (g_l_within_right := g_l_within_right) (g_mRatio := g_mRatio) (g_mStem := g_mStem) (T := TT K) G0 F_law
end Sp
end
set_option Elab.async false
set_option linter.all false
set_option maxRecDepth 100000
set_option maxHeartbeats 0
namespace Sp
open PySem PySem.Spec PyProof.Rows L2
open PySem.W (Frag)
abbrev lw : PySem.W.OpenLaw := PySem.Challenge.rw_spiralsays_k14_who_stands_above_whom
theorem law_at {w : World} {mg : Str → Option Value} {fa : Addr} {h : Heap} (Y : ∃ K : Frag, K.In h ∧ SaysB h K) (G : h.Ns mainGlobals mg) (hfa : mg "law" = some (.ref fa)) :
    ∃ K : Frag, K.In h ∧ LamX.LawAtS lw w K (L2.CX lw.prog w) 15 63 "_law_script" mg fa h := by
  obtain ⟨K, KX, c⟩ := Y
  have e := hfa.symm.trans (He.glo_ok KX G (c.gl "law" (by decide +kernel)))
  cases e
  obtain ⟨fd, F⟩ := (c.fn _ (List.mem_of_getElem? (show fnL[24]? = some _ from rfl))).elim fun h1 h2 => He5.DefA.funD h2 h1
  have F : FP K "law" "law" (topS 50) [] (He.ga K "law") fd := F
  have b := FunD.bindsA (ps := ["_law_script"]) F fun _ _ _ _ _ _ us hl => match us, hl with | [_], _ => rfl
  refine ⟨K, KX, fd, tfL.map (He.cT K), spLaw K (TT K), fun p hp => ?_, fun p hp => ?_, fun p hp => ?_, fun s v => b s [v] rfl, fun H a ns hl _ hH hS => ⟨a, ns, rfl, hS, fun p hp => ?_, fun _ => rfl⟩, fun base KB NB TB => law_ok c KB NB TB F⟩
  · obtain ⟨q, hq, rfl⟩ := List.mem_map.mp hp
    exact c.empty q hq
  · obtain ⟨q, hq, rfl⟩ := List.mem_map.mp hp
    exact c.out q hq
  · obtain ⟨q, hq, rfl⟩ := List.mem_map.mp hp
    exact PySem.W.codeHd_of_K KX (c.hd q hq)
  · rw [List.mem_singleton.mp hp]
    exact LamX.TabS.nil (hH _ (List.mem_map.mpr ⟨_, List.mem_cons_self, rfl⟩))
end Sp
open PySem PySem.W PySem.Calls PyProof.Rows
theorem PySem.Challenge.cw_spiralsays_k14_who_stands_above_whom_holds : PySem.Challenge.rw_spiralsays_k14_who_stands_above_whom.Holds := by
  w_on; o_law
  refine HandSHeadRun.head_imp (r := Sp.Rw) (q := Sp.qv) (H := Sp.hk) (ob := Sp.ob) (M := 30000) (loose := Sp.names) (d := HandSHeadRun.topDef Sp.Rw.prog 50) (kwd := []) Sp.ob_eq Sp.run (by kernel_rfl) (by kernel_rfl) (by kernel_rfl) (by rfl) (by first | assumption | decide +kernel) (by decide +kernel) ⟨rfl, rfl, rfl, rfl, rfl, by decide +kernel⟩ ?hw ?hc
  case hw => w_witness2
  case hc =>
    refine LamX.walk_ofTsE (l := Sp.lw) (n := 63) (k := 15) (x := "_law_script") (CX := fun w => L2.CX Sp.lw.prog w) rfl (by decide) (by kernel_rfl) ⟨rfl, by decide, by decide⟩ ?F (fun w H s e s' z => ?C)
    case C =>
      obtain ⟨_, _, _, _, _, _, _, _, _, _, _, _, z⟩ := z
      exact z
    case F =>
      intro w mg fa h Y G hmg0
      have hmg : mg ("law" : PySem.Str) = some (.ref fa) := by
        have e : (HandSHeadRun.topDef Sp.Rw.prog 50).name = ("law" : PySem.Str) := by kernel_rfl
        rw [← e]
        exact hmg0
      exact Sp.law_at Y G hmg
