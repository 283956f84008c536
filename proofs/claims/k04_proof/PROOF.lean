import PyProof.Rows.All
import Wide.All
import OpenK.AllK
import Wide.FinOn
import KE.KOpsOwn
import HandS.ForMost
import HandS.Exc
import HandS.ExcInit
import HandS.ExcField
import HandS.TryMany
import HandS.Property
import HandS.ClsMeth
import HandS.SlotsOwn
import HandS.IsInst
import HandS.Gcd
import HandS.Wide
import HandS.WordsExc
import HandS.Evl
import HandS.CallSlots
import HandS.Lambda
import HandS.EndTab
import HandS.Defaults
import HandS.HeadHook4
import HandS.HeadWalk
import HandS.Head4
import HandS.HeadNt
import HandS.Head0
import HandS.Head1
import HandS.Head2
import HandS.Head3
import PySem.Challenge.RW_spiralsays_k04_squares_of_laid_studs
section
set_option Elab.async false
set_option linter.all false
set_option maxRecDepth 100000
set_option maxHeartbeats 4000000
namespace Sp
open PySem PySem.Spec PyProof.Rows L2
/-! ### operators of an own class -/
/-- what of the text the class at C must have for the operator's name, its def at g -/
structure OpC (K : PySem.W.Frag) (C : Addr) (m r : Str) (g : Addr) : Prop where
  first : PySem.W.selfFirst K C = true
  at_ : PySem.W.findIn K (.ref C) m = some (some (.ref g))
  fn : PySem.W.isFn K (.ref g) = true
  rev : PySem.W.findIn K (.ref C) r = some none
  int1 : ∃ fo, PySem.W.findIn K (.type "int") m = some fo
  int2 : ∃ ro, PySem.W.findIn K (.type "int") r = some ro
  sub : PySem.W.subIn K (.type "int") (.ref C) = some false
def rBin (C : Addr) (sp : Sp) (E : XK) : R2 := fun x y H Q => ∃ a dx fs, x = .ref a ∧ H a = some (.ins C dx fs) ∧
  ((∃ b dy gs, y = .ref b ∧ H b = some (.ins C dy gs)) ∨ ∃ i, y = .int i) ∧ sp [x, y] H Q E
section
variable {X : Cx} {CX : CXT} {k : Nat} {C g : Addr} {fd : FuncData} {ps : List Str} {sp : Sp} {E : XK} {op : Operator}
theorem run_dun {pins : List (Addr × Obj)} {σ : L2.St} {H : Hp} {s : Shared} {Q : VK} {us : List Value} {vs : List V} (F : FnOk X.prog X.w X.K X.mg X.base CX k g fd ps sp) (hr : Room k X.A) (hb : Binds X.K fd ps []) (hx : Passes CX X E)
    (I : Inv X pins σ H s) (r : Vals vs us) (h : sp vs H Q E) : wpAny (model X.prog X.w) X.A (call (.ref g) us) (PySem.W.CmpBack (EP X pins σ Q)) X.xe s := by
  refine wpAny_mono (run_fn (dvs := []) (ds := []) F hr hb .nil hx I r (by rw [List.append_nil]; exact h)) (fun v s' z => ?_) fun _ _ x => x
  obtain ⟨z', H', I', rz, qz⟩ := z
  exact SlX.cmpback rz ⟨z', H', I', rz, qz⟩
/-- x op y by the class's own def -/
theorem op_bin (O : OpC X.K C (PySem.dunder op.info.2) (PySem.dunderR op.info.2) g) (F : FnOk X.prog X.w X.K X.mg X.base CX k g fd ps sp) (hr : Room k X.A) (hb : Binds X.K fd ps []) (hx : Passes CX X E) :
    OpR X (binaryOp op) (rBin C sp E) := by
  intro pins s σ H x y v u Q I rx ry h
  obtain ⟨a, dx, fs, rfl, ha, hy, q⟩ := h
  cases (show v = Value.ref a from rx)
  obtain ⟨mA, J, _⟩ := ins_get I.hok ha
  obtain ⟨od, J, _⟩ := J.look
  obtain ⟨m, hF⟩ := I.fr
  rcases hy with ⟨b, dy, gs, rfl, hb'⟩ | ⟨i, rfl⟩
  · cases (show u = Value.ref b from ry)
    obtain ⟨mB, J', _⟩ := ins_get I.hok hb'
    obtain ⟨od', J', _⟩ := J'.look
    exact PySem.W.binop_K hF I.ok.mod.kin J J'.type O.first O.at_ O.fn (run_dun (us := [.ref a, .ref b]) (vs := [.ref a, .ref b]) F hr hb hx I (.cons rfl (.cons rfl .nil)) q)
  · obtain ⟨fo, h1⟩ := O.int1
    obtain ⟨ro, h2⟩ := O.int2
    obtain ⟨t, rfl⟩ := ry
    exact PySem.W.ksp_binT hF I.ok.mod.kin J rfl O.first O.at_ O.fn O.rev (.inl rfl) h1 h2 O.sub (run_dun (us := [.ref a, .int i t]) (vs := [.ref a, .int i]) F hr hb hx I (.cons rfl (.cons ⟨t, rfl⟩ .nil)) q)
/-- -x by the class's own def -/
def rUn (C : Addr) (sp : Sp) (E : XK) : V → Hp → VK → Prop := fun x H Q => ∃ a dx fs, x = .ref a ∧ H a = some (.ins C dx fs) ∧ sp [x] H Q E
theorem un_own (hs : PySem.W.findIn X.K (.ref C) "__neg__" = some (some (.ref g))) (hf : PySem.W.isFn X.K (.ref g) = true) (F : FnOk X.prog X.w X.K X.mg X.base CX k g fd ps sp) (hr : Room k X.A) (hb : Binds X.K fd ps []) (hx : Passes CX X E) :
    UnR X (unaryOp .USub) (rUn C sp E) := by
  intro pins s σ H x v Q I rx h
  obtain ⟨a, dx, fs, rfl, ha, q⟩ := h
  cases (show v = Value.ref a from rx)
  obtain ⟨mA, J, _⟩ := ins_get I.hok ha
  obtain ⟨od, J, _⟩ := J.look
  obtain ⟨m, hF⟩ := I.fr
  refine PySem.W.ksp_neg hF I.ok.mod.kin J hs hf ?_
  exact run_fn (dvs := []) (ds := []) (us := [.ref a]) (vs := [.ref a]) F hr hb .nil hx I (.cons rfl .nil) (by rw [List.append_nil]; exact q)
/-- x == y, x of the class at C with an own __eq__; y an instance of C, or a flat value whose type is no class below C -/
def rEqOwn (K : PySem.W.Frag) (C : Addr) (sp : Sp) (E : XK) : R2 := fun x y H Q => ∃ a dx fs t, x = .ref a ∧ H a = some (.ins C dx fs) ∧ TyX K H y t ∧ PySem.W.notFirst K C t = true ∧ sp [x, y] H Q E
theorem ty_looks {pins : List (Addr × Obj)} {σ : L2.St} {H : Hp} {s : Shared} {y : V} {u t : Value} (I : Inv X pins σ H s) (ry : RelV y u) (ty : TyX X.K H y t) : PySem.W.Looks (model X.prog X.w) s.heap (typeOf u) t := by
  obtain ⟨P, Z, p, _⟩ := kit_of I ry ty
  exact Z.ty _ _ I.kIn p

theorem op_eqOwn (hs : PySem.W.findIn X.K (.ref C) "__eq__" = some (some (.ref g))) (hf : PySem.W.isFn X.K (.ref g) = true) (F : FnOk X.prog X.w X.K X.mg X.base CX k g fd ps sp) (hr : Room k X.A) (hb : Binds X.K fd ps []) (hx : Passes CX X E) :
    OpR X (compareOp .Eq) (rEqOwn X.K C sp E) := by
  intro pins s σ H x y v u Q I rx ry h
  obtain ⟨a, dx, fs, t, rfl, ha, ty, hn, q⟩ := h
  cases (show v = Value.ref a from rx)
  obtain ⟨mA, J, _⟩ := ins_get I.hok ha
  obtain ⟨od, J, _⟩ := J.look
  obtain ⟨m, hF⟩ := I.fr
  show wpAny (model X.prog X.w) X.A (richCompare .Eq (.ref a) u) (EP X pins σ Q) X.xe s
  exact PySem.W.cmp_K (op := .Eq) (tb := t) hr.units0 hF I.ok.mod.kin J (ty_looks I ry ty) hn hs hf (run_dun (us := [.ref a, u]) (vs := [.ref a, y]) F hr hb hx I (.cons rfl (.cons ry .nil)) q)
/-- abs(x) by the class's own def -/
def rAbsOwn (C : Addr) (sp : Sp) (E : XK) : List V → Hp → VK → Prop := fun xs H Q => ∃ a dx fs, xs = [.ref a] ∧ H a = some (.ins C dx fs) ∧ sp [.ref a] H Q E
theorem entry_abs : entryFor table "abs" = some Builtin.«abs» := entryFor_of_tree (by kernel_rfl)
/-- staticmethod: its record at p, its def at g -/
structure SMet (K : PySem.W.Frag) (C : Addr) (mc : Value) (m : Str) (p g : Addr) : Prop where
  rd : PySem.W.readsIn K C mc = true
  ga : PySem.W.specialIn K (.ref C) "__getattribute__" = some (some (.builtin "type.__getattribute__"))
  at_ : PySem.W.findCls K (.ref C) mc m = some (.get (.builtin "staticmethod.__get__") (.ref p) .none (.ref C))
  rc : ∃ rest, PySem.W.recIn K p "staticmethod" = some (.ref g :: rest)
  kp : PySem.W.keepIn K (.ref g) = true
def tSMeth (C : Addr) (sp : Sp) (E : XK) (ta : TE) (t : TA) : TE := fun σ H Q => ta σ H fun x H1 => x = .ref C ∧ t σ H1 fun vs H2 => sp vs H2 Q E
variable {o e : Expr} {es : List Expr} {m : Str} {apos pos : Pos} {ta : TE} {t : TA} {pl : Sem Bool} {mc : Value} {p : Addr}
theorem pe_smeth (he : PE X o ta) (c : SMet X.K C mc m p g) (F : FnOk X.prog X.w X.K X.mg X.base CX k g fd ps sp) (hr : Room k X.A) (hb : Binds X.K fd ps []) (hx : Passes CX X E) (ha : PA X (e :: es) t)
    (hst : starEach (e :: es) X.env = (false, eval e X.env) :: starEach es X.env := by rfl) (hpl : (backTo pos (starEach es X.env)).any (·.1) = false := by rfl)
    (ht : eval (.Call (.Attribute o m apos) (e :: es) [] pos) X.env = (do
      let ov ← eval o X.env
      standAt apos.atName
      let (f, first) ← holding [ov] (getMethod ov m pl)
      callWith pos f first (backTo pos (starEach (e :: es) X.env)) (backToKw pos (keywordEach [] X.env))) := by rfl) :
    PE X (.Call (.Attribute o m apos) (e :: es) [] pos) (tSMeth C sp E ta t) := by
  refine ⟨fun pins s σ H Q I h => ?_⟩
  refine PySem.W.methodCall_KW (pl := pl) (thn (he.run pins s σ H _ I h) fun u s1 ⟨x, H1, I1, rx, ex, q⟩ => ?_) ht
  subst ex
  obtain rfl : u = Value.ref C := rx
  obtain ⟨rest, hp⟩ := c.rc
  refine PySem.W.method_cls I1.kIn c.ga (PySem.W.cls_bind I1.kIn c.rd c.at_ (wpAny_call (PySem.W.sm_get (s := { s1 with toks := s1.toks + 1 }) I1.kIn hp (PySem.W.handed_on rfl ?_))))
  have I2 := I1.tok (s1.toks + 1)
  refine PySem.W.callWith_K (h₀ := X.base) I.ok.mod.kin c.kp (thn (ha.run pos pins _ σ H1 _ I2 q) fun us s3 ⟨vs, H2, I3, r, q2⟩ => ⟨I3.kIn, ?_⟩) hst hpl
  exact run_fn (dvs := []) (ds := []) F hr hb .nil hx I3 r (by rw [List.append_nil]; exact q2)
end
/-! ### numbers -/
def CDivB (_ j : Int) : Prop := j ≠ 0 ∧ j.natAbs < 2 ^ 4000
def CMulB (i j : Int) : Prop := i.natAbs < 2 ^ 4000 ∧ j.natAbs < 2 ^ 4000
section
variable {X : Cx}
theorem lg {x : Int} (h : x.natAbs < 2 ^ 4000) : x.natAbs.log2 < 4000 := PySem.Flt.log2_lt_of (by decide) h
theorem op_fdivB : OpR X (binaryOp .FloorDiv) (rI CDivB fun i j => .int (i.fdiv j)) := opI fun i j _ _ _ _ _ hc q =>
  floordiv_int hc.1 q (.inl (PyProof.noPylong_of_log2 (Nat.lt_of_lt_of_le (lg hc.2) (by decide))))
theorem op_mulB : OpR X (binaryOp .Mult) (rI CMulB fun i j => .int (i * j)) := opI fun _ _ _ _ _ _ _ hc q => mul_int q (CMulW.ok (show _ + _ < 1000000 by have := lg hc.1; have := lg hc.2; omega))
end

section
variable {X : Cx} {CX : CXT} {k : Nat} {C g : Addr} {fd : FuncData} {ps ks : List Str} {sp : Sp} {E : XK}
theorem run_in1 {pins : List (Addr × Obj)} {σ : L2.St} {H : Hp} {s : Shared} {Q : VK} {us : List Value} {vs : List V} (F : FnOk X.prog X.w X.K X.mg X.base CX k g fd ps sp) (hr : Room (k + 1) X.A) (hb : Binds X.K fd ps []) (hx : Passes CX X E)
    (I : Inv X pins σ H s) (r : Vals vs us) (h : sp vs H Q E) : wpAny (model X.prog X.w) X.A.in1 (call (.ref g) us) (EP X pins σ Q) X.xe s := by
  have hl : (us ++ []).length = ps.length := by
    rw [List.append_nil, ← r.length]
    exact F.len _ _ _ _ h
  have hb' := hb s us I.kIn hl
  rw [List.append_nil] at hb'
  refine wpAny_call (codeAny_mono (F.run X.A.in1 X.stack s H ⟨us, []⟩ us vs Q E hr.in1 I.env0.in1 hb' r h) fun r s' hq => ?_)
  cases r with
  | error e => exact hx pins σ H s e s' I hq
  | ok fl =>
    cases fl with
    | ret u => exact I.after hq
    | next => exact False.elim hq
    | brk => exact False.elim hq
    | cont => exact False.elim hq
theorem call_absOwn (hs : PySem.W.findIn X.K (.ref C) "__abs__" = some (some (.ref g))) (hf : PySem.W.isFn X.K (.ref g) = true) (F : FnOk X.prog X.w X.K X.mg X.base CX k g fd ps sp) (hr : Room (k + 1) X.A) (hb : Binds X.K fd ps []) (hx : Passes CX X E) :
    CallR X (.builtin "abs") (rAbsOwn C sp E) := by
  intro pins s σ H xs us Q I r h
  obtain ⟨a, dx, fs, rfl, ha, q⟩ := h
  obtain ⟨u, rfl, ru⟩ := vals1 r
  cases (show u = Value.ref a from ru)
  obtain ⟨mA, J, _⟩ := ins_get I.hok ha
  obtain ⟨od, J, _⟩ := J.look
  refine PySem.Calls.call_function_entry kind_abs plain_abs PyProof.Rows.entry_abs (args_abs _) ?_
  unfold Builtin.«abs»
  refine wpAny_bind (m := oneArg "abs" _) (wpAny_pure ?_)
  refine wpAny_bind (m := callSpecial? (.ref a) (Str.ofString "__abs__")) (PySem.W.special_fn I.kIn J hs (beq_iff_eq.mp hf) (wpAny_mono (run_in1 (us := [.ref a]) (vs := [.ref a]) F hr hb hx I (.cons rfl .nil) q) (fun v s' z => ?_) fun _ _ x => x))
  exact wpAny_pure ⟨_, rfl, z⟩
/-! ### a def's name in a call -/
/-- the module's name x is a def that keeps sp; dvs fill up -/
structure GD (P : Program) (w : World) (K : PySem.W.Frag) (mg : Str → Option Value) (base : Heap) (CX : CXT) (k : Nat) (x : Str) (ps : List Str) (dvs : List V) (sp : Sp) : Prop where
  ex : ∃ (f : Addr) (fd : FuncData) (ds : List Value), FnOk P w K mg base CX k f fd ps sp ∧ mg x = some (.ref f) ∧ PySem.W.keepIn K (.ref f) = true ∧ Binds K fd ps ds ∧ Vals dvs ds
theorem pe_gd {dvs : List V} {x : Str} {p pos : Pos} {e : Expr} {es : List Expr} {t : TA} (G : GD X.prog X.w X.K X.mg X.base CX k x ps dvs sp) (hr : Room k X.A) (hg : Gl X x) (hx : Passes CX X E)
    (ha : PA X (e :: es) t) (hdb : (x == ("__debug__" : Str)) = false := by decide) (he : starEach (e :: es) X.env = (false, eval e X.env) :: starEach es X.env := by rfl) (hpl : (backTo pos (starEach es X.env)).any (·.1) = false := by rfl) :
    PE X (.Call (.Name x p) (e :: es) [] pos) (tCall sp dvs E t) := by
  obtain ⟨f, fd, ds, F, h1, h2, h3, h4⟩ := G.ex
  exact pe_call F hr hg h1 h2 h3 h4 hx ha hdb he hpl
/-- the same for any caller's slots -/
theorem pe_gdS {dvs : List V} {x : Str} {p pos : Pos} {e : Expr} {es : List Expr} {t : TA} {E : L2.St → XK} (G : GD X.prog X.w X.K X.mg X.base CX k x ps dvs sp) (hr : Room k X.A) (hg : Gl X x) (hx : ∀ σ, PassesAt CX X σ (E σ))
    (ha : PA X (e :: es) t) (hdb : (x == ("__debug__" : Str)) = false := by decide) (he : starEach (e :: es) X.env = (false, eval e X.env) :: starEach es X.env := by rfl) (hpl : (backTo pos (starEach es X.env)).any (·.1) = false := by rfl) :
    PE X (.Call (.Name x p) (e :: es) [] pos) (tCallSD sp dvs E t) := by
  obtain ⟨f, fd, ds, F, h1, h2, h3, h4⟩ := G.ex
  exact pe_callSD F hr hg h1 h2 h3 h4 hx ha hdb he hpl
/-- a class that is made by its __init__ -/
structure GM (P : Program) (w : World) (K : PySem.W.Frag) (mg : Str → Option Value) (base : Heap) (CX : CXT) (k : Nat) (x : Str) (C : Addr) (ps : List Str) (dvs : List V) (sp : Sp) : Prop where
  ex : ∃ (f : Addr) (fd : FuncData) (ds : List Value), FnOk P w K mg base CX k f fd ps sp ∧ Mk K C f ∧ mg x = some (.ref C) ∧ Binds K fd ps ds ∧ Vals dvs ds
theorem pe_gm {dvs : List V} {x : Str} {p pos : Pos} {e : Expr} {es : List Expr} {t : TA} (G : GM X.prog X.w X.K X.mg X.base CX k x C ps dvs sp) (hr : Room (k + 1) X.A) (hg : Gl X x) (hx : Passes CX X E)
    (ha : PA X (e :: es) t) (hdb : (x == ("__debug__" : Str)) = false := by decide) (he : starEach (e :: es) X.env = (false, eval e X.env) :: starEach es X.env := by rfl) (hpl : (backTo pos (starEach es X.env)).any (·.1) = false := by rfl) :
    PE X (.Call (.Name x p) (e :: es) [] pos) (tMake C sp dvs E t) := by
  obtain ⟨f, fd, ds, F, M, h1, h3, h4⟩ := G.ex
  exact pe_make M F hr hg h1 h3 h4 hx ha hdb he hpl
/-- a method of the class at C -/
structure GH (P : Program) (w : World) (K : PySem.W.Frag) (mg : Str → Option Value) (base : Heap) (CX : CXT) (k : Nat) (C : Addr) (m : Str) (ps : List Str) (sp : Sp) : Prop where
  ex : ∃ (f : Addr) (fd : FuncData), FnOk P w K mg base CX k f fd ps sp ∧ Meth K C m f ∧ Binds K fd ps []
theorem pe_gh {o e : Expr} {es : List Expr} {m : Str} {apos pos : Pos} {ta : TE} {t : TA} {pl : Sem Bool} (he : PE X o ta) (c : Cls X.K C) (G : GH X.prog X.w X.K X.mg X.base CX k C m ps sp) (hr : Room k X.A) (hx : Passes CX X E) (ha : PA X (e :: es) t)
    (hst : starEach (e :: es) X.env = (false, eval e X.env) :: starEach es X.env := by rfl) (hpl : (backTo pos (starEach es X.env)).any (·.1) = false := by rfl)
    (ht : eval (.Call (.Attribute o m apos) (e :: es) [] pos) X.env = (do
      let ov ← eval o X.env
      standAt apos.atName
      let (f, first) ← holding [ov] (getMethod ov m pl)
      callWith pos f first (backTo pos (starEach (e :: es) X.env)) (backToKw pos (keywordEach [] X.env))) := by rfl) :
    PE X (.Call (.Attribute o m apos) (e :: es) [] pos) (tMeth C m sp [] E ta t) := by
  obtain ⟨f, fd, F, M, hb⟩ := G.ex
  exact pe_meth he c M F hr hb .nil hx ha hst hpl ht
end

/-! ### an error of one field -/
def spI1 (C : Addr) (f : Str) : Sp := fun vs H Q _ => ∃ a v, vs = [.ref a, v] ∧ H a = some (exo a C none) ∧ ∀ dx, H dx = none → dx ≠ a → Q .non (upd (upd H dx (exd dx [(f, v)])) a (exo a C (some dx)))
/-- the error's class x, at C, its field f -/
structure GX (P : Program) (w : World) (K : PySem.W.Frag) (mg : Str → Option Value) (base : Heap) (k : Nat) (x f : Str) (C : Addr) : Prop where
  T : OexC K C
  hm : mg x = some (.ref C)
  ex : ∃ (fI : Addr) (fd : FuncData), PySem.W.findIn K (.ref C) "__init__" = some (some (.ref fI)) ∧ PySem.W.typeIn K (.ref fI) = some (.type "function") ∧ FnOk P w K mg base (L2.CX P w) k fI fd ["self", f] (spI1 C f) ∧ Binds K fd ["self", f] []
section
variable {X : Cx} {k : Nat} {x f : Str} {C : Addr} {e : Expr} {ta : TA} {p pos pos2 : Pos}
theorem pmk1 (G : GX X.prog X.w X.K X.mg X.base k x f C) (hr : Room (k + 1) X.A) (hg : Gl X x) (ha : PA X [e] ta) (hdb : (x == ("__debug__" : Str)) = false := by decide)
    (he : starEach (e :: []) X.env = (false, eval e X.env) :: starEach [] X.env := by rfl) (hpl : (backTo pos (starEach [] X.env)).any (·.1) = false := by rfl) : PMk X (.Call (.Name x p) [e] [] pos) (tMkO C (spI1 C f) [] ta) := by
  obtain ⟨fI, fd, h1, h2, h3, h4⟩ := G.ex
  exact pmk_oex G.T h1 h2 h3 hr h4 .nil passL hg G.hm ha hdb he hpl
/-- what such a raise asks behind its argument v, at H1 -/
theorem mk1 {v : V} {H1 : Hp} {Q : XK} (h : ∀ d H2, Same H1 H2 → H1 d = none → H2 d = some (.xd [(f, v)]) → Q (.ref C) (some d) H2) :
    ([v] : List V).length ≤ 1000 ∧ ∀ a, H1 a = none → spI1 C f (.ref a :: ([v] ++ [])) (upd H1 a (exo a C none))
      (fun u H2 => u = .non ∧ ∃ (d : Addr) (fs : List (Str × V)), H2 a = some (exo a C (some d)) ∧ H2 d = some (exd d fs) ∧ H1 d = none ∧ Q (.ref C) (some d) (upd (del H2 a) d (.xd fs))) (fun _ _ _ => False) := by
  refine ⟨by simp, fun a na => ⟨a, v, rfl, upd_same, fun dx nd ne => ⟨rfl, dx, [(f, v)], upd_same, ?_, ?_, h _ _ (fun b o hb => ?_) ?_ upd_same⟩⟩⟩
  · rw [upd_ne ne, upd_same]
  · rw [upd_ne ne] at nd
    exact nd
  · have nb : b ≠ a := ne_of_none hb na
    have nd' : H1 dx = none := by
      rw [upd_ne ne] at nd
      exact nd
    rw [upd_ne (ne_of_none hb nd'), del_ne nb, upd_ne nb, upd_ne (ne_of_none hb nd'), upd_ne nb]
    exact hb
  · rw [upd_ne ne] at nd
    exact nd
end
/-! ### several clauses with names -/
def wManyA (K : PySem.W.Frag) (Wout : WX) (D : Ends) : List (Value × Nat × (Addr → Value → Option Addr → TS)) → WX
  | [] => Wout
  | (c, i, ts) :: r => fun cls d σ H => ∃ b, PySem.W.exmOne K cls c = some b ∧
      (b = true → ∀ a, H a = none → ts a cls d { nx := fun σ' H' => D.nx (σ'.set i none) H', rt := D.rt, bk := fun σ' H' => D.bk (σ'.set i none) H', ct := fun σ' H' => D.ct (σ'.set i none) H' } (σ.set i (some (.ref a))) H) ∧
      (b = false → wManyA K Wout D r cls d σ H)
inductive HdsA (X : Cx) : List ExceptHandler → List (Value × Nat × (Addr → Value → Option Addr → TS)) → Prop
  | nil : HdsA X [] []
  | cons {x n : Str} {c : Value} {i : Nat} {ts : Addr → Value → Option Addr → TS} {b₀ : Stmt} {suite : List Stmt} {np pos' : Pos} {hds : List ExceptHandler} {l : List (Value × Nat × (Addr → Value → Option Addr → TS))} (hc : Names X x c)
      (hi : X.N[i]? = some n) (hln : X.env.kindOf n = some .local)
      (hsu : ∀ (a : Addr) (oe : Obj) (cls : Value) (d : Option Addr) (pn : List (Addr × Obj)), Zc cls d oe → (∃ vs, oe.data = .fields vs) → PSs (X.suite a ((a, oe) :: pn)) (b₀ :: suite) (ts a cls d)) (r : HdsA X hds l) :
      HdsA X (.ExceptHandler (some (.Name x np)) (some n) (b₀ :: suite) pos' :: hds) ((c, i, ts) :: l)
section
variable {X : Cx} {body : List Stmt} {h₀ : ExceptHandler} {hds : List ExceptHandler} {l : List (Value × Nat × (Addr → Value → Option Addr → TS))} {pos : Pos} {tb : WX → TS} {Wout : WX}
theorem ps_try_manyA (hs : X.stack = X.env :: X.outer) (hf : X.env.frame = some X.env.locals) (hN : X.N.Nodup) (tk : Takes X Wout)
    (hb : ∀ (W : WX) (pn : List (Addr × Obj)) (xe : Value → Shared → Prop), Takes (X.tr pn xe) W → PassesOwn (model X.prog X.w) X.A X.env xe → PSs (X.tr pn xe) body (tb W))
    (hh : HdsA X (h₀ :: hds) l) : PS X (.Try body (h₀ :: hds) [] [] pos) (fun D σ H => tb (wManyA X.K Wout D l) D σ H) := by
  refine ⟨fun pins s σ H D I h => ?_⟩
  have ok := I.ok
  have hfr : X.A.frames = some (X.env :: X.outer) := by rw [ok.frames, hs]
  refine wpAny_Try_except ?_
  refine wpAny_mono ((hb (wManyA X.K Wout D l) (X.pn ++ pins) (fun e s₁ => wpAny (model X.prog X.w) X.A (noteFrame e X.env) (fun _ s₂ => wpAny (model X.prog X.w) X.A (setFlight e none) (fun _ s₃ =>
    wpAny (model X.prog X.w) X.A (handleBy e X.env (h₀ :: hds)) (SP X pins D) X.xe s₃) X.xe s₂) X.xe s₁) (fun u s' xx => ?_) PassesOwn.looking).run [] s σ H D (I.toTry _) h) (fun f s1 hsp => ?_) (fun e s1 he => he)
  · obtain ⟨a, B, sI, pins', σ', H', cls, d, rfl, J', nb, up, sky, na, os, ag, w⟩ := xx
    have J : Inv X pins σ' H' sI := J'.ofTry ok
    have sky' : Sky B (X.env :: X.outer) a (Zc cls d) X.env.locals s'.heap := by rw [← hs]; exact sky
    show wpAny (model X.prog X.w) X.A (noteFrame (.ref a) X.env) _ _ _
    refine Sky.land Zc.steady hfr hf sky' fun h3 fl3 up3 => ?_
    have J3 : Inv X pins σ' H' { s' with heap := h3 } := J.landed nb fl3.1 (up.trans up3) os ag
    obtain ⟨oe3, vs3, he3, hz3, hd3⟩ := fl3.there
    have notFr : ∀ {h : Heap} {o : Obj} {vs : Array Value}, h.FunFrames B (X.env :: X.outer) → h.get? a = some o → o.data = .fields vs → a ∉ frs (X.env :: X.outer) := fun {h o vs} ff e dd hm => by
      obtain ⟨_, o', e', hnf⟩ := ff.mem hm
      rw [e] at e'; cases e'
      exact hnf _ dd
    have nfr := notFr fl3.2.2.1 he3 hd3
    have nL : a ≠ X.env.locals := fun z => nfr (List.mem_filterMap.mpr ⟨X.env, List.mem_cons_self, by rw [hf, z]⟩)
    have nF : a ∉ X.fs := fun hm => by
      obtain ⟨e, he, q⟩ := List.mem_filterMap.mp hm
      exact nfr (List.mem_filterMap.mpr ⟨e, List.mem_cons_of_mem _ he, q⟩)
    have S3 := J3.suite he3 hd3 na nL nF
    have go : ∀ {hds' : List ExceptHandler} {l' : List (Value × Nat × (Addr → Value → Option Addr → TS))}, HdsA X hds' l' → wManyA X.K Wout D l' cls d σ' H' →
        wpAny (model X.prog X.w) X.A (handleBy (.ref a) X.env hds') (SP X pins D) X.xe { s' with heap := h3 } := by
      intro hds' l' hk
      induction hk with
      | nil =>
        intro w
        refine wpAny_handleBy_nil ?_
        obtain ⟨k1, k2, k3, oe, vs, T, oT, ts', he, hz, hd, h1, hr⟩ := id fl3
        unfold PySem.passOn
        refine wpAny_bind (wpAny_field he hd h1 ?_)
        rw [if_neg (show ¬ ((Value.ref T == Value.none) = true) from by simp)]
        have fin : wpAny (model X.prog X.w) X.A (setFlight (.ref a) X.env.frame) (fun _ s4 => wpAny (model X.prog X.w) X.A (throw (.ref a) : Sem Flow) (SP X pins D) X.xe s4) X.xe { s' with heap := h3 } := by
          rw [hf]
          refine HandSPX.setFlight_upZ fl3 fun h4 hh4 up4 => wpAny_throw (tk _ _ ?_)
          exact ⟨a, B, sI, pins, σ', H', cls, d, rfl, J, nb, (up.trans up3).trans up4, .inr (.inr (by rw [hs]; exact hh4)), na, os, ag, w⟩
        first
          | exact wpAny_bind (wpAny_pure (wpAny_bind fin))
          | exact wpAny_bind fin
      | @cons x n c i ts b₀ suite np pos' hds2 l2 hc hi hln hsu r ih =>
        intro w
        have hloc : Loc X.env.scope n := .inl hln
        obtain ⟨b, hb1, hyes, hno⟩ := w
        refine wpAny_handleBy_cons (codeAny_handlers_test ?_) (by intro q; cases q)
        have LT : PySem.W.Looks (model X.prog X.w) h3 (typeOf (.ref a)) cls := fun A Q E s k q => wpAny_typeOf_ref (k _ _ he3) (by rw [hz3.1]; exact q)
        have LM := PySem.W.exm_one (M := model X.prog X.w) (J3.kIn) LT hb1
        have test : ∀ {Q : Value → Shared → Prop} {E : Value → Shared → Prop}, Q c { s' with heap := h3 } → wpAny (model X.prog X.w) (X.A.mark (some (.ref a))) (eval (.Name x np) X.env) Q E { s' with heap := h3 } := fun {Q E} q => by
          obtain ⟨hg, hdbg, hm | ⟨hm, hv, hnn⟩⟩ := hc
          · exact ld_glob (X := X.suite a ((a, oe3) :: (X.pn ++ pins))) S3 hg hm q hdbg
          · exact ld_blt (X := X.suite a ((a, oe3) :: (X.pn ++ pins))) S3 hg hm hv q hnn hdbg
        refine test (LM.here ?_)
        cases b with
        | true =>
          refine codeAny_handlers_suite_as ?_
          refine HandSPX.lands_againZ fl3 fun h4 fl4 up4 => ?_
          have J4 : Inv X pins σ' H' { s' with heap := h4 } := J.landed nb fl4.1 ((up.trans up3).trans up4) os ag
          obtain ⟨oe4, vs4, he4, hz4, hd4⟩ := fl4.there
          have S4 := J4.suite he4 hd4 na nL nF
          refine store_ok (X := X.suite a ((a, oe4) :: (X.pn ++ pins))) (v := .ref a) S4 hN hi hloc rfl (fun s5 S5 => ?_) (.inr hln)
          refine wpAny_mono ((hsu a oe4 cls d (X.pn ++ pins) hz4 ⟨_, hd4⟩).run [] s5 _ H' _ S5 (hyes rfl a na)) (fun f s6 hsp => ?_) (fun _ _ z => False.elim z)
          have end_ : ∀ {σ6 : L2.St} {H6 : Hp} {Q : Shared → Prop}, Inv (X.suite a ((a, oe4) :: (X.pn ++ pins))) [] σ6 H6 s6 → (∀ s7, Inv X pins (σ6.set i none) H6 s7 → Q s7) →
              wpAny (model X.prog X.w) X.A (do bindName X.env n .none; unbindBehindTheSuite X.env n pos') (fun _ s7 => Q s7) X.xe s6 := fun {σ6 H6 Q} S6 hq => gone_ok (S6.unsuite ok) hN hi hln hq
          cases f with
          | next =>
            obtain ⟨σ6, H6, S6, q6⟩ := hsp
            exact end_ S6 fun s7 J7 => ⟨_, _, J7, q6⟩
          | brk =>
            obtain ⟨σ6, H6, S6, q6⟩ := hsp
            exact end_ S6 fun s7 J7 => ⟨_, _, J7, q6⟩
          | cont =>
            obtain ⟨σ6, H6, S6, q6⟩ := hsp
            exact end_ S6 fun s7 J7 => ⟨_, _, J7, q6⟩
          | ret u =>
            obtain ⟨v6, σ6, H6, S6, r6, q6⟩ := hsp
            exact end_ S6 fun s7 J7 => ⟨_, _, _, J7, r6, q6⟩
        | false =>
          show wpAny _ X.A (handleBy (.ref a) X.env hds2) _ _ _
          exact ih (hno rfl)
    exact go hh w
  · cases f with
    | next =>
      obtain ⟨σ', H', J', q⟩ := hsp
      exact wpAny_execs_nil ⟨σ', H', J'.ofTry ok, q⟩
    | brk =>
      obtain ⟨σ', H', J', q⟩ := hsp
      exact ⟨σ', H', J'.ofTry ok, q⟩
    | cont =>
      obtain ⟨σ', H', J', q⟩ := hsp
      exact ⟨σ', H', J'.ofTry ok, q⟩
    | ret u =>
      obtain ⟨v, σ', H', J', r, q⟩ := hsp
      exact ⟨v, σ', H', J'.ofTry ok, r, q⟩
end

/-! ### shapes -/
theorem pxE {X : Cx} {E : XK} {E₁ : Value → Shared → Prop} (hs : X.stack = X.env :: X.outer) (hf : X.env.frame = some X.env.locals) (hex : X.ex = [])
    (hx : X.xe = fun e s' => wpAny (model X.prog X.w) X.A (leaving X.env e) (fun _ s'' => L2.CX X.prog X.w X.outer X.H_0 X.s_0 E e s'') E₁ s') : Passes (L2.CX X.prog X.w) X E :=
  passes_call (takes_of hs hf hex hx) (fun _ _ _ _ h => h)
/-- an operator -/
structure GO (P : Program) (w : World) (K : PySem.W.Frag) (mg : Str → Option Value) (base : Heap) (CX : CXT) (k : Nat) (C : Addr) (op : Operator) (sp : Sp) : Prop where
  ex : ∃ (g : Addr) (fd : FuncData) (ps : List Str), OpC K C (PySem.dunder op.info.2) (PySem.dunderR op.info.2) g ∧ FnOk P w K mg base CX k g fd ps sp ∧ Binds K fd ps []
/-- a special method that is found by its name -/
structure GN (P : Program) (w : World) (K : PySem.W.Frag) (mg : Str → Option Value) (base : Heap) (CX : CXT) (k : Nat) (C : Addr) (m : Str) (sp : Sp) : Prop where
  ex : ∃ (g : Addr) (fd : FuncData) (ps : List Str), PySem.W.findIn K (.ref C) m = some (some (.ref g)) ∧ PySem.W.isFn K (.ref g) = true ∧ FnOk P w K mg base CX k g fd ps sp ∧ Binds K fd ps []
/-- a property -/
structure GP (P : Program) (w : World) (K : PySem.W.Frag) (mg : Str → Option Value) (base : Heap) (CX : CXT) (k : Nat) (C : Addr) (f : Str) (sp : Sp) : Prop where
  c : Cls K C
  ex : ∃ (p g : Addr) (fd : FuncData) (ps : List Str), PropOf K C f p g ∧ FnOk P w K mg base CX k g fd ps sp ∧ Binds K fd ps []
/-- a static method -/
structure GS (P : Program) (w : World) (K : PySem.W.Frag) (mg : Str → Option Value) (base : Heap) (CX : CXT) (k : Nat) (C : Addr) (m : Str) (sp : Sp) : Prop where
  ex : ∃ (mc : Value) (p g : Addr) (fd : FuncData) (ps : List Str), SMet K C mc m p g ∧ FnOk P w K mg base CX k g fd ps sp ∧ Binds K fd ps []
/-- free names -/
structure Nm (mg : Str → Option Value) : Prop where
  isinstance : mg "isinstance" = none
  int : mg "int" = none
  bool : mg "bool" = none
  str : mg "str" = none
  abs : mg "abs" = none
  len : mg "len" = none
  range : mg "range" = none
  enumerate : mg "enumerate" = none
  list : mg "list" = none
  tuple : mg "tuple" = none
section
variable {X : Cx} {CX : CXT} {k : Nat} {C : Addr} {sp : Sp} {E : XK} {op : Operator} {o e : Expr} {es : List Expr} {m f : Str} {apos pos : Pos} {ta : TE} {t : TA} {pl : Sem Bool}
theorem op_go (G : GO X.prog X.w X.K X.mg X.base CX k C op sp) (hr : Room k X.A) (hx : Passes CX X E) : OpR X (binaryOp op) (rBin C sp E) := by
  obtain ⟨g, fd, ps, O, F, hb⟩ := G.ex
  exact op_bin O F hr hb hx
theorem op_eqGo (G : GN X.prog X.w X.K X.mg X.base CX k C "__eq__" sp) (hr : Room k X.A) (hx : Passes CX X E) : OpR X (compareOp .Eq) (rEqOwn X.K C sp E) := by
  obtain ⟨g, fd, ps, h1, h2, F, hb⟩ := G.ex
  exact op_eqOwn h1 h2 F hr hb hx
theorem call_absGo (G : GN X.prog X.w X.K X.mg X.base CX k C "__abs__" sp) (hr : Room (k + 1) X.A) (hx : Passes CX X E) : CallR X (.builtin "abs") (rAbsOwn C sp E) := by
  obtain ⟨g, fd, ps, h1, h2, F, hb⟩ := G.ex
  exact call_absOwn h1 h2 F hr hb hx
theorem un_go (G : GN X.prog X.w X.K X.mg X.base CX k C "__neg__" sp) (hr : Room k X.A) (hx : Passes CX X E) : UnR X (unaryOp .USub) (rUn C sp E) := by
  obtain ⟨g, fd, ps, h1, h2, F, hb⟩ := G.ex
  exact un_own h1 h2 F hr hb hx
theorem passN {X : Cx} : Passes (L2.CX X.prog X.w) X.nox E0 := passL (X := X.nox)
theorem pe_gp (he : PE X o ta) (G : GP X.prog X.w X.K X.mg X.base (L2.CX X.prog X.w) k C f sp) (hr : Room (k + 1) X.A) (hab : attributeBase o f X.env (eval o X.env) = eval o X.env) :
    PE X (.Attribute o f pos) (tProp C sp [] E0 ta) := by
  obtain ⟨p, g, fd, ps, hp, F, hb⟩ := G.ex
  exact pe_prop (ds := []) he G.c hp F hr hb .nil passN hab
theorem pe_gs (he : PE X o ta) (G : GS X.prog X.w X.K X.mg X.base CX k C m sp) (hr : Room k X.A) (hx : Passes CX X E) (ha : PA X (e :: es) t)
    (hst : starEach (e :: es) X.env = (false, eval e X.env) :: starEach es X.env := by rfl) (hpl : (backTo pos (starEach es X.env)).any (·.1) = false := by rfl)
    (ht : eval (.Call (.Attribute o m apos) (e :: es) [] pos) X.env = (do
      let ov ← eval o X.env
      standAt apos.atName
      let (f, first) ← holding [ov] (getMethod ov m pl)
      callWith pos f first (backTo pos (starEach (e :: es) X.env)) (backToKw pos (keywordEach [] X.env))) := by rfl) :
    PE X (.Call (.Attribute o m apos) (e :: es) [] pos) (tSMeth C sp E ta t) := by
  obtain ⟨mc, p, g, fd, ps, S, F, hb⟩ := G.ex
  exact pe_smeth he S F hr hb hx ha hst hpl ht
end
section
variable {X : Cx}
theorem call_int1i : CallR X (.type "int") (fun xs H Q => ∃ i, xs = [.int i] ∧ Q (.int i) H) := fun pins s σ H xs us Q I r h => call_int1 pins s σ H xs us Q I r (.inl h)
theorem call_int1b : CallR X (.type "int") (fun xs H Q => ∃ k, xs = [.bl k] ∧ Q (.int (if k then 1 else 0)) H) := fun pins s σ H xs us Q I r h => call_int1 pins s σ H xs us Q I r (.inr h)
end
theorem cmL {i j : Int} (h : -(2 ^ 64) < i ∧ i < 2 ^ 64) : CMul i j := .inl h
theorem cmR {i j : Int} (h : -(2 ^ 64) < j ∧ j < 2 ^ 64) : CMul i j := .inr h
end Sp
end
section
set_option linter.all false
namespace Sp
/-! ### ratios as Lean's own -/
def Sz (q : Rat) (n : Nat) : Prop := q.num.natAbs < 2 ^ n ∧ q.den < 2 ^ n
theorem dvd_g1 (a b : Int) : ((Nat.gcd a.natAbs b.natAbs : Nat) : Int) ∣ a := Int.gcd_dvd_left (a := a) (b := b)
theorem dvd_g2 (a b : Int) : ((Nat.gcd a.natAbs b.natAbs : Nat) : Int) ∣ b := Int.gcd_dvd_right (a := a) (b := b)
/-- the divisor that Ratio's __init__ takes -/
def comm (a b : Int) : Int := if 0 < b then ((Nat.gcd a.natAbs b.natAbs : Nat) : Int) else -((Nat.gcd a.natAbs b.natAbs : Nat) : Int)
theorem comm_ne {a b : Int} (h : b ≠ 0) : comm a b ≠ 0 := by
  unfold comm
  have : Nat.gcd a.natAbs b.natAbs ≠ 0 := by
    intro z
    have := (Nat.gcd_eq_zero_iff.mp z).2
    omega
  split <;> omega
theorem comm_le {a b : Int} (h : b ≠ 0) : (comm a b).natAbs ≤ b.natAbs := by
  have := Nat.gcd_le_right a.natAbs (show 0 < b.natAbs by omega)
  unfold comm
  split <;> omega
theorem comm_num {a b : Int} (h : b ≠ 0) : a.fdiv (comm a b) = (Rat.divInt a b).num := by
  rw [Rat.num_divInt]
  have hg : (b.gcd a : Nat) = Nat.gcd a.natAbs b.natAbs := by rw [Int.gcd, Nat.gcd_comm]
  rw [hg]
  have d := dvd_g1 a b
  unfold comm
  split
  · rename_i hb
    rw [Int.sign_eq_one_of_pos hb, Int.one_mul, Int.fdiv_eq_ediv_of_dvd d]
  · rw [Int.sign_eq_neg_one_of_neg (by omega), Int.fdiv_eq_ediv_of_dvd (Int.neg_dvd.mpr d), Int.ediv_neg]
    rw [show (-1 : Int) * a = -a by omega, Int.neg_ediv_of_dvd d]
theorem comm_den {a b : Int} (h : b ≠ 0) : b.fdiv (comm a b) = (Rat.divInt a b).den := by
  rw [Rat.den_divInt, if_neg h]
  have hg : (b.gcd a : Nat) = Nat.gcd a.natAbs b.natAbs := by rw [Int.gcd, Nat.gcd_comm]
  rw [hg]
  have d := dvd_g2 a b
  unfold comm
  split
  · rename_i hb
    rw [Int.fdiv_eq_ediv_of_dvd d]
    have : b = (b.natAbs : Int) := by omega
    generalize Nat.gcd a.natAbs b.natAbs = g
    rw [Int.natCast_ediv, ← this]
  · rename_i hb
    rw [Int.fdiv_eq_ediv_of_dvd (Int.neg_dvd.mpr d), Int.ediv_neg, ← Int.neg_ediv_of_dvd d]
    have : -b = (b.natAbs : Int) := by omega
    rw [this, Int.natCast_ediv]
theorem sz_divInt {a b : Int} {n : Nat} (h : b ≠ 0) (ha : a.natAbs < 2 ^ n) (hb : b.natAbs < 2 ^ n) : Sz (Rat.divInt a b) n := by
  refine ⟨?_, ?_⟩
  · rw [Rat.num_divInt]
    have : (b.sign * a / ((b.gcd a : Nat) : Int)).natAbs ≤ (b.sign * a).natAbs := Int.natAbs_ediv_le_natAbs _ _
    have h2 : (b.sign * a).natAbs = a.natAbs := by rw [Int.natAbs_mul, Int.natAbs_sign, if_neg h]; omega
    omega
  · rw [Rat.den_divInt, if_neg h]
    have := Nat.div_le_self b.natAbs (b.gcd a)
    omega
theorem nb_mul {x y : Int} {a b : Nat} (hx : x.natAbs < 2 ^ a) (hy : y.natAbs < 2 ^ b) : (x * y).natAbs < 2 ^ (a + b) := by
  rw [Int.natAbs_mul, Nat.pow_add]
  exact Nat.mul_lt_mul'' hx hy
theorem nb_add {x y : Int} {a b n : Nat} (hx : x.natAbs < 2 ^ a) (hy : y.natAbs < 2 ^ b) (ha : a + 1 ≤ n := by omega) (hb : b + 1 ≤ n := by omega) : (x + y).natAbs < 2 ^ n := by
  have h1 : 2 ^ a ≤ 2 ^ (n - 1) := Nat.pow_le_pow_right (by decide) (by omega)
  have h2 : 2 ^ b ≤ 2 ^ (n - 1) := Nat.pow_le_pow_right (by decide) (by omega)
  have h3 : 2 ^ n = 2 ^ (n - 1) + 2 ^ (n - 1) := by
    obtain ⟨m, rfl⟩ : ∃ m, n = m + 1 := ⟨n - 1, by omega⟩
    rw [Nat.add_sub_cancel, Nat.pow_succ]
    omega
  omega
theorem nb_neg {x : Int} {a : Nat} (hx : x.natAbs < 2 ^ a) : (-x).natAbs < 2 ^ a := by omega
theorem nb_sub {x y : Int} {a b n : Nat} (hx : x.natAbs < 2 ^ a) (hy : y.natAbs < 2 ^ b) (ha : a + 1 ≤ n := by omega) (hb : b + 1 ≤ n := by omega) : (x - y).natAbs < 2 ^ n := by
  rw [Int.sub_eq_add_neg]
  exact nb_add hx (nb_neg hy) ha hb
theorem nb_le {x : Int} {a n : Nat} (hx : x.natAbs < 2 ^ a) (h : a ≤ n := by omega) : x.natAbs < 2 ^ n := Nat.lt_of_lt_of_le hx (Nat.pow_le_pow_right (by decide) h)
theorem Sz.mono {q : Rat} {m n : Nat} (h : Sz q m) (l : m ≤ n := by omega) : Sz q n := ⟨nb_le h.1 l, Nat.lt_of_lt_of_le h.2 (Nat.pow_le_pow_right (by decide) l)⟩
theorem Sz.d {q : Rat} {n : Nat} (h : Sz q n) : ((q.den : Nat) : Int).natAbs < 2 ^ n := by have := h.2; omega
theorem den_ne (q : Rat) : ((q.den : Nat) : Int) ≠ 0 := by have := q.den_nz; omega
theorem add_eq (p q : Rat) : Rat.divInt (p.num * q.den + q.num * p.den) (p.den * q.den) = p + q := by
  rw [← Rat.divInt_add_divInt _ _ (den_ne p) (den_ne q), Rat.num_divInt_den, Rat.num_divInt_den]
theorem sub_eq (p q : Rat) : Rat.divInt (p.num * q.den - q.num * p.den) (p.den * q.den) = p - q := by
  rw [← Rat.divInt_sub_divInt _ _ (den_ne p) (den_ne q), Rat.num_divInt_den, Rat.num_divInt_den]
theorem mul_eq (p q : Rat) : Rat.divInt (p.num * q.num) (p.den * q.den) = p * q := by
  rw [← Rat.divInt_mul_divInt, Rat.num_divInt_den, Rat.num_divInt_den]
theorem dd_ne (p q : Rat) : ((p.den : Nat) : Int) * ((q.den : Nat) : Int) ≠ 0 := Int.mul_ne_zero (den_ne p) (den_ne q)
theorem sz_add {p q : Rat} {m n k : Nat} (hp : Sz p m) (hq : Sz q n) (h : m + n + 1 ≤ k := by omega) : Sz (p + q) k := by
  rw [← add_eq]
  exact sz_divInt (dd_ne p q) (nb_add (nb_mul hp.1 hq.d) (nb_mul hq.1 hp.d)) (nb_le (nb_mul hp.d hq.d))
theorem sz_sub {p q : Rat} {m n k : Nat} (hp : Sz p m) (hq : Sz q n) (h : m + n + 1 ≤ k := by omega) : Sz (p - q) k := by
  rw [← sub_eq]
  exact sz_divInt (dd_ne p q) (nb_sub (nb_mul hp.1 hq.d) (nb_mul hq.1 hp.d)) (nb_le (nb_mul hp.d hq.d))
theorem sz_mul {p q : Rat} {m n k : Nat} (hp : Sz p m) (hq : Sz q n) (h : m + n ≤ k := by omega) : Sz (p * q) k := by
  rw [← mul_eq]
  exact sz_divInt (dd_ne p q) (nb_le (nb_mul hp.1 hq.1)) (nb_le (nb_mul hp.d hq.d))
theorem sz_int {i : Int} {n : Nat} (h : i.natAbs < 2 ^ n) (h0 : 1 ≤ n := by omega) : Sz (i : Rat) n := by
  refine ⟨by rw [Rat.num_intCast]; exact h, ?_⟩
  rw [Rat.den_intCast]
  exact Nat.lt_of_lt_of_le (by decide : 1 < 2 ^ 1) (Nat.pow_le_pow_right (by decide) h0)
theorem divInt_one (i : Int) : Rat.divInt i 1 = (i : Rat) := by
  rw [Rat.divInt_eq_div]
  show (i : Rat) / ((1 : Int) : Rat) = i
  rw [Rat.intCast_one]
  grind
/-- what a ratio that stands for a / b says -/
theorem is_pair {q : Rat} {a b : Int} (h : b ≠ 0) (e : q = Rat.divInt a b) : q.num * b = a * q.den := by
  have : Rat.divInt q.num q.den = Rat.divInt a b := by rw [Rat.num_divInt_den, e]
  exact (Rat.divInt_eq_divInt_iff (den_ne q) h).mp this
theorem div_eq {a b : Int} : Rat.divInt a b = (a : Rat) / (b : Rat) := Rat.divInt_eq_div a b
theorem below_eq (p q : Rat) : decide ((p.num * q.den - q.num * p.den).sign < 0) = decide (p < q) := by
  rw [decide_eq_decide, Rat.lt_iff, Int.sign_neg_iff]
  omega
def qabs (q : Rat) : Rat := if q < 0 then -q else q
theorem num_neg (q : Rat) : q.num < 0 ↔ q < 0 := by
  rw [Rat.lt_iff]
  simp
theorem qabs_eq (q : Rat) : Rat.divInt (if q.num < 0 then -q.num else q.num) q.den = qabs q := by
  unfold qabs
  by_cases h : q < 0
  · rw [if_pos h, if_pos ((num_neg q).mpr h), ← Rat.neg_divInt, Rat.num_divInt_den]
  · rw [if_neg h, if_neg (fun z => h ((num_neg q).mp z)), Rat.num_divInt_den]
theorem req (p q : Rat) : p = q ↔ p.num = q.num ∧ ((p.den : Nat) : Int) = ((q.den : Nat) : Int) := by
  constructor
  · intro h
    subst h
    exact ⟨rfl, rfl⟩
  · intro ⟨a, b⟩
    exact Rat.ext a (by omega)
theorem num_pos {q : Rat} : 0 < q.num ↔ 0 < q := by
  rw [Rat.lt_iff]
  simp
theorem sz_abs {q : Rat} {n : Nat} (h : Sz q n) : Sz (qabs q) n := by
  rw [← qabs_eq]
  refine sz_divInt (den_ne q) ?_ h.d
  have := h.1
  split <;> omega
end Sp
end
section
set_option Elab.async false
set_option linter.all false
set_option maxRecDepth 100000
set_option maxHeartbeats 4000000
/-! ### reading from the left -/
local macro_rules | `(tactic| walk_at "leaf") => `(tactic| first | rfl | assumption | exact True.intro | exact L2.upd_same | exact L2.ClsV.ty _ | exact L2.ClsV.own _ | decide | exact of_decide_eq_true rfl | fail)
local macro_rules | `(tactic| walk_at "rd1") => `(tactic| first
  | apply Exists.intro
  | (refine And.intro ?lf ?_; (case lf => walk_at "leaf"))
  | fail)
local macro_rules | `(tactic| walk_at "rd") => `(tactic| repeat (walk_at "rd1"))
namespace Sp
open PySem PySem.Spec PyProof.Rows L2
theorem iteB {b : Bool} {A B : Prop} (h1 : b = true → A) (h2 : b = false → B) : if b = true then A else B := by
  cases b
  · rw [if_neg (by simp)]
    exact h2 rfl
  · rw [if_pos rfl]
    exact h1 rfl
theorem iteP {c A B : Prop} {d : Decidable c} (h1 : c → A) (h2 : ¬ c → B) : @ite Prop c d A B := by
  by_cases h : c
  · rw [if_pos h]
    exact h1 h
  · rw [if_neg h]
    exact h2 h
/-- what the reading may leave open (no loop's invariant) -/
class Good (α : Type) : Prop where
  ok : True
instance : Good Nat := ⟨trivial⟩
instance : Good Int := ⟨trivial⟩
instance : Good V := ⟨trivial⟩
instance : Good Bool := ⟨trivial⟩
instance : Good Str := ⟨trivial⟩
instance : Good String := ⟨trivial⟩
instance : Good Value := ⟨trivial⟩
instance : Good Rat := ⟨trivial⟩
instance : Good PyData := ⟨trivial⟩
instance : Good HO := ⟨trivial⟩
instance : Good Obj := ⟨trivial⟩
instance {α : Type} : Good (List α) := ⟨trivial⟩
instance {α : Type} : Good (Option α) := ⟨trivial⟩
theorem exI {α : Type} [Good α] {p : α → Prop} (w : α) (h : p w) : ∃ x, p x := ⟨w, h⟩
/-! ### the text -/
def topS (i : Nat) : Stmt := PySem.Challenge.pw_spiralsays_k04_squares_of_laid_studs.main.body.getD i (.Pass ⟨0, 0, 0, 0⟩)
abbrev cR (K : PySem.W.Frag) : Addr := He.ga K "Ratio"
abbrev cS (K : PySem.W.Frag) : Addr := He.ga K "Step"
abbrev cT (K : PySem.W.Frag) : Addr := He.ga K "Stem"
abbrev cX (K : PySem.W.Frag) (x : Str) : Addr := He.ga K x
/-! ### what stands in the heap -/
def IsR (K : PySem.W.Frag) (H : Hp) (p : Addr) (q : Rat) : Prop := ∃ dx, H p = some (.ins (cR K) dx [("top", .int q.num), ("bottom", .int (q.den : Nat))])
def IsS (K : PySem.W.Frag) (H : Hp) (p : Addr) (k j : Int) : Prop := ∃ dx, H p = some (.ins (cS K) dx [("studs", .int k), ("rounds", .int j), ("divisor", .int ((Nat.gcd k.natAbs j.natAbs : Nat) : Int)), ("is_round", .bl (decide (k = 0)))])
def IsT (K : PySem.W.Frag) (H : Hp) (p : Addr) (D E : Rat) : Prop := ∃ dx a b c, H p = some (.ins (cT K) dx [("turn", .ref a), ("squared", .ref b), ("rise", .ref c)]) ∧ IsR K H a D ∧ IsR K H b E ∧ IsR K H c (E - D * D)
/-- a ratio as told: a Ratio or an int -/
def RV (K : PySem.W.Frag) (H : Hp) (v : V) (q : Rat) : Prop := (∃ p, v = .ref p ∧ IsR K H p q) ∨ ∃ i : Int, v = .int i ∧ q = (i : Rat)
theorem IsR.ext {K : PySem.W.Frag} {H H' : Hp} {p : Addr} {q : Rat} (h : IsR K H p q) (e : Same H H') : IsR K H' p q := let ⟨dx, h⟩ := h; ⟨dx, e _ _ h⟩
theorem IsS.ext {K : PySem.W.Frag} {H H' : Hp} {p : Addr} {k j : Int} (h : IsS K H p k j) (e : Same H H') : IsS K H' p k j := let ⟨dx, h⟩ := h; ⟨dx, e _ _ h⟩
theorem IsT.ext {K : PySem.W.Frag} {H H' : Hp} {p : Addr} {D E : Rat} (h : IsT K H p D E) (e : Same H H') : IsT K H' p D E := let ⟨dx, a, b, c, h, h1, h2, h3⟩ := h; ⟨dx, a, b, c, e _ _ h, h1.ext e, h2.ext e, h3.ext e⟩
theorem RV.ext {K : PySem.W.Frag} {H H' : Hp} {v : V} {q : Rat} (h : RV K H v q) (e : Same H H') : RV K H' v q := h.elim (fun ⟨p, a, b⟩ => .inl ⟨p, a, b.ext e⟩) .inr
/-- what isinstance finds of a type t -/
structure Kt (K : PySem.W.Frag) (t : Value) : Prop where
  int : PySem.W.kitOne K t (.type "int") = some (decide (t = .type "int") || decide (t = .type "bool"))
  bool : PySem.W.kitOne K t (.type "bool") = some (decide (t = .type "bool"))
  R : PySem.W.kitOne K t (.ref (cR K)) = some (decide (t = .ref (cR K)))
  S : PySem.W.kitOne K t (.ref (cS K)) = some (decide (t = .ref (cS K)))
/-- an own class whose instances have the attributes fl -/
structure CF (K : PySem.W.Frag) (C : Addr) (fl : List Str) : Prop where
  cl : Cls K C
  ha : PySem.W.findIn K (.ref C) "__class__" = some (some (.builtin "object.__class__"))
  hn : PySem.W.specialIn K (.builtin "object.__class__") "__get__" = some (some (.builtin "getset_descriptor.__get__"))
  htk : PySem.W.takesIn K (.builtin "object.__class__") = some true
  hm : PySem.W.mroIn K C (.type "object") = some true
  no : ∀ f ∈ fl, NoAttr K C f
  kt : Kt K (.ref C)
/-- what all leans on of the text -/
structure G0 (K : PySem.W.Frag) (mg : Str → Option Value) : Prop where
  nm : Nm mg
  gcd : mg "gcd" = some (.builtin "math.gcd")
  R : CF K (cR K) ["top", "bottom"]
  S : CF K (cS K) ["studs", "rounds", "divisor", "is_round"]
  T : CF K (cT K) ["turn", "squared", "rise"]
  mgRatio : mg "Ratio" = some (.ref (cR K))
  mgStep : mg "Step" = some (.ref (cS K))
  mgStem : mg "Stem" = some (.ref (cT K))
  kInt : Kt K (.type "int")
  kBool : Kt K (.type "bool")
  kNone : Kt K (.type "NoneType")
  kStr : Kt K (.type "str")
  kTup : Kt K (.type "tuple")
  kLst : Kt K (.type "list")
/-- a value's type, as isinstance finds it -/
def Ty (K : PySem.W.Frag) (H : Hp) (v : V) (t : Value) : Prop := TyX K H v t ∧ Kt K t
section
variable {K : PySem.W.Frag} {mg : Str → Option Value} {H : Hp}
theorem CF.ty {C : Addr} {fl : List Str} (c : CF K C fl) {p dx : Addr} {fs : List (Str × V)} (h : H p = some (.ins C dx fs)) : Ty K H (.ref p) (.ref C) := ⟨.base (.ins h c.cl c.ha c.hn c.htk c.hm), c.kt⟩
theorem G0.tInt (G : G0 K mg) (i : Int) : Ty K H (.int i) (.type "int") := ⟨.base (.int i), G.kInt⟩
theorem G0.tR (G : G0 K mg) {p : Addr} {q : Rat} (h : IsR K H p q) : Ty K H (.ref p) (.ref (cR K)) := let ⟨_, h⟩ := h; G.R.ty h
theorem G0.tS (G : G0 K mg) {p : Addr} {k j : Int} (h : IsS K H p k j) : Ty K H (.ref p) (.ref (cS K)) := let ⟨_, h⟩ := h; G.S.ty h
end
/-! ### promises -/
/-- the error at C with its field -/
def Err (f : Str) (v : V) (C : Addr) (H : Hp) (E : XK) : Prop := ∀ d H', Same H H' → H d = none → H' d = some (.xd [(f, v)]) → E (.ref C) (some d) H'
def spIsInt (K : PySem.W.Frag) : Sp := fun vs H Q _ => ∃ v t, vs = [v] ∧ Ty K H v t ∧ Q (.bl (decide (t = .type "int"))) H
def spIsRat (K : PySem.W.Frag) : Sp := fun vs H Q _ => ∃ v t, vs = [v] ∧ Ty K H v t ∧ Q (.bl (decide (t = .ref (cR K)) || decide (t = .type "int"))) H
def spSign : Sp := fun vs H Q _ => ∃ n : Int, vs = [.int n] ∧ Q (.int n.sign) H
def spInitR (K : PySem.W.Frag) : Sp := fun vs H Q _ => ∃ (a dx : Addr) (t b : Int), vs = [.ref a, .int t, .int b] ∧ H a = some (.ins (cR K) dx []) ∧ b ≠ 0 ∧ t.natAbs < 2 ^ 3900 ∧ b.natAbs < 2 ^ 3900 ∧
  ∀ H', (∀ c o, c ≠ a → H c = some o → H' c = some o) → H' a = some (.ins (cR K) dx [("top", .int (Rat.divInt t b).num), ("bottom", .int ((Rat.divInt t b).den : Nat))]) → Q .non H'
def spOf (K : PySem.W.Frag) : Sp := fun vs H Q _ => ∃ v q, vs = [v] ∧ RV K H v q ∧ Sz q 3900 ∧ ∀ p H', Same H H' → IsR K H' p q → Q (.ref p) H'
def spBinR (K : PySem.W.Frag) (fn : Rat → Rat → Rat) : Sp := fun vs H Q _ => ∃ a v q1 q2, vs = [.ref a, v] ∧ IsR K H a q1 ∧ RV K H v q2 ∧ Sz q1 1900 ∧ Sz q2 1900 ∧ ∀ p H', Same H H' → IsR K H' p (fn q1 q2) → Q (.ref p) H'
def spCmp (K : PySem.W.Frag) : Sp := fun vs H Q _ => ∃ a v q1 q2, vs = [.ref a, v] ∧ IsR K H a q1 ∧ RV K H v q2 ∧ Sz q1 1900 ∧ Sz q2 1900 ∧ ∀ H', Same H H' → Q (.int (q1.num * q2.den - q2.num * q1.den).sign) H'
def spBelow (K : PySem.W.Frag) : Sp := fun vs H Q _ => ∃ a v q1 q2, vs = [.ref a, v] ∧ IsR K H a q1 ∧ RV K H v q2 ∧ Sz q1 1900 ∧ Sz q2 1900 ∧ ∀ H', Same H H' → Q (.bl (decide (q1 < q2))) H'
def spAbs (K : PySem.W.Frag) : Sp := fun vs H Q _ => ∃ a q, vs = [.ref a] ∧ IsR K H a q ∧ Sz q 3900 ∧ ∀ p H', Same H H' → IsR K H' p (qabs q) → Q (.ref p) H'
def spEqR (K : PySem.W.Frag) : Sp := fun vs H Q _ => ∃ a v q1 q2, vs = [.ref a, v] ∧ IsR K H a q1 ∧ RV K H v q2 ∧ Q (.bl (decide (q1 = q2))) H
def spSgn (K : PySem.W.Frag) : Sp := fun vs H Q _ => ∃ a q, vs = [.ref a] ∧ IsR K H a q ∧ Q (.int q.num.sign) H
/-- a new instance: what its __init__ leaves -/
theorem same_new {H H' : Hp} {x dx C : Addr} (nx : H x = none) (nd : H dx = none) (k : ∀ c o, c ≠ x → (upd (upd H dx (.own x)) x (.ins C dx [])) c = some o → H' c = some o) : Same H H' := fun b o e =>
  k b o (ne_of_none e nx) (by rw [upd_ne (ne_of_none e nx), upd_ne (ne_of_none e nd)]; exact e)
theorem makeR {K : PySem.W.Frag} {H : Hp} {t b : Int} {Q : VK} {E : XK} (hb : b ≠ 0) (h1 : t.natAbs < 2 ^ 3900) (h2 : b.natAbs < 2 ^ 3900) (h : ∀ p H', Same H H' → H p = none → IsR K H' p (Rat.divInt t b) → Q (.ref p) H') :
    ∀ x dx, H x = none → H dx = none → dx ≠ x → spInitR K (.ref x :: ([.int t, .int b] ++ [])) (upd (upd H dx (.own x)) x (.ins (cR K) dx [])) (fun v H2 => v = .non ∧ Q (.ref x) H2) E :=
  fun x dx nx nd _ => ⟨x, dx, t, b, rfl, upd_same, hb, h1, h2, fun H' k e => ⟨rfl, h x H' (same_new nx nd k) nx ⟨dx, e⟩⟩⟩
theorem makeR1 {K : PySem.W.Frag} {H : Hp} {t : Int} {Q : VK} {E : XK} (h1 : t.natAbs < 2 ^ 3900) (h : ∀ p H', Same H H' → H p = none → IsR K H' p (t : Rat) → Q (.ref p) H') :
    ∀ x dx, H x = none → H dx = none → dx ≠ x → spInitR K (.ref x :: ([.int t] ++ [.int 1])) (upd (upd H dx (.own x)) x (.ins (cR K) dx [])) (fun v H2 => v = .non ∧ Q (.ref x) H2) E :=
  makeR (t := t) (b := 1) (by decide) h1 (Nat.one_lt_two_pow (by decide)) fun p H' s n r => h p H' s n (by rw [← divInt_one]; exact r)
end Sp
namespace Sp
open PySem PySem.Spec PyProof.Rows L2
abbrev FP (K : PySem.W.Frag) (x q : Str) (st : Stmt) (dvs : List V) (f : Addr) (fd : FuncData) : Prop := FunD K x q (defArgs st) (defBody st) (defScope st) dvs [] f fd
theorem cm {i j : Int} {n m : Nat} (h1 : i.natAbs < 2 ^ n) (h2 : j.natAbs < 2 ^ m) (ln : n ≤ 4000 := by omega) (lm : m ≤ 4000 := by omega) : CMulB i j := ⟨nb_le h1, nb_le h2⟩
theorem szm {p q : Rat} (hp : Sz p 1900) (hq : Sz q 1900) : CMulB p.num q.den ∧ CMulB q.num p.den ∧ CMulB p.den q.den ∧ CMulB p.num q.num := ⟨cm hp.1 hq.d, cm hq.1 hp.d, cm hp.d hq.d, cm hp.1 hq.1⟩
/-! ### steps and stems -/
def SS (H : Hp) (K : PySem.W.Frag) (v : V) (k j : Int) : Prop := ∃ p, v = .ref p ∧ IsS K H p k j ∧ k.natAbs < 2 ^ 52 ∧ j.natAbs < 2 ^ 52
def NS (K : PySem.W.Frag) (H : Hp) (v : V) : Prop := ∃ t, Ty K H v t ∧ t ≠ .ref (cS K)
def spInitS (K : PySem.W.Frag) : Sp := fun vs H Q _ => ∃ (a dx : Addr) (k j : Int), vs = [.ref a, .int k, .int j] ∧ H a = some (.ins (cS K) dx []) ∧ ¬ (k = 0 ∧ j = 0) ∧
  ∀ H', (∀ c o, c ≠ a → H c = some o → H' c = some o) → H' a = some (.ins (cS K) dx [("studs", .int k), ("rounds", .int j), ("divisor", .int ((Nat.gcd k.natAbs j.natAbs : Nat) : Int)), ("is_round", .bl (decide (k = 0)))]) → Q .non H'
def spNeedS (K : PySem.W.Frag) : Sp := fun vs H Q E => ∃ v p, vs = [v, p] ∧ ((∃ q k j, v = .ref q ∧ IsS K H q k j ∧ Q .non H) ∨ (NS K H v ∧ Err "part" p (cX K "BadStep") H E))
def spNeedK (K : PySem.W.Frag) : Sp := fun vs H Q E => ∃ q p k j, vs = [.ref q, p] ∧ IsS K H q k j ∧ (k ≠ 0 → Q .non H) ∧ (k = 0 → Err "part" p (cX K "Round") H E)
def spCross (K : PySem.W.Frag) : Sp := fun vs H Q _ => ∃ u v k j l i, vs = [u, v] ∧ SS H K u k j ∧ SS H K v l i ∧ Q (.int (k * i - l * j)) H
def spSummed (K : PySem.W.Frag) : Sp := fun vs H Q _ => ∃ (k j : Int), vs = [.int k, .int j] ∧ ¬ (k = 0 ∧ j = 0) ∧ ∀ p H', Same H H' → IsS K H' p k j → Q (.ref p) H'
def spAddS (K : PySem.W.Frag) : Sp := fun vs H Q _ => ∃ (a b : Addr) (k j l i : Int), vs = [.ref a, .ref b] ∧ IsS K H a k j ∧ IsS K H b l i ∧ ¬ (k + l = 0 ∧ j + i = 0) ∧ ∀ p H', Same H H' → IsS K H' p (k + l) (j + i) → Q (.ref p) H'
def spInitT (K : PySem.W.Frag) : Sp := fun vs H Q _ => ∃ (a dx p1 p2 : Addr) (D F : Rat), vs = [.ref a, .ref p1, .ref p2] ∧ H a = some (.ins (cT K) dx []) ∧ IsR K H p1 D ∧ IsR K H p2 F ∧ Sz D 40 ∧ Sz F 80 ∧ 0 < F - D * D ∧
  ∀ H', (∀ c o, c ≠ a → H c = some o → H' c = some o) → IsT K H' a D F → Q .non H'
def ST (K : PySem.W.Frag) (H : Hp) (a : Addr) (D F : Rat) : Prop := IsT K H a D F ∧ Sz D 40 ∧ Sz F 80
def prod (D F : Rat) (k j l i : Int) : Rat := F * ((k * l : Int) : Rat) - D * ((k * i + l * j : Int) : Rat) + ((j * i : Int) : Rat)
def spProd (K : PySem.W.Frag) : Sp := fun vs H Q E => ∃ a u v D F, vs = [.ref a, u, v] ∧ ST K H a D F ∧
  ((∃ k j l i, SS H K u k j ∧ SS H K v l i ∧ ∀ p H', Same H H' → IsR K H' p (prod D F k j l i) → Q (.ref p) H') ∨
   (NS K H u ∧ Err "part" (.str "one") (cX K "BadStep") H E) ∨ (∃ k j, SS H K u k j ∧ NS K H v ∧ Err "part" (.str "other") (cX K "BadStep") H E))
def spSq (K : PySem.W.Frag) : Sp := fun vs H Q E => ∃ a u D F, vs = [.ref a, u] ∧ ST K H a D F ∧
  ((∃ k j, SS H K u k j ∧ ∀ p H', Same H H' → IsR K H' p (prod D F k j k j) → Q (.ref p) H') ∨ (NS K H u ∧ Err "part" (.str "step") (cX K "BadStep") H E))
def lean (D : Rat) (k j : Int) : Rat := D * (k : Rat) - (j : Rat)
def spLean (K : PySem.W.Frag) : Sp := fun vs H Q E => ∃ a u D F, vs = [.ref a, u] ∧ ST K H a D F ∧
  ((∃ k j, SS H K u k j ∧ ∀ p H', Same H H' → IsR K H' p (lean D k j) → Q (.ref p) H') ∨ (NS K H u ∧ Err "part" (.str "step") (cX K "BadStep") H E))
def spSteep (K : PySem.W.Frag) : Sp := fun vs H Q E => ∃ a u v D F, vs = [.ref a, u, v] ∧ ST K H a D F ∧
  ((∃ k j l i, SS H K u k j ∧ SS H K v l i ∧ (k ≠ 0 → l ≠ 0 → ∀ H', Same H H' → Q (.bl (decide (qabs (lean D k j * (l : Rat)) < qabs (lean D l i * (k : Rat))))) H') ∧
      (k = 0 → Err "part" (.str "one") (cX K "Round") H E) ∧ (k ≠ 0 → l = 0 → Err "part" (.str "other") (cX K "Round") H E)) ∨
   (NS K H u ∧ Err "part" (.str "one") (cX K "BadStep") H E) ∨ (∃ k j, SS H K u k j ∧ NS K H v ∧ Err "part" (.str "other") (cX K "BadStep") H E))
theorem SS.ext {K : PySem.W.Frag} {H H' : Hp} {v : V} {k j : Int} (h : SS H K v k j) (e : Same H H') : SS H' K v k j := let ⟨p, a, b, c⟩ := h; ⟨p, a, b.ext e, c⟩
theorem ST.ext {K : PySem.W.Frag} {H H' : Hp} {a : Addr} {D F : Rat} (h : ST K H a D F) (e : Same H H') : ST K H' a D F := ⟨h.1.ext e, h.2⟩
theorem makeS {K : PySem.W.Frag} {H : Hp} {k j : Int} {Q : VK} {E : XK} (hz : ¬ (k = 0 ∧ j = 0)) (h : ∀ p H', Same H H' → H p = none → IsS K H' p k j → Q (.ref p) H') :
    ∀ x dx, H x = none → H dx = none → dx ≠ x → spInitS K (.ref x :: ([.int k, .int j] ++ [])) (upd (upd H dx (.own x)) x (.ins (cS K) dx [])) (fun v H2 => v = .non ∧ Q (.ref x) H2) E :=
  fun x dx nx nd _ => ⟨x, dx, k, j, rfl, upd_same, hz, fun H' c e => ⟨rfl, h x H' (same_new nx nd c) nx ⟨dx, e⟩⟩⟩
theorem rbR {K : PySem.W.Frag} {H : Hp} {a : Addr} {v : V} {q1 q2 : Rat} {fn : Rat → Rat → Rat} {Q : VK} {E : XK} (h1 : IsR K H a q1) (h2 : RV K H v q2) (z1 : Sz q1 1900) (z2 : Sz q2 1900)
    (k : ∀ p H', Same H H' → IsR K H' p (fn q1 q2) → Q (.ref p) H') : rBin (cR K) (spBinR K fn) E (.ref a) v H Q := by
  obtain ⟨dx, h1'⟩ := h1
  refine ⟨a, dx, _, rfl, h1', ?_, a, v, q1, q2, rfl, ⟨dx, h1'⟩, h2, z1, z2, k⟩
  rcases h2 with ⟨p, rfl, d, h⟩ | ⟨i, rfl, _⟩
  · exact .inl ⟨p, d, _, rfl, h⟩
  · exact .inr ⟨i, rfl⟩
theorem RV.mk {K : PySem.W.Frag} {H : Hp} {p : Addr} {q : Rat} (h : IsR K H p q) : RV K H (.ref p) q := .inl ⟨p, rfl, h⟩
theorem RV.int (K : PySem.W.Frag) (H : Hp) (i : Int) : RV K H (.int i) (i : Rat) := .inr ⟨i, rfl, rfl⟩
/-! ### the pail -/
def Pail (H : Hp) (a c : Addr) (N : Nat) : Prop := ∃ (cs : List Int) (n g : Int), H a = some (.lst [.ref c, .int n, .int g]) ∧ H c = some (.lst (cs.map V.int)) ∧ 0 ≤ n ∧ n ≤ N ∧ 0 ≤ g
def Sb (a : Addr) (H H' : Hp) : Prop := ∀ b o, b ≠ a → H b = some o → H' b = some o
theorem Sb.trans {a : Addr} {H H1 H2 : Hp} (x : Sb a H H1) (y : Sb a H1 H2) : Sb a H H2 := fun b o n e => y b o n (x b o n e)
theorem Same.sb {a : Addr} {H H' : Hp} (x : Same H H') : Sb a H H' := fun b o _ e => x b o e
def spPail (K : PySem.W.Frag) : Sp := fun vs H Q _ => ∃ (a : Addr) (ns : List Int), vs = [.ref a] ∧ SqL K H a (ns.map V.int) ∧ ∀ p H', Same H H' → H p = none → (∃ c, Pail H' p c 0) → Q (.ref p) H'
def spDip : Sp := fun vs H Q _ => ∃ (a c : Addr) (m : Int) (N : Nat), vs = [.ref a, .int m] ∧ Pail H a c N ∧ N ≤ 1000000 ∧ 0 < m ∧ m < 2 ^ 30 ∧ ∀ d H', 0 ≤ d → d < m → Pail H' a c (N + 1) → Sb a H H' → Q (.int d) H'
theorem shaped_ints (cs : List Int) : SeqAt.shaped (.list (cs.map PyData.int)) = true := by
  induction cs with
  | nil => rfl
  | cons c cs ih => exact ih
theorem dp_ints {K : PySem.W.Frag} {H : Hp} (cs : List Int) : DpAll K H (cs.map V.int) (cs.map PyData.int) := by
  induction cs with
  | nil => exact .nil
  | cons c cs ih => exact .cons (.int c) ih
theorem tailR {P : Int → Prop} {G : Prop} (main : (∀ x, P x) → G) (tl : ∀ x, P x) : G := main tl
theorem Pail.mono {H : Hp} {a c : Addr} {N M : Nat} (h : Pail H a c N) (l : N ≤ M := by omega) : Pail H a c M := let ⟨cs, n, g, h1, h2, h3, h4, h5⟩ := h; ⟨cs, n, g, h1, h2, h3, by omega, h5⟩
theorem Pail.lst {H : Hp} {a c : Addr} {N : Nat} (h : Pail H a c N) : ∃ xs, H a = some (.lst xs) := let ⟨_, _, _, h, _⟩ := h; ⟨_, h⟩
/-- the pail stands as it was where the heap only grew -/
theorem Pail.ext {H H' : Hp} {a c : Addr} {N : Nat} (h : Pail H a c N) (e : Same H H') : Pail H' a c N := let ⟨cs, n, g, h1, h2, h3, h4, h5⟩ := h; ⟨cs, n, g, e _ _ h1, e _ _ h2, h3, h4, h5⟩
theorem Same.new {H : Hp} {p : Addr} {o : HO} (h : H p = none) : Same H (upd H p o) := fun b u e => by rw [upd_ne (ne_of_none e h)]; exact e
def spSized : Sp := fun vs H Q _ => ∃ (a c : Addr) (N : Nat), vs = [.ref a, .int 30] ∧ Pail H a c N ∧ N ≤ 900000 ∧ ∀ x H', x.natAbs < 2 ^ 46 → Pail H' a c (N + 3) → Sb a H H' → Q (.int x) H'
structure Po (t b r u : Int) : Prop where
  t : t.natAbs < 2 ^ 29
  b0 : 1 ≤ b
  b1 : b ≤ 40
  r0 : 1 ≤ r
  r1 : r ≤ 60
  u0 : 1 ≤ u
  u1 : u ≤ 40
def spPost : Sp := fun vs H Q _ => ∃ (a c : Addr) (N : Nat), vs = [.ref a] ∧ Pail H a c N ∧ N ≤ 900000 ∧ ∀ p H' t b r u, Po t b r u → H' p = some (.tup [.int t, .int b, .int r, .int u]) → Pail H' a c (N + 6) → Sb a H H' → Q (.ref p) H'
def laidA (t b r u k j l i : Int) : Int := (k * t - j * b) * (l * t - i * b) * u + k * l * r * b * b
def laidB (b u : Int) : Int := b * b * u
/-- a step as a pair -/
def Pr (H : Hp) (p : Addr) (k j : Int) : Prop := H p = some (.tup [.int k, .int j]) ∧ k.natAbs < 2 ^ 52 ∧ j.natAbs < 2 ^ 52
def spLaid : Sp := fun vs H Q _ => ∃ (p q1 q2 : Addr) (t b r u k j l i : Int), vs = [.ref p, .ref q1, .ref q2] ∧ Po t b r u ∧ H p = some (.tup [.int t, .int b, .int r, .int u]) ∧ Pr H q1 k j ∧ Pr H q2 l i ∧
  ∀ x H', Same H H' → H' x = some (.tup [.int (laidA t b r u k j l i), .int (laidB b u)]) → Q (.ref x) H'
def spIs (K : PySem.W.Frag) : Sp := fun vs H Q _ => ∃ (r p : Addr) (q : Rat) (a b : Int), vs = [.ref r, .ref p] ∧ IsR K H r q ∧ H p = some (.tup [.int a, .int b]) ∧ b ≠ 0 ∧ q = Rat.divInt a b ∧ Sz q 1900 ∧ a.natAbs < 2 ^ 1900 ∧ b.natAbs < 2 ^ 1900 ∧ Q (.bl true) H
/-- the law's steps: a list of pairs, none of them (0, 0) -/
def Sts (H : Hp) (l : Addr) (ts : List Addr) : Prop := H l = some (.lst (ts.map V.ref)) ∧ ∀ x ∈ ts, ∃ k j : Int, H x = some (.tup [.int k, .int j]) ∧ ¬ (k = 0 ∧ j = 0) ∧ k.natAbs < 2 ^ 50 ∧ j.natAbs < 2 ^ 50
def spSteps : Sp := fun vs H Q _ => ∃ (a c : Addr) (N : Nat), vs = [.ref a] ∧ Pail H a c N ∧ N ≤ 800000 ∧ ∀ l ts H', ts.length = 3 → Sts H' l ts → Pail H' a c (N + 30) → Sb a H H' → Q (.ref l) H'
theorem tail3 {P : Addr → Hp → Option V → Prop} {G : Prop} (F : Addr → Hp → Prop) (main : (∀ x H t, F x H → P x H t) → G) (tl : ∀ x H t, F x H → P x H t) : G := main tl
/-- the list while it is made -/
structure Mk3 (H0 H : Hp) (a c l : Addr) (N : Nat) (ts : List Addr) : Prop where
  sts : Sts H l ts
  first : ∀ x, ts[0]? = some x → ∃ k j : Int, H x = some (.tup [.int k, .int j]) ∧ k.natAbs < 2 ^ 46 ∧ j.natAbs < 2 ^ 46
  pail : Pail H a c N
  sb : Sb a H0 H
  new : H0 l = none
  cn : c ≠ l
theorem Mk3.ne {H0 H : Hp} {a c l : Addr} {N : Nat} {ts : List Addr} (h : Mk3 H0 H a c l N ts) : l ≠ a := by
  intro z
  subst z
  obtain ⟨cs, n, g, h1, _⟩ := h.pail
  have h2 := h.sts.1
  rw [h1] at h2
  injection h2 with h2
  injection h2 with h2
  match ts, h2 with
  | [], h2 => cases h2
  | [_], h2 => cases h2
  | _ :: _ :: _, h2 => cases h2
theorem Mk3.tupNe {H0 H : Hp} {a c l x : Addr} {N : Nat} {ts : List Addr} {xs : List V} (h : Mk3 H0 H a c l N ts) (e : H x = some (.tup xs)) : x ≠ a ∧ x ≠ l := by
  obtain ⟨cs, n, g, h1, _⟩ := h.pail
  exact ⟨fun z => (by rw [z, h1] at e; cases e), fun z => (by rw [z, h.sts.1] at e; cases e)⟩
/-- after a dip, or another call that leaves all but the pail -/
theorem Mk3.go {H0 H H' : Hp} {a c l : Addr} {N M : Nat} {ts : List Addr} (h : Mk3 H0 H a c l N ts) (p : Pail H' a c M) (s : Sb a H H') : Mk3 H0 H' a c l M ts :=
  ⟨⟨s _ _ h.ne h.sts.1, fun x hx => let ⟨k, j, e, r⟩ := h.sts.2 x hx; ⟨k, j, s _ _ (h.tupNe e).1 e, r⟩⟩, fun x hx => let ⟨k, j, e, r⟩ := h.first x hx; ⟨k, j, s _ _ (h.tupNe e).1 e, r⟩, p, h.sb.trans s, h.new, h.cn⟩
theorem Mk3.ext {H0 H H' : Hp} {a c l : Addr} {N : Nat} {ts : List Addr} (h : Mk3 H0 H a c l N ts) (s : Same H H') : Mk3 H0 H' a c l N ts := h.go (h.pail.ext s) (Same.sb s)
theorem Mk3.mono {H0 H : Hp} {a c l : Addr} {N M : Nat} {ts : List Addr} (h : Mk3 H0 H a c l N ts) (e : N ≤ M := by omega) : Mk3 H0 H a c l M ts := ⟨h.sts, h.first, h.pail.mono e, h.sb, h.new, h.cn⟩
theorem Mk3.push {H0 H : Hp} {a c l x : Addr} {N : Nat} {ts : List Addr} {k j : Int} (h : Mk3 H0 H a c l N ts) (e : H x = some (.tup [.int k, .int j])) (nz : ¬ (k = 0 ∧ j = 0)) (b1 : k.natAbs < 2 ^ 50) (b2 : j.natAbs < 2 ^ 50) (f : ts = [] → k.natAbs < 2 ^ 46 ∧ j.natAbs < 2 ^ 46) :
    Mk3 H0 (upd H l (.lst (ts.map V.ref ++ [V.ref x]))) a c l N (ts ++ [x]) := by
  have t : ∀ {y xs}, H y = some (.tup xs) → upd H l (.lst (ts.map V.ref ++ [V.ref x])) y = some (.tup xs) := fun {y xs} e => by rw [upd_ne (h.tupNe e).2]; exact e
  refine ⟨⟨by rw [upd_same]; simp, fun y hy => ?_⟩, fun y hy => ?_, ?_, fun b o nb eb => ?_, h.new, h.cn⟩
  · rcases List.mem_append.mp hy with z | z
    · obtain ⟨k, j, e, r⟩ := h.sts.2 y z
      exact ⟨k, j, t e, r⟩
    · have z := List.mem_singleton.mp z
      subst z
      exact ⟨k, j, t e, nz, b1, b2⟩
  · cases ts with
    | nil =>
      cases hy
      exact ⟨k, j, t e, f rfl⟩
    | cons y' r =>
      obtain ⟨k, j, e, r⟩ := h.first y hy
      exact ⟨k, j, t e, r⟩
  · obtain ⟨cs, n, g, h1, h2, r⟩ := h.pail
    refine ⟨cs, n, g, by rw [upd_ne h.ne.symm]; exact h1, ?_, r⟩
    rw [upd_ne h.cn]
    exact h2
  · rw [upd_ne (ne_of_none eb h.new)]
    exact h.sb _ _ nb eb
theorem dp_prs {K : PySem.W.Frag} {H : Hp} : ∀ ts : List Addr, ts.length ≤ 2 → (∀ x ∈ ts, ∃ k j : Int, H x = some (.tup [.int k, .int j])) → ∃ ds : List PyData, DpAll K H (ts.map V.ref) ds ∧ SeqAt.shaped (.list ds) = true ∧ ds.length = ts.length
  | [], _, _ => ⟨[], .nil, rfl, rfl⟩
  | [x], _, h => by
    obtain ⟨k, j, e⟩ := h x List.mem_cons_self
    exact ⟨[.tuple [.int k, .int j]], .cons (.tup (SqT.of e) (.cons (.int k) (.cons (.int j) .nil))) .nil, rfl, rfl⟩
  | [x, y], _, h => by
    obtain ⟨k, j, e⟩ := h x List.mem_cons_self
    obtain ⟨k', j', e'⟩ := h y (List.mem_cons_of_mem _ List.mem_cons_self)
    exact ⟨[.tuple [.int k, .int j], .tuple [.int k', .int j']], .cons (.tup (SqT.of e) (.cons (.int k) (.cons (.int j) .nil))) (.cons (.tup (SqT.of e') (.cons (.int k') (.cons (.int j') .nil))) .nil), rfl, rfl⟩
  | _ :: _ :: _ :: _, h, _ => absurd h (by simp)
theorem eqv_nil (ds : List PyData) : PyData.eqv (.list ds) (.list []) = ds.isEmpty := by
  cases ds <;> rfl
theorem eqv_pair (k j : Int) : PyData.eqv (.tuple [.int k, .int j]) (.tuple [.int 0, .int 0]) = (decide (k = 0) && decide (j = 0)) := by
  show ((k == 0) && ((j == 0) && true)) = _
  rw [Bool.and_true]
  rfl
/-- one of the law's steps -/
def St2 (H : Hp) (x : Addr) (k j : Int) : Prop := H x = some (.tup [.int k, .int j]) ∧ ¬ (k = 0 ∧ j = 0) ∧ k.natAbs < 2 ^ 50 ∧ j.natAbs < 2 ^ 50
theorem St2.pr {H : Hp} {x : Addr} {k j : Int} (h : St2 H x k j) : Pr H x k j := ⟨h.1, nb_le h.2.2.1, nb_le h.2.2.2⟩
theorem makeS2 {K : PySem.W.Frag} {H : Hp} {k j : Int} {Q : Addr → Hp → Prop} {E : XK} (hz : ¬ (k = 0 ∧ j = 0)) (h : ∀ p H', Same H H' → H p = none → IsS K H' p k j → Q p H') :
    ∀ x dx, H x = none → H dx = none → dx ≠ x → spInitS K (.ref x :: ([.int k, .int j] ++ [])) (upd (upd H dx (.own x)) x (.ins (cS K) dx [])) (fun v H2 => v = .non ∧ Q x H2) E :=
  fun x dx nx nd _ => ⟨x, dx, k, j, rfl, upd_same, hz, fun H' c e => ⟨rfl, h x H' (same_new nx nd c) nx ⟨dx, e⟩⟩⟩
theorem makeR2 {K : PySem.W.Frag} {H : Hp} {t b : Int} {Q : Addr → Hp → Prop} {E : XK} (hb : b ≠ 0) (h1 : t.natAbs < 2 ^ 3900) (h2 : b.natAbs < 2 ^ 3900) (h : ∀ p H', Same H H' → H p = none → IsR K H' p (Rat.divInt t b) → Q p H') :
    ∀ x dx, H x = none → H dx = none → dx ≠ x → spInitR K (.ref x :: ([.int t, .int b] ++ [])) (upd (upd H dx (.own x)) x (.ins (cR K) dx [])) (fun v H2 => v = .non ∧ Q x H2) E :=
  fun x dx nx nd _ => ⟨x, dx, t, b, rfl, upd_same, hb, h1, h2, fun H' k e => ⟨rfl, h x H' (same_new nx nd k) nx ⟨dx, e⟩⟩⟩
theorem makeT2 {K : PySem.W.Frag} {H : Hp} {p1 p2 : Addr} {D F : Rat} {Q : Addr → Hp → Prop} {E : XK} (r1 : IsR K H p1 D) (r2 : IsR K H p2 F) (z1 : Sz D 40) (z2 : Sz F 80) (hp : 0 < F - D * D) (h : ∀ p H', Same H H' → H p = none → IsT K H' p D F → Q p H') :
    ∀ x dx, H x = none → H dx = none → dx ≠ x → spInitT K (.ref x :: ([.ref p1, .ref p2] ++ [])) (upd (upd H dx (.own x)) x (.ins (cT K) dx [])) (fun v H2 => v = .non ∧ Q x H2) E :=
  fun x dx nx nd _ => by
    have e : Same H (upd (upd H dx (.own x)) x (.ins (cT K) dx [])) := fun b o e => by rw [upd_ne (ne_of_none e nx), upd_ne (ne_of_none e nd)]; exact e
    exact ⟨x, dx, p1, p2, D, F, rfl, upd_same, r1.ext e, r2.ext e, z1, z2, hp, fun H' k t => ⟨rfl, h x H' (same_new nx nd k) nx t⟩⟩
theorem rbS {K : PySem.W.Frag} {H : Hp} {a b : Addr} {k j l i : Int} {Q' : VK} {E : XK} (h1 : IsS K H a k j) (h2 : IsS K H b l i) (nz : ¬ (k + l = 0 ∧ j + i = 0)) (k' : ∀ p H', Same H H' → IsS K H' p (k + l) (j + i) → Q' (.ref p) H') : rBin (cS K) (spAddS K) E (.ref a) (.ref b) H Q' := by
  obtain ⟨dx, h1'⟩ := h1
  obtain ⟨dy, h2'⟩ := h2
  exact ⟨a, dx, _, rfl, h1', .inl ⟨b, dy, _, rfl, h2'⟩, a, b, k, j, l, i, rfl, ⟨dx, h1'⟩, ⟨dy, h2'⟩, nz, k'⟩
theorem tailH {P : Hp → Prop} {G : Prop} (F : Hp → Prop) (main : (∀ H, F H → P H) → G) (tl : ∀ H, F H → P H) : G := main tl
end Sp
end
section
set_option Elab.async false
set_option linter.all false
set_option maxRecDepth 100000
set_option maxHeartbeats 0
namespace Sp
open PySem PySem.Spec PyProof.Rows L2
open PySem.W (Frag)
/-! ### facts read off the heap that the top leaves -/
def oexB (K : Frag) (C : Addr) : Bool := (match K.lookup C with
  | some ⟨.type "type", _, .cls cd, sl⟩ => (match cd.mro, sl.toList with
    | .ref C' :: bm, [_, _, _, _, some (.builtin n), _] => C' == C && (n == "ValueError.__new__" && (!cd.hasDel && (cd.hasDict && PySem.HandSPX.refsVE bm)))
    | _, _ => false)
  | _ => false) && (decide (PySem.W.findIn K (.ref C) "__setattr__" = some (some (.builtin "object.__setattr__"))) && (decide (PySem.W.subIn K (.ref C) (.type "BaseException") = some true) && (decide (PySem.W.typeIn K (.ref C) = some (.type "type")) && PySem.W.keepIn K (.ref C))))
theorem oexB_ok {K : Frag} {C : Addr} (h : oexB K C = true) : OexC K C := by
  unfold oexB at h
  obtain ⟨h1, h⟩ := He.ba h
  obtain ⟨h2, h⟩ := He.ba h
  obtain ⟨h3, h⟩ := He.ba h
  obtain ⟨h4, h5⟩ := He.ba h
  refine ⟨?_, of_decide_eq_true h2, of_decide_eq_true h3, of_decide_eq_true h4, h5⟩
  split at h1
  · rename_i dd cd sl ho
    split at h1
    · rename_i C' bm k0 k1 k2 k3 n k5 hm hs
      simp only [Bool.and_eq_true, beq_iff_eq, Bool.not_eq_true'] at h1
      obtain ⟨rfl, rfl, hdel, hdict, hr⟩ := h1
      obtain ⟨nm, bs, mro, ns, qn, hd, sn, sub, ab, col, del⟩ := cd
      dsimp only at hm hdel hdict
      subst hm hdel hdict
      have hsl : sl = #[k0, k1, k2, k3, some (.builtin "ValueError.__new__"), k5] := by
        obtain ⟨l⟩ := sl
        simp only at hs
        rw [hs]
      subst hsl
      exact ⟨nm, qn, ns, bs, bm, sn, sub, ab, col, dd, k0, k1, k2, k3, k5, ho, hr⟩
    · cases h1
  · cases h1
def ktB (K : Frag) (t : Value) : Bool := decide (PySem.W.kitOne K t (.type "int") = some (decide (t = .type "int") || decide (t = .type "bool"))) && (decide (PySem.W.kitOne K t (.type "bool") = some (decide (t = .type "bool"))) &&
  (decide (PySem.W.kitOne K t (.ref (cR K)) = some (decide (t = .ref (cR K)))) && decide (PySem.W.kitOne K t (.ref (cS K)) = some (decide (t = .ref (cS K))))))
theorem ktB_ok {K : Frag} {t : Value} (h : ktB K t = true) : Kt K t := by
  unfold ktB at h
  obtain ⟨h1, h⟩ := He.ba h
  obtain ⟨h2, h⟩ := He.ba h
  obtain ⟨h3, h4⟩ := He.ba h
  exact ⟨of_decide_eq_true h1, of_decide_eq_true h2, of_decide_eq_true h3, of_decide_eq_true h4⟩
def cfB (K : Frag) (x : Str) (fl : List Str) : Bool := (He.Fa.cls x).ok K && (decide (PySem.W.findIn K (.ref (He.ga K x)) "__class__" = some (some (.builtin "object.__class__"))) && (decide (PySem.W.specialIn K (.builtin "object.__class__") "__get__" = some (some (.builtin "getset_descriptor.__get__"))) &&
  (decide (PySem.W.takesIn K (.builtin "object.__class__") = some true) && (decide (PySem.W.mroIn K (He.ga K x) (.type "object") = some true) && ((fl.all fun f => (He.Fa.noat x f).ok K) && ktB K (.ref (He.ga K x)))))))
theorem cfB_ok {K : Frag} {x : Str} {fl : List Str} (h : cfB K x fl = true) : CF K (He.ga K x) fl := by
  unfold cfB at h
  obtain ⟨h1, h⟩ := He.ba h
  obtain ⟨h2, h⟩ := He.ba h
  obtain ⟨h3, h⟩ := He.ba h
  obtain ⟨h4, h⟩ := He.ba h
  obtain ⟨h5, h⟩ := He.ba h
  obtain ⟨h6, h7⟩ := He.ba h
  exact ⟨He.cls_ok h1, of_decide_eq_true h2, of_decide_eq_true h3, of_decide_eq_true h4, of_decide_eq_true h5, fun f hf => He.noat_ok (List.all_eq_true.mp h6 f hf), ktB_ok h7⟩
/-- an operator's def at ma K C m -/
def opB (K : Frag) (C : Addr) (m r : Str) : Bool := PySem.W.selfFirst K C && (decide (PySem.W.findIn K (.ref C) m = some (some (.ref (He.ma K C m)))) && (PySem.W.isFn K (.ref (He.ma K C m)) && (decide (PySem.W.findIn K (.ref C) r = some none) &&
  ((PySem.W.findIn K (.type "int") m).isSome && ((PySem.W.findIn K (.type "int") r).isSome && decide (PySem.W.subIn K (.type "int") (.ref C) = some false))))))
theorem opB_ok {K : Frag} {C : Addr} {m r : Str} (h : opB K C m r = true) : OpC K C m r (He.ma K C m) := by
  unfold opB at h
  obtain ⟨h1, h⟩ := He.ba h
  obtain ⟨h2, h⟩ := He.ba h
  obtain ⟨h3, h⟩ := He.ba h
  obtain ⟨h4, h⟩ := He.ba h
  obtain ⟨h5, h⟩ := He.ba h
  obtain ⟨h6, h7⟩ := He.ba h
  exact ⟨h1, of_decide_eq_true h2, h3, of_decide_eq_true h4, Option.isSome_iff_exists.mp h5, Option.isSome_iff_exists.mp h6, of_decide_eq_true h7⟩
def nmB (K : Frag) (C : Addr) (m : Str) : Bool := decide (PySem.W.findIn K (.ref C) m = some (some (.ref (He.ma K C m)))) && PySem.W.isFn K (.ref (He.ma K C m))
def metB (K : Frag) (C : Addr) (m : Str) : Bool := nmB K C m && PySem.W.keepIn K (.ref (He.ma K C m))
theorem metB_ok {K : Frag} {C : Addr} {m : Str} (h : metB K C m = true) : Meth K C m (He.ma K C m) := by
  unfold metB nmB at h
  obtain ⟨h1, h3⟩ := He.ba h
  obtain ⟨h1, h2⟩ := He.ba h1
  exact ⟨of_decide_eq_true h1, h2, h3⟩
def propB (K : Frag) (C : Addr) (m : Str) : Bool := decide (PySem.W.findIn K (.ref C) m = some (some (.ref (He.ma K C m)))) && (decide (PySem.W.specialIn K (.ref (He.ma K C m)) "__get__" = some (some (.builtin "property.__get__"))) && (decide (PySem.W.takesIn K (.ref (He.ma K C m)) = some true) && (match PySem.W.recIn K (He.ma K C m) "property" with
  | some (.ref _ :: _) => true
  | _ => false)))
theorem propB_ok {K : Frag} {C : Addr} {m : Str} (h : propB K C m = true) : PropOf K C m (He.ma K C m) (He5.wf K C "property" m) := by
  unfold propB at h
  obtain ⟨h1, h⟩ := He.ba h
  obtain ⟨h2, h⟩ := He.ba h
  obtain ⟨h3, h4⟩ := He.ba h
  refine ⟨of_decide_eq_true h1, of_decide_eq_true h2, of_decide_eq_true h3, ?_⟩
  unfold He5.wf
  split at h4
  · rename_i f r e
    exact ⟨r, by rw [e]⟩
  · cases h4
def smB (K : Frag) (C : Addr) (m : Str) : Bool := PySem.W.readsIn K C (.type "type") && (decide (PySem.W.specialIn K (.ref C) "__getattribute__" = some (some (.builtin "type.__getattribute__"))) && (He5.wrapB K C "staticmethod" "staticmethod.__get__" m && PySem.W.keepIn K (.ref (He5.wf K C "staticmethod" m))))
theorem smB_ok {K : Frag} {C : Addr} {m : Str} (h : smB K C m = true) : SMet K C (.type "type") m (He.ma K C m) (He5.wf K C "staticmethod" m) := by
  unfold smB at h
  obtain ⟨h1, h⟩ := He.ba h
  obtain ⟨h2, h⟩ := He.ba h
  obtain ⟨h3, h4⟩ := He.ba h
  obtain ⟨h5, h6⟩ := He5.wrapB_ok h3
  exact ⟨h1, of_decide_eq_true h2, h5, h6, h4⟩
/-- an error of one field -/
def xB (K : Frag) (x f : Str) : Bool := oexB K (He.ga K x) && ((He.Fa.glo x).ok K && (decide (PySem.W.findIn K (.ref (He.ga K x)) "__init__" = some (some (.ref (He.ma K (He.ga K x) "__init__")))) && (decide (PySem.W.typeIn K (.ref (He.ma K (He.ga K x) "__init__")) = some (.type "function")) && (He.Fa.noat x f).ok K)))
/-! ### the facts, by number -/
def exL : List (Frag → Bool) := [
  fun K => (He.Fa.free "isinstance").ok K, fun K => (He.Fa.free "int").ok K, fun K => (He.Fa.free "bool").ok K, fun K => (He.Fa.free "str").ok K, fun K => (He.Fa.free "abs").ok K, fun K => (He.Fa.free "len").ok K, fun K => (He.Fa.free "range").ok K,
  fun K => (He.Fa.free "enumerate").ok K, fun K => (He.Fa.free "list").ok K, fun K => (He.Fa.free "tuple").ok K,
  fun K => decide (PySem.W.nsIn K mainGlobals "gcd" = some (some (.builtin "math.gcd"))),
  fun K => cfB K "Ratio" ["top", "bottom"], fun K => cfB K "Step" ["studs", "rounds", "divisor", "is_round"], fun K => cfB K "Stem" ["turn", "squared", "rise"],
  fun K => (He.Fa.glo "Ratio").ok K, fun K => (He.Fa.glo "Step").ok K, fun K => (He.Fa.glo "Stem").ok K,
  fun K => ktB K (.type "int"), fun K => ktB K (.type "bool"), fun K => ktB K (.type "NoneType"), fun K => ktB K (.type "str"), fun K => ktB K (.type "tuple"), fun K => ktB K (.type "list"),
  fun K => decide (PySem.W.exmOne K (.ref (cX K "BadStep")) (.ref (cX K "BadStep")) = some true), fun K => decide (PySem.W.exmOne K (.ref (cX K "Round")) (.ref (cX K "BadStep")) = some false), fun K => decide (PySem.W.exmOne K (.ref (cX K "Round")) (.ref (cX K "Round")) = some true),
  fun K => xfB K (cX K "BadStep"), fun K => xfB K (cX K "Round"),
  fun K => xB K "BadRatio" "part", fun K => xB K "BadStep" "part", fun K => xB K "Round" "part", fun K => xB K "BadStem" "part",
  fun K => PySem.W.notFirst K (cR K) (.ref (cR K)), fun K => decide (cT K ≠ cS K),
  fun K => opB K (cR K) "__add__" "__radd__", fun K => opB K (cR K) "__sub__" "__rsub__", fun K => opB K (cR K) "__mul__" "__rmul__", fun K => opB K (cS K) "__add__" "__radd__",
  fun K => nmB K (cR K) "__abs__", fun K => nmB K (cR K) "__eq__", fun K => propB K (cR K) "sign", fun K => smB K (cR K) "of", fun K => metB K (cR K) "is_below", fun K => metB K (cR K) "compared",
  fun K => metB K (cT K) "product", fun K => metB K (cT K) "lean", fun K => metB K (cT K) "square", fun K => metB K (cT K) "is_steeper",
  fun K => (He.Fa.mkr "Ratio").ok K, fun K => (He.Fa.mkr "Step").ok K, fun K => (He.Fa.mkr "Stem").ok K, fun K => decide ((He.cT K ("_law_pair_right", none)).2 ≠ (He.cT K ("_law_refused_right", none)).2)]
end Sp
end
section
set_option Elab.async false
set_option linter.all false
set_option maxRecDepth 100000
set_option maxHeartbeats 0
namespace Sp
open PySem PySem.Spec PyProof.Rows L2
open PySem.W (Frag)
def fnL : List He5.DefA := [
  ⟨fun K => He.ga K "is_integer", "is_integer", "is_integer", defArgs (topS 12), defBody (topS 12), defScope (topS 12), [], []⟩,
  ⟨fun K => He.ga K "sign_of", "sign_of", "sign_of", defArgs (topS 21), defBody (topS 21), defScope (topS 21), [], []⟩,
  ⟨fun K => He.ga K "is_ratio", "is_ratio", "is_ratio", defArgs (topS 22), defBody (topS 22), defScope (topS 22), [], []⟩,
  ⟨fun K => He.ga K "at_right", "at_right", "at_right", defArgs (topS 23), defBody (topS 23), defScope (topS 23), [], []⟩,
  ⟨fun K => He.ga K "summed", "summed", "summed", defArgs (topS 28), defBody (topS 28), defScope (topS 28), [], []⟩,
  ⟨fun K => He.ga K "need_step", "need_step", "need_step", defArgs (topS 29), defBody (topS 29), defScope (topS 29), [], []⟩,
  ⟨fun K => He.ga K "need_studs", "need_studs", "need_studs", defArgs (topS 30), defBody (topS 30), defScope (topS 30), [], []⟩,
  ⟨fun K => He.ga K "cross", "cross", "cross", defArgs (topS 36), defBody (topS 36), defScope (topS 36), [], []⟩,
  ⟨fun K => He.ga K "_law_pail", "_law_pail", "_law_pail", defArgs (topS 38), defBody (topS 38), defScope (topS 38), [], []⟩,
  ⟨fun K => He.ga K "_law_dip", "_law_dip", "_law_dip", defArgs (topS 39), defBody (topS 39), defScope (topS 39), [], []⟩,
  ⟨fun K => He.ga K "_law_sized", "_law_sized", "_law_sized", defArgs (topS 40), defBody (topS 40), defScope (topS 40), [], []⟩,
  ⟨fun K => He.ga K "_law_post", "_law_post", "_law_post", defArgs (topS 41), defBody (topS 41), defScope (topS 41), [], []⟩,
  ⟨fun K => He.ga K "_law_steps", "_law_steps", "_law_steps", defArgs (topS 42), defBody (topS 42), defScope (topS 42), [], []⟩,
  ⟨fun K => He.ga K "_law_laid", "_law_laid", "_law_laid", defArgs (topS 43), defBody (topS 43), defScope (topS 43), [], []⟩,
  ⟨fun K => He.ga K "_law_is", "_law_is", "_law_is", defArgs (topS 44), defBody (topS 44), defScope (topS 44), [], []⟩,
  ⟨fun K => He.ga K "_law_heard", "_law_heard", "_law_heard", defArgs (topS 45), defBody (topS 45), defScope (topS 45), [], []⟩,
  ⟨fun K => He.ga K "_law_pair_right", "_law_pair_right", "_law_pair_right", defArgs (topS 46), defBody (topS 46), defScope (topS 46), [], []⟩,
  ⟨fun K => He.ga K "_law_refused_right", "_law_refused_right", "_law_refused_right", defArgs (topS 47), defBody (topS 47), defScope (topS 47), [], []⟩,
  ⟨fun K => He.ga K "law", "law", "law", defArgs (topS 48), defBody (topS 48), defScope (topS 48), [], []⟩,
  ⟨fun K => He.ma K (He.ga K "Ratio") "__init__", "__init__", "Ratio.__init__", defArgs (inClass (topS 20) 0), defBody (inClass (topS 20) 0), defScope (inClass (topS 20) 0), [.int 1], []⟩,
  ⟨fun K => He.ma K (He.ga K "Ratio") "__add__", "__add__", "Ratio.__add__", defArgs (inClass (topS 20) 4), defBody (inClass (topS 20) 4), defScope (inClass (topS 20) 4), [], []⟩,
  ⟨fun K => He.ma K (He.ga K "Ratio") "__sub__", "__sub__", "Ratio.__sub__", defArgs (inClass (topS 20) 5), defBody (inClass (topS 20) 5), defScope (inClass (topS 20) 5), [], []⟩,
  ⟨fun K => He.ma K (He.ga K "Ratio") "__mul__", "__mul__", "Ratio.__mul__", defArgs (inClass (topS 20) 6), defBody (inClass (topS 20) 6), defScope (inClass (topS 20) 6), [], []⟩,
  ⟨fun K => He.ma K (He.ga K "Ratio") "compared", "compared", "Ratio.compared", defArgs (inClass (topS 20) 8), defBody (inClass (topS 20) 8), defScope (inClass (topS 20) 8), [], []⟩,
  ⟨fun K => He.ma K (He.ga K "Ratio") "is_below", "is_below", "Ratio.is_below", defArgs (inClass (topS 20) 9), defBody (inClass (topS 20) 9), defScope (inClass (topS 20) 9), [], []⟩,
  ⟨fun K => He.ma K (He.ga K "Ratio") "__abs__", "__abs__", "Ratio.__abs__", defArgs (inClass (topS 20) 11), defBody (inClass (topS 20) 11), defScope (inClass (topS 20) 11), [], []⟩,
  ⟨fun K => He.ma K (He.ga K "Ratio") "__eq__", "__eq__", "Ratio.__eq__", defArgs (inClass (topS 20) 13), defBody (inClass (topS 20) 13), defScope (inClass (topS 20) 13), [], []⟩,
  ⟨fun K => He.ma K (He.ga K "Step") "__init__", "__init__", "Step.__init__", defArgs (inClass (topS 27) 0), defBody (inClass (topS 27) 0), defScope (inClass (topS 27) 0), [], []⟩,
  ⟨fun K => He.ma K (He.ga K "Step") "__add__", "__add__", "Step.__add__", defArgs (inClass (topS 27) 4), defBody (inClass (topS 27) 4), defScope (inClass (topS 27) 4), [], []⟩,
  ⟨fun K => He.ma K (He.ga K "Stem") "__init__", "__init__", "Stem.__init__", defArgs (inClass (topS 33) 0), defBody (inClass (topS 33) 0), defScope (inClass (topS 33) 0), [], []⟩,
  ⟨fun K => He.ma K (He.ga K "Stem") "square", "square", "Stem.square", defArgs (inClass (topS 33) 1), defBody (inClass (topS 33) 1), defScope (inClass (topS 33) 1), [], []⟩,
  ⟨fun K => He.ma K (He.ga K "Stem") "product", "product", "Stem.product", defArgs (inClass (topS 33) 2), defBody (inClass (topS 33) 2), defScope (inClass (topS 33) 2), [], []⟩,
  ⟨fun K => He.ma K (He.ga K "Stem") "lean", "lean", "Stem.lean", defArgs (inClass (topS 33) 3), defBody (inClass (topS 33) 3), defScope (inClass (topS 33) 3), [], []⟩,
  ⟨fun K => He.ma K (He.ga K "Stem") "is_steeper", "is_steeper", "Stem.is_steeper", defArgs (inClass (topS 33) 4), defBody (inClass (topS 33) 4), defScope (inClass (topS 33) 4), [], []⟩,
  ⟨fun K => He.ma K (He.ga K "BadRatio") "__init__", "__init__", "BadRatio.__init__", defArgs (inClass (topS 4) 0), defBody (inClass (topS 4) 0), defScope (inClass (topS 4) 0), [], []⟩,
  ⟨fun K => He.ma K (He.ga K "BadStep") "__init__", "__init__", "BadStep.__init__", defArgs (inClass (topS 5) 0), defBody (inClass (topS 5) 0), defScope (inClass (topS 5) 0), [], []⟩,
  ⟨fun K => He.ma K (He.ga K "Round") "__init__", "__init__", "Round.__init__", defArgs (inClass (topS 8) 0), defBody (inClass (topS 8) 0), defScope (inClass (topS 8) 0), [], []⟩,
  ⟨fun K => He.ma K (He.ga K "BadStem") "__init__", "__init__", "BadStem.__init__", defArgs (inClass (topS 6) 0), defBody (inClass (topS 6) 0), defScope (inClass (topS 6) 0), [], []⟩,
  ⟨fun K => He5.wf K (He.ga K "Ratio") "staticmethod" "of", "of", "Ratio.of", defArgs (inClass (topS 20) 17), defBody (inClass (topS 20) 17), defScope (inClass (topS 20) 17), [], []⟩,
  ⟨fun K => He5.wf K (He.ga K "Ratio") "property" "sign", "sign", "Ratio.sign", defArgs (inClass (topS 20) 1), defBody (inClass (topS 20) 1), defScope (inClass (topS 20) 1), [], []⟩]
def glL : List Str := (["is_integer", "sign_of", "is_ratio", "at_right", "summed", "need_step", "need_studs", "cross", "_law_pail", "_law_dip", "_law_sized", "_law_post"] : List Str) ++ (["_law_steps", "_law_laid", "_law_is", "_law_heard", "_law_pair_right", "_law_refused_right", "law"] : List Str)
def tfL : List He.Defn := [("_law_pair_right", none), ("_law_refused_right", none)]
def kB (g : Addr → Option Obj) (n : Nat) : Frag := He.frT g (He5.asA g n)
def bB (g : Addr → Option Obj) (K : Frag) : Bool := (exL.all fun f => f K) && ((glL.all fun x => (He.Fa.glo x).ok K) && ((fnL.all fun d => d.ok K) && He.tabsB g tfL K))
def obsB (n : Nat) (g : Addr → Option Obj) : He.AlD := (bB g (kB g n), fnL.map fun d => He5.fnA (kB g n) (d.at_ (kB g n)))
def valB : He.AlD := (true, fnL.map He5.DefA.val)
structure SaysB (h : Heap) (K : Frag) : Prop where
  ex : ∀ f ∈ exL, f K = true
  gl : ∀ x ∈ glL, (He.Fa.glo x).ok K = true
  fn : ∀ d ∈ fnL, d.ok K = true ∧ He5.fnA K (d.at_ K) = d.val
  hd : ∀ p ∈ tfL, PySem.W.codeHdIn K (He.cT K p).1 (He.cT K p).2 = true
  out : ∀ p ∈ tfL, K.lookup (He.cT K p).2 = none
  empty : ∀ p ∈ tfL, h.get? (He.cT K p).2 = some { cls := .none, data := .fields #[] }
theorem map_eq {α β : Type} {f g : α → β} : ∀ {l : List α}, l.map f = l.map g → ∀ x ∈ l, f x = g x
  | [], _, x, h => by cases h
  | y :: l, e, x, h => by
    rw [List.map_cons, List.map_cons] at e
    injection e with e1 e2
    rcases List.mem_cons.mp h with rfl | h
    · exact e1
    · exact map_eq e2 x h
theorem saysB_of {n : Nat} {h : Heap} (e : obsB n h.get? = valB) : SaysB h (kB h.get? n) := by
  have e1 : bB h.get? (kB h.get? n) = true := congrArg (fun z : He.AlD => z.1) e
  have e2 : fnL.map (fun d => He5.fnA (kB h.get? n) (d.at_ (kB h.get? n))) = fnL.map He5.DefA.val := congrArg (fun z : He.AlD => z.2) e
  obtain ⟨h1, e1⟩ := He.ba e1
  obtain ⟨h2, e1⟩ := He.ba e1
  obtain ⟨h3, h4⟩ := He.ba e1
  have key : ∀ p ∈ tfL, PySem.W.codeHdIn (kB h.get? n) (He.cT (kB h.get? n) p).1 (He.cT (kB h.get? n) p).2 = true ∧ ∃ o, h.get? (He.cT (kB h.get? n) p).2 = some o ∧ He.emptyTab o = true := fun p hp => by
    obtain ⟨h5, h6⟩ := He.ba (List.all_eq_true.mp h4 p hp)
    refine ⟨h5, ?_⟩
    cases q : h.get? (He.cT (kB h.get? n) p).2 with
    | none =>
      rw [q] at h6
      cases h6
    | some o =>
      rw [q] at h6
      exact ⟨o, rfl, h6⟩
  exact ⟨fun f hf => List.all_eq_true.mp h1 f hf, fun x hx => List.all_eq_true.mp h2 x hx, fun d hd => ⟨List.all_eq_true.mp h3 d hd, map_eq e2 d hd⟩, fun p hp => (key p hp).1, fun p hp => by
    obtain ⟨_, o, q, z⟩ := key p hp
    exact He.frT_none q z, fun p hp => by
    obtain ⟨_, o, q, z⟩ := key p hp
    rw [q, He.emptyTab_eq z]⟩
def hookB (n : Nat) : PySem.W.Hook where
  α := He.AlD
  obs := fun s => obsB n s.heap.get?
  val := fun _ => valB
  says := fun _ h => ∃ K : Frag, K.In h ∧ SaysB h K
  of := fun _ _ e => ⟨_, He.frT_in, saysB_of e⟩
  keeps := fun _ _ _ ⟨K, hK, c⟩ k => ⟨K, PySem.W.Frag.In.keeps hK k, ⟨c.ex, c.gl, c.fn, c.hd, c.out, fun p hp => k _ _ (c.empty p hp)⟩⟩
theorem obsB_eq {n : Nat} {g : Addr → Option Obj} {s : Shared} (h : ∀ a, g a = s.heap.get? a) : obsB n g = (hookB n).obs s := by
  have e : g = s.heap.get? := funext h
  rw [e] <;> rfl
abbrev Rw : PySem.W.OpenRow := PySem.W.OpenLaw.row PySem.Challenge.rw_spiralsays_k04_squares_of_laid_studs
abbrev qv : Program := PySem.W.view Rw.prog [0, 48]
def names : List Str := (["_wall", "__name__", "SpiralError", "BadRatio", "BadStep", "BadStem", "BadNumber", "Round", "BadText", "DIGITS", "is_integer", "MOST_DIGITS"] : List Str) ++ (["integer_of", "Words", "words_in", "read_whole", "Ratio", "sign_of", "is_ratio", "at_right", "ratio_of", "take_ratio", "Step", "summed", "need_step"] : List Str) ++ (["need_studs", "take_step", "Stem", "take_stem", "cross", "_law_pail", "_law_dip", "_law_sized", "_law_post", "_law_steps", "_law_laid", "_law_is"] : List Str) ++ (["_law_heard", "_law_pair_right", "_law_refused_right"] : List Str)
abbrev hk : PySem.W.Hook := hookB 5
def ob (s : PySem.W.SharedT) : He.AlD := obsB 5 (HandSHeadRun.getT s)
theorem ob_eq (s : PySem.W.SharedT) : ob s = hk.obs s.abs := obsB_eq (HandSHeadRun.getT_eq s)
end Sp
end
section
set_option Elab.async false
set_option linter.all false
set_option maxRecDepth 100000
set_option maxHeartbeats 0
namespace Sp
open PySem PySem.Spec PyProof.Rows L2 HandSHeadRun PySem.W PySem.Calls
theorem runA (w : World) : (wholeF (fun p => stepQ (denQ tabQ) p w) fenceQ 30000 Rw.prog).map (fun x => (looksF Rw.prog x.1.heap x.2.abs, seenQ qv names (importedModules Rw.prog.main.body) (fun s => xlAt qv [] s && recOk Rw.toRowW.records s) x.2.abs)) = some (true, openGood qv names) := by
  kernel_rfl
theorem runB (w : World) : (wholeF (fun p => stepQ (denQ tabQ) p w) fenceQ 30000 Rw.prog).map (fun x => ob x.2) = some valB := by
  kernel_rfl
theorem join3 {A B C D : Type} {o : Option A} {f : A → B} {g : A → C} {h : A → D} {b : B} {c : C} {d : D} (a : o.map (fun x => (f x, g x)) = some (b, c)) (e : o.map (fun x => h x) = some d) : o.map (fun x => (f x, g x, h x)) = some (b, c, d) := by
  cases o with
  | none => cases a
  | some x =>
    have a1 : (f x, g x) = (b, c) := Option.some.inj a
    have e1 : h x = d := Option.some.inj e
    injection a1 with a2 a3
    show some (f x, g x, h x) = some (b, c, d)
    rw [a2, a3, e1]
theorem run (w : World) : RunEqI Rw qv hk ob 30000 names w := by
  delta HandSHeadRun.RunEqI
  exact join3 (runA w) (runB w)
end Sp
end
section
set_option linter.all false
namespace Sp
def tD (t b : Int) : Rat := Rat.divInt t b
def tF (t b r u : Int) : Rat := Rat.divInt (t * t * u + r * b * b) (b * b * u)
theorem rne {b : Int} (h : 1 ≤ b) : (b : Rat) ≠ 0 := by
  intro z
  have : b = 0 := Rat.intCast_inj.mp (by rw [z]; rfl)
  omega
section
variable {t b r u k j l i : Int} (P : Po t b r u)
include P
theorem Po.lB : laidB b u ≠ 0 := by
  unfold laidB
  have h1 := P.b0
  have h2 := P.u0
  exact Int.mul_ne_zero (Int.mul_ne_zero (by omega) (by omega)) (by omega)
theorem Po.prod_eq : prod (tD t b) (tF t b r u) k j l i = Rat.divInt (laidA t b r u k j l i) (laidB b u) := by
  have hb := rne P.b0
  have hu := rne P.u0
  unfold prod tD tF laidA laidB
  rw [div_eq, div_eq, div_eq]
  simp only [Rat.intCast_mul, Rat.intCast_add, Rat.intCast_sub]
  grind
theorem Po.prod_sw : prod (tD t b) (tF t b r u) l i k j = Rat.divInt (laidA t b r u k j l i) (laidB b u) := by
  rw [P.prod_eq]
  congr 1
  unfold laidA
  grind
theorem Po.lean_eq : lean (tD t b) k j = Rat.divInt (k * t - j * b) b := by
  have hb := rne P.b0
  unfold lean tD
  rw [div_eq, div_eq]
  simp only [Rat.intCast_mul, Rat.intCast_sub]
  grind
theorem Po.rise_eq : tF t b r u - tD t b * tD t b = Rat.divInt r u := by
  have hb := rne P.b0
  have hu := rne P.u0
  unfold tF tD
  rw [div_eq, div_eq, div_eq]
  simp only [Rat.intCast_mul, Rat.intCast_add]
  grind
theorem Po.rise_pos : 0 < tF t b r u - tD t b * tD t b := by
  rw [P.rise_eq, ← num_pos, Rat.num_divInt]
  have := P.u0
  rw [Int.sign_eq_one_of_pos (by omega), Int.one_mul]
  have h2 := P.r0
  have hg : (u.gcd r : Int) ∣ r := Int.gcd_dvd_right u r
  exact Int.ediv_pos_of_pos_of_dvd (by omega) (by omega) hg
theorem Po.szD : Sz (tD t b) 40 := by
  have := P.b0
  have := P.b1
  have := P.t
  exact sz_divInt (by omega) (by omega) (by omega)
theorem Po.nb : b.natAbs < 2 ^ 6 := by have := P.b0; have := P.b1; omega
theorem Po.nu : u.natAbs < 2 ^ 6 := by have := P.u0; have := P.u1; omega
theorem Po.nr : r.natAbs < 2 ^ 6 := by have := P.r0; have := P.r1; omega
theorem Po.n1 : (t * t * u + r * b * b).natAbs < 2 ^ 66 := nb_add (nb_mul (nb_mul P.t P.t) P.nu) (nb_mul (nb_mul P.nr P.nb) P.nb)
theorem Po.n2 : (b * b * u).natAbs < 2 ^ 18 := nb_mul (nb_mul P.nb P.nb) P.nu
theorem Po.szF : Sz (tF t b r u) 80 := (sz_divInt P.lB P.n1 (nb_le P.n2)).mono
theorem Po.lt_eq : decide (qabs (lean (tD t b) k j * (l : Rat)) < qabs (lean (tD t b) l i * (k : Rat))) = decide ((if (k * t - j * b) * l < 0 then -((k * t - j * b) * l) else (k * t - j * b) * l) < (if (l * t - i * b) * k < 0 then -((l * t - i * b) * k) else (l * t - i * b) * k)) := by
  have hb := rne P.b0
  have b0 : (0 : Rat) < (b : Rat) := by
    have h := P.b0
    have : ((0 : Int) : Rat) < (b : Rat) := Rat.intCast_lt_intCast.mpr (by omega)
    simpa using this
  have q : ∀ m : Int, qabs ((m : Rat) / (b : Rat)) = (((if m < 0 then -m else m : Int)) : Rat) / (b : Rat) := by
    intro m
    unfold qabs
    by_cases h : m < 0
    · have hm : (m : Rat) < 0 := by
        have : (m : Rat) < ((0 : Int) : Rat) := Rat.intCast_lt_intCast.mpr h
        simpa using this
      have : (m : Rat) / (b : Rat) < 0 := by
        rw [Rat.div_lt_iff b0]
        simpa using hm
      rw [if_pos this, if_pos h, Rat.intCast_neg]
      grind
    · have hm : 0 ≤ (m : Rat) := by
        have : ((0 : Int) : Rat) ≤ (m : Rat) := Rat.intCast_le_intCast.mpr (by omega)
        simpa using this
      have : ¬ (m : Rat) / (b : Rat) < 0 := by
        rw [Rat.div_lt_iff b0, Rat.zero_mul]
        exact Rat.not_lt.mpr hm
      rw [if_neg this, if_neg h]
  have e1 : lean (tD t b) k j * (l : Rat) = (((k * t - j * b) * l : Int) : Rat) / (b : Rat) := by
    rw [P.lean_eq, div_eq, Rat.intCast_mul ((k * t - j * b))]
    grind
  have e2 : lean (tD t b) l i * (k : Rat) = (((l * t - i * b) * k : Int) : Rat) / (b : Rat) := by
    rw [P.lean_eq, div_eq, Rat.intCast_mul ((l * t - i * b))]
    grind
  rw [e1, e2, q, q, decide_eq_decide, Rat.div_lt_iff b0]
  have e3 : ∀ y : Rat, y / (b : Rat) * (b : Rat) = y := by
    intro y
    grind
  rw [e3]
  exact Rat.intCast_lt_intCast
end
theorem apart_eq (D F : Rat) (k j l i : Int) : prod D F k j k j * prod D F l i l i - prod D F k j l i * prod D F k j l i = (F - D * D) * (((k * i - l * j) * (k * i - l * j) : Int) : Rat) := by
  unfold prod
  simp only [Rat.intCast_mul, Rat.intCast_add, Rat.intCast_sub]
  grind
end Sp
end
section
set_option Elab.async false
set_option linter.all false
set_option maxRecDepth 100000
set_option maxHeartbeats 4000000
local macro_rules | `(tactic| walk_at "leaf") => `(tactic| first | rfl | assumption | exact True.intro | exact L2.upd_same | exact L2.ClsV.ty _ | exact L2.ClsV.own _ | decide | exact of_decide_eq_true rfl | fail)
local macro_rules | `(tactic| walk_at "rd1") => `(tactic| first
  | apply Exists.intro
  | (refine And.intro ?lf ?_; (case lf => walk_at "leaf"))
  | fail)
local macro_rules | `(tactic| walk_at "rd") => `(tactic| repeat (walk_at "rd1"))
namespace Sp
open PySem PySem.Spec PyProof.Rows L2
section
variable {P : Program} {w : World} {K : PySem.W.Frag} {mg : Str → Option Value} {base : Heap} {f : Addr} {fd : FuncData}
abbrev sIsInt : Stmt := topS 12
theorem sc_isInt : FnScope ["value"] ["value"] (defScope sIsInt) := ⟨rfl, rfl, rfl, by decide +kernel, rfl, by decide +kernel, by decide +kernel⟩
theorem ok_isInt (G : G0 K mg) (F : FP K "is_integer" "is_integer" sIsInt [] f fd) : FnOk P w K mg base (L2.CX P w) 1 f fd ["value"] (spIsInt K) := by
  have nd := sc_isInt.nd
  refine F.ok sc_isInt (fun vs H Q E h => by obtain ⟨v, t, rfl, _⟩ := h; rfl) (fun cdv A outer s H vs Q E hr h => ⟨_, pss_one (ps_ret (pe_and (pe_callB call_isi rfl G.nm.isinstance (by decide +kernel) (pa_cons (pv 0) (pa_cons ((pe_bltn (v := .ty "int") (u := .type "int") rfl G.nm.int PyProof.Rows.Boot.«int» rfl)) (pa_nil)))) (pe_one (pe_not (pe_callB call_isi rfl G.nm.isinstance (by decide +kernel) (pa_cons (pv 0) (pa_cons ((pe_bltn (v := .ty "bool") (u := .type "bool") rfl G.nm.bool PyProof.Rows.Boot.«bool» rfl)) (pa_nil)))))))), ?_⟩)
  obtain ⟨v, t, rfl, ⟨ty, k⟩, q⟩ := h
  have k1 := k.int
  have k2 := k.bool
  walk_at "rd"
  by_cases h1 : t = .type "int"
  · subst h1
    walk_at "rd"
    exact q
  · have e : decide (t = Value.type "int") = false := decide_eq_false h1
    rw [e] at q ⊢
    by_cases h2 : t = .type "bool"
    · subst h2
      walk_at "rd"
      exact q
    · rw [decide_eq_false h2]
      exact q
theorem sc_sign : FnScope ["number"] ["number"] (defScope (topS 21)) := ⟨rfl, rfl, rfl, by decide +kernel, rfl, by decide +kernel, by decide +kernel⟩
theorem ok_sign (F : FP K "sign_of" "sign_of" (topS 21) [] f fd) : FnOk P w K mg base (L2.CX P w) 1 f fd ["number"] spSign := by
  have nd := sc_sign.nd
  refine F.ok sc_sign (fun vs H Q E h => by obtain ⟨v, rfl, _⟩ := h; rfl) (fun cdv A outer s H vs Q E hr h => ⟨_, pss_cons (ps_if (pt_cmpR op_lt (pv 0) (pe_int) (nomark _)) (pss_one (ps_ret (pe_un un_neg (pe_int)))) (pss_nil)) (pss_one (ps_ret (pe_ifExp (pt_cmpR op_gt (pv 0) (pe_int) (nomark _)) (pe_int) (pe_int)))), ?_⟩)
  obtain ⟨n, rfl, q⟩ := h
  walk_at "rd"
  refine iteP (fun h1 => ?_) (fun h1 => ?_)
  · have : n.sign = -1 := Int.sign_eq_neg_one_of_neg (of_decide_eq_true h1)
    rw [this] at q
    walk_at "rd"
    exact q
  · have h1 : ¬ n < 0 := fun z => h1 (decide_eq_true z)
    walk_at "rd"
    refine iteP (fun h2 => ?_) (fun h2 => ?_)
    · rw [Int.sign_eq_one_of_pos (of_decide_eq_true h2)] at q
      exact q
    · have : n = 0 := by
        have h2 : ¬ 0 < n := fun z => h2 (decide_eq_true z)
        omega
      subst this
      exact q

variable (g_is_integer : GD P w K mg base (L2.CX P w) 1 "is_integer" ["value"] [] (spIsInt K)) (g_sign_of : GD P w K mg base (L2.CX P w) 1 "sign_of" ["number"] [] spSign)
  (g_is_ratio : GD P w K mg base (L2.CX P w) 2 "is_ratio" ["value"] [] (spIsRat K)) (g_at_right : GD P w K mg base (L2.CX P w) 6 "at_right" ["value"] [] (spOf K))
  (g_xBadRatio : GX P w K mg base 1 "BadRatio" "part" (cX K "BadRatio"))
  (g_mRatio : GM P w K mg base (L2.CX P w) 3 "Ratio" (cR K) ["self", "top", "bottom"] [] (spInitR K)) (g_mRatio1 : GM P w K mg base (L2.CX P w) 3 "Ratio" (cR K) ["self", "top", "bottom"] [.int 1] (spInitR K))
  (g_Ratio_of : GS P w K mg base (L2.CX P w) 5 (cR K) "of" (spOf K)) (g_R_compared : GH P w K mg base (L2.CX P w) 7 (cR K) "compared" ["self", "other"] (spCmp K))
theorem sc_initR : FnScope ["self", "top", "bottom", "common"] ["self", "top", "bottom"] (defScope (inClass (topS 20) 0)) := ⟨rfl, rfl, rfl, by decide +kernel, rfl, by decide +kernel, by decide +kernel⟩
include g_is_integer g_xBadRatio in
theorem ok_initR (G : G0 K mg) (F : FP K "__init__" "Ratio.__init__" (inClass (topS 20) 0) [.int 1] f fd) : FnOk P w K mg base (L2.CX P w) 3 f fd ["self", "top", "bottom"] (spInitR K) := by
  have nd := sc_initR.nd
  refine F.ok sc_initR (fun vs H Q E h => by obtain ⟨_, _, _, _, rfl, _⟩ := h; rfl) (fun cdv A outer s H vs Q E hr h => ⟨_, pss_cons (ps_if (pt_not (pt_val (pe_gd g_is_integer (hr.mono (by decide)) rfl (pxE rfl rfl rfl rfl) (pa_cons (pv 1) (pa_nil))))) (pss_one (ps_raise rfl (takes_of rfl rfl rfl rfl) (pmk1 g_xBadRatio (hr.mono (by decide)) rfl (pa_cons (pe_str) (pa_nil))))) (pss_nil)) (pss_cons (ps_if (PW.pt (pw_or (pt_not (pt_val (pe_gd g_is_integer (hr.mono (by decide)) rfl (pxE rfl rfl rfl rfl) (pa_cons (pv 2) (pa_nil))))) (pw_or1 (pt_cmpR op_eq (pv 2) (pe_int) (nomark _))))) (pss_one (ps_raise rfl (takes_of rfl rfl rfl rfl) (pmk1 g_xBadRatio (hr.mono (by decide)) rfl (pa_cons (pe_str) (pa_nil))))) (pss_nil)) (pss_cons (ps_set (i := 3) nd rfl (Or.inl rfl) (pe_ifExp (pt_cmpR op_gt (pv 2) (pe_int) (nomark _)) (pe_callBfun cr_gcd rfl G.gcd (pa_cons (pv 1) (pa_cons (pv 2) (pa_nil)))) (pe_un un_neg (pe_callBfun cr_gcd rfl G.gcd (pa_cons (pv 1) (pa_cons (pv 2) (pa_nil))))))) (pss_cons (ps_fld (pv 0) (pe_op op_fdivB (pv 1) (pv 3)) rfl) (pss_one (ps_fld (pv 0) (pe_op op_fdivB (pv 2) (pv 3)) rfl))))), ?_⟩)
  obtain ⟨a, dx, t, b, rfl, ha, hb, s1, s2, q⟩ := h
  have t1 := G.tInt (H := H) t
  have t2 := G.tInt (H := H) b
  have cl := G.R.cl
  have n1 : NoAttr K (cR K) "top" := G.R.no _ (by simp)
  have n2 : NoAttr K (cR K) "bottom" := G.R.no _ (by simp)
  have hd : ∀ x, CDivB x (comm t b) := fun x => ⟨comm_ne hb, by
    have h1 := comm_le (a := t) hb
    have h2 : (2 : Nat) ^ 3900 ≤ 2 ^ 4000 := Nat.pow_le_pow_right (by decide) (by decide)
    omega⟩
  have fin : ∀ g : Int, g = comm t b → Q .non (upd (upd H a (.ins (cR K) dx [("top", .int (t.fdiv g))])) a (.ins (cR K) dx [("top", .int (t.fdiv g)), ("bottom", .int (b.fdiv g))])) := by
    intro g e
    subst e
    refine q _ (fun c o nc hc => ?_) ?_
    · rw [upd_ne nc, upd_ne nc]
      exact hc
    · rw [upd_same, comm_num hb, comm_den hb]
  walk_at "rd"
  refine iteP (fun h1 => absurd (by simpa using h1) hb) (fun _ => ?_)
  walk_at "rd"
  refine iteP (fun h2 => ?_) (fun h2 => ?_)
  · have e : ((Nat.gcd t.natAbs b.natAbs : Nat) : Int) = comm t b := by
      unfold comm
      rw [if_pos (of_decide_eq_true h2)]
    have d1 : CDivB t ((Nat.gcd t.natAbs b.natAbs : Nat) : Int) := e ▸ hd t
    have d2 : CDivB b ((Nat.gcd t.natAbs b.natAbs : Nat) : Int) := e ▸ hd b
    have u1 : ∀ {o}, (upd H a o) a = some o := upd_same
    walk_at "rd"
    exact fin _ e
  · have e : -((Nat.gcd t.natAbs b.natAbs : Nat) : Int) = comm t b := by
      unfold comm
      rw [if_neg (fun z => h2 (decide_eq_true z))]
    have d1 : CDivB t (-((Nat.gcd t.natAbs b.natAbs : Nat) : Int)) := e ▸ hd t
    have d2 : CDivB b (-((Nat.gcd t.natAbs b.natAbs : Nat) : Int)) := e ▸ hd b
    walk_at "rd"
    exact fin _ e
end
end Sp
end
section
set_option Elab.async false
set_option linter.all false
set_option exponentiation.threshold 5000
set_option maxRecDepth 100000
set_option maxHeartbeats 0
local macro_rules | `(tactic| walk_at "leaf") => `(tactic| first | rfl | assumption | exact True.intro | exact L2.upd_same | exact L2.ClsV.ty _ | exact L2.ClsV.own _ | decide | exact of_decide_eq_true rfl | exact L2.SqL.of (by assumption) | exact L2.SqL.of L2.upd_same | exact Or.inl (L2.SqL.of L2.upd_same) | exact Or.inl (L2.SqL.of (by assumption)) | exact L2.SqT.of (by assumption) | exact L2.SqT.of L2.upd_same | exact Sp.cmL (by decide) | exact Sp.cmR (by decide) | exact ⟨by decide, by decide, by decide⟩ | exact ⟨by decide, by decide⟩ | omega | fail)
local macro_rules | `(tactic| walk_at "rd1") => `(tactic| first
  | refine Sp.rbR (by assumption) (by assumption) (by assumption) (by assumption) ?_
  | apply Sp.exI
  | (refine And.intro ?lf ?_; (case lf => walk_at "leaf"))
  | fail)
local macro_rules | `(tactic| walk_at "rd") => `(tactic| repeat (walk_at "rd1"))
local macro_rules | `(tactic| walk_at "fR") => `(tactic| (have := (‹Sp.G0 _ _›).R.cl; have := (‹Sp.G0 _ _›).R.no "top" (by simp); have := (‹Sp.G0 _ _›).R.no "bottom" (by simp)))
local macro_rules | `(tactic| walk_at "fS") => `(tactic| (have := (‹Sp.G0 _ _›).S.cl; have := (‹Sp.G0 _ _›).S.no "studs" (by simp); have := (‹Sp.G0 _ _›).S.no "rounds" (by simp); have := (‹Sp.G0 _ _›).S.no "divisor" (by simp); have := (‹Sp.G0 _ _›).S.no "is_round" (by simp)))
local macro_rules | `(tactic| walk_at "fT") => `(tactic| (have := (‹Sp.G0 _ _›).T.cl; have := (‹Sp.G0 _ _›).T.no "turn" (by simp); have := (‹Sp.G0 _ _›).T.no "squared" (by simp); have := (‹Sp.G0 _ _›).T.no "rise" (by simp)))
namespace Sp
open PySem PySem.Spec PyProof.Rows L2
section
variable {P : Program} {w : World} {K : PySem.W.Frag} {mg : Str → Option Value} {base : Heap} {f : Addr} {fd : FuncData}
variable (g_is_integer : GD P w K mg base (L2.CX P w) 1 "is_integer" ["value"] [] (spIsInt K)) (g_sign_of : GD P w K mg base (L2.CX P w) 1 "sign_of" ["number"] [] spSign)
  (g_is_ratio : GD P w K mg base (L2.CX P w) 2 "is_ratio" ["value"] [] (spIsRat K)) (g_at_right : GD P w K mg base (L2.CX P w) 6 "at_right" ["value"] [] (spOf K))
  (g_xBadRatio : GX P w K mg base 1 "BadRatio" "part" (cX K "BadRatio")) (g_xBadStep : GX P w K mg base 1 "BadStep" "part" (cX K "BadStep")) (g_xRound : GX P w K mg base 1 "Round" "part" (cX K "Round")) (g_xBadStem : GX P w K mg base 1 "BadStem" "part" (cX K "BadStem"))
  (g_mRatio : GM P w K mg base (L2.CX P w) 3 "Ratio" (cR K) ["self", "top", "bottom"] [] (spInitR K)) (g_mRatio1 : GM P w K mg base (L2.CX P w) 3 "Ratio" (cR K) ["self", "top", "bottom"] [.int 1] (spInitR K))
  (g_Ratio_of : GS P w K mg base (L2.CX P w) 5 (cR K) "of" (spOf K)) (g_R_compared : GH P w K mg base (L2.CX P w) 7 (cR K) "compared" ["self", "other"] (spCmp K))
variable (g_radd : GO P w K mg base (L2.CX P w) 7 (cR K) .Add (spBinR K (· + ·))) (g_rsub : GO P w K mg base (L2.CX P w) 7 (cR K) .Sub (spBinR K (· - ·))) (g_rmul : GO P w K mg base (L2.CX P w) 7 (cR K) .Mult (spBinR K (· * ·)))
  (g_rabs : GN P w K mg base (L2.CX P w) 5 (cR K) "__abs__" (spAbs K)) (g_req : GN P w K mg base (L2.CX P w) 2 (cR K) "__eq__" (spEqR K)) (g_R_sign : GP P w K mg base (L2.CX P w) 2 (cR K) "sign" (spSgn K)) (g_R_is_below : GH P w K mg base (L2.CX P w) 8 (cR K) "is_below" ["self", "other"] (spBelow K))
variable (g_mStep : GM P w K mg base (L2.CX P w) 3 "Step" (cS K) ["self", "studs", "rounds"] [] (spInitS K)) (g_mStem : GM P w K mg base (L2.CX P w) 8 "Stem" (cT K) ["self", "turn", "squared"] [] (spInitT K))
  (g_need_step : GD P w K mg base (L2.CX P w) 3 "need_step" ["value", "part"] [] (spNeedS K)) (g_need_studs : GD P w K mg base (L2.CX P w) 3 "need_studs" ["step", "part"] [] (spNeedK K)) (g_summed : GD P w K mg base (L2.CX P w) 5 "summed" ["studs", "rounds"] [] (spSummed K))
  (g_cross : GD P w K mg base (L2.CX P w) 4 "cross" ["one", "other"] [] (spCross K)) (g_sadd : GO P w K mg base (L2.CX P w) 6 (cS K) .Add (spAddS K))
  (g_T_product : GH P w K mg base (L2.CX P w) 8 (cT K) "product" ["self", "one", "other"] (spProd K)) (g_T_lean : GH P w K mg base (L2.CX P w) 8 (cT K) "lean" ["self", "step"] (spLean K))
  (g_T_square : GH P w K mg base (L2.CX P w) 9 (cT K) "square" ["self", "step"] (spSq K)) (g_T_is_steeper : GH P w K mg base (L2.CX P w) 9 (cT K) "is_steeper" ["self", "one", "other"] (spSteep K))
variable (g_l_dip : GD P w K mg base (L2.CX P w) 1 "_law_dip" ["_law_pail_here", "_law_many"] [] spDip) (g_l_sized : GD P w K mg base (L2.CX P w) 2 "_law_sized" ["_law_pail_here", "_law_many"] [] spSized)
  (g_l_pail : GD P w K mg base (L2.CX P w) 1 "_law_pail" ["_law_script"] [] (spPail K)) (g_l_post : GD P w K mg base (L2.CX P w) 2 "_law_post" ["_law_pail_here"] [] spPost)
  (g_l_laid : GD P w K mg base (L2.CX P w) 1 "_law_laid" ["_law_post_here", "_law_one", "_law_other"] [] spLaid) (g_l_is : GD P w K mg base (L2.CX P w) 1 "_law_is" ["_law_ratio", "_law_pair"] [] (spIs K))
  (g_l_steps : GD P w K mg base (L2.CX P w) 3 "_law_steps" ["_law_pail_here"] [] spSteps)

theorem sc_isRat : FnScope ["value"] ["value"] (defScope (topS 22)) := ⟨rfl, rfl, rfl, by decide +kernel, rfl, by decide +kernel, by decide +kernel⟩
include g_is_integer in
theorem ok_isRat (G : G0 K mg) (F : FP K "is_ratio" "is_ratio" (topS 22) [] f fd) : FnOk P w K mg base (L2.CX P w) 2 f fd ["value"] (spIsRat K) := by
  have nd := sc_isRat.nd
  refine F.ok sc_isRat (fun vs H Q E h => by obtain ⟨_, _, rfl, _⟩ := h; rfl) (fun cdv A outer s H vs Q E hr h => ⟨_, pss_one (ps_ret (pe_or (pe_callB call_isi rfl G.nm.isinstance (by decide +kernel) (pa_cons (pv 0) (pa_cons ((pe_glob (v := .ref (cR K)) rfl G.mgRatio rfl)) (pa_nil)))) (pe_one (pe_gd g_is_integer (hr.mono (by decide)) rfl (pxE rfl rfl rfl rfl) (pa_cons (pv 0) (pa_nil)))))), ?_⟩)
  obtain ⟨v, t, rfl, ty, q⟩ := h
  have k1 := ty.2.R
  have k2 := ty.1
  walk_at "rd"
  cases e : decide (t = .ref (cR K)) with
  | true =>
    rw [e] at q
    exact q
  | false =>
    rw [e] at q
    walk_at "rd"
    exact q
theorem G0.tRV {H : Hp} (G : G0 K mg) {v : V} {q : Rat} (h : RV K H v q) : ∃ t, Ty K H v t ∧ (decide (t = .ref (cR K)) || decide (t = .type "int")) = true := by
  rcases h with ⟨p, rfl, h⟩ | ⟨i, rfl, _⟩
  · exact ⟨_, G.tR h, by simp⟩
  · exact ⟨_, G.tInt i, by simp⟩
theorem sc_atRight : FnScope ["value"] ["value"] (defScope (topS 23)) := ⟨rfl, rfl, rfl, by decide +kernel, rfl, by decide +kernel, by decide +kernel⟩
include g_Ratio_of g_is_ratio g_xBadRatio in
theorem ok_atRight (G : G0 K mg) (F : FP K "at_right" "at_right" (topS 23) [] f fd) : FnOk P w K mg base (L2.CX P w) 6 f fd ["value"] (spOf K) := by
  have nd := sc_atRight.nd
  refine F.ok sc_atRight (fun vs H Q E h => by obtain ⟨_, _, rfl, _⟩ := h; rfl) (fun cdv A outer s H vs Q E hr h => ⟨_, pss_cons (ps_if (pt_not (pt_val (pe_gd g_is_ratio (hr.mono (by decide)) rfl (pxE rfl rfl rfl rfl) (pa_cons (pv 0) (pa_nil))))) (pss_one (ps_raise rfl (takes_of rfl rfl rfl rfl) (pmk1 g_xBadRatio (hr.mono (by decide)) rfl (pa_cons (pe_str) (pa_nil))))) (pss_nil)) (pss_one (ps_ret (pe_gs (pe_glob (v := .ref (cR K)) rfl G.mgRatio rfl) g_Ratio_of (hr.mono (by decide)) (pxE rfl rfl rfl rfl) (pa_cons (pv 0) (pa_nil))))), ?_⟩)
  obtain ⟨v, q, rfl, rv, sz, k⟩ := h
  obtain ⟨t, ty, e⟩ := G.tRV rv
  walk_at "rd"
  refine iteP (fun h1 => ?_) (fun h1 => ?_)
  · rw [e] at h1
    cases h1
  · walk_at "rd"
    exact k
theorem sc_of : FnScope ["value"] ["value"] (defScope (inClass (topS 20) 17)) := ⟨rfl, rfl, rfl, by decide +kernel, rfl, by decide +kernel, by decide +kernel⟩
include g_is_ratio g_mRatio1 g_xBadRatio in
theorem ok_of (G : G0 K mg) (F : FP K "of" "Ratio.of" (inClass (topS 20) 17) [] f fd) : FnOk P w K mg base (L2.CX P w) 5 f fd ["value"] (spOf K) := by
  have nd := sc_of.nd
  refine F.ok sc_of (fun vs H Q E h => by obtain ⟨_, _, rfl, _⟩ := h; rfl) (fun cdv A outer s H vs Q E hr h => ⟨_, pss_cons (ps_if (pt_not (pt_val (pe_gd g_is_ratio (hr.mono (by decide)) rfl (pxE rfl rfl rfl rfl) (pa_cons (pv 0) (pa_nil))))) (pss_one (ps_raise rfl (takes_of rfl rfl rfl rfl) (pmk1 g_xBadRatio (hr.mono (by decide)) rfl (pa_cons (pe_str) (pa_nil))))) (pss_nil)) (pss_one (ps_ret (pe_ifExp (pt_val (pe_callB call_isi rfl G.nm.isinstance (by decide +kernel) (pa_cons (pv 0) (pa_cons ((pe_glob (v := .ref (cR K)) rfl G.mgRatio rfl)) (pa_nil))))) (pv 0) (pe_gm g_mRatio1 (hr.mono (by decide)) rfl (pxE rfl rfl rfl rfl) (pa_cons (pv 0) (pa_nil)))))), ?_⟩)
  obtain ⟨v, q, rfl, rv, sz, k⟩ := h
  rcases rv with ⟨p, rfl, r⟩ | ⟨i, rfl, rfl⟩
  · have ty := G.tR r
    have k1 := ty.2.R
    have k2 := ty.1
    walk_at "rd"
    refine iteP (fun h1 => absurd h1 (by simp)) (fun h1 => ?_)
    walk_at "rd"
    refine iteP (fun h2 => ?_) (fun h2 => absurd (by simp) h2)
    walk_at "rd"
    exact k p H (fun _ _ z => z) r
  · have ty := G.tInt (H := H) i
    have k1 := ty.2.R
    have k2 := ty.1
    walk_at "rd"
    exact makeR1 (by have := sz.1; rw [Rat.num_intCast] at this; exact this) fun p H' s _ r => k p H' s r
theorem sc_add : FnScope ["self", "other", "right"] ["self", "other"] (defScope (inClass (topS 20) 4)) := ⟨rfl, rfl, rfl, by decide +kernel, rfl, by decide +kernel, by decide +kernel⟩
include g_at_right g_mRatio in
theorem ok_add (G : G0 K mg) (F : FP K "__add__" "Ratio.__add__" (inClass (topS 20) 4) [] f fd) : FnOk P w K mg base (L2.CX P w) 7 f fd ["self", "other"] (spBinR K (· + ·)) := by
  have nd := sc_add.nd
  refine F.ok sc_add (fun vs H Q E h => by obtain ⟨_, _, _, _, rfl, _⟩ := h; rfl) (fun cdv A outer s H vs Q E hr h => ⟨_, pss_cons (ps_set (i := 2) nd rfl (Or.inl rfl) (pe_gd g_at_right (hr.mono (by decide)) rfl (pxE rfl rfl rfl rfl) (pa_cons (pv 1) (pa_nil)))) (pss_one (ps_ret (pe_gm g_mRatio (hr.mono (by decide)) rfl (pxE rfl rfl rfl rfl) (pa_cons (pe_op op_add (pe_op op_mulB (pe_fld (pv 0) rfl) (pe_fld (pv 2) rfl)) (pe_op op_mulB (pe_fld (pv 2) rfl) (pe_fld (pv 0) rfl))) (pa_cons (pe_op op_mulB (pe_fld (pv 0) rfl) (pe_fld (pv 2) rfl)) (pa_nil)))))), ?_⟩)
  obtain ⟨a, v, q1, q2, rfl, r1, r2, z1, z2, k⟩ := h
  have z2' : Sz q2 3900 := z2.mono
  walk_at "rd"
  intro p H' sm r
  obtain ⟨dx, r⟩ := r
  obtain ⟨dx1, r1⟩ := r1.ext sm
  walk_at "fR"
  obtain ⟨m1, m2, m3, m4⟩ := szm z1 z2
  walk_at "rd"
  exact makeR (dd_ne q1 q2) (nb_add (nb_mul z1.1 z2.d) (nb_mul z2.1 z1.d)) (nb_le (nb_mul z1.d z2.d)) fun p' H'' sm' _ r' => k p' H'' (sm.trans sm') (by rw [add_eq] at r'; exact r')
theorem sc_sub : FnScope ["self", "other", "right"] ["self", "other"] (defScope (inClass (topS 20) 5)) := ⟨rfl, rfl, rfl, by decide +kernel, rfl, by decide +kernel, by decide +kernel⟩
include g_at_right g_mRatio in
theorem ok_sub (G : G0 K mg) (F : FP K "__sub__" "Ratio.__sub__" (inClass (topS 20) 5) [] f fd) : FnOk P w K mg base (L2.CX P w) 7 f fd ["self", "other"] (spBinR K (· - ·)) := by
  have nd := sc_sub.nd
  refine F.ok sc_sub (fun vs H Q E h => by obtain ⟨_, _, _, _, rfl, _⟩ := h; rfl) (fun cdv A outer s H vs Q E hr h => ⟨_, pss_cons (ps_set (i := 2) nd rfl (Or.inl rfl) (pe_gd g_at_right (hr.mono (by decide)) rfl (pxE rfl rfl rfl rfl) (pa_cons (pv 1) (pa_nil)))) (pss_one (ps_ret (pe_gm g_mRatio (hr.mono (by decide)) rfl (pxE rfl rfl rfl rfl) (pa_cons (pe_op op_sub (pe_op op_mulB (pe_fld (pv 0) rfl) (pe_fld (pv 2) rfl)) (pe_op op_mulB (pe_fld (pv 2) rfl) (pe_fld (pv 0) rfl))) (pa_cons (pe_op op_mulB (pe_fld (pv 0) rfl) (pe_fld (pv 2) rfl)) (pa_nil)))))), ?_⟩)
  obtain ⟨a, v, q1, q2, rfl, r1, r2, z1, z2, k⟩ := h
  have z2' : Sz q2 3900 := z2.mono
  walk_at "rd"
  intro p H' sm r
  obtain ⟨dx, r⟩ := r
  obtain ⟨dx1, r1⟩ := r1.ext sm
  walk_at "fR"
  obtain ⟨m1, m2, m3, m4⟩ := szm z1 z2
  walk_at "rd"
  exact makeR (dd_ne q1 q2) (nb_sub (nb_mul z1.1 z2.d) (nb_mul z2.1 z1.d)) (nb_le (nb_mul z1.d z2.d)) fun p' H'' sm' _ r' => k p' H'' (sm.trans sm') (by rw [sub_eq] at r'; exact r')
theorem sc_mul : FnScope ["self", "other", "right"] ["self", "other"] (defScope (inClass (topS 20) 6)) := ⟨rfl, rfl, rfl, by decide +kernel, rfl, by decide +kernel, by decide +kernel⟩
include g_at_right g_mRatio in
theorem ok_mul (G : G0 K mg) (F : FP K "__mul__" "Ratio.__mul__" (inClass (topS 20) 6) [] f fd) : FnOk P w K mg base (L2.CX P w) 7 f fd ["self", "other"] (spBinR K (· * ·)) := by
  have nd := sc_mul.nd
  refine F.ok sc_mul (fun vs H Q E h => by obtain ⟨_, _, _, _, rfl, _⟩ := h; rfl) (fun cdv A outer s H vs Q E hr h => ⟨_, pss_cons (ps_set (i := 2) nd rfl (Or.inl rfl) (pe_gd g_at_right (hr.mono (by decide)) rfl (pxE rfl rfl rfl rfl) (pa_cons (pv 1) (pa_nil)))) (pss_one (ps_ret (pe_gm g_mRatio (hr.mono (by decide)) rfl (pxE rfl rfl rfl rfl) (pa_cons (pe_op op_mulB (pe_fld (pv 0) rfl) (pe_fld (pv 2) rfl)) (pa_cons (pe_op op_mulB (pe_fld (pv 0) rfl) (pe_fld (pv 2) rfl)) (pa_nil)))))), ?_⟩)
  obtain ⟨a, v, q1, q2, rfl, r1, r2, z1, z2, k⟩ := h
  have z2' : Sz q2 3900 := z2.mono
  walk_at "rd"
  intro p H' sm r
  obtain ⟨dx, r⟩ := r
  obtain ⟨dx1, r1⟩ := r1.ext sm
  walk_at "fR"
  obtain ⟨m1, m2, m3, m4⟩ := szm z1 z2
  walk_at "rd"
  exact makeR (dd_ne q1 q2) (nb_le (nb_mul z1.1 z2.1)) (nb_le (nb_mul z1.d z2.d)) fun p' H'' sm' _ r' => k p' H'' (sm.trans sm') (by rw [mul_eq] at r'; exact r')
theorem sc_cmp : FnScope ["self", "other", "right"] ["self", "other"] (defScope (inClass (topS 20) 8)) := ⟨rfl, rfl, rfl, by decide +kernel, rfl, by decide +kernel, by decide +kernel⟩
include g_at_right g_sign_of in
theorem ok_cmp (G : G0 K mg) (F : FP K "compared" "Ratio.compared" (inClass (topS 20) 8) [] f fd) : FnOk P w K mg base (L2.CX P w) 7 f fd ["self", "other"] (spCmp K) := by
  have nd := sc_cmp.nd
  refine F.ok sc_cmp (fun vs H Q E h => by obtain ⟨_, _, _, _, rfl, _⟩ := h; rfl) (fun cdv A outer s H vs Q E hr h => ⟨_, pss_cons (ps_set (i := 2) nd rfl (Or.inl rfl) (pe_gd g_at_right (hr.mono (by decide)) rfl (pxE rfl rfl rfl rfl) (pa_cons (pv 1) (pa_nil)))) (pss_one (ps_ret (pe_gd g_sign_of (hr.mono (by decide)) rfl (pxE rfl rfl rfl rfl) (pa_cons (pe_op op_sub (pe_op op_mulB (pe_fld (pv 0) rfl) (pe_fld (pv 2) rfl)) (pe_op op_mulB (pe_fld (pv 2) rfl) (pe_fld (pv 0) rfl))) (pa_nil))))), ?_⟩)
  obtain ⟨a, v, q1, q2, rfl, r1, r2, z1, z2, k⟩ := h
  have z2' : Sz q2 3900 := z2.mono
  walk_at "rd"
  intro p H' sm r
  obtain ⟨dx, r⟩ := r
  obtain ⟨dx1, r1⟩ := r1.ext sm
  walk_at "fR"
  obtain ⟨m1, m2, m3, m4⟩ := szm z1 z2
  walk_at "rd"
  exact k H' sm
theorem sc_below : FnScope ["self", "other"] ["self", "other"] (defScope (inClass (topS 20) 9)) := ⟨rfl, rfl, rfl, by decide +kernel, rfl, by decide +kernel, by decide +kernel⟩
include g_R_compared in
theorem ok_below (G : G0 K mg) (F : FP K "is_below" "Ratio.is_below" (inClass (topS 20) 9) [] f fd) : FnOk P w K mg base (L2.CX P w) 8 f fd ["self", "other"] (spBelow K) := by
  have nd := sc_below.nd
  refine F.ok sc_below (fun vs H Q E h => by obtain ⟨_, _, _, _, rfl, _⟩ := h; rfl) (fun cdv A outer s H vs Q E hr h => ⟨_, pss_one (ps_ret (pe_cmpR op_lt (pe_gh (pv 0) G.R.cl g_R_compared (hr.mono (by decide)) (pxE rfl rfl rfl rfl) (pa_cons (pv 1) (pa_nil))) (pe_int) (nomark _))), ?_⟩)
  obtain ⟨a, v, q1, q2, rfl, r1, r2, z1, z2, k⟩ := h
  obtain ⟨dx1, r1'⟩ := r1
  have r1 : IsR K H a q1 := ⟨dx1, r1'⟩
  walk_at "rd"
  intro H' sm
  have := k H' sm
  rw [← below_eq] at this
  walk_at "rd"
  exact this
theorem sc_neg : FnScope ["self"] ["self"] (defScope (inClass (topS 20) 11)) := ⟨rfl, rfl, rfl, by decide +kernel, rfl, by decide +kernel, by decide +kernel⟩
include g_mRatio in
theorem ok_abs (G : G0 K mg) (F : FP K "__abs__" "Ratio.__abs__" (inClass (topS 20) 11) [] f fd) : FnOk P w K mg base (L2.CX P w) 5 f fd ["self"] (spAbs K) := by
  have nd := sc_neg.nd
  refine F.ok sc_neg (fun vs H Q E h => by obtain ⟨_, _, rfl, _⟩ := h; rfl) (fun cdv A outer s H vs Q E hr h => ⟨_, pss_one (ps_ret (pe_gm g_mRatio (hr.mono (by decide)) rfl (pxE rfl rfl rfl rfl) (pa_cons (pe_callB call_abs rfl G.nm.abs (by decide +kernel) (pa_cons (pe_fld (pv 0) rfl) (pa_nil))) (pa_cons (pe_fld (pv 0) rfl) (pa_nil))))), ?_⟩)
  obtain ⟨a, q, rfl, ⟨dx, r⟩, z, k⟩ := h
  walk_at "fR"
  walk_at "rd"
  refine makeR (den_ne q) ?_ z.d fun p H' sm _ r' => k p H' sm (by rw [qabs_eq] at r'; exact r')
  have := z.1
  split <;> omega
theorem sc_eqR : FnScope ["self", "other"] ["self", "other"] (defScope (inClass (topS 20) 13)) := ⟨rfl, rfl, rfl, by decide +kernel, rfl, by decide +kernel, by decide +kernel⟩
include g_is_integer in
theorem ok_eqR (G : G0 K mg) (F : FP K "__eq__" "Ratio.__eq__" (inClass (topS 20) 13) [] f fd) : FnOk P w K mg base (L2.CX P w) 2 f fd ["self", "other"] (spEqR K) := by
  have nd := sc_eqR.nd
  refine F.ok sc_eqR (fun vs H Q E h => by obtain ⟨_, _, _, _, rfl, _⟩ := h; rfl) (fun cdv A outer s H vs Q E hr h => ⟨_, pss_cons (ps_if (pt_val (pe_callB call_isi rfl G.nm.isinstance (by decide +kernel) (pa_cons (pv 1) (pa_cons ((pe_glob (v := .ref (cR K)) rfl G.mgRatio rfl)) (pa_nil))))) (pss_one (ps_ret (pe_and (pe_cmpR op_eq (pe_fld (pv 0) rfl) (pe_fld (pv 1) rfl) (nomark _)) (pe_one (pe_cmpR op_eq (pe_fld (pv 0) rfl) (pe_fld (pv 1) rfl) (nomark _)))))) (pss_nil)) (pss_one (ps_ret (pe_and (pe_gd g_is_integer (hr.mono (by decide)) rfl (pxE rfl rfl rfl rfl) (pa_cons (pv 1) (pa_nil))) (pe_and (pe_cmpR op_eq (pe_fld (pv 0) rfl) (pe_int) (nomark _)) (pe_one (pe_cmpR op_eq (pe_fld (pv 0) rfl) (pv 1) (nomark _))))))), ?_⟩)
  obtain ⟨a, v, q1, q2, rfl, ⟨dx1, r1⟩, r2, k⟩ := h
  walk_at "fR"
  rcases r2 with ⟨p, rfl, r2⟩ | ⟨i, rfl, rfl⟩
  · have ty := G.tR r2
    have k1 := ty.2.R
    have k2 := ty.1
    obtain ⟨dx2, r2⟩ := r2
    walk_at "rd"
    refine iteP (fun h2 => ?_) (fun h2 => absurd (by simp) h2)
    walk_at "rd"
    refine iteP (fun h3 => ?_) (fun h3 => ?_)
    · have h3 : q1.num = q2.num := by simpa using h3
      walk_at "rd"
      have e : decide (q1 = q2) = decide (V.int q1.den = V.int q2.den) := decide_eq_decide.mpr (by rw [req, V.int.injEq]; exact ⟨fun z => z.2, fun z => ⟨h3, z⟩⟩)
      rw [e] at k
      exact k
    · have h3 : ¬ q1.num = q2.num := by simpa using h3
      rw [decide_eq_false (fun z => h3 ((req _ _).mp z).1)] at k
      exact k
  · have ty := G.tInt (H := H) i
    have k1 := ty.2.R
    have k2 := ty.1
    walk_at "rd"
    refine iteP (fun h3 => ?_) (fun h3 => ?_)
    · have h3 : ((q1.den : Nat) : Int) = 1 := by simpa using h3
      walk_at "rd"
      have e : decide (q1 = (i : Rat)) = decide (V.int q1.num = V.int i) := decide_eq_decide.mpr (by rw [req, V.int.injEq, Rat.num_intCast, Rat.den_intCast]; exact ⟨fun z => z.1, fun z => ⟨z, h3⟩⟩)
      rw [e] at k
      exact k
    · have h3 : ¬ ((q1.den : Nat) : Int) = 1 := by simpa using h3
      rw [decide_eq_false (fun z => h3 (by have := ((req _ _).mp z).2; rw [Rat.den_intCast] at this; exact this))] at k
      exact k
theorem sc_sgn : FnScope ["self"] ["self"] (defScope (inClass (topS 20) 1)) := ⟨rfl, rfl, rfl, by decide +kernel, rfl, by decide +kernel, by decide +kernel⟩
include g_sign_of in
theorem ok_sgn (G : G0 K mg) (F : FP K "sign" "Ratio.sign" (inClass (topS 20) 1) [] f fd) : FnOk P w K mg base (L2.CX P w) 2 f fd ["self"] (spSgn K) := by
  have nd := sc_sgn.nd
  refine F.ok sc_sgn (fun vs H Q E h => by obtain ⟨_, _, rfl, _⟩ := h; rfl) (fun cdv A outer s H vs Q E hr h => ⟨_, pss_one (ps_ret (pe_gd g_sign_of (hr.mono (by decide)) rfl (pxE rfl rfl rfl rfl) (pa_cons (pe_fld (pv 0) rfl) (pa_nil)))), ?_⟩)
  obtain ⟨a, q, rfl, ⟨dx, r⟩, k⟩ := h
  walk_at "fR"
  walk_at "rd"
  exact k
end
end Sp
end
section
set_option Elab.async false
set_option linter.all false
set_option exponentiation.threshold 5000
set_option maxRecDepth 100000
set_option maxHeartbeats 0
local macro_rules | `(tactic| walk_at "leaf") => `(tactic| first | rfl | assumption | exact True.intro | exact L2.upd_same | exact L2.ClsV.ty _ | exact L2.ClsV.own _ | decide | exact of_decide_eq_true rfl | exact L2.SqL.of (by assumption) | exact L2.SqL.of L2.upd_same | exact Or.inl (L2.SqL.of L2.upd_same) | exact Or.inl (L2.SqL.of (by assumption)) | exact L2.SqT.of (by assumption) | exact L2.SqT.of L2.upd_same | exact Sp.cmL (by decide) | exact Sp.cmR (by decide) | exact ⟨by decide, by decide, by decide⟩ | exact ⟨by decide, by decide⟩ | omega | fail)
local macro_rules | `(tactic| walk_at "rd1") => `(tactic| first
  | refine Sp.rbR (by assumption) (by assumption) (by assumption) (by assumption) ?_
  | apply Sp.exI
  | (refine And.intro ?lf ?_; (case lf => walk_at "leaf"))
  | fail)
local macro_rules | `(tactic| walk_at "rd") => `(tactic| repeat (walk_at "rd1"))
local macro_rules | `(tactic| walk_at "fR") => `(tactic| (have := (‹Sp.G0 _ _›).R.cl; have := (‹Sp.G0 _ _›).R.no "top" (by simp); have := (‹Sp.G0 _ _›).R.no "bottom" (by simp)))
local macro_rules | `(tactic| walk_at "fS") => `(tactic| (have := (‹Sp.G0 _ _›).S.cl; have := (‹Sp.G0 _ _›).S.no "studs" (by simp); have := (‹Sp.G0 _ _›).S.no "rounds" (by simp); have := (‹Sp.G0 _ _›).S.no "divisor" (by simp); have := (‹Sp.G0 _ _›).S.no "is_round" (by simp)))
local macro_rules | `(tactic| walk_at "fT") => `(tactic| (have := (‹Sp.G0 _ _›).T.cl; have := (‹Sp.G0 _ _›).T.no "turn" (by simp); have := (‹Sp.G0 _ _›).T.no "squared" (by simp); have := (‹Sp.G0 _ _›).T.no "rise" (by simp)))
namespace Sp
open PySem PySem.Spec PyProof.Rows L2
section
variable {P : Program} {w : World} {K : PySem.W.Frag} {mg : Str → Option Value} {base : Heap} {f : Addr} {fd : FuncData}
variable (g_is_integer : GD P w K mg base (L2.CX P w) 1 "is_integer" ["value"] [] (spIsInt K)) (g_sign_of : GD P w K mg base (L2.CX P w) 1 "sign_of" ["number"] [] spSign)
  (g_is_ratio : GD P w K mg base (L2.CX P w) 2 "is_ratio" ["value"] [] (spIsRat K)) (g_at_right : GD P w K mg base (L2.CX P w) 6 "at_right" ["value"] [] (spOf K))
  (g_xBadRatio : GX P w K mg base 1 "BadRatio" "part" (cX K "BadRatio")) (g_xBadStep : GX P w K mg base 1 "BadStep" "part" (cX K "BadStep")) (g_xRound : GX P w K mg base 1 "Round" "part" (cX K "Round")) (g_xBadStem : GX P w K mg base 1 "BadStem" "part" (cX K "BadStem"))
  (g_mRatio : GM P w K mg base (L2.CX P w) 3 "Ratio" (cR K) ["self", "top", "bottom"] [] (spInitR K)) (g_mRatio1 : GM P w K mg base (L2.CX P w) 3 "Ratio" (cR K) ["self", "top", "bottom"] [.int 1] (spInitR K))
  (g_Ratio_of : GS P w K mg base (L2.CX P w) 5 (cR K) "of" (spOf K)) (g_R_compared : GH P w K mg base (L2.CX P w) 7 (cR K) "compared" ["self", "other"] (spCmp K))
variable (g_radd : GO P w K mg base (L2.CX P w) 7 (cR K) .Add (spBinR K (· + ·))) (g_rsub : GO P w K mg base (L2.CX P w) 7 (cR K) .Sub (spBinR K (· - ·))) (g_rmul : GO P w K mg base (L2.CX P w) 7 (cR K) .Mult (spBinR K (· * ·)))
  (g_rabs : GN P w K mg base (L2.CX P w) 5 (cR K) "__abs__" (spAbs K)) (g_req : GN P w K mg base (L2.CX P w) 2 (cR K) "__eq__" (spEqR K)) (g_R_sign : GP P w K mg base (L2.CX P w) 2 (cR K) "sign" (spSgn K)) (g_R_is_below : GH P w K mg base (L2.CX P w) 8 (cR K) "is_below" ["self", "other"] (spBelow K))
variable (g_mStep : GM P w K mg base (L2.CX P w) 3 "Step" (cS K) ["self", "studs", "rounds"] [] (spInitS K)) (g_mStem : GM P w K mg base (L2.CX P w) 8 "Stem" (cT K) ["self", "turn", "squared"] [] (spInitT K))
  (g_need_step : GD P w K mg base (L2.CX P w) 3 "need_step" ["value", "part"] [] (spNeedS K)) (g_need_studs : GD P w K mg base (L2.CX P w) 3 "need_studs" ["step", "part"] [] (spNeedK K)) (g_summed : GD P w K mg base (L2.CX P w) 5 "summed" ["studs", "rounds"] [] (spSummed K))
  (g_cross : GD P w K mg base (L2.CX P w) 4 "cross" ["one", "other"] [] (spCross K)) (g_sadd : GO P w K mg base (L2.CX P w) 6 (cS K) .Add (spAddS K))
  (g_T_product : GH P w K mg base (L2.CX P w) 8 (cT K) "product" ["self", "one", "other"] (spProd K)) (g_T_lean : GH P w K mg base (L2.CX P w) 8 (cT K) "lean" ["self", "step"] (spLean K))
  (g_T_square : GH P w K mg base (L2.CX P w) 9 (cT K) "square" ["self", "step"] (spSq K)) (g_T_is_steeper : GH P w K mg base (L2.CX P w) 9 (cT K) "is_steeper" ["self", "one", "other"] (spSteep K))
variable (g_l_dip : GD P w K mg base (L2.CX P w) 1 "_law_dip" ["_law_pail_here", "_law_many"] [] spDip) (g_l_sized : GD P w K mg base (L2.CX P w) 2 "_law_sized" ["_law_pail_here", "_law_many"] [] spSized)
  (g_l_pail : GD P w K mg base (L2.CX P w) 1 "_law_pail" ["_law_script"] [] (spPail K)) (g_l_post : GD P w K mg base (L2.CX P w) 2 "_law_post" ["_law_pail_here"] [] spPost)
  (g_l_laid : GD P w K mg base (L2.CX P w) 1 "_law_laid" ["_law_post_here", "_law_one", "_law_other"] [] spLaid) (g_l_is : GD P w K mg base (L2.CX P w) 1 "_law_is" ["_law_ratio", "_law_pair"] [] (spIs K))
  (g_l_steps : GD P w K mg base (L2.CX P w) 3 "_law_steps" ["_law_pail_here"] [] spSteps)

theorem sc_initS : FnScope ["self", "studs", "rounds"] ["self", "studs", "rounds"] (defScope (inClass (topS 27) 0)) := ⟨rfl, rfl, rfl, by decide +kernel, rfl, by decide +kernel, by decide +kernel⟩
include g_is_integer g_xBadStep in
theorem ok_initS (G : G0 K mg) (F : FP K "__init__" "Step.__init__" (inClass (topS 27) 0) [] f fd) : FnOk P w K mg base (L2.CX P w) 3 f fd ["self", "studs", "rounds"] (spInitS K) := by
  have nd := sc_initS.nd
  refine F.ok sc_initS (fun vs H Q E h => by obtain ⟨_, _, _, _, rfl, _⟩ := h; rfl) (fun cdv A outer s H vs Q E hr h => ⟨_, pss_cons (ps_if (pt_not (pt_val (pe_gd g_is_integer (hr.mono (by decide)) rfl (pxE rfl rfl rfl rfl) (pa_cons (pv 1) (pa_nil))))) (pss_one (ps_raise rfl (takes_of rfl rfl rfl rfl) (pmk1 g_xBadStep (hr.mono (by decide)) rfl (pa_cons (pe_str) (pa_nil))))) (pss_nil)) (pss_cons (ps_if (pt_not (pt_val (pe_gd g_is_integer (hr.mono (by decide)) rfl (pxE rfl rfl rfl rfl) (pa_cons (pv 2) (pa_nil))))) (pss_one (ps_raise rfl (takes_of rfl rfl rfl rfl) (pmk1 g_xBadStep (hr.mono (by decide)) rfl (pa_cons (pe_str) (pa_nil))))) (pss_nil)) (pss_cons (ps_if (PW.pt (pw_and (pt_cmpR op_eq (pv 1) (pe_int) (nomark _)) (pw_and1 (pt_cmpR op_eq (pv 2) (pe_int) (nomark _))))) (pss_one (ps_raise rfl (takes_of rfl rfl rfl rfl) (pmk1 g_xBadStep (hr.mono (by decide)) rfl (pa_cons (pe_str) (pa_nil))))) (pss_nil)) (pss_cons (ps_fld (pv 0) (pv 1) rfl) (pss_cons (ps_fld (pv 0) (pv 2) rfl) (pss_cons (ps_fld (pv 0) (pe_callBfun cr_gcd rfl G.gcd (pa_cons (pv 1) (pa_cons (pv 2) (pa_nil)))) rfl) (pss_one (ps_fld (pv 0) (pe_cmpR op_eq (pv 1) (pe_int) (nomark _)) rfl))))))), ?_⟩)
  obtain ⟨a, dx, k, j, rfl, ha, hz, q⟩ := h
  have t1 := G.tInt (H := H) k
  have t2 := G.tInt (H := H) j
  walk_at "fS"
  walk_at "rd"
  have e : decide (V.int k = V.int 0) = decide (k = 0) := by simp
  refine iteP (fun h1 => ?_) (fun h1 => ?_)
  · have h1 : k = 0 := by simpa using h1
    walk_at "rd"
    refine iteP (fun h2 => absurd ⟨h1, by simpa using h2⟩ hz) (fun h2 => ?_)
    walk_at "rd"
    refine q _ (fun c o nc hc => ?_) ?_
    · simp only [upd_ne nc]
      exact hc
    · rw [← e]
      exact upd_same
  · walk_at "rd"
    refine q _ (fun c o nc hc => ?_) ?_
    · simp only [upd_ne nc]
      exact hc
    · rw [← e]
      exact upd_same
theorem sc_needS : FnScope ["value", "part"] ["value", "part"] (defScope (topS 29)) := ⟨rfl, rfl, rfl, by decide +kernel, rfl, by decide +kernel, by decide +kernel⟩
include g_xBadStep in
theorem ok_needS (G : G0 K mg) (F : FP K "need_step" "need_step" (topS 29) [] f fd) : FnOk P w K mg base (L2.CX P w) 3 f fd ["value", "part"] (spNeedS K) := by
  have nd := sc_needS.nd
  refine F.ok sc_needS (fun vs H Q E h => by obtain ⟨_, _, rfl, _⟩ := h; rfl) (fun cdv A outer s H vs Q E hr h => ⟨_, pss_one (ps_if (pt_not (pt_val (pe_callB call_isi rfl G.nm.isinstance (by decide +kernel) (pa_cons (pv 0) (pa_cons ((pe_glob (v := .ref (cS K)) rfl G.mgStep rfl)) (pa_nil)))))) (pss_one (ps_raise rfl (takes_of rfl rfl rfl rfl) (pmk1 g_xBadStep (hr.mono (by decide)) rfl (pa_cons (pv 1) (pa_nil))))) (pss_nil)), ?_⟩)
  obtain ⟨v, p, rfl, ⟨q, k, j, rfl, r, h⟩ | ⟨⟨t, ty, nt⟩, h⟩⟩ := h
  · have ty := G.tS r
    have k1 := ty.2.S
    have k2 := ty.1
    walk_at "rd"
    refine iteP (fun h1 => absurd h1 (by simp)) (fun h1 => ?_)
    exact h
  · have k1 := ty.2.S
    have k2 := ty.1
    walk_at "rd"
    refine iteP (fun h1 => ?_) (fun h1 => absurd (by simp [nt]) h1)
    walk_at "rd"
    exact (mk1 (fun d H2 sm n e => h d H2 sm n e)).2
theorem sc_needK : FnScope ["step", "part"] ["step", "part"] (defScope (topS 30)) := ⟨rfl, rfl, rfl, by decide +kernel, rfl, by decide +kernel, by decide +kernel⟩
include g_xRound in
theorem ok_needK (G : G0 K mg) (F : FP K "need_studs" "need_studs" (topS 30) [] f fd) : FnOk P w K mg base (L2.CX P w) 3 f fd ["step", "part"] (spNeedK K) := by
  have nd := sc_needK.nd
  refine F.ok sc_needK (fun vs H Q E h => by obtain ⟨_, _, _, _, rfl, _⟩ := h; rfl) (fun cdv A outer s H vs Q E hr h => ⟨_, pss_one (ps_if (pt_val (pe_fld (pv 0) rfl)) (pss_one (ps_raise rfl (takes_of rfl rfl rfl rfl) (pmk1 g_xRound (hr.mono (by decide)) rfl (pa_cons (pv 1) (pa_nil))))) (pss_nil)), ?_⟩)
  obtain ⟨a, p, k, j, rfl, ⟨dx, r⟩, q1, q2⟩ := h
  walk_at "fS"
  walk_at "rd"
  refine iteP (fun h1 => ?_) (fun h1 => ?_)
  · walk_at "rd"
    exact (mk1 (fun d H2 sm n e => q2 (of_decide_eq_true h1) d H2 sm n e)).2
  · exact q1 (fun z => h1 (decide_eq_true z))
theorem sc_cross : FnScope ["one", "other"] ["one", "other"] (defScope (topS 36)) := ⟨rfl, rfl, rfl, by decide +kernel, rfl, by decide +kernel, by decide +kernel⟩
include g_need_step in
theorem ok_cross (G : G0 K mg) (F : FP K "cross" "cross" (topS 36) [] f fd) : FnOk P w K mg base (L2.CX P w) 4 f fd ["one", "other"] (spCross K) := by
  have nd := sc_cross.nd
  refine F.ok sc_cross (fun vs H Q E h => by obtain ⟨_, _, _, _, _, _, rfl, _⟩ := h; rfl) (fun cdv A outer s H vs Q E hr h => ⟨_, pss_cons (ps_expr (pe_gd g_need_step (hr.mono (by decide)) rfl (pxE rfl rfl rfl rfl) (pa_cons (pv 0) (pa_cons (pe_str) (pa_nil))))) (pss_cons (ps_expr (pe_gd g_need_step (hr.mono (by decide)) rfl (pxE rfl rfl rfl rfl) (pa_cons (pv 1) (pa_cons (pe_str) (pa_nil))))) (pss_one (ps_ret (pe_op op_sub (pe_op op_mulB (pe_fld (pv 0) rfl) (pe_fld (pv 1) rfl)) (pe_op op_mulB (pe_fld (pv 1) rfl) (pe_fld (pv 0) rfl)))))), ?_⟩)
  obtain ⟨u, v, k, j, l, i, rfl, ⟨a, rfl, r1, b1, b2⟩, ⟨b, rfl, r2, b3, b4⟩, q⟩ := h
  have m1 : CMulB k i := cm b1 b4
  have m2 : CMulB l j := cm b3 b2
  walk_at "rd"
  refine .inl ⟨_, _, _, rfl, r1, ?_⟩
  walk_at "rd"
  refine .inl ⟨_, _, _, rfl, r2, ?_⟩
  obtain ⟨_, r1⟩ := r1
  obtain ⟨_, r2⟩ := r2
  walk_at "fS"
  walk_at "rd"
  exact q
theorem sc_summed : FnScope ["studs", "rounds"] ["studs", "rounds"] (defScope (topS 28)) := ⟨rfl, rfl, rfl, by decide +kernel, rfl, by decide +kernel, by decide +kernel⟩
include g_mStep g_xBadStep in
theorem ok_summed (G : G0 K mg) (F : FP K "summed" "summed" (topS 28) [] f fd) : FnOk P w K mg base (L2.CX P w) 5 f fd ["studs", "rounds"] (spSummed K) := by
  have nd := sc_summed.nd
  refine F.ok sc_summed (fun vs H Q E h => by obtain ⟨_, _, rfl, _⟩ := h; rfl) (fun cdv A outer s H vs Q E hr h => ⟨_, pss_cons (ps_if (PW.pt (pw_and (pt_cmpR op_eq (pv 0) (pe_int) (nomark _)) (pw_and1 (pt_cmpR op_eq (pv 1) (pe_int) (nomark _))))) (pss_one (ps_raise rfl (takes_of rfl rfl rfl rfl) (pmk1 g_xBadStep (hr.mono (by decide)) rfl (pa_cons (pe_str) (pa_nil))))) (pss_nil)) (pss_one (ps_ret (pe_gm g_mStep (hr.mono (by decide)) rfl (pxE rfl rfl rfl rfl) (pa_cons (pv 0) (pa_cons (pv 1) (pa_nil)))))), ?_⟩)
  obtain ⟨k, j, rfl, hz, q⟩ := h
  walk_at "rd"
  refine iteP (fun h1 => ?_) (fun h1 => ?_)
  · have h1 : k = 0 := by simpa using h1
    walk_at "rd"
    refine iteP (fun h2 => absurd ⟨h1, by simpa using h2⟩ hz) (fun h2 => ?_)
    walk_at "rd"
    exact makeS hz fun p H' sm _ r => q p H' sm r
  · walk_at "rd"
    exact makeS hz fun p H' sm _ r => q p H' sm r
theorem sc_addS : FnScope ["self", "other"] ["self", "other"] (defScope (inClass (topS 27) 4)) := ⟨rfl, rfl, rfl, by decide +kernel, rfl, by decide +kernel, by decide +kernel⟩
include g_need_step g_summed in
theorem ok_addS (G : G0 K mg) (F : FP K "__add__" "Step.__add__" (inClass (topS 27) 4) [] f fd) : FnOk P w K mg base (L2.CX P w) 6 f fd ["self", "other"] (spAddS K) := by
  have nd := sc_addS.nd
  refine F.ok sc_addS (fun vs H Q E h => by obtain ⟨_, _, _, _, _, _, rfl, _⟩ := h; rfl) (fun cdv A outer s H vs Q E hr h => ⟨_, pss_cons (ps_expr (pe_gd g_need_step (hr.mono (by decide)) rfl (pxE rfl rfl rfl rfl) (pa_cons (pv 1) (pa_cons (pe_str) (pa_nil))))) (pss_one (ps_ret (pe_gd g_summed (hr.mono (by decide)) rfl (pxE rfl rfl rfl rfl) (pa_cons (pe_op op_add (pe_fld (pv 0) rfl) (pe_fld (pv 1) rfl)) (pa_cons (pe_op op_add (pe_fld (pv 0) rfl) (pe_fld (pv 1) rfl)) (pa_nil)))))), ?_⟩)
  obtain ⟨a, b, k, j, l, i, rfl, r1, r2, hz, q⟩ := h
  walk_at "rd"
  refine .inl ⟨_, _, _, rfl, r2, ?_⟩
  obtain ⟨_, r1⟩ := r1
  obtain ⟨_, r2⟩ := r2
  walk_at "fS"
  walk_at "rd"
  exact q
theorem IsR.upd {H : Hp} {p a C dx : Addr} {q : Rat} {fs : List (Str × V)} {o : HO} (h : IsR K H p q) (ha : H a = some (.ins C dx fs)) (hf : fs.map (·.1) ≠ (["top", "bottom"] : List Str)) : IsR K (upd H a o) p q := by
  obtain ⟨d, h⟩ := h
  refine ⟨d, ?_⟩
  rw [upd_ne (fun z => ?_)]
  · exact h
  · subst z
    rw [ha] at h
    injection h with h
    injection h with _ _ h
    rw [h] at hf
    exact hf rfl
theorem sc_initT : FnScope ["self", "turn", "squared"] ["self", "turn", "squared"] (defScope (inClass (topS 33) 0)) := ⟨rfl, rfl, rfl, by decide +kernel, rfl, by decide +kernel, by decide +kernel⟩
include g_R_sign g_Ratio_of g_is_ratio g_rmul g_rsub g_xBadStem in
theorem ok_initT (G : G0 K mg) (F : FP K "__init__" "Stem.__init__" (inClass (topS 33) 0) [] f fd) : FnOk P w K mg base (L2.CX P w) 8 f fd ["self", "turn", "squared"] (spInitT K) := by
  have nd := sc_initT.nd
  refine F.ok sc_initT (fun vs H Q E h => by obtain ⟨_, _, _, _, _, _, rfl, _⟩ := h; rfl) (fun cdv A outer s H vs Q E hr h => ⟨_, pss_cons (ps_if (pt_not (pt_val (pe_gd g_is_ratio (hr.mono (by decide)) rfl (pxE rfl rfl rfl rfl) (pa_cons (pv 1) (pa_nil))))) (pss_one (ps_raise rfl (takes_of rfl rfl rfl rfl) (pmk1 g_xBadStem (hr.mono (by decide)) rfl (pa_cons (pe_str) (pa_nil))))) (pss_nil)) (pss_cons (ps_if (pt_not (pt_val (pe_gd g_is_ratio (hr.mono (by decide)) rfl (pxE rfl rfl rfl rfl) (pa_cons (pv 2) (pa_nil))))) (pss_one (ps_raise rfl (takes_of rfl rfl rfl rfl) (pmk1 g_xBadStem (hr.mono (by decide)) rfl (pa_cons (pe_str) (pa_nil))))) (pss_nil)) (pss_cons (ps_fld (pv 0) (pe_gs (pe_glob (v := .ref (cR K)) rfl G.mgRatio rfl) g_Ratio_of (hr.mono (by decide)) (pxE rfl rfl rfl rfl) (pa_cons (pv 1) (pa_nil))) rfl) (pss_cons (ps_fld (pv 0) (pe_gs (pe_glob (v := .ref (cR K)) rfl G.mgRatio rfl) g_Ratio_of (hr.mono (by decide)) (pxE rfl rfl rfl rfl) (pa_cons (pv 2) (pa_nil))) rfl) (pss_cons (ps_fld (pv 0) (pe_op (op_go g_rsub (hr.mono (by decide)) (pxE rfl rfl rfl rfl)) (pe_fld (pv 0) rfl) (pe_op (op_go g_rmul (hr.mono (by decide)) (pxE rfl rfl rfl rfl)) (pe_fld (pv 0) rfl) (pe_fld (pv 0) rfl))) rfl) (pss_one (ps_if (pt_cmpR op_le (pe_gp (pe_fld (pv 0) rfl) g_R_sign (hr.mono (by decide)) rfl) (pe_int) (nomark _)) (pss_one (ps_raise rfl (takes_of rfl rfl rfl rfl) (pmk1 g_xBadStem (hr.mono (by decide)) rfl (pa_cons (pe_str) (pa_nil))))) (pss_nil))))))), ?_⟩)
  obtain ⟨a, dx, p1, p2, D, F0, rfl, ha, r1, r2, z1, z2, hp, q⟩ := h
  have t1 := G.tR r1
  have t2 := G.tR r2
  have rv1 : RV K H (.ref p1) D := .inl ⟨p1, rfl, r1⟩
  have z1' : Sz D 3900 := z1.mono
  have z2' : Sz F0 3900 := z2.mono
  walk_at "fT"
  walk_at "rd"
  refine iteP (fun h1 => absurd h1 (by simp)) (fun _ => ?_)
  walk_at "rd"
  refine iteP (fun h1 => absurd h1 (by simp)) (fun _ => ?_)
  walk_at "rd"
  intro pa H1 s1 ra
  have ha1 := s1 _ _ ha
  have rv2 : RV K (upd H1 a (.ins (cT K) dx [("turn", .ref pa)])) (.ref p2) F0 := .inl ⟨_, rfl, (r2.ext s1).upd ha1 (by simp <;> decide)⟩
  walk_at "rd"
  intro pb H2 s2 rb
  have ha2 : H2 a = some (.ins (cT K) dx [("turn", .ref pa)]) := s2 _ _ upd_same
  have ra2 := (IsR.upd (o := .ins (cT K) dx [("turn", .ref pa), ("squared", .ref pb)]) (IsR.ext (IsR.upd (o := .ins (cT K) dx [("turn", .ref pa)]) ra ha1 (by simp <;> decide)) s2) ha2 (by simp <;> decide))
  have rb2 := (IsR.upd (o := .ins (cT K) dx [("turn", .ref pa), ("squared", .ref pb)]) rb ha2 (by simp <;> decide))
  have va2 := RV.mk ra2
  have z3 : Sz D 1900 := z1.mono
  have z4 : Sz F0 1900 := z2.mono
  have z5 : Sz (D * D) 1900 := sz_mul z1 z1
  walk_at "rd"
  intro p3 H3 s3 r3
  have rb3 := rb2.ext s3
  have vd3 := RV.mk r3
  walk_at "rd"
  intro p4 H4 s4 r4
  have ha4 : H4 a = some (.ins (cT K) dx [("turn", .ref pa), ("squared", .ref pb)]) := s4 _ _ (s3 _ _ upd_same)
  have r5 := (IsR.upd (o := .ins (cT K) dx [("turn", .ref pa), ("squared", .ref pb), ("rise", .ref p4)]) r4 ha4 (by simp <;> decide))
  have ra5 := (IsR.upd (o := .ins (cT K) dx [("turn", .ref pa), ("squared", .ref pb), ("rise", .ref p4)]) ((ra2.ext s3).ext s4) ha4 (by simp <;> decide))
  have rb5 := (IsR.upd (o := .ins (cT K) dx [("turn", .ref pa), ("squared", .ref pb), ("rise", .ref p4)]) (rb3.ext s4) ha4 (by simp <;> decide))
  obtain ⟨d4, r5'⟩ := id r5
  walk_at "fR"
  walk_at "rd"
  refine iteP (fun h1 => ?_) (fun h1 => ?_)
  · have h1 : (F0 - D * D).num.sign ≤ 0 := of_decide_eq_true h1
    have : 0 < (F0 - D * D).num := num_pos.mpr hp
    rw [Int.sign_eq_one_of_pos this] at h1
    omega
  · refine q _ (fun c o nc hc => ?_) ⟨dx, pa, pb, p4, upd_same, ra5, rb5, r5⟩
    rw [upd_ne nc]
    have e : ∀ {H : Hp} {o o' : HO}, H c = some o → (upd H a o') c = some o := fun h => by rw [upd_ne nc]; exact h
    exact s4 _ _ (s3 _ _ (e (s2 _ _ (e (s1 _ _ hc)))))
theorem sc_lean : FnScope ["self", "step"] ["self", "step"] (defScope (inClass (topS 33) 3)) := ⟨rfl, rfl, rfl, by decide +kernel, rfl, by decide +kernel, by decide +kernel⟩
include g_need_step g_rmul g_rsub in
theorem ok_lean (G : G0 K mg) (F : FP K "lean" "Stem.lean" (inClass (topS 33) 3) [] f fd) : FnOk P w K mg base (L2.CX P w) 8 f fd ["self", "step"] (spLean K) := by
  have nd := sc_lean.nd
  refine F.ok sc_lean (fun vs H Q E h => by obtain ⟨_, _, _, _, rfl, _⟩ := h; rfl) (fun cdv A outer s H vs Q E hr h => ⟨_, pss_cons (ps_expr (pe_gd g_need_step (hr.mono (by decide)) rfl (pxE rfl rfl rfl rfl) (pa_cons (pv 1) (pa_cons (pe_str) (pa_nil))))) (pss_one (ps_ret (pe_op (op_go g_rsub (hr.mono (by decide)) (pxE rfl rfl rfl rfl)) (pe_op (op_go g_rmul (hr.mono (by decide)) (pxE rfl rfl rfl rfl)) (pe_fld (pv 0) rfl) (pe_fld (pv 1) rfl)) (pe_fld (pv 1) rfl)))), ?_⟩)
  obtain ⟨a, u, D, F0, rfl, ⟨⟨dx, pa, pb, pc, ha, ra, rb, rc⟩, z1, z2⟩, ⟨k, j, ⟨p, rfl, r, b1, b2⟩, q⟩ | ⟨n, q⟩⟩ := h
  · walk_at "rd"
    refine .inl ⟨_, _, _, rfl, r, ?_⟩
    obtain ⟨_, r'⟩ := id r
    walk_at "fS"
    walk_at "fT"
    have vk := RV.int K H k
    have y1 : Sz D 1900 := z1.mono
    have y2 : Sz (k : Rat) 1900 := sz_int (nb_le b1)
    walk_at "rd"
    intro p1 H1 s1 r1
    obtain ⟨_, r'⟩ := id (r.ext s1)
    have vk := RV.int K H1 j
    have y1 : Sz (D * (k : Rat)) 1900 := sz_mul z1 (sz_int b1)
    have y2 : Sz (j : Rat) 1900 := sz_int (nb_le b2)
    walk_at "rd"
    intro p2 H2 s2 r2
    exact q p2 H2 (s1.trans s2) r2
  · walk_at "rd"
    exact .inr ⟨n, q⟩
theorem sc_prod : FnScope ["self", "one", "other", "ahead", "mixed"] ["self", "one", "other"] (defScope (inClass (topS 33) 2)) := ⟨rfl, rfl, rfl, by decide +kernel, rfl, by decide +kernel, by decide +kernel⟩
include g_need_step g_radd g_rmul g_rsub in
theorem ok_prod (G : G0 K mg) (F : FP K "product" "Stem.product" (inClass (topS 33) 2) [] f fd) : FnOk P w K mg base (L2.CX P w) 8 f fd ["self", "one", "other"] (spProd K) := by
  have nd := sc_prod.nd
  refine F.ok sc_prod (fun vs H Q E h => by obtain ⟨_, _, _, _, _, rfl, _⟩ := h; rfl) (fun cdv A outer s H vs Q E hr h => ⟨_, pss_cons (ps_expr (pe_gd g_need_step (hr.mono (by decide)) rfl (pxE rfl rfl rfl rfl) (pa_cons (pv 1) (pa_cons (pe_str) (pa_nil))))) (pss_cons (ps_expr (pe_gd g_need_step (hr.mono (by decide)) rfl (pxE rfl rfl rfl rfl) (pa_cons (pv 2) (pa_cons (pe_str) (pa_nil))))) (pss_cons (ps_set (i := 3) nd rfl (Or.inl rfl) (pe_op (op_go g_rmul (hr.mono (by decide)) (pxE rfl rfl rfl rfl)) (pe_fld (pv 0) rfl) (pe_op op_mulB (pe_fld (pv 1) rfl) (pe_fld (pv 2) rfl)))) (pss_cons (ps_set (i := 4) nd rfl (Or.inl rfl) (pe_op (op_go g_rmul (hr.mono (by decide)) (pxE rfl rfl rfl rfl)) (pe_fld (pv 0) rfl) (pe_op op_add (pe_op op_mulB (pe_fld (pv 1) rfl) (pe_fld (pv 2) rfl)) (pe_op op_mulB (pe_fld (pv 2) rfl) (pe_fld (pv 1) rfl))))) (pss_one (ps_ret (pe_op (op_go g_radd (hr.mono (by decide)) (pxE rfl rfl rfl rfl)) (pe_op (op_go g_rsub (hr.mono (by decide)) (pxE rfl rfl rfl rfl)) (pv 3) (pv 4)) (pe_op op_mulB (pe_fld (pv 1) rfl) (pe_fld (pv 2) rfl)))))))), ?_⟩)
  obtain ⟨a, u, v, D, F0, rfl, ⟨⟨dx, pa, pb, pc, ha, ra, rb, rc⟩, z1, z2⟩, h⟩ := h
  rcases h with ⟨k, j, l, i, ⟨p, rfl, r, b1, b2⟩, ⟨p', rfl, r', b3, b4⟩, q⟩ | ⟨n, q⟩ | ⟨k, j, ⟨p, rfl, r, b1, b2⟩, n, q⟩
  · walk_at "rd"
    refine .inl ⟨_, _, _, rfl, r, ?_⟩
    walk_at "rd"
    refine .inl ⟨_, _, _, rfl, r', ?_⟩
    obtain ⟨_, x1⟩ := id r
    obtain ⟨_, x2⟩ := id r'
    walk_at "fS"
    walk_at "fT"
    have c1 : CMulB k l := cm b1 b3
    have vk := RV.int K H (k * l)
    have y1 : Sz F0 1900 := z2.mono
    have y2 : Sz ((k * l : Int) : Rat) 1900 := sz_int (nb_le (nb_mul b1 b3))
    walk_at "rd"
    intro p1 H1 s1 r1
    obtain ⟨_, x1⟩ := id (r.ext s1)
    obtain ⟨_, x2⟩ := id (r'.ext s1)
    have ha1 := s1 _ _ ha
    have ra1 := ra.ext s1
    have c2 : CMulB k i := cm b1 b4
    have c3 : CMulB l j := cm b3 b2
    have vk := RV.int K H1 (k * i + l * j)
    have y3 : Sz D 1900 := z1.mono
    have b6 : (k * i + l * j).natAbs < 2 ^ 105 := nb_add (nb_mul b1 b4) (nb_mul b3 b2)
    have y4 : Sz ((k * i + l * j : Int) : Rat) 1900 := sz_int (nb_le b6)
    walk_at "rd"
    intro p2 H2 s2 r2
    have r1 := r1.ext s2
    have v2 := RV.mk r2
    have y5 : Sz (F0 * ((k * l : Int) : Rat)) 1900 := sz_mul z2 (sz_int (nb_mul b1 b3))
    have y6 : Sz (D * ((k * i + l * j : Int) : Rat)) 1900 := sz_mul z1 (sz_int b6)
    walk_at "rd"
    intro p3 H3 s3 r3
    obtain ⟨_, x1⟩ := id ((r.ext s1).ext (s2.trans s3))
    obtain ⟨_, x2⟩ := id ((r'.ext s1).ext (s2.trans s3))
    have c4 : CMulB j i := cm b2 b4
    have vk := RV.int K H3 (j * i)
    have y7 : Sz (F0 * ((k * l : Int) : Rat) - D * ((k * i + l * j : Int) : Rat)) 1900 := (sz_sub (k := 400) (sz_mul (k := 184) z2 (sz_int (nb_mul b1 b3))) (sz_mul (k := 145) z1 (sz_int b6))).mono
    have y8 : Sz ((j * i : Int) : Rat) 1900 := sz_int (nb_le (nb_mul b2 b4))
    walk_at "rd"
    intro p4 H4 s4 r4
    exact q p4 H4 (((s1.trans s2).trans s3).trans s4) r4
  · walk_at "rd"
    exact .inr ⟨n, q⟩
  · walk_at "rd"
    refine .inl ⟨_, _, _, rfl, r, ?_⟩
    walk_at "rd"
    exact .inr ⟨n, q⟩
theorem sc_sq : FnScope ["self", "step"] ["self", "step"] (defScope (inClass (topS 33) 1)) := ⟨rfl, rfl, rfl, by decide +kernel, rfl, by decide +kernel, by decide +kernel⟩
include g_T_product g_need_step in
theorem ok_sq (G : G0 K mg) (F : FP K "square" "Stem.square" (inClass (topS 33) 1) [] f fd) : FnOk P w K mg base (L2.CX P w) 9 f fd ["self", "step"] (spSq K) := by
  have nd := sc_sq.nd
  refine F.ok sc_sq (fun vs H Q E h => by obtain ⟨_, _, _, _, rfl, _⟩ := h; rfl) (fun cdv A outer s H vs Q E hr h => ⟨_, pss_cons (ps_expr (pe_gd g_need_step (hr.mono (by decide)) rfl (pxE rfl rfl rfl rfl) (pa_cons (pv 1) (pa_cons (pe_str) (pa_nil))))) (pss_one (ps_ret (pe_gh (pv 0) G.T.cl g_T_product (hr.mono (by decide)) (pxE rfl rfl rfl rfl) (pa_cons (pv 1) (pa_cons (pv 1) (pa_nil)))))), ?_⟩)
  obtain ⟨a, u, D, F0, rfl, st, ⟨k, j, ss, q⟩ | ⟨n, q⟩⟩ := h
  · obtain ⟨p, rfl, r, b1, b2⟩ := id ss
    obtain ⟨⟨dx, pa, pb, pc, ha, _⟩, _⟩ := id st
    walk_at "fT"
    walk_at "rd"
    refine .inl ⟨_, _, _, rfl, r, ?_⟩
    walk_at "rd"
    exact .inl ⟨_, _, _, _, ss, ss, q⟩
  · walk_at "rd"
    exact .inr ⟨n, q⟩
theorem sc_steep : FnScope ["self", "one", "other", "aside"] ["self", "one", "other"] (defScope (inClass (topS 33) 4)) := ⟨rfl, rfl, rfl, by decide +kernel, rfl, by decide +kernel, by decide +kernel⟩
include g_R_is_below g_T_lean g_need_step g_need_studs g_rabs g_rmul in
theorem ok_steep (G : G0 K mg) (F : FP K "is_steeper" "Stem.is_steeper" (inClass (topS 33) 4) [] f fd) : FnOk P w K mg base (L2.CX P w) 9 f fd ["self", "one", "other"] (spSteep K) := by
  have nd := sc_steep.nd
  refine F.ok sc_steep (fun vs H Q E h => by obtain ⟨_, _, _, _, _, rfl, _⟩ := h; rfl) (fun cdv A outer s H vs Q E hr h => ⟨_, pss_cons (ps_expr (pe_gd g_need_step (hr.mono (by decide)) rfl (pxE rfl rfl rfl rfl) (pa_cons (pv 1) (pa_cons (pe_str) (pa_nil))))) (pss_cons (ps_expr (pe_gd g_need_step (hr.mono (by decide)) rfl (pxE rfl rfl rfl rfl) (pa_cons (pv 2) (pa_cons (pe_str) (pa_nil))))) (pss_cons (ps_expr (pe_gd g_need_studs (hr.mono (by decide)) rfl (pxE rfl rfl rfl rfl) (pa_cons (pv 1) (pa_cons (pe_str) (pa_nil))))) (pss_cons (ps_expr (pe_gd g_need_studs (hr.mono (by decide)) rfl (pxE rfl rfl rfl rfl) (pa_cons (pv 2) (pa_cons (pe_str) (pa_nil))))) (pss_cons (ps_set (i := 3) nd rfl (Or.inl rfl) (pe_callB (call_absGo g_rabs (hr.mono (by decide)) (pxE rfl rfl rfl rfl)) rfl G.nm.abs (by decide +kernel) (pa_cons (pe_op (op_go g_rmul (hr.mono (by decide)) (pxE rfl rfl rfl rfl)) (pe_gh (pv 0) G.T.cl g_T_lean (hr.mono (by decide)) (pxE rfl rfl rfl rfl) (pa_cons (pv 1) (pa_nil))) (pe_fld (pv 2) rfl)) (pa_nil)))) (pss_one (ps_ret (pe_gh (pv 3) G.R.cl g_R_is_below (hr.mono (by decide)) (pxE rfl rfl rfl rfl) (pa_cons (pe_callB (call_absGo g_rabs (hr.mono (by decide)) (pxE rfl rfl rfl rfl)) rfl G.nm.abs (by decide +kernel) (pa_cons (pe_op (op_go g_rmul (hr.mono (by decide)) (pxE rfl rfl rfl rfl)) (pe_gh (pv 0) G.T.cl g_T_lean (hr.mono (by decide)) (pxE rfl rfl rfl rfl) (pa_cons (pv 2) (pa_nil))) (pe_fld (pv 1) rfl)) (pa_nil))) (pa_nil))))))))), ?_⟩)
  obtain ⟨a, u, v, D, F0, rfl, st, h⟩ := h
  obtain ⟨⟨dx, pa, pb, pc, ha, _⟩, z1, z2⟩ := id st
  rcases h with ⟨k, j, l, i, ss, ss', q, e1, e2⟩ | ⟨n, q⟩ | ⟨k, j, ⟨p, rfl, r, b1, b2⟩, n, q⟩
  · obtain ⟨p, rfl, r, b1, b2⟩ := id ss
    obtain ⟨p', rfl, r', b3, b4⟩ := id ss'
    walk_at "fT"
    walk_at "rd"
    refine .inl ⟨_, _, _, rfl, r, ?_⟩
    walk_at "rd"
    refine .inl ⟨_, _, _, rfl, r', ?_⟩
    walk_at "rd"
    refine ⟨fun nk => ?_, e1⟩
    walk_at "rd"
    refine ⟨fun nl => ?_, e2 nk⟩
    walk_at "rd"
    refine .inl ⟨_, _, ss, fun q1 H1 s1 r1 => ?_⟩
    obtain ⟨_, x2⟩ := id (r'.ext s1)
    walk_at "fS"
    have vl := RV.int K H1 l
    have y1 : Sz (lean D k j) 145 := sz_sub (k := 145) (sz_mul (k := 92) z1 (sz_int b1)) (sz_int b2)
    have y1' : Sz (lean D k j) 1900 := y1.mono
    have y2 : Sz (l : Rat) 1900 := sz_int (nb_le b3)
    walk_at "rd"
    intro q2 H2 s2 r2
    obtain ⟨_, x3⟩ := id r2
    have y3 : Sz (lean D k j * (l : Rat)) 197 := sz_mul y1 (sz_int b3)
    have y3' : Sz (lean D k j * (l : Rat)) 3900 := y3.mono
    walk_at "rd"
    intro q3 H3 s3 r3
    have s13 := (s1.trans s2).trans s3
    have st3 := st.ext s13
    have ss3 := ss'.ext s13
    have ha3 := s13 _ _ ha
    obtain ⟨_, x4⟩ := id r3
    walk_at "fR"
    walk_at "rd"
    refine .inl ⟨_, _, ss3, fun q4 H4 s4 r4 => ?_⟩
    obtain ⟨_, x5⟩ := id (r.ext (s13.trans s4))
    have vk := RV.int K H4 k
    have y4 : Sz (lean D l i) 145 := sz_sub (k := 145) (sz_mul (k := 92) z1 (sz_int b3)) (sz_int b4)
    have y4' : Sz (lean D l i) 1900 := y4.mono
    have y5 : Sz (k : Rat) 1900 := sz_int (nb_le b1)
    walk_at "rd"
    intro q5 H5 s5 r5
    obtain ⟨_, x6⟩ := id r5
    have y6 : Sz (lean D l i * (k : Rat)) 197 := sz_mul y4 (sz_int b1)
    have y6' : Sz (lean D l i * (k : Rat)) 3900 := y6.mono
    walk_at "rd"
    intro q6 H6 s6 r6
    have r36 := r3.ext ((s4.trans s5).trans s6)
    obtain ⟨_, x7⟩ := id r36
    have v6 := RV.mk r6
    have y7 : Sz (qabs (lean D k j * (l : Rat))) 1900 := (sz_abs y3).mono
    have y8 : Sz (qabs (lean D l i * (k : Rat))) 1900 := (sz_abs y6).mono
    walk_at "rd"
    intro H7 s7
    exact q nk nl H7 ((s13.trans ((s4.trans s5).trans s6)).trans s7)
  · walk_at "rd"
    exact .inr ⟨n, q⟩
  · walk_at "rd"
    refine .inl ⟨_, _, _, rfl, r, ?_⟩
    walk_at "rd"
    exact .inr ⟨n, q⟩
end
end Sp
end
section
set_option Elab.async false
set_option linter.all false
set_option exponentiation.threshold 5000
set_option maxRecDepth 100000
set_option maxHeartbeats 0
local macro_rules | `(tactic| walk_at "leaf") => `(tactic| first | rfl | assumption | exact True.intro | exact L2.upd_same | exact L2.ClsV.ty _ | exact L2.ClsV.own _ | decide | exact of_decide_eq_true rfl | exact L2.SqL.of (by assumption) | exact L2.SqL.of L2.upd_same | exact Or.inl (L2.SqL.of L2.upd_same) | exact Or.inl (L2.SqL.of (by assumption)) | exact L2.SqT.of (by assumption) | exact L2.SqT.of L2.upd_same | exact Sp.cmL (by decide) | exact Sp.cmR (by decide) | exact ⟨by decide, by decide, by decide⟩ | exact ⟨by decide, by decide⟩ | omega | fail)
local macro_rules | `(tactic| walk_at "rd1") => `(tactic| first
  | refine Sp.rbR (by assumption) (by assumption) (by assumption) (by assumption) ?_
  | apply Sp.exI
  | (refine And.intro ?lf ?_; (case lf => walk_at "leaf"))
  | fail)
local macro_rules | `(tactic| walk_at "rd") => `(tactic| repeat (walk_at "rd1"))
local macro_rules | `(tactic| walk_at "fR") => `(tactic| (have := (‹Sp.G0 _ _›).R.cl; have := (‹Sp.G0 _ _›).R.no "top" (by simp); have := (‹Sp.G0 _ _›).R.no "bottom" (by simp)))
local macro_rules | `(tactic| walk_at "fS") => `(tactic| (have := (‹Sp.G0 _ _›).S.cl; have := (‹Sp.G0 _ _›).S.no "studs" (by simp); have := (‹Sp.G0 _ _›).S.no "rounds" (by simp); have := (‹Sp.G0 _ _›).S.no "divisor" (by simp); have := (‹Sp.G0 _ _›).S.no "is_round" (by simp)))
local macro_rules | `(tactic| walk_at "fT") => `(tactic| (have := (‹Sp.G0 _ _›).T.cl; have := (‹Sp.G0 _ _›).T.no "turn" (by simp); have := (‹Sp.G0 _ _›).T.no "squared" (by simp); have := (‹Sp.G0 _ _›).T.no "rise" (by simp)))
namespace Sp
open PySem PySem.Spec PyProof.Rows L2
section
variable {P : Program} {w : World} {K : PySem.W.Frag} {mg : Str → Option Value} {base : Heap} {f : Addr} {fd : FuncData}
variable (g_is_integer : GD P w K mg base (L2.CX P w) 1 "is_integer" ["value"] [] (spIsInt K)) (g_sign_of : GD P w K mg base (L2.CX P w) 1 "sign_of" ["number"] [] spSign)
  (g_is_ratio : GD P w K mg base (L2.CX P w) 2 "is_ratio" ["value"] [] (spIsRat K)) (g_at_right : GD P w K mg base (L2.CX P w) 6 "at_right" ["value"] [] (spOf K))
  (g_xBadRatio : GX P w K mg base 1 "BadRatio" "part" (cX K "BadRatio")) (g_xBadStep : GX P w K mg base 1 "BadStep" "part" (cX K "BadStep")) (g_xRound : GX P w K mg base 1 "Round" "part" (cX K "Round")) (g_xBadStem : GX P w K mg base 1 "BadStem" "part" (cX K "BadStem"))
  (g_mRatio : GM P w K mg base (L2.CX P w) 3 "Ratio" (cR K) ["self", "top", "bottom"] [] (spInitR K)) (g_mRatio1 : GM P w K mg base (L2.CX P w) 3 "Ratio" (cR K) ["self", "top", "bottom"] [.int 1] (spInitR K))
  (g_Ratio_of : GS P w K mg base (L2.CX P w) 5 (cR K) "of" (spOf K)) (g_R_compared : GH P w K mg base (L2.CX P w) 7 (cR K) "compared" ["self", "other"] (spCmp K))
variable (g_radd : GO P w K mg base (L2.CX P w) 7 (cR K) .Add (spBinR K (· + ·))) (g_rsub : GO P w K mg base (L2.CX P w) 7 (cR K) .Sub (spBinR K (· - ·))) (g_rmul : GO P w K mg base (L2.CX P w) 7 (cR K) .Mult (spBinR K (· * ·)))
  (g_rabs : GN P w K mg base (L2.CX P w) 5 (cR K) "__abs__" (spAbs K)) (g_req : GN P w K mg base (L2.CX P w) 2 (cR K) "__eq__" (spEqR K)) (g_R_sign : GP P w K mg base (L2.CX P w) 2 (cR K) "sign" (spSgn K)) (g_R_is_below : GH P w K mg base (L2.CX P w) 8 (cR K) "is_below" ["self", "other"] (spBelow K))
variable (g_mStep : GM P w K mg base (L2.CX P w) 3 "Step" (cS K) ["self", "studs", "rounds"] [] (spInitS K)) (g_mStem : GM P w K mg base (L2.CX P w) 8 "Stem" (cT K) ["self", "turn", "squared"] [] (spInitT K))
  (g_need_step : GD P w K mg base (L2.CX P w) 3 "need_step" ["value", "part"] [] (spNeedS K)) (g_need_studs : GD P w K mg base (L2.CX P w) 3 "need_studs" ["step", "part"] [] (spNeedK K)) (g_summed : GD P w K mg base (L2.CX P w) 5 "summed" ["studs", "rounds"] [] (spSummed K))
  (g_cross : GD P w K mg base (L2.CX P w) 4 "cross" ["one", "other"] [] (spCross K)) (g_sadd : GO P w K mg base (L2.CX P w) 6 (cS K) .Add (spAddS K))
  (g_T_product : GH P w K mg base (L2.CX P w) 8 (cT K) "product" ["self", "one", "other"] (spProd K)) (g_T_lean : GH P w K mg base (L2.CX P w) 8 (cT K) "lean" ["self", "step"] (spLean K))
  (g_T_square : GH P w K mg base (L2.CX P w) 9 (cT K) "square" ["self", "step"] (spSq K)) (g_T_is_steeper : GH P w K mg base (L2.CX P w) 9 (cT K) "is_steeper" ["self", "one", "other"] (spSteep K))
variable (g_l_dip : GD P w K mg base (L2.CX P w) 1 "_law_dip" ["_law_pail_here", "_law_many"] [] spDip) (g_l_sized : GD P w K mg base (L2.CX P w) 2 "_law_sized" ["_law_pail_here", "_law_many"] [] spSized)
  (g_l_pail : GD P w K mg base (L2.CX P w) 1 "_law_pail" ["_law_script"] [] (spPail K)) (g_l_post : GD P w K mg base (L2.CX P w) 2 "_law_post" ["_law_pail_here"] [] spPost)
  (g_l_laid : GD P w K mg base (L2.CX P w) 1 "_law_laid" ["_law_post_here", "_law_one", "_law_other"] [] spLaid) (g_l_is : GD P w K mg base (L2.CX P w) 1 "_law_is" ["_law_ratio", "_law_pair"] [] (spIs K))
  (g_l_steps : GD P w K mg base (L2.CX P w) 3 "_law_steps" ["_law_pail_here"] [] spSteps)

theorem sc_pail : FnScope ["_law_script", "_law_cell"] ["_law_script"] (defScope (topS 38)) := ⟨rfl, rfl, rfl, by decide +kernel, rfl, by decide +kernel, by decide +kernel⟩
theorem ok_pail (G : G0 K mg) (F : FP K "_law_pail" "_law_pail" (topS 38) [] f fd) : FnOk P w K mg base (L2.CX P w) 1 f fd ["_law_script"] (spPail K) := by
  have nd := sc_pail.nd
  refine F.ok sc_pail (fun vs H Q E h => by obtain ⟨_, _, rfl, _⟩ := h; rfl) (fun cdv A outer s H vs Q E hr h => ⟨_, pss_one (ps_ret (pe_lst (pa_cons (pe_lc (own := [("_law_cell", 1)]) (g := gName 1) (tt := tYes) rfl nd (pi_list (pe_slice sl_list (pv 0) po_none (po_some pe_int))) (blkOk_by (N := ["_law_script", "_law_cell"]) (sc := defScope (topS 38)) (by decide +kernel)) (fun _ _ _ _ _ => pg_name (i := 1) nd rfl (Or.inl rfl)) (fun _ _ _ _ _ => pts_nil) (fun _ _ _ _ _ => pe_callTy call_int1i rfl G.nm.int (by decide +kernel) (pa_cons (pv 1) pa_nil))) (pa_cons (pe_int) (pa_cons (pe_int) (pa_nil)))))), ?_⟩)
  obtain ⟨a, ns, rfl, h, q⟩ := h
  walk_at "rd"
  intro p hp
  have ey : ∃ ys : List Int, cutV (List.map V.int ns) none (some 60) = ys.map V.int ∧ ys.length ≤ 60 := by
    unfold cutV
    rw [← List.map_drop, ← List.map_take]
    refine ⟨_, rfl, ?_⟩
    have e : HT.sIx (List.map V.int ns).length (List.map V.int ns).length (some 60) = min 60 (List.map V.int ns).length := HT.sIx_nat _ _ 60
    rw [List.length_take, List.length_drop, e]
    omega
  obtain ⟨ys, ey, hlen⟩ := ey
  rw [ey]
  refine ⟨p, rfl, ⟨_, SqL.of upd_same⟩, fun D hD => ?_⟩
  have s1 : Same H (upd H p (.lst (ys.map V.int))) := fun b o e => by rw [upd_ne (ne_of_none e hp)]; exact e
  have pD : p ≠ D := ne_of_none upd_same hD
  refine lc_list (K := K) (a := p) (xs := ys.map V.int) (fun i Hh => Same H Hh ∧ Hh p = some (.lst (ys.map V.int)) ∧ Hh D = some (.lst ((ys.take i).map V.int))) ?_ (fun i H _ h => SqL.of h.2.1) ?_ ?_
  · refine ⟨fun b o e => ?_, ?_, upd_same⟩
    · rw [upd_ne (ne_of_none (s1 _ _ e) hD)]
      exact s1 _ _ e
    · rw [upd_ne pD]
      exact upd_same
  · intro i x H1 hx hP
    obtain ⟨p1, p2, p3⟩ := hP
    rw [List.getElem?_map] at hx
    obtain ⟨y, hy, rfl⟩ := Option.map_eq_some_iff.mp hx
    have hi := (List.getElem?_eq_some_iff.mp hy).1
    walk_at "rd"
    have h60 : 60 < sizeLine := by decide
    refine ⟨by rw [List.length_map, List.length_take]; omega, fun b o e => ?_, ?_, ?_⟩
    · rw [upd_ne]
      · exact p1 _ _ e
      · intro z
        subst z
        rw [show H b = none from by
          cases q : H b with
          | none => rfl
          | some u => rw [s1 _ _ q] at hD; cases hD] at e
        cases e
    · rw [upd_ne pD]
      exact p2
    · rw [upd_same, List.take_add_one, hy]
      simp
  · intro H1 hP
    obtain ⟨p1, p2, p3⟩ := hP
    have h3 : 3 ≤ sizeLine := by decide
    walk_at "rd"
    intro r hr
    have rD : D ≠ r := ne_of_none p3 hr
    refine q r _ (fun b o e => ?_) ?_ ⟨D, ys, 0, 0, upd_same, ?_, by omega, by omega, by omega⟩
    · rw [upd_ne (ne_of_none (p1 _ _ e) hr)]
      exact p1 _ _ e
    · cases z : H r with
      | none => rfl
      | some u => rw [p1 _ _ z] at hr; cases hr
    · rw [upd_ne rD, p3, List.length_map, List.take_length]
theorem sc_dip : FnScope ["_law_pail_here", "_law_many", "_law_digit", "_law_at", "_law_cell", "_law_great", "_law_mixed"] ["_law_pail_here", "_law_many"] (defScope (topS 39)) := ⟨rfl, rfl, rfl, by decide +kernel, rfl, by decide +kernel, by decide +kernel⟩
theorem ok_dip (G : G0 K mg) (F : FP K "_law_dip" "_law_dip" (topS 39) [] f fd) : FnOk P w K mg base (L2.CX P w) 1 f fd ["_law_pail_here", "_law_many"] spDip := by
  have nd := sc_dip.nd
  refine F.ok sc_dip (fun vs H Q E h => by obtain ⟨_, _, _, _, rfl, _⟩ := h; rfl) (fun cdv A outer s H vs Q E hr h => ⟨_, pss_cons (ps_if (pt_cmpR op_gt (pe_ix ix_list (pv 0) (pe_int) (fun _ _ => rfl)) (pe_int) (nomark _)) (pss_cons (ps_set (i := 2) nd rfl (Or.inl rfl) (pe_op op_mod (pe_callTy call_int1i rfl G.nm.int (by decide +kernel) (pa_cons (pe_ix ix_list (pv 0) (pe_int) (fun _ _ => rfl)) (pa_nil))) (pv 1))) (pss_cons (ps_asg (pe_op op_fdivB (pe_callTy call_int1i rfl G.nm.int (by decide +kernel) (pa_cons (pe_ix ix_list (pv 0) (pe_int) (fun _ _ => rfl)) (pa_nil))) (pv 1)) (pg_sub (pv 0) (pe_int) set_list)) (pss_one (ps_ret (pv 2))))) (pss_nil)) (pss_cons (ps_set (i := 3) nd rfl (Or.inl rfl) (pe_ix ix_list (pv 0) (pe_int) (fun _ _ => rfl))) (pss_cons (ps_asg (pe_op op_add (pv 3) (pe_int)) (pg_sub (pv 0) (pe_int) set_list)) (pss_cons (ps_set (i := 4) nd rfl (Or.inl rfl) (pe_op op_add (pe_op op_mul (pe_int) (pv 3)) (pe_int))) (pss_cons (ps_if (pt_cmpR (op_neD hr.units) (pe_ix ix_list (pv 0) (pe_int) (fun _ _ => rfl)) (pe_lst (pa_nil)) (nomark _)) (pss_one (ps_set (i := 4) nd rfl (Or.inl rfl) (pe_ix ix_list (pe_ix ix_list (pv 0) (pe_int) (fun _ _ => rfl)) (pe_op op_mod (pe_callTy call_int1i rfl G.nm.int (by decide +kernel) (pa_cons (pv 3) (pa_nil))) (pe_callB call_len_seq rfl G.nm.len (by decide +kernel) (pa_cons (pe_ix ix_list (pv 0) (pe_int) (fun _ _ => rfl)) (pa_nil)))) (fun _ _ => rfl)))) (pss_nil)) (pss_cons (ps_if (PW.pt (pw_and (pt_cmpR op_lt (pv 3) (pe_callB call_len_seq rfl G.nm.len (by decide +kernel) (pa_cons (pe_ix ix_list (pv 0) (pe_int) (fun _ _ => rfl)) (pa_nil))) (nomark _)) (pw_and1 (pt_cmpR op_ge (pe_callB call_abs rfl G.nm.abs (by decide +kernel) (pa_cons (pv 4) (pa_nil))) (pe_op op_pow (pe_int) (pe_int)) (nomark _))))) (pss_cons (ps_set (i := 5) nd rfl (Or.inl rfl) (pe_op op_add (pe_op op_mul (pe_int) (pe_op op_sub (pe_callB call_abs rfl G.nm.abs (by decide +kernel) (pa_cons (pv 4) (pa_nil))) (pe_op op_pow (pe_int) (pe_int)))) (pe_callTy call_int1b rfl G.nm.int (by decide +kernel) (pa_cons (pe_cmpR op_lt (pv 4) (pe_int) (nomark _)) (pa_nil))))) (pss_cons (ps_asg (pe_op op_fdivB (pe_callTy call_int1i rfl G.nm.int (by decide +kernel) (pa_cons (pv 5) (pa_nil))) (pv 1)) (pg_sub (pv 0) (pe_int) set_list)) (pss_one (ps_ret (pe_op op_mod (pe_callTy call_int1i rfl G.nm.int (by decide +kernel) (pa_cons (pv 5) (pa_nil))) (pv 1)))))) (pss_nil)) (pss_cons (ps_set (i := 6) nd rfl (Or.inl rfl) (pe_op op_mod (pe_callTy call_int1i rfl G.nm.int (by decide +kernel) (pa_cons (pe_op op_pow (pe_op op_add (pe_op op_add (pe_op op_mod (pe_callTy call_int1i rfl G.nm.int (by decide +kernel) (pa_cons (pv 4) (pa_nil))) (pe_int)) (pe_op op_mul (pe_int) (pv 3))) (pe_int)) (pe_int)) (pa_nil))) (pe_int))) (pss_cons (ps_set (i := 6) nd rfl (Or.inl rfl) (pe_op op_mod (pe_callTy call_int1i rfl G.nm.int (by decide +kernel) (pa_cons (pe_op op_pow (pe_op op_add (pe_op op_add (pe_op op_mul (pv 6) (pe_op op_add (pe_op op_mul (pe_int) (pv 3)) (pe_int))) (pe_op op_mul (pe_op op_mul (pe_int) (pv 3)) (pv 3))) (pe_int)) (pe_int)) (pa_nil))) (pe_int))) (pss_one (ps_ret (pe_op op_mod (pe_callTy call_int1i rfl G.nm.int (by decide +kernel) (pa_cons (pe_op op_fdivB (pv 6) (pe_int)) (pa_nil))) (pv 1))))))))))), ?_⟩)
  obtain ⟨a, c, m, N, rfl, ⟨cs, n, g, ha, hc, n0, nN, g0⟩, hN, m0, m1, q⟩ := h
  have dm : ∀ x, CDivB x m := fun x => ⟨by omega, by have h2 : (2 : Nat) ^ 30 ≤ 2 ^ 4000 := Nat.pow_le_pow_right (by decide) (by decide); omega⟩
  have dg := dm g
  have ca : c ≠ a := by
    intro z
    subst z
    rw [ha] at hc
    injection hc with hc
    injection hc with hc
    cases cs <;> cases hc
  walk_at "rd"
  refine iteP (fun h1 => ?_) (fun h1 => ?_)
  · have h1 : 0 < g := of_decide_eq_true h1
    walk_at "rd"
    have e : Sb a H (upd H a (.lst [.ref c, .int n, .int (g.fdiv m)])) := fun b o nb e => by rw [upd_ne nb]; exact e
    exact q (g % m) _ (Int.emod_nonneg _ (by omega)) (Int.emod_lt_of_pos _ m0) ⟨cs, n, g.fdiv m, upd_same, e _ _ ca hc, n0, by omega, Int.fdiv_nonneg g0 (by omega)⟩ e
  · have hc1 : upd H a (.lst [.ref c, .int (n + 1), .int g]) c = some (.lst (cs.map V.int)) := by
      rw [upd_ne ca]
      exact hc
    walk_at "rd"
    intro l hl
    have hc2 := (upd_ne (o := .lst []) (ne_of_none hc1 hl)).trans hc1
    refine ⟨_, _, .lst (SqL.of hc2) (dp_ints cs), .lst (SqL.of upd_same) .nil, shaped_ints cs, rfl, ?_⟩
    walk_at "rd"
    have hla : a ≠ l := ne_of_none (show upd H a (.lst [.ref c, .int (n + 1), .int g]) a = some _ from upd_same) hl
    have ha2 : upd (upd H a (.lst [.ref c, .int (n + 1), .int g])) l (.lst []) a = some (.lst [.ref c, .int (n + 1), .int g]) := by
      rw [upd_ne hla]
      exact upd_same
    apply tailR
    · intro tail
      refine iteP (fun h2 => ?_) (fun h2 => ?_)
      · have hl0 : 0 < ((cs.map V.int).length : Int) := by
          cases cs with
          | nil => cases h2
          | cons y ys => simp
        have hat : ∃ x : Int, atI (cs.map V.int) (n % ((cs.map V.int).length : Int)) = some (.int x) := by
          have r1 := Int.emod_nonneg n (show ((cs.map V.int).length : Int) ≠ 0 by omega)
          have r2 := Int.emod_lt_of_pos n hl0
          obtain ⟨j, hj⟩ : ∃ j : Nat, n % ((cs.map V.int).length : Int) = j := ⟨(n % ((cs.map V.int).length : Int)).toNat, by omega⟩
          rw [hj]
          have hjl : j < cs.length := by rw [hj, List.length_map] at r2; omega
          refine ⟨cs[j], atI_nat ?_⟩
          rw [List.getElem?_map, List.getElem?_eq_getElem hjl]
          rfl
        obtain ⟨x, hat⟩ := hat
        walk_at "rd"
        exact tail x
      · walk_at "rd"
        exact tail (40487 * n + 3671)
    · intro x
      have nM : n ≤ 1000000 := by omega
      have cp1 : CPow (x % 2147483629 + 70321 * n + 3671) 5 := ⟨by decide, by decide, by omega⟩
      have y0 := Int.emod_nonneg ((x % 2147483629 + 70321 * n + 3671) ^ Int.toNat 5) (show (2147483647 : Int) ≠ 0 by decide)
      have y1 := Int.emod_lt_of_pos ((x % 2147483629 + 70321 * n + 3671) ^ Int.toNat 5) (show (0 : Int) < 2147483647 by decide)
      have cm1 : CMul ((x % 2147483629 + 70321 * n + 3671) ^ Int.toNat 5 % 2147483647) (2 * n + 1867) := .inr ⟨by omega, by omega⟩
      have cm2 : CMul (40487 * n) n := .inr ⟨by omega, by omega⟩
      have cp2 : CPow ((x % 2147483629 + 70321 * n + 3671) ^ Int.toNat 5 % 2147483647 * (2 * n + 1867) + 40487 * n * n + 52391) 3 := by
        refine ⟨by decide, by decide, ?_⟩
        revert y0 y1
        generalize (x % 2147483629 + 70321 * n + 3671) ^ Int.toNat 5 % 2147483647 = y
        intro y0 y1
        have b1 : y * (2 * n + 1867) ≤ 2147483647 * 2001867 := Int.mul_le_mul (by omega) (by omega) (by omega) (by decide)
        have b2 : 0 ≤ y * (2 * n + 1867) := Int.mul_nonneg y0 (by omega)
        have b3 : n * n ≤ 1000000 * 1000000 := Int.mul_le_mul nM nM n0 (by decide)
        have b4 : 0 ≤ n * n := Int.mul_nonneg n0 n0
        rw [Int.mul_assoc 40487]
        omega
      have d64 : ∀ z : Int, CDivB z 64 := fun z => ⟨by decide, by decide⟩
      have d64' := d64 (((x % 2147483629 + 70321 * n + 3671) ^ Int.toNat 5 % 2147483647 * (2 * n + 1867) + 40487 * n * n + 52391) ^ Int.toNat 3 % 2147483587)
      have dgr := dm (2 * ((if x < 0 then -x else x) - 10 ^ Int.toNat 18) + (if decide (x < 0) = true then 1 else 0))
      have sb2 : ∀ o', Sb a H (upd (upd (upd H a (.lst [.ref c, .int (n + 1), .int g])) l (.lst [])) a o') := fun o' b o nb e => by
        have h1 := (upd_ne (o := .lst [.ref c, .int (n + 1), .int g]) nb).trans e
        rw [upd_ne nb, upd_ne (ne_of_none h1 hl)]
        exact h1
      have sb1 : Sb a H (upd (upd H a (.lst [.ref c, .int (n + 1), .int g])) l (.lst [])) := fun b o nb e => by
        have h1 := (upd_ne (o := .lst [.ref c, .int (n + 1), .int g]) nb).trans e
        rw [upd_ne (ne_of_none h1 hl)]
        exact h1
      have fin1 : Pail (upd (upd H a (.lst [.ref c, .int (n + 1), .int g])) l (.lst [])) a c (N + 1) := ⟨cs, n + 1, g, ha2, hc2, by omega, by omega, g0⟩
      refine iteP (fun h3 => ?_) (fun h3 => ?_)
      · walk_at "rd"
        refine iteP (fun h4 => ?_) (fun h4 => ?_)
        · walk_at "rd"
          refine q _ _ (Int.emod_nonneg _ (by omega)) (Int.emod_lt_of_pos _ m0) ⟨cs, n + 1, _, upd_same, sb2 _ _ _ ca hc, by omega, by omega, Int.fdiv_nonneg ?_ (by omega)⟩ (sb2 _)
          have h4 : (10 : Int) ^ Int.toNat 18 ≤ (if x < 0 then -x else x) := of_decide_eq_true h4
          have : (0 : Int) ≤ (if decide (x < 0) = true then 1 else 0) := by split <;> decide
          omega
        · walk_at "rd"
          exact q _ _ (Int.emod_nonneg _ (by omega)) (Int.emod_lt_of_pos _ m0) fin1 sb1
      · walk_at "rd"
        exact q _ _ (Int.emod_nonneg _ (by omega)) (Int.emod_lt_of_pos _ m0) fin1 sb1
end
end Sp
end
section
set_option Elab.async false
set_option linter.all false
set_option exponentiation.threshold 5000
set_option maxRecDepth 100000
set_option maxHeartbeats 0
local macro_rules | `(tactic| walk_at "leaf") => `(tactic| first | rfl | assumption | exact True.intro | exact L2.upd_same | exact L2.ClsV.ty _ | exact L2.ClsV.own _ | decide | exact of_decide_eq_true rfl | exact L2.SqL.of (by assumption) | exact L2.SqL.of L2.upd_same | exact Or.inl (L2.SqL.of L2.upd_same) | exact Or.inl (L2.SqL.of (by assumption)) | exact L2.SqT.of (by assumption) | exact L2.SqT.of L2.upd_same | exact Sp.cmL (by decide) | exact Sp.cmR (by decide) | exact ⟨by decide, by decide, by decide⟩ | exact ⟨by decide, by decide⟩ | omega | fail)
local macro_rules | `(tactic| walk_at "rd1") => `(tactic| first
  | refine Sp.rbR (by assumption) (by assumption) (by assumption) (by assumption) ?_
  | apply Sp.exI
  | (refine And.intro ?lf ?_; (case lf => walk_at "leaf"))
  | fail)
local macro_rules | `(tactic| walk_at "rd") => `(tactic| repeat (walk_at "rd1"))
local macro_rules | `(tactic| walk_at "fR") => `(tactic| (have := (‹Sp.G0 _ _›).R.cl; have := (‹Sp.G0 _ _›).R.no "top" (by simp); have := (‹Sp.G0 _ _›).R.no "bottom" (by simp)))
local macro_rules | `(tactic| walk_at "fS") => `(tactic| (have := (‹Sp.G0 _ _›).S.cl; have := (‹Sp.G0 _ _›).S.no "studs" (by simp); have := (‹Sp.G0 _ _›).S.no "rounds" (by simp); have := (‹Sp.G0 _ _›).S.no "divisor" (by simp); have := (‹Sp.G0 _ _›).S.no "is_round" (by simp)))
local macro_rules | `(tactic| walk_at "fT") => `(tactic| (have := (‹Sp.G0 _ _›).T.cl; have := (‹Sp.G0 _ _›).T.no "turn" (by simp); have := (‹Sp.G0 _ _›).T.no "squared" (by simp); have := (‹Sp.G0 _ _›).T.no "rise" (by simp)))
namespace Sp
open PySem PySem.Spec PyProof.Rows L2
section
variable {P : Program} {w : World} {K : PySem.W.Frag} {mg : Str → Option Value} {base : Heap} {f : Addr} {fd : FuncData}
variable (g_is_integer : GD P w K mg base (L2.CX P w) 1 "is_integer" ["value"] [] (spIsInt K)) (g_sign_of : GD P w K mg base (L2.CX P w) 1 "sign_of" ["number"] [] spSign)
  (g_is_ratio : GD P w K mg base (L2.CX P w) 2 "is_ratio" ["value"] [] (spIsRat K)) (g_at_right : GD P w K mg base (L2.CX P w) 6 "at_right" ["value"] [] (spOf K))
  (g_xBadRatio : GX P w K mg base 1 "BadRatio" "part" (cX K "BadRatio")) (g_xBadStep : GX P w K mg base 1 "BadStep" "part" (cX K "BadStep")) (g_xRound : GX P w K mg base 1 "Round" "part" (cX K "Round")) (g_xBadStem : GX P w K mg base 1 "BadStem" "part" (cX K "BadStem"))
  (g_mRatio : GM P w K mg base (L2.CX P w) 3 "Ratio" (cR K) ["self", "top", "bottom"] [] (spInitR K)) (g_mRatio1 : GM P w K mg base (L2.CX P w) 3 "Ratio" (cR K) ["self", "top", "bottom"] [.int 1] (spInitR K))
  (g_Ratio_of : GS P w K mg base (L2.CX P w) 5 (cR K) "of" (spOf K)) (g_R_compared : GH P w K mg base (L2.CX P w) 7 (cR K) "compared" ["self", "other"] (spCmp K))
variable (g_radd : GO P w K mg base (L2.CX P w) 7 (cR K) .Add (spBinR K (· + ·))) (g_rsub : GO P w K mg base (L2.CX P w) 7 (cR K) .Sub (spBinR K (· - ·))) (g_rmul : GO P w K mg base (L2.CX P w) 7 (cR K) .Mult (spBinR K (· * ·)))
  (g_rabs : GN P w K mg base (L2.CX P w) 5 (cR K) "__abs__" (spAbs K)) (g_req : GN P w K mg base (L2.CX P w) 2 (cR K) "__eq__" (spEqR K)) (g_R_sign : GP P w K mg base (L2.CX P w) 2 (cR K) "sign" (spSgn K)) (g_R_is_below : GH P w K mg base (L2.CX P w) 8 (cR K) "is_below" ["self", "other"] (spBelow K))
variable (g_mStep : GM P w K mg base (L2.CX P w) 3 "Step" (cS K) ["self", "studs", "rounds"] [] (spInitS K)) (g_mStem : GM P w K mg base (L2.CX P w) 8 "Stem" (cT K) ["self", "turn", "squared"] [] (spInitT K))
  (g_need_step : GD P w K mg base (L2.CX P w) 3 "need_step" ["value", "part"] [] (spNeedS K)) (g_need_studs : GD P w K mg base (L2.CX P w) 3 "need_studs" ["step", "part"] [] (spNeedK K)) (g_summed : GD P w K mg base (L2.CX P w) 5 "summed" ["studs", "rounds"] [] (spSummed K))
  (g_cross : GD P w K mg base (L2.CX P w) 4 "cross" ["one", "other"] [] (spCross K)) (g_sadd : GO P w K mg base (L2.CX P w) 6 (cS K) .Add (spAddS K))
  (g_T_product : GH P w K mg base (L2.CX P w) 8 (cT K) "product" ["self", "one", "other"] (spProd K)) (g_T_lean : GH P w K mg base (L2.CX P w) 8 (cT K) "lean" ["self", "step"] (spLean K))
  (g_T_square : GH P w K mg base (L2.CX P w) 9 (cT K) "square" ["self", "step"] (spSq K)) (g_T_is_steeper : GH P w K mg base (L2.CX P w) 9 (cT K) "is_steeper" ["self", "one", "other"] (spSteep K))
variable (g_l_dip : GD P w K mg base (L2.CX P w) 1 "_law_dip" ["_law_pail_here", "_law_many"] [] spDip) (g_l_sized : GD P w K mg base (L2.CX P w) 2 "_law_sized" ["_law_pail_here", "_law_many"] [] spSized)
  (g_l_pail : GD P w K mg base (L2.CX P w) 1 "_law_pail" ["_law_script"] [] (spPail K)) (g_l_post : GD P w K mg base (L2.CX P w) 2 "_law_post" ["_law_pail_here"] [] spPost)
  (g_l_laid : GD P w K mg base (L2.CX P w) 1 "_law_laid" ["_law_post_here", "_law_one", "_law_other"] [] spLaid) (g_l_is : GD P w K mg base (L2.CX P w) 1 "_law_is" ["_law_ratio", "_law_pair"] [] (spIs K))
  (g_l_steps : GD P w K mg base (L2.CX P w) 3 "_law_steps" ["_law_pail_here"] [] spSteps)

theorem sc_sized : FnScope ["_law_pail_here", "_law_many", "_law_found"] ["_law_pail_here", "_law_many"] (defScope (topS 40)) := ⟨rfl, rfl, rfl, by decide +kernel, rfl, by decide +kernel, by decide +kernel⟩
include g_l_dip in
theorem ok_sized (G : G0 K mg) (F : FP K "_law_sized" "_law_sized" (topS 40) [] f fd) : FnOk P w K mg base (L2.CX P w) 2 f fd ["_law_pail_here", "_law_many"] spSized := by
  have nd := sc_sized.nd
  refine F.ok sc_sized (fun vs H Q E h => by obtain ⟨_, _, _, rfl, _⟩ := h; rfl) (fun cdv A outer s H vs Q E hr h => ⟨_, pss_cons (ps_set (i := 2) nd rfl (Or.inl rfl) (pe_op op_sub (pe_gd g_l_dip (hr.mono (by decide)) rfl (pxE rfl rfl rfl rfl) (pa_cons (pv 0) (pa_cons (pe_op op_add (pe_op op_mul (pe_int) (pv 1)) (pe_int)) (pa_nil)))) (pv 1))) (pss_cons (ps_if (pt_cmpR op_eq (pe_gd g_l_dip (hr.mono (by decide)) rfl (pxE rfl rfl rfl rfl) (pa_cons (pv 0) (pa_cons (pe_int) (pa_nil)))) (pe_int) (nomark _)) (pss_one (ps_set (i := 2) nd rfl (Or.inl rfl) (pe_op op_add (pe_op op_mul (pe_op op_mul (pv 2) (pe_int)) (pe_int)) (pe_gd g_l_dip (hr.mono (by decide)) rfl (pxE rfl rfl rfl rfl) (pa_cons (pv 0) (pa_cons (pe_int) (pa_nil))))))) (pss_nil)) (pss_one (ps_ret (pv 2)))), ?_⟩)
  obtain ⟨a, c, N, rfl, p, hN, q⟩ := h
  walk_at "rd"
  intro d1 H1 d10 d11 p1 s1
  walk_at "rd"
  intro d2 H2 d20 d21 p2 s2
  walk_at "rd"
  refine iteP (fun h1 => ?_) (fun h1 => ?_)
  · walk_at "rd"
    intro d3 H3 d30 d31 p3 s3
    walk_at "rd"
    refine q _ _ ?_ p3.mono ((s1.trans s2).trans s3)
    have d11 : d1 < 61 := d11
    have d31 : d3 < 1000003 := d31
    show ((d1 - 30) * 999983 * 999979 + d3).natAbs < 2 ^ 46
    omega
  · walk_at "rd"
    refine q _ _ ?_ p2.mono (s1.trans s2)
    have d11 : d1 < 61 := d11
    show (d1 - 30).natAbs < 2 ^ 46
    omega
theorem sc_post : FnScope ["_law_pail_here", "_law_top", "_law_bottom"] ["_law_pail_here"] (defScope (topS 41)) := ⟨rfl, rfl, rfl, by decide +kernel, rfl, by decide +kernel, by decide +kernel⟩
include g_l_dip in
theorem ok_post (G : G0 K mg) (F : FP K "_law_post" "_law_post" (topS 41) [] f fd) : FnOk P w K mg base (L2.CX P w) 2 f fd ["_law_pail_here"] spPost := by
  have nd := sc_post.nd
  refine F.ok sc_post (fun vs H Q E h => by obtain ⟨_, _, _, rfl, _⟩ := h; rfl) (fun cdv A outer s H vs Q E hr h => ⟨_, pss_cons (ps_par (i := 1) (j := 2) rfl nd rfl rfl (by decide) rfl rfl (pa_cons (pe_op op_sub (pe_gd g_l_dip (hr.mono (by decide)) rfl (pxE rfl rfl rfl rfl) (pa_cons (pv 0) (pa_cons (pe_int) (pa_nil)))) (pe_int)) (pa_cons (pe_op op_add (pe_int) (pe_gd g_l_dip (hr.mono (by decide)) rfl (pxE rfl rfl rfl rfl) (pa_cons (pv 0) (pa_cons (pe_int) (pa_nil))))) pa_nil)) rfl) (pss_cons (ps_if (pt_cmpR op_eq (pe_gd g_l_dip (hr.mono (by decide)) rfl (pxE rfl rfl rfl rfl) (pa_cons (pv 0) (pa_cons (pe_int) (pa_nil)))) (pe_int) (nomark _)) (pss_one (ps_set (i := 1) nd rfl (Or.inl rfl) (pe_op op_add (pe_op op_mul (pv 1) (pe_int)) (pe_gd g_l_dip (hr.mono (by decide)) rfl (pxE rfl rfl rfl rfl) (pa_cons (pv 0) (pa_cons (pe_int) (pa_nil))))))) (pss_nil)) (pss_one (ps_ret (pe_tup (pa_cons (pv 1) (pa_cons (pv 2) (pa_cons (pe_op op_add (pe_int) (pe_gd g_l_dip (hr.mono (by decide)) rfl (pxE rfl rfl rfl rfl) (pa_cons (pv 0) (pa_cons (pe_int) (pa_nil))))) (pa_cons (pe_op op_add (pe_int) (pe_gd g_l_dip (hr.mono (by decide)) rfl (pxE rfl rfl rfl rfl) (pa_cons (pv 0) (pa_cons (pe_int) (pa_nil))))) (pa_nil))))))))), ?_⟩)
  obtain ⟨a, c, N, rfl, p, hN, q⟩ := h
  walk_at "rd"
  intro d1 H1 d10 d11 p1 s1
  walk_at "rd"
  intro d2 H2 d20 d21 p2 s2
  walk_at "rd"
  intro d3 H3 d30 d31 p3 s3
  walk_at "rd"
  have s13 := (s1.trans s2).trans s3
  have d11 : d1 < 81 := d11
  have d21 : d2 < 40 := d21
  refine iteP (fun h1 => ?_) (fun h1 => ?_)
  · walk_at "rd"
    intro d4 H4 d40 d41 p4 s4
    have d41 : d4 < 9999991 := d41
    walk_at "rd"
    intro d5 H5 d50 d51 p5 s5
    walk_at "rd"
    intro d6 H6 d60 d61 p6 s6
    walk_at "rd"
    intro x hx
    refine q x _ ((d1 - 40) * 9999991 + d4) (1 + d2) (1 + d5) (1 + d6) ⟨by omega, by omega, by omega, by omega, ?_, by omega, ?_⟩ upd_same (p6.ext (Same.new hx)) ((((s13.trans s4).trans s5).trans s6).trans (Same.sb (Same.new hx)))
    · have d51 : d5 < 60 := d51
      omega
    · have d61 : d6 < 40 := d61
      omega
  · walk_at "rd"
    intro d5 H5 d50 d51 p5 s5
    walk_at "rd"
    intro d6 H6 d60 d61 p6 s6
    walk_at "rd"
    intro x hx
    refine q x _ (d1 - 40) (1 + d2) (1 + d5) (1 + d6) ⟨by omega, by omega, by omega, by omega, ?_, by omega, ?_⟩ upd_same (p6.ext (Same.new hx)).mono (((s13.trans s5).trans s6).trans (Same.sb (Same.new hx)))
    · have d51 : d5 < 60 := d51
      omega
    · have d61 : d6 < 40 := d61
      omega
theorem sc_laid : FnScope ["_law_post_here", "_law_one", "_law_other", "_law_top", "_law_bottom", "_law_rise", "_law_under", "_law_k", "_law_j", "_law_l", "_law_i", "_law_aside"] ["_law_post_here", "_law_one", "_law_other"] (defScope (topS 43)) := ⟨rfl, rfl, rfl, by decide +kernel, rfl, by decide +kernel, by decide +kernel⟩
theorem ok_laid (G : G0 K mg) (F : FP K "_law_laid" "_law_laid" (topS 43) [] f fd) : FnOk P w K mg base (L2.CX P w) 1 f fd ["_law_post_here", "_law_one", "_law_other"] spLaid := by
  have nd := sc_laid.nd
  refine F.ok sc_laid (fun vs H Q E h => by obtain ⟨_, _, _, _, _, _, _, _, _, _, _, rfl, _⟩ := h; rfl) (fun cdv A outer s H vs Q E hr h => ⟨_, pss_cons (ps_asg (pv 0) (pg_tup rfl (pgs_cons (pg_name (i := 3) nd rfl (Or.inl rfl)) (pgs_cons (pg_name (i := 4) nd rfl (Or.inl rfl)) (pgs_cons (pg_name (i := 5) nd rfl (Or.inl rfl)) (pgs_cons (pg_name (i := 6) nd rfl (Or.inl rfl)) (pgs_nil))))))) (pss_cons (ps_asg (pe_tup (pa_cons (pv 1) (pa_cons (pv 2) (pa_nil)))) (pg_tup rfl (pgs_cons (pg_tup rfl (pgs_cons (pg_name (i := 7) nd rfl (Or.inl rfl)) (pgs_cons (pg_name (i := 8) nd rfl (Or.inl rfl)) (pgs_nil)))) (pgs_cons (pg_tup rfl (pgs_cons (pg_name (i := 9) nd rfl (Or.inl rfl)) (pgs_cons (pg_name (i := 10) nd rfl (Or.inl rfl)) (pgs_nil)))) (pgs_nil))))) (pss_cons (ps_set (i := 11) nd rfl (Or.inl rfl) (pe_op op_mulB (pe_op op_mulB (pe_op op_sub (pe_op op_mulB (pv 7) (pv 3)) (pe_op op_mulB (pv 8) (pv 4))) (pe_op op_sub (pe_op op_mulB (pv 9) (pv 3)) (pe_op op_mulB (pv 10) (pv 4)))) (pv 6))) (pss_one (ps_ret (pe_tup (pa_cons (pe_op op_add (pv 11) (pe_op op_mulB (pe_op op_mulB (pe_op op_mulB (pe_op op_mulB (pv 7) (pv 9)) (pv 5)) (pv 4)) (pv 4))) (pa_cons (pe_op op_mulB (pe_op op_mulB (pv 4) (pv 4)) (pv 6)) (pa_nil)))))))), ?_⟩)
  obtain ⟨p, q1, q2, t, b, r, u, k, j, l, i, rfl, po, hp, ⟨h1, b1, b2⟩, ⟨h2, b3, b4⟩, q⟩ := h
  have t1 : t.natAbs < 2 ^ 29 := po.t
  have t2 : b.natAbs < 2 ^ 6 := by have := po.b0; have := po.b1; omega
  have t3 : r.natAbs < 2 ^ 6 := by have := po.r0; have := po.r1; omega
  have t4 : u.natAbs < 2 ^ 6 := by have := po.u0; have := po.u1; omega
  walk_at "rd"
  intro x hx
  have e1 := (upd_ne (o := .tup [.ref q1, .ref q2]) (ne_of_none h1 hx)).trans h1
  have e2 := (upd_ne (o := .tup [.ref q1, .ref q2]) (ne_of_none h2 hx)).trans h2
  have m1 : CMulB k t := cm b1 t1
  have m2 : CMulB j b := cm b2 t2
  have m3 : CMulB l t := cm b3 t1
  have m4 : CMulB i b := cm b4 t2
  have n1 : (k * t - j * b).natAbs < 2 ^ 82 := nb_sub (nb_mul b1 t1) (nb_mul b2 t2)
  have n2 : (l * t - i * b).natAbs < 2 ^ 82 := nb_sub (nb_mul b3 t1) (nb_mul b4 t2)
  have m5 : CMulB (k * t - j * b) (l * t - i * b) := cm n1 n2
  have m6 : CMulB ((k * t - j * b) * (l * t - i * b)) u := cm (nb_mul n1 n2) t4
  have m7 : CMulB k l := cm b1 b3
  have m8 : CMulB (k * l) r := cm (nb_mul b1 b3) t3
  have m9 : CMulB (k * l * r) b := cm (nb_mul (nb_mul b1 b3) t3) t2
  have m10 : CMulB (k * l * r * b) b := cm (nb_mul (nb_mul (nb_mul b1 b3) t3) t2) t2
  have m11 : CMulB b b := cm t2 t2
  have m12 : CMulB (b * b) u := cm (nb_mul t2 t2) t4
  walk_at "rd"
  intro y hy
  exact q y _ ((Same.new hx).trans (Same.new hy)) upd_same
theorem sc_is : FnScope ["_law_ratio", "_law_pair"] ["_law_ratio", "_law_pair"] (defScope (topS 44)) := ⟨rfl, rfl, rfl, by decide +kernel, rfl, by decide +kernel, by decide +kernel⟩
theorem ok_is (G : G0 K mg) (F : FP K "_law_is" "_law_is" (topS 44) [] f fd) : FnOk P w K mg base (L2.CX P w) 1 f fd ["_law_ratio", "_law_pair"] (spIs K) := by
  have nd := sc_is.nd
  refine F.ok sc_is (fun vs H Q E h => by obtain ⟨_, _, _, _, _, rfl, _⟩ := h; rfl) (fun cdv A outer s H vs Q E hr h => ⟨_, pss_one (ps_ret (pe_and (pe_callB call_isi rfl G.nm.isinstance (by decide +kernel) (pa_cons (pv 0) (pa_cons ((pe_glob (v := .ref (cR K)) rfl G.mgRatio rfl)) (pa_nil)))) (pe_and (pe_cmpR op_gt (pe_fld (pv 0) rfl) (pe_int) (nomark _)) (pe_one (pe_cmpR op_eq (pe_op op_mulB (pe_fld (pv 0) rfl) (pe_ix ix_tup (pv 1) (pe_int) (fun _ _ => rfl))) (pe_op op_mulB (pe_ix ix_tup (pv 1) (pe_int) (fun _ _ => rfl)) (pe_fld (pv 0) rfl)) (nomark _)))))), ?_⟩)
  obtain ⟨r, p, q, a, b, rfl, ir, hp, hb, e, z, za, zb, k⟩ := h
  have ty := G.tR ir
  have k1 := ty.2.R
  have k2 := ty.1
  obtain ⟨dx, ir⟩ := ir
  walk_at "fR"
  have m1 : CMulB q.num b := cm z.1 zb
  have m2 : CMulB a q.den := cm za z.d
  walk_at "rd"
  have hd0 : (0 : Int) < (q.den : Nat) := by have := q.den_pos; omega
  refine iteP (fun _ => ?_) (fun z => absurd (by simp) z)
  walk_at "rd"
  refine iteP (fun _ => ?_) (fun z => absurd (decide_eq_true hd0) z)
  walk_at "rd"
  have e : decide (V.int (q.num * b) = V.int (a * q.den)) = true := by rw [is_pair hb e]; simp
  have k2 : Q (.bl (decide (V.int (q.num * b) = V.int (a * q.den)))) H := by rw [e]; exact k
  exact k2
end
end Sp
end
section
set_option Elab.async false
set_option linter.all false
set_option exponentiation.threshold 5000
set_option maxRecDepth 100000
set_option maxHeartbeats 0
local macro_rules | `(tactic| walk_at "leaf") => `(tactic| first | rfl | assumption | exact True.intro | exact L2.upd_same | exact L2.ClsV.ty _ | exact L2.ClsV.own _ | decide | exact of_decide_eq_true rfl | exact L2.SqL.of (by assumption) | exact L2.SqL.of L2.upd_same | exact Or.inl (L2.SqL.of L2.upd_same) | exact Or.inl (L2.SqL.of (by assumption)) | exact L2.SqT.of (by assumption) | exact L2.SqT.of L2.upd_same | exact Sp.cmL (by decide) | exact Sp.cmR (by decide) | exact ⟨by decide, by decide, by decide⟩ | exact ⟨by decide, by decide⟩ | omega | fail)
local macro_rules | `(tactic| walk_at "rd1") => `(tactic| first
  | refine Sp.rbR (by assumption) (by assumption) (by assumption) (by assumption) ?_
  | apply Sp.exI
  | (refine And.intro ?lf ?_; (case lf => walk_at "leaf"))
  | fail)
local macro_rules | `(tactic| walk_at "rd") => `(tactic| repeat (walk_at "rd1"))
local macro_rules | `(tactic| walk_at "fR") => `(tactic| (have := (‹Sp.G0 _ _›).R.cl; have := (‹Sp.G0 _ _›).R.no "top" (by simp); have := (‹Sp.G0 _ _›).R.no "bottom" (by simp)))
local macro_rules | `(tactic| walk_at "fS") => `(tactic| (have := (‹Sp.G0 _ _›).S.cl; have := (‹Sp.G0 _ _›).S.no "studs" (by simp); have := (‹Sp.G0 _ _›).S.no "rounds" (by simp); have := (‹Sp.G0 _ _›).S.no "divisor" (by simp); have := (‹Sp.G0 _ _›).S.no "is_round" (by simp)))
local macro_rules | `(tactic| walk_at "fT") => `(tactic| (have := (‹Sp.G0 _ _›).T.cl; have := (‹Sp.G0 _ _›).T.no "turn" (by simp); have := (‹Sp.G0 _ _›).T.no "squared" (by simp); have := (‹Sp.G0 _ _›).T.no "rise" (by simp)))
namespace Sp
open PySem PySem.Spec PyProof.Rows L2
section
variable {P : Program} {w : World} {K : PySem.W.Frag} {mg : Str → Option Value} {base : Heap} {f : Addr} {fd : FuncData}
variable (g_is_integer : GD P w K mg base (L2.CX P w) 1 "is_integer" ["value"] [] (spIsInt K)) (g_sign_of : GD P w K mg base (L2.CX P w) 1 "sign_of" ["number"] [] spSign)
  (g_is_ratio : GD P w K mg base (L2.CX P w) 2 "is_ratio" ["value"] [] (spIsRat K)) (g_at_right : GD P w K mg base (L2.CX P w) 6 "at_right" ["value"] [] (spOf K))
  (g_xBadRatio : GX P w K mg base 1 "BadRatio" "part" (cX K "BadRatio")) (g_xBadStep : GX P w K mg base 1 "BadStep" "part" (cX K "BadStep")) (g_xRound : GX P w K mg base 1 "Round" "part" (cX K "Round")) (g_xBadStem : GX P w K mg base 1 "BadStem" "part" (cX K "BadStem"))
  (g_mRatio : GM P w K mg base (L2.CX P w) 3 "Ratio" (cR K) ["self", "top", "bottom"] [] (spInitR K)) (g_mRatio1 : GM P w K mg base (L2.CX P w) 3 "Ratio" (cR K) ["self", "top", "bottom"] [.int 1] (spInitR K))
  (g_Ratio_of : GS P w K mg base (L2.CX P w) 5 (cR K) "of" (spOf K)) (g_R_compared : GH P w K mg base (L2.CX P w) 7 (cR K) "compared" ["self", "other"] (spCmp K))
variable (g_radd : GO P w K mg base (L2.CX P w) 7 (cR K) .Add (spBinR K (· + ·))) (g_rsub : GO P w K mg base (L2.CX P w) 7 (cR K) .Sub (spBinR K (· - ·))) (g_rmul : GO P w K mg base (L2.CX P w) 7 (cR K) .Mult (spBinR K (· * ·)))
  (g_rabs : GN P w K mg base (L2.CX P w) 5 (cR K) "__abs__" (spAbs K)) (g_req : GN P w K mg base (L2.CX P w) 2 (cR K) "__eq__" (spEqR K)) (g_R_sign : GP P w K mg base (L2.CX P w) 2 (cR K) "sign" (spSgn K)) (g_R_is_below : GH P w K mg base (L2.CX P w) 8 (cR K) "is_below" ["self", "other"] (spBelow K))
variable (g_mStep : GM P w K mg base (L2.CX P w) 3 "Step" (cS K) ["self", "studs", "rounds"] [] (spInitS K)) (g_mStem : GM P w K mg base (L2.CX P w) 8 "Stem" (cT K) ["self", "turn", "squared"] [] (spInitT K))
  (g_need_step : GD P w K mg base (L2.CX P w) 3 "need_step" ["value", "part"] [] (spNeedS K)) (g_need_studs : GD P w K mg base (L2.CX P w) 3 "need_studs" ["step", "part"] [] (spNeedK K)) (g_summed : GD P w K mg base (L2.CX P w) 5 "summed" ["studs", "rounds"] [] (spSummed K))
  (g_cross : GD P w K mg base (L2.CX P w) 4 "cross" ["one", "other"] [] (spCross K)) (g_sadd : GO P w K mg base (L2.CX P w) 6 (cS K) .Add (spAddS K))
  (g_T_product : GH P w K mg base (L2.CX P w) 8 (cT K) "product" ["self", "one", "other"] (spProd K)) (g_T_lean : GH P w K mg base (L2.CX P w) 8 (cT K) "lean" ["self", "step"] (spLean K))
  (g_T_square : GH P w K mg base (L2.CX P w) 9 (cT K) "square" ["self", "step"] (spSq K)) (g_T_is_steeper : GH P w K mg base (L2.CX P w) 9 (cT K) "is_steeper" ["self", "one", "other"] (spSteep K))
variable (g_l_dip : GD P w K mg base (L2.CX P w) 1 "_law_dip" ["_law_pail_here", "_law_many"] [] spDip) (g_l_sized : GD P w K mg base (L2.CX P w) 2 "_law_sized" ["_law_pail_here", "_law_many"] [] spSized)
  (g_l_pail : GD P w K mg base (L2.CX P w) 1 "_law_pail" ["_law_script"] [] (spPail K)) (g_l_post : GD P w K mg base (L2.CX P w) 2 "_law_post" ["_law_pail_here"] [] spPost)
  (g_l_laid : GD P w K mg base (L2.CX P w) 1 "_law_laid" ["_law_post_here", "_law_one", "_law_other"] [] spLaid) (g_l_is : GD P w K mg base (L2.CX P w) 1 "_law_is" ["_law_ratio", "_law_pair"] [] (spIs K))
  (g_l_steps : GD P w K mg base (L2.CX P w) 3 "_law_steps" ["_law_pail_here"] [] spSteps)

theorem sc_steps : FnScope ["_law_pail_here", "_law_found", "_law_turn", "_law_way", "_law_pair", "_law_times"] ["_law_pail_here"] (defScope (topS 42)) := ⟨rfl, rfl, rfl, by decide +kernel, rfl, by decide +kernel, by decide +kernel⟩
include g_l_dip g_l_sized in
theorem ok_steps (G : G0 K mg) (F : FP K "_law_steps" "_law_steps" (topS 42) [] f fd) : FnOk P w K mg base (L2.CX P w) 3 f fd ["_law_pail_here"] spSteps := by
  have nd := sc_steps.nd
  refine F.ok sc_steps (fun vs H Q E h => by obtain ⟨_, _, _, rfl, _⟩ := h; rfl) (fun cdv A outer s H vs Q E hr h => ⟨_, pss_cons (ps_set (i := 1) nd rfl (Or.inl rfl) (pe_lst (pa_nil))) (pss_cons (ps_for ((passes_of rfl)) rfl (pi_range1 rfl G.nm.range (pa_cons (pe_int) (pa_nil))) (pg_name (i := 2) nd rfl (Or.inl rfl)) (pss_cons (ps_set (i := 3) nd rfl (Or.inl rfl) (pe_gd g_l_dip (hr.mono (by decide)) rfl (pxE rfl rfl rfl rfl) (pa_cons (pv 0) (pa_cons (pe_int) (pa_nil))))) (pss_cons (ps_set (i := 4) nd rfl (Or.inl rfl) (pe_tup (pa_cons (pe_gd g_l_sized (hr.mono (by decide)) rfl (pxE rfl rfl rfl rfl) (pa_cons (pv 0) (pa_cons (pe_int) (pa_nil)))) (pa_cons (pe_gd g_l_sized (hr.mono (by decide)) rfl (pxE rfl rfl rfl rfl) (pa_cons (pv 0) (pa_cons (pe_int) (pa_nil)))) (pa_nil))))) (pss_cons (ps_if (pt_cmpR op_eq (pv 3) (pe_int) (nomark _)) (pss_one (ps_set (i := 4) nd rfl (Or.inl rfl) (pe_tup (pa_cons (pe_int) (pa_cons (pe_op op_sub (pe_int) (pe_op op_mul (pe_int) (pe_gd g_l_dip (hr.mono (by decide)) rfl (pxE rfl rfl rfl rfl) (pa_cons (pv 0) (pa_cons (pe_int) (pa_nil)))))) (pa_nil)))))) (pss_nil)) (pss_cons (ps_if (PW.pt (pw_and (pt_cmpR op_eq (pv 3) (pe_int) (nomark _)) (pw_and1 (pt_cmpR (op_neD hr.units) (pv 1) (pe_lst (pa_nil)) (nomark _))))) (pss_cons (ps_set (i := 5) nd rfl (Or.inl rfl) (pe_ix ix_tup (pe_tup (pa_cons (pe_un un_neg (pe_int)) (pa_cons (pe_int) (pa_cons (pe_un un_neg (pe_int)) (pa_cons (pe_int) (pa_nil)))))) (pe_gd g_l_dip (hr.mono (by decide)) rfl (pxE rfl rfl rfl rfl) (pa_cons (pv 0) (pa_cons (pe_int) (pa_nil)))) (fun _ _ => rfl))) (pss_one (ps_set (i := 4) nd rfl (Or.inl rfl) (pe_tup (pa_cons (pe_op op_mul (pe_ix ix_tup (pe_ix ix_list (pv 1) (pe_int) (fun _ _ => rfl)) (pe_int) (fun _ _ => rfl)) (pv 5)) (pa_cons (pe_op op_mul (pe_ix ix_tup (pe_ix ix_list (pv 1) (pe_int) (fun _ _ => rfl)) (pe_int) (fun _ _ => rfl)) (pv 5)) (pa_nil))))))) (pss_nil)) (pss_one (ps_expr (pe_bm PySem.F.plainAttrs_list PySem.F.slot_list_append PySem.F.type_list_append mt_append (pv 1) (pa_cons (pe_ifExp (pt_cmpR (op_neD hr.units) (pv 4) (pe_tup (pa_cons (pe_int) (pa_cons (pe_int) (pa_nil)))) (nomark _)) (pv 4) (pe_tup (pa_cons (pe_int) (pa_cons (pv 2) (pa_nil))))) (pa_nil)))))))))) (pss_one (ps_ret (pv 1)))), ?_⟩)
  obtain ⟨a, c, N, rfl, p, hN, q⟩ := h
  walk_at "rd"
  intro l hl
  have p0 := p.ext (Same.new (o := .lst []) hl)
  have hcl : c ≠ l := by
    obtain ⟨_, _, _, _, h2, _⟩ := p
    exact ne_of_none h2 hl
  have m0 : Mk3 H (upd H l (.lst [])) a c l N [] := ⟨⟨upd_same, fun x hx => absurd hx (by simp)⟩, fun x hx => absurd hx (by simp), p0, Same.sb (Same.new hl), hl, hcl⟩
  walk_at "rd"
  refine for_range (lo := 0) (n := 3) (fun i σ H1 => ∃ x2 x3 x4 x5 ts, σ = [some (V.ref a), some (.ref l), x2, x3, x4, x5] ∧ ts.length = i ∧ Mk3 H H1 a c l (N + 10 * i) ts) ⟨_, _, _, _, [], rfl, rfl, m0⟩ ?_ ?_
  · intro i σ H1 hi hP
    obtain ⟨x2, x3, x4, x5, ts, rfl, hlen, m1⟩ := hP
    have p1 := m1.pail
    walk_at "rd"
    intro d1 H2 d10 d11 p2 s2
    have m2 := m1.go p2 s2
    walk_at "rd"
    intro v1 H3 v10 p3 s3
    have m3 := m2.go p3 s3
    walk_at "rd"
    intro v2 H4 v20 p4 s4
    have m4 := m3.go p4 s4
    walk_at "rd"
    intro x hx
    have m5 := m4.ext (Same.new (o := .tup [.int v1, .int v2]) hx)
    have hN' : N + 10 * i ≤ 900000 := by omega
    walk_at "rd"
    apply tail3 (fun y HY => ∃ k j : Int, HY y = some (.tup [.int k, .int j]) ∧ k.natAbs < 2 ^ 50 ∧ j.natAbs < 2 ^ 50 ∧ (ts = [] → k.natAbs < 2 ^ 46 ∧ j.natAbs < 2 ^ 46) ∧ Mk3 H HY a c l (N + 10 * i + 8) ts)
    · intro tail
      refine iteP (fun h1 => ?_) (fun h1 => ?_)
      · have p5 := m5.pail
        walk_at "rd"
        intro d2 H6 d20 d21 p6 s6
        have d21 : d2 < 2 := d21
        have m6 := m5.go p6 s6
        walk_at "rd"
        intro y hy
        have m7 := m6.ext (Same.new (o := .tup [.int 0, .int (1 - 2 * d2)]) hy)
        walk_at "rd"
        have e1 : d1 = 0 := by simpa using h1
        refine iteP (fun h2 => absurd (show d1 = 1 by simpa using h2) (by omega)) (fun h2 => ?_)
        have ey : upd H6 y (.tup [.int 0, .int (1 - 2 * d2)]) y = some (.tup [.int 0, .int (1 - 2 * d2)]) := upd_same
        walk_at "rd"
        revert m7 ey
        obtain ⟨HY, eHY⟩ : ∃ HY, HY = upd H6 y (.tup [.int 0, .int (1 - 2 * d2)]) := ⟨_, rfl⟩
        rw [← eHY]
        intro m7 ey
        obtain ⟨t, et⟩ : ∃ t, t = x5 := ⟨_, rfl⟩
        rw [← et]
        exact tail y HY t ⟨0, 1 - 2 * d2, ey, by decide, by omega, fun _ => ⟨by decide, by omega⟩, m7.mono⟩
      · have nd1 : ¬ d1 = 0 := by simpa using h1
        have base : upd H4 x (.tup [.int v1, .int v2]) x = some (.tup [.int v1, .int v2]) := upd_same
        walk_at "rd"
        refine iteP (fun h2 => ?_) (fun h2 => ?_)
        · walk_at "rd"
          intro l0 hl0
          have m6 := m5.ext (Same.new (o := .lst []) hl0)
          have ex6 := (upd_ne (o := .lst []) (ne_of_none base hl0)).trans base
          obtain ⟨ds, q1, q2, q3⟩ := dp_prs (K := K) (H := upd (upd H4 x (.tup [.int v1, .int v2])) l0 (.lst [])) ts (by omega) fun z hz => let ⟨k, j, e, _⟩ := m6.sts.2 z hz; ⟨k, j, e⟩
          refine ⟨_, _, .lst (SqL.of m6.sts.1) q1, .lst (SqL.of upd_same) .nil, q2, rfl, ?_⟩
          walk_at "rd"
          refine iteP (fun h3 => ?_) (fun h3 => ?_)
          · walk_at "rd"
            intro tt htt
            have m7 := m6.ext (Same.new (o := .tup [.int (-1), .int 2, .int (-3), .int 1]) htt)
            have p7 := m7.pail
            have ex7 := (upd_ne (o := .tup [.int (-1), .int 2, .int (-3), .int 1]) (ne_of_none ex6 htt)).trans ex6
            have et7 : upd (upd (upd H4 x (.tup [.int v1, .int v2])) l0 (.lst [])) tt (.tup [.int (-1), .int 2, .int (-3), .int 1]) tt = some (.tup [.int (-1), .int 2, .int (-3), .int 1]) := upd_same
            have nta := (m7.tupNe et7).1
            walk_at "rd"
            intro d3 H8 d30 d31 p8 s8
            have d31 : d3 < 4 := d31
            have m8 := m7.go p8 s8
            have et8 := s8 _ _ nta et7
            obtain ⟨τ, hτ, bτ⟩ : ∃ τ : Int, atI [V.int (-1), .int 2, .int (-3), .int 1] d3 = some (.int τ) ∧ τ.natAbs ≤ 3 := by
              rcases (show d3 = 0 ∨ d3 = 1 ∨ d3 = 2 ∨ d3 = 3 by omega) with rfl | rfl | rfl | rfl
              · exact ⟨-1, rfl, by decide⟩
              · exact ⟨2, rfl, by decide⟩
              · exact ⟨-3, rfl, by decide⟩
              · exact ⟨1, rfl, by decide⟩
            cases ts with
            | nil =>
              cases ds with
              | nil => cases h3
              | cons _ _ => cases q3
            | cons z r =>
              obtain ⟨k0, j0, ez, b5, b6⟩ := m8.first z rfl
              have el : H8 l = some (.lst (V.ref z :: r.map V.ref)) := m8.sts.1
              have hz0 : atI (V.ref z :: r.map V.ref) 0 = some (V.ref z) := atI_nat (j := 0) rfl
              have c1 : CMul k0 τ := .inr ⟨by omega, by omega⟩
              have c2 : CMul j0 τ := .inr ⟨by omega, by omega⟩
              walk_at "rd"
              intro y hy
              have m9 := m8.ext (Same.new (o := .tup [.int (k0 * τ), .int (j0 * τ)]) hy)
              have bm : ∀ q : Int, q.natAbs < 2 ^ 46 → (q * τ).natAbs < 2 ^ 50 := fun q hq => by
                rw [Int.natAbs_mul]
                have : q.natAbs * τ.natAbs ≤ q.natAbs * 3 := Nat.mul_le_mul_left _ bτ
                omega
              walk_at "rd"
              exact tail y _ (some (.int τ)) ⟨k0 * τ, j0 * τ, upd_same, bm _ b5, bm _ b6, fun z => absurd z (by simp), m9.mono⟩
          · walk_at "rd"
            exact tail x _ x5 ⟨v1, v2, ex6, nb_le v10, nb_le v20, fun _ => ⟨v10, v20⟩, m6.mono⟩
        · walk_at "rd"
          exact tail x _ x5 ⟨v1, v2, base, nb_le v10, nb_le v20, fun _ => ⟨v10, v20⟩, m5.mono⟩
    · intro y HY t hF
      obtain ⟨k, j, ey, b1, b2, b3, m6⟩ := hF
      have hsl : (ts.map V.ref).length < sizeLine := by
        have : 3 < sizeLine := by decide
        rw [List.length_map]
        omega
      refine ⟨.inl ⟨rfl, _, SqL.of m6.sts.1⟩, ?_⟩
      walk_at "rd"
      intro w hw
      have m7 := m6.ext (Same.new (o := .tup [.int 0, .int 0]) hw)
      have ey7 := (upd_ne (o := .tup [.int 0, .int 0]) (ne_of_none ey hw)).trans ey
      refine ⟨_, _, .tup (SqT.of ey7) (.cons (.int k) (.cons (.int j) .nil)), .tup (SqT.of upd_same) (.cons (.int 0) (.cons (.int 0) .nil)), rfl, rfl, ?_⟩
      have el := m7.sts.1
      walk_at "rd"
      refine iteP (fun h1 => ?_) (fun h1 => ?_)
      · rw [eqv_pair] at h1
        have nz : ¬ (k = 0 ∧ j = 0) := fun ⟨a, b⟩ => by subst a; subst b; cases h1
        walk_at "rd"
        refine And.intro ?_ ((m7.push ey7 nz b1 b2 b3).mono)
        simp [hlen]
      · walk_at "rd"
        intro v hv
        have m8 := m7.ext (Same.new (o := .tup [.int 1, .int (0 + (i : Int))]) hv)
        have el := m8.sts.1
        walk_at "rd"
        refine And.intro ?_ ((m8.push (k := 1) (j := 0 + (i : Int)) upd_same (by omega) (by decide) (by omega) (fun _ => ⟨by decide, by omega⟩)).mono)
        simp [hlen]
  · intro σ H1 hP
    obtain ⟨x2, x3, x4, x5, ts, rfl, hlen, m1⟩ := hP
    walk_at "rd"
    exact q l ts H1 hlen m1.sts m1.pail m1.sb
end
end Sp
end
section
set_option Elab.async false
set_option linter.all false
set_option exponentiation.threshold 5000
set_option maxRecDepth 100000
set_option maxHeartbeats 4000000
local macro_rules | `(tactic| walk_at "leaf") => `(tactic| first | rfl | assumption | exact True.intro | exact L2.upd_same | exact L2.ClsV.ty _ | exact L2.ClsV.own _ | decide | exact of_decide_eq_true rfl | exact L2.SqL.of (by assumption) | exact L2.SqL.of L2.upd_same | exact Or.inl (L2.SqL.of L2.upd_same) | exact Or.inl (L2.SqL.of (by assumption)) | exact L2.SqT.of (by assumption) | exact L2.SqT.of L2.upd_same | exact Sp.cmL (by decide) | exact Sp.cmR (by decide) | exact ⟨by decide, by decide, by decide⟩ | exact ⟨by decide, by decide⟩ | omega | fail)
local macro_rules | `(tactic| walk_at "rd1") => `(tactic| first
  | refine Sp.rbR (by assumption) (by assumption) (by assumption) (by assumption) ?_
  | apply Sp.exI
  | (refine And.intro ?lf ?_; (case lf => walk_at "leaf"))
  | fail)
local macro_rules | `(tactic| walk_at "rd") => `(tactic| repeat (walk_at "rd1"))
local macro_rules | `(tactic| walk_at "fR") => `(tactic| (have := (‹Sp.G0 _ _›).R.cl; have := (‹Sp.G0 _ _›).R.no "top" (by simp); have := (‹Sp.G0 _ _›).R.no "bottom" (by simp)))
local macro_rules | `(tactic| walk_at "fS") => `(tactic| (have := (‹Sp.G0 _ _›).S.cl; have := (‹Sp.G0 _ _›).S.no "studs" (by simp); have := (‹Sp.G0 _ _›).S.no "rounds" (by simp); have := (‹Sp.G0 _ _›).S.no "divisor" (by simp); have := (‹Sp.G0 _ _›).S.no "is_round" (by simp)))
local macro_rules | `(tactic| walk_at "fT") => `(tactic| (have := (‹Sp.G0 _ _›).T.cl; have := (‹Sp.G0 _ _›).T.no "turn" (by simp); have := (‹Sp.G0 _ _›).T.no "squared" (by simp); have := (‹Sp.G0 _ _›).T.no "rise" (by simp)))
namespace Sp
open PySem PySem.Spec PyProof.Rows L2
section
variable {P : Program} {w : World} {K : PySem.W.Frag} {mg : Str → Option Value} {base : Heap} {f : Addr} {fd : FuncData}
variable (g_is_integer : GD P w K mg base (L2.CX P w) 1 "is_integer" ["value"] [] (spIsInt K)) (g_sign_of : GD P w K mg base (L2.CX P w) 1 "sign_of" ["number"] [] spSign)
  (g_is_ratio : GD P w K mg base (L2.CX P w) 2 "is_ratio" ["value"] [] (spIsRat K)) (g_at_right : GD P w K mg base (L2.CX P w) 6 "at_right" ["value"] [] (spOf K))
  (g_xBadRatio : GX P w K mg base 1 "BadRatio" "part" (cX K "BadRatio")) (g_xBadStep : GX P w K mg base 1 "BadStep" "part" (cX K "BadStep")) (g_xRound : GX P w K mg base 1 "Round" "part" (cX K "Round")) (g_xBadStem : GX P w K mg base 1 "BadStem" "part" (cX K "BadStem"))
  (g_mRatio : GM P w K mg base (L2.CX P w) 3 "Ratio" (cR K) ["self", "top", "bottom"] [] (spInitR K)) (g_mRatio1 : GM P w K mg base (L2.CX P w) 3 "Ratio" (cR K) ["self", "top", "bottom"] [.int 1] (spInitR K))
  (g_Ratio_of : GS P w K mg base (L2.CX P w) 5 (cR K) "of" (spOf K)) (g_R_compared : GH P w K mg base (L2.CX P w) 7 (cR K) "compared" ["self", "other"] (spCmp K))
variable (g_radd : GO P w K mg base (L2.CX P w) 7 (cR K) .Add (spBinR K (· + ·))) (g_rsub : GO P w K mg base (L2.CX P w) 7 (cR K) .Sub (spBinR K (· - ·))) (g_rmul : GO P w K mg base (L2.CX P w) 7 (cR K) .Mult (spBinR K (· * ·)))
  (g_rabs : GN P w K mg base (L2.CX P w) 5 (cR K) "__abs__" (spAbs K)) (g_req : GN P w K mg base (L2.CX P w) 2 (cR K) "__eq__" (spEqR K)) (g_R_sign : GP P w K mg base (L2.CX P w) 2 (cR K) "sign" (spSgn K)) (g_R_is_below : GH P w K mg base (L2.CX P w) 8 (cR K) "is_below" ["self", "other"] (spBelow K))
variable (g_mStep : GM P w K mg base (L2.CX P w) 3 "Step" (cS K) ["self", "studs", "rounds"] [] (spInitS K)) (g_mStem : GM P w K mg base (L2.CX P w) 8 "Stem" (cT K) ["self", "turn", "squared"] [] (spInitT K))
  (g_need_step : GD P w K mg base (L2.CX P w) 3 "need_step" ["value", "part"] [] (spNeedS K)) (g_need_studs : GD P w K mg base (L2.CX P w) 3 "need_studs" ["step", "part"] [] (spNeedK K)) (g_summed : GD P w K mg base (L2.CX P w) 5 "summed" ["studs", "rounds"] [] (spSummed K))
  (g_cross : GD P w K mg base (L2.CX P w) 4 "cross" ["one", "other"] [] (spCross K)) (g_sadd : GO P w K mg base (L2.CX P w) 6 (cS K) .Add (spAddS K))
  (g_T_product : GH P w K mg base (L2.CX P w) 8 (cT K) "product" ["self", "one", "other"] (spProd K)) (g_T_lean : GH P w K mg base (L2.CX P w) 8 (cT K) "lean" ["self", "step"] (spLean K))
  (g_T_square : GH P w K mg base (L2.CX P w) 9 (cT K) "square" ["self", "step"] (spSq K)) (g_T_is_steeper : GH P w K mg base (L2.CX P w) 9 (cT K) "is_steeper" ["self", "one", "other"] (spSteep K))
variable (g_l_dip : GD P w K mg base (L2.CX P w) 1 "_law_dip" ["_law_pail_here", "_law_many"] [] spDip) (g_l_sized : GD P w K mg base (L2.CX P w) 2 "_law_sized" ["_law_pail_here", "_law_many"] [] spSized)
  (g_l_pail : GD P w K mg base (L2.CX P w) 1 "_law_pail" ["_law_script"] [] (spPail K)) (g_l_post : GD P w K mg base (L2.CX P w) 2 "_law_post" ["_law_pail_here"] [] spPost)
  (g_l_laid : GD P w K mg base (L2.CX P w) 1 "_law_laid" ["_law_post_here", "_law_one", "_law_other"] [] spLaid) (g_l_is : GD P w K mg base (L2.CX P w) 1 "_law_is" ["_law_ratio", "_law_pair"] [] (spIs K))
  (g_l_steps : GD P w K mg base (L2.CX P w) 3 "_law_steps" ["_law_pail_here"] [] spSteps)

theorem takesLen {X : Cx} {W : WX} (t : Takes X W) : Takes X (fun c d σ H => σ.length = X.N.length → W c d σ H) := fun u s' ⟨a, B, sI, pins, σ, H, cls, d, e, I, nb, up, sky, na, os, ag, w⟩ =>
  t u s' ⟨a, B, sI, pins, σ, H, cls, d, e, I, nb, up, sky, na, os, ag, w I.len⟩
/-- what is caught: BadStep, Round, with its field -/
def HErr (K : PySem.W.Frag) (Q : VK) : XK := fun cls d H' =>
  (cls = .ref (cX K "BadStep") ∧ ∃ dd v, d = some dd ∧ H' dd = some (.xd [("part", v)]) ∧ ∀ p, H' p = none → Q (.ref p) (upd H' p (.tup [.str "step", v]))) ∨
  (cls = .ref (cX K "Round") ∧ ∃ dd v, d = some dd ∧ H' dd = some (.xd [("part", v)]) ∧ ∀ p, H' p = none → Q (.ref p) (upd H' p (.tup [.str "round", v])))
/-- what _law_heard makes of the lambda's reading -/
def TTH (K : PySem.W.Frag) : (XK → Hp → VK → Prop) → Hp → VK → Prop := fun tl H Q => ∀ R : VK, (∀ v H1, (∀ p, H1 p = none → Q (.ref p) (upd H1 p (.tup [.str "told", v]))) → R v H1) → tl (HErr K Q) H R
structure GE (K : PySem.W.Frag) (mg : Str → Option Value) : Prop where
  ss : PySem.W.exmOne K (.ref (cX K "BadStep")) (.ref (cX K "BadStep")) = some true
  rs : PySem.W.exmOne K (.ref (cX K "Round")) (.ref (cX K "BadStep")) = some false
  rr : PySem.W.exmOne K (.ref (cX K "Round")) (.ref (cX K "Round")) = some true
  xs : XfC K (cX K "BadStep")
  xr : XfC K (cX K "Round")
  ns : PySem.W.findIn K (.ref (cX K "BadStep")) "part" = some none
  nr : PySem.W.findIn K (.ref (cX K "Round")) "part" = some none
  ms : mg "BadStep" = some (.ref (cX K "BadStep"))
  mr : mg "Round" = some (.ref (cX K "Round"))
theorem sc_heard : FnScope ["_law_ask", "_law_heard_here", "error"] ["_law_ask"] (defScope (topS 45)) := ⟨rfl, rfl, rfl, by decide +kernel, rfl, by decide +kernel, by decide +kernel⟩
theorem heard_gives {X : Cx} {g : Addr} {cdg : Value} {q : Str} (E : GE X.K X.mg) : LamX.GivesTo X ["_law_ask", "_law_heard_here", "error"] "_law_heard" (defScope (topS 45)) g cdg (defBody (topS 45)) "_law_ask" q (TTH X.K) := by
  intro f c' s H Q tl act hc h
  have nd := sc_heard.nd
  refine ⟨_, pss_cons (ps_set (i := 1) nd rfl (Or.inl rfl) pe_non) (pss_cons (ps_try_manyA (X := (cxOf C8.CX0 X.prog X.w X.K X.mg X.base ["_law_ask", "_law_heard_here", "error"] "_law_heard" (defScope (topS 45)) g cdg X.A X.stack s H C8.E0).nox)
      (l := [(.ref (cX X.K "BadStep"), 2, fun a cls d => _), (.ref (cX X.K "Round"), 2, fun a cls d => _)])
      (tb := fun W D σ H => ∃ Ech : XK, (∀ cls d σ' H', Ech cls d H' → σ'.length = 3 → W cls d σ' H') ∧ σ[0]? = some (some (.ref f)) ∧ H c' = some (LamX.CodeO c' q) ∧ tl Ech H (fun v H1 => ([V.str "told", v] : List V).length ≤ sizeLine ∧ ∀ p, H1 p = none → D.nx (σ.set 1 (some (.ref p))) (upd H1 p (.tup [.str "told", v]))))
      rfl rfl nd LamX.takes0 (fun W pn xe tk _ => ?body) (.cons ⟨rfl, rfl, .inl E.ms⟩ rfl rfl (fun a oe cls d pn hz hf => pss_one (ps_set (i := 1) nd rfl (Or.inl rfl) (pe_tup (pa_cons pe_str (pa_cons (pe_xf E.xs E.ns hz hf (pv 2)) pa_nil)))))
        (.cons ⟨rfl, rfl, .inl E.mr⟩ rfl rfl (fun a oe cls d pn hz hf => pss_one (ps_set (i := 1) nd rfl (Or.inl rfl) (pe_tup (pa_cons pe_str (pa_cons (pe_xf E.xr E.nr hz hf (pv 2)) pa_nil))))) .nil))) (pss_one (ps_ret (pv 1)))), ?_⟩
  · refine ⟨fun pins s' σ H' D I h' => ?_⟩
    obtain ⟨Ech, hW, h1, h2, h3⟩ := h'
    exact (pss_one (ps_set (i := 1) nd rfl (Or.inl rfl) (pe_tup (pa_cons pe_str (pa_cons (act (fun c d σ H => σ.length = 3 → W c d σ H) pn xe Ech _ _ (takesLen tk) (fun cls d σ' H' e l => hW cls d σ' H' e l)) pa_nil))))).run pins s' σ H' D I ⟨h1, h2, h3⟩
  · refine ⟨HErr X.K Q, fun cls d σ' H' he hl => ?_, rfl, hc, h _ fun v H1 hh => ⟨by show 2 ≤ sizeLine; decide, fun p hp => ⟨_, rfl, hh p hp⟩⟩⟩
    match σ', hl with
    | [x0, x1, x2], _ =>
      have h2 : 2 ≤ sizeLine := by decide
      rcases he with ⟨rfl, dd, v, rfl, e1, e2⟩ | ⟨rfl, dd, v, rfl, e1, e2⟩
      · refine ⟨true, E.ss, fun _ a na => ?_, fun z => Bool.noConfusion z⟩
        exact ⟨_, rfl, rfl, rfl, dd, _, v, rfl, e1, rfl, h2, fun p hp => ⟨_, rfl, e2 p hp⟩⟩
      · refine ⟨false, E.rs, fun z => Bool.noConfusion z, fun _ => ⟨true, E.rr, fun _ a na => ?_, fun z => Bool.noConfusion z⟩⟩
        exact ⟨_, rfl, rfl, rfl, dd, _, v, rfl, e1, rfl, h2, fun p hp => ⟨_, rfl, e2 p hp⟩⟩
/-- what stands at _law_heard -/
structure GHd (K : PySem.W.Frag) (mg : Str → Option Value) : Prop where
  ex : ∃ (g : Addr) (oc : Value) (od : Option Addr) (dV kV doc pm : Value) (an : Option Addr) (cdv ct : Value) (osl : Array (Option Value)), mg "_law_heard" = some (.ref g) ∧ PySem.W.keepIn K (.ref g) = true ∧
    K.lookup g = some ⟨oc, od, .func (PySem.W.fnOf "_law_heard" "_law_heard" (defArgs (topS 45)) (defBody (topS 45)) (defScope (topS 45)) dV kV doc pm an cdv ct), osl⟩ ∧ PySem.W.codeIn K cdv "_law_heard" = true ∧
    Binds K (PySem.W.fnOf "_law_heard" "_law_heard" (defArgs (topS 45)) (defBody (topS 45)) (defScope (topS 45)) dV kV doc pm an cdv ct) ["_law_ask"] []
theorem GHd.of (F : FP K "_law_heard" "_law_heard" (topS 45) [] f fd) (hm : mg "_law_heard" = some (.ref f)) : GHd K mg := by
  have b := FunD.bindsN (ps := ["_law_ask"]) F fun _ _ _ _ _ _ us hl => match us, hl with | [_], _ => rfl
  obtain ⟨oc, od, dV, kV, doc, pm, an, cdv, ct, osl, rfl, lk, hcd, _, _⟩ := F.ex
  exact ⟨f, oc, od, dV, kV, doc, pm, an, cdv, ct, osl, hm, F.kp, lk, hcd, b⟩
theorem pe_heard {X : Cx} {T : List (Addr × Str)} {c P : Addr} {k : Nat} {params : Arguments} {body : Expr} {scope : Scope} {t : XK → TE} {p lpos pos : Pos} (G : GHd X.K X.mg) (E : GE X.K X.mg) (hg : Gl X "_law_heard")
    (TB : LamX.TabB X.base X.mg c P) (hcode : X.env.code = .ref c) (hmT : (P, X.env.qual ++ "<lambda>") ∈ T) (hu : ∀ p ∈ T, p.1 = P → p.2 = X.env.qual ++ "<lambda>") (hr : Room (k + 2) X.A) (L : LamX.LamS X.env.scope scope) (hdef : defaultsOf params X.env = ([], []))
    (hbind : ∀ (q : Str) (cl : List (Str × Addr)) (pm cv ctv : Value), bindArgs (PySem.W.kla_fn "<lambda>" q params body scope cl pm cv ctv) ⟨[], []⟩ = pure [])
    (hbody : ∀ (A : Around) (outer : List Env) (s : Shared) (H : Hp) (E : XK) (f c' : Addr), Room k (A.deeper (LamX.lamEnv X scope s.heap.objs.size f c')) → PE (LamX.lamCx X A outer s H E scope f c') body (t E)) :
    PE X (.Call (.Name "_law_heard" p) [.Lambda params body scope lpos] [] pos) (LamX.tLam T (TTH X.K) t) := by
  obtain ⟨g, oc, od, dV, kV, doc, pm, an, cdv, ct, osl, hm, hk, lk, hcd, hb⟩ := G.ex
  exact LamX.pe_lamcall (Ng := ["_law_ask", "_law_heard_here", "error"]) hg hm hk lk hcd hb sc_heard rfl (Or.inl rfl) (heard_gives E) TB hcode hmT hu hr L hdef hbind hbody
end
/-- as FunD.ok, the code object named -/
theorem okC {P : Program} {w : World} {K : PySem.W.Frag} {mg : Str → Option Value} {base : Heap} {x qual : Str} {params : Arguments} {body : List Stmt} {scope : Scope} {dvs : List V} {kws : List (Str × V)} {f c : Addr} {fd : FuncData} {CX : CXT} {N ps : List Str} {k : Nat} {sp : Sp}
    (F : FunD K x qual params body scope dvs kws f fd) (hc : fd.code = .ref c) (S : FnScope N ps scope) (len : ∀ vs H Q E, sp vs H Q E → vs.length = ps.length)
    (hbody : ∀ (A : Around) (outer : List Env) (s : Shared) (H : Hp) (vs : List V) (Q : VK) (E : XK), Room k (A.deeper (envOfC qual scope s.heap.objs.size f (.ref c))) → sp vs H Q E →
      ∃ t, PSs (cxOf CX P w K mg base N qual scope f (.ref c) A outer s H E) body t ∧ t { nx := fun _ H' => Q .non H', rt := Q } (L2.start N vs) H) : FnOk P w K mg base CX (k + 1) f fd ps sp := by
  obtain ⟨oc, od, dV, kV, doc, pm, an, cdv, ct, osl, rfl, lk, hcd, _, _⟩ := F.ex
  have e : cdv = .ref c := hc
  subst e
  exact fn_of lk hcd S len fun A outer s H vs Q E hr hsp => hbody A outer s H vs Q E hr hsp
end Sp
end
section
set_option Elab.async false
set_option linter.all false
set_option exponentiation.threshold 5000
set_option maxRecDepth 100000
set_option maxHeartbeats 4000000
local macro_rules | `(tactic| walk_at "leaf") => `(tactic| first | rfl | assumption | exact True.intro | exact L2.upd_same | exact L2.ClsV.ty _ | exact L2.ClsV.own _ | decide | exact of_decide_eq_true rfl | exact L2.SqL.of (by assumption) | exact L2.SqL.of L2.upd_same | exact Or.inl (L2.SqL.of L2.upd_same) | exact Or.inl (L2.SqL.of (by assumption)) | exact L2.SqT.of (by assumption) | exact L2.SqT.of L2.upd_same | exact Sp.cmL (by decide) | exact Sp.cmR (by decide) | exact ⟨by decide, by decide, by decide⟩ | exact ⟨by decide, by decide⟩ | omega | fail)
local macro_rules | `(tactic| walk_at "rd1") => `(tactic| first
  | refine Sp.rbR (by assumption) (by assumption) (by assumption) (by assumption) ?_
  | apply Sp.exI
  | (refine And.intro ?lf ?_; (case lf => walk_at "leaf"))
  | fail)
local macro_rules | `(tactic| walk_at "rd") => `(tactic| repeat (walk_at "rd1"))
local macro_rules | `(tactic| walk_at "fR") => `(tactic| (have := (‹Sp.G0 _ _›).R.cl; have := (‹Sp.G0 _ _›).R.no "top" (by simp); have := (‹Sp.G0 _ _›).R.no "bottom" (by simp)))
local macro_rules | `(tactic| walk_at "fS") => `(tactic| (have := (‹Sp.G0 _ _›).S.cl; have := (‹Sp.G0 _ _›).S.no "studs" (by simp); have := (‹Sp.G0 _ _›).S.no "rounds" (by simp); have := (‹Sp.G0 _ _›).S.no "divisor" (by simp); have := (‹Sp.G0 _ _›).S.no "is_round" (by simp)))
local macro_rules | `(tactic| walk_at "fT") => `(tactic| (have := (‹Sp.G0 _ _›).T.cl; have := (‹Sp.G0 _ _›).T.no "turn" (by simp); have := (‹Sp.G0 _ _›).T.no "squared" (by simp); have := (‹Sp.G0 _ _›).T.no "rise" (by simp)))
namespace Sp
open PySem PySem.Spec PyProof.Rows L2
section
variable {P : Program} {w : World} {K : PySem.W.Frag} {mg : Str → Option Value} {base : Heap} {f : Addr} {fd : FuncData}
variable (g_is_integer : GD P w K mg base (L2.CX P w) 1 "is_integer" ["value"] [] (spIsInt K)) (g_sign_of : GD P w K mg base (L2.CX P w) 1 "sign_of" ["number"] [] spSign)
  (g_is_ratio : GD P w K mg base (L2.CX P w) 2 "is_ratio" ["value"] [] (spIsRat K)) (g_at_right : GD P w K mg base (L2.CX P w) 6 "at_right" ["value"] [] (spOf K))
  (g_xBadRatio : GX P w K mg base 1 "BadRatio" "part" (cX K "BadRatio")) (g_xBadStep : GX P w K mg base 1 "BadStep" "part" (cX K "BadStep")) (g_xRound : GX P w K mg base 1 "Round" "part" (cX K "Round")) (g_xBadStem : GX P w K mg base 1 "BadStem" "part" (cX K "BadStem"))
  (g_mRatio : GM P w K mg base (L2.CX P w) 3 "Ratio" (cR K) ["self", "top", "bottom"] [] (spInitR K)) (g_mRatio1 : GM P w K mg base (L2.CX P w) 3 "Ratio" (cR K) ["self", "top", "bottom"] [.int 1] (spInitR K))
  (g_Ratio_of : GS P w K mg base (L2.CX P w) 5 (cR K) "of" (spOf K)) (g_R_compared : GH P w K mg base (L2.CX P w) 7 (cR K) "compared" ["self", "other"] (spCmp K))
variable (g_radd : GO P w K mg base (L2.CX P w) 7 (cR K) .Add (spBinR K (· + ·))) (g_rsub : GO P w K mg base (L2.CX P w) 7 (cR K) .Sub (spBinR K (· - ·))) (g_rmul : GO P w K mg base (L2.CX P w) 7 (cR K) .Mult (spBinR K (· * ·)))
  (g_rabs : GN P w K mg base (L2.CX P w) 5 (cR K) "__abs__" (spAbs K)) (g_req : GN P w K mg base (L2.CX P w) 2 (cR K) "__eq__" (spEqR K)) (g_R_sign : GP P w K mg base (L2.CX P w) 2 (cR K) "sign" (spSgn K)) (g_R_is_below : GH P w K mg base (L2.CX P w) 8 (cR K) "is_below" ["self", "other"] (spBelow K))
variable (g_mStep : GM P w K mg base (L2.CX P w) 3 "Step" (cS K) ["self", "studs", "rounds"] [] (spInitS K)) (g_mStem : GM P w K mg base (L2.CX P w) 8 "Stem" (cT K) ["self", "turn", "squared"] [] (spInitT K))
  (g_need_step : GD P w K mg base (L2.CX P w) 3 "need_step" ["value", "part"] [] (spNeedS K)) (g_need_studs : GD P w K mg base (L2.CX P w) 3 "need_studs" ["step", "part"] [] (spNeedK K)) (g_summed : GD P w K mg base (L2.CX P w) 5 "summed" ["studs", "rounds"] [] (spSummed K))
  (g_cross : GD P w K mg base (L2.CX P w) 4 "cross" ["one", "other"] [] (spCross K)) (g_sadd : GO P w K mg base (L2.CX P w) 6 (cS K) .Add (spAddS K))
  (g_T_product : GH P w K mg base (L2.CX P w) 8 (cT K) "product" ["self", "one", "other"] (spProd K)) (g_T_lean : GH P w K mg base (L2.CX P w) 8 (cT K) "lean" ["self", "step"] (spLean K))
  (g_T_square : GH P w K mg base (L2.CX P w) 9 (cT K) "square" ["self", "step"] (spSq K)) (g_T_is_steeper : GH P w K mg base (L2.CX P w) 9 (cT K) "is_steeper" ["self", "one", "other"] (spSteep K))
variable (g_l_dip : GD P w K mg base (L2.CX P w) 1 "_law_dip" ["_law_pail_here", "_law_many"] [] spDip) (g_l_sized : GD P w K mg base (L2.CX P w) 2 "_law_sized" ["_law_pail_here", "_law_many"] [] spSized)
  (g_l_pail : GD P w K mg base (L2.CX P w) 1 "_law_pail" ["_law_script"] [] (spPail K)) (g_l_post : GD P w K mg base (L2.CX P w) 2 "_law_post" ["_law_pail_here"] [] spPost)
  (g_l_laid : GD P w K mg base (L2.CX P w) 1 "_law_laid" ["_law_post_here", "_law_one", "_law_other"] [] spLaid) (g_l_is : GD P w K mg base (L2.CX P w) 1 "_law_is" ["_law_ratio", "_law_pair"] [] (spIs K))
  (g_l_steps : GD P w K mg base (L2.CX P w) 3 "_law_steps" ["_law_pail_here"] [] spSteps)

/-! ### o.m(one=.., other=..) -/
def g2 {α : Type} (us ws : List α) : List α := if us.length = 1 ∧ ws.length = 2 then us ++ ws else []
theorem vals_app {vs zs : List V} {us ws : List Value} (r : Vals vs us) (q : Vals zs ws) : Vals (vs ++ zs) (us ++ ws) := by
  induction r with
  | nil => exact q
  | cons h _ ih => exact .cons h ih
def tMethK (C : Addr) (m : Str) (sp : Sp) (E : XK) (ta : TE) (tk : TA) : TE := fun σ H Q => ta σ H fun x H1 => ∃ a dx fs, x = .ref a ∧ H1 a = some (.ins C dx fs) ∧ fs.lookup m = none ∧ tk σ H1 fun zs H2 => sp (g2 [x] zs) H2 Q E
theorem pe_methK {X : Cx} {CX : CXT} {k : Nat} {C f : Addr} {fd : FuncData} {ps ks : List Str} {sp : Sp} {E : XK} {o : Expr} {m : Str} {kws : List Keyword} {apos pos : Pos} {ta : TE} {tk : TA} {pl : Sem Bool} (he : PE X o ta) (c : Cls X.K C) (hm : Meth X.K C m f)
    (F : FnOk X.prog X.w X.K X.mg X.base CX k f fd ps sp) (hr : Room k X.A) (hb : KBinds X.K fd ps ks g2 g2) (hx : Passes CX X E) (hkw : PK X kws tk)
    (ht : eval (.Call (.Attribute o m apos) [] kws pos) X.env = (do
      let ov ← eval o X.env
      standAt apos.atName
      let (f, first) ← holding [ov] (getMethod ov m pl)
      callWith pos f first (backTo pos (starEach [] X.env)) (backToKw pos (keywordEach kws X.env))) := by rfl)
    (hall : (backToKw pos (keywordEach kws X.env)).all (·.1.isSome) = true := by rfl) (hks : (backToKw pos (keywordEach kws X.env)).filterMap (·.1) = ks := by rfl)
    (hpl : ((backTo pos (starEach [] X.env)).any (·.1) || (backToKw pos (keywordEach kws X.env)).any (·.1.isNone)) = false := by rfl) :
    PE X (.Call (.Attribute o m apos) [] kws pos) (tMethK C m sp E ta tk) := by
  refine ⟨fun pins s σ H Q I h => ?_⟩
  refine PySem.W.methodCall_KW (pl := pl) (thn (he.run pins s σ H _ I h) fun u s1 ⟨x, H1, I1, rx, a, dx, fs, ex, ea, l, q⟩ => ?_) ht
  subst ex
  obtain rfl : u = Value.ref a := rx
  refine getmeth_ok I1 ea c hm l ?_
  refine PySem.W.callWith_KW0 (first := [.ref a]) (h₀ := X.base) I.ok.mod.kin hm.kp hall (thn (hkw.run pos pins s1 σ H1 _ I1 q) fun ws s2 ⟨zs, H2, I2, rz, q2⟩ => ⟨I2.kIn, ?_⟩) hpl
  rw [hks]
  exact run_fnk (us := [.ref a]) (vs := [.ref a]) F hr hb hx I2 (.cons rfl .nil) rz q2
theorem kb2 {x qual : Str} {params : Arguments} {body : List Stmt} {scope : Scope} {k1 k2 : Str} {ps : List Str} (F : FunD K x qual params body scope [] [] f fd) (hl : ps.length = 3)
    (h : ∀ (kV doc pm : Value) (an : Option Addr) (cdv ct a u v : Value), bindArgs (PySem.W.fnOf x qual params body scope .none kV doc pm an cdv ct) ⟨[a], [(k1, u), (k2, v)]⟩ = pure (ps.zip [a, u, v])) : KBinds K fd ps [k1, k2] g2 g2 := by
  refine ⟨fun s us ws hK hlen => ?_, fun {vs us zs ws} r q => ?_⟩
  · obtain ⟨oc, od, dV, kV, doc, pm, an, cdv, ct, osl, rfl, lk, hcd, hD, hKw⟩ := F.ex
    rw [hl] at hlen
    unfold g2 at hlen ⊢
    by_cases hc : us.length = 1 ∧ ws.length = 2
    · rw [if_pos hc]
      match us, ws, hc with
      | [a], [u, v], _ =>
        rcases hD with ⟨_, rfl⟩ | ⟨e, _⟩
        · exact .of_eq (h kV doc pm an cdv ct a u v)
        · exact absurd rfl e
    · rw [if_neg hc] at hlen
      cases hlen
  · unfold g2
    rw [r.length, q.length]
    split
    · exact vals_app r q
    · exact .nil
structure GHK (P : Program) (w : World) (K : PySem.W.Frag) (mg : Str → Option Value) (base : Heap) (CX : CXT) (k : Nat) (C : Addr) (m : Str) (ks : List Str) (sp : Sp) : Prop where
  ex : ∃ (f : Addr) (fd : FuncData) (ps : List Str), FnOk P w K mg base CX k f fd ps sp ∧ Meth K C m f ∧ KBinds K fd ps ks g2 g2
theorem pe_ghk {X : Cx} {CX : CXT} {k : Nat} {C : Addr} {ks : List Str} {sp : Sp} {E : XK} {o : Expr} {m : Str} {kws : List Keyword} {apos pos : Pos} {ta : TE} {tk : TA} {pl : Sem Bool} (he : PE X o ta) (c : Cls X.K C) (G : GHK X.prog X.w X.K X.mg X.base CX k C m ks sp) (hr : Room k X.A) (hx : Passes CX X E) (hkw : PK X kws tk)
    (ht : eval (.Call (.Attribute o m apos) [] kws pos) X.env = (do
      let ov ← eval o X.env
      standAt apos.atName
      let (f, first) ← holding [ov] (getMethod ov m pl)
      callWith pos f first (backTo pos (starEach [] X.env)) (backToKw pos (keywordEach kws X.env))) := by rfl)
    (hall : (backToKw pos (keywordEach kws X.env)).all (·.1.isSome) = true := by rfl) (hks : (backToKw pos (keywordEach kws X.env)).filterMap (·.1) = ks := by rfl)
    (hpl : ((backTo pos (starEach [] X.env)).any (·.1) || (backToKw pos (keywordEach kws X.env)).any (·.1.isNone)) = false := by rfl) :
    PE X (.Call (.Attribute o m apos) [] kws pos) (tMethK C m sp E ta tk) := by
  obtain ⟨f, fd, ps, F, hm, hb⟩ := G.ex
  exact pe_methK he c hm F hr hb hx hkw ht hall hks hpl
end
end Sp
end
section
set_option Elab.async false
set_option linter.all false
set_option exponentiation.threshold 5000
set_option maxRecDepth 100000
set_option maxHeartbeats 0
local macro_rules | `(tactic| walk_at "leaf") => `(tactic| first | rfl | assumption | exact True.intro | exact L2.upd_same | exact L2.ClsV.ty _ | exact L2.ClsV.own _ | decide | exact of_decide_eq_true rfl | exact L2.SqL.of (by assumption) | exact L2.SqL.of L2.upd_same | exact Or.inl (L2.SqL.of L2.upd_same) | exact Or.inl (L2.SqL.of (by assumption)) | exact L2.SqT.of (by assumption) | exact L2.SqT.of L2.upd_same | exact Sp.cmL (by decide) | exact Sp.cmR (by decide) | exact ⟨by decide, by decide, by decide⟩ | exact ⟨by decide, by decide⟩ | omega | fail)
local macro_rules | `(tactic| walk_at "rd1") => `(tactic| first
  | refine Sp.rbR (by assumption) (by assumption) (by assumption) (by assumption) ?_
  | apply Sp.exI
  | (refine And.intro ?lf ?_; (case lf => walk_at "leaf"))
  | fail)
local macro_rules | `(tactic| walk_at "rd") => `(tactic| repeat (walk_at "rd1"))
local macro_rules | `(tactic| walk_at "fR") => `(tactic| (have := (‹Sp.G0 _ _›).R.cl; have := (‹Sp.G0 _ _›).R.no "top" (by simp); have := (‹Sp.G0 _ _›).R.no "bottom" (by simp)))
local macro_rules | `(tactic| walk_at "fS") => `(tactic| (have := (‹Sp.G0 _ _›).S.cl; have := (‹Sp.G0 _ _›).S.no "studs" (by simp); have := (‹Sp.G0 _ _›).S.no "rounds" (by simp); have := (‹Sp.G0 _ _›).S.no "divisor" (by simp); have := (‹Sp.G0 _ _›).S.no "is_round" (by simp)))
local macro_rules | `(tactic| walk_at "fT") => `(tactic| (have := (‹Sp.G0 _ _›).T.cl; have := (‹Sp.G0 _ _›).T.no "turn" (by simp); have := (‹Sp.G0 _ _›).T.no "squared" (by simp); have := (‹Sp.G0 _ _›).T.no "rise" (by simp)))
namespace Sp
open PySem PySem.Spec PyProof.Rows L2
section
variable {P : Program} {w : World} {K : PySem.W.Frag} {mg : Str → Option Value} {base : Heap} {f : Addr} {fd : FuncData}
variable (g_is_integer : GD P w K mg base (L2.CX P w) 1 "is_integer" ["value"] [] (spIsInt K)) (g_sign_of : GD P w K mg base (L2.CX P w) 1 "sign_of" ["number"] [] spSign)
  (g_is_ratio : GD P w K mg base (L2.CX P w) 2 "is_ratio" ["value"] [] (spIsRat K)) (g_at_right : GD P w K mg base (L2.CX P w) 6 "at_right" ["value"] [] (spOf K))
  (g_xBadRatio : GX P w K mg base 1 "BadRatio" "part" (cX K "BadRatio")) (g_xBadStep : GX P w K mg base 1 "BadStep" "part" (cX K "BadStep")) (g_xRound : GX P w K mg base 1 "Round" "part" (cX K "Round")) (g_xBadStem : GX P w K mg base 1 "BadStem" "part" (cX K "BadStem"))
  (g_mRatio : GM P w K mg base (L2.CX P w) 3 "Ratio" (cR K) ["self", "top", "bottom"] [] (spInitR K)) (g_mRatio1 : GM P w K mg base (L2.CX P w) 3 "Ratio" (cR K) ["self", "top", "bottom"] [.int 1] (spInitR K))
  (g_Ratio_of : GS P w K mg base (L2.CX P w) 5 (cR K) "of" (spOf K)) (g_R_compared : GH P w K mg base (L2.CX P w) 7 (cR K) "compared" ["self", "other"] (spCmp K))
variable (g_radd : GO P w K mg base (L2.CX P w) 7 (cR K) .Add (spBinR K (· + ·))) (g_rsub : GO P w K mg base (L2.CX P w) 7 (cR K) .Sub (spBinR K (· - ·))) (g_rmul : GO P w K mg base (L2.CX P w) 7 (cR K) .Mult (spBinR K (· * ·)))
  (g_rabs : GN P w K mg base (L2.CX P w) 5 (cR K) "__abs__" (spAbs K)) (g_req : GN P w K mg base (L2.CX P w) 2 (cR K) "__eq__" (spEqR K)) (g_R_sign : GP P w K mg base (L2.CX P w) 2 (cR K) "sign" (spSgn K)) (g_R_is_below : GH P w K mg base (L2.CX P w) 8 (cR K) "is_below" ["self", "other"] (spBelow K))
variable (g_mStep : GM P w K mg base (L2.CX P w) 3 "Step" (cS K) ["self", "studs", "rounds"] [] (spInitS K)) (g_mStem : GM P w K mg base (L2.CX P w) 8 "Stem" (cT K) ["self", "turn", "squared"] [] (spInitT K))
  (g_need_step : GD P w K mg base (L2.CX P w) 3 "need_step" ["value", "part"] [] (spNeedS K)) (g_need_studs : GD P w K mg base (L2.CX P w) 3 "need_studs" ["step", "part"] [] (spNeedK K)) (g_summed : GD P w K mg base (L2.CX P w) 5 "summed" ["studs", "rounds"] [] (spSummed K))
  (g_cross : GD P w K mg base (L2.CX P w) 4 "cross" ["one", "other"] [] (spCross K)) (g_sadd : GO P w K mg base (L2.CX P w) 6 (cS K) .Add (spAddS K))
  (g_T_product : GH P w K mg base (L2.CX P w) 8 (cT K) "product" ["self", "one", "other"] (spProd K)) (g_T_lean : GH P w K mg base (L2.CX P w) 8 (cT K) "lean" ["self", "step"] (spLean K))
  (g_T_square : GH P w K mg base (L2.CX P w) 9 (cT K) "square" ["self", "step"] (spSq K)) (g_T_is_steeper : GH P w K mg base (L2.CX P w) 9 (cT K) "is_steeper" ["self", "one", "other"] (spSteep K))
variable (g_l_dip : GD P w K mg base (L2.CX P w) 1 "_law_dip" ["_law_pail_here", "_law_many"] [] spDip) (g_l_sized : GD P w K mg base (L2.CX P w) 2 "_law_sized" ["_law_pail_here", "_law_many"] [] spSized)
  (g_l_pail : GD P w K mg base (L2.CX P w) 1 "_law_pail" ["_law_script"] [] (spPail K)) (g_l_post : GD P w K mg base (L2.CX P w) 2 "_law_post" ["_law_pail_here"] [] spPost)
  (g_l_laid : GD P w K mg base (L2.CX P w) 1 "_law_laid" ["_law_post_here", "_law_one", "_law_other"] [] spLaid) (g_l_is : GD P w K mg base (L2.CX P w) 1 "_law_is" ["_law_ratio", "_law_pair"] [] (spIs K))
  (g_l_steps : GD P w K mg base (L2.CX P w) 3 "_law_steps" ["_law_pail_here"] [] spSteps)

variable (g_T_product_k : GHK P w K mg base (L2.CX P w) 8 (cT K) "product" ["one", "other"] (spProd K))
structure Al (K : PySem.W.Frag) (H : Hp) (p st q1 q2 pa pb : Addr) (t b r u k j l i : Int) : Prop where
  hp : H p = some (.tup [.int t, .int b, .int r, .int u])
  st : ST K H st (tD t b) (tF t b r u)
  a : SS H K (.ref pa) k j
  b : SS H K (.ref pb) l i
  q1 : Pr H q1 k j
  q2 : Pr H q2 l i
theorem Al.ext {H H' : Hp} {p st q1 q2 pa pb : Addr} {t b r u k j l i : Int} (h : Al K H p st q1 q2 pa pb t b r u k j l i) (e : Same H H') : Al K H' p st q1 q2 pa pb t b r u k j l i :=
  ⟨e _ _ h.hp, h.st.ext e, h.a.ext e, h.b.ext e, ⟨e _ _ h.q1.1, h.q1.2⟩, ⟨e _ _ h.q2.1, h.q2.2⟩⟩
theorem szP {D F : Rat} {k j l i : Int} (z1 : Sz D 40) (z2 : Sz F 80) (b1 : k.natAbs < 2 ^ 52) (b2 : j.natAbs < 2 ^ 52) (b3 : l.natAbs < 2 ^ 52) (b4 : i.natAbs < 2 ^ 52) : Sz (prod D F k j l i) 440 :=
  sz_add (m := 333) (n := 104) (sz_sub (m := 184) (n := 147) (sz_mul (k := 184) z2 (sz_int (nb_mul b1 b3))) (sz_mul (k := 147) z1 (sz_int (nb_add (n := 106) (nb_mul b1 b4) (nb_mul b3 b2))))) (sz_int (nb_mul b2 b4))
theorem laid_nb {t b r u k j l i : Int} (po : Po t b r u) (b1 : k.natAbs < 2 ^ 52) (b2 : j.natAbs < 2 ^ 52) (b3 : l.natAbs < 2 ^ 52) (b4 : i.natAbs < 2 ^ 52) : (laidA t b r u k j l i).natAbs < 2 ^ 200 :=
  nb_add (a := 170) (nb_mul (nb_mul (nb_sub (n := 82) (nb_mul b1 po.t) (nb_mul b2 po.nb)) (nb_sub (n := 82) (nb_mul b3 po.t) (nb_mul b4 po.nb))) po.nu) (nb_mul (nb_mul (nb_mul (nb_mul b1 b3) po.nr) po.nb) po.nb)
theorem exR {H H' : Hp} {p : Addr} {q : Rat} (h : IsR K H p q) (e : LamX.ExtN H H') : IsR K H' p q := let ⟨dx, h⟩ := h; ⟨dx, e _ _ h (fun _ z => by cases z)⟩
theorem exS {H H' : Hp} {p : Addr} {k j : Int} (h : IsS K H p k j) (e : LamX.ExtN H H') : IsS K H' p k j := let ⟨dx, h⟩ := h; ⟨dx, e _ _ h (fun _ z => by cases z)⟩
theorem exT {H H' : Hp} {p : Addr} {D F : Rat} (h : IsT K H p D F) (e : LamX.ExtN H H') : IsT K H' p D F := let ⟨dx, a, b, c, h, h1, h2, h3⟩ := h; ⟨dx, a, b, c, e _ _ h (fun _ z => by cases z), exR h1 e, exR h2 e, exR h3 e⟩
theorem Al.extN {H H' : Hp} {p st q1 q2 pa pb : Addr} {t b r u k j l i : Int} (h : Al K H p st q1 q2 pa pb t b r u k j l i) (e : LamX.ExtN H H') : Al K H' p st q1 q2 pa pb t b r u k j l i :=
  ⟨e _ _ h.hp (fun _ z => by cases z), ⟨exT h.st.1 e, h.st.2⟩, let ⟨p, a, b, c⟩ := h.a; ⟨p, a, exS b e, c⟩, let ⟨p, a, b, c⟩ := h.b; ⟨p, a, exS b e, c⟩, ⟨e _ _ h.q1.1 (fun _ z => by cases z), h.q1.2⟩, ⟨e _ _ h.q2.1 (fun _ z => by cases z), h.q2.2⟩⟩
theorem sh1 : SeqAt.shaped (.tuple [.str "round", .str "one"]) = true := by decide +kernel
theorem sh2 : SeqAt.shaped (.tuple [.str "round", .str "other"]) = true := by decide +kernel
theorem sh3 (x : Bool) : SeqAt.shaped (.tuple [.str "told", .bool x]) = true := by cases x <;> decide +kernel
theorem eqr {d : PyData} (h : SeqAt.shaped d = true) : PyData.eqv d d = true := SeqAt.eqv_refl d (SeqAt.canLay_of_shaped h)
abbrev qPr : Str := (("_law_pair_right" : Str) ++ ".<locals>.") ++ "<lambda>"
def spPairR (K : PySem.W.Frag) (T : List (Addr × Str)) : Sp := fun vs H Q _ => ∃ (p st q1 q2 : Addr) (t b r u k j l i : Int), vs = [.ref p, .ref st, .ref q1, .ref q2] ∧ Po t b r u ∧ H p = some (.tup [.int t, .int b, .int r, .int u]) ∧ IsT K H st (tD t b) (tF t b r u) ∧
  St2 H q1 k j ∧ St2 H q2 l i ∧ LamX.Tabs T H ∧ ∀ H', LamX.ExtN H H' → LamX.Tabs T H' → Q (.bl true) H'
theorem sc_pairR : FnScope ["_law_post_here", "_law_stem", "_law_one", "_law_other", "_law_top", "_law_bottom", "_law_rise", "_law_under", "_law_due", "_law_apart", "_law_whole", "_law_mine", "_law_its", "_law_here", "_law_there"] ["_law_post_here", "_law_stem", "_law_one", "_law_other"] (defScope (topS 46)) := ⟨rfl, rfl, rfl, by decide +kernel, rfl, by decide +kernel, by decide +kernel⟩
include g_T_is_steeper g_T_lean g_T_product g_T_product_k g_T_square g_cross g_l_is g_l_laid g_mStep g_req g_rmul g_rsub g_sadd in
theorem ok_pairR (hnf : PySem.W.notFirst K (cR K) (.ref (cR K)) = true) {c Pt : Addr} {T : List (Addr × Str)} (G : G0 K mg) (gEr : GE K mg) (gHd : GHd K mg) (hTB : LamX.TabB base mg c Pt) (hmT : (Pt, qPr) ∈ T) (huT : ∀ p ∈ T, p.1 = Pt → p.2 = qPr) (hfc : fd.code = .ref c)
    (F : FP K "_law_pair_right" "_law_pair_right" (topS 46) [] f fd) : FnOk P w K mg base (L2.CX P w) 12 f fd ["_law_post_here", "_law_stem", "_law_one", "_law_other"] (spPairR K T) := by
  have nd := sc_pairR.nd
  refine okC F hfc sc_pairR (fun vs H Q E h => by obtain ⟨_, _, _, _, _, _, _, _, _, _, _, _, rfl, _⟩ := h; rfl) (fun A outer s H vs Q E hr h => ⟨_, pss_cons (ps_asg (pv 0) (pg_tup rfl (pgs_cons (pg_name (i := 4) nd rfl (Or.inl rfl)) (pgs_cons (pg_name (i := 5) nd rfl (Or.inl rfl)) (pgs_cons (pg_name (i := 6) nd rfl (Or.inl rfl)) (pgs_cons (pg_name (i := 7) nd rfl (Or.inl rfl)) (pgs_nil))))))) (pss_cons (ps_asg (pe_tup (pa_cons (pe_gm g_mStep (hr.mono (by decide)) rfl (pxE rfl rfl rfl rfl) (pa_cons (pe_ix ix_tup (pv 2) (pe_int) (fun _ _ => rfl)) (pa_cons (pe_ix ix_tup (pv 2) (pe_int) (fun _ _ => rfl)) (pa_nil)))) (pa_cons (pe_gm g_mStep (hr.mono (by decide)) rfl (pxE rfl rfl rfl rfl) (pa_cons (pe_ix ix_tup (pv 3) (pe_int) (fun _ _ => rfl)) (pa_cons (pe_ix ix_tup (pv 3) (pe_int) (fun _ _ => rfl)) (pa_nil)))) (pa_nil)))) (pg_tup rfl (pgs_cons (pg_name (i := 13) nd rfl (Or.inr rfl)) (pgs_cons (pg_name (i := 14) nd rfl (Or.inr rfl)) (pgs_nil))))) (pss_cons (ps_set (i := 8) nd rfl (Or.inl rfl) (pe_gd g_l_laid (hr.mono (by decide)) rfl (pxE rfl rfl rfl rfl) (pa_cons (pv 0) (pa_cons (pv 2) (pa_cons (pv 3) (pa_nil)))))) (pss_cons (ps_if (PW.pt (pw_or (pt_not (pt_val (pe_gd g_l_is (hr.mono (by decide)) rfl (pxE rfl rfl rfl rfl) (pa_cons (pe_gh (pv 1) G.T.cl g_T_product (hr.mono (by decide)) (pxE rfl rfl rfl rfl) (pa_cons (pv 13) (pa_cons (pv 14) (pa_nil)))) (pa_cons (pv 8) (pa_nil)))))) (pw_or1 (pt_not (pt_val (pe_gd g_l_is (hr.mono (by decide)) rfl (pxE rfl rfl rfl rfl) (pa_cons (pe_ghk (pv 1) G.T.cl g_T_product_k (hr.mono (by decide)) (pxE rfl rfl rfl rfl) (pk_cons (pv 14) (pk_cons (pv 13) (pk_nil)))) (pa_cons (pv 8) (pa_nil))))))))) (pss_one (ps_ret (pe_bl))) (pss_nil)) (pss_cons (ps_if (pt_not (pt_val (pe_gd g_l_is (hr.mono (by decide)) rfl (pxE rfl rfl rfl rfl) (pa_cons (pe_gh (pv 1) G.T.cl g_T_lean (hr.mono (by decide)) (pxE rfl rfl rfl rfl) (pa_cons (pv 13) (pa_nil))) (pa_cons (pe_tup (pa_cons (pe_op op_sub (pe_op op_mulB (pe_ix ix_tup (pv 2) (pe_int) (fun _ _ => rfl)) (pv 4)) (pe_op op_mulB (pe_ix ix_tup (pv 2) (pe_int) (fun _ _ => rfl)) (pv 5))) (pa_cons (pv 5) (pa_nil)))) (pa_nil)))))) (pss_one (ps_ret (pe_bl))) (pss_nil)) (pss_cons (ps_if (pt_not (pt_val (pe_gd g_l_is (hr.mono (by decide)) rfl (pxE rfl rfl rfl rfl) (pa_cons (pe_gh (pv 1) G.T.cl g_T_square (hr.mono (by decide)) (pxE rfl rfl rfl rfl) (pa_cons (pv 13) (pa_nil))) (pa_cons (pe_gd g_l_laid (hr.mono (by decide)) rfl (pxE rfl rfl rfl rfl) (pa_cons (pv 0) (pa_cons (pv 2) (pa_cons (pv 2) (pa_nil))))) (pa_nil)))))) (pss_one (ps_ret (pe_bl))) (pss_nil)) (pss_cons (ps_set (i := 9) nd rfl (Or.inl rfl) (pe_op (op_go g_rsub (hr.mono (by decide)) (pxE rfl rfl rfl rfl)) (pe_op (op_go g_rmul (hr.mono (by decide)) (pxE rfl rfl rfl rfl)) (pe_gh (pv 1) G.T.cl g_T_square (hr.mono (by decide)) (pxE rfl rfl rfl rfl) (pa_cons (pv 13) (pa_nil))) (pe_gh (pv 1) G.T.cl g_T_square (hr.mono (by decide)) (pxE rfl rfl rfl rfl) (pa_cons (pv 14) (pa_nil)))) (pe_op (op_go g_rmul (hr.mono (by decide)) (pxE rfl rfl rfl rfl)) (pe_gh (pv 1) G.T.cl g_T_product (hr.mono (by decide)) (pxE rfl rfl rfl rfl) (pa_cons (pv 13) (pa_cons (pv 14) (pa_nil)))) (pe_gh (pv 1) G.T.cl g_T_product (hr.mono (by decide)) (pxE rfl rfl rfl rfl) (pa_cons (pv 13) (pa_cons (pv 14) (pa_nil))))))) (pss_cons (ps_if (pt_not (pt_cmpR (op_eqGo g_req (hr.mono (by decide)) (pxE rfl rfl rfl rfl)) (pv 9) (pe_op (op_go g_rmul (hr.mono (by decide)) (pxE rfl rfl rfl rfl)) (pe_fld (pv 1) rfl) (pe_op op_mulB (pe_gd g_cross (hr.mono (by decide)) rfl (pxE rfl rfl rfl rfl) (pa_cons (pv 13) (pa_cons (pv 14) (pa_nil)))) (pe_gd g_cross (hr.mono (by decide)) rfl (pxE rfl rfl rfl rfl) (pa_cons (pv 13) (pa_cons (pv 14) (pa_nil)))))) (nomark _))) (pss_one (ps_ret (pe_bl))) (pss_nil)) (pss_cons (ps_set (i := 10) nd rfl (Or.inl rfl) (pe_tup (pa_cons (pe_op op_add (pe_ix ix_tup (pv 2) (pe_int) (fun _ _ => rfl)) (pe_ix ix_tup (pv 3) (pe_int) (fun _ _ => rfl))) (pa_cons (pe_op op_add (pe_ix ix_tup (pv 2) (pe_int) (fun _ _ => rfl)) (pe_ix ix_tup (pv 3) (pe_int) (fun _ _ => rfl))) (pa_nil))))) (pss_cons (ps_if (PW.pt (pw_and (pt_cmpR (op_neD hr.units) (pv 10) (pe_tup (pa_cons (pe_int) (pa_cons (pe_int) (pa_nil)))) (nomark _)) (pw_and1 (pt_not (pt_val (pe_gd g_l_is (hr.mono (by decide)) rfl (pxE rfl rfl rfl rfl) (pa_cons (pe_gh (pv 1) G.T.cl g_T_square (hr.mono (by decide)) (pxE rfl rfl rfl rfl) (pa_cons (pe_op (op_go g_sadd (hr.mono (by decide)) (pxE rfl rfl rfl rfl)) (pv 13) (pv 14)) (pa_nil))) (pa_cons (pe_gd g_l_laid (hr.mono (by decide)) rfl (pxE rfl rfl rfl rfl) (pa_cons (pv 0) (pa_cons (pv 10) (pa_cons (pv 10) (pa_nil))))) (pa_nil))))))))) (pss_one (ps_ret (pe_bl))) (pss_nil)) (pss_cons (ps_par (i := 11) (j := 12) rfl nd rfl rfl (by decide) rfl rfl (pa_cons (pe_op op_mulB (pe_op op_sub (pe_op op_mulB (pe_ix ix_tup (pv 2) (pe_int) (fun _ _ => rfl)) (pv 4)) (pe_op op_mulB (pe_ix ix_tup (pv 2) (pe_int) (fun _ _ => rfl)) (pv 5))) (pe_ix ix_tup (pv 3) (pe_int) (fun _ _ => rfl))) (pa_cons (pe_op op_mulB (pe_op op_sub (pe_op op_mulB (pe_ix ix_tup (pv 3) (pe_int) (fun _ _ => rfl)) (pv 4)) (pe_op op_mulB (pe_ix ix_tup (pv 3) (pe_int) (fun _ _ => rfl)) (pv 5))) (pe_ix ix_tup (pv 2) (pe_int) (fun _ _ => rfl))) pa_nil)) rfl) (pss_cons (ps_set (i := 8) nd rfl (Or.inl rfl) (pe_tup (pa_cons (pe_str) (pa_cons (pe_cmpR op_lt (pe_callB call_abs rfl G.nm.abs (by decide +kernel) (pa_cons (pv 11) (pa_nil))) (pe_callB call_abs rfl G.nm.abs (by decide +kernel) (pa_cons (pv 12) (pa_nil))) (nomark _)) (pa_nil))))) (pss_cons (ps_if (PW.pt (pw_or (pt_cmpR op_eq (pe_ix ix_tup (pv 2) (pe_int) (fun _ _ => rfl)) (pe_int) (nomark _)) (pw_or1 (pt_cmpR op_eq (pe_ix ix_tup (pv 3) (pe_int) (fun _ _ => rfl)) (pe_int) (nomark _))))) (pss_one (ps_set (i := 8) nd rfl (Or.inl rfl) (pe_tup (pa_cons (pe_str) (pa_cons (pe_ifExp (pt_cmpR op_eq (pe_ix ix_tup (pv 2) (pe_int) (fun _ _ => rfl)) (pe_int) (nomark _)) (pe_str) (pe_str)) (pa_nil)))))) (pss_nil)) (pss_one (ps_ret (pe_cmpR (op_eqD hr.units) (pe_heard (k := 9) gHd gEr rfl hTB rfl hmT huT (hr.mono (by decide)) (LamX.lamS_by (sc := defScope (topS 46)) (by decide +kernel)) rfl (fun _ _ _ _ _ => rfl) (fun _ _ _ _ _ _ _ hr => pe_gh (pv 1) G.T.cl g_T_is_steeper (hr.mono (by decide)) (pxE rfl rfl rfl rfl) (pa_cons (pv 13) (pa_cons (pv 14) (pa_nil))))) (pv 8) (nomark _)))))))))))))))), ?_⟩)
  obtain ⟨p, st, q1, q2, t, b, r, u, k, j, l, i, rfl, po, hp, hst, h1, h2, hT, q⟩ := h
  obtain ⟨e1, nz1, b1, b2⟩ := id h1
  obtain ⟨e2, nz2, b3, b4⟩ := id h2
  walk_at "rd"
  apply makeS2 nz1
  intro pa H1 s1 _ i1
  have e2 := s1 _ _ e2
  walk_at "rd"
  apply makeS2 nz2
  intro pb H2 s2 _ i2
  have s12 := s1.trans s2
  have i1 := i1.ext s2
  walk_at "rd"
  have al2 : Al K H2 p st q1 q2 pa pb t b r u k j l i := ⟨s12 _ _ hp, ⟨hst.ext s12, po.szD, po.szF⟩, ⟨_, rfl, i1, nb_le b1, nb_le b2⟩, ⟨_, rfl, i2, nb_le b3, nb_le b4⟩, ⟨s2 _ _ (s1 _ _ e1), nb_le b1, nb_le b2⟩, ⟨s2 _ _ e2, nb_le b3, nb_le b4⟩⟩
  intro z1 hz1
  have al3 := al2.ext (Same.new (o := .tup [.ref pa, .ref pb]) hz1)
  have s3 := s12.trans (Same.new (o := .tup [.ref pa, .ref pb]) hz1)
  have lB := po.lB
  obtain ⟨hp3, st3, sa3, sb3, p13, p23⟩ := id al3
  walk_at "rd"
  intro due H4 s4 hdue
  have al4 := al3.ext s4
  have s4 := s3.trans s4
  obtain ⟨hp4, st4, sa4, sb4, p14, p24⟩ := id al4
  obtain ⟨⟨_, _, _, _, hraw, _⟩, _⟩ := id st4
  walk_at "fT"
  have zA : (laidA t b r u k j l i).natAbs < 2 ^ 1900 := nb_le (laid_nb po (nb_le b1) (nb_le b2) (nb_le b3) (nb_le b4))
  have zB : (laidB b u).natAbs < 2 ^ 1900 := nb_le po.n2
  walk_at "rd"
  refine .inl ⟨_, _, _, _, sa4, sb4, fun x1 H5 s5 r5 => ?_⟩
  have hdue5 := s5 _ _ hdue
  have eq5 := po.prod_eq (k := k) (j := j) (l := l) (i := i)
  have sz5 : Sz (prod (tD t b) (tF t b r u) k j l i) 1900 := (szP po.szD po.szF (nb_le b1) (nb_le b2) (nb_le b3) (nb_le b4)).mono
  have al5 := al4.ext s5
  obtain ⟨hp5, st5, sa5, sb5, p15, p25⟩ := id al5
  obtain ⟨p15r, _⟩ := id p15
  obtain ⟨p25r, _⟩ := id p25
  obtain ⟨⟨_, _, _, _, hraw5, _⟩, _⟩ := id st5
  have s5 := s4.trans s5
  walk_at "rd"
  refine .inl ⟨_, _, _, _, sb5, sa5, fun x2 H6 s6 r6 => ?_⟩
  have hdue6 := s6 _ _ hdue5
  have eq6 := po.prod_sw (k := k) (j := j) (l := l) (i := i)
  have sz6 : Sz (prod (tD t b) (tF t b r u) l i k j) 1900 := (szP po.szD po.szF (nb_le b3) (nb_le b4) (nb_le b1) (nb_le b2)).mono
  have al6 := al5.ext s6
  obtain ⟨hp6, st6, sa6, sb6, p16, p26⟩ := id al6
  obtain ⟨p16r, _⟩ := id p16
  obtain ⟨p26r, _⟩ := id p26
  obtain ⟨⟨_, _, _, _, hraw6, _⟩, _⟩ := id st6
  have s6 := s5.trans s6
  walk_at "rd"
  refine .inl ⟨_, _, sa6, fun x3 H7 s7 r7 => ?_⟩
  have al7 := al6.ext s7
  obtain ⟨hp7, st7, sa7, sb7, p17, p27⟩ := id al7
  obtain ⟨p17r, _⟩ := id p17
  obtain ⟨p27r, _⟩ := id p27
  obtain ⟨⟨_, _, _, _, hraw7, _⟩, _⟩ := id st7
  have s7 := s6.trans s7
  have c1 : CMulB k t := cm b1 po.t
  have c2 : CMulB j b := cm b2 po.nb
  walk_at "rd"
  intro z2 hz2
  have al8 := al7.ext (Same.new (o := .tup [.int (k * t - j * b), .int b]) hz2)
  obtain ⟨hp8, st8, sa8, sb8, p18, p28⟩ := id al8
  obtain ⟨p18r, _⟩ := id p18
  obtain ⟨p28r, _⟩ := id p28
  obtain ⟨⟨_, _, _, _, hraw8, _⟩, _⟩ := id st8
  have s8 := s7.trans (Same.new (o := .tup [.int (k * t - j * b), .int b]) hz2)
  have r8 := r7.ext (Same.new (o := .tup [.int (k * t - j * b), .int b]) hz2)
  have hb0 : b ≠ 0 := by have := po.b0; omega
  have eq8 := po.lean_eq (k := k) (j := j)
  have zb : b.natAbs < 2 ^ 1900 := nb_le po.nb
  have zk : (k * t - j * b).natAbs < 2 ^ 1900 := nb_le (nb_sub (n := 82) (nb_mul b1 po.t) (nb_mul b2 po.nb))
  have sz8 : Sz (lean (tD t b) k j) 1900 := (sz_sub (k := 145) (sz_mul (k := 92) po.szD (sz_int (nb_le b1 : k.natAbs < 2 ^ 52))) (sz_int (nb_le b2 : j.natAbs < 2 ^ 52))).mono
  walk_at "rd"
  refine .inl ⟨_, _, sa8, fun x4 H9 s9 r9 => ?_⟩
  have al9 := al8.ext s9
  obtain ⟨hp9, st9, sa9, sb9, p19, p29⟩ := id al9
  obtain ⟨p19r, _⟩ := id p19
  obtain ⟨p29r, _⟩ := id p29
  obtain ⟨⟨_, _, _, _, hraw9, _⟩, _⟩ := id st9
  have s9 := s8.trans s9
  walk_at "rd"
  intro due2 H10 s10 hdue2
  have al10 := al9.ext s10
  obtain ⟨hp10, st10, sa10, sb10, p110, p210⟩ := id al10
  obtain ⟨p110r, _⟩ := id p110
  obtain ⟨p210r, _⟩ := id p210
  obtain ⟨⟨_, _, _, _, hraw10, _⟩, _⟩ := id st10
  have r10 := r9.ext s10
  have s10 := s9.trans s10
  have eq10 := po.prod_eq (k := k) (j := j) (l := k) (i := j)
  have sz10 : Sz (prod (tD t b) (tF t b r u) k j k j) 1900 := (szP po.szD po.szF (nb_le b1) (nb_le b2) (nb_le b1) (nb_le b2)).mono
  have zA2 : (laidA t b r u k j k j).natAbs < 2 ^ 1900 := nb_le (laid_nb po (nb_le b1) (nb_le b2) (nb_le b1) (nb_le b2))
  walk_at "rd"
  refine .inl ⟨_, _, sa10, fun x5 H11 s11 r11 => ?_⟩
  have al11 := al10.ext s11
  obtain ⟨hp11, st11, sa11, sb11, p111, p211⟩ := id al11
  obtain ⟨p111r, _⟩ := id p111
  obtain ⟨p211r, _⟩ := id p211
  obtain ⟨⟨_, _, _, _, hraw11, _⟩, _⟩ := id st11
  have s11 := s10.trans s11
  walk_at "rd"
  refine .inl ⟨_, _, sb11, fun x6 H12 s12' r12 => ?_⟩
  have al12 := al11.ext s12'
  obtain ⟨hp12, st12, sa12, sb12, p112, p212⟩ := id al12
  obtain ⟨p112r, _⟩ := id p112
  obtain ⟨p212r, _⟩ := id p212
  obtain ⟨⟨_, _, _, _, hraw12, _⟩, _⟩ := id st12
  have r12' := r11.ext s12'
  have s12' := s11.trans s12'
  have sz12 : Sz (prod (tD t b) (tF t b r u) l i l i) 1900 := (szP po.szD po.szF (nb_le b3) (nb_le b4) (nb_le b3) (nb_le b4)).mono
  have rv12 := RV.mk r12
  walk_at "rd"
  intro x7 H13 s13 r13
  have al13 := al12.ext s13
  obtain ⟨hp13, st13, sa13, sb13, p113, p213⟩ := id al13
  obtain ⟨p113r, _⟩ := id p113
  obtain ⟨p213r, _⟩ := id p213
  obtain ⟨⟨_, _, _, _, hraw13, _⟩, _⟩ := id st13
  have s13 := s12'.trans s13
  walk_at "rd"
  refine .inl ⟨_, _, _, _, sa13, sb13, fun x8 H14 s14 r14 => ?_⟩
  have al14 := al13.ext s14
  obtain ⟨hp14, st14, sa14, sb14, p114, p214⟩ := id al14
  obtain ⟨p114r, _⟩ := id p114
  obtain ⟨p214r, _⟩ := id p214
  obtain ⟨⟨_, _, _, _, hraw14, _⟩, _⟩ := id st14
  have s14' := s13.trans s14
  walk_at "rd"
  refine .inl ⟨_, _, _, _, sa14, sb14, fun x9 H15 s15 r15 => ?_⟩
  have al15 := al14.ext s15
  obtain ⟨hp15, st15, sa15, sb15, p115, p215⟩ := id al15
  obtain ⟨p115r, _⟩ := id p115
  obtain ⟨p215r, _⟩ := id p215
  obtain ⟨⟨_, _, _, _, hraw15, _⟩, _⟩ := id st15
  have s15' := s14'.trans s15
  have r15' := r14.ext s15
  have rv15 := RV.mk r15
  walk_at "rd"
  intro x10 H16 s16 r16
  have al16 := al15.ext s16
  obtain ⟨hp16, st16, sa16, sb16, p116, p216⟩ := id al16
  obtain ⟨p116r, _⟩ := id p116
  obtain ⟨p216r, _⟩ := id p216
  obtain ⟨⟨_, _, _, _, hraw16, _⟩, _⟩ := id st16
  have s16' := s15'.trans s16
  have r16' := r13.ext ((s14.trans s15).trans s16)
  have rv16 := RV.mk r16
  have y1 : Sz (prod (tD t b) (tF t b r u) k j k j * prod (tD t b) (tF t b r u) l i l i) 1900 := (sz_mul (k := 880) (szP po.szD po.szF (nb_le b1) (nb_le b2) (nb_le b1) (nb_le b2)) (szP po.szD po.szF (nb_le b3) (nb_le b4) (nb_le b3) (nb_le b4))).mono
  have y2 : Sz (prod (tD t b) (tF t b r u) k j l i * prod (tD t b) (tF t b r u) k j l i) 1900 := (sz_mul (k := 880) (szP po.szD po.szF (nb_le b1) (nb_le b2) (nb_le b3) (nb_le b4)) (szP po.szD po.szF (nb_le b1) (nb_le b2) (nb_le b3) (nb_le b4))).mono
  walk_at "rd"
  intro x11 H17 s17 r17
  have al17 := al16.ext s17
  obtain ⟨hp17, st17, sa17, sb17, p117, p217⟩ := id al17
  obtain ⟨p117r, _⟩ := id p117
  obtain ⟨p217r, _⟩ := id p217
  obtain ⟨⟨_, _, _, _, hraw17, _⟩, _⟩ := id st17
  have s17' := s16'.trans s17
  obtain ⟨⟨_, _, _, pr, hraw17', _, _, rr17⟩, _⟩ := id st17
  have n17 : (k * i - l * j).natAbs < 2 ^ 101 := nb_sub (nb_mul b1 b4) (nb_mul b3 b2)
  have c17 : CMulB (k * i - l * j) (k * i - l * j) := cm n17 n17
  have rv17 := RV.int K H17 ((k * i - l * j) * (k * i - l * j))
  have y3 : Sz (tF t b r u - tD t b * tD t b) 1900 := (sz_sub (k := 200) po.szF (sz_mul (k := 80) po.szD po.szD)).mono
  have y4 : Sz (((k * i - l * j) * (k * i - l * j) : Int) : Rat) 1900 := sz_int (nb_le (nb_mul n17 n17))
  walk_at "rd"
  intro x12 H18 s18 r18
  have al18 := al17.ext s18
  obtain ⟨hp18, st18, sa18, sb18, p118, p218⟩ := id al18
  obtain ⟨p118r, _⟩ := id p118
  obtain ⟨p218r, _⟩ := id p218
  obtain ⟨⟨_, _, _, _, hraw18, _⟩, _⟩ := id st18
  have s18' := s17'.trans s18
  have r18' := r17.ext s18
  have rv18 := RV.mk r18
  obtain ⟨_, r18'r⟩ := id r18'
  have ty18 := (G.tR r18).1
  walk_at "rd"
  have ap := apart_eq (tD t b) (tF t b r u) k j l i
  refine iteP (fun h => absurd h (by rw [decide_eq_true ap]; simp)) (fun _ => ?_)
  walk_at "rd"
  intro z3 hz3
  have al19 := al18.ext (Same.new (o := .tup [.int (k + l), .int (j + i)]) hz3)
  obtain ⟨hp19, st19, sa19, sb19, p119, p219⟩ := id al19
  obtain ⟨p119r, _⟩ := id p119
  obtain ⟨p219r, _⟩ := id p219
  obtain ⟨⟨_, _, _, _, hraw19, _⟩, _⟩ := id st19
  have s19 := s18'.trans (Same.new (o := .tup [.int (k + l), .int (j + i)]) hz3)
  have w19 : Pr (upd H18 z3 (.tup [.int (k + l), .int (j + i)])) z3 (k + l) (j + i) := ⟨upd_same, nb_add b1 b3, nb_add b2 b4⟩
  walk_at "rd"
  intro z4 hz4
  have al20 := al19.ext (Same.new (o := .tup [.int 0, .int 0]) hz4)
  obtain ⟨hp20, st20, sa20, sb20, p120, p220⟩ := id al20
  obtain ⟨p120r, _⟩ := id p120
  obtain ⟨p220r, _⟩ := id p220
  obtain ⟨⟨_, _, _, _, hraw20, _⟩, _⟩ := id st20
  have s20 := s19.trans (Same.new (o := .tup [.int 0, .int 0]) hz4)
  have w20 : Pr (upd (upd H18 z3 (.tup [.int (k + l), .int (j + i)])) z4 (.tup [.int 0, .int 0])) z3 (k + l) (j + i) := ⟨(Same.new (o := .tup [.int 0, .int 0]) hz4) _ _ w19.1, w19.2⟩
  refine ⟨_, _, .tup (SqT.of w20.1) (.cons (.int _) (.cons (.int _) .nil)), .tup (SqT.of upd_same) (.cons (.int 0) (.cons (.int 0) .nil)), rfl, rfl, ?_⟩
  rw [eqv_pair]
  walk_at "rd"
  apply tailH (fun Hn => Al K Hn p st q1 q2 pa pb t b r u k j l i ∧ Same H Hn)
  · intro tail
    refine iteP (fun hw => ?_) (fun hw => ?_)
    · have nzw : ¬ (k + l = 0 ∧ j + i = 0) := fun ⟨x, y⟩ => by rw [x, y] at hw; cases hw
      obtain ⟨pa', ea, ia20, _⟩ := id sa20
      obtain ⟨pb', eb, ib20, _⟩ := id sb20
      cases ea
      cases eb
      obtain ⟨dxa, ia⟩ := id ia20
      obtain ⟨dxb, ib⟩ := id ib20
      walk_at "rd"
      refine ⟨.inl ⟨_, _, _, rfl, ib⟩, _, _, _, _, _, _, rfl, ia20, ib20, nzw, fun x13 H21 s21 i21 => ?_⟩
      have al21 := al20.ext s21
      obtain ⟨hp21, st21, sa21, sb21, p121, p221⟩ := id al21
      obtain ⟨p121r, _⟩ := id p121
      obtain ⟨p221r, _⟩ := id p221
      obtain ⟨⟨_, _, _, _, hraw21, _⟩, _⟩ := id st21
      have s21' := s20.trans s21
      have w21 : Pr H21 z3 (k + l) (j + i) := ⟨s21 _ _ w20.1, w20.2⟩
      have sw21 : SS H21 K (.ref x13) (k + l) (j + i) := ⟨_, rfl, i21, w21.2⟩
      walk_at "rd"
      refine .inl ⟨_, _, sw21, fun x14 H22 s22 r22 => ?_⟩
      have al22 := al21.ext s22
      obtain ⟨hp22, st22, sa22, sb22, p122, p222⟩ := id al22
      obtain ⟨p122r, _⟩ := id p122
      obtain ⟨p222r, _⟩ := id p222
      obtain ⟨⟨_, _, _, _, hraw22, _⟩, _⟩ := id st22
      have s22' := s21'.trans s22
      have w22 : Pr H22 z3 (k + l) (j + i) := ⟨s22 _ _ w21.1, w21.2⟩
      walk_at "rd"
      intro due3 H23 s23 hdue3
      have r23 := r22.ext s23
      have al23 := al22.ext s23
      obtain ⟨_, _, _, _, p123, p223⟩ := id al23
      obtain ⟨p123r, _⟩ := id p123
      obtain ⟨p223r, _⟩ := id p223
      have eq23 := po.prod_eq (k := k + l) (j := j + i) (l := k + l) (i := j + i)
      have sz23 : Sz (prod (tD t b) (tF t b r u) (k + l) (j + i) (k + l) (j + i)) 1900 := (szP po.szD po.szF w20.2.1 w20.2.2 w20.2.1 w20.2.2).mono
      have zA3 : (laidA t b r u (k + l) (j + i) (k + l) (j + i)).natAbs < 2 ^ 1900 := nb_le (laid_nb po w20.2.1 w20.2.2 w20.2.1 w20.2.2)
      walk_at "rd"
      exact tail H23 ⟨al23, s22'.trans s23⟩
    · walk_at "rd"
      exact tail _ ⟨al20, s20⟩
  · intro H24 hF
    obtain ⟨al24, s24⟩ := hF
    clear hp5 st5 sa5 sb5 p15 p25 p15r p25r hraw5 hp6 st6 sa6 sb6 p16 p26 p16r p26r hraw6 hp7 st7 sa7 sb7 p17 p27 p17r p27r hraw7 hp8 st8 sa8 sb8 p18 p28 p18r p28r hraw8 hp9 st9 sa9 sb9 p19 p29 p19r p29r hraw9 hp10 st10 sa10 sb10 p110 p210 p110r p210r hraw10 hp11 st11 sa11 sb11 p111 p211 p111r p211r hraw11 hp12 st12 sa12 sb12 p112 p212 p112r p212r hraw12 hp13 st13 sa13 sb13 p113 p213 p113r p213r hraw13 hp14 st14 sa14 sb14 p114 p214 p114r p214r hraw14 hp15 st15 sa15 sb15 p115 p215 p115r p215r hraw15 hp16 st16 sa16 sb16 p116 p216 p116r p216r hraw16 hp17 st17 sa17 sb17 p117 p217 p117r p217r hraw17 hp18 st18 sa18 sb18 p118 p218 p118r p218r hraw18 hp19 st19 sa19 sb19 p119 p219 p119r p219r hraw19 hp20 st20 sa20 sb20 p120 p220 p120r p220r hraw20 hp4 st4 sa4 sb4 p14 p24 hraw hp3 st3 sa3 sb3 p13 p23
    clear eq5 sz5 eq6 sz6 eq8 sz8 zk eq10 sz10 zA2 sz12 rv12 y1 y2 y3 y4 rv15 rv16 rv17 rv18 zA r5 r6 r7 r8 r9 r10 r11 r12 r12' r13 r14 r15 r15' r16 r16' r17 r18 r18' hraw17' w19 w20 ap ty18
    obtain ⟨hp24, st24, sa24, sb24, p124, p224⟩ := id al24
    obtain ⟨p124r, _⟩ := id p124
    obtain ⟨p224r, _⟩ := id p224
    have c3 : CMulB l t := cm b3 po.t
    have c4 : CMulB i b := cm b4 po.nb
    have c5 : CMulB (k * t - j * b) l := cm (nb_sub (n := 82) (nb_mul b1 po.t) (nb_mul b2 po.nb)) b3
    have c6 : CMulB (l * t - i * b) k := cm (nb_sub (n := 82) (nb_mul b3 po.t) (nb_mul b4 po.nb)) b1
    walk_at "rd"
    intro d1 hd1
    have al25 := al24.ext (Same.new (o := .tup [.str "told", .bl (decide ((if (k * t - j * b) * l < 0 then -((k * t - j * b) * l) else (k * t - j * b) * l) < (if (l * t - i * b) * k < 0 then -((l * t - i * b) * k) else (l * t - i * b) * k)))]) hd1)
    have s25 := s24.trans (Same.new (o := .tup [.str "told", .bl (decide ((if (k * t - j * b) * l < 0 then -((k * t - j * b) * l) else (k * t - j * b) * l) < (if (l * t - i * b) * k < 0 then -((l * t - i * b) * k) else (l * t - i * b) * k)))]) hd1)
    have hd25 : upd H24 d1 (.tup [.str "told", .bl (decide ((if (k * t - j * b) * l < 0 then -((k * t - j * b) * l) else (k * t - j * b) * l) < (if (l * t - i * b) * k < 0 then -((l * t - i * b) * k) else (l * t - i * b) * k)))]) d1 = some (.tup [.str "told", .bl (decide ((if (k * t - j * b) * l < 0 then -((k * t - j * b) * l) else (k * t - j * b) * l) < (if (l * t - i * b) * k < 0 then -((l * t - i * b) * k) else (l * t - i * b) * k)))]) := upd_same
    obtain ⟨hp25, st25, sa25, sb25, p125, p225⟩ := id al25
    obtain ⟨p125r, _⟩ := id p125
    obtain ⟨p225r, _⟩ := id p225
    walk_at "rd"
    refine iteP (fun hk => ?_) (fun hk => ?_)
    · have k0 : k = 0 := by simpa using hk
      walk_at "rd"
      refine iteP (fun _ => ?_) (fun z => absurd hk z)
      walk_at "rd"
      intro d2 hd2
      have al26 := al25.ext (Same.new (o := .tup [.str "round", .str "one"]) hd2)
      have s26 := s25.trans (Same.new (o := .tup [.str "round", .str "one"]) hd2)
      have hd26 : upd (upd H24 d1 (.tup [.str "told", .bl (decide ((if (k * t - j * b) * l < 0 then -((k * t - j * b) * l) else (k * t - j * b) * l) < (if (l * t - i * b) * k < 0 then -((l * t - i * b) * k) else (l * t - i * b) * k)))])) d2 (.tup [.str "round", .str "one"]) d2 = some (.tup [.str "round", .str "one"]) := upd_same
      have hTn := hT.ext s26
      obtain ⟨_, stn, _, _, _, _⟩ := id al26
      walk_at "rd"
      intro H30 eN T30 R hR
      have al30 := al26.extN eN
      have hdn := eN _ _ hd26 (fun _ z => by cases z)
      obtain ⟨_, st30, sa30, sb30, _, _⟩ := id al30
      obtain ⟨⟨_, _, _, _, hraw30, _⟩, _⟩ := id st30
      walk_at "fT"
      walk_at "rd"
      have en30 := (LamX.ExtN.of s26).trans eN
      refine .inl ⟨k, j, l, i, sa30, sb30, fun nk _ => absurd k0 nk, fun _ d H31 s31 nd ed => .inr ⟨rfl, d, _, rfl, ed, fun pp hpp => ?_⟩, fun nk => absurd k0 nk⟩
      have hd31 := (upd_ne (o := .tup [.str "round", .str "one"]) (ne_of_none (s31 _ _ hdn) hpp)).trans (s31 _ _ hdn)
      refine ⟨_, rfl, _, _, .tup (SqT.of upd_same) (.cons (.str _) (.cons (.str _) .nil)), .tup (SqT.of hd31) (.cons (.str _) (.cons (.str _) .nil)), sh1, sh1, ?_⟩
      rw [eqr sh1]
      have s32 := s31.trans (Same.new (o := .tup [.str "round", .str "one"]) hpp)
      exact q _ (en30.trans (LamX.ExtN.of s32)) (T30.ext s32)
    · have nk0 : ¬ k = 0 := by simpa using hk
      walk_at "rd"
      refine iteP (fun hl => ?_) (fun hl => ?_)
      · have l0 : l = 0 := by simpa using hl
        walk_at "rd"
        refine iteP (fun z => absurd z hk) (fun _ => ?_)
        walk_at "rd"
        intro d2 hd2
        have al26 := al25.ext (Same.new (o := .tup [.str "round", .str "other"]) hd2)
        have s26 := s25.trans (Same.new (o := .tup [.str "round", .str "other"]) hd2)
        have hd26 : upd (upd H24 d1 (.tup [.str "told", .bl (decide ((if (k * t - j * b) * l < 0 then -((k * t - j * b) * l) else (k * t - j * b) * l) < (if (l * t - i * b) * k < 0 then -((l * t - i * b) * k) else (l * t - i * b) * k)))])) d2 (.tup [.str "round", .str "other"]) d2 = some (.tup [.str "round", .str "other"]) := upd_same
        have hTn := hT.ext s26
        obtain ⟨_, stn, _, _, _, _⟩ := id al26
        walk_at "rd"
        intro H30 eN T30 R hR
        have al30 := al26.extN eN
        have hdn := eN _ _ hd26 (fun _ z => by cases z)
        obtain ⟨_, st30, sa30, sb30, _, _⟩ := id al30
        obtain ⟨⟨_, _, _, _, hraw30, _⟩, _⟩ := id st30
        walk_at "fT"
        walk_at "rd"
        have en30 := (LamX.ExtN.of s26).trans eN
        refine .inl ⟨k, j, l, i, sa30, sb30, fun _ nl => absurd l0 nl, fun z => absurd z nk0, fun _ _ d H31 s31 nd ed => .inr ⟨rfl, d, _, rfl, ed, fun pp hpp => ?_⟩⟩
        have hd31 := (upd_ne (o := .tup [.str "round", .str "other"]) (ne_of_none (s31 _ _ hdn) hpp)).trans (s31 _ _ hdn)
        refine ⟨_, rfl, _, _, .tup (SqT.of upd_same) (.cons (.str _) (.cons (.str _) .nil)), .tup (SqT.of hd31) (.cons (.str _) (.cons (.str _) .nil)), sh2, sh2, ?_⟩
        rw [eqr sh2]
        have s32 := s31.trans (Same.new (o := .tup [.str "round", .str "other"]) hpp)
        exact q _ (en30.trans (LamX.ExtN.of s32)) (T30.ext s32)
      · have nl0 : ¬ l = 0 := by simpa using hl
        have hTn := hT.ext s25
        obtain ⟨_, stn, _, _, _, _⟩ := id al25
        walk_at "rd"
        intro H30 eN T30 R hR
        have al30 := al25.extN eN
        have hdn := eN _ _ hd25 (fun _ z => by cases z)
        obtain ⟨_, st30, sa30, sb30, _, _⟩ := id al30
        obtain ⟨⟨_, _, _, _, hraw30, _⟩, _⟩ := id st30
        have en30 := (LamX.ExtN.of s25).trans eN
        refine ⟨_, rfl, _, _, _, rfl, hraw30, rfl, _, rfl, _, rfl, _, _, _, _, _, rfl, st30, .inl ⟨k, j, l, i, sa30, sb30, fun nk nl H31 s31 => hR _ H31 fun pp hpp => ?_, fun z => absurd z nk0, fun _ z => absurd z nl0⟩⟩
        have hd31 := (upd_ne (o := .tup [.str "told", .bl (decide (qabs (lean (tD t b) k j * (l : Rat)) < qabs (lean (tD t b) l i * (k : Rat))))]) (ne_of_none (s31 _ _ hdn) hpp)).trans (s31 _ _ hdn)
        have e : PyData.eqv (.tuple [.str "told", .bool (decide (qabs (lean (tD t b) k j * (l : Rat)) < qabs (lean (tD t b) l i * (k : Rat))))]) (.tuple [.str "told", .bool (decide ((if (k * t - j * b) * l < 0 then -((k * t - j * b) * l) else (k * t - j * b) * l) < (if (l * t - i * b) * k < 0 then -((l * t - i * b) * k) else (l * t - i * b) * k)))]) = true := by
          rw [po.lt_eq]
          exact eqr (sh3 _)
        refine ⟨_, rfl, _, _, .tup (SqT.of upd_same) (.cons (.str _) (.cons (.bl _) .nil)), .tup (SqT.of hd31) (.cons (.str _) (.cons (.bl _) .nil)), sh3 _, sh3 _, ?_⟩
        rw [e]
        have s32 := s31.trans (Same.new (o := .tup [.str "told", .bl (decide (qabs (lean (tD t b) k j * (l : Rat)) < qabs (lean (tD t b) l i * (k : Rat))))]) hpp)
        exact q _ (en30.trans (LamX.ExtN.of s32)) (T30.ext s32)
end
end Sp
end
section
set_option Elab.async false
set_option linter.all false
set_option exponentiation.threshold 5000
set_option maxRecDepth 100000
set_option maxHeartbeats 0
local macro_rules | `(tactic| walk_at "leaf") => `(tactic| first | rfl | assumption | exact True.intro | exact L2.upd_same | exact L2.ClsV.ty _ | exact L2.ClsV.own _ | decide | exact of_decide_eq_true rfl | exact L2.SqL.of (by assumption) | exact L2.SqL.of L2.upd_same | exact Or.inl (L2.SqL.of L2.upd_same) | exact Or.inl (L2.SqL.of (by assumption)) | exact L2.SqT.of (by assumption) | exact L2.SqT.of L2.upd_same | exact Sp.cmL (by decide) | exact Sp.cmR (by decide) | exact ⟨by decide, by decide, by decide⟩ | exact ⟨by decide, by decide⟩ | omega | fail)
local macro_rules | `(tactic| walk_at "rd1") => `(tactic| first
  | refine Sp.rbR (by assumption) (by assumption) (by assumption) (by assumption) ?_
  | apply Sp.exI
  | (refine And.intro ?lf ?_; (case lf => walk_at "leaf"))
  | fail)
local macro_rules | `(tactic| walk_at "rd") => `(tactic| repeat (walk_at "rd1"))
local macro_rules | `(tactic| walk_at "fR") => `(tactic| (have := (‹Sp.G0 _ _›).R.cl; have := (‹Sp.G0 _ _›).R.no "top" (by simp); have := (‹Sp.G0 _ _›).R.no "bottom" (by simp)))
local macro_rules | `(tactic| walk_at "fS") => `(tactic| (have := (‹Sp.G0 _ _›).S.cl; have := (‹Sp.G0 _ _›).S.no "studs" (by simp); have := (‹Sp.G0 _ _›).S.no "rounds" (by simp); have := (‹Sp.G0 _ _›).S.no "divisor" (by simp); have := (‹Sp.G0 _ _›).S.no "is_round" (by simp)))
local macro_rules | `(tactic| walk_at "fT") => `(tactic| (have := (‹Sp.G0 _ _›).T.cl; have := (‹Sp.G0 _ _›).T.no "turn" (by simp); have := (‹Sp.G0 _ _›).T.no "squared" (by simp); have := (‹Sp.G0 _ _›).T.no "rise" (by simp)))
namespace Sp
open PySem PySem.Spec PyProof.Rows L2
section
variable {P : Program} {w : World} {K : PySem.W.Frag} {mg : Str → Option Value} {base : Heap} {f : Addr} {fd : FuncData}
variable (g_is_integer : GD P w K mg base (L2.CX P w) 1 "is_integer" ["value"] [] (spIsInt K)) (g_sign_of : GD P w K mg base (L2.CX P w) 1 "sign_of" ["number"] [] spSign)
  (g_is_ratio : GD P w K mg base (L2.CX P w) 2 "is_ratio" ["value"] [] (spIsRat K)) (g_at_right : GD P w K mg base (L2.CX P w) 6 "at_right" ["value"] [] (spOf K))
  (g_xBadRatio : GX P w K mg base 1 "BadRatio" "part" (cX K "BadRatio")) (g_xBadStep : GX P w K mg base 1 "BadStep" "part" (cX K "BadStep")) (g_xRound : GX P w K mg base 1 "Round" "part" (cX K "Round")) (g_xBadStem : GX P w K mg base 1 "BadStem" "part" (cX K "BadStem"))
  (g_mRatio : GM P w K mg base (L2.CX P w) 3 "Ratio" (cR K) ["self", "top", "bottom"] [] (spInitR K)) (g_mRatio1 : GM P w K mg base (L2.CX P w) 3 "Ratio" (cR K) ["self", "top", "bottom"] [.int 1] (spInitR K))
  (g_Ratio_of : GS P w K mg base (L2.CX P w) 5 (cR K) "of" (spOf K)) (g_R_compared : GH P w K mg base (L2.CX P w) 7 (cR K) "compared" ["self", "other"] (spCmp K))
variable (g_radd : GO P w K mg base (L2.CX P w) 7 (cR K) .Add (spBinR K (· + ·))) (g_rsub : GO P w K mg base (L2.CX P w) 7 (cR K) .Sub (spBinR K (· - ·))) (g_rmul : GO P w K mg base (L2.CX P w) 7 (cR K) .Mult (spBinR K (· * ·)))
  (g_rabs : GN P w K mg base (L2.CX P w) 5 (cR K) "__abs__" (spAbs K)) (g_req : GN P w K mg base (L2.CX P w) 2 (cR K) "__eq__" (spEqR K)) (g_R_sign : GP P w K mg base (L2.CX P w) 2 (cR K) "sign" (spSgn K)) (g_R_is_below : GH P w K mg base (L2.CX P w) 8 (cR K) "is_below" ["self", "other"] (spBelow K))
variable (g_mStep : GM P w K mg base (L2.CX P w) 3 "Step" (cS K) ["self", "studs", "rounds"] [] (spInitS K)) (g_mStem : GM P w K mg base (L2.CX P w) 8 "Stem" (cT K) ["self", "turn", "squared"] [] (spInitT K))
  (g_need_step : GD P w K mg base (L2.CX P w) 3 "need_step" ["value", "part"] [] (spNeedS K)) (g_need_studs : GD P w K mg base (L2.CX P w) 3 "need_studs" ["step", "part"] [] (spNeedK K)) (g_summed : GD P w K mg base (L2.CX P w) 5 "summed" ["studs", "rounds"] [] (spSummed K))
  (g_cross : GD P w K mg base (L2.CX P w) 4 "cross" ["one", "other"] [] (spCross K)) (g_sadd : GO P w K mg base (L2.CX P w) 6 (cS K) .Add (spAddS K))
  (g_T_product : GH P w K mg base (L2.CX P w) 8 (cT K) "product" ["self", "one", "other"] (spProd K)) (g_T_lean : GH P w K mg base (L2.CX P w) 8 (cT K) "lean" ["self", "step"] (spLean K))
  (g_T_square : GH P w K mg base (L2.CX P w) 9 (cT K) "square" ["self", "step"] (spSq K)) (g_T_is_steeper : GH P w K mg base (L2.CX P w) 9 (cT K) "is_steeper" ["self", "one", "other"] (spSteep K))
variable (g_l_dip : GD P w K mg base (L2.CX P w) 1 "_law_dip" ["_law_pail_here", "_law_many"] [] spDip) (g_l_sized : GD P w K mg base (L2.CX P w) 2 "_law_sized" ["_law_pail_here", "_law_many"] [] spSized)
  (g_l_pail : GD P w K mg base (L2.CX P w) 1 "_law_pail" ["_law_script"] [] (spPail K)) (g_l_post : GD P w K mg base (L2.CX P w) 2 "_law_post" ["_law_pail_here"] [] spPost)
  (g_l_laid : GD P w K mg base (L2.CX P w) 1 "_law_laid" ["_law_post_here", "_law_one", "_law_other"] [] spLaid) (g_l_is : GD P w K mg base (L2.CX P w) 1 "_law_is" ["_law_ratio", "_law_pair"] [] (spIs K))
  (g_l_steps : GD P w K mg base (L2.CX P w) 3 "_law_steps" ["_law_pail_here"] [] spSteps)

theorem exR2 {H H' : Hp} {p : Addr} {q : Rat} (h : IsR K H p q) (e : LamX.ExtN H H') : IsR K H' p q := let ⟨dx, h⟩ := h; ⟨dx, e _ _ h (fun _ z => by cases z)⟩
theorem exS2 {H H' : Hp} {p : Addr} {k j : Int} (h : IsS K H p k j) (e : LamX.ExtN H H') : IsS K H' p k j := let ⟨dx, h⟩ := h; ⟨dx, e _ _ h (fun _ z => by cases z)⟩
theorem exT2 {H H' : Hp} {p : Addr} {D F : Rat} (h : IsT K H p D F) (e : LamX.ExtN H H') : IsT K H' p D F := let ⟨dx, a, b, c, h, h1, h2, h3⟩ := h; ⟨dx, a, b, c, e _ _ h (fun _ z => by cases z), exR2 h1 e, exR2 h2 e, exR2 h3 e⟩
def Odd (K : PySem.W.Frag) (H : Hp) (v : V) : Prop := v = .non ∨ (∃ p xs, v = .ref p ∧ H p = some (.tup xs)) ∨ (∃ i, v = .int i) ∨ (∃ z, v = .str z) ∨ (∃ p xs, v = .ref p ∧ H p = some (.lst xs)) ∨ ∃ p D F, v = .ref p ∧ IsT K H p D F
theorem Odd.extN {H H' : Hp} {v : V} (h : Odd K H v) (e : LamX.ExtN H H') : Odd K H' v := by
  rcases h with h | ⟨p, xs, h1, h2⟩ | h | h | ⟨p, xs, h1, h2⟩ | ⟨p, D, F, h1, h2⟩
  · exact .inl h
  · exact .inr (.inl ⟨p, xs, h1, e _ _ h2 (fun _ z => by cases z)⟩)
  · exact .inr (.inr (.inl h))
  · exact .inr (.inr (.inr (.inl h)))
  · exact .inr (.inr (.inr (.inr (.inl ⟨p, xs, h1, e _ _ h2 (fun _ z => by cases z)⟩))))
  · exact .inr (.inr (.inr (.inr (.inr ⟨p, D, F, h1, exT2 h2 e⟩))))
theorem Odd.ns {H : Hp} {v : V} (h : Odd K H v) (G : G0 K mg) (hne : cT K ≠ cS K) : NS K H v := by
  rcases h with rfl | ⟨p, xs, rfl, h2⟩ | ⟨i, rfl⟩ | ⟨z, rfl⟩ | ⟨p, xs, rfl, h2⟩ | ⟨p, D, F, rfl, dx, a, b, c, h, _⟩
  · exact ⟨_, ⟨.base .non, G.kNone⟩, by simp⟩
  · exact ⟨_, ⟨.base (.tup h2), G.kTup⟩, by simp⟩
  · exact ⟨_, ⟨.base (.int i), G.kInt⟩, by simp⟩
  · exact ⟨_, ⟨.base (.str z), G.kStr⟩, by simp⟩
  · exact ⟨_, ⟨.base (.lst h2), G.kLst⟩, by simp⟩
  · exact ⟨_, G.T.ty h, by simpa using hne⟩
structure Rf (K : PySem.W.Frag) (T : List (Addr × Str)) (H : Hp) (st g : Addr) (v : V) (D F : Rat) (k j : Int) : Prop where
  st : ST K H st D F
  odd : Odd K H v
  good : SS H K (.ref g) k j
  tb : LamX.Tabs T H
theorem Rf.extN {T : List (Addr × Str)} {H H' : Hp} {st g : Addr} {v : V} {D F : Rat} {k j : Int} (h : Rf K T H st g v D F k j) (e : LamX.ExtN H H') (t : LamX.Tabs T H') : Rf K T H' st g v D F k j :=
  ⟨⟨exT2 h.st.1 e, h.st.2⟩, h.odd.extN e, let ⟨p, a, b, c⟩ := h.good; ⟨p, a, exS2 b e, c⟩, t⟩
theorem Rf.ext {T : List (Addr × Str)} {H H' : Hp} {st g : Addr} {v : V} {D F : Rat} {k j : Int} (h : Rf K T H st g v D F k j) (e : Same H H') : Rf K T H' st g v D F k j := h.extN (LamX.ExtN.of e) (h.tb.ext e)
theorem Rf.raw {T : List (Addr × Str)} {H : Hp} {st g : Addr} {v : V} {D F : Rat} {k j : Int} (h : Rf K T H st g v D F k j) : ∃ dx a b c, H st = some (.ins (cT K) dx [("turn", .ref a), ("squared", .ref b), ("rise", .ref c)]) := let ⟨⟨dx, a, b, c, h, _⟩, _⟩ := h.st; ⟨dx, a, b, c, h⟩
abbrev qRf : Str := (("_law_refused_right" : Str) ++ ".<locals>.") ++ "<lambda>"
def spRefR (K : PySem.W.Frag) (T : List (Addr × Str)) : Sp := fun vs H Q _ => ∃ (a c st x : Addr) (N : Nat) (D F : Rat) (k j : Int), vs = [.ref a, .ref st, .ref x] ∧ Pail H a c N ∧ N ≤ 900000 ∧ ST K H st D F ∧ St2 H x k j ∧ LamX.Tabs T H ∧ ∀ H', Q (.bl true) H'
theorem lenS (i : Int) (h : i.natAbs < 2 ^ 50) : (Str.ofString (toString i)).length ≤ 1921 := PyProof.Rows.int_text_len_1921 (PySem.Flt.log2_lt_of (by decide) (Nat.lt_of_lt_of_le h (Nat.pow_le_pow_right (by decide) (by decide))))
theorem tabsSb {T : List (Addr × Str)} {H H' : Hp} {a : Addr} {xs : List V} (h : LamX.Tabs T H) (ha : H a = some (.lst xs)) (e : Sb a H H') : LamX.Tabs T H' := fun p hp => by
  obtain ⟨ps, h1, h2, h3⟩ := h p hp
  refine ⟨ps, e _ _ (fun z => ?_) h1, h2, fun pos cv hc => ?_⟩
  · rw [z, ha] at h1
    cases h1
  · obtain ⟨c, e1, e2⟩ := h3 pos cv hc
    refine ⟨c, e1, e _ _ (fun z => ?_) e2⟩
    rw [z, ha] at e2
    unfold LamX.CodeO at e2
    cases e2
theorem stSb {H H' : Hp} {a st : Addr} {D F : Rat} {xs : List V} (h : ST K H st D F) (ha : H a = some (.lst xs)) (e : Sb a H H') : ST K H' st D F := by
  have g : ∀ {b C dx : Addr} {fs : List (Str × V)}, H b = some (.ins C dx fs) → H' b = some (.ins C dx fs) := fun {b C dx fs} h => e _ _ (fun z => by rw [z, ha] at h; cases h) h
  obtain ⟨⟨dx, p1, p2, p3, h0, ⟨d1, h1⟩, ⟨d2, h2⟩, ⟨d3, h3⟩⟩, hz⟩ := h
  exact ⟨⟨dx, p1, p2, p3, g h0, ⟨d1, g h1⟩, ⟨d2, g h2⟩, ⟨d3, g h3⟩⟩, hz⟩
theorem shA : SeqAt.shaped (.list [.tuple [.str "step", .str "step"], .tuple [.str "step", .str "step"]]) = true := by decide +kernel
theorem shB : SeqAt.shaped (.list [.tuple [.str "step", .str "one"], .tuple [.str "step", .str "other"]]) = true := by decide +kernel
theorem eqr2 {d : PyData} (h : SeqAt.shaped d = true) : PyData.eqv d d = true := SeqAt.eqv_refl d (SeqAt.canLay_of_shaped h)
theorem sc_refR : FnScope ["_law_pail_here", "_law_stem", "_law_pair", "_law_heard_here", "_law_good", "_law_odd"] ["_law_pail_here", "_law_stem", "_law_pair"] (defScope (topS 47)) := ⟨rfl, rfl, rfl, by decide +kernel, rfl, by decide +kernel, by decide +kernel⟩
include g_T_is_steeper g_T_lean g_T_product g_T_square g_l_dip g_mStep in
theorem ok_refR {c Pt : Addr} {T : List (Addr × Str)} (hne : cT K ≠ cS K) (G : G0 K mg) (gEr : GE K mg) (gHd : GHd K mg) (hTB : LamX.TabB base mg c Pt) (hmT : (Pt, qRf) ∈ T) (huT : ∀ p ∈ T, p.1 = Pt → p.2 = qRf) (hfc : fd.code = .ref c)
    (F : FP K "_law_refused_right" "_law_refused_right" (topS 47) [] f fd) : FnOk P w K mg base (L2.CX P w) 12 f fd ["_law_pail_here", "_law_stem", "_law_pair"] (spRefR K T) := by
  have nd := sc_refR.nd
  refine okC F hfc sc_refR (fun vs H Q E h => by obtain ⟨_, _, _, _, _, _, _, _, _, rfl, _⟩ := h; rfl) (fun A outer s H vs Q E hr h => ⟨_, pss_cons (ps_asg (pe_tup (pa_cons (pe_ix ix_tup (pe_tup (pa_cons (pe_non) (pa_cons (pv 2) (pa_cons (pe_int) (pa_cons (pe_op op_add_str (pe_op op_add_str (pe_callTy call_str_int rfl G.nm.str (by decide +kernel) (pa_cons (pe_ix ix_tup (pv 2) (pe_int) (fun _ _ => rfl)) (pa_nil))) (pe_str)) (pe_callTy call_str_int rfl G.nm.str (by decide +kernel) (pa_cons (pe_ix ix_tup (pv 2) (pe_int) (fun _ _ => rfl)) (pa_nil)))) (pa_cons (pe_lst (pa_nil)) (pa_cons (pv 1) (pa_nil)))))))) (pe_gd g_l_dip (hr.mono (by decide)) rfl (pxE rfl rfl rfl rfl) (pa_cons (pv 0) (pa_cons (pe_int) (pa_nil)))) (fun _ _ => rfl)) (pa_cons (pe_gm g_mStep (hr.mono (by decide)) rfl (pxE rfl rfl rfl rfl) (pa_cons (pe_ix ix_tup (pv 2) (pe_int) (fun _ _ => rfl)) (pa_cons (pe_ix ix_tup (pv 2) (pe_int) (fun _ _ => rfl)) (pa_nil)))) (pa_nil)))) (pg_tup rfl (pgs_cons (pg_name (i := 5) nd rfl (Or.inr rfl)) (pgs_cons (pg_name (i := 4) nd rfl (Or.inr rfl)) (pgs_nil))))) (pss_cons (ps_set (i := 3) nd rfl (Or.inl rfl) (pe_lst (pa_cons (pe_heard (k := 9) gHd gEr rfl hTB rfl hmT huT (hr.mono (by decide)) (LamX.lamS_by (sc := defScope (topS 47)) (by decide +kernel)) rfl (fun _ _ _ _ _ => rfl) (fun _ _ _ _ _ _ _ hr => pe_gh (pv 1) G.T.cl g_T_square (hr.mono (by decide)) (pxE rfl rfl rfl rfl) (pa_cons (pv 5) (pa_nil)))) (pa_cons (pe_heard (k := 9) gHd gEr rfl hTB rfl hmT huT (hr.mono (by decide)) (LamX.lamS_by (sc := defScope (topS 47)) (by decide +kernel)) rfl (fun _ _ _ _ _ => rfl) (fun _ _ _ _ _ _ _ hr => pe_gh (pv 1) G.T.cl g_T_lean (hr.mono (by decide)) (pxE rfl rfl rfl rfl) (pa_cons (pv 5) (pa_nil)))) (pa_nil))))) (pss_cons (ps_if (pt_cmpR (op_neD hr.units) (pv 3) (pe_lst (pa_cons (pe_tup (pa_cons (pe_str) (pa_cons (pe_str) (pa_nil)))) (pa_cons (pe_tup (pa_cons (pe_str) (pa_cons (pe_str) (pa_nil)))) (pa_nil)))) (nomark _)) (pss_one (ps_ret (pe_bl))) (pss_nil)) (pss_cons (ps_set (i := 3) nd rfl (Or.inl rfl) (pe_lst (pa_cons (pe_heard (k := 9) gHd gEr rfl hTB rfl hmT huT (hr.mono (by decide)) (LamX.lamS_by (sc := defScope (topS 47)) (by decide +kernel)) rfl (fun _ _ _ _ _ => rfl) (fun _ _ _ _ _ _ _ hr => pe_gh (pv 1) G.T.cl g_T_product (hr.mono (by decide)) (pxE rfl rfl rfl rfl) (pa_cons (pv 5) (pa_cons (pe_non) (pa_nil))))) (pa_cons (pe_heard (k := 9) gHd gEr rfl hTB rfl hmT huT (hr.mono (by decide)) (LamX.lamS_by (sc := defScope (topS 47)) (by decide +kernel)) rfl (fun _ _ _ _ _ => rfl) (fun _ _ _ _ _ _ _ hr => pe_gh (pv 1) G.T.cl g_T_product (hr.mono (by decide)) (pxE rfl rfl rfl rfl) (pa_cons (pv 4) (pa_cons (pv 5) (pa_nil))))) (pa_nil))))) (pss_cons (ps_if (pt_cmpR (op_neD hr.units) (pv 3) (pe_lst (pa_cons (pe_tup (pa_cons (pe_str) (pa_cons (pe_str) (pa_nil)))) (pa_cons (pe_tup (pa_cons (pe_str) (pa_cons (pe_str) (pa_nil)))) (pa_nil)))) (nomark _)) (pss_one (ps_ret (pe_bl))) (pss_nil)) (pss_one (ps_ret (pe_cmpR (op_eqD hr.units) (pe_lst (pa_cons (pe_heard (k := 9) gHd gEr rfl hTB rfl hmT huT (hr.mono (by decide)) (LamX.lamS_by (sc := defScope (topS 47)) (by decide +kernel)) rfl (fun _ _ _ _ _ => rfl) (fun _ _ _ _ _ _ _ hr => pe_gh (pv 1) G.T.cl g_T_is_steeper (hr.mono (by decide)) (pxE rfl rfl rfl rfl) (pa_cons (pv 5) (pa_cons (pv 5) (pa_nil))))) (pa_cons (pe_heard (k := 9) gHd gEr rfl hTB rfl hmT huT (hr.mono (by decide)) (LamX.lamS_by (sc := defScope (topS 47)) (by decide +kernel)) rfl (fun _ _ _ _ _ => rfl) (fun _ _ _ _ _ _ _ hr => pe_gh (pv 1) G.T.cl g_T_is_steeper (hr.mono (by decide)) (pxE rfl rfl rfl rfl) (pa_cons (pe_gm g_mStep (hr.mono (by decide)) rfl (pxE rfl rfl rfl rfl) (pa_cons (pe_int) (pa_cons (pe_int) (pa_nil)))) (pa_cons (pv 5) (pa_nil))))) (pa_nil)))) (pv 3) (nomark _)))))))), ?_⟩)
  obtain ⟨a, c', st, x, N, D, F0, k, j, rfl, hp, hN, hst, hx, hT, q⟩ := h
  obtain ⟨e1, nz1, b1, b2⟩ := id hx
  have l1 : k.natAbs.log2 < 1920 := PySem.Flt.log2_lt_of (by decide) (Nat.lt_of_lt_of_le b1 (Nat.pow_le_pow_right (by decide) (by decide)))
  have l2 : j.natAbs.log2 < 1920 := PySem.Flt.log2_lt_of (by decide) (Nat.lt_of_lt_of_le b2 (Nat.pow_le_pow_right (by decide) (by decide)))
  have hs1 : (Str.ofString (toString k)).length + (Str.ofString " ").length ≤ sizeLine := by
    have := lenS k b1
    have : (Str.ofString " ").length = 1 := by decide
    have : 4000 ≤ sizeLine := by decide
    omega
  have hs2 : (Str.ofString (toString k) ++ Str.ofString " ").length + (Str.ofString (toString j)).length ≤ sizeLine := by
    have := lenS k b1
    have := lenS j b2
    have : (Str.ofString " ").length = 1 := by decide
    have : 4000 ≤ sizeLine := by decide
    rw [Str.length_append]
    omega
  walk_at "rd"
  intro l hl
  have sA := Same.new (o := .lst []) hl
  walk_at "rd"
  intro z hz
  have sB := sA.trans (Same.new (o := .tup [.non, .ref x, .int 3, .str (Str.ofString (toString k) ++ Str.ofString " " ++ Str.ofString (toString j)), .ref l, .ref st]) hz)
  have pB := hp.ext sB
  obtain ⟨xsA, hA⟩ := pB.lst
  have nla : a ≠ l := by
    obtain ⟨xs0, h0⟩ := hp.lst
    exact ne_of_none h0 hl
  have hzB : upd (upd H l (.lst [])) z (.tup [.non, .ref x, .int 3, .str (Str.ofString (toString k) ++ Str.ofString " " ++ Str.ofString (toString j)), .ref l, .ref st]) z = some (.tup [.non, .ref x, .int 3, .str (Str.ofString (toString k) ++ Str.ofString " " ++ Str.ofString (toString j)), .ref l, .ref st]) := upd_same
  have hlB : upd (upd H l (.lst [])) z (.tup [.non, .ref x, .int 3, .str (Str.ofString (toString k) ++ Str.ofString " " ++ Str.ofString (toString j)), .ref l, .ref st]) l = some (.lst []) := (upd_ne (ne_of_none (show upd H l (.lst []) l = some (.lst []) from upd_same) hz)).trans upd_same
  walk_at "rd"
  intro d H1 d0 d1 p1 s1
  have d1 : d < 6 := d1
  have hz1 := s1 _ _ (fun e => by have h2 := hA; rw [← e, hzB] at h2; cases h2) hzB
  have hx1 := s1 _ _ (fun e => by have h2 := hA; rw [← e, sB _ _ e1] at h2; cases h2) (sB _ _ e1)
  have hl1 := s1 _ _ nla.symm hlB
  have st1 := stSb (hst.ext sB) hA s1
  have T1 := tabsSb (hT.ext sB) hA s1
  obtain ⟨v, hv, ov⟩ : ∃ v, atI [V.non, .ref x, .int 3, .str (Str.ofString (toString k) ++ Str.ofString " " ++ Str.ofString (toString j)), .ref l, .ref st] d = some v ∧ Odd K H1 v := by
    rcases (show d = 0 ∨ d = 1 ∨ d = 2 ∨ d = 3 ∨ d = 4 ∨ d = 5 by omega) with rfl | rfl | rfl | rfl | rfl | rfl
    · exact ⟨_, rfl, .inl rfl⟩
    · exact ⟨_, rfl, .inr (.inl ⟨_, _, rfl, hx1⟩)⟩
    · exact ⟨_, rfl, .inr (.inr (.inl ⟨_, rfl⟩))⟩
    · exact ⟨_, rfl, .inr (.inr (.inr (.inl ⟨_, rfl⟩)))⟩
    · exact ⟨_, rfl, .inr (.inr (.inr (.inr (.inl ⟨_, _, rfl, hl1⟩))))⟩
    · exact ⟨_, rfl, .inr (.inr (.inr (.inr (.inr ⟨_, _, _, rfl, st1.1⟩))))⟩
  walk_at "rd"
  apply makeS2 nz1
  intro g H2 s2 _ ig
  have rf2 : Rf K T H2 st g v D F0 k j := ⟨st1.ext s2, ov.extN (LamX.ExtN.of s2), ⟨_, rfl, ig, nb_le b1, nb_le b2⟩, T1.ext s2⟩
  walk_at "rd"
  intro y hy
  have rf3 := rf2.ext (Same.new (o := .tup [v, .ref g]) hy)
  clear T1 st1 hl1 hx1 hz1 hv ov ig hzB hlB
  walk_at "rd"
  refine ⟨rf3.tb, fun HL4 eN4 TL4 R4 hR4 => ?_⟩
  have rL4 := rf3.extN eN4 TL4
  obtain ⟨_, _, _, _, raw4⟩ := rL4.raw
  refine ⟨_, rfl, _, _, _, rfl, raw4, rfl, _, rfl, _, _, _, _, rfl, rL4.st, .inr ⟨rL4.odd.ns G hne, fun dd HE4 sE4 nd ed => .inl ⟨rfl, dd, _, rfl, ed, fun t4 ht4 => ?_⟩⟩⟩
  have eE4 := eN4.trans (LamX.ExtN.of (sE4.trans (Same.new (o := .tup [.str "step", .str "step"]) ht4)))
  have rf4 := (rL4.ext sE4).ext (Same.new (o := .tup [.str "step", .str "step"]) ht4)
  have tp4 : upd HE4 t4 (.tup [.str "step", .str "step"]) t4 = some (.tup [.str "step", .str "step"]) := upd_same
  walk_at "rd"
  refine ⟨rf4.tb, fun HL5 eN5 TL5 R5 hR5 => ?_⟩
  have rL5 := rf4.extN eN5 TL5
  obtain ⟨_, _, _, _, raw5⟩ := rL5.raw
  refine ⟨_, rfl, _, _, _, rfl, raw5, rfl, _, rfl, _, _, _, _, rfl, rL5.st, .inr ⟨rL5.odd.ns G hne, fun dd HE5 sE5 nd ed => .inl ⟨rfl, dd, _, rfl, ed, fun t5 ht5 => ?_⟩⟩⟩
  have eE5 := eN5.trans (LamX.ExtN.of (sE5.trans (Same.new (o := .tup [.str "step", .str "step"]) ht5)))
  have rf5 := (rL5.ext sE5).ext (Same.new (o := .tup [.str "step", .str "step"]) ht5)
  have tp5 : upd HE5 t5 (.tup [.str "step", .str "step"]) t5 = some (.tup [.str "step", .str "step"]) := upd_same
  have tp4_5 := eE5 _ _ tp4 (fun _ z => by cases z)
  walk_at "rd"
  intro LA hLA
  have qLA1 := Same.new (o := .lst [.ref t4, .ref t5]) hLA
  have aLAx := qLA1 _ _ tp4_5
  have aLAy := qLA1 _ _ tp5
  have rf60 := rf5.ext qLA1
  walk_at "rd"
  intro uLA huLA
  have qLA2 := Same.new (o := .tup [.str "step", .str "step"]) huLA
  walk_at "rd"
  intro vLA hvLA
  have qLA3 := Same.new (o := .tup [.str "step", .str "step"]) hvLA
  walk_at "rd"
  intro wLA hwLA
  have qLA4 := Same.new (o := .lst [.ref uLA, .ref vLA]) hwLA
  have qqLA := (qLA2.trans qLA3).trans qLA4
  have bLA := qqLA LA (.lst [.ref t4, .ref t5]) upd_same
  have bLAx := qqLA _ _ aLAx
  have bLAy := qqLA _ _ aLAy
  have bLAu := (qLA3.trans qLA4) uLA (.tup [.str "step", .str "step"]) upd_same
  have bLAv := qLA4 vLA (.tup [.str "step", .str "step"]) upd_same
  have rf6 := rf60.ext qqLA
  refine ⟨_, _, .lst (SqL.of bLA) (.cons (.tup (SqT.of bLAx) (.cons (.str _) (.cons (.str _) .nil))) (.cons (.tup (SqT.of bLAy) (.cons (.str _) (.cons (.str _) .nil))) .nil)),
    .lst (SqL.of upd_same) (.cons (.tup (SqT.of bLAu) (.cons (.str _) (.cons (.str _) .nil))) (.cons (.tup (SqT.of bLAv) (.cons (.str _) (.cons (.str _) .nil))) .nil)), shA, shA, ?_⟩
  rw [eqr2 shA]
  walk_at "rd"
  refine ⟨rf6.tb, fun HL7 eN7 TL7 R7 hR7 => ?_⟩
  have rL7 := rf6.extN eN7 TL7
  obtain ⟨_, _, _, _, raw7⟩ := rL7.raw
  refine ⟨_, rfl, _, _, _, rfl, raw7, rfl, _, rfl, _, _, _, _, _, rfl, rL7.st, .inr (.inl ⟨rL7.odd.ns G hne, fun dd HE7 sE7 nd ed => .inl ⟨rfl, dd, _, rfl, ed, fun t7 ht7 => ?_⟩⟩)⟩
  have eE7 := eN7.trans (LamX.ExtN.of (sE7.trans (Same.new (o := .tup [.str "step", .str "one"]) ht7)))
  have rf7 := (rL7.ext sE7).ext (Same.new (o := .tup [.str "step", .str "one"]) ht7)
  have tp7 : upd HE7 t7 (.tup [.str "step", .str "one"]) t7 = some (.tup [.str "step", .str "one"]) := upd_same
  walk_at "rd"
  refine ⟨rf7.tb, fun HL8 eN8 TL8 R8 hR8 => ?_⟩
  have rL8 := rf7.extN eN8 TL8
  obtain ⟨_, _, _, _, raw8⟩ := rL8.raw
  refine ⟨_, rfl, _, _, _, rfl, raw8, rfl, _, rfl, _, rfl, _, _, _, _, _, rfl, rL8.st, .inr (.inr ⟨_, _, rL8.good, rL8.odd.ns G hne, fun dd HE8 sE8 nd ed => .inl ⟨rfl, dd, _, rfl, ed, fun t8 ht8 => ?_⟩⟩)⟩
  have eE8 := eN8.trans (LamX.ExtN.of (sE8.trans (Same.new (o := .tup [.str "step", .str "other"]) ht8)))
  have rf8 := (rL8.ext sE8).ext (Same.new (o := .tup [.str "step", .str "other"]) ht8)
  have tp8 : upd HE8 t8 (.tup [.str "step", .str "other"]) t8 = some (.tup [.str "step", .str "other"]) := upd_same
  have tp7_8 := eE8 _ _ tp7 (fun _ z => by cases z)
  walk_at "rd"
  intro LB hLB
  have qLB1 := Same.new (o := .lst [.ref t7, .ref t8]) hLB
  have aLBx := qLB1 _ _ tp7_8
  have aLBy := qLB1 _ _ tp8
  have rf90 := rf8.ext qLB1
  walk_at "rd"
  intro uLB huLB
  have qLB2 := Same.new (o := .tup [.str "step", .str "one"]) huLB
  walk_at "rd"
  intro vLB hvLB
  have qLB3 := Same.new (o := .tup [.str "step", .str "other"]) hvLB
  walk_at "rd"
  intro wLB hwLB
  have qLB4 := Same.new (o := .lst [.ref uLB, .ref vLB]) hwLB
  have qqLB := (qLB2.trans qLB3).trans qLB4
  have bLB := qqLB LB (.lst [.ref t7, .ref t8]) upd_same
  have bLBx := qqLB _ _ aLBx
  have bLBy := qqLB _ _ aLBy
  have bLBu := (qLB3.trans qLB4) uLB (.tup [.str "step", .str "one"]) upd_same
  have bLBv := qLB4 vLB (.tup [.str "step", .str "other"]) upd_same
  have rf9 := rf90.ext qqLB
  refine ⟨_, _, .lst (SqL.of bLB) (.cons (.tup (SqT.of bLBx) (.cons (.str _) (.cons (.str _) .nil))) (.cons (.tup (SqT.of bLBy) (.cons (.str _) (.cons (.str _) .nil))) .nil)),
    .lst (SqL.of upd_same) (.cons (.tup (SqT.of bLBu) (.cons (.str _) (.cons (.str _) .nil))) (.cons (.tup (SqT.of bLBv) (.cons (.str _) (.cons (.str _) .nil))) .nil)), shB, shB, ?_⟩
  rw [eqr2 shB]
  walk_at "rd"
  refine ⟨rf9.tb, fun HL10 eN10 TL10 R10 hR10 => ?_⟩
  have rL10 := rf9.extN eN10 TL10
  obtain ⟨_, _, _, _, raw10⟩ := rL10.raw
  refine ⟨_, rfl, _, _, _, rfl, raw10, rfl, _, rfl, _, rfl, _, _, _, _, _, rfl, rL10.st, .inr (.inl ⟨rL10.odd.ns G hne, fun dd HE10 sE10 nd ed => .inl ⟨rfl, dd, _, rfl, ed, fun t10 ht10 => ?_⟩⟩)⟩
  have eE10 := eN10.trans (LamX.ExtN.of (sE10.trans (Same.new (o := .tup [.str "step", .str "one"]) ht10)))
  have rf10 := (rL10.ext sE10).ext (Same.new (o := .tup [.str "step", .str "one"]) ht10)
  have tp10 : upd HE10 t10 (.tup [.str "step", .str "one"]) t10 = some (.tup [.str "step", .str "one"]) := upd_same
  have bLB_10 := eE10 _ _ bLB (fun _ z => by cases z)
  have bLBx_10 := eE10 _ _ bLBx (fun _ z => by cases z)
  have bLBy_10 := eE10 _ _ bLBy (fun _ z => by cases z)
  walk_at "rd"
  refine ⟨rf10.tb, fun HL11 eN11 TL11 R11 hR11 => ?_⟩
  have rL11 := rf10.extN eN11 TL11
  obtain ⟨_, _, _, _, raw11⟩ := rL11.raw
  refine ⟨_, rfl, _, _, _, rfl, raw11, rfl, ?_⟩
  intro xS dS nS ndS neS
  refine ⟨xS, dS, 0, 1, rfl, upd_same, by omega, fun HS kS eS => ⟨rfl, ?_⟩⟩
  have sS : Same HL11 HS := same_new nS ndS kS
  have rS := rL11.ext sS
  refine ⟨_, rfl, _, _, _, _, _, rfl, rS.st, .inr (.inr ⟨0, 1, ⟨xS, rfl, ⟨dS, eS⟩, by decide, by decide⟩, rS.odd.ns G hne, fun dd HE11 sE11 nd ed => .inl ⟨rfl, dd, _, rfl, ed, fun t11 ht11 => ?_⟩⟩)⟩
  have eE11 := eN11.trans (LamX.ExtN.of (sS.trans (sE11.trans (Same.new (o := .tup [.str "step", .str "other"]) ht11))))
  have tp11 : upd HE11 t11 (.tup [.str "step", .str "other"]) t11 = some (.tup [.str "step", .str "other"]) := upd_same
  have c10 := eE11 _ _ tp10 (fun _ z => by cases z)
  have cB := eE11 _ _ bLB_10 (fun _ z => by cases z)
  have cBx := eE11 _ _ bLBx_10 (fun _ z => by cases z)
  have cBy := eE11 _ _ bLBy_10 (fun _ z => by cases z)
  walk_at "rd"
  intro LC hLC
  have qC := Same.new (o := .lst [.ref t10, .ref t11]) hLC
  refine ⟨_, rfl, _, _, .lst (SqL.of upd_same) (.cons (.tup (SqT.of (qC _ _ c10)) (.cons (.str _) (.cons (.str _) .nil))) (.cons (.tup (SqT.of (qC _ _ tp11)) (.cons (.str _) (.cons (.str _) .nil))) .nil)),
    .lst (SqL.of (qC _ _ cB)) (.cons (.tup (SqT.of (qC _ _ cBx)) (.cons (.str _) (.cons (.str _) .nil))) (.cons (.tup (SqT.of (qC _ _ cBy)) (.cons (.str _) (.cons (.str _) .nil))) .nil)), shB, shB, ?_⟩
  rw [eqr2 shB]
  exact q _
end
end Sp
end
section
set_option Elab.async false
set_option linter.all false
set_option exponentiation.threshold 5000
set_option maxRecDepth 100000
set_option maxHeartbeats 0
local macro_rules | `(tactic| walk_at "leaf") => `(tactic| first | rfl | assumption | exact True.intro | exact L2.upd_same | exact L2.ClsV.ty _ | exact L2.ClsV.own _ | decide | exact of_decide_eq_true rfl | exact L2.SqL.of (by assumption) | exact L2.SqL.of L2.upd_same | exact Or.inl (L2.SqL.of L2.upd_same) | exact Or.inl (L2.SqL.of (by assumption)) | exact L2.SqT.of (by assumption) | exact L2.SqT.of L2.upd_same | exact Sp.cmL (by decide) | exact Sp.cmR (by decide) | exact ⟨by decide, by decide, by decide⟩ | exact ⟨by decide, by decide⟩ | omega | fail)
local macro_rules | `(tactic| walk_at "rd1") => `(tactic| first
  | refine Sp.rbR (by assumption) (by assumption) (by assumption) (by assumption) ?_
  | apply Sp.exI
  | (refine And.intro ?lf ?_; (case lf => walk_at "leaf"))
  | fail)
local macro_rules | `(tactic| walk_at "rd") => `(tactic| repeat (walk_at "rd1"))
local macro_rules | `(tactic| walk_at "fR") => `(tactic| (have := (‹Sp.G0 _ _›).R.cl; have := (‹Sp.G0 _ _›).R.no "top" (by simp); have := (‹Sp.G0 _ _›).R.no "bottom" (by simp)))
local macro_rules | `(tactic| walk_at "fS") => `(tactic| (have := (‹Sp.G0 _ _›).S.cl; have := (‹Sp.G0 _ _›).S.no "studs" (by simp); have := (‹Sp.G0 _ _›).S.no "rounds" (by simp); have := (‹Sp.G0 _ _›).S.no "divisor" (by simp); have := (‹Sp.G0 _ _›).S.no "is_round" (by simp)))
local macro_rules | `(tactic| walk_at "fT") => `(tactic| (have := (‹Sp.G0 _ _›).T.cl; have := (‹Sp.G0 _ _›).T.no "turn" (by simp); have := (‹Sp.G0 _ _›).T.no "squared" (by simp); have := (‹Sp.G0 _ _›).T.no "rise" (by simp)))
namespace Sp
open PySem PySem.Spec PyProof.Rows L2
section
variable {P : Program} {w : World} {K : PySem.W.Frag} {mg : Str → Option Value} {base : Heap} {f : Addr} {fd : FuncData}
variable (g_is_integer : GD P w K mg base (L2.CX P w) 1 "is_integer" ["value"] [] (spIsInt K)) (g_sign_of : GD P w K mg base (L2.CX P w) 1 "sign_of" ["number"] [] spSign)
  (g_is_ratio : GD P w K mg base (L2.CX P w) 2 "is_ratio" ["value"] [] (spIsRat K)) (g_at_right : GD P w K mg base (L2.CX P w) 6 "at_right" ["value"] [] (spOf K))
  (g_xBadRatio : GX P w K mg base 1 "BadRatio" "part" (cX K "BadRatio")) (g_xBadStep : GX P w K mg base 1 "BadStep" "part" (cX K "BadStep")) (g_xRound : GX P w K mg base 1 "Round" "part" (cX K "Round")) (g_xBadStem : GX P w K mg base 1 "BadStem" "part" (cX K "BadStem"))
  (g_mRatio : GM P w K mg base (L2.CX P w) 3 "Ratio" (cR K) ["self", "top", "bottom"] [] (spInitR K)) (g_mRatio1 : GM P w K mg base (L2.CX P w) 3 "Ratio" (cR K) ["self", "top", "bottom"] [.int 1] (spInitR K))
  (g_Ratio_of : GS P w K mg base (L2.CX P w) 5 (cR K) "of" (spOf K)) (g_R_compared : GH P w K mg base (L2.CX P w) 7 (cR K) "compared" ["self", "other"] (spCmp K))
variable (g_radd : GO P w K mg base (L2.CX P w) 7 (cR K) .Add (spBinR K (· + ·))) (g_rsub : GO P w K mg base (L2.CX P w) 7 (cR K) .Sub (spBinR K (· - ·))) (g_rmul : GO P w K mg base (L2.CX P w) 7 (cR K) .Mult (spBinR K (· * ·)))
  (g_rabs : GN P w K mg base (L2.CX P w) 5 (cR K) "__abs__" (spAbs K)) (g_req : GN P w K mg base (L2.CX P w) 2 (cR K) "__eq__" (spEqR K)) (g_R_sign : GP P w K mg base (L2.CX P w) 2 (cR K) "sign" (spSgn K)) (g_R_is_below : GH P w K mg base (L2.CX P w) 8 (cR K) "is_below" ["self", "other"] (spBelow K))
variable (g_mStep : GM P w K mg base (L2.CX P w) 3 "Step" (cS K) ["self", "studs", "rounds"] [] (spInitS K)) (g_mStem : GM P w K mg base (L2.CX P w) 8 "Stem" (cT K) ["self", "turn", "squared"] [] (spInitT K))
  (g_need_step : GD P w K mg base (L2.CX P w) 3 "need_step" ["value", "part"] [] (spNeedS K)) (g_need_studs : GD P w K mg base (L2.CX P w) 3 "need_studs" ["step", "part"] [] (spNeedK K)) (g_summed : GD P w K mg base (L2.CX P w) 5 "summed" ["studs", "rounds"] [] (spSummed K))
  (g_cross : GD P w K mg base (L2.CX P w) 4 "cross" ["one", "other"] [] (spCross K)) (g_sadd : GO P w K mg base (L2.CX P w) 6 (cS K) .Add (spAddS K))
  (g_T_product : GH P w K mg base (L2.CX P w) 8 (cT K) "product" ["self", "one", "other"] (spProd K)) (g_T_lean : GH P w K mg base (L2.CX P w) 8 (cT K) "lean" ["self", "step"] (spLean K))
  (g_T_square : GH P w K mg base (L2.CX P w) 9 (cT K) "square" ["self", "step"] (spSq K)) (g_T_is_steeper : GH P w K mg base (L2.CX P w) 9 (cT K) "is_steeper" ["self", "one", "other"] (spSteep K))
variable (g_l_dip : GD P w K mg base (L2.CX P w) 1 "_law_dip" ["_law_pail_here", "_law_many"] [] spDip) (g_l_sized : GD P w K mg base (L2.CX P w) 2 "_law_sized" ["_law_pail_here", "_law_many"] [] spSized)
  (g_l_pail : GD P w K mg base (L2.CX P w) 1 "_law_pail" ["_law_script"] [] (spPail K)) (g_l_post : GD P w K mg base (L2.CX P w) 2 "_law_post" ["_law_pail_here"] [] spPost)
  (g_l_laid : GD P w K mg base (L2.CX P w) 1 "_law_laid" ["_law_post_here", "_law_one", "_law_other"] [] spLaid) (g_l_is : GD P w K mg base (L2.CX P w) 1 "_law_is" ["_law_ratio", "_law_pair"] [] (spIs K))
  (g_l_steps : GD P w K mg base (L2.CX P w) 3 "_law_steps" ["_law_pail_here"] [] spSteps)

variable {T : List (Addr × Str)} (g_l_pair_right : GD P w K mg base (L2.CX P w) 12 "_law_pair_right" ["_law_post_here", "_law_stem", "_law_one", "_law_other"] [] (spPairR K T)) (g_l_refused_right : GD P w K mg base (L2.CX P w) 12 "_law_refused_right" ["_law_pail_here", "_law_stem", "_law_pair"] [] (spRefR K T))
theorem for_enum {K : PySem.W.Frag} {a : Addr} {xs : List V} {g : TG} {tb : TS} {D : Ends} {σ : L2.St} {H : Hp} (Pv : Nat → L2.St → Hp → Prop) (h0 : Pv 0 σ H) (hl : ∀ i σ H, i ≤ xs.length → Pv i σ H → SqL K H a xs)
    (hs : ∀ i x σ H T, xs[i]? = some x → Pv i σ H → H T = none → g (.ref T) σ (upd H T (.tup [.int (i : Nat), x])) fun σ2 H2 => tb { D with nx := Pv (i + 1), ct := Pv (i + 1), bk := D.nx } σ2 H2) (hd : ∀ σ H, Pv xs.length σ H → D.nx σ H) :
    ∃ W : Nat → Nat → L2.St → Hp → Prop, (∃ m, W 0 m σ H) ∧ ∀ i m σ H, W i m σ H →
      ((Ite K a).stop i H ∧ D.nx σ H) ∨ ((Ite K a).go i H ∧ ∃ N : L2.St → Hp → Prop, (∀ σ' H', N σ' H' → ∃ m', m' < m ∧ W (i + 1) m' σ' H') ∧ ∀ x H', (Ite K a).yld i H x H' → g x σ H' fun σ2 H2 => tb { D with nx := N, ct := N, bk := D.nx } σ2 H2) := by
  refine ⟨fun i m σ H => m = xs.length - i ∧ i ≤ xs.length ∧ Pv i σ H, ⟨xs.length, by simp, Nat.zero_le _, h0⟩, ?_⟩
  rintro i m σ H ⟨rfl, hi, p⟩
  have q := hl i σ H hi p
  by_cases hlt : i < xs.length
  · refine .inr ⟨⟨xs, xs[i], q, by simp [hlt]⟩, Pv (i + 1), fun σ' H' p' => ⟨xs.length - (i + 1), by omega, rfl, hlt, p'⟩, fun x H' y => ?_⟩
    obtain ⟨T, z, rfl, hT, rfl, hz⟩ := y
    exact hs i z σ H T (hz xs q) p hT
  · have e : i = xs.length := by omega
    subst e
    exact .inl ⟨⟨xs, q, Nat.le_refl _⟩, hd σ H p⟩
structure Fc (K : PySem.W.Frag) (T : List (Addr × Str)) (H : Hp) (a c p st l : Addr) (ts : List Addr) (N : Nat) (t b r u : Int) : Prop where
  pail : Pail H a c N
  hp : H p = some (.tup [.int t, .int b, .int r, .int u])
  st : IsT K H st (tD t b) (tF t b r u)
  sts : Sts H l ts
  tb : LamX.Tabs T H
theorem Fc.extN {H H' : Hp} {a c p st l : Addr} {ts : List Addr} {N : Nat} {t b r u : Int} (h : Fc K T H a c p st l ts N t b r u) (e : LamX.ExtN H H') (tb : LamX.Tabs T H') : Fc K T H' a c p st l ts N t b r u :=
  ⟨let ⟨cs, n, g, h1, h2, h3⟩ := h.pail; ⟨cs, n, g, e _ _ h1 (fun _ z => by cases z), e _ _ h2 (fun _ z => by cases z), h3⟩, e _ _ h.hp (fun _ z => by cases z), exT2 h.st e,
    ⟨e _ _ h.sts.1 (fun _ z => by cases z), fun x hx => let ⟨k, j, e1, r⟩ := h.sts.2 x hx; ⟨k, j, e _ _ e1 (fun _ z => by cases z), r⟩⟩, tb⟩
theorem Fc.ext {H H' : Hp} {a c p st l : Addr} {ts : List Addr} {N : Nat} {t b r u : Int} (h : Fc K T H a c p st l ts N t b r u) (e : Same H H') : Fc K T H' a c p st l ts N t b r u := h.extN (LamX.ExtN.of e) (h.tb.ext e)
def spLaw (K : PySem.W.Frag) (T : List (Addr × Str)) : Sp := fun vs H Q _ => ∃ (a : Addr) (ns : List Int), vs = [.ref a] ∧ SqL K H a (ns.map V.int) ∧ LamX.Tabs T H ∧ ∀ H', Q (.bl true) H'
theorem sc_law : FnScope ["_law_script", "_law_pail_here", "_law_post_here", "_law_top", "_law_bottom", "_law_rise", "_law_under", "_law_stem", "_law_steps_here", "_law_at", "_law_one", "_law_other"] ["_law_script"] (defScope (topS 48)) := ⟨rfl, rfl, rfl, by decide +kernel, rfl, by decide +kernel, by decide +kernel⟩
include g_l_is g_l_pail g_l_pair_right g_l_post g_l_refused_right g_l_steps g_mRatio g_mStem in
theorem ok_law (G : G0 K mg) (F : FP K "law" "law" (topS 48) [] f fd) : FnOk P w K mg base (L2.CX P w) 13 f fd ["_law_script"] (spLaw K T) := by
  have nd := sc_law.nd
  refine F.ok sc_law (fun vs H Q E h => by obtain ⟨_, _, rfl, _⟩ := h; rfl) (fun cdv A outer s H vs Q E hr h => ⟨_, pss_cons (ps_set (i := 1) nd rfl (Or.inl rfl) (pe_gd g_l_pail (hr.mono (by decide)) rfl (pxE rfl rfl rfl rfl) (pa_cons (pv 0) (pa_nil)))) (pss_cons (ps_set (i := 2) nd rfl (Or.inl rfl) (pe_gd g_l_post (hr.mono (by decide)) rfl (pxE rfl rfl rfl rfl) (pa_cons (pv 1) (pa_nil)))) (pss_cons (ps_asg (pv 2) (pg_tup rfl (pgs_cons (pg_name (i := 3) nd rfl (Or.inl rfl)) (pgs_cons (pg_name (i := 4) nd rfl (Or.inl rfl)) (pgs_cons (pg_name (i := 5) nd rfl (Or.inl rfl)) (pgs_cons (pg_name (i := 6) nd rfl (Or.inl rfl)) (pgs_nil))))))) (pss_cons (ps_set (i := 7) nd rfl (Or.inl rfl) (pe_gm g_mStem (hr.mono (by decide)) rfl (pxE rfl rfl rfl rfl) (pa_cons (pe_gm g_mRatio (hr.mono (by decide)) rfl (pxE rfl rfl rfl rfl) (pa_cons (pv 3) (pa_cons (pv 4) (pa_nil)))) (pa_cons (pe_gm g_mRatio (hr.mono (by decide)) rfl (pxE rfl rfl rfl rfl) (pa_cons (pe_op op_add (pe_op op_mulB (pe_op op_mulB (pv 3) (pv 3)) (pv 6)) (pe_op op_mulB (pe_op op_mulB (pv 5) (pv 4)) (pv 4))) (pa_cons (pe_op op_mulB (pe_op op_mulB (pv 4) (pv 4)) (pv 6)) (pa_nil)))) (pa_nil))))) (pss_cons (ps_if (PW.pt (pw_or (pt_not (pt_val (pe_gd g_l_is (hr.mono (by decide)) rfl (pxE rfl rfl rfl rfl) (pa_cons (pe_fld (pv 7) rfl) (pa_cons (pe_tup (pa_cons (pv 5) (pa_cons (pv 6) (pa_nil)))) (pa_nil)))))) (pw_or1 (pt_not (pt_val (pe_gd g_l_is (hr.mono (by decide)) rfl (pxE rfl rfl rfl rfl) (pa_cons (pe_fld (pv 7) rfl) (pa_cons (pe_tup (pa_cons (pv 3) (pa_cons (pv 4) (pa_nil)))) (pa_nil))))))))) (pss_one (ps_ret (pe_bl))) (pss_nil)) (pss_cons (ps_set (i := 8) nd rfl (Or.inl rfl) (pe_gd g_l_steps (hr.mono (by decide)) rfl (pxE rfl rfl rfl rfl) (pa_cons (pv 1) (pa_nil)))) (pss_cons (ps_for ((passes_of rfl)) rfl (pi_enum rfl G.nm.enumerate (pa_cons (pv 8) pa_nil)) (pg_tup rfl (pgs_cons (pg_name (i := 9) nd rfl (Or.inl rfl)) (pgs_cons (pg_name (i := 10) nd rfl (Or.inl rfl)) (pgs_nil)))) (pss_one (ps_for ((passes_of rfl)) rfl (pi_list (pe_slice sl_list (pv 8) (po_some (pv 9)) (po_none))) (pg_name (i := 11) nd rfl (Or.inl rfl)) (pss_one (ps_if (pt_not (pt_val (pe_gd g_l_pair_right (hr.mono (by decide)) rfl (pxE rfl rfl rfl rfl) (pa_cons (pv 2) (pa_cons (pv 7) (pa_cons (pv 10) (pa_cons (pv 11) (pa_nil)))))))) (pss_one (ps_ret (pe_bl))) (pss_nil)))))) (pss_one (ps_ret (pe_gd g_l_refused_right (hr.mono (by decide)) rfl (pxE rfl rfl rfl rfl) (pa_cons (pv 1) (pa_cons (pv 7) (pa_cons (pe_ix ix_list (pv 8) (pe_int) (fun _ _ => rfl)) (pa_nil))))))))))))), ?_⟩)
  obtain ⟨sa, ns, rfl, hS, hT, q⟩ := h
  walk_at "rd"
  intro a H1 s1 _ hp
  obtain ⟨c, p1⟩ := hp
  obtain ⟨xs1, ha1⟩ := p1.lst
  have T1 := hT.ext s1
  walk_at "rd"
  intro p H2 t b r u po hp2 p2 s2
  have T2 := tabsSb T1 ha1 s2
  have n1 := po.t
  have n2 := po.nb
  have n3 := po.nr
  have n4 := po.nu
  have c1 : CMulB t t := cm n1 n1
  have c2 : CMulB (t * t) u := cm (nb_mul n1 n1) n4
  have c3 : CMulB r b := cm n3 n2
  have c4 : CMulB (r * b) b := cm (nb_mul n3 n2) n2
  have c5 : CMulB b b := cm n2 n2
  have c6 : CMulB (b * b) u := cm (nb_mul n2 n2) n4
  have hb0 : b ≠ 0 := by have := po.b0; omega
  walk_at "rd"
  apply makeR2 hb0 (nb_le n1) (nb_le n2)
  intro ra H3 s3 _ ir3
  walk_at "rd"
  apply makeR2 po.lB (nb_le po.n1) (nb_le po.n2)
  intro rb H4 s4 _ ir4
  walk_at "rd"
  apply makeT2 (ir3.ext s4) ir4 po.szD po.szF po.rise_pos
  intro st H5 s5 _ it5
  have s25 := (s3.trans s4).trans s5
  have p5 := p2.ext s25
  have hp5 := s25 _ _ hp2
  have T5 := T2.ext s25
  obtain ⟨_, pa, pb, pc, hraw5, ia5, ib5, ic5⟩ := id it5
  walk_at "fT"
  walk_at "rd"
  intro z1 hz1
  have s6 := Same.new (o := .tup [.int r, .int u]) hz1
  have ic6 := ic5.ext s6
  have eq6 := po.rise_eq
  have sz6 : Sz (tF t b r u - tD t b * tD t b) 1900 := (sz_sub (k := 200) po.szF (sz_mul (k := 80) po.szD po.szD)).mono
  have zr : r.natAbs < 2 ^ 1900 := nb_le n3
  have zu : u.natAbs < 2 ^ 1900 := nb_le n4
  have zt : t.natAbs < 2 ^ 1900 := nb_le n1
  have zb : b.natAbs < 2 ^ 1900 := nb_le n2
  have hu0 : u ≠ 0 := by have := po.u0; omega
  have hraw6 := s6 _ _ hraw5
  walk_at "rd"
  intro z2 hz2
  have s7 := Same.new (o := .tup [.int t, .int b]) hz2
  have ia7 := (ia5.ext s6).ext s7
  have eq7 : tD t b = Rat.divInt t b := rfl
  have sz7 : Sz (tD t b) 1900 := po.szD.mono
  have p7 := (p5.ext s6).ext s7
  have hN0 : 0 + 6 ≤ 800000 := by decide
  walk_at "rd"
  intro l ts H8 hlen hsts p8 s8
  obtain ⟨xs7, ha7⟩ := p7.lst
  have s57 := s6.trans s7
  have T8 := tabsSb (T5.ext s57) ha7 s8
  have hp8 := s8 _ _ (fun e => by have h2 := ha7; rw [← e, s57 _ _ hp5] at h2; cases h2) (s57 _ _ hp5)
  have st8 := (stSb ⟨(it5.ext s57), po.szD, po.szF⟩ ha7 s8).1
  have fc8 : Fc K T H8 a c p st l ts 36 t b r u := ⟨p8, hp8, st8, hsts, T8⟩
  have hl8 := hsts.1
  clear T1 T2 T5 s25 s6 s7 s57 ir3 ir4 ia5 ib5 ic5 ia7 ic6 hraw5 hraw6 p5 p7 p2 p1 hp5 hp2
  walk_at "rd"
  refine for_enum (xs := ts.map V.ref) (fun i σ Hh => ∃ x9 x10 x11, σ = [some (V.ref sa), some (V.ref a), some (V.ref p), some (V.int t), some (V.int b), some (V.int r), some (V.int u), some (V.ref st), some (V.ref l), x9, x10, x11] ∧ Fc K T Hh a c p st l ts 36 t b r u) ⟨_, _, _, rfl, fc8⟩ ?_ ?_ ?_
  · intro i σ Hh _ hP
    obtain ⟨x9, x10, x11, rfl, fc⟩ := hP
    exact SqL.of fc.sts.1
  · intro i x σ Hh T' hx hP hT'
    obtain ⟨x9, x10, x11, rfl, fc⟩ := hP
    rw [List.getElem?_map] at hx
    obtain ⟨o, ho, rfl⟩ := Option.map_eq_some_iff.mp hx
    have fc1 := fc.ext (Same.new (o := .tup [.int (i : Nat), .ref o]) hT')
    have hl1 := fc1.sts.1
    obtain ⟨k, j, eo, ro⟩ := fc1.sts.2 o (List.mem_of_getElem? ho)
    walk_at "rd"
    intro L hL
    have fc2 := fc1.ext (Same.new (o := .lst (cutV (ts.map V.ref) (some (i : Int)) none)) hL)
    obtain ⟨us, eu, hus⟩ : ∃ us : List Addr, cutV (ts.map V.ref) (some (i : Int)) none = us.map V.ref ∧ ∀ y ∈ us, y ∈ ts := by
      unfold cutV
      rw [← List.map_drop, ← List.map_take]
      exact ⟨_, rfl, fun y hy => List.mem_of_mem_drop (List.mem_of_mem_take hy)⟩
    have hL2 : upd (upd Hh T' (.tup [.int (i : Nat), .ref o])) L (.lst (cutV (ts.map V.ref) (some (i : Int)) none)) L = some (.lst (us.map V.ref)) := by rw [← eu]; exact upd_same
    refine ⟨_, rfl, ⟨_, SqL.of hL2⟩, ?_⟩
    refine for_list (K := K) (a := L) (xs := us.map V.ref) (fun m σ Hn => ∃ x11, σ = [some (V.ref sa), some (V.ref a), some (V.ref p), some (V.int t), some (V.int b), some (V.int r), some (V.int u), some (V.ref st), some (V.ref l), some (.int (i : Nat)), some (.ref o), x11] ∧ Fc K T Hn a c p st l ts 36 t b r u ∧ Hn L = some (.lst (us.map V.ref))) ⟨_, rfl, fc2, hL2⟩ ?_ ?_ ?_
    · intro m σ Hn _ hP
      obtain ⟨x11, rfl, fcn, hLn⟩ := hP
      exact SqL.of hLn
    · intro m x σ Hn hx hP
      obtain ⟨x11, rfl, fcn, hLn⟩ := hP
      rw [List.getElem?_map] at hx
      obtain ⟨y, hy, rfl⟩ := Option.map_eq_some_iff.mp hx
      obtain ⟨k1, j1, e1, r1⟩ := fcn.sts.2 o (List.mem_of_getElem? ho)
      obtain ⟨k2, j2, e2, r2⟩ := fcn.sts.2 y (hus y (List.mem_of_getElem? hy))
      have q1 : St2 Hn o k1 j1 := ⟨e1, r1⟩
      have q2 : St2 Hn y k2 j2 := ⟨e2, r2⟩
      have hpn := fcn.hp
      have stn := fcn.st
      have tbn := fcn.tb
      walk_at "rd"
      intro H' eN tb'
      have fc' := fcn.extN eN tb'
      have hL' := eN _ _ hLn (fun _ z => by cases z)
      walk_at "rd"
      first
        | exact hL'
        | exact ⟨fc', hL'⟩
        | exact ⟨_, rfl, fc', hL'⟩
    · intro σ Hn hP
      obtain ⟨x11, rfl, fcn, hLn⟩ := hP
      exact ⟨_, _, _, rfl, fcn⟩
  · intro σ Hh hP
    obtain ⟨x9, x10, x11, rfl, fc⟩ := hP
    have hl9 := fc.sts.1
    match ts, hlen with
    | [z0, z1', z2'], _ =>
      obtain ⟨k, j, e1, r1⟩ := fc.sts.2 z0 List.mem_cons_self
      have q1 : St2 Hh z0 k j := ⟨e1, r1⟩
      have p9 := fc.pail
      have st9 : ST K Hh st (tD t b) (tF t b r u) := ⟨fc.st, po.szD, po.szF⟩
      have tb9 := fc.tb
      have h36 : 36 ≤ 900000 := by decide
      walk_at "rd"
      exact q
end
end Sp
end
section
set_option Elab.async false
set_option linter.all false
set_option maxRecDepth 100000
set_option maxHeartbeats 0
namespace Sp
open PySem PySem.Spec PyProof.Rows L2
open PySem.W (Frag)
section
variable {P : Program} {w : World} {K : PySem.W.Frag} {mg : Str → Option Value} {base : Heap} {f : Addr} {fd : FuncData}
theorem sc_xi_BadRatio : FnScope ["self", "part"] ["self", "part"] (defScope (inClass (topS 4) 0)) := ⟨rfl, rfl, rfl, by decide +kernel, rfl, by decide +kernel, by decide +kernel⟩
theorem ok_xi_BadRatio {C : Addr} (T : OexC K C) (hno : PySem.W.findIn K (.ref C) "part" = some none) (F : FP K "__init__" "BadRatio.__init__" (inClass (topS 4) 0) [] f fd) : FnOk P w K mg base (L2.CX P w) 1 f fd ["self", "part"] (spI1 C "part") := by
  refine F.ok sc_xi_BadRatio (fun vs H Q E h => by obtain ⟨_, _, rfl, _⟩ := h; rfl) (fun cdv A outer s H vs Q E hr h => ⟨_, pss_one (ps_ost (pv 0) (pv 1)), ?_⟩)
  obtain ⟨a, v, rfl, ha, q⟩ := h
  exact ⟨_, rfl, _, rfl, a, C, rfl, T, hno, .inl ⟨ha, fun dx n ne => q dx n ne⟩⟩
theorem sc_xi_BadStep : FnScope ["self", "part"] ["self", "part"] (defScope (inClass (topS 5) 0)) := ⟨rfl, rfl, rfl, by decide +kernel, rfl, by decide +kernel, by decide +kernel⟩
theorem ok_xi_BadStep {C : Addr} (T : OexC K C) (hno : PySem.W.findIn K (.ref C) "part" = some none) (F : FP K "__init__" "BadStep.__init__" (inClass (topS 5) 0) [] f fd) : FnOk P w K mg base (L2.CX P w) 1 f fd ["self", "part"] (spI1 C "part") := by
  refine F.ok sc_xi_BadStep (fun vs H Q E h => by obtain ⟨_, _, rfl, _⟩ := h; rfl) (fun cdv A outer s H vs Q E hr h => ⟨_, pss_one (ps_ost (pv 0) (pv 1)), ?_⟩)
  obtain ⟨a, v, rfl, ha, q⟩ := h
  exact ⟨_, rfl, _, rfl, a, C, rfl, T, hno, .inl ⟨ha, fun dx n ne => q dx n ne⟩⟩
theorem sc_xi_Round : FnScope ["self", "part"] ["self", "part"] (defScope (inClass (topS 8) 0)) := ⟨rfl, rfl, rfl, by decide +kernel, rfl, by decide +kernel, by decide +kernel⟩
theorem ok_xi_Round {C : Addr} (T : OexC K C) (hno : PySem.W.findIn K (.ref C) "part" = some none) (F : FP K "__init__" "Round.__init__" (inClass (topS 8) 0) [] f fd) : FnOk P w K mg base (L2.CX P w) 1 f fd ["self", "part"] (spI1 C "part") := by
  refine F.ok sc_xi_Round (fun vs H Q E h => by obtain ⟨_, _, rfl, _⟩ := h; rfl) (fun cdv A outer s H vs Q E hr h => ⟨_, pss_one (ps_ost (pv 0) (pv 1)), ?_⟩)
  obtain ⟨a, v, rfl, ha, q⟩ := h
  exact ⟨_, rfl, _, rfl, a, C, rfl, T, hno, .inl ⟨ha, fun dx n ne => q dx n ne⟩⟩
theorem sc_xi_BadStem : FnScope ["self", "part"] ["self", "part"] (defScope (inClass (topS 6) 0)) := ⟨rfl, rfl, rfl, by decide +kernel, rfl, by decide +kernel, by decide +kernel⟩
theorem ok_xi_BadStem {C : Addr} (T : OexC K C) (hno : PySem.W.findIn K (.ref C) "part" = some none) (F : FP K "__init__" "BadStem.__init__" (inClass (topS 6) 0) [] f fd) : FnOk P w K mg base (L2.CX P w) 1 f fd ["self", "part"] (spI1 C "part") := by
  refine F.ok sc_xi_BadStem (fun vs H Q E h => by obtain ⟨_, _, rfl, _⟩ := h; rfl) (fun cdv A outer s H vs Q E hr h => ⟨_, pss_one (ps_ost (pv 0) (pv 1)), ?_⟩)
  obtain ⟨a, v, rfl, ha, q⟩ := h
  exact ⟨_, rfl, _, rfl, a, C, rfl, T, hno, .inl ⟨ha, fun dx n ne => q dx n ne⟩⟩
end
theorem nm_ok {K : Frag} {C : Addr} {m : Str} (h : nmB K C m = true) : PySem.W.findIn K (.ref C) m = some (some (.ref (He.ma K C m))) ∧ PySem.W.isFn K (.ref (He.ma K C m)) = true := by
  unfold nmB at h
  obtain ⟨h1, h2⟩ := He.ba h
  exact ⟨of_decide_eq_true h1, h2⟩
theorem code_of {K : Frag} {x qual : Str} {params : Arguments} {body : List Stmt} {scope : Scope} {fd : FuncData} (F : FunD K x qual params body scope [] [] (He.ga K x) fd) : fd.code = .ref (He.cT K (x, none)).1 := by
  obtain ⟨oc, od, dV, kV, doc, pm, an, cdv, ct, osl, rfl, lk, hcd, _, _⟩ := F.ex
  obtain ⟨c, rfl⟩ := He.codeIn_ref hcd
  exact congrArg Value.ref (He.codeOf_eq (p := (x, none)) lk rfl).symm
def TT (K : Frag) : List (Addr × Str) := [((He.cT K ("_law_pair_right", none)).2, qPr), ((He.cT K ("_law_refused_right", none)).2, qRf)]
theorem law_ok {P : Program} {w : World} {K : Frag} {mg : Str → Option Value} {base h : Heap} (c : SaysB h K) (KB : K.In base) (NB : base.Ns mainGlobals mg) (hpq : (He.cT K ("_law_pair_right", none)).2 ≠ (He.cT K ("_law_refused_right", none)).2)
    (TB : ∀ p ∈ tfL.map (He.cT K), LamX.TabB base mg p.1 p.2) {fd : FuncData} (F_law : FP K "law" "law" (topS 48) [] (He.ga K "law") fd) : FnOk P w K mg base (L2.CX P w) 13 (He.ga K "law") fd ["_law_script"] (spLaw K (TT K)) := by
  have fx : ∀ (i : Nat) (f : Frag → Bool), exL[i]? = some f → f K = true := fun i f h => c.ex f (List.mem_of_getElem? h)
  have gl : ∀ x : Str, x ∈ glL → mg x = some (.ref (He.ga K x)) := fun x hx => He.glo_ok KB NB (c.gl x hx)
  have fn : ∀ (i : Nat) (d : He5.DefA), fnL[i]? = some d → ∃ fd, FunD K d.name d.qual d.params d.body d.scope (d.dvs K) (d.kws K) (d.at_ K) fd := fun i d h => (c.fn d (List.mem_of_getElem? h)).elim fun h1 h2 => He5.DefA.funD h2 h1
  have nmf : Nm mg := ⟨He.free_ok KB NB (fx 0 _ rfl), He.free_ok KB NB (fx 1 _ rfl), He.free_ok KB NB (fx 2 _ rfl), He.free_ok KB NB (fx 3 _ rfl), He.free_ok KB NB (fx 4 _ rfl), He.free_ok KB NB (fx 5 _ rfl), He.free_ok KB NB (fx 6 _ rfl), He.free_ok KB NB (fx 7 _ rfl), He.free_ok KB NB (fx 8 _ rfl), He.free_ok KB NB (fx 9 _ rfl)⟩
  have G0 : G0 K mg := ⟨nmf, PySem.W.mg_of KB NB (of_decide_eq_true (fx 10 _ rfl)), cfB_ok (fx 11 _ rfl), cfB_ok (fx 12 _ rfl), cfB_ok (fx 13 _ rfl), He.glo_ok KB NB (fx 14 _ rfl), He.glo_ok KB NB (fx 15 _ rfl), He.glo_ok KB NB (fx 16 _ rfl),
    ktB_ok (fx 17 _ rfl), ktB_ok (fx 18 _ rfl), ktB_ok (fx 19 _ rfl), ktB_ok (fx 20 _ rfl), ktB_ok (fx 21 _ rfl), ktB_ok (fx 22 _ rfl)⟩
  have mx : ∀ x : Str, xB K x "part" = true → mg x = some (.ref (He.ga K x)) ∧ PySem.W.findIn K (.ref (He.ga K x)) "part" = some none := fun x hx => by
    obtain ⟨h1, hq⟩ := He.ba hx
    obtain ⟨h2, hq⟩ := He.ba hq
    obtain ⟨h3, hq⟩ := He.ba hq
    obtain ⟨h4, h5⟩ := He.ba hq
    exact ⟨He.glo_ok KB NB h2, He.noat_ok h5⟩
  have gE : GE K mg := ⟨of_decide_eq_true (fx 23 _ rfl), of_decide_eq_true (fx 24 _ rfl), of_decide_eq_true (fx 25 _ rfl), xfB_ok (fx 26 _ rfl), xfB_ok (fx 27 _ rfl), (mx "BadStep" (fx 29 _ rfl)).2, (mx "Round" (fx 30 _ rfl)).2, (mx "BadStep" (fx 29 _ rfl)).1, (mx "Round" (fx 30 _ rfl)).1⟩
  have hnf : PySem.W.notFirst K (cR K) (.ref (cR K)) = true := fx 32 _ rfl
  have hne : cT K ≠ cS K := of_decide_eq_true (fx 33 _ rfl)
  have huP : ∀ p ∈ TT K, p.1 = (He.cT K ("_law_pair_right", none)).2 → p.2 = qPr := fun p hp e => by
    rcases List.mem_cons.mp hp with rfl | hp
    · rfl
    · rw [List.mem_singleton.mp hp] at e
      exact absurd e.symm hpq
  have huR : ∀ p ∈ TT K, p.1 = (He.cT K ("_law_refused_right", none)).2 → p.2 = qRf := fun p hp e => by
    rcases List.mem_cons.mp hp with rfl | hp
    · exact absurd e hpq
    · rw [List.mem_singleton.mp hp]
  obtain ⟨fd_isInt, F_isInt⟩ := fn 0 _ rfl
  have F_isInt : FP K "is_integer" "is_integer" (topS 12) [] (He.ga K "is_integer") fd_isInt := F_isInt
  have b_isInt := FunD.bindsN (ps := ["value"]) F_isInt fun _ _ _ _ _ _ us hl => match us, hl with | [_], _ => rfl
  have g_is_integer := GD.mk (P := P) (w := w) (K := K) (mg := mg) (base := base) ⟨_, _, [], ok_isInt G0 F_isInt, gl "is_integer" (by decide +kernel), F_isInt.kp, b_isInt, .nil⟩
  obtain ⟨fd_sign, F_sign⟩ := fn 1 _ rfl
  have F_sign : FP K "sign_of" "sign_of" (topS 21) [] (He.ga K "sign_of") fd_sign := F_sign
  have b_sign := FunD.bindsN (ps := ["number"]) F_sign fun _ _ _ _ _ _ us hl => match us, hl with | [_], _ => rfl
  have g_sign_of := GD.mk (P := P) (w := w) (K := K) (mg := mg) (base := base) ⟨_, _, [], ok_sign F_sign, gl "sign_of" (by decide +kernel), F_sign.kp, b_sign, .nil⟩
  obtain ⟨fd_xBadRatio, F_xBadRatio⟩ := fn 34 _ rfl
  have F_xBadRatio : FP K "__init__" "BadRatio.__init__" (inClass (topS 4) 0) [] (He.ma K (He.ga K "BadRatio") "__init__") fd_xBadRatio := F_xBadRatio
  have b_xBadRatio := FunD.bindsN (ps := ["self", "part"]) F_xBadRatio fun _ _ _ _ _ _ us hl => match us, hl with | [_, _], _ => rfl
  have g_xBadRatio : GX P w K mg base 1 "BadRatio" "part" (cX K "BadRatio") := by
    obtain ⟨h1, hq⟩ := He.ba (show xB K "BadRatio" "part" = true from fx 28 _ rfl)
    obtain ⟨h2, hq⟩ := He.ba hq
    obtain ⟨h3, hq⟩ := He.ba hq
    obtain ⟨h4, h5⟩ := He.ba hq
    exact ⟨oexB_ok h1, He.glo_ok KB NB h2, _, _, of_decide_eq_true h3, of_decide_eq_true h4, ok_xi_BadRatio (oexB_ok h1) (He.noat_ok h5) F_xBadRatio, b_xBadRatio⟩
  obtain ⟨fd_xBadStep, F_xBadStep⟩ := fn 35 _ rfl
  have F_xBadStep : FP K "__init__" "BadStep.__init__" (inClass (topS 5) 0) [] (He.ma K (He.ga K "BadStep") "__init__") fd_xBadStep := F_xBadStep
  have b_xBadStep := FunD.bindsN (ps := ["self", "part"]) F_xBadStep fun _ _ _ _ _ _ us hl => match us, hl with | [_, _], _ => rfl
  have g_xBadStep : GX P w K mg base 1 "BadStep" "part" (cX K "BadStep") := by
    obtain ⟨h1, hq⟩ := He.ba (show xB K "BadStep" "part" = true from fx 29 _ rfl)
    obtain ⟨h2, hq⟩ := He.ba hq
    obtain ⟨h3, hq⟩ := He.ba hq
    obtain ⟨h4, h5⟩ := He.ba hq
    exact ⟨oexB_ok h1, He.glo_ok KB NB h2, _, _, of_decide_eq_true h3, of_decide_eq_true h4, ok_xi_BadStep (oexB_ok h1) (He.noat_ok h5) F_xBadStep, b_xBadStep⟩
  obtain ⟨fd_xRound, F_xRound⟩ := fn 36 _ rfl
  have F_xRound : FP K "__init__" "Round.__init__" (inClass (topS 8) 0) [] (He.ma K (He.ga K "Round") "__init__") fd_xRound := F_xRound
  have b_xRound := FunD.bindsN (ps := ["self", "part"]) F_xRound fun _ _ _ _ _ _ us hl => match us, hl with | [_, _], _ => rfl
  have g_xRound : GX P w K mg base 1 "Round" "part" (cX K "Round") := by
    obtain ⟨h1, hq⟩ := He.ba (show xB K "Round" "part" = true from fx 30 _ rfl)
    obtain ⟨h2, hq⟩ := He.ba hq
    obtain ⟨h3, hq⟩ := He.ba hq
    obtain ⟨h4, h5⟩ := He.ba hq
    exact ⟨oexB_ok h1, He.glo_ok KB NB h2, _, _, of_decide_eq_true h3, of_decide_eq_true h4, ok_xi_Round (oexB_ok h1) (He.noat_ok h5) F_xRound, b_xRound⟩
  obtain ⟨fd_xBadStem, F_xBadStem⟩ := fn 37 _ rfl
  have F_xBadStem : FP K "__init__" "BadStem.__init__" (inClass (topS 6) 0) [] (He.ma K (He.ga K "BadStem") "__init__") fd_xBadStem := F_xBadStem
  have b_xBadStem := FunD.bindsN (ps := ["self", "part"]) F_xBadStem fun _ _ _ _ _ _ us hl => match us, hl with | [_, _], _ => rfl
  have g_xBadStem : GX P w K mg base 1 "BadStem" "part" (cX K "BadStem") := by
    obtain ⟨h1, hq⟩ := He.ba (show xB K "BadStem" "part" = true from fx 31 _ rfl)
    obtain ⟨h2, hq⟩ := He.ba hq
    obtain ⟨h3, hq⟩ := He.ba hq
    obtain ⟨h4, h5⟩ := He.ba hq
    exact ⟨oexB_ok h1, He.glo_ok KB NB h2, _, _, of_decide_eq_true h3, of_decide_eq_true h4, ok_xi_BadStem (oexB_ok h1) (He.noat_ok h5) F_xBadStem, b_xBadStem⟩
  obtain ⟨fd_isRat, F_isRat⟩ := fn 2 _ rfl
  have F_isRat : FP K "is_ratio" "is_ratio" (topS 22) [] (He.ga K "is_ratio") fd_isRat := F_isRat
  have b_isRat := FunD.bindsN (ps := ["value"]) F_isRat fun _ _ _ _ _ _ us hl => match us, hl with | [_], _ => rfl
  have g_is_ratio := GD.mk (P := P) (w := w) (K := K) (mg := mg) (base := base) ⟨_, _, [], ok_isRat (g_is_integer := g_is_integer) G0 F_isRat, gl "is_ratio" (by decide +kernel), F_isRat.kp, b_isRat, .nil⟩
  obtain ⟨fd_initR, F_initR⟩ := fn 19 _ rfl
  have F_initR : FP K "__init__" "Ratio.__init__" (inClass (topS 20) 0) [.int 1] (He.ma K (He.ga K "Ratio") "__init__") fd_initR := F_initR
  obtain ⟨ds3, v3, b3⟩ := FunD.binds1 (ps := ["self", "top", "bottom"]) F_initR 3 1 (by simp) rfl fun T kV doc pm an cdv ct us its hu hi => match us, its, hu, hi with | [_, _, _], [_], _, _ => ⟨_, rfl, rfl⟩
  obtain ⟨ds2, v2, b2⟩ := FunD.binds1 (ps := ["self", "top", "bottom"]) F_initR 2 0 (by simp) rfl fun T kV doc pm an cdv ct us its hu hi => match us, its, hu, hi with | [_, _], [_], _, _ => ⟨_, rfl, rfl⟩
  have o_initR := ok_initR (g_is_integer := g_is_integer) (g_xBadRatio := g_xBadRatio) (P := P) (w := w) (base := base) G0 F_initR
  have g_mRatio : GM P w K mg base (L2.CX P w) 3 "Ratio" (cR K) ["self", "top", "bottom"] [] (spInitR K) := ⟨_, _, ds3, o_initR, He.mkr_ok (fx 48 _ rfl), G0.mgRatio, b3, v3⟩
  have g_mRatio1 : GM P w K mg base (L2.CX P w) 3 "Ratio" (cR K) ["self", "top", "bottom"] [.int 1] (spInitR K) := ⟨_, _, ds2, o_initR, He.mkr_ok (fx 48 _ rfl), G0.mgRatio, b2, v2⟩
  obtain ⟨fd_of, F_of⟩ := fn 38 _ rfl
  have F_of : FP K "of" "Ratio.of" (inClass (topS 20) 17) [] (He5.wf K (He.ga K "Ratio") "staticmethod" "of") fd_of := F_of
  have b_of := FunD.bindsN (ps := ["value"]) F_of fun _ _ _ _ _ _ us hl => match us, hl with | [_], _ => rfl
  have g_Ratio_of : GS P w K mg base (L2.CX P w) 5 (cR K) "of" (spOf K) := ⟨_, _, _, _, _, smB_ok (fx 41 _ rfl), ok_of (g_is_ratio := g_is_ratio) (g_mRatio1 := g_mRatio1) (g_xBadRatio := g_xBadRatio) G0 F_of, b_of⟩
  obtain ⟨fd_sgn, F_sgn⟩ := fn 39 _ rfl
  have F_sgn : FP K "sign" "Ratio.sign" (inClass (topS 20) 1) [] (He5.wf K (He.ga K "Ratio") "property" "sign") fd_sgn := F_sgn
  have b_sgn := FunD.bindsN (ps := ["self"]) F_sgn fun _ _ _ _ _ _ us hl => match us, hl with | [_], _ => rfl
  have g_R_sign : GP P w K mg base (L2.CX P w) 2 (cR K) "sign" (spSgn K) := ⟨G0.R.cl, _, _, _, _, propB_ok (fx 40 _ rfl), ok_sgn (g_sign_of := g_sign_of) G0 F_sgn, b_sgn⟩
  obtain ⟨fd_atRight, F_atRight⟩ := fn 3 _ rfl
  have F_atRight : FP K "at_right" "at_right" (topS 23) [] (He.ga K "at_right") fd_atRight := F_atRight
  have b_atRight := FunD.bindsN (ps := ["value"]) F_atRight fun _ _ _ _ _ _ us hl => match us, hl with | [_], _ => rfl
  have g_at_right := GD.mk (P := P) (w := w) (K := K) (mg := mg) (base := base) ⟨_, _, [], ok_atRight (g_Ratio_of := g_Ratio_of) (g_is_ratio := g_is_ratio) (g_xBadRatio := g_xBadRatio) G0 F_atRight, gl "at_right" (by decide +kernel), F_atRight.kp, b_atRight, .nil⟩
  obtain ⟨fd_radd, F_radd⟩ := fn 20 _ rfl
  have F_radd : FP K "__add__" "Ratio.__add__" (inClass (topS 20) 4) [] (He.ma K (He.ga K "Ratio") "__add__") fd_radd := F_radd
  have b_radd := FunD.bindsN (ps := ["self", "other"]) F_radd fun _ _ _ _ _ _ us hl => match us, hl with | [_, _], _ => rfl
  have g_radd : GO P w K mg base (L2.CX P w) 7 (cR K) .Add (spBinR K (· + ·)) := ⟨_, _, _, opB_ok (fx 34 _ rfl), ok_add (g_at_right := g_at_right) (g_mRatio := g_mRatio) G0 F_radd, b_radd⟩
  obtain ⟨fd_rsub, F_rsub⟩ := fn 21 _ rfl
  have F_rsub : FP K "__sub__" "Ratio.__sub__" (inClass (topS 20) 5) [] (He.ma K (He.ga K "Ratio") "__sub__") fd_rsub := F_rsub
  have b_rsub := FunD.bindsN (ps := ["self", "other"]) F_rsub fun _ _ _ _ _ _ us hl => match us, hl with | [_, _], _ => rfl
  have g_rsub : GO P w K mg base (L2.CX P w) 7 (cR K) .Sub (spBinR K (· - ·)) := ⟨_, _, _, opB_ok (fx 35 _ rfl), ok_sub (g_at_right := g_at_right) (g_mRatio := g_mRatio) G0 F_rsub, b_rsub⟩
  obtain ⟨fd_rmul, F_rmul⟩ := fn 22 _ rfl
  have F_rmul : FP K "__mul__" "Ratio.__mul__" (inClass (topS 20) 6) [] (He.ma K (He.ga K "Ratio") "__mul__") fd_rmul := F_rmul
  have b_rmul := FunD.bindsN (ps := ["self", "other"]) F_rmul fun _ _ _ _ _ _ us hl => match us, hl with | [_, _], _ => rfl
  have g_rmul : GO P w K mg base (L2.CX P w) 7 (cR K) .Mult (spBinR K (· * ·)) := ⟨_, _, _, opB_ok (fx 36 _ rfl), ok_mul (g_at_right := g_at_right) (g_mRatio := g_mRatio) G0 F_rmul, b_rmul⟩
  obtain ⟨fd_cmp, F_cmp⟩ := fn 23 _ rfl
  have F_cmp : FP K "compared" "Ratio.compared" (inClass (topS 20) 8) [] (He.ma K (He.ga K "Ratio") "compared") fd_cmp := F_cmp
  have b_cmp := FunD.bindsN (ps := ["self", "other"]) F_cmp fun _ _ _ _ _ _ us hl => match us, hl with | [_, _], _ => rfl
  have g_R_compared := GH.mk (P := P) (w := w) (K := K) (mg := mg) (base := base) ⟨_, _, ok_cmp (g_at_right := g_at_right) (g_sign_of := g_sign_of) G0 F_cmp, metB_ok (fx 43 _ rfl), b_cmp⟩
  obtain ⟨fd_below, F_below⟩ := fn 24 _ rfl
  have F_below : FP K "is_below" "Ratio.is_below" (inClass (topS 20) 9) [] (He.ma K (He.ga K "Ratio") "is_below") fd_below := F_below
  have b_below := FunD.bindsN (ps := ["self", "other"]) F_below fun _ _ _ _ _ _ us hl => match us, hl with | [_, _], _ => rfl
  have g_R_is_below := GH.mk (P := P) (w := w) (K := K) (mg := mg) (base := base) ⟨_, _, ok_below (g_R_compared := g_R_compared) G0 F_below, metB_ok (fx 42 _ rfl), b_below⟩
  obtain ⟨fd_abs, F_abs⟩ := fn 25 _ rfl
  have F_abs : FP K "__abs__" "Ratio.__abs__" (inClass (topS 20) 11) [] (He.ma K (He.ga K "Ratio") "__abs__") fd_abs := F_abs
  have b_abs := FunD.bindsN (ps := ["self"]) F_abs fun _ _ _ _ _ _ us hl => match us, hl with | [_], _ => rfl
  have g_rabs := GN.mk (P := P) (w := w) (K := K) (mg := mg) (base := base) (C := cR K) (m := "__abs__") ⟨_, _, _, (nm_ok (fx 38 _ rfl)).1, (nm_ok (fx 38 _ rfl)).2, ok_abs (g_mRatio := g_mRatio) G0 F_abs, b_abs⟩
  obtain ⟨fd_eqR, F_eqR⟩ := fn 26 _ rfl
  have F_eqR : FP K "__eq__" "Ratio.__eq__" (inClass (topS 20) 13) [] (He.ma K (He.ga K "Ratio") "__eq__") fd_eqR := F_eqR
  have b_eqR := FunD.bindsN (ps := ["self", "other"]) F_eqR fun _ _ _ _ _ _ us hl => match us, hl with | [_, _], _ => rfl
  have g_req := GN.mk (P := P) (w := w) (K := K) (mg := mg) (base := base) (C := cR K) (m := "__eq__") ⟨_, _, _, (nm_ok (fx 39 _ rfl)).1, (nm_ok (fx 39 _ rfl)).2, ok_eqR (g_is_integer := g_is_integer) G0 F_eqR, b_eqR⟩
  obtain ⟨fd_initS, F_initS⟩ := fn 27 _ rfl
  have F_initS : FP K "__init__" "Step.__init__" (inClass (topS 27) 0) [] (He.ma K (He.ga K "Step") "__init__") fd_initS := F_initS
  have b_initS := FunD.bindsN (ps := ["self", "studs", "rounds"]) F_initS fun _ _ _ _ _ _ us hl => match us, hl with | [_, _, _], _ => rfl
  have g_mStep : GM P w K mg base (L2.CX P w) 3 "Step" (cS K) ["self", "studs", "rounds"] [] (spInitS K) := ⟨_, _, [], ok_initS (g_is_integer := g_is_integer) (g_xBadStep := g_xBadStep) G0 F_initS, He.mkr_ok (fx 49 _ rfl), G0.mgStep, b_initS, .nil⟩
  obtain ⟨fd_needS, F_needS⟩ := fn 5 _ rfl
  have F_needS : FP K "need_step" "need_step" (topS 29) [] (He.ga K "need_step") fd_needS := F_needS
  have b_needS := FunD.bindsN (ps := ["value", "part"]) F_needS fun _ _ _ _ _ _ us hl => match us, hl with | [_, _], _ => rfl
  have g_need_step := GD.mk (P := P) (w := w) (K := K) (mg := mg) (base := base) ⟨_, _, [], ok_needS (g_xBadStep := g_xBadStep) G0 F_needS, gl "need_step" (by decide +kernel), F_needS.kp, b_needS, .nil⟩
  obtain ⟨fd_needK, F_needK⟩ := fn 6 _ rfl
  have F_needK : FP K "need_studs" "need_studs" (topS 30) [] (He.ga K "need_studs") fd_needK := F_needK
  have b_needK := FunD.bindsN (ps := ["step", "part"]) F_needK fun _ _ _ _ _ _ us hl => match us, hl with | [_, _], _ => rfl
  have g_need_studs := GD.mk (P := P) (w := w) (K := K) (mg := mg) (base := base) ⟨_, _, [], ok_needK (g_xRound := g_xRound) G0 F_needK, gl "need_studs" (by decide +kernel), F_needK.kp, b_needK, .nil⟩
  obtain ⟨fd_cross, F_cross⟩ := fn 7 _ rfl
  have F_cross : FP K "cross" "cross" (topS 36) [] (He.ga K "cross") fd_cross := F_cross
  have b_cross := FunD.bindsN (ps := ["one", "other"]) F_cross fun _ _ _ _ _ _ us hl => match us, hl with | [_, _], _ => rfl
  have g_cross := GD.mk (P := P) (w := w) (K := K) (mg := mg) (base := base) ⟨_, _, [], ok_cross (g_need_step := g_need_step) G0 F_cross, gl "cross" (by decide +kernel), F_cross.kp, b_cross, .nil⟩
  obtain ⟨fd_summed, F_summed⟩ := fn 4 _ rfl
  have F_summed : FP K "summed" "summed" (topS 28) [] (He.ga K "summed") fd_summed := F_summed
  have b_summed := FunD.bindsN (ps := ["studs", "rounds"]) F_summed fun _ _ _ _ _ _ us hl => match us, hl with | [_, _], _ => rfl
  have g_summed := GD.mk (P := P) (w := w) (K := K) (mg := mg) (base := base) ⟨_, _, [], ok_summed (g_mStep := g_mStep) (g_xBadStep := g_xBadStep) G0 F_summed, gl "summed" (by decide +kernel), F_summed.kp, b_summed, .nil⟩
  obtain ⟨fd_sadd, F_sadd⟩ := fn 28 _ rfl
  have F_sadd : FP K "__add__" "Step.__add__" (inClass (topS 27) 4) [] (He.ma K (He.ga K "Step") "__add__") fd_sadd := F_sadd
  have b_sadd := FunD.bindsN (ps := ["self", "other"]) F_sadd fun _ _ _ _ _ _ us hl => match us, hl with | [_, _], _ => rfl
  have g_sadd : GO P w K mg base (L2.CX P w) 6 (cS K) .Add (spAddS K) := ⟨_, _, _, opB_ok (fx 37 _ rfl), ok_addS (g_need_step := g_need_step) (g_summed := g_summed) G0 F_sadd, b_sadd⟩
  obtain ⟨fd_initT, F_initT⟩ := fn 29 _ rfl
  have F_initT : FP K "__init__" "Stem.__init__" (inClass (topS 33) 0) [] (He.ma K (He.ga K "Stem") "__init__") fd_initT := F_initT
  have b_initT := FunD.bindsN (ps := ["self", "turn", "squared"]) F_initT fun _ _ _ _ _ _ us hl => match us, hl with | [_, _, _], _ => rfl
  have g_mStem : GM P w K mg base (L2.CX P w) 8 "Stem" (cT K) ["self", "turn", "squared"] [] (spInitT K) := ⟨_, _, [], ok_initT (g_R_sign := g_R_sign) (g_Ratio_of := g_Ratio_of) (g_is_ratio := g_is_ratio) (g_rmul := g_rmul) (g_rsub := g_rsub) (g_xBadStem := g_xBadStem) G0 F_initT, He.mkr_ok (fx 50 _ rfl), G0.mgStem, b_initT, .nil⟩
  obtain ⟨fd_lean, F_lean⟩ := fn 32 _ rfl
  have F_lean : FP K "lean" "Stem.lean" (inClass (topS 33) 3) [] (He.ma K (He.ga K "Stem") "lean") fd_lean := F_lean
  have b_lean := FunD.bindsN (ps := ["self", "step"]) F_lean fun _ _ _ _ _ _ us hl => match us, hl with | [_, _], _ => rfl
  have g_T_lean := GH.mk (P := P) (w := w) (K := K) (mg := mg) (base := base) ⟨_, _, ok_lean (g_need_step := g_need_step) (g_rmul := g_rmul) (g_rsub := g_rsub) G0 F_lean, metB_ok (fx 45 _ rfl), b_lean⟩
  obtain ⟨fd_prod, F_prod⟩ := fn 31 _ rfl
  have F_prod : FP K "product" "Stem.product" (inClass (topS 33) 2) [] (He.ma K (He.ga K "Stem") "product") fd_prod := F_prod
  have b_prod := FunD.bindsN (ps := ["self", "one", "other"]) F_prod fun _ _ _ _ _ _ us hl => match us, hl with | [_, _, _], _ => rfl
  have g_T_product := GH.mk (P := P) (w := w) (K := K) (mg := mg) (base := base) ⟨_, _, ok_prod (g_need_step := g_need_step) (g_radd := g_radd) (g_rmul := g_rmul) (g_rsub := g_rsub) G0 F_prod, metB_ok (fx 44 _ rfl), b_prod⟩
  have g_T_product_k : GHK P w K mg base (L2.CX P w) 8 (cT K) "product" ["one", "other"] (spProd K) := ⟨_, _, ["self", "one", "other"], ok_prod (g_need_step := g_need_step) (g_radd := g_radd) (g_rmul := g_rmul) (g_rsub := g_rsub) G0 F_prod, metB_ok (fx 44 _ rfl), kb2 F_prod rfl (fun _ _ _ _ _ _ _ _ _ => rfl)⟩
  obtain ⟨fd_sq, F_sq⟩ := fn 30 _ rfl
  have F_sq : FP K "square" "Stem.square" (inClass (topS 33) 1) [] (He.ma K (He.ga K "Stem") "square") fd_sq := F_sq
  have b_sq := FunD.bindsN (ps := ["self", "step"]) F_sq fun _ _ _ _ _ _ us hl => match us, hl with | [_, _], _ => rfl
  have g_T_square := GH.mk (P := P) (w := w) (K := K) (mg := mg) (base := base) ⟨_, _, ok_sq (g_T_product := g_T_product) (g_need_step := g_need_step) G0 F_sq, metB_ok (fx 46 _ rfl), b_sq⟩
  obtain ⟨fd_steep, F_steep⟩ := fn 33 _ rfl
  have F_steep : FP K "is_steeper" "Stem.is_steeper" (inClass (topS 33) 4) [] (He.ma K (He.ga K "Stem") "is_steeper") fd_steep := F_steep
  have b_steep := FunD.bindsN (ps := ["self", "one", "other"]) F_steep fun _ _ _ _ _ _ us hl => match us, hl with | [_, _, _], _ => rfl
  have g_T_is_steeper := GH.mk (P := P) (w := w) (K := K) (mg := mg) (base := base) ⟨_, _, ok_steep (g_R_is_below := g_R_is_below) (g_T_lean := g_T_lean) (g_need_step := g_need_step) (g_need_studs := g_need_studs) (g_rabs := g_rabs) (g_rmul := g_rmul) G0 F_steep, metB_ok (fx 47 _ rfl), b_steep⟩
  obtain ⟨fd_pail, F_pail⟩ := fn 8 _ rfl
  have F_pail : FP K "_law_pail" "_law_pail" (topS 38) [] (He.ga K "_law_pail") fd_pail := F_pail
  have b_pail := FunD.bindsN (ps := ["_law_script"]) F_pail fun _ _ _ _ _ _ us hl => match us, hl with | [_], _ => rfl
  have g_l_pail := GD.mk (P := P) (w := w) (K := K) (mg := mg) (base := base) ⟨_, _, [], ok_pail G0 F_pail, gl "_law_pail" (by decide +kernel), F_pail.kp, b_pail, .nil⟩
  obtain ⟨fd_dip, F_dip⟩ := fn 9 _ rfl
  have F_dip : FP K "_law_dip" "_law_dip" (topS 39) [] (He.ga K "_law_dip") fd_dip := F_dip
  have b_dip := FunD.bindsN (ps := ["_law_pail_here", "_law_many"]) F_dip fun _ _ _ _ _ _ us hl => match us, hl with | [_, _], _ => rfl
  have g_l_dip := GD.mk (P := P) (w := w) (K := K) (mg := mg) (base := base) ⟨_, _, [], ok_dip G0 F_dip, gl "_law_dip" (by decide +kernel), F_dip.kp, b_dip, .nil⟩
  obtain ⟨fd_sized, F_sized⟩ := fn 10 _ rfl
  have F_sized : FP K "_law_sized" "_law_sized" (topS 40) [] (He.ga K "_law_sized") fd_sized := F_sized
  have b_sized := FunD.bindsN (ps := ["_law_pail_here", "_law_many"]) F_sized fun _ _ _ _ _ _ us hl => match us, hl with | [_, _], _ => rfl
  have g_l_sized := GD.mk (P := P) (w := w) (K := K) (mg := mg) (base := base) ⟨_, _, [], ok_sized (g_l_dip := g_l_dip) G0 F_sized, gl "_law_sized" (by decide +kernel), F_sized.kp, b_sized, .nil⟩
  obtain ⟨fd_post, F_post⟩ := fn 11 _ rfl
  have F_post : FP K "_law_post" "_law_post" (topS 41) [] (He.ga K "_law_post") fd_post := F_post
  have b_post := FunD.bindsN (ps := ["_law_pail_here"]) F_post fun _ _ _ _ _ _ us hl => match us, hl with | [_], _ => rfl
  have g_l_post := GD.mk (P := P) (w := w) (K := K) (mg := mg) (base := base) ⟨_, _, [], ok_post (g_l_dip := g_l_dip) G0 F_post, gl "_law_post" (by decide +kernel), F_post.kp, b_post, .nil⟩
  obtain ⟨fd_steps, F_steps⟩ := fn 12 _ rfl
  have F_steps : FP K "_law_steps" "_law_steps" (topS 42) [] (He.ga K "_law_steps") fd_steps := F_steps
  have b_steps := FunD.bindsN (ps := ["_law_pail_here"]) F_steps fun _ _ _ _ _ _ us hl => match us, hl with | [_], _ => rfl
  have g_l_steps := GD.mk (P := P) (w := w) (K := K) (mg := mg) (base := base) ⟨_, _, [], ok_steps (g_l_dip := g_l_dip) (g_l_sized := g_l_sized) G0 F_steps, gl "_law_steps" (by decide +kernel), F_steps.kp, b_steps, .nil⟩
  obtain ⟨fd_laid, F_laid⟩ := fn 13 _ rfl
  have F_laid : FP K "_law_laid" "_law_laid" (topS 43) [] (He.ga K "_law_laid") fd_laid := F_laid
  have b_laid := FunD.bindsN (ps := ["_law_post_here", "_law_one", "_law_other"]) F_laid fun _ _ _ _ _ _ us hl => match us, hl with | [_, _, _], _ => rfl
  have g_l_laid := GD.mk (P := P) (w := w) (K := K) (mg := mg) (base := base) ⟨_, _, [], ok_laid G0 F_laid, gl "_law_laid" (by decide +kernel), F_laid.kp, b_laid, .nil⟩
  obtain ⟨fd_is, F_is⟩ := fn 14 _ rfl
  have F_is : FP K "_law_is" "_law_is" (topS 44) [] (He.ga K "_law_is") fd_is := F_is
  have b_is := FunD.bindsN (ps := ["_law_ratio", "_law_pair"]) F_is fun _ _ _ _ _ _ us hl => match us, hl with | [_, _], _ => rfl
  have g_l_is := GD.mk (P := P) (w := w) (K := K) (mg := mg) (base := base) ⟨_, _, [], ok_is G0 F_is, gl "_law_is" (by decide +kernel), F_is.kp, b_is, .nil⟩
  obtain ⟨fd_heard, F_heard⟩ := fn 15 _ rfl
  have F_heard : FP K "_law_heard" "_law_heard" (topS 45) [] (He.ga K "_law_heard") fd_heard := F_heard
  have gHd : GHd K mg := GHd.of F_heard (gl "_law_heard" (by decide +kernel))
  obtain ⟨fd_pairR, F_pairR⟩ := fn 16 _ rfl
  have F_pairR : FP K "_law_pair_right" "_law_pair_right" (topS 46) [] (He.ga K "_law_pair_right") fd_pairR := F_pairR
  have b_pairR := FunD.bindsN (ps := ["_law_post_here", "_law_stem", "_law_one", "_law_other"]) F_pairR fun _ _ _ _ _ _ us hl => match us, hl with | [_, _, _, _], _ => rfl
  have c_pairR : fd_pairR.code = .ref (He.cT K ("_law_pair_right", none)).1 := code_of F_pairR
  obtain ⟨fd_refR, F_refR⟩ := fn 17 _ rfl
  have F_refR : FP K "_law_refused_right" "_law_refused_right" (topS 47) [] (He.ga K "_law_refused_right") fd_refR := F_refR
  have b_refR := FunD.bindsN (ps := ["_law_pail_here", "_law_stem", "_law_pair"]) F_refR fun _ _ _ _ _ _ us hl => match us, hl with | [_, _, _], _ => rfl
  have c_refR : fd_refR.code = .ref (He.cT K ("_law_refused_right", none)).1 := code_of F_refR
  have g_l_pair_right := GD.mk (P := P) (w := w) (K := K) (mg := mg) (base := base) ⟨_, _, [], ok_pairR (g_T_is_steeper := g_T_is_steeper) (g_T_lean := g_T_lean) (g_T_product := g_T_product) (g_T_product_k := g_T_product_k) (g_T_square := g_T_square) (g_cross := g_cross) (g_l_is := g_l_is) (g_l_laid := g_l_laid) (g_mStep := g_mStep) (g_req := g_req) (g_rmul := g_rmul) (g_rsub := g_rsub) (g_sadd := g_sadd) (T := TT K) hnf G0 gE gHd (TB _ (List.mem_map.mpr ⟨_, List.mem_cons_self, rfl⟩)) List.mem_cons_self huP c_pairR F_pairR, gl "_law_pair_right" (by decide +kernel), F_pairR.kp, b_pairR, .nil⟩
  have g_l_refused_right := GD.mk (P := P) (w := w) (K := K) (mg := mg) (base := base) ⟨_, _, [], ok_refR (g_T_is_steeper := g_T_is_steeper) (g_T_lean := g_T_lean) (g_T_product := g_T_product) (g_T_square := g_T_square) (g_l_dip := g_l_dip) (g_mStep := g_mStep) (T := TT K) hne G0 gE gHd (TB _ (List.mem_map.mpr ⟨_, List.mem_cons_of_mem _ List.mem_cons_self, rfl⟩)) (List.mem_cons_of_mem _ List.mem_cons_self) huR c_refR F_refR, gl "_law_refused_right" (by decide +kernel), F_refR.kp, b_refR, .nil⟩
  exact ok_law (g_l_is := g_l_is) (g_l_pail := g_l_pail) (g_l_pair_right := g_l_pair_right) (g_l_post := g_l_post) (g_l_refused_right := g_l_refused_right) (g_l_steps := g_l_steps) (g_mRatio := g_mRatio) (g_mStem := g_mStem) (T := TT K) G0 F_law
end Sp
end
set_option Elab.async false
set_option linter.all false
set_option maxRecDepth 100000
set_option maxHeartbeats 0
namespace Sp
open PySem PySem.Spec PyProof.Rows L2
open PySem.W (Frag)
abbrev lw : PySem.W.OpenLaw := PySem.Challenge.rw_spiralsays_k04_squares_of_laid_studs
theorem law_at {w : World} {mg : Str → Option Value} {fa : Addr} {h : Heap} (Y : ∃ K : Frag, K.In h ∧ SaysB h K) (G : h.Ns mainGlobals mg) (hfa : mg "law" = some (.ref fa)) :
    ∃ K : Frag, K.In h ∧ LamX.LawAtS lw w K (L2.CX lw.prog w) 13 63 "_law_script" mg fa h := by
  obtain ⟨K, KX, c⟩ := Y
  have e := hfa.symm.trans (He.glo_ok KX G (c.gl "law" (by decide +kernel)))
  cases e
  obtain ⟨fd, F⟩ := (c.fn _ (List.mem_of_getElem? (show fnL[18]? = some _ from rfl))).elim fun h1 h2 => He5.DefA.funD h2 h1
  have F : FP K "law" "law" (topS 48) [] (He.ga K "law") fd := F
  have b := FunD.bindsA (ps := ["_law_script"]) F fun _ _ _ _ _ _ us hl => match us, hl with | [_], _ => rfl
  have hpq : (He.cT K ("_law_pair_right", none)).2 ≠ (He.cT K ("_law_refused_right", none)).2 := of_decide_eq_true (c.ex (fun K => decide ((He.cT K ("_law_pair_right", none)).2 ≠ (He.cT K ("_law_refused_right", none)).2)) (List.mem_of_getElem? (show exL[51]? = some _ from rfl)))
  refine ⟨K, KX, fd, tfL.map (He.cT K), spLaw K (TT K), fun p hp => ?_, fun p hp => ?_, fun p hp => ?_, fun s v => b s [v] rfl, fun H a ns hl _ hH hS => ⟨a, ns, rfl, hS, fun p hp => ?_, fun _ => rfl⟩, fun base KB NB TB => law_ok c KB NB hpq TB F⟩
  · obtain ⟨q, hq, rfl⟩ := List.mem_map.mp hp
    exact c.empty q hq
  · obtain ⟨q, hq, rfl⟩ := List.mem_map.mp hp
    exact c.out q hq
  · obtain ⟨q, hq, rfl⟩ := List.mem_map.mp hp
    exact PySem.W.codeHd_of_K KX (c.hd q hq)
  · rcases List.mem_cons.mp hp with rfl | hp
    · exact LamX.TabS.nil (hH _ (List.mem_map.mpr ⟨_, List.mem_cons_self, rfl⟩))
    · rw [List.mem_singleton.mp hp]
      exact LamX.TabS.nil (hH _ (List.mem_map.mpr ⟨_, List.mem_cons_of_mem _ List.mem_cons_self, rfl⟩))
end Sp
open PySem PySem.W PySem.Calls PyProof.Rows
theorem PySem.Challenge.cw_spiralsays_k04_squares_of_laid_studs_holds : PySem.Challenge.rw_spiralsays_k04_squares_of_laid_studs.Holds := by
  w_on; o_law
  refine HandSHeadRun.head_imp (r := Sp.Rw) (q := Sp.qv) (H := Sp.hk) (ob := Sp.ob) (M := 30000) (loose := Sp.names) (d := HandSHeadRun.topDef Sp.Rw.prog 48) (kwd := []) Sp.ob_eq Sp.run (by kernel_rfl) (by kernel_rfl) (by kernel_rfl) (by rfl) (by first | assumption | decide +kernel) (by decide +kernel) ⟨rfl, rfl, rfl, rfl, rfl, by decide +kernel⟩ ?hw ?hc
  case hw => w_witness2
  case hc =>
    refine LamX.walk_ofTsE (l := Sp.lw) (n := 63) (k := 13) (x := "_law_script") (CX := fun w => L2.CX Sp.lw.prog w) rfl (by decide) (by kernel_rfl) ⟨rfl, by decide, by decide⟩ ?F (fun w H s e s' z => ?C)
    case C =>
      obtain ⟨_, _, _, _, _, _, _, _, _, _, _, _, z⟩ := z
      exact z
    case F =>
      intro w mg fa h Y G hmg0
      have hmg : mg ("law" : PySem.Str) = some (.ref fa) := by
        have e : (HandSHeadRun.topDef Sp.Rw.prog 48).name = ("law" : PySem.Str) := by kernel_rfl
        rw [← e]
        exact hmg0
      exact Sp.law_at Y G hmg
