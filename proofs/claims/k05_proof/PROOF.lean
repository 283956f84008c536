import PyProof.Rows.All
import Wide.All
import OpenK.AllK
import Wide.FinOn
import KE.KOpsOwn
import HandS.ForMost
import HandS.Exc
import HandS.ExcInit
import HandS.ExcField
import HandS.TryMany
import HandS.Property
import HandS.ClsMeth
import HandS.SlotsOwn
import HandS.IsInst
import HandS.Gcd
import HandS.Wide
import HandS.WordsExc
import HandS.Evl
import HandS.CallSlots
import HandS.Lambda
import HandS.EndTab
import HandS.Defaults
import HandS.TupLe
import HandS.Style
import KE.KFmtOwn
import PyProof.InstEq
import HandS.Dict
import HandS.Iter
import HandS.CallLocal
import HandS.Text
import HandS.StrMore
import HandS.FStr
import HandS.HeadHook4
import HandS.HeadWalk
import HandS.Head4
import HandS.HeadNt
import HandS.Head0
import HandS.Head1
import HandS.Head2
import HandS.Head3
import HandS.MakeKw
import HandS.AnyAll
import KE.KCallOwn
import HandS.Comp
import KE.IntTextLaws
import PyProof.Rows.StrDigitsNeg
import HandS.HotCalls
import PyProof.Rows.StrSplitJoin
import PyProof.Rows.StrItems
import PyProof.StrOps2
import PySem.Challenge.RW_spiralsays_k05_steps_added_and_their_mat
section
set_option Elab.async false
set_option linter.all false
set_option maxRecDepth 100000
set_option maxHeartbeats 4000000
namespace Sp
open PySem PySem.Spec PyProof.Rows L2
/-! ### operators of an own class -/
/-- what of the text the class at C must have for the operator's name, its def at g -/
structure OpC (K : PySem.W.Frag) (C : Addr) (m r : Str) (g : Addr) : Prop where
  first : PySem.W.selfFirst K C = true
  at_ : PySem.W.findIn K (.ref C) m = some (some (.ref g))
  fn : PySem.W.isFn K (.ref g) = true
  rev : PySem.W.findIn K (.ref C) r = some none
  int1 : ∃ fo, PySem.W.findIn K (.type "int") m = some fo
  int2 : ∃ ro, PySem.W.findIn K (.type "int") r = some ro
  sub : PySem.W.subIn K (.type "int") (.ref C) = some false
structure rBin (C : Addr) (sp : Sp) (E : XK) (x : V) (y : V) (H : Hp) (Q : VK) : Prop where
  un : ∃ a dx fs, x = .ref a ∧ H a = some (.ins C dx fs) ∧
  ((∃ b dy gs, y = .ref b ∧ H b = some (.ins C dy gs)) ∨ ∃ i, y = .int i) ∧ sp [x, y] H Q E
section
variable {X : Cx} {CX : CXT} {k : Nat} {C g : Addr} {fd : FuncData} {ps : List Str} {sp : Sp} {E : XK} {op : Operator}
theorem run_dun {pins : List (Addr × Obj)} {σ : L2.St} {H : Hp} {s : Shared} {Q : VK} {us : List Value} {vs : List V} (F : FnOk X.prog X.w X.K X.mg X.base CX k g fd ps sp) (hr : Room k X.A) (hb : Binds X.K fd ps []) (hx : Passes CX X E)
    (I : Inv X pins σ H s) (r : Vals vs us) (h : sp vs H Q E) : wpAny (model X.prog X.w) X.A (call (.ref g) us) (PySem.W.CmpBack (EP X pins σ Q)) X.xe s := by
  refine wpAny_mono (run_fn (dvs := []) (ds := []) F hr hb .nil hx I r (by rw [List.append_nil]; exact h)) (fun v s' z => ?_) fun _ _ x => x
  obtain ⟨z', H', I', rz, qz⟩ := z
  exact SlX.cmpback rz ⟨z', H', I', rz, qz⟩
/-- x op y by the class's own def -/
theorem op_bin (O : OpC X.K C (PySem.dunder op.info.2) (PySem.dunderR op.info.2) g) (F : FnOk X.prog X.w X.K X.mg X.base CX k g fd ps sp) (hr : Room k X.A) (hb : Binds X.K fd ps []) (hx : Passes CX X E) :
    OpR X (binaryOp op) (rBin C sp E) := by
  intro pins s σ H x y v u Q I rx ry h
  obtain ⟨a, dx, fs, rfl, ha, hy, q⟩ := h
  cases (show v = Value.ref a from rx)
  obtain ⟨mA, J, _⟩ := ins_get I.hok ha
  obtain ⟨od, J, _⟩ := J.look
  obtain ⟨m, hF⟩ := I.fr
  rcases hy with ⟨b, dy, gs, rfl, hb'⟩ | ⟨i, rfl⟩
  · cases (show u = Value.ref b from ry)
    obtain ⟨mB, J', _⟩ := ins_get I.hok hb'
    obtain ⟨od', J', _⟩ := J'.look
    exact PySem.W.binop_K hF I.ok.mod.kin J J'.type O.first O.at_ O.fn (run_dun (us := [.ref a, .ref b]) (vs := [.ref a, .ref b]) F hr hb hx I (.cons rfl (.cons rfl .nil)) q)
  · obtain ⟨fo, h1⟩ := O.int1
    obtain ⟨ro, h2⟩ := O.int2
    obtain ⟨t, rfl⟩ := ry
    exact PySem.W.ksp_binT hF I.ok.mod.kin J rfl O.first O.at_ O.fn O.rev (.inl rfl) h1 h2 O.sub (run_dun (us := [.ref a, .int i t]) (vs := [.ref a, .int i]) F hr hb hx I (.cons rfl (.cons ⟨t, rfl⟩ .nil)) q)
/-- -x by the class's own def -/
structure rUn (C : Addr) (sp : Sp) (E : XK) (x : V) (H : Hp) (Q : VK) : Prop where
  un : ∃ a dx fs, x = .ref a ∧ H a = some (.ins C dx fs) ∧ sp [x] H Q E
theorem un_own (hs : PySem.W.findIn X.K (.ref C) "__neg__" = some (some (.ref g))) (hf : PySem.W.isFn X.K (.ref g) = true) (F : FnOk X.prog X.w X.K X.mg X.base CX k g fd ps sp) (hr : Room k X.A) (hb : Binds X.K fd ps []) (hx : Passes CX X E) :
    UnR X (unaryOp .USub) (rUn C sp E) := by
  intro pins s σ H x v Q I rx h
  obtain ⟨a, dx, fs, rfl, ha, q⟩ := h
  cases (show v = Value.ref a from rx)
  obtain ⟨mA, J, _⟩ := ins_get I.hok ha
  obtain ⟨od, J, _⟩ := J.look
  obtain ⟨m, hF⟩ := I.fr
  refine PySem.W.ksp_neg hF I.ok.mod.kin J hs hf ?_
  exact run_fn (dvs := []) (ds := []) (us := [.ref a]) (vs := [.ref a]) F hr hb .nil hx I (.cons rfl .nil) (by rw [List.append_nil]; exact q)
/-- x == y, x of the class at C with an own __eq__; y an instance of C, or a flat value whose type is no class below C -/
structure rEqOwn (K : PySem.W.Frag) (C : Addr) (sp : Sp) (E : XK) (x : V) (y : V) (H : Hp) (Q : VK) : Prop where
  un : ∃ a dx fs t, x = .ref a ∧ H a = some (.ins C dx fs) ∧ TyX K H y t ∧ PySem.W.notFirst K C t = true ∧ sp [x, y] H Q E
theorem ty_looks {pins : List (Addr × Obj)} {σ : L2.St} {H : Hp} {s : Shared} {y : V} {u t : Value} (I : Inv X pins σ H s) (ry : RelV y u) (ty : TyX X.K H y t) : PySem.W.Looks (model X.prog X.w) s.heap (typeOf u) t := by
  obtain ⟨P, Z, p, _⟩ := kit_of I ry ty
  exact Z.ty _ _ I.kIn p

theorem op_eqOwn (hs : PySem.W.findIn X.K (.ref C) "__eq__" = some (some (.ref g))) (hf : PySem.W.isFn X.K (.ref g) = true) (F : FnOk X.prog X.w X.K X.mg X.base CX k g fd ps sp) (hr : Room k X.A) (hb : Binds X.K fd ps []) (hx : Passes CX X E) :
    OpR X (compareOp .Eq) (rEqOwn X.K C sp E) := by
  intro pins s σ H x y v u Q I rx ry h
  obtain ⟨a, dx, fs, t, rfl, ha, ty, hn, q⟩ := h
  cases (show v = Value.ref a from rx)
  obtain ⟨mA, J, _⟩ := ins_get I.hok ha
  obtain ⟨od, J, _⟩ := J.look
  obtain ⟨m, hF⟩ := I.fr
  show wpAny (model X.prog X.w) X.A (richCompare .Eq (.ref a) u) (EP X pins σ Q) X.xe s
  exact PySem.W.cmp_K (op := .Eq) (tb := t) hr.units0 hF I.ok.mod.kin J (ty_looks I ry ty) hn hs hf (run_dun (us := [.ref a, u]) (vs := [.ref a, y]) F hr hb hx I (.cons rfl (.cons ry .nil)) q)
/-- abs(x) by the class's own def -/
structure rAbsOwn (C : Addr) (sp : Sp) (E : XK) (xs : List V) (H : Hp) (Q : VK) : Prop where
  un : ∃ a dx fs, xs = [.ref a] ∧ H a = some (.ins C dx fs) ∧ sp [.ref a] H Q E
theorem entry_abs : entryFor table "abs" = some Builtin.«abs» := entryFor_of_tree (by kernel_rfl)
/-- staticmethod: its record at p, its def at g -/
structure SMet (K : PySem.W.Frag) (C : Addr) (mc : Value) (m : Str) (p g : Addr) : Prop where
  rd : PySem.W.readsIn K C mc = true
  ga : PySem.W.specialIn K (.ref C) "__getattribute__" = some (some (.builtin "type.__getattribute__"))
  at_ : PySem.W.findCls K (.ref C) mc m = some (.get (.builtin "staticmethod.__get__") (.ref p) .none (.ref C))
  rc : ∃ rest, PySem.W.recIn K p "staticmethod" = some (.ref g :: rest)
  kp : PySem.W.keepIn K (.ref g) = true
def tSMeth (C : Addr) (sp : Sp) (E : XK) (ta : TE) (t : TA) : TE := fun σ H Q => ta σ H fun x H1 => x = .ref C ∧ t σ H1 fun vs H2 => sp vs H2 Q E
variable {o e : Expr} {es : List Expr} {m : Str} {apos pos : Pos} {ta : TE} {t : TA} {pl : Sem Bool} {mc : Value} {p : Addr}
theorem pe_smeth (he : PE X o ta) (c : SMet X.K C mc m p g) (F : FnOk X.prog X.w X.K X.mg X.base CX k g fd ps sp) (hr : Room k X.A) (hb : Binds X.K fd ps []) (hx : Passes CX X E) (ha : PA X (e :: es) t)
    (hst : starEach (e :: es) X.env = (false, eval e X.env) :: starEach es X.env := by rfl) (hpl : (backTo pos (starEach es X.env)).any (·.1) = false := by rfl)
    (ht : eval (.Call (.Attribute o m apos) (e :: es) [] pos) X.env = (do
      let ov ← eval o X.env
      standAt apos.atName
      let (f, first) ← holding [ov] (getMethod ov m pl)
      callWith pos f first (backTo pos (starEach (e :: es) X.env)) (backToKw pos (keywordEach [] X.env))) := by rfl) :
    PE X (.Call (.Attribute o m apos) (e :: es) [] pos) (tSMeth C sp E ta t) := by
  refine ⟨fun pins s σ H Q I h => ?_⟩
  refine PySem.W.methodCall_KW (pl := pl) (thn (he.run pins s σ H _ I h) fun u s1 ⟨x, H1, I1, rx, ex, q⟩ => ?_) ht
  subst ex
  obtain rfl : u = Value.ref C := rx
  obtain ⟨rest, hp⟩ := c.rc
  refine PySem.W.method_cls I1.kIn c.ga (PySem.W.cls_bind I1.kIn c.rd c.at_ (wpAny_call (PySem.W.sm_get (s := { s1 with toks := s1.toks + 1 }) I1.kIn hp (PySem.W.handed_on rfl ?_))))
  have I2 := I1.tok (s1.toks + 1)
  refine PySem.W.callWith_K (h₀ := X.base) I.ok.mod.kin c.kp (thn (ha.run pos pins _ σ H1 _ I2 q) fun us s3 ⟨vs, H2, I3, r, q2⟩ => ⟨I3.kIn, ?_⟩) hst hpl
  exact run_fn (dvs := []) (ds := []) F hr hb .nil hx I3 r (by rw [List.append_nil]; exact q2)
end
/-! ### numbers -/
def CDivB (_ j : Int) : Prop := j ≠ 0 ∧ j.natAbs < 2 ^ 4000
def CMulB (i j : Int) : Prop := i.natAbs < 2 ^ 4000 ∧ j.natAbs < 2 ^ 4000
section
variable {X : Cx}
theorem lg {x : Int} (h : x.natAbs < 2 ^ 4000) : x.natAbs.log2 < 4000 := PySem.Flt.log2_lt_of (by decide) h
theorem op_fdivB : OpR X (binaryOp .FloorDiv) (rI CDivB fun i j => .int (i.fdiv j)) := opI fun i j _ _ _ _ _ hc q =>
  floordiv_int hc.1 q (.inl (PyProof.noPylong_of_log2 (Nat.lt_of_lt_of_le (lg hc.2) (by decide))))
theorem op_mulB : OpR X (binaryOp .Mult) (rI CMulB fun i j => .int (i * j)) := opI fun _ _ _ _ _ _ _ hc q => mul_int q (CMulW.ok (show _ + _ < 1000000 by have := lg hc.1; have := lg hc.2; omega))
end

section
variable {X : Cx} {CX : CXT} {k : Nat} {C g : Addr} {fd : FuncData} {ps ks : List Str} {sp : Sp} {E : XK}
theorem run_in1 {pins : List (Addr × Obj)} {σ : L2.St} {H : Hp} {s : Shared} {Q : VK} {us : List Value} {vs : List V} (F : FnOk X.prog X.w X.K X.mg X.base CX k g fd ps sp) (hr : Room (k + 1) X.A) (hb : Binds X.K fd ps []) (hx : Passes CX X E)
    (I : Inv X pins σ H s) (r : Vals vs us) (h : sp vs H Q E) : wpAny (model X.prog X.w) X.A.in1 (call (.ref g) us) (EP X pins σ Q) X.xe s := by
  have hl : (us ++ []).length = ps.length := by
    rw [List.append_nil, ← r.length]
    exact F.len _ _ _ _ h
  have hb' := hb s us I.kIn hl
  rw [List.append_nil] at hb'
  refine wpAny_call (codeAny_mono (F.run X.A.in1 X.stack s H ⟨us, []⟩ us vs Q E hr.in1 I.env0.in1 hb' r h) fun r s' hq => ?_)
  cases r with
  | error e => exact hx pins σ H s e s' I hq
  | ok fl =>
    cases fl with
    | ret u => exact I.after hq
    | next => exact False.elim hq
    | brk => exact False.elim hq
    | cont => exact False.elim hq
theorem call_absOwn (hs : PySem.W.findIn X.K (.ref C) "__abs__" = some (some (.ref g))) (hf : PySem.W.isFn X.K (.ref g) = true) (F : FnOk X.prog X.w X.K X.mg X.base CX k g fd ps sp) (hr : Room (k + 1) X.A) (hb : Binds X.K fd ps []) (hx : Passes CX X E) :
    CallR X (.builtin "abs") (rAbsOwn C sp E) := by
  intro pins s σ H xs us Q I r h
  obtain ⟨a, dx, fs, rfl, ha, q⟩ := h
  obtain ⟨u, rfl, ru⟩ := vals1 r
  cases (show u = Value.ref a from ru)
  obtain ⟨mA, J, _⟩ := ins_get I.hok ha
  obtain ⟨od, J, _⟩ := J.look
  refine PySem.Calls.call_function_entry kind_abs plain_abs PyProof.Rows.entry_abs (args_abs _) ?_
  unfold Builtin.«abs»
  refine wpAny_bind (m := oneArg "abs" _) (wpAny_pure ?_)
  refine wpAny_bind (m := callSpecial? (.ref a) (Str.ofString "__abs__")) (PySem.W.special_fn I.kIn J hs (beq_iff_eq.mp hf) (wpAny_mono (run_in1 (us := [.ref a]) (vs := [.ref a]) F hr hb hx I (.cons rfl .nil) q) (fun v s' z => ?_) fun _ _ x => x))
  exact wpAny_pure ⟨_, rfl, z⟩
/-! ### a def's name in a call -/
/-- the module's name x is a def that keeps sp; dvs fill up -/
structure GD (P : Program) (w : World) (K : PySem.W.Frag) (mg : Str → Option Value) (base : Heap) (CX : CXT) (k : Nat) (x : Str) (ps : List Str) (dvs : List V) (sp : Sp) : Prop where
  ex : ∃ (f : Addr) (fd : FuncData) (ds : List Value), FnOk P w K mg base CX k f fd ps sp ∧ mg x = some (.ref f) ∧ PySem.W.keepIn K (.ref f) = true ∧ Binds K fd ps ds ∧ Vals dvs ds
theorem pe_gd {dvs : List V} {x : Str} {p pos : Pos} {e : Expr} {es : List Expr} {t : TA} (G : GD X.prog X.w X.K X.mg X.base CX k x ps dvs sp) (hr : Room k X.A) (hg : Gl X x) (hx : Passes CX X E)
    (ha : PA X (e :: es) t) (hdb : (x == ("__debug__" : Str)) = false := by decide) (he : starEach (e :: es) X.env = (false, eval e X.env) :: starEach es X.env := by rfl) (hpl : (backTo pos (starEach es X.env)).any (·.1) = false := by rfl) :
    PE X (.Call (.Name x p) (e :: es) [] pos) (tCall sp dvs E t) := by
  obtain ⟨f, fd, ds, F, h1, h2, h3, h4⟩ := G.ex
  exact pe_call F hr hg h1 h2 h3 h4 hx ha hdb he hpl
/-- the same for any caller's slots -/
theorem pe_gdS {dvs : List V} {x : Str} {p pos : Pos} {e : Expr} {es : List Expr} {t : TA} {E : L2.St → XK} (G : GD X.prog X.w X.K X.mg X.base CX k x ps dvs sp) (hr : Room k X.A) (hg : Gl X x) (hx : ∀ σ, PassesAt CX X σ (E σ))
    (ha : PA X (e :: es) t) (hdb : (x == ("__debug__" : Str)) = false := by decide) (he : starEach (e :: es) X.env = (false, eval e X.env) :: starEach es X.env := by rfl) (hpl : (backTo pos (starEach es X.env)).any (·.1) = false := by rfl) :
    PE X (.Call (.Name x p) (e :: es) [] pos) (tCallSD sp dvs E t) := by
  obtain ⟨f, fd, ds, F, h1, h2, h3, h4⟩ := G.ex
  exact pe_callSD F hr hg h1 h2 h3 h4 hx ha hdb he hpl
/-- a class that is made by its __init__ -/
structure GM (P : Program) (w : World) (K : PySem.W.Frag) (mg : Str → Option Value) (base : Heap) (CX : CXT) (k : Nat) (x : Str) (C : Addr) (ps : List Str) (dvs : List V) (sp : Sp) : Prop where
  ex : ∃ (f : Addr) (fd : FuncData) (ds : List Value), FnOk P w K mg base CX k f fd ps sp ∧ Mk K C f ∧ mg x = some (.ref C) ∧ Binds K fd ps ds ∧ Vals dvs ds
theorem pe_gm {dvs : List V} {x : Str} {p pos : Pos} {e : Expr} {es : List Expr} {t : TA} (G : GM X.prog X.w X.K X.mg X.base CX k x C ps dvs sp) (hr : Room (k + 1) X.A) (hg : Gl X x) (hx : Passes CX X E)
    (ha : PA X (e :: es) t) (hdb : (x == ("__debug__" : Str)) = false := by decide) (he : starEach (e :: es) X.env = (false, eval e X.env) :: starEach es X.env := by rfl) (hpl : (backTo pos (starEach es X.env)).any (·.1) = false := by rfl) :
    PE X (.Call (.Name x p) (e :: es) [] pos) (tMake C sp dvs E t) := by
  obtain ⟨f, fd, ds, F, M, h1, h3, h4⟩ := G.ex
  exact pe_make M F hr hg h1 h3 h4 hx ha hdb he hpl
/-- a method of the class at C -/
structure GH (P : Program) (w : World) (K : PySem.W.Frag) (mg : Str → Option Value) (base : Heap) (CX : CXT) (k : Nat) (C : Addr) (m : Str) (ps : List Str) (sp : Sp) : Prop where
  ex : ∃ (f : Addr) (fd : FuncData), FnOk P w K mg base CX k f fd ps sp ∧ Meth K C m f ∧ Binds K fd ps []
theorem pe_gh {o e : Expr} {es : List Expr} {m : Str} {apos pos : Pos} {ta : TE} {t : TA} {pl : Sem Bool} (he : PE X o ta) (c : Cls X.K C) (G : GH X.prog X.w X.K X.mg X.base CX k C m ps sp) (hr : Room k X.A) (hx : Passes CX X E) (ha : PA X (e :: es) t)
    (hst : starEach (e :: es) X.env = (false, eval e X.env) :: starEach es X.env := by rfl) (hpl : (backTo pos (starEach es X.env)).any (·.1) = false := by rfl)
    (ht : eval (.Call (.Attribute o m apos) (e :: es) [] pos) X.env = (do
      let ov ← eval o X.env
      standAt apos.atName
      let (f, first) ← holding [ov] (getMethod ov m pl)
      callWith pos f first (backTo pos (starEach (e :: es) X.env)) (backToKw pos (keywordEach [] X.env))) := by rfl) :
    PE X (.Call (.Attribute o m apos) (e :: es) [] pos) (tMeth C m sp [] E ta t) := by
  obtain ⟨f, fd, F, M, hb⟩ := G.ex
  exact pe_meth he c M F hr hb .nil hx ha hst hpl ht
end

/-! ### an error of one field -/
def spI1 (C : Addr) (f : Str) : Sp := fun vs H Q _ => ∃ a v, vs = [.ref a, v] ∧ H a = some (exo a C none) ∧ ∀ dx, H dx = none → dx ≠ a → Q .non (upd (upd H dx (exd dx [(f, v)])) a (exo a C (some dx)))
/-- the error's class x, at C, its field f -/
structure GX (P : Program) (w : World) (K : PySem.W.Frag) (mg : Str → Option Value) (base : Heap) (k : Nat) (x f : Str) (C : Addr) : Prop where
  T : OexC K C
  hm : mg x = some (.ref C)
  ex : ∃ (fI : Addr) (fd : FuncData), PySem.W.findIn K (.ref C) "__init__" = some (some (.ref fI)) ∧ PySem.W.typeIn K (.ref fI) = some (.type "function") ∧ FnOk P w K mg base (L2.CX P w) k fI fd ["self", f] (spI1 C f) ∧ Binds K fd ["self", f] []
section
variable {X : Cx} {k : Nat} {x f : Str} {C : Addr} {e : Expr} {ta : TA} {p pos pos2 : Pos}
theorem pmk1 (G : GX X.prog X.w X.K X.mg X.base k x f C) (hr : Room (k + 1) X.A) (hg : Gl X x) (ha : PA X [e] ta) (hdb : (x == ("__debug__" : Str)) = false := by decide)
    (he : starEach (e :: []) X.env = (false, eval e X.env) :: starEach [] X.env := by rfl) (hpl : (backTo pos (starEach [] X.env)).any (·.1) = false := by rfl) : PMk X (.Call (.Name x p) [e] [] pos) (tMkO C (spI1 C f) [] ta) := by
  obtain ⟨fI, fd, h1, h2, h3, h4⟩ := G.ex
  exact pmk_oex G.T h1 h2 h3 hr h4 .nil passL hg G.hm ha hdb he hpl
/-- what such a raise asks behind its argument v, at H1 -/
theorem mk1 {v : V} {H1 : Hp} {Q : XK} (h : ∀ d H2, Same H1 H2 → H1 d = none → H2 d = some (.xd [(f, v)]) → Q (.ref C) (some d) H2) :
    ([v] : List V).length ≤ 1000 ∧ ∀ a, H1 a = none → spI1 C f (.ref a :: ([v] ++ [])) (upd H1 a (exo a C none))
      (fun u H2 => u = .non ∧ ∃ (d : Addr) (fs : List (Str × V)), H2 a = some (exo a C (some d)) ∧ H2 d = some (exd d fs) ∧ H1 d = none ∧ Q (.ref C) (some d) (upd (del H2 a) d (.xd fs))) (fun _ _ _ => False) := by
  refine ⟨by simp, fun a na => ⟨a, v, rfl, upd_same, fun dx nd ne => ⟨rfl, dx, [(f, v)], upd_same, ?_, ?_, h _ _ (fun b o hb => ?_) ?_ upd_same⟩⟩⟩
  · rw [upd_ne ne, upd_same]
  · rw [upd_ne ne] at nd
    exact nd
  · have nb : b ≠ a := ne_of_none hb na
    have nd' : H1 dx = none := by
      rw [upd_ne ne] at nd
      exact nd
    rw [upd_ne (ne_of_none hb nd'), del_ne nb, upd_ne nb, upd_ne (ne_of_none hb nd'), upd_ne nb]
    exact hb
  · rw [upd_ne ne] at nd
    exact nd
end
/-! ### several clauses with names -/
def wManyA (K : PySem.W.Frag) (Wout : WX) (D : Ends) : List (Value × Nat × (Addr → Value → Option Addr → TS)) → WX
  | [] => Wout
  | (c, i, ts) :: r => fun cls d σ H => ∃ b, PySem.W.exmOne K cls c = some b ∧
      (b = true → ∀ a, H a = none → ts a cls d { nx := fun σ' H' => D.nx (σ'.set i none) H', rt := D.rt, bk := fun σ' H' => D.bk (σ'.set i none) H', ct := fun σ' H' => D.ct (σ'.set i none) H' } (σ.set i (some (.ref a))) H) ∧
      (b = false → wManyA K Wout D r cls d σ H)
inductive HdsA (X : Cx) : List ExceptHandler → List (Value × Nat × (Addr → Value → Option Addr → TS)) → Prop
  | nil : HdsA X [] []
  | cons {x n : Str} {c : Value} {i : Nat} {ts : Addr → Value → Option Addr → TS} {b₀ : Stmt} {suite : List Stmt} {np pos' : Pos} {hds : List ExceptHandler} {l : List (Value × Nat × (Addr → Value → Option Addr → TS))} (hc : Names X x c)
      (hi : X.N[i]? = some n) (hln : X.env.kindOf n = some .local)
      (hsu : ∀ (a : Addr) (oe : Obj) (cls : Value) (d : Option Addr) (pn : List (Addr × Obj)), Zc cls d oe → (∃ vs, oe.data = .fields vs) → PSs (X.suite a ((a, oe) :: pn)) (b₀ :: suite) (ts a cls d)) (r : HdsA X hds l) :
      HdsA X (.ExceptHandler (some (.Name x np)) (some n) (b₀ :: suite) pos' :: hds) ((c, i, ts) :: l)
section
variable {X : Cx} {body : List Stmt} {h₀ : ExceptHandler} {hds : List ExceptHandler} {l : List (Value × Nat × (Addr → Value → Option Addr → TS))} {pos : Pos} {tb : WX → TS} {Wout : WX}
theorem ps_try_manyA (hs : X.stack = X.env :: X.outer) (hf : X.env.frame = some X.env.locals) (hN : X.N.Nodup) (tk : Takes X Wout)
    (hb : ∀ (W : WX) (pn : List (Addr × Obj)) (xe : Value → Shared → Prop), Takes (X.tr pn xe) W → PassesOwn (model X.prog X.w) X.A X.env xe → PSs (X.tr pn xe) body (tb W))
    (hh : HdsA X (h₀ :: hds) l) : PS X (.Try body (h₀ :: hds) [] [] pos) (fun D σ H => tb (wManyA X.K Wout D l) D σ H) := by
  refine ⟨fun pins s σ H D I h => ?_⟩
  have ok := I.ok
  have hfr : X.A.frames = some (X.env :: X.outer) := by rw [ok.frames, hs]
  refine wpAny_Try_except ?_
  refine wpAny_mono ((hb (wManyA X.K Wout D l) (X.pn ++ pins) (fun e s₁ => wpAny (model X.prog X.w) X.A (noteFrame e X.env) (fun _ s₂ => wpAny (model X.prog X.w) X.A (setFlight e none) (fun _ s₃ =>
    wpAny (model X.prog X.w) X.A (handleBy e X.env (h₀ :: hds)) (SP X pins D) X.xe s₃) X.xe s₂) X.xe s₁) (fun u s' xx => ?_) PassesOwn.looking).run [] s σ H D (I.toTry _) h) (fun f s1 hsp => ?_) (fun e s1 he => he)
  · obtain ⟨a, B, sI, pins', σ', H', cls, d, rfl, J', nb, up, sky, na, os, ag, w⟩ := xx
    have J : Inv X pins σ' H' sI := J'.ofTry ok
    have sky' : Sky B (X.env :: X.outer) a (Zc cls d) X.env.locals s'.heap := by rw [← hs]; exact sky
    show wpAny (model X.prog X.w) X.A (noteFrame (.ref a) X.env) _ _ _
    refine Sky.land Zc.steady hfr hf sky' fun h3 fl3 up3 => ?_
    have J3 : Inv X pins σ' H' { s' with heap := h3 } := J.landed nb fl3.1 (up.trans up3) os ag
    obtain ⟨oe3, vs3, he3, hz3, hd3⟩ := fl3.there
    have notFr : ∀ {h : Heap} {o : Obj} {vs : Array Value}, h.FunFrames B (X.env :: X.outer) → h.get? a = some o → o.data = .fields vs → a ∉ frs (X.env :: X.outer) := fun {h o vs} ff e dd hm => by
      obtain ⟨_, o', e', hnf⟩ := ff.mem hm
      rw [e] at e'; cases e'
      exact hnf _ dd
    have nfr := notFr fl3.2.2.1 he3 hd3
    have nL : a ≠ X.env.locals := fun z => nfr (List.mem_filterMap.mpr ⟨X.env, List.mem_cons_self, by rw [hf, z]⟩)
    have nF : a ∉ X.fs := fun hm => by
      obtain ⟨e, he, q⟩ := List.mem_filterMap.mp hm
      exact nfr (List.mem_filterMap.mpr ⟨e, List.mem_cons_of_mem _ he, q⟩)
    have S3 := J3.suite he3 hd3 na nL nF
    have go : ∀ {hds' : List ExceptHandler} {l' : List (Value × Nat × (Addr → Value → Option Addr → TS))}, HdsA X hds' l' → wManyA X.K Wout D l' cls d σ' H' →
        wpAny (model X.prog X.w) X.A (handleBy (.ref a) X.env hds') (SP X pins D) X.xe { s' with heap := h3 } := by
      intro hds' l' hk
      induction hk with
      | nil =>
        intro w
        refine wpAny_handleBy_nil ?_
        obtain ⟨k1, k2, k3, oe, vs, T, oT, ts', he, hz, hd, h1, hr⟩ := id fl3
        unfold PySem.passOn
        refine wpAny_bind (wpAny_field he hd h1 ?_)
        rw [if_neg (show ¬ ((Value.ref T == Value.none) = true) from by simp)]
        have fin : wpAny (model X.prog X.w) X.A (setFlight (.ref a) X.env.frame) (fun _ s4 => wpAny (model X.prog X.w) X.A (throw (.ref a) : Sem Flow) (SP X pins D) X.xe s4) X.xe { s' with heap := h3 } := by
          rw [hf]
          refine HandSPX.setFlight_upZ fl3 fun h4 hh4 up4 => wpAny_throw (tk _ _ ?_)
          exact ⟨a, B, sI, pins, σ', H', cls, d, rfl, J, nb, (up.trans up3).trans up4, .inr (.inr (by rw [hs]; exact hh4)), na, os, ag, w⟩
        first
          | exact wpAny_bind (wpAny_pure (wpAny_bind fin))
          | exact wpAny_bind fin
      | @cons x n c i ts b₀ suite np pos' hds2 l2 hc hi hln hsu r ih =>
        intro w
        have hloc : Loc X.env.scope n := .inl hln
        obtain ⟨b, hb1, hyes, hno⟩ := w
        refine wpAny_handleBy_cons (codeAny_handlers_test ?_) (by intro q; cases q)
        have LT : PySem.W.Looks (model X.prog X.w) h3 (typeOf (.ref a)) cls := fun A Q E s k q => wpAny_typeOf_ref (k _ _ he3) (by rw [hz3.1]; exact q)
        have LM := PySem.W.exm_one (M := model X.prog X.w) (J3.kIn) LT hb1
        have test : ∀ {Q : Value → Shared → Prop} {E : Value → Shared → Prop}, Q c { s' with heap := h3 } → wpAny (model X.prog X.w) (X.A.mark (some (.ref a))) (eval (.Name x np) X.env) Q E { s' with heap := h3 } := fun {Q E} q => by
          obtain ⟨hg, hdbg, hm | ⟨hm, hv, hnn⟩⟩ := hc
          · exact ld_glob (X := X.suite a ((a, oe3) :: (X.pn ++ pins))) S3 hg hm q hdbg
          · exact ld_blt (X := X.suite a ((a, oe3) :: (X.pn ++ pins))) S3 hg hm hv q hnn hdbg
        refine test (LM.here ?_)
        cases b with
        | true =>
          refine codeAny_handlers_suite_as ?_
          refine HandSPX.lands_againZ fl3 fun h4 fl4 up4 => ?_
          have J4 : Inv X pins σ' H' { s' with heap := h4 } := J.landed nb fl4.1 ((up.trans up3).trans up4) os ag
          obtain ⟨oe4, vs4, he4, hz4, hd4⟩ := fl4.there
          have S4 := J4.suite he4 hd4 na nL nF
          refine store_ok (X := X.suite a ((a, oe4) :: (X.pn ++ pins))) (v := .ref a) S4 hN hi hloc rfl (fun s5 S5 => ?_) (.inr hln)
          refine wpAny_mono ((hsu a oe4 cls d (X.pn ++ pins) hz4 ⟨_, hd4⟩).run [] s5 _ H' _ S5 (hyes rfl a na)) (fun f s6 hsp => ?_) (fun _ _ z => False.elim z)
          have end_ : ∀ {σ6 : L2.St} {H6 : Hp} {Q : Shared → Prop}, Inv (X.suite a ((a, oe4) :: (X.pn ++ pins))) [] σ6 H6 s6 → (∀ s7, Inv X pins (σ6.set i none) H6 s7 → Q s7) →
              wpAny (model X.prog X.w) X.A (do bindName X.env n .none; unbindBehindTheSuite X.env n pos') (fun _ s7 => Q s7) X.xe s6 := fun {σ6 H6 Q} S6 hq => gone_ok (S6.unsuite ok) hN hi hln hq
          cases f with
          | next =>
            obtain ⟨σ6, H6, S6, q6⟩ := hsp
            exact end_ S6 fun s7 J7 => ⟨_, _, J7, q6⟩
          | brk =>
            obtain ⟨σ6, H6, S6, q6⟩ := hsp
            exact end_ S6 fun s7 J7 => ⟨_, _, J7, q6⟩
          | cont =>
            obtain ⟨σ6, H6, S6, q6⟩ := hsp
            exact end_ S6 fun s7 J7 => ⟨_, _, J7, q6⟩
          | ret u =>
            obtain ⟨v6, σ6, H6, S6, r6, q6⟩ := hsp
            exact end_ S6 fun s7 J7 => ⟨_, _, _, J7, r6, q6⟩
        | false =>
          show wpAny _ X.A (handleBy (.ref a) X.env hds2) _ _ _
          exact ih (hno rfl)
    exact go hh w
  · cases f with
    | next =>
      obtain ⟨σ', H', J', q⟩ := hsp
      exact wpAny_execs_nil ⟨σ', H', J'.ofTry ok, q⟩
    | brk =>
      obtain ⟨σ', H', J', q⟩ := hsp
      exact ⟨σ', H', J'.ofTry ok, q⟩
    | cont =>
      obtain ⟨σ', H', J', q⟩ := hsp
      exact ⟨σ', H', J'.ofTry ok, q⟩
    | ret u =>
      obtain ⟨v, σ', H', J', r, q⟩ := hsp
      exact ⟨v, σ', H', J'.ofTry ok, r, q⟩
end

/-! ### shapes -/
theorem pxE {X : Cx} {E : XK} {E₁ : Value → Shared → Prop} (hs : X.stack = X.env :: X.outer) (hf : X.env.frame = some X.env.locals) (hex : X.ex = [])
    (hx : X.xe = fun e s' => wpAny (model X.prog X.w) X.A (leaving X.env e) (fun _ s'' => L2.CX X.prog X.w X.outer X.H_0 X.s_0 E e s'') E₁ s') : Passes (L2.CX X.prog X.w) X E :=
  passes_call (takes_of hs hf hex hx) (fun _ _ _ _ h => h)
/-- an operator -/
structure GO (P : Program) (w : World) (K : PySem.W.Frag) (mg : Str → Option Value) (base : Heap) (CX : CXT) (k : Nat) (C : Addr) (op : Operator) (sp : Sp) : Prop where
  ex : ∃ (g : Addr) (fd : FuncData) (ps : List Str), OpC K C (PySem.dunder op.info.2) (PySem.dunderR op.info.2) g ∧ FnOk P w K mg base CX k g fd ps sp ∧ Binds K fd ps []
/-- a special method that is found by its name -/
structure GN (P : Program) (w : World) (K : PySem.W.Frag) (mg : Str → Option Value) (base : Heap) (CX : CXT) (k : Nat) (C : Addr) (m : Str) (sp : Sp) : Prop where
  ex : ∃ (g : Addr) (fd : FuncData) (ps : List Str), PySem.W.findIn K (.ref C) m = some (some (.ref g)) ∧ PySem.W.isFn K (.ref g) = true ∧ FnOk P w K mg base CX k g fd ps sp ∧ Binds K fd ps []
/-- a property -/
structure GP (P : Program) (w : World) (K : PySem.W.Frag) (mg : Str → Option Value) (base : Heap) (CX : CXT) (k : Nat) (C : Addr) (f : Str) (sp : Sp) : Prop where
  c : Cls K C
  ex : ∃ (p g : Addr) (fd : FuncData) (ps : List Str), PropOf K C f p g ∧ FnOk P w K mg base CX k g fd ps sp ∧ Binds K fd ps []
/-- a static method -/
structure GS (P : Program) (w : World) (K : PySem.W.Frag) (mg : Str → Option Value) (base : Heap) (CX : CXT) (k : Nat) (C : Addr) (m : Str) (sp : Sp) : Prop where
  ex : ∃ (mc : Value) (p g : Addr) (fd : FuncData) (ps : List Str), SMet K C mc m p g ∧ FnOk P w K mg base CX k g fd ps sp ∧ Binds K fd ps []
/-- free names -/
structure Nm (mg : Str → Option Value) : Prop where
  isinstance : mg "isinstance" = none
  int : mg "int" = none
  bool : mg "bool" = none
  str : mg "str" = none
  abs : mg "abs" = none
  len : mg "len" = none
  range : mg "range" = none
  enumerate : mg "enumerate" = none
  list : mg "list" = none
  tuple : mg "tuple" = none
section
variable {X : Cx} {CX : CXT} {k : Nat} {C : Addr} {sp : Sp} {E : XK} {op : Operator} {o e : Expr} {es : List Expr} {m f : Str} {apos pos : Pos} {ta : TE} {t : TA} {pl : Sem Bool}
theorem op_go (G : GO X.prog X.w X.K X.mg X.base CX k C op sp) (hr : Room k X.A) (hx : Passes CX X E) : OpR X (binaryOp op) (rBin C sp E) := by
  obtain ⟨g, fd, ps, O, F, hb⟩ := G.ex
  exact op_bin O F hr hb hx
theorem op_eqGo (G : GN X.prog X.w X.K X.mg X.base CX k C "__eq__" sp) (hr : Room k X.A) (hx : Passes CX X E) : OpR X (compareOp .Eq) (rEqOwn X.K C sp E) := by
  obtain ⟨g, fd, ps, h1, h2, F, hb⟩ := G.ex
  exact op_eqOwn h1 h2 F hr hb hx
theorem call_absGo (G : GN X.prog X.w X.K X.mg X.base CX k C "__abs__" sp) (hr : Room (k + 1) X.A) (hx : Passes CX X E) : CallR X (.builtin "abs") (rAbsOwn C sp E) := by
  obtain ⟨g, fd, ps, h1, h2, F, hb⟩ := G.ex
  exact call_absOwn h1 h2 F hr hb hx
theorem un_go (G : GN X.prog X.w X.K X.mg X.base CX k C "__neg__" sp) (hr : Room k X.A) (hx : Passes CX X E) : UnR X (unaryOp .USub) (rUn C sp E) := by
  obtain ⟨g, fd, ps, h1, h2, F, hb⟩ := G.ex
  exact un_own h1 h2 F hr hb hx
theorem passN {X : Cx} : Passes (L2.CX X.prog X.w) X.nox E0 := passL (X := X.nox)
theorem pe_gp (he : PE X o ta) (G : GP X.prog X.w X.K X.mg X.base (L2.CX X.prog X.w) k C f sp) (hr : Room (k + 1) X.A) (hab : attributeBase o f X.env (eval o X.env) = eval o X.env) :
    PE X (.Attribute o f pos) (tProp C sp [] E0 ta) := by
  obtain ⟨p, g, fd, ps, hp, F, hb⟩ := G.ex
  exact pe_prop (ds := []) he G.c hp F hr hb .nil passN hab
theorem pe_gs (he : PE X o ta) (G : GS X.prog X.w X.K X.mg X.base CX k C m sp) (hr : Room k X.A) (hx : Passes CX X E) (ha : PA X (e :: es) t)
    (hst : starEach (e :: es) X.env = (false, eval e X.env) :: starEach es X.env := by rfl) (hpl : (backTo pos (starEach es X.env)).any (·.1) = false := by rfl)
    (ht : eval (.Call (.Attribute o m apos) (e :: es) [] pos) X.env = (do
      let ov ← eval o X.env
      standAt apos.atName
      let (f, first) ← holding [ov] (getMethod ov m pl)
      callWith pos f first (backTo pos (starEach (e :: es) X.env)) (backToKw pos (keywordEach [] X.env))) := by rfl) :
    PE X (.Call (.Attribute o m apos) (e :: es) [] pos) (tSMeth C sp E ta t) := by
  obtain ⟨mc, p, g, fd, ps, S, F, hb⟩ := G.ex
  exact pe_smeth he S F hr hb hx ha hst hpl ht
end
section
variable {X : Cx}
theorem call_int1i : CallR X (.type "int") (fun xs H Q => ∃ i, xs = [.int i] ∧ Q (.int i) H) := fun pins s σ H xs us Q I r h => call_int1 pins s σ H xs us Q I r (.inl h)
theorem call_int1b : CallR X (.type "int") (fun xs H Q => ∃ k, xs = [.bl k] ∧ Q (.int (if k then 1 else 0)) H) := fun pins s σ H xs us Q I r h => call_int1 pins s σ H xs us Q I r (.inr h)
end
theorem cmL {i j : Int} (h : -(2 ^ 64) < i ∧ i < 2 ^ 64) : CMul i j := .inl h
theorem cmR {i j : Int} (h : -(2 ^ 64) < j ∧ j < 2 ^ 64) : CMul i j := .inr h
end Sp
end
section
set_option Elab.async false
set_option linter.all false
set_option maxRecDepth 100000
set_option maxHeartbeats 4000000
namespace Sp
open PySem PySem.Spec PyProof.Rows L2
section
variable {X : Cx}
/-- xs[i] as it is read ahead of xs[i] op= e -/
theorem get_list : PGet X (rIxL X.K) := by
  intro pins s σ H x y v u Q I rx ry h
  obtain ⟨p, xs, i, z, rfl, rfl, hq, he, q⟩ := h
  cases rx
  obtain ⟨t, rfl⟩ := ry
  obtain ⟨its, r, pl, hz⟩ := I.list hq
  obtain ⟨j, h1, h2, h3, h4, h5⟩ := atI_get he
  obtain ⟨w, ew, rw'⟩ := r.get h2
  have hl := r.length
  have hn := line63
  have fin : EP X pins σ Q w s := ⟨z, H, I, rw', q⟩
  by_cases h0 : 0 ≤ i
  · have hj : i.toNat = j := by
      rw [seqIndex_of h0 h5] at h1
      exact Option.some.inj h1
    exact wpAny_getItem_list pl.isList h0 (by omega) (by rw [hj]; simpa using ew) fin
  · have hj : (i + (its.toArray.size : Int)).toNat = j := by
      rw [seqIndex_neg (by omega) h4] at h1
      rw [List.size_toArray, ← hl]
      exact Option.some.inj h1
    exact wpAny_getItem_list_neg pl.isList (by omega) (by rw [List.size_toArray] <;> omega) (by omega) (by rw [hj]; simpa using ew) fin
end
/-! ### f(k = v, ..) -/
section
variable {X : Cx} {CX : CXT} {k : Nat} {f : Addr} {fd : FuncData} {ps ks : List Str} {sp : Sp} {E : XK} {g : List Value → List Value → List Value} {gV : List V → List V → List V}
theorem pe_callK0 {x : Str} {p pos : Pos} {kws : List Keyword} {tk : TA} (F : FnOk X.prog X.w X.K X.mg X.base CX k f fd ps sp) (hr : Room k X.A) (hg : Gl X x) (hm : X.mg x = some (.ref f)) (hk : PySem.W.keepIn X.K (.ref f) = true) (hb : KBinds X.K fd ps ks g gV) (hx : Passes CX X E)
    (hkw : PK X kws tk) (hall : (backToKw pos (keywordEach kws X.env)).all (·.1.isSome) = true := by rfl) (hks : (backToKw pos (keywordEach kws X.env)).filterMap (·.1) = ks := by rfl)
    (hdb : (x == ("__debug__" : Str)) = false := by decide) (hpl : ((backTo pos (starEach [] X.env)).any (·.1) || (backToKw pos (keywordEach kws X.env)).any (·.1.isNone)) = false := by rfl) :
    PE X (.Call (.Name x p) [] kws pos) (fun σ H Q => tk σ H fun zs H2 => sp (gV [] zs) H2 Q E) := by
  refine ⟨fun pins s σ H Q I h => ?_⟩
  refine wpAny_Call_Name_kw (ld_glob I hg hm ?_ hdb)
  refine PySem.W.callWith_KW0 (first := []) (h₀ := X.base) I.ok.mod.kin hk hall (thn (hkw.run pos pins _ σ H _ I h) fun ws s2 ⟨zs, H2, I2, rz, q2⟩ => ⟨I2.kIn, ?_⟩) hpl
  rw [hks]
  exact run_fnk (us := []) (vs := []) F hr hb hx I2 .nil rz q2
/-- the keywords' values stand for the parameters by pick -/
def gk (n : Nat) (pick : List Nat) {α : Type} (us ws : List α) : List α := if us.length = 0 ∧ ws.length = n then pick.filterMap fun i => ws[i]? else []
theorem vals_pick {vs : List V} {us : List Value} (r : Vals vs us) : ∀ l : List Nat, Vals (l.filterMap fun i => vs[i]?) (l.filterMap fun i => us[i]?)
  | [] => .nil
  | i :: l => by
    have hl := r.length
    by_cases h : i < vs.length
    · obtain ⟨w, e, rw'⟩ := r.get (List.getElem?_eq_getElem h)
      rw [List.filterMap_cons, List.filterMap_cons, e, List.getElem?_eq_getElem h]
      exact .cons rw' (vals_pick r l)
    · rw [List.filterMap_cons, List.filterMap_cons, List.getElem?_eq_none (by omega), List.getElem?_eq_none (by omega)]
      exact vals_pick r l
theorem gk_rel {n : Nat} {pick : List Nat} {vs : List V} {us : List Value} {zs : List V} {ws : List Value} (r : Vals vs us) (q : Vals zs ws) : Vals (gk n pick vs zs) (gk n pick us ws) := by
  unfold gk
  rw [r.length, q.length]
  split
  · exact vals_pick q pick
  · exact .nil
structure GDK (P : Program) (w : World) (K : PySem.W.Frag) (mg : Str → Option Value) (base : Heap) (CX : CXT) (k : Nat) (x : Str) (ks : List Str) (n : Nat) (pick : List Nat) (sp : Sp) : Prop where
  ex : ∃ (f : Addr) (fd : FuncData) (ps : List Str), FnOk P w K mg base CX k f fd ps sp ∧ mg x = some (.ref f) ∧ PySem.W.keepIn K (.ref f) = true ∧ KBinds K fd ps ks (gk n pick) (gk n pick)
theorem pe_gdk {x : Str} {p pos : Pos} {kws : List Keyword} {tk : TA} {n : Nat} {pick : List Nat} (G : GDK X.prog X.w X.K X.mg X.base CX k x ks n pick sp) (hr : Room k X.A) (hg : Gl X x) (hx : Passes CX X E)
    (hkw : PK X kws tk) (hall : (backToKw pos (keywordEach kws X.env)).all (·.1.isSome) = true := by rfl) (hks : (backToKw pos (keywordEach kws X.env)).filterMap (·.1) = ks := by rfl)
    (hdb : (x == ("__debug__" : Str)) = false := by decide) (hpl : ((backTo pos (starEach [] X.env)).any (·.1) || (backToKw pos (keywordEach kws X.env)).any (·.1.isNone)) = false := by rfl) :
    PE X (.Call (.Name x p) [] kws pos) (fun σ H Q => tk σ H fun zs H2 => sp (gk n pick [] zs) H2 Q E) := by
  obtain ⟨f, fd, ps, F, hm, hk, hb⟩ := G.ex
  exact pe_callK0 F hr hg hm hk hb hx hkw hall hks hdb hpl
end
section
variable {K : PySem.W.Frag} {f : Addr} {fd : FuncData} {x qual : Str} {params : Arguments} {body : List Stmt} {scope : Scope} {ps : List Str}
theorem gk_1 {k1 : Str} (F : FunD K x qual params body scope [] [] f fd) (hl : ps.length = 1)
    (h : ∀ (kV doc pm : Value) (an : Option Addr) (cdv ct u : Value), bindArgs (PySem.W.fnOf x qual params body scope .none kV doc pm an cdv ct) ⟨[], [(k1, u)]⟩ = pure (ps.zip [u])) : KBinds K fd ps [k1] (gk 1 [0]) (gk 1 [0]) := by
  refine ⟨fun s us ws hK hlen => ?_, fun {vs us zs ws} r q => gk_rel r q⟩
  obtain ⟨oc, od, dV, kV, doc, pm, an, cdv, ct, osl, rfl, lk, hcd, hD, hKw⟩ := F.ex
  rw [hl] at hlen
  unfold gk at hlen ⊢
  by_cases hc : us.length = 0 ∧ ws.length = 1
  · rw [if_pos hc]
    match us, ws, hc with
    | [], [u], _ =>
      rcases hD with ⟨_, rfl⟩ | ⟨e, _⟩
      · exact .of_eq (h kV doc pm an cdv ct u)
      · exact absurd rfl e
  · rw [if_neg hc] at hlen
    cases hlen
theorem gk_2 {k1 k2 : Str} {i j : Nat} (F : FunD K x qual params body scope [] [] f fd) (hl : ps.length = 2)
    (h : ∀ (kV doc pm : Value) (an : Option Addr) (cdv ct u v : Value), bindArgs (PySem.W.fnOf x qual params body scope .none kV doc pm an cdv ct) ⟨[], [(k1, u), (k2, v)]⟩ = pure (ps.zip ([i, j].filterMap fun i => [u, v][i]?))) : KBinds K fd ps [k1, k2] (gk 2 [i, j]) (gk 2 [i, j]) := by
  refine ⟨fun s us ws hK hlen => ?_, fun {vs us zs ws} r q => gk_rel r q⟩
  obtain ⟨oc, od, dV, kV, doc, pm, an, cdv, ct, osl, rfl, lk, hcd, hD, hKw⟩ := F.ex
  rw [hl] at hlen
  unfold gk at hlen ⊢
  by_cases hc : us.length = 0 ∧ ws.length = 2
  · rw [if_pos hc]
    match us, ws, hc with
    | [], [u, v], _ =>
      rcases hD with ⟨_, rfl⟩ | ⟨e, _⟩
      · exact .of_eq (h kV doc pm an cdv ct u v)
      · exact absurd rfl e
  · rw [if_neg hc] at hlen
    cases hlen
end
theorem mono_ne {i : Nat} {v : V} : ∀ (σ : L2.St) (H : Hp) (Q Q' : Bool → Hp → Prop), (∀ (b : Bool) (H1 : Hp), Q b H1 → Q' b H1) → tTest (tOp rNe (tVar i) (tC v)) σ H Q → tTest (tOp rNe (tVar i) (tC v)) σ H Q' := by
  rintro σ H Q Q' hq ⟨x, e, sc, k, hk, h⟩
  exact ⟨x, e, sc, k, hk, hq _ _ h⟩
theorem ixN_zero (n : Nat) : ixN (n + 1) 0 = some 0 := by
  unfold ixN
  rw [if_pos (by decide), if_pos (by omega)]
  rfl
theorem ixN_last (n : Nat) : ixN (n + 1) (-1) = some n := by
  unfold ixN
  rw [if_neg (by decide), if_pos (by omega)]
  congr 1
  omega
theorem eqv_ints : ∀ a b : List Int, PyData.eqv (.list (a.map PyData.int)) (.list (b.map PyData.int)) = decide (a = b)
  | [], [] => rfl
  | [], _ :: _ => rfl
  | _ :: _, [] => rfl
  | x :: a, y :: b => by
    have h := eqv_ints a b
    show ((x == y) && PyData.eqv (.list (a.map PyData.int)) (.list (b.map PyData.int))) = _
    rw [h]
    by_cases e : x = y <;> by_cases e' : a = b <;> simp [e, e']
theorem eqv_intsT (a b : List Int) : PyData.eqv (.tuple (a.map PyData.int)) (.tuple (b.map PyData.int)) = decide (a = b) := eqv_ints a b
theorem for_enum {K : PySem.W.Frag} {a : Addr} {xs : List V} {g : TG} {tb : TS} {D : Ends} {σ : L2.St} {H : Hp} (Pv : Nat → L2.St → Hp → Prop) (h0 : Pv 0 σ H) (hl : ∀ i σ H, i ≤ xs.length → Pv i σ H → SqL K H a xs)
    (hs : ∀ i x σ H T, xs[i]? = some x → Pv i σ H → H T = none → g (.ref T) σ (upd H T (.tup [.int (i : Nat), x])) fun σ2 H2 => tb { D with nx := Pv (i + 1), ct := Pv (i + 1), bk := D.nx } σ2 H2) (hd : ∀ σ H, Pv xs.length σ H → D.nx σ H) :
    ∃ W : Nat → Nat → L2.St → Hp → Prop, (∃ m, W 0 m σ H) ∧ ∀ i m σ H, W i m σ H →
      ((Ite K a).stop i H ∧ D.nx σ H) ∨ ((Ite K a).go i H ∧ ∃ N : L2.St → Hp → Prop, (∀ σ' H', N σ' H' → ∃ m', m' < m ∧ W (i + 1) m' σ' H') ∧ ∀ x H', (Ite K a).yld i H x H' → g x σ H' fun σ2 H2 => tb { D with nx := N, ct := N, bk := D.nx } σ2 H2) := by
  refine ⟨fun i m σ H => m = xs.length - i ∧ i ≤ xs.length ∧ Pv i σ H, ⟨xs.length, by simp, Nat.zero_le _, h0⟩, ?_⟩
  rintro i m σ H ⟨rfl, hi, p⟩
  have q := hl i σ H hi p
  by_cases hlt : i < xs.length
  · refine .inr ⟨⟨xs, xs[i], q, by simp [hlt]⟩, Pv (i + 1), fun σ' H' p' => ⟨xs.length - (i + 1), by omega, rfl, hlt, p'⟩, fun x H' y => ?_⟩
    obtain ⟨T, z, rfl, hT, rfl, hz⟩ := y
    exact hs i z σ H T (hz xs q) p hT
  · have e : i = xs.length := by omega
    subst e
    exact .inl ⟨⟨xs, q, Nat.le_refl _⟩, hd σ H p⟩
theorem in3 (i : Nat) (h : i < 5) : inV (V.int (i : Int)) [.int 0, .int 2, .int 4] = decide (i % 2 = 0) := by
  match i, h with
  | 0, _ => rfl
  | 1, _ => rfl
  | 2, _ => rfl
  | 3, _ => rfl
  | 4, _ => rfl
theorem dp_bls {K : PySem.W.Frag} {H : Hp} (bs : List Bool) : DpAll K H (bs.map V.bl) (bs.map PyData.bool) := by
  induction bs with
  | nil => exact .nil
  | cons c cs ih => exact .cons (.bl c) ih
theorem shaped_bls (bs : List Bool) : SeqAt.shaped (.list (bs.map PyData.bool)) = true := by
  induction bs with
  | nil => rfl
  | cons c cs ih => exact ih
theorem eqr {d : PyData} (h : SeqAt.shaped d = true) : PyData.eqv d d = true := SeqAt.eqv_refl d (SeqAt.canLay_of_shaped h)
/-- a word at which the reading stops -/
structure Bx (p : Prop) : Prop where
  out : p
theorem in11 (x : Int) : inV (V.int x) [.int 1, .int (-1)] = decide (x.natAbs = 1) := by
  show ((decide ((1 : Int) = x)) || ((decide ((-1 : Int) = x)) || false)) = _
  rw [Bool.or_false]
  by_cases h : x = 1
  · subst h
    rfl
  · by_cases h' : x = -1
    · subst h'
      rfl
    · rw [decide_eq_false (fun e => h e.symm), decide_eq_false (fun e => h' e.symm), decide_eq_false (by omega)]
      rfl
end Sp
end
section
set_option Elab.async false
set_option linter.all false
set_option maxRecDepth 100000
set_option maxHeartbeats 4000000
namespace Sp
open PySem PySem.Spec PyProof.Rows L2
section
variable {prog : Program} {w : World} {M : Model} {A : Around} {E : Value → Shared → Prop} {s : Shared} {K : PySem.W.Frag} {x C f : Addr} {ox : Obj} {od : Option Obj} {name : Str} {id : String}
theorem ifBound_B {args : List Value} {Q : Option Value → Shared → Prop} (X : K.In s.heap) (I : PySem.W.InstAt s.heap x ox C od) (hs : PySem.W.findIn K (.ref C) name = some (some (.builtin id)))
    (hb : ∀ self, bindSpecial (.builtin id) self = pure (.builtin id, [self])) (h : wpAny M A (call (.builtin id) (.ref x :: args)) (fun v => Q (some v)) E s) : wpAny M A (callSpecialIfBound? (.ref x) name args) Q E s := by
  simp only [callSpecialIfBound?, bindSpecialIfBound?]
  refine wpAny_holding (wpAny_bind (wpAny_bind (wpAny_bind (I.type.here ((PySem.W.looks_findIn X hs).here ?_)))))
  refine wpAny_bind (wpAny_askSetting (wpAny_ite ?_))
  have fin : wpAny M A (call (.builtin id) ([.ref x] ++ args) >>= fun v => pure (some v)) Q E s := wpAny_bind (wpAny_mono h (fun v s' h' => wpAny_pure h') fun _ _ h' => h')
  split
  · exact wpAny_bind ((PySem.W.Looks.of_pure (hb _)).here (wpAny_pure (by exact fin)))
  · exact wpAny_tryCatch (wpAny_bind ((PySem.W.Looks.of_pure (hb _)).here (wpAny_pure (by exact fin))))
end
/-- x != y by the class's own __eq__ -/
structure rNeOwn (K : PySem.W.Frag) (C : Addr) (sp : Sp) (E : XK) (x : V) (y : V) (H : Hp) (Q : VK) : Prop where
  un : ∃ a dx fs t, x = .ref a ∧ H a = some (.ins C dx fs) ∧ TyX K H y t ∧ PySem.W.notFirst K C t = true ∧ sp [x, y] H (fun v H' => ∃ b, v = .bl b ∧ Q (.bl (!b)) H') E
section
variable {X : Cx} {CX : CXT} {k : Nat} {C g : Addr} {fd : FuncData} {ps : List Str} {sp : Sp} {E : XK}
open Builtin in
theorem op_neOwn (hn : PySem.W.findIn X.K (.ref C) "__ne__" = some (some (.builtin "object.__ne__"))) (hmo : PySem.W.mroIn X.K C (.type "object") = some true) (hs : PySem.W.findIn X.K (.ref C) "__eq__" = some (some (.ref g))) (hf : PySem.W.isFn X.K (.ref g) = true)
    (F : FnOk X.prog X.w X.K X.mg X.base CX k g fd ps sp) (hr : Room (k + 1) X.A) (hb : Binds X.K fd ps []) (hx : Passes CX X E) : OpR X (compareOp .NotEq) (rNeOwn X.K C sp E) := by
  intro pins s σ H x y v u Q I rx ry h
  obtain ⟨a, dx, fs, t, rfl, ha, ty, hnf, q⟩ := h
  cases (show v = Value.ref a from rx)
  obtain ⟨mA, J, _⟩ := ins_get I.hok ha
  obtain ⟨od, J, _⟩ := J.look
  have X0 : X.K.In s.heap := I.kIn
  have one : wpAny (model X.prog X.w) X.A (tryCompare (.ref a) "__ne__" u) (fun r s' => ∃ v, r = some v ∧ EP X pins σ Q v s') X.xe s := by
    unfold tryCompare
    refine wpAny_bind (ifBound_B X0 J hn PySem.F.cmp_object.ne.bind ?_)
    refine wpAny_call (codeAny_call_builtin PySem.F.cmp_object.ne.plain PySem.F.cmpEntry_ne (PySem.W.check_slot (i := "object.__ne__") (owner := "object") (n := "__ne__") PySem.F.cmpKind_ne PySem.F.cmpSplit_ne (J.type.andThen (PySem.W.looks_mroIn X0 hmo)) (PySem.F.cmpArgs_ne _ _) ?_))
    unfold Builtin.«object.__ne__»
    refine wpAny_bind (m := slotArgs "__ne__" 1 _) (wpAny_pure ?_)
    refine wpAny_bind (m := cRoomFor _ _) (wpAny_cRoomFor hr.in1.units0 ?_)
    refine wpAny_bind (m := callSpecialIfBound? (.ref a) (Str.ofString "__eq__") _) (PySem.W.ifBound_K X0 J hs hf (wpAny_mono (run_in1 (us := [.ref a, u]) (vs := [.ref a, y]) F hr hb hx I (.cons rfl (.cons ry .nil)) q) (fun v s' z => ?_) fun _ _ e => e))
    obtain ⟨v', H', I', rv, b, rfl, qb⟩ := z
    cases (show v = Value.bool b from rv)
    refine wpAny_bind (m := truthy (.bool b)) (wpAny_truthy_bool ?_)
    exact wpAny_pure (wpAny_pure ⟨_, rfl, .bl (!b), H', I', rfl, qb⟩)
  show wpAny (model X.prog X.w) X.A (richCompare .NotEq (.ref a) u) (EP X pins σ Q) X.xe s
  unfold richCompare
  simp only [oneThing_ref]
  refine wpAny_holding (wpAny_bind (wpAny_cRoomFor hr.units0 ?_))
  refine wpAny_bind (J.type.here (wpAny_bind ((ty_looks I ry ty).here ?_)))
  split
  · rename_i q
    have e : PySem.W.subIn X.K t (.ref C) = some false := by
      rcases Bool.or_eq_true_iff.mp hnf with e | e
      · rw [beq_iff_eq.mp e] at q; simp at q
      · exact beq_iff_eq.mp e
    refine wpAny_bind ((PySem.W.looks_subIn X0 e).here ?_)
    simp only [Bool.false_eq_true, if_false]
    refine wpAny_bind (wpAny_mono one (fun r s' z => ?_) fun _ _ e => e)
    obtain ⟨v, rfl, hq⟩ := z
    exact wpAny_pure hq
  · refine wpAny_bind (wpAny_pure ?_)
    simp only [Bool.false_eq_true, if_false]
    refine wpAny_bind (wpAny_mono one (fun r s' z => ?_) fun _ _ e => e)
    obtain ⟨v, rfl, hq⟩ := z
    exact wpAny_pure hq
end
/-! ### a, b, .. = a list -/
section
variable {prog : Program} {w : World} {A : Around} {E : Value → Shared → Prop} {s : Shared}
theorem draw_lst {it t : Addr} {items : Array Value} (hne : t ≠ it) : ∀ (n i : Nat) (s : Shared) (Q : List Value → Shared → Prop), s.heap.IsListIter it t i → s.heap.IsList t items → i + n ≤ items.size →
    (∀ h' : Heap, h'.IsListIter it t (i + n) → Heap.SameBut it s.heap h' → Q ((items.toList.drop i).take n) { s with heap := h' }) → wpAny (model prog w) A (draw (.ref it) n) Q E s
  | 0, i, s, Q, hit, _, _, hQ => by
    show wpAny _ _ (pure []) Q E s
    exact wpAny_pure (by simpa using hQ s.heap hit (Heap.SameBut.refl ..))
  | n + 1, i, s, Q, hit, ht, hle, hQ => by
    have hlt : i < items.size := by omega
    show wpAny _ _ (pyNext (.ref it) >>= _) Q E s
    refine wpAny_bind (wpAny_pyNext_list_item hit ht (x := items[i]) (by simp [hlt]) fun h₁ hit₁ hs₁ => ?_)
    refine wpAny_bind (wpAny_holding (draw_lst hne n (i + 1) _ _ hit₁ (ht.extBut hs₁.extBut hne) (by omega) fun h₂ hit₂ hs₂ => wpAny_pure ?_))
    have hd : items.toList.drop i = items[i] :: items.toList.drop (i + 1) := by simp [List.drop_eq_getElem_cons, hlt]
    have := hQ h₂ (by rw [show i + (n + 1) = i + 1 + n by omega]; exact hit₂) (hs₁.trans hs₂)
    rw [hd, List.take_succ_cons] at this
    exact this
theorem unpackItems_lst {t : Addr} {items : Array Value} {Q : List Value → Shared → Prop} (hh : A.handled = none) (ht : s.heap.IsList t items)
    (hQ : ∀ h', Heap.ExtBut s.heap.objs.size s.heap h' → Q items.toList { s with heap := h' }) : wpAny (model prog w) A (unpackItems (.ref t) items.size none) Q E s := by
  have hlt : t ≠ s.heap.objs.size := by obtain ⟨o, ho, _⟩ := ht; exact Nat.ne_of_lt (Heap.lt_size ho)
  unfold unpackItems
  refine wpAny_bind ?_
  · unfold notIterableAtAll
    refine wpAny_bind (wpAny_specialOf ht.typeIs slot_list_iter.lookup ?_)
    refine wpAny_pure ?_
    simp only [Bool.false_eq_true, if_false]
    refine wpAny_bind (wpAny_holding (wpAny_pyIter_list ht ?_))
    refine wpAny_bind (wpAny_holding (draw_lst hlt items.size 0 _ _ ⟨_, Heap.get?_push_size _ rfl, rfl, rfl⟩ (ht.push _) (by omega) fun h₁ hit₁ hs₁ => ?_))
    have hall : List.take items.size (List.drop 0 items.toList) = items.toList := by
      rw [List.drop_zero]; exact List.take_of_length_le (by simp)
    rw [hall]
    rw [if_neg (by simp)]
    have ht₁ : h₁.IsList t items := (ht.push _).extBut hs₁.extBut hlt
    refine wpAny_bind (wpAny_holding (wpAny_pyNext_list_end hh hit₁ ht₁ (by simp) fun h₂ he₂ => ?_))
    simp only [Option.isSome_none, Bool.false_eq_true, if_false]
    refine wpAny_pure (hQ h₂ fun b o hb e => he₂ b o hb (hs₁.extBut b o hb (Heap.get?_push_of_some _ e)))
theorem assign_Tuple_lst {env : Env} {elts : List Expr} {x1} {pos : Pos} {t : Addr} {items : Array Value} {Q : Unit → Shared → Prop} (hh : A.handled = none) (ht : s.heap.IsList t items)
    (hn : (assignEach elts env).length = items.size) (hstar : (assignEach elts env).findIdx? (·.1) = none)
    (h : ∀ h', Heap.ExtBut s.heap.objs.size s.heap h' → wpAny (model prog w) A (assignInOrder ((assignEach elts env).map (·.2)) items.toList) Q E { s with heap := h' }) :
    wpAny (model prog w) A (assign (.Tuple elts x1 pos) env (.ref t)) Q E s := by
  rw [assign_Tuple]
  refine wpAny_bind (wpAny_standAt ?_)
  unfold unpack
  rw [hn, hstar]
  exact wpAny_bind (wpAny_holding (unpackItems_lst hh ht h))
end
def gTupL (K : PySem.W.Frag) (n : Nat) (t : TGs) : TG := fun v σ H Q => ∃ a xs, v = .ref a ∧ SqL K H a xs ∧ xs.length = n ∧ t xs σ H Q
section
variable {X : Cx}
theorem pg_tupL {es : List Expr} {k : Nat} {t : TGs} {n : Nat} {pos : Pos} (hc : X.calm = true) (h : PGs X es t)
    (hn : (assignEach es X.env).length = n := by rfl) (hst : (assignEach es X.env).findIdx? (·.1) = none := by rfl) : PG X (.Tuple es k pos) (gTupL X.K n t) := by
  refine ⟨fun pins s σ H v u Q I r hw => ?_⟩
  obtain ⟨a, xs, e1, hq, hl, hw⟩ := hw
  subst e1
  cases r
  obtain ⟨its, rv, ht, hz⟩ := I.list hq
  refine assign_Tuple_lst (I.ok.hd hc) ht.isList (by simp [hn, ← hl, rv.length]) hst fun h' hx => ?_
  have I1 : Inv X pins σ H { s with heap := h' } := I.kept (t' := s.toks) fun b o e => hx b o (Nat.ne_of_lt (Heap.lt_size e)) e
  exact h.run pins _ σ H xs _ Q I1 (by simpa using rv) hw
/-- x is True, of a number or None -/
theorem op_isTrue : OpR X (compareOp .Is) (fun x y H Q => y = .bl true ∧ (x = .non ∨ ∃ i, x = .int i) ∧ Q (.bl false) H) := by
  intro pins s σ H x y v u Q I rx ry h
  obtain ⟨rfl, h, q⟩ := h
  cases (show u = Value.bool true from ry)
  rcases h with rfl | ⟨i, rfl⟩
  · cases (show v = Value.none from rx)
    exact wpAny_is_other rfl (fun z => by cases z) ⟨.bl false, H, I, rfl, q⟩
  · obtain ⟨t, rfl⟩ := rx
    exact wpAny_is_other rfl (fun z => by cases z) ⟨.bl false, H, I, rfl, q⟩
end
/-! ### f(e, .., k = v, ..) -/
def gmix (a b : Nat) {α : Type} (us ws : List α) : List α := if us.length = a ∧ ws.length = b then us ++ ws else []
theorem vals_app {vs zs : List V} {us ws : List Value} (r : Vals vs us) (q : Vals zs ws) : Vals (vs ++ zs) (us ++ ws) := by
  induction r with
  | nil => exact q
  | cons h _ ih => exact .cons h ih
theorem gmix_rel {a b : Nat} {vs : List V} {us : List Value} {zs : List V} {ws : List Value} (r : Vals vs us) (q : Vals zs ws) : Vals (gmix a b vs zs) (gmix a b us ws) := by
  unfold gmix
  rw [r.length, q.length]
  split
  · exact vals_app r q
  · exact .nil
structure GDM (P : Program) (w : World) (K : PySem.W.Frag) (mg : Str → Option Value) (base : Heap) (CX : CXT) (k : Nat) (x : Str) (ks : List Str) (a b : Nat) (sp : Sp) : Prop where
  ex : ∃ (f : Addr) (fd : FuncData) (ps : List Str), FnOk P w K mg base CX k f fd ps sp ∧ mg x = some (.ref f) ∧ PySem.W.keepIn K (.ref f) = true ∧ KBinds K fd ps ks (gmix a b) (gmix a b)
section
variable {X : Cx} {CX : CXT} {k : Nat} {sp : Sp} {E : XK}
theorem pe_gdm {x : Str} {p pos : Pos} {e : Expr} {es : List Expr} {kws : List Keyword} {t tk : TA} {ks : List Str} {a b : Nat} (G : GDM X.prog X.w X.K X.mg X.base CX k x ks a b sp) (hr : Room k X.A) (hg : Gl X x) (hx : Passes CX X E)
    (ha : PA X (e :: es) t) (hkw : PK X kws tk) (hall : (backToKw pos (keywordEach kws X.env)).all (·.1.isSome) = true := by rfl) (hks : (backToKw pos (keywordEach kws X.env)).filterMap (·.1) = ks := by rfl)
    (hdb : (x == ("__debug__" : Str)) = false := by decide) (he : starEach (e :: es) X.env = (false, eval e X.env) :: starEach es X.env := by rfl)
    (hpl : ((backTo pos (starEach (e :: es) X.env)).any (·.1) || (backToKw pos (keywordEach kws X.env)).any (·.1.isNone)) = false := by rfl) :
    PE X (.Call (.Name x p) (e :: es) kws pos) (tCallK sp (gmix a b) E t tk) := by
  obtain ⟨f, fd, ps, F, hm, hk, hb⟩ := G.ex
  exact pe_callK F hr hg hm hk hb hx ha hkw hall hks hdb he hpl
end
section
variable {K : PySem.W.Frag} {f : Addr} {fd : FuncData} {x qual : Str} {params : Arguments} {body : List Stmt} {scope : Scope} {ps : List Str}
theorem gm_22 {k1 k2 : Str} (F : FunD K x qual params body scope [] [] f fd) (hl : ps.length = 4)
    (h : ∀ (kV doc pm : Value) (an : Option Addr) (cdv ct a b u v : Value), bindArgs (PySem.W.fnOf x qual params body scope .none kV doc pm an cdv ct) ⟨[a, b], [(k1, u), (k2, v)]⟩ = pure (ps.zip [a, b, u, v])) : KBinds K fd ps [k1, k2] (gmix 2 2) (gmix 2 2) := by
  refine ⟨fun s us ws hK hlen => ?_, fun {vs us zs ws} r q => gmix_rel r q⟩
  obtain ⟨oc, od, dV, kV, doc, pm, an, cdv, ct, osl, rfl, lk, hcd, hD, hKw⟩ := F.ex
  rw [hl] at hlen
  unfold gmix at hlen ⊢
  by_cases hc : us.length = 2 ∧ ws.length = 2
  · rw [if_pos hc]
    match us, ws, hc with
    | [a, b], [u, v], _ =>
      rcases hD with ⟨_, rfl⟩ | ⟨e, _⟩
      · exact .of_eq (h kV doc pm an cdv ct a b u v)
      · exact absurd rfl e
  · rw [if_neg hc] at hlen
    cases hlen
theorem gk_4 {k1 k2 k3 k4 : Str} (F : FunD K x qual params body scope [] [] f fd) (hl : ps.length = 4)
    (h : ∀ (kV doc pm : Value) (an : Option Addr) (cdv ct a b u v : Value), bindArgs (PySem.W.fnOf x qual params body scope .none kV doc pm an cdv ct) ⟨[], [(k1, a), (k2, b), (k3, u), (k4, v)]⟩ = pure (ps.zip [a, b, u, v])) : KBinds K fd ps [k1, k2, k3, k4] (gk 4 [0, 1, 2, 3]) (gk 4 [0, 1, 2, 3]) := by
  refine ⟨fun s us ws hK hlen => ?_, fun {vs us zs ws} r q => gk_rel r q⟩
  obtain ⟨oc, od, dV, kV, doc, pm, an, cdv, ct, osl, rfl, lk, hcd, hD, hKw⟩ := F.ex
  rw [hl] at hlen
  unfold gk at hlen ⊢
  by_cases hc : us.length = 0 ∧ ws.length = 4
  · rw [if_pos hc]
    match us, ws, hc with
    | [], [a, b, u, v], _ =>
      rcases hD with ⟨_, rfl⟩ | ⟨e, _⟩
      · exact .of_eq (h kV doc pm an cdv ct a b u v)
      · exact absurd rfl e
  · rw [if_neg hc] at hlen
    cases hlen
end
/-- != by __eq__ -/
structure GNe (P : Program) (w : World) (K : PySem.W.Frag) (mg : Str → Option Value) (base : Heap) (CX : CXT) (k : Nat) (C : Addr) (sp : Sp) : Prop where
  ne : PySem.W.findIn K (.ref C) "__ne__" = some (some (.builtin "object.__ne__"))
  mo : PySem.W.mroIn K C (.type "object") = some true
  eq : GN P w K mg base CX k C "__eq__" sp
theorem op_neGo {X : Cx} {CX : CXT} {k : Nat} {C : Addr} {sp : Sp} {E : XK} (G : GNe X.prog X.w X.K X.mg X.base CX k C sp) (hr : Room (k + 1) X.A) (hx : Passes CX X E) : OpR X (compareOp .NotEq) (rNeOwn X.K C sp E) := by
  obtain ⟨g, fd, ps, h1, h2, F, hb⟩ := G.eq.ex
  exact op_neOwn G.ne G.mo h1 h2 F hr hb hx
theorem mono_I0 {i : Nat} {v : V} {f : Int → Int → V} : ∀ (σ : L2.St) (H : Hp) (Q Q' : Bool → Hp → Prop), (∀ (b : Bool) (H1 : Hp), Q b H1 → Q' b H1) → tTest (tOp (rI0 f) (tVar i) (tC v)) σ H Q → tTest (tOp (rI0 f) (tVar i) (tC v)) σ H Q' := by
  rintro σ H Q Q' hq ⟨x, e, i, j, e1, e2, k, hk, h⟩
  exact ⟨x, e, i, j, e1, e2, k, hk, hq _ _ h⟩
theorem mono_gt : True := trivial
end Sp
end
section
set_option linter.all false
namespace Sp
/-! ### ratios as Lean's own -/
def Sz (q : Rat) (n : Nat) : Prop := q.num.natAbs < 2 ^ n ∧ q.den < 2 ^ n
theorem dvd_g1 (a b : Int) : ((Nat.gcd a.natAbs b.natAbs : Nat) : Int) ∣ a := Int.gcd_dvd_left (a := a) (b := b)
theorem dvd_g2 (a b : Int) : ((Nat.gcd a.natAbs b.natAbs : Nat) : Int) ∣ b := Int.gcd_dvd_right (a := a) (b := b)
/-- the divisor that Ratio's __init__ takes -/
def comm (a b : Int) : Int := if 0 < b then ((Nat.gcd a.natAbs b.natAbs : Nat) : Int) else -((Nat.gcd a.natAbs b.natAbs : Nat) : Int)
theorem comm_ne {a b : Int} (h : b ≠ 0) : comm a b ≠ 0 := by
  unfold comm
  have : Nat.gcd a.natAbs b.natAbs ≠ 0 := by
    intro z
    have := (Nat.gcd_eq_zero_iff.mp z).2
    omega
  split <;> omega
theorem comm_le {a b : Int} (h : b ≠ 0) : (comm a b).natAbs ≤ b.natAbs := by
  have := Nat.gcd_le_right a.natAbs (show 0 < b.natAbs by omega)
  unfold comm
  split <;> omega
theorem comm_num {a b : Int} (h : b ≠ 0) : a.fdiv (comm a b) = (Rat.divInt a b).num := by
  rw [Rat.num_divInt]
  have hg : (b.gcd a : Nat) = Nat.gcd a.natAbs b.natAbs := by rw [Int.gcd, Nat.gcd_comm]
  rw [hg]
  have d := dvd_g1 a b
  unfold comm
  split
  · rename_i hb
    rw [Int.sign_eq_one_of_pos hb, Int.one_mul, Int.fdiv_eq_ediv_of_dvd d]
  · rw [Int.sign_eq_neg_one_of_neg (by omega), Int.fdiv_eq_ediv_of_dvd (Int.neg_dvd.mpr d), Int.ediv_neg]
    rw [show (-1 : Int) * a = -a by omega, Int.neg_ediv_of_dvd d]
theorem comm_den {a b : Int} (h : b ≠ 0) : b.fdiv (comm a b) = (Rat.divInt a b).den := by
  rw [Rat.den_divInt, if_neg h]
  have hg : (b.gcd a : Nat) = Nat.gcd a.natAbs b.natAbs := by rw [Int.gcd, Nat.gcd_comm]
  rw [hg]
  have d := dvd_g2 a b
  unfold comm
  split
  · rename_i hb
    rw [Int.fdiv_eq_ediv_of_dvd d]
    have : b = (b.natAbs : Int) := by omega
    generalize Nat.gcd a.natAbs b.natAbs = g
    rw [Int.natCast_ediv, ← this]
  · rename_i hb
    rw [Int.fdiv_eq_ediv_of_dvd (Int.neg_dvd.mpr d), Int.ediv_neg, ← Int.neg_ediv_of_dvd d]
    have : -b = (b.natAbs : Int) := by omega
    rw [this, Int.natCast_ediv]
theorem sz_divInt {a b : Int} {n : Nat} (h : b ≠ 0) (ha : a.natAbs < 2 ^ n) (hb : b.natAbs < 2 ^ n) : Sz (Rat.divInt a b) n := by
  refine ⟨?_, ?_⟩
  · rw [Rat.num_divInt]
    have : (b.sign * a / ((b.gcd a : Nat) : Int)).natAbs ≤ (b.sign * a).natAbs := Int.natAbs_ediv_le_natAbs _ _
    have h2 : (b.sign * a).natAbs = a.natAbs := by rw [Int.natAbs_mul, Int.natAbs_sign, if_neg h]; omega
    omega
  · rw [Rat.den_divInt, if_neg h]
    have := Nat.div_le_self b.natAbs (b.gcd a)
    omega
theorem nb_mul {x y : Int} {a b : Nat} (hx : x.natAbs < 2 ^ a) (hy : y.natAbs < 2 ^ b) : (x * y).natAbs < 2 ^ (a + b) := by
  rw [Int.natAbs_mul, Nat.pow_add]
  exact Nat.mul_lt_mul'' hx hy
theorem nb_add {x y : Int} {a b n : Nat} (hx : x.natAbs < 2 ^ a) (hy : y.natAbs < 2 ^ b) (ha : a + 1 ≤ n := by omega) (hb : b + 1 ≤ n := by omega) : (x + y).natAbs < 2 ^ n := by
  have h1 : 2 ^ a ≤ 2 ^ (n - 1) := Nat.pow_le_pow_right (by decide) (by omega)
  have h2 : 2 ^ b ≤ 2 ^ (n - 1) := Nat.pow_le_pow_right (by decide) (by omega)
  have h3 : 2 ^ n = 2 ^ (n - 1) + 2 ^ (n - 1) := by
    obtain ⟨m, rfl⟩ : ∃ m, n = m + 1 := ⟨n - 1, by omega⟩
    rw [Nat.add_sub_cancel, Nat.pow_succ]
    omega
  omega
theorem nb_neg {x : Int} {a : Nat} (hx : x.natAbs < 2 ^ a) : (-x).natAbs < 2 ^ a := by omega
theorem nb_sub {x y : Int} {a b n : Nat} (hx : x.natAbs < 2 ^ a) (hy : y.natAbs < 2 ^ b) (ha : a + 1 ≤ n := by omega) (hb : b + 1 ≤ n := by omega) : (x - y).natAbs < 2 ^ n := by
  rw [Int.sub_eq_add_neg]
  exact nb_add hx (nb_neg hy) ha hb
theorem nb_le {x : Int} {a n : Nat} (hx : x.natAbs < 2 ^ a) (h : a ≤ n := by omega) : x.natAbs < 2 ^ n := Nat.lt_of_lt_of_le hx (Nat.pow_le_pow_right (by decide) h)
theorem Sz.mono {q : Rat} {m n : Nat} (h : Sz q m) (l : m ≤ n := by omega) : Sz q n := ⟨nb_le h.1 l, Nat.lt_of_lt_of_le h.2 (Nat.pow_le_pow_right (by decide) l)⟩
theorem Sz.d {q : Rat} {n : Nat} (h : Sz q n) : ((q.den : Nat) : Int).natAbs < 2 ^ n := by have := h.2; omega
theorem den_ne (q : Rat) : ((q.den : Nat) : Int) ≠ 0 := by have := q.den_nz; omega
theorem add_eq (p q : Rat) : Rat.divInt (p.num * q.den + q.num * p.den) (p.den * q.den) = p + q := by
  rw [← Rat.divInt_add_divInt _ _ (den_ne p) (den_ne q), Rat.num_divInt_den, Rat.num_divInt_den]
theorem sub_eq (p q : Rat) : Rat.divInt (p.num * q.den - q.num * p.den) (p.den * q.den) = p - q := by
  rw [← Rat.divInt_sub_divInt _ _ (den_ne p) (den_ne q), Rat.num_divInt_den, Rat.num_divInt_den]
theorem mul_eq (p q : Rat) : Rat.divInt (p.num * q.num) (p.den * q.den) = p * q := by
  rw [← Rat.divInt_mul_divInt, Rat.num_divInt_den, Rat.num_divInt_den]
theorem dd_ne (p q : Rat) : ((p.den : Nat) : Int) * ((q.den : Nat) : Int) ≠ 0 := Int.mul_ne_zero (den_ne p) (den_ne q)
theorem sz_add {p q : Rat} {m n k : Nat} (hp : Sz p m) (hq : Sz q n) (h : m + n + 1 ≤ k := by omega) : Sz (p + q) k := by
  rw [← add_eq]
  exact sz_divInt (dd_ne p q) (nb_add (nb_mul hp.1 hq.d) (nb_mul hq.1 hp.d)) (nb_le (nb_mul hp.d hq.d))
theorem sz_sub {p q : Rat} {m n k : Nat} (hp : Sz p m) (hq : Sz q n) (h : m + n + 1 ≤ k := by omega) : Sz (p - q) k := by
  rw [← sub_eq]
  exact sz_divInt (dd_ne p q) (nb_sub (nb_mul hp.1 hq.d) (nb_mul hq.1 hp.d)) (nb_le (nb_mul hp.d hq.d))
theorem sz_mul {p q : Rat} {m n k : Nat} (hp : Sz p m) (hq : Sz q n) (h : m + n ≤ k := by omega) : Sz (p * q) k := by
  rw [← mul_eq]
  exact sz_divInt (dd_ne p q) (nb_le (nb_mul hp.1 hq.1)) (nb_le (nb_mul hp.d hq.d))
theorem sz_int {i : Int} {n : Nat} (h : i.natAbs < 2 ^ n) (h0 : 1 ≤ n := by omega) : Sz (i : Rat) n := by
  refine ⟨by rw [Rat.num_intCast]; exact h, ?_⟩
  rw [Rat.den_intCast]
  exact Nat.lt_of_lt_of_le (by decide : 1 < 2 ^ 1) (Nat.pow_le_pow_right (by decide) h0)
theorem divInt_one (i : Int) : Rat.divInt i 1 = (i : Rat) := by
  rw [Rat.divInt_eq_div]
  show (i : Rat) / ((1 : Int) : Rat) = i
  rw [Rat.intCast_one]
  grind
/-- what a ratio that stands for a / b says -/
theorem is_pair {q : Rat} {a b : Int} (h : b ≠ 0) (e : q = Rat.divInt a b) : q.num * b = a * q.den := by
  have : Rat.divInt q.num q.den = Rat.divInt a b := by rw [Rat.num_divInt_den, e]
  exact (Rat.divInt_eq_divInt_iff (den_ne q) h).mp this
theorem div_eq {a b : Int} : Rat.divInt a b = (a : Rat) / (b : Rat) := Rat.divInt_eq_div a b
theorem below_eq (p q : Rat) : decide ((p.num * q.den - q.num * p.den).sign < 0) = decide (p < q) := by
  rw [decide_eq_decide, Rat.lt_iff, Int.sign_neg_iff]
  omega
def qabs (q : Rat) : Rat := if q < 0 then -q else q
theorem num_neg (q : Rat) : q.num < 0 ↔ q < 0 := by
  rw [Rat.lt_iff]
  simp
theorem qabs_eq (q : Rat) : Rat.divInt (if q.num < 0 then -q.num else q.num) q.den = qabs q := by
  unfold qabs
  by_cases h : q < 0
  · rw [if_pos h, if_pos ((num_neg q).mpr h), ← Rat.neg_divInt, Rat.num_divInt_den]
  · rw [if_neg h, if_neg (fun z => h ((num_neg q).mp z)), Rat.num_divInt_den]
theorem req (p q : Rat) : p = q ↔ p.num = q.num ∧ ((p.den : Nat) : Int) = ((q.den : Nat) : Int) := by
  constructor
  · intro h
    subst h
    exact ⟨rfl, rfl⟩
  · intro ⟨a, b⟩
    exact Rat.ext a (by omega)
theorem num_pos {q : Rat} : 0 < q.num ↔ 0 < q := by
  rw [Rat.lt_iff]
  simp
theorem sz_abs {q : Rat} {n : Nat} (h : Sz q n) : Sz (qabs q) n := by
  rw [← qabs_eq]
  refine sz_divInt (den_ne q) ?_ h.d
  have := h.1
  split <;> omega
end Sp
end
section
set_option Elab.async false
set_option linter.all false
set_option maxRecDepth 100000
set_option maxHeartbeats 4000000
namespace Sp
open PySem PySem.Spec PyProof.Rows L2
open PySem.W (Frag)
/-! ### what may be weakened -/
def monoE (te : TE) : TE := fun σ H Q => ∃ R : VK, te σ H R ∧ ∀ v H', R v H' → Q v H'
def monoA (t : TA) : TA := fun σ H Q => ∃ R : List V → Hp → Prop, t σ H R ∧ ∀ v H', R v H' → Q v H'
theorem PE.mono {X : Cx} {e : Expr} {te : TE} (h : PE X e te) : PE X e (monoE te) := ⟨fun pins s σ H Q I ⟨R, z, w⟩ => wpAny_mono (h.run pins s σ H R I z) (fun u s1 ⟨v, H1, I1, r, q⟩ => ⟨v, H1, I1, r, w _ _ q⟩) (fun _ _ e => e)⟩
theorem PA.mono {X : Cx} {es : List Expr} {t : TA} (h : PA X es t) : PA X es (monoA t) := ⟨fun pos pins s σ H Q I ⟨R, z, w⟩ => wpAny_mono (h.run pos pins s σ H R I z) (fun u s1 ⟨v, H1, I1, r, q⟩ => ⟨v, H1, I1, r, w _ _ q⟩) (fun _ _ e => e)⟩
/-! ### the library's readings, closed -/
structure rIsi (K : Frag) (xs : List V) (H : Hp) (Q : VK) : Prop where
  un : L2.rIsi K xs H Q
structure rIxL (K : Frag) (x y : V) (H : Hp) (Q : VK) : Prop where
  un : L2.rIxL K x y H Q
structure rIxT (K : Frag) (x y : V) (H : Hp) (Q : VK) : Prop where
  un : L2.rIxT K x y H Q
structure rEqD (K : Frag) (x y : V) (H : Hp) (Q : VK) : Prop where
  un : L2.rEqD K x y H Q
structure rNeD (K : Frag) (x y : V) (H : Hp) (Q : VK) : Prop where
  un : L2.rNeD K x y H Q
structure rIn (K : Frag) (neg : Bool) (x y : V) (H : Hp) (Q : VK) : Prop where
  un : L2.rIn K neg x y H Q
structure rCat (x y : V) (H : Hp) (Q : VK) : Prop where
  un : L2.rCat x y H Q
structure rAppend (x : V) (vs : List V) (H : Hp) (Q : VK) : Prop where
  un : L2.rAppend x vs H Q
structure tDNewK (σ : L2.St) (H : Hp) (Q : VK) : Prop where
  un : L2.tDNewK σ H Q
structure gTup (K : Frag) (n : Nat) (t : TGs) (v : V) (σ : L2.St) (H : Hp) (Q : L2.St → Hp → Prop) : Prop where
  un : L2.gTup K n t v σ H Q
structure EnumD (K : Frag) (vs : List V) (H : Hp) (R : It → Hp → Prop) : Prop where
  un : ∃ a xs, vs = [.ref a] ∧ SqL K H a xs ∧ R (Ite K a) H
structure iEnum (K : Frag) (ta : TA) (σ : L2.St) (H : Hp) (R : It → Hp → Prop) : Prop where
  un : ta σ H fun vs H1 => EnumD K vs H1 R
structure tLam (T : List (Addr × Str)) (TT : (XK → Hp → VK → Prop) → Hp → VK → Prop) (t : XK → TE) (σ : L2.St) (H : Hp) (Q : VK) : Prop where
  un : LamX.tLam T TT t σ H Q
section
variable {X : Cx}
theorem call_isi : CallR X (.builtin "isinstance") (rIsi X.K) := fun pins s σ H xs us Q I r h => L2.call_isi pins s σ H xs us Q I r h.un
theorem ix_list : IxR X (rIxL X.K) := fun a b pins s σ H x y v u Q I rx ry h z => L2.ix_list a b pins s σ H x y v u Q I rx ry h.un z
theorem ix_tup : IxR X (rIxT X.K) := fun a b pins s σ H x y v u Q I rx ry h z => L2.ix_tup a b pins s σ H x y v u Q I rx ry h.un z
theorem op_eqD (hu : X.A.units + 64 < cLine) : OpR X (compareOp .Eq) (rEqD X.K) := fun pins s σ H x y v u Q I rx ry h => L2.op_eqD hu pins s σ H x y v u Q I rx ry h.un
theorem op_neD (hu : X.A.units + 64 < cLine) : OpR X (compareOp .NotEq) (rNeD X.K) := fun pins s σ H x y v u Q I rx ry h => L2.op_neD hu pins s σ H x y v u Q I rx ry h.un
theorem op_in_seq : OpR X (compareOp .In) (rIn X.K false) := fun pins s σ H x y v u Q I rx ry h => L2.op_in_seq pins s σ H x y v u Q I rx ry h.un
theorem op_cat : OpR X (binaryOp .Add) rCat := fun pins s σ H x y v u Q I rx ry h => L2.op_cat pins s σ H x y v u Q I rx ry h.un
theorem mt_append : MtM X "list.append" rAppend := fun pins s σ H x xs v us Q I rx rv h => L2.mt_append pins s σ H x xs v us Q I rx rv h.un
theorem pe_dnewK {pos : Pos} : PE X (.Dict [] [] pos) tDNewK := ⟨fun pins s σ H Q I h => L2.pe_dnewK.run pins s σ H Q I h.un⟩
theorem pg_tup {es : List Expr} {k : Nat} {t : TGs} {n : Nat} {pos : Pos} (hc : X.calm = true) (h : PGs X es t)
    (hn : (assignEach es X.env).length = n := by rfl) (hst : (assignEach es X.env).findIdx? (·.1) = none := by rfl) : PG X (.Tuple es k pos) (gTup X.K n t) :=
  ⟨fun pins s σ H v u Q I r hw => (L2.pg_tup hc h hn hst).run pins s σ H v u Q I r hw.un⟩
theorem pi_enum {e : Expr} {ta : TA} {p pos tpos : Pos} {elts : List Expr} {kk : Nat} (hg : Gl X "enumerate") (hm : X.mg "enumerate" = none) (ha : PA X [e] ta) (hs : starEach [e] X.env = [(false, eval e X.env)] := by rfl) :
    PI X (.Tuple elts kk tpos) (.Call (.Name "enumerate" p) [e] [] pos) (iEnum X.K ta) := ⟨fun pins s σ H R I h => (L2.pi_enum hg hm (PA.mono ha) hs).run pins s σ H R I ⟨_, h.un, fun _ _ y => y.un⟩⟩
end
end Sp
end
section
set_option Elab.async false
set_option linter.all false
set_option exponentiation.threshold 5000
set_option maxRecDepth 100000
set_option maxHeartbeats 4000000
namespace Sp
open PySem PySem.Spec PyProof.Rows L2
open PySem.W (Frag)
/-! ### small logic -/
theorem iteP {c A B : Prop} {d : Decidable c} (h1 : c → A) (h2 : ¬ c → B) : @ite Prop c d A B := by
  by_cases h : c
  · rw [if_pos h]
    exact h1 h
  · rw [if_neg h]
    exact h2 h
theorem iteT {b : Bool} {A B : Prop} {d : Decidable (b = true)} (e : b = true) (h : A) : @ite Prop (b = true) d A B := by rw [if_pos e]; exact h
theorem iteF {b : Bool} {A B : Prop} {d : Decidable (b = true)} (e : b = false) (h : B) : @ite Prop (b = true) d A B := by rw [if_neg (by rw [e]; simp)]; exact h
/-- what the reading may leave open (no loop's invariant) -/
class Good (α : Type) : Prop where
  ok : True
instance : Good Nat := ⟨trivial⟩
instance : Good Int := ⟨trivial⟩
instance : Good V := ⟨trivial⟩
instance : Good Bool := ⟨trivial⟩
instance : Good Str := ⟨trivial⟩
instance : Good String := ⟨trivial⟩
instance : Good Value := ⟨trivial⟩
instance : Good Rat := ⟨trivial⟩
instance : Good PyData := ⟨trivial⟩
instance : Good HO := ⟨trivial⟩
instance : Good Obj := ⟨trivial⟩
instance {α : Type} : Good (List α) := ⟨trivial⟩
instance {α : Type} : Good (Option α) := ⟨trivial⟩
theorem exI {α : Type} [Good α] {p : α → Prop} (w : α) (h : p w) : ∃ x, p x := ⟨w, h⟩
/-! ### data -/
inductive Cn where
  | Ratio | Step | Stem | Table | Words | Row | Told | Book | Net
  deriving DecidableEq
def Cn.str : Cn → Str
  | .Ratio => "Ratio" | .Step => "Step" | .Stem => "Stem" | .Table => "Table" | .Words => "Words" | .Row => "Row" | .Told => "Told" | .Book => "Book" | .Net => "Net"
abbrev ca (K : Frag) (c : Cn) : Addr := He.ga K c.str
abbrev cX (K : Frag) (x : Str) : Addr := He.ga K x
inductive Dt where
  | non | bl (b : Bool) | int (i : Int) | str (x : Str) | tup (l : List Dt) | lst (l : List Dt) | dct
  | rat (q : Rat) | step (k j : Int) | stem (D F : Rat) | table (a b c d : Int) | row (a b c : Rat) | told (k : Str) (a b c : Rat) | book (l : List Dt)
def Dt.own : Dt → Option (Cn × List (Str × Dt))
  | .rat q => some (.Ratio, [("top", .int q.num), ("bottom", .int (q.den : Nat))])
  | .step k j => some (.Step, [("studs", .int k), ("rounds", .int j), ("divisor", .int ((Nat.gcd k.natAbs j.natAbs : Nat) : Int)), ("is_round", .bl (decide (k = 0)))])
  | .stem D F => some (.Stem, [("turn", .rat D), ("squared", .rat F), ("rise", .rat (F - D * D))])
  | .table a b c d => some (.Table, [("stud", .step a b), ("around", .step c d)])
  | .row a b c => some (.Row, [("a", .rat a), ("b", .rat b), ("c", .rat c)])
  | .told k a b c => some (.Told, [("kind", .str k), ("row", .row a b c)])
  | .book l => some (.Book, [("told", .tup l)])
  | _ => none
def Cn.flds : Cn → List Str
  | .Ratio => ["top", "bottom"] | .Step => ["studs", "rounds", "divisor", "is_round"] | .Stem => ["turn", "squared", "rise"] | .Table => ["stud", "around"]
  | .Words => ["words", "done", "last"] | .Row => ["a", "b", "c"] | .Told => ["kind", "row"] | .Book => ["told"] | .Net => ["low", "third", "high", "level"]
def Cn.all : List Cn := [.Ratio, .Step, .Stem, .Table, .Words, .Row, .Told, .Book, .Net]
theorem Cn.mem (c : Cn) : c ∈ Cn.all := by cases c <;> decide
theorem Dt.own_flds {d : Dt} {c : Cn} {fs : List (Str × Dt)} (h : d.own = some (c, fs)) : fs.map (·.1) = c.flds := by
  cases d <;> (first | (cases h; done) | (cases h; rfl))
mutual
inductive IsV (K : Frag) (H : Hp) : V → Dt → Prop
  | non : IsV K H .non .non
  | bl (b : Bool) : IsV K H (.bl b) (.bl b)
  | int (i : Int) : IsV K H (.int i) (.int i)
  | str (x : Str) : IsV K H (.str x) (.str x)
  | tup {p : Addr} {vs : List V} {ds : List Dt} : H p = some (.tup vs) → IsVs K H vs ds → IsV K H (.ref p) (.tup ds)
  | lst {p : Addr} {vs : List V} {ds : List Dt} : H p = some (.lst vs) → IsVs K H vs ds → IsV K H (.ref p) (.lst ds)
  | dct {p : Addr} : H p = some (.dK []) → IsV K H (.ref p) .dct
  | own {p dx : Addr} {gs : List (Str × V)} {d : Dt} {c : Cn} {fs : List (Str × Dt)} : d.own = some (c, fs) → H p = some (.ins (ca K c) dx gs) → IsFs K H gs fs → IsV K H (.ref p) d
inductive IsVs (K : Frag) (H : Hp) : List V → List Dt → Prop
  | nil : IsVs K H [] []
  | cons {v : V} {d : Dt} {vs : List V} {ds : List Dt} : IsV K H v d → IsVs K H vs ds → IsVs K H (v :: vs) (d :: ds)
inductive IsFs (K : Frag) (H : Hp) : List (Str × V) → List (Str × Dt) → Prop
  | nil : IsFs K H [] []
  | cons {f : Str} {v : V} {d : Dt} {gs : List (Str × V)} {fs : List (Str × Dt)} : IsV K H v d → IsFs K H gs fs → IsFs K H ((f, v) :: gs) ((f, d) :: fs)
end
section
variable {K : Frag} {H H' : Hp}
/-- what keeps an object: no table -/
def ExtA (m : Option Addr) (H H' : Hp) : Prop := ∀ b o, m ≠ some b → (∀ ps, o ≠ .tbl ps) → H b = some o → H' b = some o
mutual
def noL : Dt → Bool
  | .tup l => noLs l
  | .book l => noLs l
  | .lst _ => false
  | .dct => false
  | _ => true
def noLs : List Dt → Bool
  | [] => true
  | d :: l => noL d && noLs l
end
def noFs : List (Str × Dt) → Bool
  | [] => true
  | d :: l => noL d.2 && noFs l
theorem own_noL {d : Dt} {c : Cn} {fs : List (Str × Dt)} (h : d.own = some (c, fs)) (n : noL d = true) : noFs fs = true := by
  cases d <;> (first | (cases h; done) | (cases h; first | rfl | (simpa [noFs, noL] using n)))
mutual
theorem IsV.ext (e : ∀ b o, (∀ ps, o ≠ .tbl ps) → H b = some o → H' b = some o) : ∀ {v : V} {d : Dt}, IsV K H v d → IsV K H' v d
  | _, _, .non => .non
  | _, _, .bl b => .bl b
  | _, _, .int b => .int b
  | _, _, .str b => .str b
  | _, _, .tup h r => .tup (e _ _ (fun _ z => by cases z) h) (IsVs.ext e r)
  | _, _, .lst h r => .lst (e _ _ (fun _ z => by cases z) h) (IsVs.ext e r)
  | _, _, .dct h => .dct (e _ _ (fun _ z => by cases z) h)
  | _, _, .own o h r => .own o (e _ _ (fun _ z => by cases z) h) (IsFs.ext e r)
theorem IsVs.ext (e : ∀ b o, (∀ ps, o ≠ .tbl ps) → H b = some o → H' b = some o) : ∀ {v : List V} {d : List Dt}, IsVs K H v d → IsVs K H' v d
  | _, _, .nil => .nil
  | _, _, .cons a b => .cons (IsV.ext e a) (IsVs.ext e b)
theorem IsFs.ext (e : ∀ b o, (∀ ps, o ≠ .tbl ps) → H b = some o → H' b = some o) : ∀ {v : List (Str × V)} {d : List (Str × Dt)}, IsFs K H v d → IsFs K H' v d
  | _, _, .nil => .nil
  | _, _, .cons a b => .cons (IsV.ext e a) (IsFs.ext e b)
end
/-- past a change of one list, or of a thing that is new -/
def Sbl (a : Addr) (H H' : Hp) : Prop := ∀ b o, b ≠ a → (∀ ps, o ≠ .tbl ps) → H b = some o → H' b = some o
mutual
theorem IsV.sb {a : Addr} {xs : List V} (ha : H a = some (.lst xs)) (e : Sbl a H H') : ∀ {v : V} {d : Dt}, IsV K H v d → noL d = true → IsV K H' v d
  | _, _, .non, _ => .non
  | _, _, .bl b, _ => .bl b
  | _, _, .int b, _ => .int b
  | _, _, .str b, _ => .str b
  | _, _, .tup h r, n => .tup (e _ _ (fun z => by rw [z, ha] at h; cases h) (fun _ z => by cases z) h) (IsVs.sb ha e r n)
  | _, _, .lst h r, n => by cases n
  | _, _, .dct h, n => by cases n
  | _, _, .own o h r, n => .own o (e _ _ (fun z => by rw [z, ha] at h; cases h) (fun _ z => by cases z) h) (IsFs.sb ha e r (own_noL o n))
theorem IsVs.sb {a : Addr} {xs : List V} (ha : H a = some (.lst xs)) (e : Sbl a H H') : ∀ {v : List V} {d : List Dt}, IsVs K H v d → noLs d = true → IsVs K H' v d
  | _, _, .nil, _ => .nil
  | _, _, .cons a b, n => .cons (IsV.sb ha e a (Bool.and_eq_true_iff.mp n).1) (IsVs.sb ha e b (Bool.and_eq_true_iff.mp n).2)
theorem IsFs.sb {a : Addr} {xs : List V} (ha : H a = some (.lst xs)) (e : Sbl a H H') : ∀ {v : List (Str × V)} {d : List (Str × Dt)}, IsFs K H v d → noFs d = true → IsFs K H' v d
  | _, _, .nil, _ => .nil
  | _, _, .cons a b, n => .cons (IsV.sb ha e a (Bool.and_eq_true_iff.mp n).1) (IsFs.sb ha e b (Bool.and_eq_true_iff.mp n).2)
end
/-- past a change of what was not there -/
theorem IsV.same {v : V} {d : Dt} (h : IsV K H v d) (s : Same H H') : IsV K H' v d := h.ext fun b o _ e => s b o e
theorem IsVs.same {v : List V} {d : List Dt} (h : IsVs K H v d) (s : Same H H') : IsVs K H' v d := h.ext fun b o _ e => s b o e
theorem IsFs.same {v : List (Str × V)} {d : List (Str × Dt)} (h : IsFs K H v d) (s : Same H H') : IsFs K H' v d := h.ext fun b o _ e => s b o e
theorem IsVs.length : ∀ {v : List V} {d : List Dt}, IsVs K H v d → v.length = d.length
  | _, _, .nil => rfl
  | _, _, .cons _ b => by rw [List.length_cons, List.length_cons, b.length]
theorem IsVs.get : ∀ {v : List V} {d : List Dt} {i : Nat} {x : Dt}, IsVs K H v d → d[i]? = some x → ∃ y, v[i]? = some y ∧ IsV K H y x
  | _, _, i, x, .nil, e => by simp at e
  | _, _, 0, x, .cons a _, e => by simp at e; subst e; exact ⟨_, rfl, a⟩
  | _, _, i + 1, x, .cons _ b, e => by
    obtain ⟨y, h1, h2⟩ := IsVs.get (i := i) b (by simpa using e)
    exact ⟨y, by simpa using h1, h2⟩
theorem lkp {α : Type} (f g : Str) (y : α) (fs : List (Str × α)) : ((f, y) :: fs).lookup g = if g = f then some y else fs.lookup g := by
  by_cases h : g = f
  · subst h
    simp [List.lookup]
  · have e : (g == f) = false := by simpa using h
    rw [if_neg h]
    simp [List.lookup, e]
theorem IsFs.get : ∀ {v : List (Str × V)} {d : List (Str × Dt)} {f : Str} {x : Dt}, IsFs K H v d → d.lookup f = some x → ∃ y, v.lookup f = some y ∧ IsV K H y x
  | _, _, f, x, .nil, e => by simp at e
  | _, _, f, x, .cons (f := g) a b, e => by
    rw [lkp] at e
    rw [lkp]
    by_cases h : f = g
    · rw [if_pos h] at e ⊢
      cases e
      exact ⟨_, rfl, a⟩
    · rw [if_neg h] at e ⊢
      exact IsFs.get b e
theorem IsFs.none : ∀ {v : List (Str × V)} {d : List (Str × Dt)} {f : Str}, IsFs K H v d → d.lookup f = none → v.lookup f = none
  | _, _, f, .nil, e => rfl
  | _, _, f, .cons (f := g) a b, e => by
    rw [lkp] at e
    rw [lkp]
    by_cases h : f = g
    · rw [if_pos h] at e
      cases e
    · rw [if_neg h] at e ⊢
      exact IsFs.none b e
end
/-! ### types -/
inductive Ty0 where
  | int | bool | none | str | tuple | list | dict | own (c : Cn)
  deriving DecidableEq
def tv (K : Frag) : Ty0 → Value
  | .int => .type "int" | .bool => .type "bool" | .none => .type "NoneType" | .str => .type "str" | .tuple => .type "tuple" | .list => .type "list" | .dict => .type "dict" | .own c => .ref (ca K c)
def sub0 : Ty0 → Ty0 → Bool
  | .bool, .int => true
  | a, b => decide (a = b)
def Dt.ty : Dt → Ty0
  | .non => .none | .bl _ => .bool | .int _ => .int | .str _ => .str | .tup _ => .tuple | .lst _ => .list | .dct => .dict
  | .rat _ => .own .Ratio | .step _ _ => .own .Step | .stem _ _ => .own .Stem | .table _ _ _ _ => .own .Table | .row _ _ _ => .own .Row | .told _ _ _ _ => .own .Told | .book _ => .own .Book
theorem Dt.own_ty {d : Dt} {c : Cn} {fs : List (Str × Dt)} (h : d.own = some (c, fs)) : d.ty = .own c := by
  cases d <;> (first | (cases h; done) | (cases h; rfl))
/-- an own class whose instances have the attributes fl -/
structure CF (K : Frag) (C : Addr) (fl : List Str) : Prop where
  cl : Cls K C
  ha : PySem.W.findIn K (.ref C) "__class__" = some (some (.builtin "object.__class__"))
  hn : PySem.W.specialIn K (.builtin "object.__class__") "__get__" = some (some (.builtin "getset_descriptor.__get__"))
  htk : PySem.W.takesIn K (.builtin "object.__class__") = some true
  hm : PySem.W.mroIn K C (.type "object") = some true
  no : ∀ f ∈ fl, NoAttr K C f
/-- what all leans on of the text: the own classes cs, the types ts -/
structure G0 (K : Frag) (mg : Str → Option Value) (cs : List Cn) (ts : List Ty0) : Prop where
  nm : Nm mg
  cf : ∀ c ∈ cs, CF K (ca K c) c.flds
  mgc : ∀ c ∈ cs, mg c.str = some (.ref (ca K c))
  kit : ∀ t ∈ ts, ∀ u ∈ ts, PySem.W.kitOne K (tv K t) (tv K u) = some (sub0 t u)
section
variable {K : Frag} {mg : Str → Option Value} {cs : List Cn} {ts : List Ty0} {H : Hp}
theorem G0.ty (G : G0 K mg cs ts) {v : V} {d : Dt} (h : IsV K H v d) (hc : ∀ c fs, d.own = some (c, fs) → c ∈ cs) : TyX K H v (tv K d.ty) := by
  cases h with
  | non => exact .base .non
  | bl b => exact .base (.bl b)
  | int i => exact .base (.int i)
  | str x => exact .base (.str x)
  | tup h _ => exact .base (.tup h)
  | lst h _ => exact .base (.lst h)
  | dct h => exact .base (.dK h)
  | own o h _ =>
    have c := G.cf _ (hc _ _ o)
    rw [Dt.own_ty o]
    exact .base (.ins h c.cl c.ha c.hn c.htk c.hm)
inductive ClsD (K : Frag) : V → Ty0 → Prop
  | int : ClsD K (.ty "int") .int
  | bool : ClsD K (.ty "bool") .bool
  | str : ClsD K (.ty "str") .str
  | tuple : ClsD K (.ty "tuple") .tuple
  | list : ClsD K (.ty "list") .list
  | own (c : Cn) : ClsD K (.ref (ca K c)) (.own c)
theorem ClsD.v {v : V} {t : Ty0} (h : ClsD K v t) : ClsV v (tv K t) := by
  cases h with
  | int => exact .ty _
  | bool => exact .ty _
  | str => exact .ty _
  | tuple => exact .ty _
  | list => exact .ty _
  | own c => exact .own _
/-- the classes of a data value are known -/
def okT (cs : List Cn) (ts : List Ty0) (d : Dt) : Bool := (match d.own with | some (c, _) => decide (c ∈ cs) | none => true) && decide (d.ty ∈ ts)
theorem isiD (G : G0 K mg cs ts) {x c : V} {d : Dt} {t : Ty0} {Q : VK} (h : IsV K H x d) (k : ClsD K c t) (o : okT cs ts d = true) (ht : t ∈ ts) (q : Q (.bl (sub0 d.ty t)) H) : rIsi K [x, c] H Q := by
  obtain ⟨o1, o2⟩ := Bool.and_eq_true_iff.mp o
  refine ⟨x, c, _, _, _, rfl, k.v, G.ty h (fun c fs e => ?_), G.kit _ (of_decide_eq_true o2) _ ht, q⟩
  rw [e] at o1
  exact of_decide_eq_true o1
end
/-! ### outcomes -/
inductive Out where
  | ok (d : Dt)
  | err (x : Str) (fs : List (Str × Dt))
/-- the error of the class x -/
structure AftE (K : Frag) (H : Hp) (x : Str) (fs : List (Str × Dt)) (E : XK) : Prop where
  un : ∀ (dd : Addr) (H' : Hp) (gs : List (Str × V)), Same H H' → H dd = none → H' dd = some (.xd gs) → IsFs K H' gs fs → E (.ref (cX K x)) (some dd) H'
structure AftD (K : Frag) (H : Hp) (d : Dt) (Q : VK) : Prop where
  un : ∀ v H', Same H H' → IsV K H' v d → Q v H'
structure AftS (K : Frag) (H : Hp) (d : Dt) (P : V → Prop) : Prop where
  un : ∀ v, IsV K H v d → P v
def Aft (K : Frag) (H : Hp) (o : Out) (Q : VK) (E : XK) : Prop := match o with
  | .ok d => AftD K H d Q
  | .err x fs => AftE K H x fs E
theorem none_same {H H' : Hp} {a : Addr} (s : Same H H') (n : H' a = none) : H a = none := by
  cases e : H a with
  | none => rfl
  | some o => rw [s _ _ e] at n; cases n
theorem Aft.same {K : Frag} {H H' : Hp} {o : Out} {Q : VK} {E : XK} (h : Aft K H o Q E) (s : Same H H') : Aft K H' o Q E := by
  cases o with
  | ok d => exact .mk fun v H2 s2 i => h.un v H2 (s.trans s2) i
  | err x fs => exact .mk fun dd H2 gs s2 n e i => h.un dd H2 gs (s.trans s2) (none_same s n) e i
/-! ### sizes -/
structure Li (i : Int) (n : Nat) : Prop where
  lt : i.natAbs < 2 ^ n
structure Lq (q : Rat) (n : Nat) : Prop where
  sz : Sz q n
theorem Li.mono {i : Int} {n m : Nat} (h : Li i n) (l : n ≤ m) : Li i m := ⟨nb_le h.lt l⟩
theorem Lq.mono {i : Rat} {n m : Nat} (h : Lq i n) (l : n ≤ m) : Lq i m := ⟨h.sz.mono l⟩
def SzD (n : Nat) : Dt → Prop
  | .int i => Li i n
  | .rat q => Lq q n
  | .step k j => Li k n ∧ Li j n
  | .stem D F => Lq D n ∧ Lq F n
  | .table a b c d => (Li a n ∧ Li b n) ∧ (Li c n ∧ Li d n)
  | .row a b c => Lq a n ∧ Lq b n ∧ Lq c n
  | .told _ a b c => Lq a n ∧ Lq b n ∧ Lq c n
  | _ => True
def SzL (n : Nat) : List Dt → Prop
  | [] => True
  | d :: l => SzD n d ∧ SzL n l
class Bi (i : Int) (n : outParam Nat) : Prop where
  lt : i.natAbs < 2 ^ n
class Bq (q : Rat) (n : outParam Nat) : Prop where
  sz : Sz q n
theorem biI {i : Int} {m : Nat} (n : Nat) [h : Bi i n] (l : n ≤ m := by decide) : Li i m := ⟨nb_le h.lt l⟩
theorem biL {i : Int} {m : Nat} (n : Nat) [h : Bi i n] (l : n ≤ m := by decide) : i.natAbs < 2 ^ m := nb_le h.lt l
theorem cmI {i j : Int} (a b : Nat) [h : Bi i a] [g : Bi j b] (l : a ≤ 4000 := by decide) (k : b ≤ 4000 := by decide) : CMulB i j := ⟨nb_le h.lt l, nb_le g.lt k⟩
theorem cdI {i j : Int} (b : Nat) [g : Bi j b] (h : j ≠ 0) (k : b ≤ 4000 := by decide) : CDivB i j := ⟨h, nb_le g.lt k⟩
theorem bqI {q : Rat} {m : Nat} (n : Nat) [h : Bq q n] (l : n ≤ m := by decide) : Lq q m := ⟨h.sz.mono l⟩
theorem bqL {q : Rat} {m : Nat} (n : Nat) [h : Bq q n] (l : n ≤ m := by decide) : Sz q m := h.sz.mono l
def blen (n : Nat) : Nat := if n < 2 ^ 4 then 4 else if n < 2 ^ 16 then 16 else if n < 2 ^ 32 then 32 else if n < 2 ^ 64 then 64 else n.log2 + 1
theorem blen_lt (n : Nat) : n < 2 ^ blen n := by
  unfold blen
  split
  · assumption
  · split
    · assumption
    · split
      · assumption
      · split
        · assumption
        · exact Nat.lt_log2_self
instance : Bi (0 : Int) 1 := ⟨by decide⟩
instance : Bi (1 : Int) 1 := ⟨by decide⟩
instance : Bi (2 : Int) 2 := ⟨by decide⟩
instance : Bi (3 : Int) 2 := ⟨by decide⟩
instance : Bi (4 : Int) 3 := ⟨by decide⟩
instance : Bi (5 : Int) 3 := ⟨by decide⟩
instance : Bi (6 : Int) 3 := ⟨by decide⟩
instance : Bi (7 : Int) 3 := ⟨by decide⟩
instance : Bi (8 : Int) 4 := ⟨by decide⟩
instance : Bi (9 : Int) 4 := ⟨by decide⟩
instance : Bi (10 : Int) 4 := ⟨by decide⟩
instance : Bi (11 : Int) 4 := ⟨by decide⟩
instance : Bi (12 : Int) 4 := ⟨by decide⟩
instance : Bi (13 : Int) 4 := ⟨by decide⟩
instance : Bi (14 : Int) 4 := ⟨by decide⟩
instance : Bi (15 : Int) 4 := ⟨by decide⟩
instance : Bi (16 : Int) 5 := ⟨by decide⟩
instance : Bi (17 : Int) 5 := ⟨by decide⟩
instance : Bi (18 : Int) 5 := ⟨by decide⟩
instance : Bi (19 : Int) 5 := ⟨by decide⟩
instance : Bi (20 : Int) 5 := ⟨by decide⟩
instance : Bi (21 : Int) 5 := ⟨by decide⟩
instance : Bi (22 : Int) 5 := ⟨by decide⟩
instance : Bi (23 : Int) 5 := ⟨by decide⟩
instance : Bi (24 : Int) 5 := ⟨by decide⟩
instance : Bi (25 : Int) 5 := ⟨by decide⟩
instance : Bi (26 : Int) 5 := ⟨by decide⟩
instance : Bi (27 : Int) 5 := ⟨by decide⟩
instance : Bi (28 : Int) 5 := ⟨by decide⟩
instance : Bi (29 : Int) 5 := ⟨by decide⟩
instance : Bi (30 : Int) 5 := ⟨by decide⟩
instance : Bi (31 : Int) 5 := ⟨by decide⟩
instance : Bi (32 : Int) 6 := ⟨by decide⟩
instance : Bi (33 : Int) 6 := ⟨by decide⟩
instance : Bi (34 : Int) 6 := ⟨by decide⟩
instance : Bi (35 : Int) 6 := ⟨by decide⟩
instance : Bi (36 : Int) 6 := ⟨by decide⟩
instance : Bi (37 : Int) 6 := ⟨by decide⟩
instance : Bi (38 : Int) 6 := ⟨by decide⟩
instance : Bi (39 : Int) 6 := ⟨by decide⟩
instance : Bi (40 : Int) 6 := ⟨by decide⟩
instance : Bi (41 : Int) 6 := ⟨by decide⟩
instance : Bi (42 : Int) 6 := ⟨by decide⟩
instance : Bi (43 : Int) 6 := ⟨by decide⟩
instance : Bi (44 : Int) 6 := ⟨by decide⟩
instance : Bi (45 : Int) 6 := ⟨by decide⟩
instance : Bi (46 : Int) 6 := ⟨by decide⟩
instance : Bi (47 : Int) 6 := ⟨by decide⟩
instance : Bi (48 : Int) 6 := ⟨by decide⟩
instance : Bi (49 : Int) 6 := ⟨by decide⟩
instance : Bi (50 : Int) 6 := ⟨by decide⟩
instance : Bi (51 : Int) 6 := ⟨by decide⟩
instance : Bi (52 : Int) 6 := ⟨by decide⟩
instance : Bi (53 : Int) 6 := ⟨by decide⟩
instance : Bi (54 : Int) 6 := ⟨by decide⟩
instance : Bi (55 : Int) 6 := ⟨by decide⟩
instance : Bi (56 : Int) 6 := ⟨by decide⟩
instance : Bi (57 : Int) 6 := ⟨by decide⟩
instance : Bi (58 : Int) 6 := ⟨by decide⟩
instance : Bi (59 : Int) 6 := ⟨by decide⟩
instance : Bi (60 : Int) 6 := ⟨by decide⟩
instance : Bi (61 : Int) 6 := ⟨by decide⟩
instance : Bi (62 : Int) 6 := ⟨by decide⟩
instance : Bi (63 : Int) 6 := ⟨by decide⟩
instance : Bi (64 : Int) 7 := ⟨by decide⟩
instance : Bi (65 : Int) 7 := ⟨by decide⟩
instance : Bi (100 : Int) 7 := ⟨by decide⟩
instance : Bi (1000 : Int) 10 := ⟨by decide⟩
instance : Bi (1471 : Int) 11 := ⟨by decide⟩
instance : Bi (3259 : Int) 12 := ⟨by decide⟩
instance {x y : Int} {a b : Nat} [h1 : Bi x a] [h2 : Bi y b] : Bi (x * y) (a + b) := ⟨nb_mul h1.lt h2.lt⟩
instance {x y : Int} {a b : Nat} [h1 : Bi x a] [h2 : Bi y b] : Bi (x + y) (max a b + 1) := ⟨nb_add h1.lt h2.lt⟩
instance {x y : Int} {a b : Nat} [h1 : Bi x a] [h2 : Bi y b] : Bi (x - y) (max a b + 1) := ⟨nb_sub h1.lt h2.lt⟩
instance {x : Int} {a : Nat} [h1 : Bi x a] : Bi (-x) a := ⟨nb_neg h1.lt⟩
instance {q : Rat} {a : Nat} [h : Bq q a] : Bi q.num a := ⟨h.sz.1⟩
instance {q : Rat} {a : Nat} [h : Bq q a] : Bi ((q.den : Nat) : Int) a := ⟨h.sz.d⟩
instance {x : Int} {a : Nat} [h : Bi x a] : Bq (x : Rat) (a + 1) := ⟨sz_int (nb_le h.lt)⟩
instance {p q : Rat} {a b : Nat} [h1 : Bq p a] [h2 : Bq q b] : Bq (p * q) (a + b) := ⟨sz_mul h1.sz h2.sz⟩
instance {p q : Rat} {a b : Nat} [h1 : Bq p a] [h2 : Bq q b] : Bq (p + q) (a + b + 1) := ⟨sz_add h1.sz h2.sz⟩
instance {p q : Rat} {a b : Nat} [h1 : Bq p a] [h2 : Bq q b] : Bq (p - q) (a + b + 1) := ⟨sz_sub h1.sz h2.sz⟩
theorem sz_neg {q : Rat} {n : Nat} (h : Sz q n) : Sz (-q) n := ⟨by rw [Rat.neg_num]; exact nb_neg h.1, h.2⟩
instance {q : Rat} {a : Nat} [h : Bq q a] : Bq (-q) a := ⟨sz_neg h.sz⟩
instance {q : Rat} {a : Nat} [h : Bq q a] : Bq (qabs q) a := ⟨sz_abs h.sz⟩
instance {x : Int} {a : Nat} [h : Bi x a] : Bi (if x < 0 then -x else x) a := ⟨by have := h.lt; split <;> omega⟩
/-! ### promises -/
def spD (K : Frag) (n : Nat) (f : List Dt → Out) : Sp := fun vs H Q E => ∃ ds, IsVs K H vs ds ∧ SzL n ds ∧ Aft K H (f ds) Q E
/-- the promise of an __init__: what it leaves -/
def spI (K : Frag) (c : Cn) (n : Nat) (f : List Dt → Out) : Sp := fun vs H Q E => ∃ (a dx : Addr) (args : List V) (ds : List Dt), vs = .ref a :: args ∧ H a = some (.ins (ca K c) dx []) ∧ IsVs K H args ds ∧ SzL n ds ∧ match f ds with
  | .ok d => ∃ fs, d.own = some (c, fs) ∧ ∀ H' gs, (∀ b o, b ≠ a → H b = some o → H' b = some o) → H' a = some (.ins (ca K c) dx gs) → IsFs K H' gs fs → Q .non H'
  | .err x fs => AftE K H x fs E
/-! ### a list of cells, read by digits -/
def Pail (H : Hp) (a c : Addr) (N : Nat) : Prop := ∃ (cs : List Int) (n g : Int), H a = some (.lst [.ref c, .int n, .int g]) ∧ H c = some (.lst (cs.map V.int)) ∧ 0 ≤ n ∧ n ≤ N ∧ 0 ≤ g
theorem Pail.mono {H : Hp} {a c : Addr} {N M : Nat} (h : Pail H a c N) (l : N ≤ M := by omega) : Pail H a c M := let ⟨cs, n, g, h1, h2, h3, h4, h5⟩ := h; ⟨cs, n, g, h1, h2, h3, by omega, h5⟩
theorem Pail.lst {H : Hp} {a c : Addr} {N : Nat} (h : Pail H a c N) : ∃ xs, H a = some (.lst xs) := let ⟨_, _, _, h, _⟩ := h; ⟨_, h⟩
theorem Pail.ext {H H' : Hp} {a c : Addr} {N : Nat} (h : Pail H a c N) (e : ∀ b o, (∀ ps, o ≠ .tbl ps) → H b = some o → H' b = some o) : Pail H' a c N := let ⟨cs, n, g, h1, h2, h3, h4, h5⟩ := h; ⟨cs, n, g, e _ _ (fun _ z => by cases z) h1, e _ _ (fun _ z => by cases z) h2, h3, h4, h5⟩
/-! ### the ledger -/
/-- what a body may change: nothing that stood | the new instance | the pail and tables -/
inductive Md where
  | fn
  | ini (a C dx : Addr) (gs : List (Str × V))
  | law (T : List (Addr × Str)) (p : Option (Addr × Addr × Nat))
def Md.rel : Md → Hp → Hp → Prop
  | .fn => Same
  | .ini a _ _ _ => fun H H' => ∀ b o, b ≠ a → H b = some o → H' b = some o
  | .law _ p => fun H H' => ∀ b o, (∀ q, p = some q → b ≠ q.1) → (∀ ps, o ≠ .tbl ps) → H b = some o → H' b = some o
def Md.at_ : Md → Hp → Prop
  | .fn => fun _ => True
  | .ini a C dx gs => fun H => H a = some (.ins C dx gs)
  | .law T p => fun H => LamX.Tabs T H ∧ ∀ q, p = some q → Pail H q.1 q.2.1 q.2.2
structure Env (K : Frag) (m : Md) (H0 H : Hp) (L : List (V × Dt)) : Prop where
  gr : m.rel H0 H
  at_ : m.at_ H
  all : ∀ e ∈ L, IsV K H e.1 e.2
section
variable {K : Frag} {m : Md} {H0 H H' : Hp} {L : List (V × Dt)} {v : V} {d : Dt} {Q : VK} {P : V → Prop} {E : XK}
theorem Env.get (h : Env K m H0 H L) (i : (v, d) ∈ L) : IsV K H v d := h.all _ i
theorem Md.step (s : Same H H') (r : m.rel H0 H) : m.rel H0 H' := by
  cases m with
  | fn => exact r.trans s
  | ini a C dx gs => exact fun b o n e => s _ _ (r b o n e)
  | law T p => exact fun b o n t e => s _ _ (r b o n t e)
theorem Md.stay (s : Same H H') (r : m.at_ H) : m.at_ H' := by
  cases m with
  | fn => exact trivial
  | ini a C dx gs => exact s _ _ r
  | law T p => exact ⟨r.1.ext s, fun q e => (r.2 q e).ext fun b o _ e => s b o e⟩
theorem Env.step (h : Env K m H0 H L) (s : Same H H') : Env K m H0 H' L := ⟨Md.step s h.gr, Md.stay s h.at_, fun e i => (h.all e i).same s⟩
theorem Env.add (h : Env K m H0 H L) (i : IsV K H v d) : Env K m H0 H ((v, d) :: L) := ⟨h.gr, h.at_, fun e j => by
  rcases List.mem_cons.mp j with rfl | j
  · exact i
  · exact h.all e j⟩
theorem Env.of (H : Hp) : Env K .fn H H [] := ⟨fun _ _ h => h, trivial, fun _ i => by cases i⟩
theorem Env.ofI {a C dx : Addr} {gs : List (Str × V)} (h : H a = some (.ins C dx gs)) : Env K (.ini a C dx gs) H H [] := ⟨fun _ _ _ h => h, h, fun _ i => by cases i⟩
/-- no class has just these attributes -/
def noCls (l : List Str) : Bool := Cn.all.all fun c => decide (c.flds ≠ l)
theorem IsFs.names {gs : List (Str × V)} {fs : List (Str × Dt)} : IsFs K H gs fs → gs.map (·.1) = fs.map (·.1) := by
  intro i
  induction gs generalizing fs with
  | nil => cases i; rfl
  | cons g gs ih =>
    cases i with
    | cons a b => rw [List.map_cons, List.map_cons, ih b]
mutual
theorem IsV.ini {a C dx : Addr} {gs : List (Str × V)} (ha : H a = some (.ins C dx gs)) (hn : noCls (gs.map (·.1)) = true) (e : ∀ b o, b ≠ a → H b = some o → H' b = some o) : ∀ {v : V} {d : Dt}, IsV K H v d → IsV K H' v d
  | _, _, .non => .non
  | _, _, .bl b => .bl b
  | _, _, .int b => .int b
  | _, _, .str b => .str b
  | _, _, .tup h r => .tup (e _ _ (fun z => by rw [z, ha] at h; cases h) h) (IsVs.ini ha hn e r)
  | _, _, .lst h r => .lst (e _ _ (fun z => by rw [z, ha] at h; cases h) h) (IsVs.ini ha hn e r)
  | _, _, .dct h => .dct (e _ _ (fun z => by rw [z, ha] at h; cases h) h)
  | _, _, .own (c := c) o h r => .own o (e _ _ (fun z => by
      rw [z, ha] at h
      cases h
      have := List.all_eq_true.mp hn c c.mem
      rw [r.names, Dt.own_flds o] at this
      exact of_decide_eq_true this rfl) h) (IsFs.ini ha hn e r)
theorem IsVs.ini {a C dx : Addr} {gs : List (Str × V)} (ha : H a = some (.ins C dx gs)) (hn : noCls (gs.map (·.1)) = true) (e : ∀ b o, b ≠ a → H b = some o → H' b = some o) : ∀ {v : List V} {d : List Dt}, IsVs K H v d → IsVs K H' v d
  | _, _, .nil => .nil
  | _, _, .cons a b => .cons (IsV.ini ha hn e a) (IsVs.ini ha hn e b)
theorem IsFs.ini {a C dx : Addr} {gs : List (Str × V)} (ha : H a = some (.ins C dx gs)) (hn : noCls (gs.map (·.1)) = true) (e : ∀ b o, b ≠ a → H b = some o → H' b = some o) : ∀ {v : List (Str × V)} {d : List (Str × Dt)}, IsFs K H v d → IsFs K H' v d
  | _, _, .nil => .nil
  | _, _, .cons a b => .cons (IsV.ini ha hn e a) (IsFs.ini ha hn e b)
end
theorem Env.set {a C dx : Addr} {gs gs' : List (Str × V)} (h : Env K (.ini a C dx gs) H0 H L) (hn : noCls (gs.map (·.1)) = true) : Env K (.ini a C dx gs') H0 (upd H a (.ins C dx gs')) L :=
  ⟨fun b o n e => by rw [upd_ne n]; exact h.gr b o n e, upd_same, fun e i => IsV.ini h.at_ hn (fun b o n e => by rw [upd_ne n]; exact e) (h.all e i)⟩
theorem afInt {i : Int} (h : Env K m H0 H L) (k : ∀ H', Env K m H0 H' L → Q (.int i) H') : AftD K H (.int i) Q := .mk fun v H' s j => by cases j with
  | int => exact k H' (h.step s)
  | own o _ _ => cases o
theorem afBl {i : Bool} (h : Env K m H0 H L) (k : ∀ H', Env K m H0 H' L → Q (.bl i) H') : AftD K H (.bl i) Q := .mk fun v H' s j => by cases j with
  | bl => exact k H' (h.step s)
  | own o _ _ => cases o
theorem afStr {i : Str} (h : Env K m H0 H L) (k : ∀ H', Env K m H0 H' L → Q (.str i) H') : AftD K H (.str i) Q := .mk fun v H' s j => by cases j with
  | str => exact k H' (h.step s)
  | own o _ _ => cases o
theorem afNon (h : Env K m H0 H L) (k : ∀ H', Env K m H0 H' L → Q .non H') : AftD K H .non Q := .mk fun v H' s j => by cases j with
  | non => exact k H' (h.step s)
  | own o _ _ => cases o
theorem afRef (h : Env K m H0 H L) (k : ∀ v H', Env K m H0 H' ((v, d) :: L) → Q v H') : AftD K H d Q := .mk fun v H' s j => k v H' ((h.step s).add j)
theorem asInt {i : Int} (k : P (.int i)) : AftS K H (.int i) P := .mk fun v j => by cases j with
  | int => exact k
  | own o _ _ => cases o
theorem asBl {i : Bool} (k : P (.bl i)) : AftS K H (.bl i) P := .mk fun v j => by cases j with
  | bl => exact k
  | own o _ _ => cases o
theorem asStr {i : Str} (k : P (.str i)) : AftS K H (.str i) P := .mk fun v j => by cases j with
  | str => exact k
  | own o _ _ => cases o
theorem asNon (k : P .non) : AftS K H .non P := .mk fun v j => by cases j with
  | non => exact k
  | own o _ _ => cases o
theorem asRef (h : Env K m H0 H L) (k : ∀ v, Env K m H0 H ((v, d) :: L) → P v) : AftS K H d P := .mk fun v j => k v (h.add j)
end
theorem nbT {b : Bool} (h : b = false) : (!b) = true := by rw [h]; rfl
theorem nbF {b : Bool} (h : b = true) : (!b) = false := by rw [h]; rfl
theorem SzD.mono {n m : Nat} {d : Dt} (h : SzD n d) (l : n ≤ m) : SzD m d := by
  cases d <;> (first | exact trivial | exact Li.mono h l | exact Lq.mono h l | exact ⟨Li.mono h.1 l, Li.mono h.2 l⟩ | exact ⟨Lq.mono h.1 l, Lq.mono h.2 l⟩ | exact ⟨⟨Li.mono h.1.1 l, Li.mono h.1.2 l⟩, Li.mono h.2.1 l, Li.mono h.2.2 l⟩ | exact ⟨Lq.mono h.1 l, Lq.mono h.2.1 l, Lq.mono h.2.2 l⟩)
end Sp
end
section
set_option Elab.async false
set_option linter.all false
namespace Sp
open PySem PySem.Spec PyProof.Rows L2
def topS (i : Nat) : Stmt := PySem.Challenge.pw_spiralsays_k05_steps_added_and_their_mat.main.body.getD i (.Pass ⟨0, 0, 0, 0⟩)
abbrev csL : List Cn := [.Ratio, .Step, .Words]
abbrev tsL : List Ty0 := [.int, .bool, .none, .str, .tuple, .list, .dict, .own .Ratio, .own .Step]
end Sp
end
section
set_option Elab.async false
set_option linter.all false
set_option maxRecDepth 100000
set_option maxHeartbeats 0
namespace Sp
open PySem PySem.Spec PyProof.Rows L2
open PySem.W (Frag)
def oexB (K : Frag) (C : Addr) : Bool := (match K.lookup C with
  | some ⟨.type "type", _, .cls cd, sl⟩ => (match cd.mro, sl.toList with
    | .ref C' :: bm, [_, _, _, _, some (.builtin n), _] => C' == C && (n == "ValueError.__new__" && (!cd.hasDel && (cd.hasDict && PySem.HandSPX.refsVE bm)))
    | _, _ => false)
  | _ => false) && (decide (PySem.W.findIn K (.ref C) "__setattr__" = some (some (.builtin "object.__setattr__"))) && (decide (PySem.W.subIn K (.ref C) (.type "BaseException") = some true) && (decide (PySem.W.typeIn K (.ref C) = some (.type "type")) && PySem.W.keepIn K (.ref C))))
def cfB (K : Frag) (x : Str) (fl : List Str) : Bool := (He.Fa.cls x).ok K && (decide (PySem.W.findIn K (.ref (He.ga K x)) "__class__" = some (some (.builtin "object.__class__"))) && (decide (PySem.W.specialIn K (.builtin "object.__class__") "__get__" = some (some (.builtin "getset_descriptor.__get__"))) &&
  (decide (PySem.W.takesIn K (.builtin "object.__class__") = some true) && (decide (PySem.W.mroIn K (He.ga K x) (.type "object") = some true) && ((He.Fa.glo x).ok K && (fl.all fun f => (He.Fa.noat x f).ok K))))))
def csB (K : Frag) (cs : List Cn) : Bool := cs.all fun c => cfB K c.str c.flds
def kitB (K : Frag) (ts : List Ty0) : Bool := ts.all fun t => ts.all fun u => decide (PySem.W.kitOne K (tv K t) (tv K u) = some (sub0 t u))
def opB (K : Frag) (C : Addr) (m r : Str) : Bool := PySem.W.selfFirst K C && (decide (PySem.W.findIn K (.ref C) m = some (some (.ref (He.ma K C m)))) && (PySem.W.isFn K (.ref (He.ma K C m)) && (decide (PySem.W.findIn K (.ref C) r = some none) &&
  ((PySem.W.findIn K (.type "int") m).isSome && ((PySem.W.findIn K (.type "int") r).isSome && decide (PySem.W.subIn K (.type "int") (.ref C) = some false))))))
def nmB (K : Frag) (C : Addr) (m : Str) : Bool := decide (PySem.W.findIn K (.ref C) m = some (some (.ref (He.ma K C m)))) && PySem.W.isFn K (.ref (He.ma K C m))
def metB (K : Frag) (C : Addr) (m : Str) : Bool := nmB K C m && PySem.W.keepIn K (.ref (He.ma K C m))
def propB (K : Frag) (C : Addr) (m : Str) : Bool := decide (PySem.W.findIn K (.ref C) m = some (some (.ref (He.ma K C m)))) && (decide (PySem.W.specialIn K (.ref (He.ma K C m)) "__get__" = some (some (.builtin "property.__get__"))) && (decide (PySem.W.takesIn K (.ref (He.ma K C m)) = some true) && (match PySem.W.recIn K (He.ma K C m) "property" with
  | some (.ref _ :: _) => true
  | _ => false)))
def smB (K : Frag) (C : Addr) (m : Str) : Bool := PySem.W.readsIn K C (.type "type") && (decide (PySem.W.specialIn K (.ref C) "__getattribute__" = some (some (.builtin "type.__getattribute__"))) && (He5.wrapB K C "staticmethod" "staticmethod.__get__" m && PySem.W.keepIn K (.ref (He5.wf K C "staticmethod" m))))
def cmB (K : Frag) (C : Addr) (m : Str) : Bool := PySem.W.readsIn K C (.type "type") && (decide (PySem.W.specialIn K (.ref C) "__getattribute__" = some (some (.builtin "type.__getattribute__"))) && (He5.wrapB K C "classmethod" "classmethod.__get__" m && PySem.W.fnIn K (He5.wf K C "classmethod" m)))
def xnB (K : Frag) (x : Str) (fl : List Str) : Bool := oexB K (He.ga K x) && ((He.Fa.glo x).ok K && (decide (PySem.W.findIn K (.ref (He.ga K x)) "__init__" = some (some (.ref (He.ma K (He.ga K x) "__init__")))) && (decide (PySem.W.typeIn K (.ref (He.ma K (He.ga K x) "__init__")) = some (.type "function")) && (fl.all fun f => (He.Fa.noat x f).ok K))))
def nfB (K : Frag) (C : Addr) (ts : List Ty0) : Bool := ts.all fun t => PySem.W.notFirst K C (tv K t)
def tyS : Ty0 → Option String
  | .int => some "int" | .bool => some "bool" | .none => some "NoneType" | .str => some "str" | .tuple => some "tuple" | .list => some "list" | .dict => some "dict" | .own _ => none
def ritB (K : Frag) (C : Addr) (op : Operator) (ts : List Ty0) : Bool := ts.all fun t => match tyS t with
  | some T => (PySem.W.findIn K (.type T) (PySem.dunder op.info.2)).isSome && ((PySem.W.findIn K (.type T) (dunderR op.info.2)).isSome && decide (PySem.W.subIn K (.type T) (.ref C) = some false))
  | none => false
def rioB (K : Frag) (C D : Addr) (op : Operator) : Bool := decide (C ≠ D) && (PySem.W.selfFirst K D && (decide (PySem.W.findIn K (.ref D) (PySem.dunder op.info.2) = some (some (.ref (He.ma K D (PySem.dunder op.info.2))))) && (decide (PySem.W.findIn K (.ref D) (dunderR op.info.2) = some none) && decide (PySem.W.subIn K (.ref D) (.ref C) = some false))))
end Sp
end
section
set_option Elab.async false
set_option linter.all false
set_option maxRecDepth 100000
set_option maxHeartbeats 0
namespace Sp
open PySem PySem.Spec PyProof.Rows L2
open PySem.W (Frag)
def tfL : List He.Defn := [("_law_one_right", none), ("_law_two_right", none), ("_law_mate_right", none), ("_law_refused_right", none), ("_law_text_right", none)]
/-- the tables are apart -/
def apB (K : Frag) : Bool := tfL.all fun d => tfL.all fun e => decide ((He.cT K d).2 = (He.cT K e).2 → d = e)
def errsK : List Str := ["BadStep", "BadNumber", "BadText", "NotNeighbours", "Common", "Round"]
def errFK : List (Str × Str) := [("BadStep", "part"), ("BadNumber", "part"), ("BadText", "line"), ("BadText", "word"), ("NotNeighbours", "one"), ("NotNeighbours", "other"), ("Common", "divisor"), ("Round", "part")]
def oddK : List Ty0 := [.none, .bool, .str, .list, .tuple, .dict]
def geB (K : Frag) : Bool := errsK.all fun x => errsK.all fun y => decide (PySem.W.exmOne K (.ref (cX K x)) (.ref (cX K y)) = some (decide (x = y)))
def gfB (K : Frag) : Bool := errsK.all fun x => xfB K (cX K x)
def gnB (K : Frag) : Bool := errFK.all fun e => decide (PySem.W.findIn K (.ref (cX K e.1)) e.2 = some none)
def ggB (K : Frag) : Bool := errsK.all fun x => (He.Fa.glo x).ok K
def exL : List (Frag → Bool) := [
  fun K => (He.Fa.free "isinstance").ok K,
  fun K => (He.Fa.free "int").ok K,
  fun K => (He.Fa.free "bool").ok K,
  fun K => (He.Fa.free "str").ok K,
  fun K => (He.Fa.free "abs").ok K,
  fun K => (He.Fa.free "len").ok K,
  fun K => (He.Fa.free "range").ok K,
  fun K => (He.Fa.free "enumerate").ok K,
  fun K => (He.Fa.free "list").ok K,
  fun K => (He.Fa.free "tuple").ok K,
  fun K => (He.Fa.free "all").ok K,
  fun K => decide (PySem.W.nsIn K mainGlobals "gcd" = some (some (.builtin "math.gcd"))),
  fun K => csB K csL,
  fun K => kitB K tsL,
  fun K => apB K,
  fun K => xnB K "BadRatio" ["part"],
  fun K => xnB K "BadStep" ["part"],
  fun K => xnB K "BadNumber" ["part"],
  fun K => xnB K "Round" ["part"],
  fun K => xnB K "NotNeighbours" ["one", "other"],
  fun K => xnB K "Common" ["divisor"],
  fun K => xnB K "BadText" ["line", "word"],
  fun K => (He.Fa.int "MOST_DIGITS" 60).ok K,
  fun K => (He.Fa.str "DIGITS" "0123456789").ok K,
  fun K => geB K,
  fun K => gfB K,
  fun K => gnB K,
  fun K => ggB K,
  fun K => decide (PySem.W.subIn K (.ref (cX K "Round")) (.type "AttributeError") = some false),
  fun K => ritB K (ca K .Step) .Add oddK,
  fun K => ritB K (ca K .Step) .Sub oddK,
  fun K => ritB K (ca K .Step) .Mult oddK,
  fun K => rioB K (ca K .Step) (ca K .Ratio) .Mult,
  fun K => nmB K (He.ga K "Step") "__eq__",
  fun K => decide (PySem.W.findIn K (.ref (He.ga K "Step")) "__ne__" = some (some (.builtin "object.__ne__"))),
  fun K => nfB K (ca K .Step) tsL,
  fun K => (He.Fa.mkr "Words").ok K,
  fun K => metB K (He.ga K "Words") "is_over",
  fun K => nmB K (He.ga K "Step") "__str__",
  fun K => (He.Fa.mkr "Ratio").ok K,
  fun K => (He.Fa.mkr "Step").ok K,
  fun K => metB K (He.ga K "Words") "take",
  fun K => metB K (He.ga K "Words") "refuse",
  fun K => metB K (He.ga K "Words") "end",
  fun K => metB K (He.ga K "Words") "integer",
  fun K => smB K (He.ga K "Ratio") "of",
  fun K => nmB K (He.ga K "Step") "__neg__",
  fun K => opB K (He.ga K "Step") "__mul__" "__rmul__",
  fun K => propB K (He.ga K "Step") "upward",
  fun K => propB K (He.ga K "Step") "corner",
  fun K => smB K (He.ga K "Step") "one_round",
  fun K => opB K (He.ga K "Step") "__add__" "__radd__",
  fun K => opB K (He.ga K "Step") "__sub__" "__rsub__",
  fun K => opB K (He.ga K "Ratio") "__add__" "__radd__",
  fun K => cmB K (He.ga K "Step") "read"]
end Sp
end
section
set_option Elab.async false
set_option linter.all false
set_option maxRecDepth 100000
set_option maxHeartbeats 0
namespace Sp
open PySem PySem.Spec PyProof.Rows L2
open PySem.W (Frag)
def fnL : List He5.DefA := [
  ⟨fun K => He.ma K (He.ga K "BadRatio") "__init__", "__init__", "BadRatio.__init__", defArgs (inClass (topS 4) 0), defBody (inClass (topS 4) 0), defScope (inClass (topS 4) 0), [], []⟩,
  ⟨fun K => He.ma K (He.ga K "BadStep") "__init__", "__init__", "BadStep.__init__", defArgs (inClass (topS 5) 0), defBody (inClass (topS 5) 0), defScope (inClass (topS 5) 0), [], []⟩,
  ⟨fun K => He.ma K (He.ga K "BadNumber") "__init__", "__init__", "BadNumber.__init__", defArgs (inClass (topS 6) 0), defBody (inClass (topS 6) 0), defScope (inClass (topS 6) 0), [], []⟩,
  ⟨fun K => He.ma K (He.ga K "Round") "__init__", "__init__", "Round.__init__", defArgs (inClass (topS 7) 0), defBody (inClass (topS 7) 0), defScope (inClass (topS 7) 0), [], []⟩,
  ⟨fun K => He.ma K (He.ga K "NotNeighbours") "__init__", "__init__", "NotNeighbours.__init__", defArgs (inClass (topS 8) 0), defBody (inClass (topS 8) 0), defScope (inClass (topS 8) 0), [], []⟩,
  ⟨fun K => He.ma K (He.ga K "Common") "__init__", "__init__", "Common.__init__", defArgs (inClass (topS 9) 0), defBody (inClass (topS 9) 0), defScope (inClass (topS 9) 0), [], []⟩,
  ⟨fun K => He.ma K (He.ga K "BadText") "__init__", "__init__", "BadText.__init__", defArgs (inClass (topS 10) 0), defBody (inClass (topS 10) 0), defScope (inClass (topS 10) 0), [], []⟩,
  ⟨fun K => He.ga K "is_integer", "is_integer", "is_integer", defArgs (topS 13), defBody (topS 13), defScope (topS 13), [], []⟩,
  ⟨fun K => He.ga K "sign_of", "sign_of", "sign_of", defArgs (topS 22), defBody (topS 22), defScope (topS 22), [], []⟩,
  ⟨fun K => He.ga K "is_upward", "is_upward", "is_upward", defArgs (topS 30), defBody (topS 30), defScope (topS 30), [], []⟩,
  ⟨fun K => He.ma K (He.ga K "Step") "__eq__", "__eq__", "Step.__eq__", defArgs (inClass (topS 28) 8), defBody (inClass (topS 28) 8), defScope (inClass (topS 28) 8), [], []⟩,
  ⟨fun K => He.ga K "integer_of", "integer_of", "integer_of", defArgs (topS 16), defBody (topS 16), defScope (topS 16), [], []⟩,
  ⟨fun K => He.ma K (He.ga K "Words") "__init__", "__init__", "Words.__init__", defArgs (inClass (topS 17) 0), defBody (inClass (topS 17) 0), defScope (inClass (topS 17) 0), [], []⟩,
  ⟨fun K => He.ma K (He.ga K "Words") "is_over", "is_over", "Words.is_over", defArgs (inClass (topS 17) 1), defBody (inClass (topS 17) 1), defScope (inClass (topS 17) 1), [], []⟩,
  ⟨fun K => He.ma K (He.ga K "Step") "__str__", "__str__", "Step.__str__", defArgs (inClass (topS 28) 9), defBody (inClass (topS 28) 9), defScope (inClass (topS 28) 9), [], []⟩,
  ⟨fun K => He.ga K "inverse", "inverse", "inverse", defArgs (topS 40), defBody (topS 40), defScope (topS 40), [], []⟩,
  ⟨fun K => He.ga K "_law_pail", "_law_pail", "_law_pail", defArgs (topS 42), defBody (topS 42), defScope (topS 42), [], []⟩,
  ⟨fun K => He.ga K "_law_dip", "_law_dip", "_law_dip", defArgs (topS 43), defBody (topS 43), defScope (topS 43), [], []⟩,
  ⟨fun K => He.ga K "_law_common", "_law_common", "_law_common", defArgs (topS 46), defBody (topS 46), defScope (topS 46), [], []⟩,
  ⟨fun K => He.ga K "_law_told", "_law_told", "_law_told", defArgs (topS 47), defBody (topS 47), defScope (topS 47), [], []⟩,
  ⟨fun K => He.ga K "_law_nearest", "_law_nearest", "_law_nearest", defArgs (topS 51), defBody (topS 51), defScope (topS 51), [], []⟩,
  ⟨fun K => He.ga K "is_ratio", "is_ratio", "is_ratio", defArgs (topS 23), defBody (topS 23), defScope (topS 23), [], []⟩,
  ⟨fun K => He.ga K "_law_number", "_law_number", "_law_number", defArgs (topS 44), defBody (topS 44), defScope (topS 44), [], []⟩,
  ⟨fun K => He.ma K (He.ga K "Ratio") "__init__", "__init__", "Ratio.__init__", defArgs (inClass (topS 21) 0), defBody (inClass (topS 21) 0), defScope (inClass (topS 21) 0), [.int 1], []⟩,
  ⟨fun K => He.ma K (He.ga K "Step") "__init__", "__init__", "Step.__init__", defArgs (inClass (topS 28) 0), defBody (inClass (topS 28) 0), defScope (inClass (topS 28) 0), [], []⟩,
  ⟨fun K => He.ga K "need_step", "need_step", "need_step", defArgs (topS 31), defBody (topS 31), defScope (topS 31), [], []⟩,
  ⟨fun K => He.ga K "need_studs", "need_studs", "need_studs", defArgs (topS 32), defBody (topS 32), defScope (topS 32), [], []⟩,
  ⟨fun K => He.ma K (He.ga K "Words") "take", "take", "Words.take", defArgs (inClass (topS 17) 5), defBody (inClass (topS 17) 5), defScope (inClass (topS 17) 5), [], []⟩,
  ⟨fun K => He.ma K (He.ga K "Words") "refuse", "refuse", "Words.refuse", defArgs (inClass (topS 17) 6), defBody (inClass (topS 17) 6), defScope (inClass (topS 17) 6), [], []⟩,
  ⟨fun K => He.ma K (He.ga K "Words") "end", "end", "Words.end", defArgs (inClass (topS 17) 8), defBody (inClass (topS 17) 8), defScope (inClass (topS 17) 8), [], []⟩,
  ⟨fun K => He.ga K "words_in", "words_in", "words_in", defArgs (topS 18), defBody (topS 18), defScope (topS 18), [], []⟩,
  ⟨fun K => He.ga K "_law_pair", "_law_pair", "_law_pair", defArgs (topS 45), defBody (topS 45), defScope (topS 45), [], []⟩,
  ⟨fun K => He.ga K "cross", "cross", "cross", defArgs (topS 35), defBody (topS 35), defScope (topS 35), [], []⟩,
  ⟨fun K => He.ma K (He.ga K "Words") "integer", "integer", "Words.integer", defArgs (inClass (topS 17) 7), defBody (inClass (topS 17) 7), defScope (inClass (topS 17) 7), [], []⟩,
  ⟨fun K => He5.wf K (He.ga K "Ratio") "staticmethod" "of", "of", "Ratio.of", defArgs (inClass (topS 21) 17), defBody (inClass (topS 21) 17), defScope (inClass (topS 21) 17), [], []⟩,
  ⟨fun K => He.ga K "summed", "summed", "summed", defArgs (topS 29), defBody (topS 29), defScope (topS 29), [], []⟩,
  ⟨fun K => He.ma K (He.ga K "Step") "__neg__", "__neg__", "Step.__neg__", defArgs (inClass (topS 28) 6), defBody (inClass (topS 28) 6), defScope (inClass (topS 28) 6), [], []⟩,
  ⟨fun K => He.ma K (He.ga K "Step") "__mul__", "__mul__", "Step.__mul__", defArgs (inClass (topS 28) 7), defBody (inClass (topS 28) 7), defScope (inClass (topS 28) 7), [], []⟩,
  ⟨fun K => He5.wf K (He.ga K "Step") "property" "upward", "upward", "Step.upward", defArgs (inClass (topS 28) 1), defBody (inClass (topS 28) 1), defScope (inClass (topS 28) 1), [], []⟩,
  ⟨fun K => He5.wf K (He.ga K "Step") "property" "corner", "corner", "Step.corner", defArgs (inClass (topS 28) 2), defBody (inClass (topS 28) 2), defScope (inClass (topS 28) 2), [], []⟩,
  ⟨fun K => He5.wf K (He.ga K "Step") "staticmethod" "one_round", "one_round", "Step.one_round", defArgs (inClass (topS 28) 3), defBody (inClass (topS 28) 3), defScope (inClass (topS 28) 3), [], []⟩,
  ⟨fun K => He.ga K "are_neighbours", "are_neighbours", "are_neighbours", defArgs (topS 36), defBody (topS 36), defScope (topS 36), [], []⟩,
  ⟨fun K => He.ga K "take_step", "take_step", "take_step", defArgs (topS 33), defBody (topS 33), defScope (topS 33), [], []⟩,
  ⟨fun K => He.ga K "mate", "mate", "mate", defArgs (topS 39), defBody (topS 39), defScope (topS 39), [], []⟩,
  ⟨fun K => He.ga K "at_right", "at_right", "at_right", defArgs (topS 24), defBody (topS 24), defScope (topS 24), [], []⟩,
  ⟨fun K => He.ma K (He.ga K "Step") "__add__", "__add__", "Step.__add__", defArgs (inClass (topS 28) 4), defBody (inClass (topS 28) 4), defScope (inClass (topS 28) 4), [], []⟩,
  ⟨fun K => He.ma K (He.ga K "Step") "__sub__", "__sub__", "Step.__sub__", defArgs (inClass (topS 28) 5), defBody (inClass (topS 28) 5), defScope (inClass (topS 28) 5), [], []⟩,
  ⟨fun K => He.ga K "need_neighbours", "need_neighbours", "need_neighbours", defArgs (topS 37), defBody (topS 37), defScope (topS 37), [], []⟩,
  ⟨fun K => He.ga K "read_whole", "read_whole", "read_whole", defArgs (topS 19), defBody (topS 19), defScope (topS 19), [], []⟩,
  ⟨fun K => He.ma K (He.ga K "Ratio") "__add__", "__add__", "Ratio.__add__", defArgs (inClass (topS 21) 4), defBody (inClass (topS 21) 4), defScope (inClass (topS 21) 4), [], []⟩,
  ⟨fun K => He.ga K "between", "between", "between", defArgs (topS 38), defBody (topS 38), defScope (topS 38), [], []⟩,
  ⟨fun K => He5.wf K (He.ga K "Step") "classmethod" "read", "read", "Step.read", defArgs (inClass (topS 28) 10), defBody (inClass (topS 28) 10), defScope (inClass (topS 28) 10), [], []⟩,
  ⟨fun K => He.ga K "_law_heard", "_law_heard", "_law_heard", defArgs (topS 48), defBody (topS 48), defScope (topS 48), [], []⟩,
  ⟨fun K => He.ga K "_law_one_right", "_law_one_right", "_law_one_right", defArgs (topS 49), defBody (topS 49), defScope (topS 49), [], []⟩,
  ⟨fun K => He.ga K "_law_two_right", "_law_two_right", "_law_two_right", defArgs (topS 50), defBody (topS 50), defScope (topS 50), [], []⟩,
  ⟨fun K => He.ga K "_law_mate_right", "_law_mate_right", "_law_mate_right", defArgs (topS 52), defBody (topS 52), defScope (topS 52), [], []⟩,
  ⟨fun K => He.ga K "_law_refused_right", "_law_refused_right", "_law_refused_right", defArgs (topS 53), defBody (topS 53), defScope (topS 53), [], []⟩,
  ⟨fun K => He.ga K "_law_text_right", "_law_text_right", "_law_text_right", defArgs (topS 54), defBody (topS 54), defScope (topS 54), [], []⟩,
  ⟨fun K => He.ga K "law", "law", "law", defArgs (topS 55), defBody (topS 55), defScope (topS 55), [], []⟩]
def glL : List Str := (["is_integer", "sign_of", "is_upward", "integer_of", "inverse", "_law_pail", "_law_dip", "_law_common", "_law_told", "_law_nearest", "is_ratio", "_law_number"] : List Str) ++ (["need_step", "need_studs", "words_in", "_law_pair", "cross", "summed", "are_neighbours", "take_step", "mate", "at_right", "need_neighbours", "read_whole"] : List Str) ++ (["between", "_law_heard", "_law_one_right", "_law_two_right", "_law_mate_right", "_law_refused_right", "_law_text_right", "law"] : List Str)
def kB (g : Addr → Option Obj) (n : Nat) : Frag := He.frT g (He5.asA g n)
def bB (g : Addr → Option Obj) (K : Frag) : Bool := (exL.all fun f => f K) && ((glL.all fun x => (He.Fa.glo x).ok K) && ((fnL.all fun d => d.ok K) && He.tabsB g tfL K))
def obsB (n : Nat) (g : Addr → Option Obj) : He.AlD := (bB g (kB g n), fnL.map fun d => He5.fnA (kB g n) (d.at_ (kB g n)))
def valB : He.AlD := (true, fnL.map He5.DefA.val)
structure SaysB (h : Heap) (K : Frag) : Prop where
  ex : ∀ f ∈ exL, f K = true
  gl : ∀ x ∈ glL, (He.Fa.glo x).ok K = true
  fn : ∀ d ∈ fnL, d.ok K = true ∧ He5.fnA K (d.at_ K) = d.val
  hd : ∀ p ∈ tfL, PySem.W.codeHdIn K (He.cT K p).1 (He.cT K p).2 = true
  out : ∀ p ∈ tfL, K.lookup (He.cT K p).2 = none
  empty : ∀ p ∈ tfL, h.get? (He.cT K p).2 = some { cls := .none, data := .fields #[] }
theorem map_eq {α β : Type} {f g : α → β} : ∀ {l : List α}, l.map f = l.map g → ∀ x ∈ l, f x = g x
  | [], _, x, h => by cases h
  | y :: l, e, x, h => by
    rw [List.map_cons, List.map_cons] at e
    injection e with e1 e2
    rcases List.mem_cons.mp h with rfl | h
    · exact e1
    · exact map_eq e2 x h
theorem saysB_of {n : Nat} {h : Heap} (e : obsB n h.get? = valB) : SaysB h (kB h.get? n) := by
  have e1 : bB h.get? (kB h.get? n) = true := congrArg (fun z : He.AlD => z.1) e
  have e2 : fnL.map (fun d => He5.fnA (kB h.get? n) (d.at_ (kB h.get? n))) = fnL.map He5.DefA.val := congrArg (fun z : He.AlD => z.2) e
  obtain ⟨h1, e1⟩ := He.ba e1
  obtain ⟨h2, e1⟩ := He.ba e1
  obtain ⟨h3, h4⟩ := He.ba e1
  have key : ∀ p ∈ tfL, PySem.W.codeHdIn (kB h.get? n) (He.cT (kB h.get? n) p).1 (He.cT (kB h.get? n) p).2 = true ∧ ∃ o, h.get? (He.cT (kB h.get? n) p).2 = some o ∧ He.emptyTab o = true := fun p hp => by
    obtain ⟨h5, h6⟩ := He.ba (List.all_eq_true.mp h4 p hp)
    refine ⟨h5, ?_⟩
    cases q : h.get? (He.cT (kB h.get? n) p).2 with
    | none =>
      rw [q] at h6
      cases h6
    | some o =>
      rw [q] at h6
      exact ⟨o, rfl, h6⟩
  exact ⟨fun f hf => List.all_eq_true.mp h1 f hf, fun x hx => List.all_eq_true.mp h2 x hx, fun d hd => ⟨List.all_eq_true.mp h3 d hd, map_eq e2 d hd⟩, fun p hp => (key p hp).1, fun p hp => by
    obtain ⟨_, o, q, z⟩ := key p hp
    exact He.frT_none q z, fun p hp => by
    obtain ⟨_, o, q, z⟩ := key p hp
    rw [q, He.emptyTab_eq z]⟩
def hookB (n : Nat) : PySem.W.Hook where
  α := He.AlD
  obs := fun s => obsB n s.heap.get?
  val := fun _ => valB
  says := fun _ h => ∃ K : Frag, K.In h ∧ SaysB h K
  of := fun _ _ e => ⟨_, He.frT_in, saysB_of e⟩
  keeps := fun _ _ _ ⟨K, hK, c⟩ k => ⟨K, PySem.W.Frag.In.keeps hK k, ⟨c.ex, c.gl, c.fn, c.hd, c.out, fun p hp => k _ _ (c.empty p hp)⟩⟩
theorem obsB_eq {n : Nat} {g : Addr → Option Obj} {s : Shared} (h : ∀ a, g a = s.heap.get? a) : obsB n g = (hookB n).obs s := by
  have e : g = s.heap.get? := funext h
  rw [e] <;> rfl
abbrev Rw : PySem.W.OpenRow := PySem.W.OpenLaw.row PySem.Challenge.rw_spiralsays_k05_steps_added_and_their_mat
abbrev qv : Program := PySem.W.view Rw.prog [0, 55]
def names : List Str := (["_wall", "__name__", "SpiralError", "BadRatio", "BadStep", "BadNumber", "Round", "NotNeighbours", "Common", "BadText", "DIGITS", "is_integer"] : List Str) ++ (["MOST_DIGITS", "integer_of", "Words", "words_in", "read_whole", "Ratio", "sign_of", "is_ratio", "at_right", "ratio_of", "take_ratio", "Step"] : List Str) ++ (["summed", "is_upward", "need_step", "need_studs", "take_step", "cross", "are_neighbours", "need_neighbours", "between", "mate", "inverse", "_law_pail"] : List Str) ++ (["_law_dip", "_law_number", "_law_pair", "_law_common", "_law_told", "_law_heard", "_law_one_right", "_law_two_right", "_law_nearest", "_law_mate_right", "_law_refused_right", "_law_text_right"] : List Str)
abbrev hk : PySem.W.Hook := hookB 5
def ob (s : PySem.W.SharedT) : He.AlD := obsB 5 (HandSHeadRun.getT s)
theorem ob_eq (s : PySem.W.SharedT) : ob s = hk.obs s.abs := obsB_eq (HandSHeadRun.getT_eq s)
end Sp
end
section
set_option Elab.async false
set_option linter.all false
set_option maxRecDepth 100000
set_option maxHeartbeats 0
namespace Sp
open PySem PySem.Spec PyProof.Rows L2 HandSHeadRun PySem.W PySem.Calls
abbrev KB5 (s : PySem.W.SharedT) : Frag := kB (getT s) 5
def pA (s : PySem.W.SharedT) : Bool := (exL.take 27).all fun f => f (KB5 s)
def pB (s : PySem.W.SharedT) : Bool := (exL.drop 27).all fun f => f (KB5 s)
def pC (s : PySem.W.SharedT) : Bool := (glL.all fun x => (He.Fa.glo x).ok (KB5 s)) && ((fnL.all fun d => d.ok (KB5 s)) && He.tabsB (getT s) tfL (KB5 s))
def pD (s : PySem.W.SharedT) : He.AlD := (true, fnL.map fun d => He5.fnA (KB5 s) (d.at_ (KB5 s)))
theorem ob_parts (s : PySem.W.SharedT) : ob s = (((pA s && pB s) && pC s), (pD s).2) := by
  have e : exL.all (fun f => f (KB5 s)) = (pA s && pB s) := by
    unfold pA pB
    rw [← List.all_append, List.take_append_drop]
  show ((exL.all fun f => f (KB5 s)) && pC s, _) = _
  rw [e]
  rfl
theorem runA (w : World) : (wholeF (fun p => stepQ (denQ tabQ) p w) fenceQ 30000 Rw.prog).map (fun x => (looksF Rw.prog x.1.heap x.2.abs, seenQ qv names (importedModules Rw.prog.main.body) (fun s => xlAt qv [] s && recOk Rw.toRowW.records s) x.2.abs)) = some (true, openGood qv names) := by
  kernel_rfl
theorem runPA (w : World) : (wholeF (fun p => stepQ (denQ tabQ) p w) fenceQ 30000 Rw.prog).map (fun x => pA x.2) = some true := by
  kernel_rfl
theorem runPB (w : World) : (wholeF (fun p => stepQ (denQ tabQ) p w) fenceQ 30000 Rw.prog).map (fun x => pB x.2) = some true := by
  kernel_rfl
theorem runPC (w : World) : (wholeF (fun p => stepQ (denQ tabQ) p w) fenceQ 30000 Rw.prog).map (fun x => pC x.2) = some true := by
  kernel_rfl
theorem runPD (w : World) : (wholeF (fun p => stepQ (denQ tabQ) p w) fenceQ 30000 Rw.prog).map (fun x => pD x.2) = some valB := by
  kernel_rfl
theorem runB (w : World) : (wholeF (fun p => stepQ (denQ tabQ) p w) fenceQ 30000 Rw.prog).map (fun x => ob x.2) = some valB := by
  have a := runPA w
  have b := runPB w
  have c := runPC w
  have d := runPD w
  cases e : wholeF (fun p => stepQ (denQ tabQ) p w) fenceQ 30000 Rw.prog with
  | none => rw [e] at a; cases a
  | some x =>
    rw [e] at a b c d
    have a : pA x.2 = true := Option.some.inj a
    have b : pB x.2 = true := Option.some.inj b
    have c : pC x.2 = true := Option.some.inj c
    have d : pD x.2 = valB := Option.some.inj d
    show some (ob x.2) = some valB
    rw [ob_parts, a, b, c, d]
    rfl
theorem joinO3 {A B C D : Type} {o : Option A} {f : A → B} {g : A → C} {h : A → D} {b : B} {c : C} {d : D} (a : o.map (fun x => (f x, g x)) = some (b, c)) (e : o.map (fun x => h x) = some d) : o.map (fun x => (f x, g x, h x)) = some (b, c, d) := by
  cases o with
  | none => cases a
  | some x =>
    have a1 : (f x, g x) = (b, c) := Option.some.inj a
    have e1 : h x = d := Option.some.inj e
    injection a1 with a2 a3
    show some (f x, g x, h x) = some (b, c, d)
    rw [a2, a3, e1]
theorem run (w : World) : RunEqI Rw qv hk ob 30000 names w := by
  delta HandSHeadRun.RunEqI
  exact joinO3 (runA w) (runB w)
end Sp
end
section
set_option linter.all false
set_option exponentiation.threshold 5000
namespace Sp
/-! ### runs of letters -/
def PQ : List Int → Int × Int
  | [] => (1, 1)
  | r :: t => ((PQ t).1 * r + (PQ t).2, (PQ t).1)
def Ones (l : List Int) : Prop := ∀ x ∈ l, 1 ≤ x
theorem Ones.tail {r : Int} {t : List Int} (h : Ones (r :: t)) : Ones t := fun x hx => h x (List.mem_cons_of_mem _ hx)
theorem Ones.head {r : Int} {t : List Int} (h : Ones (r :: t)) : 1 ≤ r := h r List.mem_cons_self
theorem pq_pos : ∀ l : List Int, (∀ x ∈ l, 0 ≤ x) → 1 ≤ (PQ l).1 ∧ 1 ≤ (PQ l).2
  | [], _ => ⟨by decide, by decide⟩
  | r :: t, h => by
    obtain ⟨h1, h2⟩ := pq_pos t fun x hx => h x (List.mem_cons_of_mem _ hx)
    have hr := h r List.mem_cons_self
    have : 0 ≤ (PQ t).1 * r := Int.mul_nonneg (by omega) hr
    refine ⟨?_, h1⟩
    show 1 ≤ (PQ t).1 * r + (PQ t).2
    omega
theorem Ones.nn {l : List Int} (h : Ones l) : ∀ x ∈ l, (0 : Int) ≤ x := fun x hx => by have := h x hx; omega
theorem pq_lt {r : Int} {t : List Int} (h : Ones (r :: t)) : (PQ (r :: t)).2 < (PQ (r :: t)).1 := by
  obtain ⟨h1, h2⟩ := pq_pos t h.tail.nn
  have hr := h.head
  show (PQ t).1 < (PQ t).1 * r + (PQ t).2
  have : (PQ t).1 * 1 ≤ (PQ t).1 * r := Int.mul_le_mul_of_nonneg_left hr (by omega)
  omega
theorem fdm {a b q r : Int} (hb : 0 < b) (e : a = b * q + r) (h0 : 0 ≤ r) (h1 : r < b) : a.fdiv b = q ∧ a.fmod b = r := by
  subst e
  rw [Int.fdiv_eq_ediv_of_nonneg _ (by omega), Int.fmod_eq_emod_of_nonneg _ (by omega)]
  refine ⟨?_, ?_⟩
  · rw [Int.mul_add_ediv_left _ _ (by omega), Int.ediv_eq_zero_of_lt h0 h1]
    omega
  · rw [Int.mul_add_emod_self_left, Int.emod_eq_of_lt h0 h1]
def bump : List Int → List Int
  | [] => []
  | [r] => [r + 1]
  | r :: s :: t => r :: bump (s :: t)
/-- one turn of the division with a rest -/
theorem pq_step {r : Int} {t : List Int} (h : Ones (r :: t)) : ((PQ (r :: t)).1.fdiv (PQ (r :: t)).2 :: (if t = [] then [] else bump t)) = bump (r :: t) ∧ (PQ (r :: t)).1.fmod (PQ (r :: t)).2 = (if t = [] then 0 else (PQ t).2) ∧ (PQ (r :: t)).2 = (PQ t).1 := by
  cases t with
  | nil =>
    have : (PQ [r]).1 = 1 * (r + 1) + 0 := by show (1 : Int) * r + 1 = _; omega
    obtain ⟨h1, h2⟩ := fdm (b := 1) (by decide) this (by decide) (by decide)
    refine ⟨?_, ?_, rfl⟩
    · show [(PQ [r]).1.fdiv 1] = [r + 1]
      rw [h1]
    · show (PQ [r]).1.fmod 1 = 0
      rw [h2]
  | cons s t =>
    obtain ⟨h1, h2⟩ := pq_pos (s :: t) h.tail.nn
    obtain ⟨h3, h4⟩ := fdm (a := (PQ (r :: s :: t)).1) (b := (PQ (s :: t)).1) (q := r) (r := (PQ (s :: t)).2) (by omega) rfl (by omega) (pq_lt h.tail)
    refine ⟨?_, ?_, rfl⟩
    · show (PQ (r :: s :: t)).1.fdiv (PQ (s :: t)).1 :: bump (s :: t) = r :: bump (s :: t)
      rw [h3]
    · exact h4
/-- the runs as the division finds them -/
def rs1 : List Int → List Int
  | [] => [1]
  | r :: t => (r + 1) :: t
theorem rs1_pq (l : List Int) : PQ (rs1 l) = ((PQ l).1 + (PQ l).2, (PQ l).2) := by
  cases l with
  | nil => rfl
  | cons r t =>
    show ((PQ t).1 * (r + 1) + (PQ t).2, (PQ t).1) = ((PQ t).1 * r + (PQ t).2 + (PQ t).1, (PQ t).1)
    rw [Int.mul_add]
    congr 1
    omega
/-- first and others of the runs that are drawn -/
structure Runs (l : List Int) : Prop where
  first : ∀ r t, l = r :: t → 0 ≤ r ∧ Ones t
  not0 : l ≠ [0]
  many : l.length ≤ 5
  size : ∀ x ∈ l, x < 2 ^ 31
theorem Runs.ones {l : List Int} (h : Runs l) : Ones (rs1 l) := by
  cases l with
  | nil => intro x hx; rw [List.mem_singleton.mp hx]; decide
  | cons r t =>
    obtain ⟨h1, h2⟩ := h.first r t rfl
    intro x hx
    rcases List.mem_cons.mp hx with rfl | hx
    · omega
    · exact h2 x hx
theorem Runs.nn {l : List Int} (h : Runs l) : ∀ x ∈ l, (0 : Int) ≤ x := by
  cases l with
  | nil => intro x hx; cases hx
  | cons r t =>
    obtain ⟨h1, h2⟩ := h.first r t rfl
    intro x hx
    rcases List.mem_cons.mp hx with rfl | hx
    · exact h1
    · exact h2.nn x hx
theorem rs1_ne (l : List Int) : rs1 l ≠ [] := by cases l <;> intro h <;> cases h
/-- the first one less, then the last one less -/
def dec0 : List Int → List Int
  | [] => []
  | r :: t => (r - 1) :: t
def decL : List Int → List Int
  | [] => []
  | [r] => [r - 1]
  | r :: s :: t => r :: decL (s :: t)
theorem decL_bump : ∀ l : List Int, decL (bump l) = l
  | [] => rfl
  | [r] => by show [r + 1 - 1] = [r]; congr 1; omega
  | [r, s] => by show r :: [s + 1 - 1] = [r, s]; congr 2; omega
  | r :: s :: u :: t => by
    show r :: decL (s :: bump (u :: t)) = _
    have := decL_bump (s :: u :: t)
    rw [show bump (s :: u :: t) = s :: bump (u :: t) from rfl] at this
    rw [this]
theorem dec_rs1 (l : List Int) : decL (dec0 (bump (rs1 l))) = if l = [] then [0] else l := by
  match l with
  | [] => rfl
  | [r] => show [r + 1 + 1 - 1 - 1] = [r]; congr 1; omega
  | r :: s :: t =>
    show decL ((r + 1 - 1) :: bump (s :: t)) = r :: s :: t
    have e := decL_bump (r :: s :: t)
    rw [show bump (r :: s :: t) = r :: bump (s :: t) from rfl] at e
    rw [show r + 1 - 1 = r by omega]
    exact e
theorem dec0_set {r : Int} {t : List Int} : dec0 (r :: t) = (r :: t).set 0 (r - 1) := rfl
theorem decL_set : ∀ {l : List Int} {x : Int}, l[l.length - 1]? = some x → decL l = l.set (l.length - 1) (x - 1)
  | [], _, h => by cases h
  | [r], x, h => by
    have : r = x := by simpa using h
    subst this
    rfl
  | r :: s :: t, x, h => by
    have e : (r :: s :: t).length - 1 = ((s :: t).length - 1) + 1 := by simp
    rw [e] at h ⊢
    have h' : (s :: t)[(s :: t).length - 1]? = some x := by rw [List.getElem?_cons_succ] at h; exact h
    show r :: decL (s :: t) = r :: (s :: t).set _ _
    rw [decL_set h']
theorem bump_len : ∀ l : List Int, (bump l).length = l.length
  | [] => rfl
  | [_] => rfl
  | r :: s :: t => by show (bump (s :: t)).length + 1 = _; rw [bump_len (s :: t)]; rfl
/-! ### where the letters lead -/
structure Q4 where
  a : Int
  b : Int
  c : Int
  d : Int
def ledGo : Bool → List Int → Q4 → Q4
  | _, [], s => s
  | true, r :: t, s => ledGo false t ⟨s.a, s.b, s.c + r * s.a, s.d + r * s.b⟩
  | false, r :: t, s => ledGo true t ⟨s.a + r * s.c, s.b + r * s.d, s.c, s.d⟩
def Q4.cr (s : Q4) : Int := s.c * s.b - s.a * s.d
theorem led_cr : ∀ (f : Bool) (l : List Int) (s : Q4), (ledGo f l s).cr = s.cr
  | _, [], s => by unfold ledGo; rfl
  | true, r :: t, s => by
    show (ledGo false t _).cr = _
    rw [led_cr false t]
    simp only [Q4.cr]
    grind
  | false, r :: t, s => by
    show (ledGo true t _).cr = _
    rw [led_cr true t]
    simp only [Q4.cr]
    grind
theorem led_sum : ∀ (f : Bool) (l : List Int) (s : Q4),
    (ledGo f l s).a + (ledGo f l s).c = (PQ l).1 * (if f then s.a else s.c) + (PQ l).2 * (if f then s.c else s.a) ∧
    (ledGo f l s).b + (ledGo f l s).d = (PQ l).1 * (if f then s.b else s.d) + (PQ l).2 * (if f then s.d else s.b)
  | f, [], s => by
    cases f <;> simp [ledGo, PQ] <;> omega
  | true, r :: t, s => by
    obtain ⟨h1, h2⟩ := led_sum false t ⟨s.a, s.b, s.c + r * s.a, s.d + r * s.b⟩
    show (ledGo false t _).a + (ledGo false t _).c = _ ∧ _
    refine ⟨h1.trans ?_, h2.trans ?_⟩ <;> simp [PQ] <;> grind
  | false, r :: t, s => by
    obtain ⟨h1, h2⟩ := led_sum true t ⟨s.a + r * s.c, s.b + r * s.d, s.c, s.d⟩
    show (ledGo true t _).a + (ledGo true t _).c = _ ∧ _
    refine ⟨h1.trans ?_, h2.trans ?_⟩ <;> simp [PQ] <;> grind
theorem led_pos : ∀ (f : Bool) (l : List Int) (s : Q4), (∀ x ∈ l, 0 ≤ x) → 1 ≤ s.b → 1 ≤ s.d → 1 ≤ (ledGo f l s).b ∧ 1 ≤ (ledGo f l s).d
  | _, [], s, _, h1, h2 => by unfold ledGo; exact ⟨h1, h2⟩
  | true, r :: t, s, h, h1, h2 => led_pos false t _ (fun x hx => h x (List.mem_cons_of_mem _ hx)) h1 (by
      have := Int.mul_nonneg (h r List.mem_cons_self) (show 0 ≤ s.b by omega)
      show 1 ≤ s.d + r * s.b
      omega)
  | false, r :: t, s, h, h1, h2 => led_pos true t _ (fun x hx => h x (List.mem_cons_of_mem _ hx)) (by
      have := Int.mul_nonneg (h r List.mem_cons_self) (show 0 ≤ s.d by omega)
      show 1 ≤ s.b + r * s.d
      omega) h2
structure Q4.Sm (s : Q4) (n : Nat) : Prop where
  a : s.a.natAbs < 2 ^ n
  b : s.b.natAbs < 2 ^ n
  c : s.c.natAbs < 2 ^ n
  d : s.d.natAbs < 2 ^ n
theorem sm1 {x y r : Int} {n : Nat} (hx : x.natAbs < 2 ^ n) (hy : y.natAbs < 2 ^ n) (h0 : 0 ≤ r) (hr : r < 2 ^ 31) : (x + r * y).natAbs < 2 ^ (n + 32) :=
  nb_add (a := n) (b := 31 + n) hx (nb_mul (by omega) hy)
theorem led_sm : ∀ (f : Bool) (l : List Int) (s : Q4) (n : Nat), (∀ x ∈ l, 0 ≤ x ∧ x < 2 ^ 31) → s.Sm n → (ledGo f l s).Sm (n + 32 * l.length)
  | _, [], s, n, _, h => by unfold ledGo; exact h
  | true, r :: t, s, n, h, z => by
    obtain ⟨h0, h1⟩ := h r List.mem_cons_self
    have := led_sm false t ⟨s.a, s.b, s.c + r * s.a, s.d + r * s.b⟩ (n + 32) (fun x hx => h x (List.mem_cons_of_mem _ hx)) ⟨nb_le z.a, nb_le z.b, sm1 z.c z.a h0 h1, sm1 z.d z.b h0 h1⟩
    rw [show n + 32 + 32 * t.length = n + 32 * (r :: t).length by simp; omega] at this
    exact this
  | false, r :: t, s, n, h, z => by
    obtain ⟨h0, h1⟩ := h r List.mem_cons_self
    have := led_sm true t ⟨s.a + r * s.c, s.b + r * s.d, s.c, s.d⟩ (n + 32) (fun x hx => h x (List.mem_cons_of_mem _ hx)) ⟨sm1 z.a z.c h0 h1, sm1 z.b z.d h0 h1, nb_le z.c, nb_le z.d⟩
    rw [show n + 32 + 32 * t.length = n + 32 * (r :: t).length by simp; omega] at this
    exact this
/-- all that is known of where runs lead -/
structure Led (w : Int) (l : List Int) (s : Q4) : Prop where
  cr : s.cr = 1
  b : 1 ≤ s.b
  d : 1 ≤ s.d
  sm : s.Sm 200
  top : s.a + s.c = ((PQ l).1 + (PQ l).2) * w + (PQ l).2
  bot : s.b + s.d = (PQ l).1 + (PQ l).2
theorem led_of {w : Int} {l : List Int} (hw : w.natAbs ≤ 40) (hl : Runs l) : Led w l (ledGo true l ⟨w, 1, w + 1, 1⟩) := by
  obtain ⟨h1, h2⟩ := led_sum true l ⟨w, 1, w + 1, 1⟩
  obtain ⟨h3, h4⟩ := led_pos true l ⟨w, 1, w + 1, 1⟩ hl.nn (Int.le_refl 1) (Int.le_refl 1)
  have z := led_sm true l ⟨w, 1, w + 1, 1⟩ 6 (fun x hx => ⟨hl.nn x hx, hl.size x hx⟩) ⟨by show w.natAbs < 64; omega, by show (1 : Int).natAbs < 64; decide, by show (w + 1).natAbs < 64; omega, by show (1 : Int).natAbs < 64; decide⟩
  have hm := hl.many
  refine ⟨?_, h3, h4, ⟨nb_le z.a, nb_le z.b, nb_le z.c, nb_le z.d⟩, ?_, ?_⟩
  · rw [led_cr]
    simp only [Q4.cr]
    omega
  · rw [h1]
    simp only [if_true]
    grind
  · rw [h2]
    simp only [if_true]
    omega
section
variable {w : Int} {l : List Int} {s : Q4} (h : Led w l s) (hl : Runs l)
include h hl
theorem Led.fdm : (s.a + s.c).fdiv (s.b + s.d) = w ∧ (s.a + s.c).fmod (s.b + s.d) = (PQ l).2 := by
  obtain ⟨h1, h2⟩ := pq_pos l hl.nn
  rw [h.top, h.bot]
  exact Sp.fdm (by omega) rfl (by omega) (by omega)
theorem Led.pq : PQ (rs1 l) = (s.b + s.d, (s.a + s.c).fmod (s.b + s.d)) := by
  rw [rs1_pq, (h.fdm hl).2, h.bot]
end
/-! ### coprime pairs -/
theorem cop_of {a b x y : Int} (h : a * x - b * y = 1) : Nat.gcd a.natAbs b.natAbs = 1 := by
  have h1 := dvd_g1 a b
  have h2 := dvd_g2 a b
  generalize Nat.gcd a.natAbs b.natAbs = g at h1 h2
  have : ((g : Nat) : Int) ∣ 1 := by
    rw [← h]
    exact Int.dvd_sub (Int.dvd_trans h1 (Int.dvd_mul_right _ _)) (Int.dvd_trans h2 (Int.dvd_mul_right _ _))
  have := Int.natAbs_dvd_natAbs.mpr this
  exact Nat.dvd_one.mp this
theorem cop_num {a b : Int} (hb : 0 < b) (h : Nat.gcd a.natAbs b.natAbs = 1) : (Rat.divInt a b).num = a ∧ (((Rat.divInt a b).den : Nat) : Int) = b := by
  have h1 := comm_num (a := a) (b := b) (by omega)
  have h2 := comm_den (a := a) (b := b) (by omega)
  unfold comm at h1 h2
  rw [if_pos hb, h] at h1 h2
  rw [← h1, ← h2]
  exact ⟨by rw [Int.fdiv_eq_ediv_of_nonneg _ (by decide)]; omega, by rw [Int.fdiv_eq_ediv_of_nonneg _ (by decide)]; omega⟩
theorem inv_uniq {n m x y k j : Int} (hx0 : 0 ≤ x) (hx : x < m) (hy0 : 0 ≤ y) (hy : y < m) (h1 : n * x - 1 = k * m) (h2 : n * y - 1 = j * m) : x = y := by
  have e : x - y = m * (y * k - x * j) := by grind
  have hm : 0 < m := by omega
  have hz : y * k - x * j = 0 := by
    rcases Int.lt_trichotomy (y * k - x * j) 0 with z | z | z
    · have := Int.mul_le_mul_of_nonneg_left (show y * k - x * j ≤ -1 by omega) (show 0 ≤ m by omega)
      omega
    · exact z
    · have := Int.mul_le_mul_of_nonneg_left (show 1 ≤ y * k - x * j by omega) (show 0 ≤ m by omega)
      omega
  rw [hz] at e
  omega
/-! ### the walk that finds an inverse -/
structure Ek (n m l r s f : Int) : Prop where
  l0 : 1 ≤ l
  r0 : 0 ≤ r
  lm : l ≤ m
  rm : r ≤ m
  g : Nat.gcd l.natAbs r.natAbs = 1
  el : ∃ k, s * n = l + k * m
  er : ∃ k, f * n = r + k * m
  sz : (0 ≤ s ∧ f ≤ 0 ∧ s * r - f * l = m) ∨ (s ≤ 0 ∧ 0 ≤ f ∧ f * l - s * r = m)
theorem Ek.start {n m : Int} (hm : 1 ≤ m) (g : Nat.gcd n.natAbs m.natAbs = 1) : Ek n m m (n.fmod m) 0 1 := by
  have h1 := Int.fmod_nonneg_of_pos n (show 0 < m by omega)
  have h2 := Int.fmod_lt_of_pos n (show 0 < m by omega)
  have h3 := Int.mul_fdiv_add_fmod n m
  refine ⟨hm, h1, Int.le_refl _, by omega, ?_, ⟨-1, by omega⟩, ⟨n.fdiv m, by grind⟩, .inr ⟨by decide, by decide, by omega⟩⟩
  have e : n.fmod m = n - n.fdiv m * m := by grind
  show Int.gcd m (n.fmod m) = 1
  rw [e, Int.gcd_sub_mul_right_right, Int.gcd_comm]
  exact g
theorem Ek.step {n m l r s f : Int} (h : Ek n m l r s f) (hr : r ≠ 0) : Ek n m r (l - l.fdiv r * r) f (s - l.fdiv r * f) := by
  have r0 := h.r0
  have h1 := Int.fmod_nonneg_of_pos l (show 0 < r by omega)
  have h2 := Int.fmod_lt_of_pos l (show 0 < r by omega)
  have h3 := Int.mul_fdiv_add_fmod l r
  have e : l - l.fdiv r * r = l.fmod r := by grind
  have q0 : 0 ≤ l.fdiv r := by
    rw [Int.fdiv_eq_ediv_of_nonneg _ h.r0]
    exact Int.ediv_nonneg (by have := h.l0; omega) h.r0
  obtain ⟨k1, e1⟩ := h.el
  obtain ⟨k2, e2⟩ := h.er
  have rm := h.rm
  refine ⟨by omega, by omega, h.rm, by omega, ?_, ⟨k2, e2⟩, ⟨k1 - l.fdiv r * k2, by grind⟩, ?_⟩
  · show Int.gcd r (l - l.fdiv r * r) = 1
    rw [Int.gcd_sub_mul_right_right, Int.gcd_comm]
    exact h.g
  · rcases h.sz with ⟨a, b, c⟩ | ⟨a, b, c⟩
    · refine .inr ⟨b, ?_, by grind⟩
      have := Int.mul_nonneg q0 (show 0 ≤ -f by omega)
      grind
    · refine .inl ⟨b, ?_, by grind⟩
      have := Int.mul_nonneg q0 b
      omega
theorem Ek.bounds {n m l r s f : Int} (h : Ek n m l r s f) (hr : r ≠ 0) : f.natAbs ≤ m.natAbs ∧ (l.fdiv r).natAbs ≤ m.natAbs := by
  have l0 := h.l0
  have r0 := h.r0
  have lm := h.lm
  constructor
  · rcases h.sz with ⟨a, b, c⟩ | ⟨a, b, c⟩
    · have h1 := Int.mul_nonneg a r0
      have h2 := Int.mul_le_mul_of_nonneg_left l0 (show 0 ≤ -f by omega)
      grind
    · have h1 := Int.mul_nonneg (show 0 ≤ -s by omega) r0
      have h2 := Int.mul_le_mul_of_nonneg_left l0 b
      grind
  · rw [Int.fdiv_eq_ediv_of_nonneg _ h.r0]
    have := Int.natAbs_ediv_le_natAbs l r
    omega
theorem Ek.done {n m l s f : Int} (h : Ek n m l 0 s f) (hm : 1 ≤ m) : 0 ≤ s.fmod m ∧ s.fmod m < m ∧ ∃ k, n * s.fmod m - 1 = k * m := by
  have g := h.g
  have l0 := h.l0
  have hl : l = 1 := by
    rw [show (0 : Int).natAbs = 0 from rfl, Nat.gcd_zero_right] at g
    omega
  subst hl
  obtain ⟨k, e⟩ := h.el
  refine ⟨Int.fmod_nonneg_of_pos _ (by omega), Int.fmod_lt_of_pos _ (by omega), k - n * s.fdiv m, ?_⟩
  have h3 := Int.mul_fdiv_add_fmod s m
  grind
/-! ### letters -/
def letters : Bool → List Int → List Bool
  | _, [] => []
  | f, r :: t => List.replicate r.toNat f ++ letters (!f) t
structure Rst (l : List Int) : Prop where
  ones : Ones l
/-- pair T / B, as it is seen from low and high, with letters rest still to come -/
def Rep (f : Bool) (rest : List Int) (s : Q4) (T B : Int) : Prop :=
  T = (PQ rest).1 * (if f then s.a else s.c) + (PQ rest).2 * (if f then s.c else s.a) ∧ B = (PQ rest).1 * (if f then s.b else s.d) + (PQ rest).2 * (if f then s.d else s.b)
def apart (s : Q4) (T B : Int) : Int := T * (s.b + s.d) - (s.a + s.c) * B
theorem apart_nil {f : Bool} {s : Q4} {T B : Int} (h : Rep f [] s T B) : apart s T B = 0 := by
  obtain ⟨rfl, rfl⟩ := h
  cases f <;> simp [apart, PQ] <;> grind
theorem apart_eq {f : Bool} {rest : List Int} {s : Q4} {T B : Int} (h : Rep f rest s T B) (hc : s.cr = 1) : apart s T B = if f then (PQ rest).2 - (PQ rest).1 else (PQ rest).1 - (PQ rest).2 := by
  obtain ⟨rfl, rfl⟩ := h
  simp only [Q4.cr] at hc
  cases f <;> simp [apart] <;> grind
theorem apart_cons {f : Bool} {r : Int} {t : List Int} {s : Q4} {T B : Int} (h : Rep f (r :: t) s T B) (hc : s.cr = 1) (ho : Ones (r :: t)) : apart s T B ≠ 0 ∧ decide (apart s T B < 0) = f := by
  rw [apart_eq h hc]
  have := pq_lt ho
  cases f
  · refine ⟨by simp; omega, ?_⟩
    simp
    omega
  · refine ⟨by simp; omega, ?_⟩
    simp
    omega
def go1 (f : Bool) (s : Q4) : Q4 := if f then ⟨s.a, s.b, s.a + s.c, s.b + s.d⟩ else ⟨s.a + s.c, s.b + s.d, s.c, s.d⟩
theorem go1_cr (f : Bool) (s : Q4) : (go1 f s).cr = s.cr := by
  cases f <;> simp [go1, Q4.cr] <;> grind
theorem rep_dec {f : Bool} {r : Int} {t : List Int} {s : Q4} {T B : Int} (h : Rep f (r :: t) s T B) : Rep f ((r - 1) :: t) (go1 f s) T B := by
  obtain ⟨rfl, rfl⟩ := h
  cases f <;> simp [go1, Rep, PQ] <;> grind
theorem rep_zero {f : Bool} {t : List Int} {s : Q4} {T B : Int} (h : Rep f (0 :: t) s T B) : Rep (!f) t s T B := by
  obtain ⟨rfl, rfl⟩ := h
  cases f <;> simp [Rep, PQ] <;> grind
theorem letters_dec {f : Bool} {r : Int} {t : List Int} (hr : 1 ≤ r) : letters f (r :: t) = f :: letters f ((r - 1) :: t) := by
  show List.replicate r.toNat f ++ _ = f :: (List.replicate (r - 1).toNat f ++ _)
  rw [show r.toNat = (r - 1).toNat + 1 by omega, List.replicate_succ, List.cons_append]
theorem letters_zero {f : Bool} {t : List Int} : letters f (0 :: t) = letters (!f) t := rfl
theorem sum_nn : ∀ {l : List Int}, (∀ x ∈ l, 0 ≤ x) → 0 ≤ l.sum
  | [], _ => by decide
  | r :: t, h => by
    have := sum_nn (l := t) fun x hx => h x (List.mem_cons_of_mem _ hx)
    have := h r List.mem_cons_self
    rw [List.sum_cons]
    omega
/-- the walk by letters, at a turn -/
structure Wk (runs : List Int) (T B : Int) (s : Q4) (fo : List Bool) (i : Nat) : Prop where
  ex : ∃ (f : Bool) (rest : List Int), Ones rest ∧ Rep f rest s T B ∧ fo ++ letters f rest = letters true runs ∧ rest.sum + i ≤ 60
  cr : s.cr = 1
theorem Wk.last {runs : List Int} {T B : Int} {s : Q4} {fo : List Bool} (h : Wk runs T B s fo 61) : False := by
  obtain ⟨f, rest, ho, _, _, hs⟩ := h.ex
  have := sum_nn ho.nn
  omega
theorem Wk.turn {runs : List Int} {T B : Int} {s : Q4} {fo : List Bool} {i : Nat} (h : Wk runs T B s fo i) : (apart s T B = 0 ∧ fo = letters true runs) ∨ (apart s T B ≠ 0 ∧ Wk runs T B (go1 (decide (apart s T B < 0)) s) (fo ++ [decide (apart s T B < 0)]) (i + 1)) := by
  obtain ⟨f, rest, ho, hr, he, hs⟩ := h.ex
  cases rest with
  | nil => exact .inl ⟨apart_nil hr, by rw [← he]; simp [letters]⟩
  | cons r t =>
    obtain ⟨h1, h2⟩ := apart_cons hr h.cr ho
    refine .inr ⟨h1, ?_⟩
    rw [h2]
    refine ⟨?_, by rw [go1_cr]; exact h.cr⟩
    have hh := ho.head
    have hd := rep_dec hr
    rw [letters_dec hh] at he
    rw [List.sum_cons] at hs
    by_cases z : r = 1
    · subst z
      refine ⟨!f, t, ho.tail, rep_zero hd, ?_, by omega⟩
      rw [← he]
      show _ = fo ++ f :: letters f (0 :: t)
      rw [letters_zero]
      simp
    · refine ⟨f, (r - 1) :: t, ?_, hd, ?_, by rw [List.sum_cons]; omega⟩
      · intro x hx
        rcases List.mem_cons.mp hx with rfl | hx
        · omega
        · exact ho.tail x hx
      · rw [← he]
        simp
theorem Wk.start {w : Int} {l : List Int} {s : Q4} (h : Led w l s) (hl : Runs l) (hs : l.sum ≤ 60) : Wk l (s.a + s.c) (s.b + s.d) ⟨w, 1, w + 1, 1⟩ [] 0 := by
  refine ⟨?_, by simp only [Q4.cr]; omega⟩
  have hr : Rep true l ⟨w, 1, w + 1, 1⟩ (s.a + s.c) (s.b + s.d) := ⟨by rw [h.top]; simp; grind, by rw [h.bot]; simp⟩
  cases l with
  | nil => exact ⟨true, [], (fun x hx => by cases hx), hr, rfl, by simp⟩
  | cons r t =>
    obtain ⟨h1, h2⟩ := hl.first r t rfl
    by_cases z : r = 0
    · subst z
      refine ⟨false, t, h2, rep_zero hr, rfl, ?_⟩
      rw [List.sum_cons] at hs
      omega
    · refine ⟨true, r :: t, ?_, hr, rfl, by omega⟩
      intro x hx
      rcases List.mem_cons.mp hx with rfl | hx
      · omega
      · exact h2 x hx
theorem letters_len : ∀ {f : Bool} {l : List Int}, (∀ x ∈ l, 0 ≤ x) → ((letters f l).length : Int) = l.sum
  | _, [], _ => rfl
  | f, r :: t, h => by
    have ih := letters_len (f := !f) (l := t) fun x hx => h x (List.mem_cons_of_mem _ hx)
    have := h r List.mem_cons_self
    show ((List.replicate r.toNat f ++ letters (!f) t).length : Int) = _
    rw [List.length_append, List.length_replicate, List.sum_cons]
    omega
theorem mem_le_sum : ∀ {l : List Int} {x : Int}, (∀ x ∈ l, 0 ≤ x) → x ∈ l → x ≤ l.sum
  | r :: t, x, h, hx => by
    have h1 := h r List.mem_cons_self
    have h2 : ∀ x ∈ t, 0 ≤ x := fun x hx => h x (List.mem_cons_of_mem _ hx)
    have h3 := sum_nn h2
    rw [List.sum_cons]
    rcases List.mem_cons.mp hx with rfl | hx
    · omega
    · have := mem_le_sum h2 hx
      omega
theorem Q4.Sm.mid {s : Q4} {n : Nat} (h : s.Sm n) : (s.a + s.c).natAbs < 2 ^ (n + 1) ∧ (s.b + s.d).natAbs < 2 ^ (n + 1) := ⟨nb_add h.a h.c, nb_add h.b h.d⟩
theorem go1_sm {s : Q4} {n : Nat} (f : Bool) (h : s.Sm n) : (go1 f s).Sm (n + 1) := by
  obtain ⟨h1, h2⟩ := h.mid
  cases f
  · exact ⟨h1, h2, nb_le h.c, nb_le h.d⟩
  · exact ⟨nb_le h.a, nb_le h.b, h1, h2⟩
theorem di_le {a b : Int} (h : b ≠ 0) : (Rat.divInt a b).num.natAbs ≤ a.natAbs ∧ (Rat.divInt a b).den ≤ b.natAbs := by
  constructor
  · rw [Rat.num_divInt]
    have : (b.sign * a / ((b.gcd a : Nat) : Int)).natAbs ≤ (b.sign * a).natAbs := Int.natAbs_ediv_le_natAbs _ _
    have h2 : (b.sign * a).natAbs = a.natAbs := by rw [Int.natAbs_mul, Int.natAbs_sign, if_neg h]; omega
    omega
  · rw [Rat.den_divInt, if_neg h]
    exact Nat.div_le_self _ _
end Sp
end
section
set_option Elab.async false
set_option linter.all false
set_option exponentiation.threshold 5000
set_option maxRecDepth 100000
set_option maxHeartbeats 4000000
namespace Sp
open PySem PySem.Spec PyProof.Rows L2
open PySem.W (Frag)
theorem lk_mem {α : Type} {f : Str} {y : α} : ∀ {fs : List (Str × α)}, fs.lookup f = some y → f ∈ fs.map (·.1)
  | [], l => by cases l
  | (g, z) :: fs, l => by
    rw [lkp] at l
    by_cases e : f = g
    · rw [e]
      exact List.mem_cons_self ..
    · rw [if_neg e] at l
      exact List.mem_cons_of_mem _ (lk_mem l)
/-! ### promises by relations -/
section
variable (K : Frag) (cs : List Cn) (ts : List Ty0)
def DOk (n : Nat) (d : Dt) : Prop := okT cs ts d = true ∧ SzD n d
def DsOk (n : Nat) : List Dt → Prop
  | [] => True
  | d :: l => DOk cs ts n d ∧ DsOk n l
/-- a def: of data, what comes of it -/
structure spR (n : Nat) (R : List Dt → Out → Prop) (vs : List V) (H : Hp) (Q : VK) (E : XK) : Prop where
  un : ∃ ds o, IsVs K H vs ds ∧ DsOk cs ts n ds ∧ R ds o ∧ Aft K H o Q E
/-- an __init__ -/
structure spRI (c : Cn) (n : Nat) (R : List Dt → Out → Prop) (vs : List V) (H : Hp) (Q : VK) (E : XK) : Prop where
  un : ∃ (a dx : Addr) (args : List V) (ds : List Dt) (o : Out), vs = .ref a :: args ∧ H a = some (.ins (ca K c) dx []) ∧ IsVs K H args ds ∧ DsOk cs ts n ds ∧ R ds o ∧ match o with
  | .ok d => ∃ fs, d.own = some (c, fs) ∧ ∀ H' gs, (∀ b o, b ≠ a → H b = some o → H' b = some o) → H' a = some (.ins (ca K c) dx gs) → IsFs K H' gs fs → Q .non H'
  | .err x fs => AftE K H x fs E
end
theorem DsOk.mono {cs : List Cn} {ts : List Ty0} {n m : Nat} (l : n ≤ m) : ∀ {ds : List Dt}, DsOk cs ts n ds → DsOk cs ts m ds
  | [], _ => trivial
  | d :: ds, h => ⟨⟨h.1.1, h.1.2.mono l⟩, DsOk.mono l h.2⟩
section
variable {K : Frag} {m : Md} {H0 H H' : Hp} {L : List (V × Dt)} {v : V} {d d' : Dt} {vs : List V} {ds : List Dt} {o : Out} {R : List Dt → Out → Prop} {Q : VK} {E : XK} {cs : List Cn} {ts : List Ty0} {n : Nat} {c : Cn} {fs : List (Str × Dt)} {x : Str}
theorem fnR (i : IsVs K H vs ds) (z : DsOk cs ts n ds) (r : R ds o) (k : Aft K H o Q E) : spR K cs ts n R vs H Q E := ⟨ds, o, i, z, r, k⟩
theorem finD (q : Aft K H0 (.ok d) Q E) (h : Env K .fn H0 H L) (i : IsV K H v d) : Q v H := q.un v H h.gr i
theorem finDE (q : Aft K H0 (.ok d) Q E) (h : Env K .fn H0 H L) (i : IsV K H v d') (e : d' = d) : Q v H := q.un v H h.gr (e ▸ i)
theorem finE (q : Aft K H0 (.err x fs) Q E) (h : Env K .fn H0 H L) : AftE K H x fs E := Aft.same (o := .err x fs) (Q := Q) q h.gr
theorem finA (q : Aft K H0 o Q E) (h : Env K .fn H0 H L) : Aft K H o Q E := Aft.same q h.gr
/-! the arguments -/
structure AftA (K : Frag) (H : Hp) (ds : List Dt) (P : List V → Prop) : Prop where
  un : ∀ vs, IsVs K H vs ds → P vs
variable {P : List V → Prop}
theorem aaNil (k : P []) : AftA K H [] P := .mk fun vs i => by cases i; exact k
theorem aaInt {i : Int} (k : AftA K H ds (fun vs => P (.int i :: vs))) : AftA K H (.int i :: ds) P := .mk fun vs j => by
  cases j with
  | cons a b => cases a with
    | int => exact k.un _ b
    | own o _ _ => cases o
theorem aaBl {i : Bool} (k : AftA K H ds (fun vs => P (.bl i :: vs))) : AftA K H (.bl i :: ds) P := .mk fun vs j => by
  cases j with
  | cons a b => cases a with
    | bl => exact k.un _ b
    | own o _ _ => cases o
theorem aaStr {i : Str} (k : AftA K H ds (fun vs => P (.str i :: vs))) : AftA K H (.str i :: ds) P := .mk fun vs j => by
  cases j with
  | cons a b => cases a with
    | str => exact k.un _ b
    | own o _ _ => cases o
theorem aaNon (k : AftA K H ds (fun vs => P (.non :: vs))) : AftA K H (.non :: ds) P := .mk fun vs j => by
  cases j with
  | cons a b => cases a with
    | non => exact k.un _ b
    | own o _ _ => cases o
theorem aaOwn (h : Env K m H0 H L) (o : d.own = some (c, fs)) (k : ∀ p, Env K m H0 H ((.ref p, d) :: L) → AftA K H ds (fun vs => P (.ref p :: vs))) : AftA K H (d :: ds) P := .mk fun vs j => by
  cases j with
  | cons a b => cases a with
    | own o1 h1 i1 => exact (k _ (h.add (.own o1 h1 i1))).un _ b
    | _ => cases o
theorem aaTup {l : List Dt} (h : Env K m H0 H L) (k : ∀ p, Env K m H0 H ((.ref p, .tup l) :: L) → AftA K H ds (fun vs => P (.ref p :: vs))) : AftA K H (.tup l :: ds) P := .mk fun vs j => by
  cases j with
  | cons a b => cases a with
    | tup h1 i1 => exact (k _ (h.add (.tup h1 i1))).un _ b
    | own o _ _ => cases o
theorem aaAny (h : Env K m H0 H L) (k : ∀ v, Env K m H0 H ((v, d) :: L) → AftA K H ds (fun vs => P (v :: vs))) : AftA K H (d :: ds) P := .mk fun vs j => by
  cases j with
  | cons a b => exact (k _ (h.add a)).un _ b
theorem afOwn (h : Env K m H0 H L) (o : d.own = some (c, fs)) (k : ∀ p H', Env K m H0 H' ((.ref p, d) :: L) → Q (.ref p) H') : AftD K H d Q := .mk fun v H' s j => by
  have h' := (h.step s).add j
  cases j with
  | own o1 h1 i1 => exact k _ H' h'
  | _ => cases o
theorem afTup {l : List Dt} (h : Env K m H0 H L) (k : ∀ p H', Env K m H0 H' ((.ref p, .tup l) :: L) → Q (.ref p) H') : AftD K H (.tup l) Q := .mk fun v H' s j => by
  have h' := (h.step s).add j
  cases j with
  | tup h1 i1 => exact k _ H' h'
  | own o _ _ => cases o
variable {P1 : V → Prop}
theorem asOwn (h : Env K m H0 H L) (o : d.own = some (c, fs)) (k : ∀ p, Env K m H0 H ((.ref p, d) :: L) → P1 (.ref p)) : AftS K H d P1 := .mk fun v j => by
  have h' := h.add j
  cases j with
  | own o1 h1 i1 => exact k _ h'
  | _ => cases o
theorem asTup {l : List Dt} (h : Env K m H0 H L) (k : ∀ p, Env K m H0 H ((.ref p, .tup l) :: L) → P1 (.ref p)) : AftS K H (.tup l) P1 := .mk fun v j => by
  have h' := h.add j
  cases j with
  | tup h1 i1 => exact k _ h'
  | own o _ _ => cases o
end
/-! ### readings by name, and what they ask of data -/
structure TupD (xs : List V) (H : Hp) (Q : VK) : Prop where
  un : xs.length ≤ sizeLine ∧ ∀ p, H p = none → Q (.ref p) (upd H p (.tup xs))
structure LstD (xs : List V) (H : Hp) (Q : VK) : Prop where
  un : xs.length ≤ sizeLine ∧ ∀ p, H p = none → Q (.ref p) (upd H p (.lst xs))
structure FldD (K : Frag) (f : Str) (x : V) (H : Hp) (Q : VK) : Prop where
  un : ∃ a C dx fs v, x = .ref a ∧ H a = some (.ins C dx fs) ∧ Cls K C ∧ NoAttr K C f ∧ fs.lookup f = some v ∧ Q v H
structure MethD (C : Addr) (m : Str) (x : V) (H : Hp) (P : Prop) : Prop where
  un : ∃ a dx fs, x = .ref a ∧ H a = some (.ins C dx fs) ∧ fs.lookup m = none ∧ P
structure PropD (C : Addr) (x : V) (H : Hp) (sp : Sp) (Q : VK) (E : XK) : Prop where
  un : ∃ a dx fs, x = .ref a ∧ H a = some (.ins C dx fs) ∧ sp [.ref a] H Q E
structure MakeD (C : Addr) (sp : Sp) (vs : List V) (H : Hp) (Q : VK) (E : XK) : Prop where
  un : ∀ x dx, H x = none → H dx = none → dx ≠ x → sp (.ref x :: vs) (upd (upd H dx (.own x)) x (.ins C dx [])) (fun v H2 => v = .non ∧ Q (.ref x) H2) E
def tTupD (t : TA) : TE := fun σ H Q => t σ H fun xs H1 => TupD xs H1 Q
def tLstD (t : TA) : TE := fun σ H Q => t σ H fun xs H1 => LstD xs H1 Q
def tFldD (K : Frag) (f : Str) (ta : TE) : TE := fun σ H Q => ta σ H fun x H1 => FldD K f x H1 Q
def tMethD (C : Addr) (m : Str) (sp : Sp) (E : XK) (ta : TE) (t : TA) : TE := fun σ H Q => ta σ H fun x H1 => MethD C m x H1 (t σ H1 fun vs H2 => sp (x :: (vs ++ [])) H2 Q E)
def tPropD (C : Addr) (sp : Sp) (E : XK) (ta : TE) : TE := fun σ H Q => ta σ H fun x H1 => PropD C x H1 sp Q E
def tMakeD (C : Addr) (sp : Sp) (dvs : List V) (E : XK) (t : TA) : TE := fun σ H Q => t σ H fun vs H1 => MakeD C sp (vs ++ dvs) H1 Q E
section
variable {X : Cx} {CX : CXT} {k : Nat} {C : Addr} {sp : Sp} {E : XK} {op : Operator} {o e : Expr} {es : List Expr} {m f x : Str} {apos p pos : Pos} {ta : TE} {t : TA} {pl : Sem Bool} {dvs : List V} {ps : List Str}
theorem pe_tupD (h : PA X es t) {x1 : Nat} : PE X (.Tuple es x1 pos) (tTupD t) := ⟨fun pins s σ H Q I z => (pe_tup (PA.mono h)).run pins s σ H Q I ⟨_, z, fun _ _ y => y.un⟩⟩
theorem pe_lstD (h : PA X es t) : PE X (.List es pos) (tLstD t) := ⟨fun pins s σ H Q I z => (pe_lst (PA.mono h)).run pins s σ H Q I ⟨_, z, fun _ _ y => y.un⟩⟩
theorem pe_fldD (he : PE X e ta) (hb : attributeBase e f X.env (eval e X.env) = eval e X.env) : PE X (.Attribute e f pos) (tFldD X.K f ta) := ⟨fun pins s σ H Q I z => (pe_fld (PE.mono he) hb).run pins s σ H Q I ⟨_, z, fun _ _ y => y.un⟩⟩
theorem pe_methD (he : PE X o ta) (c : Cls X.K C) (G : GH X.prog X.w X.K X.mg X.base CX k C m ps sp) (hr : Room k X.A) (hx : Passes CX X E) (ha : PA X (e :: es) t)
    (hst : starEach (e :: es) X.env = (false, eval e X.env) :: starEach es X.env := by rfl) (hpl : (backTo pos (starEach es X.env)).any (·.1) = false := by rfl)
    (ht : eval (.Call (.Attribute o m apos) (e :: es) [] pos) X.env = (do
      let ov ← eval o X.env
      standAt apos.atName
      let (f, first) ← holding [ov] (getMethod ov m pl)
      callWith pos f first (backTo pos (starEach (e :: es) X.env)) (backToKw pos (keywordEach [] X.env))) := by rfl) :
    PE X (.Call (.Attribute o m apos) (e :: es) [] pos) (tMethD C m sp E ta t) := ⟨fun pins s σ H Q I z => (pe_gh (PE.mono he) c G hr hx ha hst hpl ht).run pins s σ H Q I ⟨_, z, fun _ _ y => y.un⟩⟩
theorem pe_methD0 (he : PE X o ta) (c : Cls X.K C) (G : GH X.prog X.w X.K X.mg X.base CX k C m ps sp) (hr : Room k X.A) (hx : Passes CX X E)
    (ht : eval (.Call (.Attribute o m apos) [] [] pos) X.env = (do
      let ov ← eval o X.env
      standAt apos.atName
      let (f, first) ← holding [ov] (getMethod ov m pl)
      callWith pos f first (backTo pos (starEach [] X.env)) (backToKw pos (keywordEach [] X.env))) := by rfl) :
    PE X (.Call (.Attribute o m apos) [] [] pos) (tMethD C m sp E ta tNil) := by
  obtain ⟨f, fd, F, M, hb⟩ := G.ex
  exact ⟨fun pins s σ H Q I z => (pe_meth0 (PE.mono he) c M F hr hb .nil hx ht).run pins s σ H Q I ⟨_, z, fun _ _ y => y.un⟩⟩
theorem pe_propD (he : PE X o ta) (G : GP X.prog X.w X.K X.mg X.base (L2.CX X.prog X.w) k C f sp) (hr : Room (k + 1) X.A) (hx : Passes (L2.CX X.prog X.w) X.nox E) (hab : attributeBase o f X.env (eval o X.env) = eval o X.env) :
    PE X (.Attribute o f pos) (tPropD C sp E ta) := by
  obtain ⟨p, g, fd, ps, hp, F, hb⟩ := G.ex
  exact ⟨fun pins s σ H Q I z => (pe_prop (ds := []) (PE.mono he) G.c hp F hr hb .nil hx hab).run pins s σ H Q I ⟨_, z, fun _ _ y => y.un⟩⟩
theorem pe_makeD (G : GM X.prog X.w X.K X.mg X.base CX k x C ps dvs sp) (hr : Room (k + 1) X.A) (hg : Gl X x) (hx : Passes CX X E)
    (ha : PA X (e :: es) t) (hdb : (x == ("__debug__" : Str)) = false := by decide) (he : starEach (e :: es) X.env = (false, eval e X.env) :: starEach es X.env := by rfl) (hpl : (backTo pos (starEach es X.env)).any (·.1) = false := by rfl) :
    PE X (.Call (.Name x p) (e :: es) [] pos) (tMakeD C sp dvs E t) := ⟨fun pins s σ H Q I z => (pe_gm G hr hg hx (PA.mono ha) hdb he hpl).run pins s σ H Q I ⟨_, z, fun _ _ y => y.un⟩⟩
end
section
variable {K : Frag} {mg : Str → Option Value} {m : Md} {H0 H H' : Hp} {L : List (V × Dt)} {v x y : V} {d d' d1 d2 : Dt} {vs : List V} {ds : List Dt} {o : Out} {R : List Dt → Out → Prop} {Q : VK} {E : XK} {cs : List Cn} {ts : List Ty0} {n : Nat} {c : Cn} {fs : List (Str × Dt)} {f : Str} {P : Prop}
theorem Same.new' {p : Addr} {o : HO} (h : H p = none) : Same H (upd H p o) := fun b u e => by rw [upd_ne (ne_of_none e h)]; exact e
theorem tupD (h : Env K m H0 H L) (i : IsVs K H vs ds) (hl : Nat.ble vs.length 1000 = true) (k : ∀ p H', Env K m H0 H' ((.ref p, .tup ds) :: L) → Q (.ref p) H') : TupD vs H Q :=
  ⟨Nat.le_trans (Nat.le_of_ble_eq_true hl) (by decide), fun p n => k p _ ((h.step (Same.new' n)).add (.tup upd_same (i.same (Same.new' n))))⟩
theorem lstD (h : Env K m H0 H L) (i : IsVs K H vs ds) (hl : Nat.ble vs.length 1000 = true) (k : ∀ p H', Env K m H0 H' ((.ref p, .lst ds) :: L) → Q (.ref p) H') : LstD vs H Q :=
  ⟨Nat.le_trans (Nat.le_of_ble_eq_true hl) (by decide), fun p n => k p _ ((h.step (Same.new' n)).add (.lst upd_same (i.same (Same.new' n))))⟩
theorem IsV.out (h : IsV K H v d) (o : d.own = some (c, fs)) : ∃ p dx gs, v = .ref p ∧ H p = some (.ins (ca K c) dx gs) ∧ IsFs K H gs fs := by
  cases h with
  | own o1 h1 i1 =>
    rw [o] at o1
    cases o1
    exact ⟨_, _, _, rfl, h1, i1⟩
  | _ => cases o
theorem fldD (G : G0 K mg cs ts) (h : IsV K H x d) (o : d.own = some (c, fs)) (l : fs.lookup f = some d') (hc : c ∈ cs) (k : AftS K H d' fun v => Q v H) : FldD K f x H Q := by
  obtain ⟨p, dx, gs, rfl, hp, ifs⟩ := h.out o
  obtain ⟨v, hv, iv⟩ := ifs.get l
  have cf := G.cf c hc
  refine ⟨p, _, dx, gs, v, rfl, hp, cf.cl, cf.no f ?_, hv, k.un v iv⟩
  rw [← Dt.own_flds o]
  exact lk_mem l
theorem methD {m' : Str} (h : IsV K H x d) (o : d.own = some (c, fs)) (l : fs.lookup m' = none) (k : P) : MethD (ca K c) m' x H P := by
  obtain ⟨p, dx, gs, rfl, hp, ifs⟩ := h.out o
  exact ⟨p, dx, gs, rfl, hp, ifs.none l, k⟩
theorem propD {sp : Sp} (h : IsV K H x d) (o : d.own = some (c, fs)) (k : sp [x] H Q E) : PropD (ca K c) x H sp Q E := by
  obtain ⟨p, dx, gs, rfl, hp, ifs⟩ := h.out o
  exact ⟨p, dx, gs, rfl, hp, k⟩
theorem makeD (i : IsVs K H vs ds) (z : DsOk cs ts n ds) (r : R ds o) (k : match o with | .ok d => (∃ fs, d.own = some (c, fs)) ∧ AftD K H d Q | .err x fs => AftE K H x fs E) : MakeD (ca K c) (spRI K cs ts c n R) vs H Q E := by
  refine .mk fun x dx nx nd ne => ?_
  have s : Same H (upd (upd H dx (.own x)) x (.ins (ca K c) dx [])) := fun b o e => by rw [upd_ne (ne_of_none e nx), upd_ne (ne_of_none e nd)]; exact e
  refine ⟨x, dx, vs, ds, o, rfl, upd_same, i.same s, z, r, ?_⟩
  cases o with
  | ok d =>
    obtain ⟨⟨fs, e⟩, k⟩ := k
    exact ⟨fs, e, fun H' gs k1 h1 i1 => ⟨rfl, k.un _ H' (fun b o e => k1 b o (ne_of_none e nx) (s b o e)) (.own e h1 i1)⟩⟩
  | err x fs => exact Aft.same (o := .err x fs) (Q := Q) k s
theorem makeOk (i : IsVs K H vs ds) (z : DsOk cs ts n ds) (r : R ds (.ok d)) (e : d.own = some (c, fs)) (k : AftD K H d Q) : MakeD (ca K c) (spRI K cs ts c n R) vs H Q E := makeD i z r ⟨⟨_, e⟩, k⟩
theorem makeEr {x : Str} {fs : List (Str × Dt)} (i : IsVs K H vs ds) (z : DsOk cs ts n ds) (r : R ds (.err x fs)) (k : AftE K H x fs E) : MakeD (ca K c) (spRI K cs ts c n R) vs H Q E := makeD i z r k
/-- an operator of an own class, the right one an own one of the class or an int -/
theorem binD {sp : Sp} (h : IsV K H x d1) (o : d1.own = some (c, fs)) (h2 : IsV K H y d2) (e : (match d2 with | .int _ => true | d => match d.own with | some (c', _) => decide (c' = c) | none => false) = true) (k : sp [x, y] H Q E) : rBin (ca K c) sp E x y H Q := by
  obtain ⟨p, dx, gs, rfl, hp, ifs⟩ := h.out o
  refine ⟨p, dx, gs, rfl, hp, ?_, k⟩
  cases d2 with
  | int i =>
    cases h2 with
    | int => exact .inr ⟨_, rfl⟩
    | own o _ _ => cases o
  | _ =>
    first
      | (cases e; done)
      | (obtain ⟨p2, dx2, gs2, rfl, hp2, _⟩ := h2.out rfl
         have e' := of_decide_eq_true e
         subst e'
         exact .inl ⟨p2, dx2, _, rfl, hp2⟩)
theorem unD {sp : Sp} (h : IsV K H x d1) (o : d1.own = some (c, fs)) (k : sp [x] H Q E) : rUn (ca K c) sp E x H Q := by
  obtain ⟨p, dx, gs, rfl, hp, ifs⟩ := h.out o
  exact ⟨p, dx, gs, rfl, hp, k⟩
theorem absD {sp : Sp} (h : IsV K H x d1) (o : d1.own = some (c, fs)) (k : sp [x] H Q E) : rAbsOwn (ca K c) sp E [x] H Q := by
  obtain ⟨p, dx, gs, rfl, hp, ifs⟩ := h.out o
  exact ⟨p, dx, gs, rfl, hp, k⟩
/-- == by an own __eq__ -/
theorem eqOwnD {sp : Sp} (G : G0 K mg cs ts) (h : IsV K H x d1) (o : d1.own = some (c, fs)) (h2 : IsV K H y d2) (z : okT cs ts d2 = true) (nf : PySem.W.notFirst K (ca K c) (tv K d2.ty) = true) (k : sp [x, y] H Q E) : rEqOwn K (ca K c) sp E x y H Q := by
  obtain ⟨p, dx, gs, rfl, hp, ifs⟩ := h.out o
  refine ⟨p, dx, gs, _, rfl, hp, G.ty h2 (fun c fs e => ?_), nf, k⟩
  have z := (Bool.and_eq_true_iff.mp z).1
  rw [e] at z
  exact of_decide_eq_true z
theorem neOwnD {sp : Sp} (G : G0 K mg cs ts) (h : IsV K H x d1) (o : d1.own = some (c, fs)) (h2 : IsV K H y d2) (z : okT cs ts d2 = true) (nf : PySem.W.notFirst K (ca K c) (tv K d2.ty) = true) (k : sp [x, y] H (fun v H' => ∃ b, v = .bl b ∧ Q (.bl (!b)) H') E) : rNeOwn K (ca K c) sp E x y H Q := by
  obtain ⟨p, dx, gs, rfl, hp, ifs⟩ := h.out o
  refine ⟨p, dx, gs, _, rfl, hp, G.ty h2 (fun c fs e => ?_), nf, k⟩
  have z := (Bool.and_eq_true_iff.mp z).1
  rw [e] at z
  exact of_decide_eq_true z
/-! plain data -/
mutual
def Dt.py : Dt → Option PyData
  | .non => some .none
  | .bl b => some (.bool b)
  | .int i => some (.int i)
  | .str x => some (.str x)
  | .tup l => (Dt.pys l).map .tuple
  | .lst l => (Dt.pys l).map .list
  | _ => none
def Dt.pys : List Dt → Option (List PyData)
  | [] => some []
  | d :: l => match Dt.py d, Dt.pys l with
    | some a, some b => some (a :: b)
    | _, _ => none
end
mutual
theorem IsV.dp : ∀ {v : V} {d : Dt} {p : PyData}, IsV K H v d → d.py = some p → Dp K H v p
  | _, _, _, .non, e => by cases e; exact .non
  | _, _, _, .bl b, e => by cases e; exact .bl b
  | _, _, _, .int i, e => by cases e; exact .int i
  | _, _, _, .str x, e => by cases e; exact .str x
  | _, _, p, .tup (ds := l) h r, e => by
    unfold Dt.py at e
    obtain ⟨q, eq, rfl⟩ := Option.map_eq_some_iff.mp e
    exact .tup (SqT.of h) (IsVs.dp r eq)
  | _, _, p, .lst (ds := l) h r, e => by
    unfold Dt.py at e
    obtain ⟨q, eq, rfl⟩ := Option.map_eq_some_iff.mp e
    exact .lst (SqL.of h) (IsVs.dp r eq)
  | _, _, p, .dct h, e => by cases e
  | _, d, p, .own o h r, e => by cases d <;> (first | (cases o; done) | (cases e; done))
theorem IsVs.dp : ∀ {v : List V} {d : List Dt} {p : List PyData}, IsVs K H v d → Dt.pys d = some p → DpAll K H v p
  | _, _, _, .nil, e => by cases e; exact .nil
  | _, _, p, .cons (d := d) (ds := l) a b, e => by
    unfold Dt.pys at e
    cases e1 : d.py with
    | none => rw [e1] at e; cases e
    | some q1 =>
      cases e2 : Dt.pys l with
      | none => rw [e1, e2] at e; cases e
      | some q2 =>
        rw [e1, e2] at e
        cases e
        exact .cons (IsV.dp a e1) (IsVs.dp b e2)
end
theorem eqDD {p1 p2 : PyData} (h1 : IsV K H x d1) (h2 : IsV K H y d2) (e1 : d1.py = some p1) (e2 : d2.py = some p2) (s1 : SeqAt.shaped p1 = true) (s2 : SeqAt.shaped p2 = true) (k : Q (.bl (PyData.eqv p1 p2)) H) : rEqD K x y H Q :=
  ⟨p1, p2, h1.dp e1, h2.dp e2, s1, s2, k⟩
theorem neDD {p1 p2 : PyData} (h1 : IsV K H x d1) (h2 : IsV K H y d2) (e1 : d1.py = some p1) (e2 : d2.py = some p2) (s1 : SeqAt.shaped p1 = true) (s2 : SeqAt.shaped p2 = true) (k : Q (.bl (!PyData.eqv p1 p2)) H) : rNeD K x y H Q :=
  ⟨p1, p2, h1.dp e1, h2.dp e2, s1, s2, k⟩
theorem ixTD {l : List Dt} {i : Int} {j : Nat} (h : IsV K H x (.tup l)) (e : i = j) (g : l[j]? = some d) (k : AftS K H d fun v => Q v H) : rIxT K x (.int i) H Q := by
  cases h with
  | tup h r =>
    obtain ⟨v, e1, iv⟩ := r.get g
    subst e
    exact ⟨_, _, _, v, rfl, rfl, SqT.of h, atI_nat e1, k.un v iv⟩
  | own o _ _ => cases o
theorem ixLD {l : List Dt} {i : Int} {j : Nat} (h : IsV K H x (.lst l)) (e : i = j) (g : l[j]? = some d) (k : AftS K H d fun v => Q v H) : rIxL K x (.int i) H Q := by
  cases h with
  | lst h r =>
    obtain ⟨v, e1, iv⟩ := r.get g
    subst e
    exact ⟨_, _, _, v, rfl, rfl, SqL.of h, atI_nat e1, k.un v iv⟩
  | own o _ _ => cases o
theorem gTupD {l : List Dt} {t : TGs} {σ : L2.St} {Q : L2.St → Hp → Prop} {m' : Nat} (h : IsV K H x (.tup l)) (e : l.length = m') (k : AftA K H l fun xs => t xs σ H Q) : gTup K m' t x σ H Q := by
  cases h with
  | tup h r => exact ⟨_, _, rfl, SqT.of h, by rw [← e, r.length], k.un _ r⟩
  | own o _ _ => cases o
end
/-! ### a def keeps its promise -/
section
variable {P : Program} {w : World} {K : Frag} {mg : Str → Option Value} {base : Heap} {x qual : Str} {params : Arguments} {body : List Stmt} {scope : Scope} {dvs : List V} {kws : List (Str × V)} {f : Addr} {fd : FuncData} {CX : CXT} {N ps : List Str} {k n : Nat} {cs : List Cn} {ts : List Ty0} {R : List Dt → Out → Prop} {c : Cn}
theorem okR (F : FunD K x qual params body scope dvs kws f fd) (S : FnScope N ps scope) (hl : ∀ ds o, R ds o → ds.length = ps.length)
    (hb : ∀ (cdv : Value) (A : Around) (outer : List PySem.Env) (s : Shared) (H : Hp) (ds : List Dt) (o : Out) (Q : VK) (E : XK), Room k (A.deeper (envOfC qual scope s.heap.objs.size f cdv)) → DsOk cs ts n ds → R ds o → Aft K H o Q E →
      ∃ t, PSs (cxOf CX P w K mg base N qual scope f cdv A outer s H E) body t ∧ AftA K H ds fun vs => t { nx := fun _ H' => Q .non H', rt := Q } (L2.start N vs) H) : FnOk P w K mg base CX (k + 1) f fd ps (spR K cs ts n R) :=
  F.ok S (fun vs H Q E ⟨ds, o, i, _, r, _⟩ => by rw [i.length]; exact hl _ _ r) fun cdv A outer s H vs Q E hr ⟨ds, o, i, z, r, q⟩ => let ⟨t, h1, h2⟩ := hb cdv A outer s H ds o Q E hr z r q; ⟨t, h1, h2.un vs i⟩
def FinI (K : Frag) (H : Hp) (a dx : Addr) (c : Cn) (o : Out) (Q : VK) (E : XK) : Prop := match o with
  | .ok d => ∃ fs, d.own = some (c, fs) ∧ ∀ H' gs, (∀ b o, b ≠ a → H b = some o → H' b = some o) → H' a = some (.ins (ca K c) dx gs) → IsFs K H' gs fs → Q .non H'
  | .err x fs => AftE K H x fs E
theorem okI (F : FunD K x qual params body scope dvs kws f fd) (S : FnScope N ps scope) (hl : ∀ ds o, R ds o → ds.length + 1 = ps.length)
    (hb : ∀ (cdv : Value) (A : Around) (outer : List PySem.Env) (s : Shared) (H : Hp) (a dx : Addr) (ds : List Dt) (o : Out) (Q : VK) (E : XK), Room k (A.deeper (envOfC qual scope s.heap.objs.size f cdv)) → H a = some (.ins (ca K c) dx []) → DsOk cs ts n ds → R ds o → FinI K H a dx c o Q E →
      ∃ t, PSs (cxOf CX P w K mg base N qual scope f cdv A outer s H E) body t ∧ AftA K H ds fun vs => t { nx := fun _ H' => Q .non H', rt := Q } (L2.start N (.ref a :: vs)) H) : FnOk P w K mg base CX (k + 1) f fd ps (spRI K cs ts c n R) :=
  F.ok S (fun vs H Q E ⟨a, dx, args, ds, o, e, _, i, _, r, _⟩ => by rw [e, List.length_cons, i.length]; exact hl _ _ r) fun cdv A outer s H vs Q E hr ⟨a, dx, args, ds, o, e, ha, i, z, r, q⟩ => let ⟨t, h1, h2⟩ := hb cdv A outer s H a dx ds o Q E hr ha z r q; ⟨t, h1, by subst e; exact h2.un args i⟩
end
section
variable {K : Frag} {mg : Str → Option Value} {H0 H : Hp} {L : List (V × Dt)} {d : Dt} {Q : VK} {E : XK} {a dx : Addr} {c : Cn} {gs : List (Str × V)} {fs : List (Str × Dt)} {x : Str} {cs : List Cn} {ts : List Ty0}
theorem finI (q : FinI K H0 a dx c (.ok d) Q E) (h : Env K (.ini a (ca K c) dx gs) H0 H L) (o : d.own = some (c, fs)) (i : IsFs K H gs fs) : Q .non H := by
  obtain ⟨fs', e, q⟩ := q
  rw [o] at e
  cases e
  exact q H gs h.gr h.at_ i
theorem finIE (q : FinI K H0 a dx c (.err x fs) Q E) (ha : H0 a = some (.ins (ca K c) dx [])) (h : Env K (.ini a (ca K c) dx []) H0 H L) : AftE K H x fs E := Aft.same (o := .err x fs) (Q := Q) q fun b o e => by
  by_cases z : b = a
  · subst z
    rw [ha] at e
    cases e
    exact h.at_
  · exact h.gr b o z e
end
end Sp
end
section
set_option Elab.async false
set_option linter.all false
set_option exponentiation.threshold 5000
set_option maxRecDepth 100000
set_option maxHeartbeats 4000000
namespace Sp
open PySem PySem.Spec PyProof.Rows L2
open PySem.W (Frag)
/-! ### what the program's defs do -/
def Dt.isI (d : Dt) : Bool := decide (d.ty = .int)
def Dt.isR (d : Dt) : Bool := decide (d.ty = .own .Ratio) || decide (d.ty = .int)
def Dt.is (c : Cn) (d : Dt) : Bool := decide (d.ty = .own c)
abbrev part (x : Str) : List (Str × Dt) := [("part", .str x)]
inductive RIsInt : List Dt → Out → Prop
  | mk {d : Dt} : RIsInt [d] (.ok (.bl d.isI))
inductive RIsRat : List Dt → Out → Prop
  | mk {d : Dt} : RIsRat [d] (.ok (.bl d.isR))
inductive RSign : List Dt → Out → Prop
  | mk {n : Int} : RSign [.int n] (.ok (.int n.sign))
inductive RInitR : List Dt → Out → Prop
  | one {t : Int} : RInitR [.int t, .int 1] (.ok (.rat (t : Rat)))
  | ok {t b : Int} (h : b ≠ 0) : RInitR [.int t, .int b] (.ok (.rat (Rat.divInt t b)))
  | z {t : Int} : RInitR [.int t, .int 0] (.err "BadRatio" (part "bottom"))
  | t {d e : Dt} (h : d.isI = false) : RInitR [d, e] (.err "BadRatio" (part "top"))
  | b {t : Int} {e : Dt} (h : e.isI = false) : RInitR [.int t, e] (.err "BadRatio" (part "bottom"))
/-- a number as a ratio, or the error -/
inductive ROf (x y : Str) : List Dt → Out → Prop
  | r {q : Rat} : ROf x y [.rat q] (.ok (.rat q))
  | i {i : Int} : ROf x y [.int i] (.ok (.rat (i : Rat)))
  | n {d : Dt} (h : d.isR = false) : ROf x y [d] (.err x (part y))
inductive RBinR (fn : Rat → Rat → Rat) : List Dt → Out → Prop
  | r {p q : Rat} : RBinR fn [.rat p, .rat q] (.ok (.rat (fn p q)))
  | i {p : Rat} {i : Int} : RBinR fn [.rat p, .int i] (.ok (.rat (fn p (i : Rat))))
  | n {p : Rat} {d : Dt} (h : d.isR = false) : RBinR fn [.rat p, d] (.err "BadRatio" (part "other"))
inductive ROver : List Dt → Out → Prop
  | r {p q : Rat} (h : q ≠ 0) : ROver [.rat p, .rat q] (.ok (.rat (p / q)))
  | i {p : Rat} {i : Int} (h : i ≠ 0) : ROver [.rat p, .int i] (.ok (.rat (p / (i : Rat))))
  | z {p : Rat} : ROver [.rat p, .rat 0] (.err "BadRatio" (part "zero"))
  | zi {p : Rat} : ROver [.rat p, .int 0] (.err "BadRatio" (part "zero"))
  | n {p : Rat} {d : Dt} (h : d.isR = false) : ROver [.rat p, d] (.err "BadRatio" (part "other"))
def cmpR (p q : Rat) : Int := (p.num * q.den - q.num * p.den).sign
inductive RCmp : List Dt → Out → Prop
  | r {p q : Rat} : RCmp [.rat p, .rat q] (.ok (.int (cmpR p q)))
  | i {p : Rat} {i : Int} : RCmp [.rat p, .int i] (.ok (.int (cmpR p (i : Rat))))
  | n {p : Rat} {d : Dt} (h : d.isR = false) : RCmp [.rat p, d] (.err "BadRatio" (part "other"))
inductive RBelow : List Dt → Out → Prop
  | r {p q : Rat} : RBelow [.rat p, .rat q] (.ok (.bl (decide (p < q))))
  | i {p : Rat} {i : Int} : RBelow [.rat p, .int i] (.ok (.bl (decide (p < (i : Rat)))))
  | n {p : Rat} {d : Dt} (h : d.isR = false) : RBelow [.rat p, d] (.err "BadRatio" (part "other"))
inductive RUnR (fn : Rat → Rat) : List Dt → Out → Prop
  | mk {p : Rat} : RUnR fn [.rat p] (.ok (.rat (fn p)))
inductive REqR : List Dt → Out → Prop
  | r {p q : Rat} : REqR [.rat p, .rat q] (.ok (.bl (decide (p = q))))
  | i {p : Rat} {i : Int} : REqR [.rat p, .int i] (.ok (.bl (decide (p = (i : Rat)))))
  | n {p : Rat} {d : Dt} (h : d.isR = false) : REqR [.rat p, d] (.ok (.bl false))
inductive RPropR (fn : Rat → Dt) : List Dt → Out → Prop
  | mk {p : Rat} : RPropR fn [.rat p] (.ok (fn p))
/-! steps -/
inductive RInitS : List Dt → Out → Prop
  | ok {k j : Int} (h : ¬ (k = 0 ∧ j = 0)) : RInitS [.int k, .int j] (.ok (.step k j))
  | z : RInitS [.int 0, .int 0] (.err "BadStep" (part "step"))
  | s {d e : Dt} (h : d.isI = false) : RInitS [d, e] (.err "BadStep" (part "studs"))
  | r {k : Int} {e : Dt} (h : e.isI = false) : RInitS [.int k, e] (.err "BadStep" (part "rounds"))
/-- an instance of the class is due -/
inductive RNeed (c : Cn) (x : Str) : List Dt → Out → Prop
  | ok {d p : Dt} (h : d.is c = true) : RNeed c x [d, p] (.ok .non)
  | no {d p : Dt} (h : d.is c = false) : RNeed c x [d, p] (.err x [("part", p)])
inductive RNeedK : List Dt → Out → Prop
  | ok {k j : Int} {p : Dt} (h : k ≠ 0) : RNeedK [.step k j, p] (.ok .non)
  | z {j : Int} {p : Dt} : RNeedK [.step 0 j, p] (.err "Round" [("part", p)])
def crs (k j l i : Int) : Int := k * i - l * j
inductive RCross : List Dt → Out → Prop
  | ok {k j l i : Int} : RCross [.step k j, .step l i] (.ok (.int (crs k j l i)))
  | one {d e : Dt} (h : d.is .Step = false) : RCross [d, e] (.err "BadStep" (part "one"))
  | oth {k j : Int} {e : Dt} (h : e.is .Step = false) : RCross [.step k j, e] (.err "BadStep" (part "other"))
inductive RAreN : List Dt → Out → Prop
  | ok {k j l i : Int} : RAreN [.step k j, .step l i] (.ok (.bl (decide ((crs k j l i).natAbs = 1))))
  | one {d e : Dt} (h : d.is .Step = false) : RAreN [d, e] (.err "BadStep" (part "one"))
  | oth {k j : Int} {e : Dt} (h : e.is .Step = false) : RAreN [.step k j, e] (.err "BadStep" (part "other"))
inductive RNeedN : List Dt → Out → Prop
  | ok {k j l i : Int} (h : (crs k j l i).natAbs = 1) : RNeedN [.step k j, .step l i] (.ok .non)
  | no {k j l i : Int} (h : (crs k j l i).natAbs ≠ 1) : RNeedN [.step k j, .step l i] (.err "NotNeighbours" [("other", .step l i), ("one", .step k j)])
  | one {d e : Dt} (h : d.is .Step = false) : RNeedN [d, e] (.err "BadStep" (part "one"))
  | oth {k j : Int} {e : Dt} (h : e.is .Step = false) : RNeedN [.step k j, e] (.err "BadStep" (part "other"))
inductive RBetween : List Dt → Out → Prop
  | ok {k j l i : Int} (h : (crs k j l i).natAbs = 1) : RBetween [.step k j, .step l i] (.ok (.step (k + l) (j + i)))
  | no {k j l i : Int} (h : (crs k j l i).natAbs ≠ 1) : RBetween [.step k j, .step l i] (.err "NotNeighbours" [("other", .step l i), ("one", .step k j)])
  | one {d e : Dt} (h : d.is .Step = false) : RBetween [d, e] (.err "BadStep" (part "one"))
  | oth {k j : Int} {e : Dt} (h : e.is .Step = false) : RBetween [.step k j, e] (.err "BadStep" (part "other"))
inductive RSummed : List Dt → Out → Prop
  | ok {k j : Int} (h : ¬ (k = 0 ∧ j = 0)) : RSummed [.int k, .int j] (.ok (.step k j))
  | z {k j : Int} (h : k = 0 ∧ j = 0) : RSummed [.int k, .int j] (.err "BadStep" (part "sum"))
inductive RBinS (fn : Int → Int → Int) : List Dt → Out → Prop
  | ok {k j l i : Int} (h : ¬ (fn k l = 0 ∧ fn j i = 0)) : RBinS fn [.step k j, .step l i] (.ok (.step (fn k l) (fn j i)))
  | z {k j l i : Int} (h : fn k l = 0 ∧ fn j i = 0) : RBinS fn [.step k j, .step l i] (.err "BadStep" (part "sum"))
  | n {k j : Int} {d : Dt} (h : d.is .Step = false) : RBinS fn [.step k j, d] (.err "BadStep" (part "other"))
inductive RMulS : List Dt → Out → Prop
  | ok {k j m : Int} (h : m ≠ 0) (h2 : ¬ (k = 0 ∧ j = 0)) : RMulS [.step k j, .int m] (.ok (.step (k * m) (j * m)))
  | z {k j : Int} : RMulS [.step k j, .int 0] (.err "BadNumber" (part "times"))
  | n {k j : Int} {d : Dt} (h : d.isI = false) : RMulS [.step k j, d] (.err "BadNumber" (part "times"))
inductive RNegS : List Dt → Out → Prop
  | mk {k j : Int} (h : ¬ (k = 0 ∧ j = 0)) : RNegS [.step k j] (.ok (.step (-k) (-j)))
inductive REqS : List Dt → Out → Prop
  | s {k j l i : Int} : REqS [.step k j, .step l i] (.ok (.bl (decide (k = l) && decide (j = i))))
  | n {k j : Int} {d : Dt} (h : d.is .Step = false) : REqS [.step k j, d] (.ok (.bl false))
def upS (k j : Int) : Bool := decide (0 < k) || (decide (k = 0) && decide (0 < j))
inductive RIsUp : List Dt → Out → Prop
  | mk {k j : Int} : RIsUp [.step k j] (.ok (.bl (upS k j)))
inductive RUpw : List Dt → Out → Prop
  | mk {k j : Int} (h : ¬ (k = 0 ∧ j = 0)) : RUpw [.step k j] (.ok (if upS k j then .step k j else .step (-k) (-j)))
inductive ROneR : List Dt → Out → Prop
  | mk : ROneR [] (.ok (.step 0 1))
inductive RCorner : List Dt → Out → Prop
  | ok {k j : Int} (h : k ≠ 0) : RCorner [.step k j] (.ok (.rat (Rat.divInt j k)))
  | z {j : Int} : RCorner [.step 0 j] (.err "Round" (part "step"))
/-! the mate -/
structure spInv (K : Frag) (vs : List V) (H : Hp) (Q : VK) (z_3 : XK) : Prop where
  un : ∃ (n m : Int), vs = [.int n, .int m] ∧ 1 ≤ m ∧ m.natAbs < 2 ^ 1900 ∧ Nat.gcd n.natAbs m.natAbs = 1 ∧ ∀ s H', Same H H' → 0 ≤ s → s < m → (∃ k, n * s - 1 = k * m) → Q (.int s) H'
structure Mt (k j a b : Int) : Prop where
  cr : a * j - k * b = 1
  z : k = 0 → b = 0
  lo : k ≠ 0 → -((k.natAbs : Nat) : Int) < 2 * a
  hi : k ≠ 0 → 2 * a ≤ (k.natAbs : Nat)
structure spMate (K : Frag) (cs : List Cn) (ts : List Ty0) (vs : List V) (H : Hp) (Q : VK) (E : XK) : Prop where
  un : ∃ v d, vs = [v] ∧ IsV K H v d ∧ okT cs ts d = true ∧
  ((∃ k j, d = .step k j ∧ ¬ (k = 0 ∧ j = 0) ∧ k.natAbs < 2 ^ 900 ∧ j.natAbs < 2 ^ 900 ∧ (1 < Nat.gcd k.natAbs j.natAbs → AftE K H "Common" [("divisor", .int ((Nat.gcd k.natAbs j.natAbs : Nat) : Int))] E) ∧
      (Nat.gcd k.natAbs j.natAbs = 1 → ∀ a b, Mt k j a b → AftD K H (.step a b) Q)) ∨
   (d.is .Step = false ∧ SzD 100000 d ∧ AftE K H "BadStep" (part "step") E))
theorem mateI {K : Frag} {cs : List Cn} {ts : List Ty0} {vs : List V} {H : Hp} {Q : VK} {E : XK} (h : spMate K cs ts vs H Q E) : ∃ v d, vs = [v] ∧ IsV K H v d ∧ okT cs ts d = true ∧
  ((∃ k j, d = .step k j ∧ ¬ (k = 0 ∧ j = 0) ∧ k.natAbs < 2 ^ 900 ∧ j.natAbs < 2 ^ 900 ∧ (1 < Nat.gcd k.natAbs j.natAbs → AftE K H "Common" [("divisor", .int ((Nat.gcd k.natAbs j.natAbs : Nat) : Int))] E) ∧
      (Nat.gcd k.natAbs j.natAbs = 1 → ∀ a b, Mt k j a b → AftD K H (.step a b) Q)) ∨
   (d.is .Step = false ∧ SzD 100000 d ∧ AftE K H "BadStep" (part "step") E)) := h.un
theorem mateO {K : Frag} {cs : List Cn} {ts : List Ty0} {v : V} {d : Dt} {H : Hp} {Q : VK} {E : XK} (i : IsV K H v d) (o : okT cs ts d = true) (h :
  ((∃ k j, d = .step k j ∧ ¬ (k = 0 ∧ j = 0) ∧ k.natAbs < 2 ^ 900 ∧ j.natAbs < 2 ^ 900 ∧ (1 < Nat.gcd k.natAbs j.natAbs → AftE K H "Common" [("divisor", .int ((Nat.gcd k.natAbs j.natAbs : Nat) : Int))] E) ∧
      (Nat.gcd k.natAbs j.natAbs = 1 → ∀ a b, Mt k j a b → AftD K H (.step a b) Q)) ∨
   (d.is .Step = false ∧ SzD 100000 d ∧ AftE K H "BadStep" (part "step") E))) : spMate K cs ts [v] H Q E := ⟨v, d, rfl, i, o, h⟩
/-- from the inverse to the mate -/
theorem mt_of {k j s kk a : Int} (hk : k ≠ 0) (s0 : 0 ≤ s) (s1 : s < ((k.natAbs : Nat) : Int)) (e : j * s - 1 = kk * ((k.natAbs : Nat) : Int)) (ha : a = if 2 * s > ((k.natAbs : Nat) : Int) then s - ((k.natAbs : Nat) : Int) else s) : Mt k j a ((a * j - 1).fdiv k) := by
  obtain ⟨c, ec⟩ : ∃ c, a * j - 1 = c * k := by
    have hs : ((k.natAbs : Nat) : Int) = k ∨ ((k.natAbs : Nat) : Int) = -k := by omega
    rw [ha]
    split
    · rcases hs with h | h
      · exact ⟨kk - j, by rw [h] at e ⊢; grind⟩
      · exact ⟨-kk + j, by rw [h] at e ⊢; grind⟩
    · rcases hs with h | h
      · exact ⟨kk, by rw [h] at e; grind⟩
      · exact ⟨-kk, by rw [h] at e; grind⟩
  have ef : (a * j - 1).fdiv k = c := by
    rw [ec, Int.mul_fdiv_cancel _ hk]
  refine ⟨by rw [ef]; grind, fun z => absurd z hk, fun _ => ?_, fun _ => ?_⟩
  · rw [ha]
    split <;> omega
  · rw [ha]
    split <;> omega
theorem invI {K : Frag} {vs : List V} {H : Hp} {Q : VK} {E : XK} (h : spInv K vs H Q E) : ∃ (n m : Int), vs = [.int n, .int m] ∧ 1 ≤ m ∧ m.natAbs < 2 ^ 1900 ∧ Nat.gcd n.natAbs m.natAbs = 1 ∧ ∀ s H', Same H H' → 0 ≤ s → s < m → (∃ k, n * s - 1 = k * m) → Q (.int s) H' := h.un
theorem invO {K : Frag} {n m : Int} {H : Hp} {Q : VK} {E : XK} (h1 : 1 ≤ m) (h2 : m.natAbs < 2 ^ 1900) (h3 : Nat.gcd n.natAbs m.natAbs = 1) (h : ∀ s H', Same H H' → 0 ≤ s → s < m → (∃ k, n * s - 1 = k * m) → Q (.int s) H') : spInv K [.int n, .int m] H Q E := ⟨n, m, rfl, h1, h2, h3, h⟩
end Sp
end
section
set_option Elab.async false
set_option linter.all false
set_option exponentiation.threshold 5000
set_option maxRecDepth 100000
set_option maxHeartbeats 4000000
namespace Sp
open PySem PySem.Spec PyProof.Rows L2
open PySem.W (Frag)
abbrev FP (K : Frag) (x q : Str) (st : Stmt) (dvs : List V) (f : Addr) (fd : FuncData) : Prop := FunD K x q (defArgs st) (defBody st) (defScope st) dvs [] f fd
/-! ### errors of any fields -/
def spE (C : Addr) (fl : List Str) : Sp := fun vs H Q _ => ∃ a args, vs = .ref a :: args ∧ args.length = fl.length ∧ H a = some (exo a C none) ∧ ∀ dx H', H dx = none → dx ≠ a → (∀ b, H' b = upd (upd H dx (exd dx (fl.zip args).reverse)) a (exo a C (some dx)) b) → Q .non H'
structure GXN (P : Program) (w : World) (K : Frag) (mg : Str → Option Value) (base : Heap) (k : Nat) (x : Str) (fl : List Str) (C : Addr) : Prop where
  T : OexC K C
  hm : mg x = some (.ref C)
  ex : ∃ (fI : Addr) (fd : FuncData) (ps : List Str), PySem.W.findIn K (.ref C) "__init__" = some (some (.ref fI)) ∧ PySem.W.typeIn K (.ref fI) = some (.type "function") ∧ FnOk P w K mg base (L2.CX P w) k fI fd ps (spE C fl) ∧ Binds K fd ps []
structure RaiseD (C : Addr) (fl : List Str) (vs : List V) (H : Hp) (Q : XK) : Prop where
  un : vs.length ≤ 1000 ∧ ∀ a, H a = none → spE C fl (.ref a :: (vs ++ [])) (upd H a (exo a C none)) (fun v H2 => v = .non ∧ ∃ (d : Addr) (fs : List (Str × V)), H2 a = some (exo a C (some d)) ∧ H2 d = some (exd d fs) ∧ H d = none ∧ Q (.ref C) (some d) (upd (del H2 a) d (.xd fs))) (fun _ _ _ => False)
section
variable {X : Cx} {k : Nat} {x : Str} {fl : List Str} {C : Addr} {e : Expr} {es : List Expr} {ta : TA} {p pos : Pos}
theorem pmkD (G : GXN X.prog X.w X.K X.mg X.base k x fl C) (hr : Room (k + 1) X.A) (hg : Gl X x) (ha : PA X (e :: es) ta) (hdb : (x == ("__debug__" : Str)) = false := by decide)
    (he : starEach (e :: es) X.env = (false, eval e X.env) :: starEach es X.env := by rfl) (hpl : (backTo pos (starEach es X.env)).any (·.1) = false := by rfl) : PMk X (.Call (.Name x p) (e :: es) [] pos) (fun σ H Q => ta σ H fun vs H1 => RaiseD C fl vs H1 Q) := by
  obtain ⟨fI, fd, ps, h1, h2, h3, h4⟩ := G.ex
  exact fun pins s σ H Q I z => (pmk_oex G.T h1 h2 h3 hr h4 .nil passL hg G.hm (PA.mono ha) hdb he hpl) pins s σ H Q I ⟨_, z, fun _ _ y => y.un⟩
end
section
variable {K : Frag} {m : Md} {H0 H : Hp} {L : List (V × Dt)} {vs : List V} {ds : List Dt} {x : Str} {fl : List Str} {E : XK}
theorem IsVs.zipF (i : IsVs K H vs ds) : ∀ {fl : List Str} {gs : List (Str × V)} {fs : List (Str × Dt)}, IsFs K H gs fs → IsFs K H ((fl.zip vs).reverse ++ gs) ((fl.zip ds).reverse ++ fs) := by
  intro fl
  induction fl generalizing vs ds with
  | nil => intro gs fs j; exact j
  | cons f fl ih =>
    intro gs fs j
    cases i with
    | nil => exact j
    | cons a b =>
      rw [List.zip_cons_cons, List.zip_cons_cons, List.reverse_cons, List.reverse_cons, List.append_assoc, List.append_assoc]
      exact ih b (.cons a j)
theorem raiseD (h : Env K m H0 H L) (i : IsVs K H vs ds) (hl : ds.length = fl.length) (hs : Nat.ble ds.length 1000 = true) (k : AftE K H x (fl.zip ds).reverse E) : RaiseD (cX K x) fl vs H E := by
  refine ⟨by rw [i.length]; exact Nat.le_of_ble_eq_true hs, fun a na => ⟨a, vs, by rw [List.append_nil], by rw [i.length]; exact hl, upd_same, fun dx H2 nd ne hh => ?_⟩⟩
  have nd' : H dx = none := by rw [upd_ne ne] at nd; exact nd
  have e1 : H2 a = some (exo a (cX K x) (some dx)) := by rw [hh, upd_same]
  have e2 : H2 dx = some (exd dx (fl.zip vs).reverse) := by rw [hh, upd_ne ne, upd_same]
  refine ⟨rfl, dx, _, e1, e2, nd', ?_⟩
  have s : Same H (upd (del H2 a) dx (.xd (fl.zip vs).reverse)) := fun b o hb => by
    have nb : b ≠ a := ne_of_none hb na
    have nb' : b ≠ dx := ne_of_none hb nd'
    rw [upd_ne nb', del_ne nb, hh, upd_ne nb, upd_ne nb', upd_ne nb]
    exact hb
  refine k.un dx _ _ s nd' upd_same ?_
  have := (i.same s).zipF (fl := fl) (gs := []) (fs := []) .nil
  rw [List.append_nil, List.append_nil] at this
  exact this
end
/-! their __init__ -/
section
variable {P : Program} {w : World} {K : Frag} {mg : Str → Option Value} {base : Heap} {f : Addr} {fd : FuncData} {params : Arguments} {scope : Scope} {qual : Str} {p1 p2 : Str} {C : Addr}
theorem ok_e1 {body : List Stmt} (F : FunD K "__init__" qual params body scope [] [] f fd) (S : FnScope ["self", p1] ["self", p1] scope) (T : OexC K C) (hno : PySem.W.findIn K (.ref C) p1 = some none)
    (hb : ∀ cdv A outer s H E, PSs (cxOf (L2.CX P w) P w K mg base ["self", p1] qual scope f cdv A outer s H E) body (tOst K p1 (tVar 0) (tVar 1))) : FnOk P w K mg base (L2.CX P w) 1 f fd ["self", p1] (spE C [p1]) := by
  refine F.ok S (fun vs H Q E h => by obtain ⟨_, args, rfl, h, _⟩ := h; rw [List.length_cons, h] <;> rfl) (fun cdv A outer s H vs Q E hr h => ⟨_, hb cdv A outer s H E, ?_⟩)
  obtain ⟨a, args, rfl, hl, ha, q⟩ := h
  match args, hl with
  | [v], _ =>
    exact ⟨_, rfl, _, rfl, a, C, rfl, T, hno, .inl ⟨ha, fun dx n ne => q dx _ n ne fun b => rfl⟩⟩
theorem ok_e2 {body : List Stmt} (F : FunD K "__init__" qual params body scope [] [] f fd) (S : FnScope ["self", p1, p2] ["self", p1, p2] scope) (T : OexC K C) (hno : PySem.W.findIn K (.ref C) p1 = some none) (hno2 : PySem.W.findIn K (.ref C) p2 = some none)
    (hb : ∀ cdv A outer s H E, PSs (cxOf (L2.CX P w) P w K mg base ["self", p1, p2] qual scope f cdv A outer s H E) body (tSeq (tOst K p1 (tVar 0) (tVar 1)) (tOst K p2 (tVar 0) (tVar 2)))) : FnOk P w K mg base (L2.CX P w) 1 f fd ["self", p1, p2] (spE C [p1, p2]) := by
  refine F.ok S (fun vs H Q E h => by obtain ⟨_, args, rfl, h, _⟩ := h; rw [List.length_cons, h] <;> rfl) (fun cdv A outer s H vs Q E hr h => ⟨_, hb cdv A outer s H E, ?_⟩)
  obtain ⟨a, args, rfl, hl, ha, q⟩ := h
  match args, hl with
  | [v, u], _ =>
    refine ⟨_, rfl, _, rfl, a, C, rfl, T, hno, .inl ⟨ha, fun dx n ne => ?_⟩⟩
    refine ⟨_, rfl, _, rfl, a, C, rfl, T, hno2, .inr ⟨dx, [(p1, v)], upd_same, by rw [upd_ne ne, upd_same], by simp, ?_⟩⟩
    refine q dx _ n ne fun b => ?_
    by_cases hb : b = dx
    · subst hb
      rw [upd_same, upd_ne ne, upd_same]
      rfl
    · rw [upd_ne hb]
      by_cases hb' : b = a
      · subst hb'
        rw [upd_same, upd_same]
      · rw [upd_ne hb', upd_ne hb', upd_ne hb, upd_ne hb]
end
/-! ### self.f = e in an __init__ -/
structure SetD (K : Frag) (f : Str) (x y : V) (H : Hp) (P : Hp → Prop) : Prop where
  un : ∃ a C dx fs, x = .ref a ∧ H a = some (.ins C dx fs) ∧ Cls K C ∧ NoAttr K C f ∧ fs.length < 1000 ∧ P (upd H a (.ins C dx (putF f y fs)))
def sFldD (K : Frag) (ta tv : TE) (f : Str) : TS := fun D σ H => tv σ H fun y H1 => ta σ H1 fun x H2 => SetD K f x y H2 (D.nx σ)
theorem ps_fldD {X : Cx} {o value : Expr} {f : Str} {pos pos' : Pos} {ta tv : TE} (ha : PE X o ta) (hv : PE X value tv) (hs : swapsWith value (some (.Attribute o f pos')) pos.line X.env = pure false) : PS X (.Assign [.Attribute o f pos'] value pos) (sFldD X.K ta tv f) := ⟨fun pins s σ H D I z => (ps_fld (PE.mono ha) (PE.mono hv) hs).run pins s σ H D I ⟨_, z, fun _ _ z1 => ⟨_, z1, fun _ _ z2 => z2.un⟩⟩⟩
theorem setD {K : Frag} {mg : Str → Option Value} {cs : List Cn} {ts : List Ty0} {H0 H : Hp} {L : List (V × Dt)} {a dx : Addr} {c : Cn} {gs gs' : List (Str × V)} {f : Str} {y : V} {P : Hp → Prop} (G : G0 K mg cs ts) (h : Env K (.ini a (ca K c) dx gs) H0 H L)
    (hp : putF f y gs = gs') (hn : noCls (gs.map (·.1)) = true) (hl : Nat.blt gs.length 1000 = true) (hc : c ∈ cs) (hf : f ∈ c.flds) (k : ∀ H', Env K (.ini a (ca K c) dx gs') H0 H' L → P H') : SetD K f (.ref a) y H P := by
  subst hp
  have cf := G.cf c hc
  exact ⟨a, _, dx, gs, rfl, h.at_, cf.cl, cf.no f hf, Nat.le_of_ble_eq_true hl, k _ (h.set hn)⟩
/-! ### further calls -/
section
variable {X : Cx} {CX : CXT} {k : Nat} {C : Addr} {sp : Sp} {E : XK} {o e : Expr} {es : List Expr} {m f x : Str} {apos p pos : Pos} {ta : TE} {t : TA} {pl : Sem Bool} {ps : List Str}
/-- the class is no AttributeError -/
def Na (K : Frag) (c : Value) : Prop := PySem.W.subIn K c (.type "AttributeError") = some false
theorem cx_in {pins : List (Addr × Obj)} {σ : L2.St} {H : Hp} {s s' : Shared} {u : Value} (I : Inv X pins σ H s) (c : L2.CX X.prog X.w X.stack H s E u s') : X.K.In s'.heap ∧ ∃ a oe cls d H', u = .ref a ∧ s'.heap.get? a = some oe ∧ oe.cls = cls ∧ E cls d H' := by
  obtain ⟨a, B, H', cls, d, rfl, ⟨st, _, _, oe, vs, _, _, _, he, hz, _⟩, _, ub, _, _, _, q⟩ := c
  refine ⟨fun b o hb => st b o ?_, a, oe, cls, d, H', rfl, he, hz.1, q⟩
  have hb' := I.ok.mod.kin b o hb
  obtain ⟨h1, h2⟩ := I.bs b o hb'
  refine ub.keep b o h1 h2 fun z => ?_
  rcases List.mem_cons.mp (I.stkSub b z) with e | e
  · have h1 := Heap.lt_size hb'
    have h2 := I.ok.bsz
    have h3 := I.ok.above
    exact absurd (Nat.lt_of_lt_of_le h1 (Nat.le_trans h2 h3)) (by rw [e]; exact Nat.lt_irrefl _)
  · exact I.ok.nofr hb' e
theorem note_none {s : Shared} {A : Around} {a : Addr} {oe : Obj} {o n cls : Value} {Q : Unit → Shared → Prop} {E0 : Value → Shared → Prop} (hK : X.K.In s.heap) (he : s.heap.get? a = some oe) (hc : oe.cls = cls) (na : Na X.K cls) (q : Q () s) : wpAny (model X.prog X.w) A (noteIf true o n (.ref a)) Q E0 s := by
  have LT : PySem.W.Looks (model X.prog X.w) s.heap (typeOf (.ref a)) cls := fun A Q E s k q => wpAny_typeOf_ref (k _ _ he) (by rw [hc]; exact q)
  have LI : PySem.W.Looks (model X.prog X.w) s.heap (isInstance (.ref a) (.type "AttributeError")) false := LT.andThen (PySem.W.looks_subIn hK na)
  show wpAny _ A (noteAttr (.ref a) o n) Q E0 s
  unfold noteAttr
  refine wpAny_bind (m := lacksNameAndObj (.ref a)) ?_
  unfold lacksNameAndObj
  refine wpAny_bind (LI.here ?_)
  exact wpAny_pure (wpAny_pure q)
/-- a property that may raise -/
theorem getpropX {pins : List (Addr × Obj)} {σ : L2.St} {H : Hp} {s : Shared} {Q : VK} {b : Bool} {a dx g : Addr} {fs : List (Str × V)} {fd : FuncData} {p : Addr} (I : Inv X pins σ H s) (ea : H a = some (.ins C dx fs)) (c : Cls X.K C) (hp : PropOf X.K C f p g)
    (F : FnOk X.prog X.w X.K X.mg X.base (L2.CX X.prog X.w) k g fd ps sp) (hr : Room (k + 1) X.A) (hb : Binds X.K fd ps []) (hx : Passes (L2.CX X.prog X.w) X E) (h : sp [.ref a] H Q (fun c d H' => Na X.K c ∧ E c d H')) : wpAny (model X.prog X.w) X.A (getAttr (.ref a) f b) (EP X pins σ Q) X.xe s := by
  obtain ⟨mA, O, _⟩ := ins_get I.hok ea
  obtain ⟨od, J, _⟩ := O.look
  obtain ⟨rest, hrec⟩ := hp.rec_
  obtain ⟨cd, hcd, _⟩ := PySem.W.any_some c.hd
  have hc : (PySem.W.clsIn X.K C).isSome = true := by rw [hcd]; exact rfl
  have I1 := I.tok (s.toks + 1)
  refine PySem.W.get_bind I.kIn J (PySem.W.plainGet_of (c.get f)).1 (PySem.W.findObj_data hc hp.at_ hp.get hp.tak) (PySem.W.plainGet_of (c.get f)).2 (wpAny_call (PySem.W.prop_get (s := { s with toks := s.toks + 1 }) I.kIn hrec ?_))
  have hl : ([Value.ref a] ++ []).length = ps.length := F.len _ _ _ _ h
  refine codeAny_mono (F.run X.A.in1 X.stack _ H ⟨[.ref a], []⟩ [.ref a] [.ref a] Q _ hr.in1 I1.env0.in1 (hb _ [.ref a] I1.kIn hl) (.cons rfl .nil) h) fun r s' hq => ?_
  match r, hq with
  | .error er, hq =>
    obtain ⟨hK, a', oe, cls, d, H', rfl, he, hcl, na, _⟩ := cx_in I1 hq
    refine note_none hK he hcl na ?_
    obtain ⟨x1, x2, x3, x4, x5, y1, y2, y3, y4, y5, y6, y7, y8⟩ := hq
    exact hx pins σ H { s with toks := s.toks + 1 } _ s' I1 ⟨x1, x2, x3, x4, x5, y1, y2, y3, y4, y5, y6, y7, y8.2⟩
  | .ok (.ret u), hq =>
    obtain ⟨v, H', I3, rv, q3⟩ := I1.after hq
    show wpAny _ _ (handedOut u) _ _ _
    rw [PySem.W.handedOut_of (handed_of rv)]
    exact wpAny_pure ⟨v, H', I3, rv, q3⟩
  | .ok .next, hq => exact hq.elim
  | .ok .brk, hq => exact hq.elim
  | .ok .cont, hq => exact hq.elim
theorem pe_propX (he : PE X o ta) (G : GP X.prog X.w X.K X.mg X.base (L2.CX X.prog X.w) k C f sp) (hr : Room (k + 1) X.A) (hx : Passes (L2.CX X.prog X.w) X E) (hab : attributeBase o f X.env (eval o X.env) = eval o X.env) : PE X (.Attribute o f pos) (tPropD C sp (fun c d H' => Na X.K c ∧ E c d H') ta) := by
  obtain ⟨p, g, fd, ps, hp, F, hb⟩ := G.ex
  refine ⟨fun pins s σ H Q I h => attr_of hab (thn (he.run pins s σ H _ I h) fun u s1 hh => ?_)⟩
  obtain ⟨x, H1, I1, rx, a, dx, fs, ex, ea, q⟩ := hh
  subst ex
  cases (show u = Value.ref a from rx)
  exact getpropX I1 ea G.c hp F hr hb hx q
theorem aeNa {K : Frag} {H : Hp} {x : Str} {fs : List (Str × Dt)} {E : XK} (na : Na K (.ref (cX K x))) (h : AftE K H x fs E) : AftE K H x fs (fun c d H' => Na K c ∧ E c d H') := .mk fun dd H' gs s n e i => ⟨na, h.un dd H' gs s n e i⟩
/-- a static method without arguments -/
structure GS0 (P : Program) (w : World) (K : Frag) (mg : Str → Option Value) (base : Heap) (CX : CXT) (k : Nat) (C : Addr) (m : Str) (sp : Sp) : Prop where
  ex : GS P w K mg base CX k C m sp
theorem pe_gs0 (he : PE X o ta) (G : GS0 X.prog X.w X.K X.mg X.base CX k C m sp) (hr : Room k X.A) (hx : Passes CX X E)
    (ht : eval (.Call (.Attribute o m apos) [] [] pos) X.env = (do
      let ov ← eval o X.env
      standAt apos.atName
      let (f, first) ← holding [ov] (getMethod ov m pl)
      callWith pos f first (backTo pos (starEach [] X.env)) (backToKw pos (keywordEach [] X.env))) := by rfl) :
    PE X (.Call (.Attribute o m apos) [] [] pos) (fun σ H Q => ta σ H fun x H1 => x = .ref C ∧ sp [] H1 Q E) := by
  obtain ⟨mc, p, g, fd, ps, c, F, hb⟩ := G.ex.ex
  obtain ⟨rest, hp⟩ := c.rc
  refine ⟨fun pins s σ H Q I h => PySem.W.methodCall_KW (pl := pl) (thn (he.run pins s σ H _ I h) fun u s1 hh => ?_) ht⟩
  obtain ⟨x, H1, I1, rx, ex, q⟩ := hh
  subst ex
  cases (show u = Value.ref C from rx)
  refine PySem.W.method_cls I1.kIn c.ga (PySem.W.cls_bind I1.kIn c.rd c.at_ (wpAny_call (PySem.W.sm_get (s := { s1 with toks := s1.toks + 1 }) I1.kIn hp (PySem.W.handed_on rfl ?_))))
  have I2 := I1.tok (s1.toks + 1)
  exact PySem.W.callWith_K0 (first := []) I2.kIn c.kp (run_fn (dvs := []) (ds := []) F hr hb .nil hx I2 .nil q)
end
/-! ### the sizes of the arguments -/
section
variable {cs : List Cn} {ts : List Ty0} {n : Nat} {l : List Dt} {G : Prop}
theorem zsStart (h : DsOk cs ts n l) (k : DsOk cs ts n l → G) : G := k h
theorem zsNil (k : G) : DsOk cs ts n [] → G := fun _ => k
theorem zsInt {i : Int} (k : Bi i n → DsOk cs ts n l → G) : DsOk cs ts n (.int i :: l) → G := fun h => k ⟨h.1.2.lt⟩ h.2
theorem zsRat {q : Rat} (k : Bq q n → DsOk cs ts n l → G) : DsOk cs ts n (.rat q :: l) → G := fun h => k ⟨h.1.2.sz⟩ h.2
theorem zsStep {a b : Int} (k : Bi a n → Bi b n → DsOk cs ts n l → G) : DsOk cs ts n (.step a b :: l) → G := fun h => k ⟨h.1.2.1.1⟩ ⟨h.1.2.2.1⟩ h.2
theorem zsStem {D F : Rat} (k : Bq D n → Bq F n → DsOk cs ts n l → G) : DsOk cs ts n (.stem D F :: l) → G := fun h => k ⟨h.1.2.1.1⟩ ⟨h.1.2.2.1⟩ h.2
theorem zsTable {a b c d : Int} (k : Bi a n → Bi b n → Bi c n → Bi d n → DsOk cs ts n l → G) : DsOk cs ts n (.table a b c d :: l) → G := fun h => k ⟨h.1.2.1.1.1⟩ ⟨h.1.2.1.2.1⟩ ⟨h.1.2.2.1.1⟩ ⟨h.1.2.2.2.1⟩ h.2
theorem zsAny {d : Dt} (k : okT cs ts d = true → SzD n d → DsOk cs ts n l → G) : DsOk cs ts n (d :: l) → G := fun h => k h.1.1 h.1.2 h.2
end
theorem isI_eq (d : Dt) : (sub0 d.ty .int && !sub0 d.ty .bool) = d.isI := by
  unfold Dt.isI
  cases d.ty <;> rfl
theorem isR_eq (d : Dt) : (sub0 d.ty (.own .Ratio) || d.isI) = d.isR := by
  unfold Dt.isR Dt.isI
  cases d.ty <;> (first | rfl | (rename_i c; cases c <;> rfl))
theorem is_eq (c : Cn) (d : Dt) : sub0 d.ty (.own c) = d.is c := by
  unfold Dt.is
  cases d.ty <;> rfl
theorem finB {K : Frag} {H0 H : Hp} {L : List (V × Dt)} {b b' : Bool} {Q : VK} {E : XK} (q : Aft K H0 (.ok (.bl b)) Q E) (h : Env K .fn H0 H L) (e : b' = b) : Q (.bl b') H := q.un _ H h.gr (e ▸ .bl _)
theorem finN {K : Frag} {H0 H : Hp} {L : List (V × Dt)} {b b' : Int} {Q : VK} {E : XK} (q : Aft K H0 (.ok (.int b)) Q E) (h : Env K .fn H0 H L) (e : b' = b) : Q (.int b') H := q.un _ H h.gr (e ▸ .int _)
theorem and_false_of {a b : Bool} (h : a = false) : (a && b) = false := by rw [h]; rfl
theorem absOne (x : Int) : decide (V.int (if x < 0 then -x else x) = V.int 1) = decide (x.natAbs = 1) := decide_eq_decide.mpr (by rw [V.int.injEq]; split <;> omega)
theorem vEq (a b : Int) : decide (V.int a = V.int b) = decide (a = b) := decide_eq_decide.mpr (by rw [V.int.injEq])
theorem crs_nz {k j l i : Int} (h : (crs k j l i).natAbs = 1) : ¬ (k + l = 0 ∧ j + i = 0) := fun ⟨a, b⟩ => by
  have e1 : l = -k := by omega
  have e2 : i = -j := by omega
  subst e1 e2
  unfold crs at h
  rw [show k * -j - -k * j = 0 by grind] at h
  cases h
end Sp
end
section
set_option Elab.async false
set_option linter.all false
set_option exponentiation.threshold 5000
set_option maxRecDepth 100000
set_option maxHeartbeats 4000000
namespace Sp
open PySem PySem.Spec PyProof.Rows L2 TL
open PySem.W (Frag)
/-! ### numbers as texts -/
def dS (i : Int) : Str := Str.ofString (toString i)
theorem tl_dS (i : Int) : tl (dS i) = if i < 0 then 45 :: numL i.natAbs else numL i.natAbs := by
  unfold dS
  by_cases h : i < 0
  · rw [if_pos h, tl_ofString, toString_neg h, String.toList_append, List.map_append, show (0 - i) = ((i.natAbs : Nat) : Int) by omega, ← tl_num, tl_ofString]
    rfl
  · rw [if_neg h, ← tl_num, show ((i.natAbs : Nat) : Int) = i by omega]
def digs : List Nat → List Nat
  | 45 :: r => r
  | l => l
def isDig (c : Nat) : Bool := decide (48 ≤ c) && decide (c ≤ 57)
def okD (l : List Nat) : Bool := decide (1 ≤ (digs l).length) && (decide ((digs l).length ≤ 60) && (digs l).all isDig)
def intW (w : Str) : Option Int := if okD (tl w) = true then (match intText? w with | some n => if dS n = w then some n else none | none => none) else none
theorem allDig {l : List Nat} (h : l.all isDig = true) : NumText.AllDigits l := fun c hc => by
  have := List.all_eq_true.mp h c hc
  have := Bool.and_eq_true_iff.mp this
  exact ⟨of_decide_eq_true this.1, of_decide_eq_true this.2⟩
theorem digAll {l : List Nat} (h : NumText.AllDigits l) : l.all isDig = true := List.all_eq_true.mpr fun c hc => Bool.and_eq_true_iff.mpr ⟨decide_eq_true (h c hc).1, decide_eq_true (h c hc).2⟩
theorem digs_of (l : List Nat) : (∃ r, l = 45 :: r ∧ digs l = r) ∨ ((∀ r, l ≠ 45 :: r) ∧ digs l = l) := by
  unfold digs
  split
  · exact .inl ⟨_, rfl, rfl⟩
  · rename_i h
    exact .inr ⟨fun r e => h r e, rfl⟩
theorem intText_ok {w : Str} (h : okD (tl w) = true) : ∃ n, intText? w = some n := by
  unfold okD at h
  obtain ⟨h1, h⟩ := Bool.and_eq_true_iff.mp h
  obtain ⟨h2, h3⟩ := Bool.and_eq_true_iff.mp h
  have h1 := of_decide_eq_true h1
  have h2 := of_decide_eq_true h2
  have h3 := allDig h3
  rcases digs_of (tl w) with ⟨r, e, er⟩ | ⟨_, er⟩
  · rw [er] at h1 h2 h3
    refine ⟨_, intText_neg (cs := r) e h3 (fun z => by rw [z] at h1; cases h1) ?_⟩
    rw [len_tl, e, List.length_cons]
    omega
  · rw [er] at h1 h2 h3
    refine ⟨_, intText_digits h3 (fun z => ?_) ?_⟩
    · have : tl w = [] := z
      rw [this] at h1
      cases h1
    · rw [len_tl]
      omega
theorem digs_num (n : Nat) : digs (numL n) = numL n := by
  rcases digs_of (numL n) with ⟨r, e, _⟩ | ⟨_, er⟩
  · have := numL_digits n 45 (by rw [e]; exact List.mem_cons_self)
    omega
  · exact er
theorem digs_dS (i : Int) : digs (tl (dS i)) = numL i.natAbs := by
  rw [tl_dS]
  split
  · rfl
  · exact digs_num _
theorem len_num {i : Int} (h : i.natAbs < 10 ^ 60) : 1 ≤ (numL i.natAbs).length ∧ (numL i.natAbs).length ≤ 60 := by
  refine ⟨?_, numL_len (by decide) h⟩
  cases e : numL i.natAbs with
  | nil => exact absurd e (numL_ne _)
  | cons a l => simp
theorem okD_dS {i : Int} (h : i.natAbs < 10 ^ 60) : okD (tl (dS i)) = true := by
  unfold okD
  rw [digs_dS]
  obtain ⟨a, b⟩ := len_num h
  rw [decide_eq_true a, decide_eq_true b, digAll (numL_digits _)]
  rfl
theorem intText_dS {i : Int} (h : i.natAbs < 10 ^ 60) : intText? (dS i) = some i := by
  obtain ⟨a, b⟩ := len_num h
  have e := tl_dS i
  by_cases hi : i < 0
  · rw [if_pos hi] at e
    rw [intText_neg (cs := numL i.natAbs) e (numL_digits _) (numL_ne _) (by rw [len_tl, e, List.length_cons]; omega), numL_val]
    congr 1
    omega
  · rw [if_neg hi] at e
    rw [intText_digits (x := dS i) (by rw [show (dS i).cps.toList = numL i.natAbs from e]; exact numL_digits _) (by rw [show (dS i).cps.toList = numL i.natAbs from e]; exact numL_ne _) (by rw [len_tl, e]; omega),
      show (dS i).cps.toList = numL i.natAbs from e, numL_val]
    congr 1
    omega
theorem intW_dS {i : Int} (h : i.natAbs < 10 ^ 60) : intW (dS i) = some i := by
  unfold intW
  rw [if_pos (okD_dS h), intText_dS h]
  exact if_pos rfl
theorem intW_some {w : Str} {i : Int} (h : intW w = some i) : w = dS i ∧ i.natAbs < 10 ^ 60 := by
  unfold intW at h
  split at h
  · rename_i hk
    split at h
    · rename_i n hn
      split at h
      · rename_i e
        cases h
        refine ⟨e.symm, ?_⟩
        rw [← e] at hk
        unfold okD at hk
        rw [digs_dS] at hk
        have h2 := of_decide_eq_true (Bool.and_eq_true_iff.mp (Bool.and_eq_true_iff.mp hk).2).1
        have hv := numL_val i.natAbs
        have : ∀ (l : List Nat) (a k : Nat), NumText.AllDigits l → a < 10 ^ k → l.foldl (fun acc c => acc * 10 + (c - 48)) a < 10 ^ (k + l.length) := by
          intro l
          induction l with
          | nil => intro a k _ h; exact h
          | cons c l ih =>
            intro a k hd h
            have hc := hd c List.mem_cons_self
            have := ih (a * 10 + (c - 48)) (k + 1) (fun d hd' => hd d (List.mem_cons_of_mem _ hd')) (by rw [Nat.pow_succ]; omega)
            rw [List.length_cons, show k + (l.length + 1) = k + 1 + l.length by omega]
            exact this
        have := this (numL i.natAbs) 0 0 (numL_digits _) (by decide)
        unfold NumText.digitsVal at hv
        rw [hv, Nat.zero_add] at this
        exact Nat.lt_of_lt_of_le this (Nat.pow_le_pow_right (by decide) h2)
      · cases h
    · cases h
  · cases h
theorem dS_free {i : Int} {s : Nat} (h : (s < 48 ∨ 57 < s)) (h2 : s ≠ 45) : s ∉ tl (dS i) := by
  rw [tl_dS]
  split
  · intro m
    rcases List.mem_cons.mp m with e | m
    · exact h2 e
    · exact numL_free h m
  · exact numL_free h
theorem len_dS {i : Int} (h : i.natAbs < 10 ^ 60) : (dS i).length ≤ 61 := by
  obtain ⟨a, b⟩ := len_num h
  rw [len_tl, tl_dS]
  split
  · rw [List.length_cons]
    omega
  · omega
theorem tl_rp (w : Str) : tl (Txt.removeprefix w "-") = digs (tl w) := by
  unfold Txt.removeprefix
  rw [PySem.StrLaws.subAt_eq]
  have hl : w.length = (tl w).length := len_tl w
  rcases digs_of (tl w) with ⟨r, e, er⟩ | ⟨hn, er⟩
  · rw [er]
    have e' : w.cps.toList = 45 :: r := e
    rw [e', List.drop_zero, if_pos (show ((45 :: r).take ("-" : Str).length == ("-" : Str).cps.toList) = true from rfl)]
    show tl (if (w.length - 1 == w.length) = true then w else PySem.Builtin.Str.strSub w 1 w.length) = r
    rw [if_neg (by rw [hl, e, List.length_cons]; simp)]
    show (w.cps.extract 1 w.length).toList = r
    rw [Array.toList_extract, e', List.extract_eq_drop_take, hl, e]
    simp
  · rw [er]
    have : ((w.cps.toList.drop 0).take ("-" : Str).length == ("-" : Str).cps.toList) = false := by
      rw [List.drop_zero]
      show (List.take 1 (tl w) == [45]) = false
      cases hw : tl w with
      | nil => rfl
      | cons c r =>
        rw [List.take_succ_cons, List.take_zero]
        have : c ≠ 45 := fun z => hn r (by rw [hw, z])
        simp [this]
    rw [this]
    rfl
/-! ### what reads texts -/
abbrev errT (k : Int) : Out := .err "BadText" [("word", .int k), ("line", .int 0)]
inductive RIntOf : List Dt → Out → Prop
  | some {w : Str} {n : Int} (h : intW w = some n) (l : w.length ≤ 100000) : RIntOf [.str w] (.ok (.int n))
  | none {w : Str} (h : intW w = none) (l : w.length ≤ 100000) : RIntOf [.str w] (.ok .non)
/-- the words of a text -/
def WA (K : Frag) (H : Hp) (p l : Addr) (ws : List Str) (k : Nat) : Prop := ∃ dx, H p = some (.ins (ca K .Words) dx [("words", .ref l), ("done", .int k), ("last", .int (ws.length : Nat))]) ∧ H l = some (.lst (ws.map V.str)) ∧ ws.length ≤ 100000 ∧ ∀ w ∈ ws, w.length ≤ 100000
/-- all but the object at p stays -/
def Wr (p : Addr) (H H' : Hp) : Prop := ∀ b o, b ≠ p → H b = some o → H' b = some o
theorem Wr.trans {p : Addr} {H H1 H2 : Hp} (x : Wr p H H1) (y : Wr p H1 H2) : Wr p H H2 := fun b o n e => y b o n (x b o n e)
theorem Same.wr {p : Addr} {H H' : Hp} (x : Same H H') : Wr p H H' := fun b o _ e => x b o e
theorem WA.same {K : Frag} {H H' : Hp} {p l : Addr} {ws : List Str} {k : Nat} (h : WA K H p l ws k) (s : Same H H') : WA K H' p l ws k := let ⟨dx, a, b, c⟩ := h; ⟨dx, s _ _ a, s _ _ b, c⟩
def AftW (K : Frag) (H : Hp) (p l : Addr) (ws : List Str) (o : Out) (k' : Nat) (Q : VK) (E : XK) : Prop := match o with
  | .ok d => ∀ v H', Wr p H H' → WA K H' p l ws k' → IsV K H' v d → Q v H'
  | .err x fs => ∀ (dd : Addr) (H' : Hp) (gs : List (Str × V)), Wr p H H' → H dd = none → H' dd = some (.xd gs) → IsFs K H' gs fs → E (.ref (cX K x)) (some dd) H'
/-- a def that takes of the words -/
structure spW (K : Frag) (R : List Str → Nat → Out → Nat → Prop) (vs : List V) (H : Hp) (Q : VK) (E : XK) : Prop where
  un : ∃ p l ws k o k', vs = [.ref p] ∧ WA K H p l ws k ∧ R ws k o k' ∧ AftW K H p l ws o k' Q E
/-- .. that looks alone -/
structure spWp (K : Frag) (R : List Str → Nat → Out → Prop) (vs : List V) (H : Hp) (Q : VK) (E : XK) : Prop where
  un : ∃ p l ws k o, vs = [.ref p] ∧ WA K H p l ws k ∧ R ws k o ∧ Aft K H o Q E
inductive RIsOver : List Str → Nat → Out → Prop
  | mk {ws : List Str} {k : Nat} : RIsOver ws k (.ok (.bl (decide (k = ws.length))))
inductive RTake : List Str → Nat → Out → Nat → Prop
  | ok {ws : List Str} {k : Nat} {w : Str} (h : ws[k]? = some w) : RTake ws k (.ok (.str w)) (k + 1)
  | over {ws : List Str} : RTake ws ws.length (errT (ws.length : Nat)) ws.length
inductive RRefuse : List Str → Nat → Out → Nat → Prop
  | mk {ws : List Str} {k : Nat} : RRefuse ws (k + 1) (errT (k : Nat)) (k + 1)
def rdI (ws : List Str) (k : Nat) : Option Int := match ws[k]? with
  | some w => intW w
  | none => none
inductive RInteg : List Str → Nat → Out → Nat → Prop
  | ok {ws : List Str} {k : Nat} {n : Int} (h : rdI ws k = some n) : RInteg ws k (.ok (.int n)) (k + 1)
  | no {ws : List Str} {k : Nat} (l : k ≤ ws.length) (h : rdI ws k = none) : RInteg ws k (errT (k : Nat)) k
inductive REndW : List Str → Nat → Out → Prop
  | ok {ws : List Str} : REndW ws ws.length (.ok .non)
  | no {ws : List Str} {k : Nat} (h : k ≠ ws.length) : REndW ws k (errT (k : Nat))
inductive RTakeS : List Str → Nat → Out → Nat → Prop
  | ok {ws : List Str} {k : Nat} {a b : Int} (h : rdI ws k = some a) (h2 : rdI ws (k + 1) = some b) (nz : ¬ (a = 0 ∧ b = 0)) : RTakeS ws k (.ok (.step a b)) (k + 2)
  | e1 {ws : List Str} {k : Nat} (l : k ≤ ws.length) (h : rdI ws k = none) : RTakeS ws k (errT (k : Nat)) k
  | e2 {ws : List Str} {k : Nat} {a : Int} (h : rdI ws k = some a) (h2 : rdI ws (k + 1) = none) : RTakeS ws k (errT ((k + 1 : Nat) : Int)) k
  | z {ws : List Str} {k : Nat} (h : rdI ws k = some 0) (h2 : rdI ws (k + 1) = some 0) : RTakeS ws k (errT ((k + 1 : Nat) : Int)) k
theorem rdI_lt {ws : List Str} {k : Nat} {n : Int} (h : rdI ws k = some n) : k < ws.length := by
  unfold rdI at h
  by_cases z : k < ws.length
  · exact z
  · rw [List.getElem?_eq_none (by omega)] at h
    cases h
/-! their __init__, the text's words, the reading of a whole text -/
def spInitW (K : Frag) : Sp := fun vs H Q _ => ∃ (a dx : Addr) (x y z : V), vs = [.ref a, x, y, z] ∧ H a = some (.ins (ca K .Words) dx []) ∧ ∀ H', Wr a H H' → H' a = some (.ins (ca K .Words) dx [("words", x), ("done", y), ("last", z)]) → Q .non H'
def wsOf (x : Str) : List Str := Txt.split x " "
/-- a text that may be read -/
structure TOk (x : Str) : Prop where
  l : x.length ≤ 100000
  n : (wsOf x).length ≤ 100000
  w : ∀ w ∈ wsOf x, w.length ≤ 100000
structure spWords (K : Frag) (cs : List Cn) (ts : List Ty0) (vs : List V) (H : Hp) (Q : VK) (E : XK) : Prop where
  un : ∃ v d, vs = [v] ∧ IsV K H v d ∧ okT cs ts d = true ∧
  ((∃ x, d = .str x ∧ TOk x ∧ ∀ p l H', Same H H' → H p = none → WA K H' p l (wsOf x) 0 → Q (.ref p) H') ∨ (decide (d.ty = .str) = false ∧ AftE K H "BadText" [("word", .int 0), ("line", .int 0)] E))
/-- what a whole text says, by a taker -/
inductive RReadBy (R : List Str → Nat → Out → Nat → Prop) : List Dt → Out → Prop
  | ok {x : Str} {d : Dt} (t : TOk x) (r : R (wsOf x) 0 (.ok d) (wsOf x).length) : RReadBy R [.str x] (.ok d)
  | err {x y : Str} {fs : List (Str × Dt)} {k : Nat} (t : TOk x) (r : R (wsOf x) 0 (.err y fs) k) : RReadBy R [.str x] (.err y fs)
  | more {x : Str} {d : Dt} {k : Nat} (t : TOk x) (r : R (wsOf x) 0 (.ok d) k) (h : k ≠ (wsOf x).length) : RReadBy R [.str x] (errT (k : Nat))
  | no {d : Dt} (h : decide (d.ty = .str) = false) : RReadBy R [d] (errT 0)
structure spReadW (K : Frag) (cs : List Cn) (ts : List Ty0) (f : Addr) (R : List Str → Nat → Out → Nat → Prop) (vs : List V) (H : Hp) (Q : VK) (E : XK) : Prop where
  un : ∃ v d o, vs = [v, .ref f] ∧ IsV K H v d ∧ okT cs ts d = true ∧ RReadBy R [d] o ∧ Aft K H o Q E
structure spReadC (K : Frag) (cs : List Cn) (ts : List Ty0) (R : List Str → Nat → Out → Nat → Prop) (vs : List V) (H : Hp) (Q : VK) (E : XK) : Prop where
  un : ∃ C v d o, vs = [C, v] ∧ IsV K H v d ∧ okT cs ts d = true ∧ RReadBy R [d] o ∧ Aft K H o Q E
inductive RStrS : List Dt → Out → Prop
  | mk {k j : Int} (h : k.natAbs < 10 ^ 60) (h2 : j.natAbs < 10 ^ 60) : RStrS [.step k j] (.ok (.str (dS k ++ (Str.ofString " " ++ dS j))))
theorem log60 {x : Int} (h : x.natAbs < 10 ^ 60) : x.natAbs.log2 < 1920 := PySem.Flt.log2_lt_of (by decide) (Nat.lt_of_lt_of_le h (by decide))
end Sp
end
section
set_option Elab.async false
set_option linter.all false
set_option exponentiation.threshold 5000
set_option maxRecDepth 100000
set_option maxHeartbeats 4000000
namespace Sp
open PySem PySem.Spec PyProof.Rows L2
open PySem.W (Frag)
/-! ### str(x) of an own instance -/
structure rStrOwn (C : Addr) (sp : Sp) (E : XK) (xs : List V) (H : Hp) (Q : VK) : Prop where
  un : ∃ a dx fs, xs = [.ref a] ∧ H a = some (.ins C dx fs) ∧ sp [.ref a] H (fun v H' => (∃ y, v = .str y) ∧ Q v H') E
section
variable {X : Cx} {CX : CXT} {k : Nat} {C g : Addr} {fd : FuncData} {ps ks : List Str} {sp : Sp} {E : XK}
theorem run_in2 {pins : List (Addr × Obj)} {σ : L2.St} {H : Hp} {s : Shared} {Q : VK} {us : List Value} {vs : List V} (F : FnOk X.prog X.w X.K X.mg X.base CX k g fd ps sp) (hr : Room (k + 2) X.A) (hb : Binds X.K fd ps []) (hx : Passes CX X E)
    (I : Inv X pins σ H s) (r : Vals vs us) (h : sp vs H Q E) : wpAny (model X.prog X.w) X.A.in1.in1 (call (.ref g) us) (EP X pins σ Q) X.xe s := by
  have hl : us.length = ps.length := by rw [← r.length]; exact F.len _ _ _ _ h
  have hb' := hb s us I.kIn (by rw [List.append_nil]; exact hl)
  rw [List.append_nil] at hb'
  have hr1 : Room (k + 1) X.A.in1 := Room.in1 (k := k + 1) hr
  refine wpAny_call (codeAny_mono (F.run X.A.in1.in1 X.stack s H ⟨us, []⟩ us vs Q E hr1.in1 I.env0.in1.in1 hb' r h) fun r s' hq => ?_)
  match r, hq with
  | .error e, hq => exact hx pins σ H s e s' I hq
  | .ok (.ret u), hq => exact I.after hq
  | .ok .next, hq => exact hq.elim
  | .ok .brk, hq => exact hq.elim
  | .ok .cont, hq => exact hq.elim
theorem call_strGo {C : Addr} (G : GN X.prog X.w X.K X.mg X.base CX k C "__str__" sp) (hr : Room (k + 2) X.A) (hx : Passes CX X E) : CallR X (.type "str") (rStrOwn C sp E) := by
  obtain ⟨g, fd, ps, hs, hf, F, hb⟩ := G.ex
  intro pins s σ H xs us Q I r h
  obtain ⟨a, dx, fs, rfl, ha, q⟩ := h
  obtain ⟨u, rfl, ru⟩ := vals1 r
  cases (show u = Value.ref a from ru)
  obtain ⟨mA, J, _⟩ := ins_get I.hok ha
  obtain ⟨od, J, _⟩ := J.look
  refine PySem.W.kso_call (hr.in1.in1).units0 I.kIn J hs hf (wpAny_mono (run_in2 (us := [.ref a]) (vs := [.ref a]) F hr hb hx I (.cons rfl .nil) q) (fun v s' z => ?_) fun _ _ e => e)
  obtain ⟨v', H', I', rv, ⟨y, rfl⟩, qq⟩ := z
  obtain ⟨t, rfl⟩ := rv
  exact ⟨.str y, H', I', ⟨t, rfl⟩, qq⟩
end
theorem strD {K : Frag} {H : Hp} {x : V} {d : Dt} {c : Cn} {fs : List (Str × Dt)} {sp : Sp} {Q : VK} {E : XK} (h : IsV K H x d) (o : d.own = some (c, fs)) (k : sp [x] H (fun v H' => (∃ y, v = .str y) ∧ Q v H') E) : rStrOwn (ca K c) sp E [x] H Q := by
  obtain ⟨p, dx, gs, rfl, hp, _⟩ := h.out o
  exact ⟨p, dx, gs, rfl, hp, k⟩
/-! ### an operator of an own class, whatever stands at the right -/
section
open PySem.W
variable {prog : Program} {w : World} {M : Model} {A : Around} {E : Value → Shared → Prop} {s : Shared} {K : Frag} {x C L f : Addr} {h₀ : Heap} {m : Str → Option Value} {ox : Obj} {od : Option Obj} {nm : String}
/-- what of the text a value's type t must have -/
structure RiT (K : Frag) (C : Addr) (op : Operator) (t : Value) : Prop where
  ne : (Value.ref C == t) = false
  ex : ∃ ro nb fb, (∀ (M : Model) (h : Heap), K.In h → Looks M h (fillsNumberSlot t op.info.2) fb) ∧ findIn K t (dunderR op.info.2) = some ro ∧ ∀ (M : Model) (h : Heap), K.In h → Looks M h (numberSlotInPython t op.info.2) nb
  sub : subIn K t (.ref C) = some false
theorem bin_any {op : Operator} {b t : Value} {rc : Option Value} {Q : Value → Shared → Prop} (X : K.In s.heap) (I : InstAt s.heap x ox C od) (Lt : Looks (model prog w) s.heap (typeOf b) t) (hc : selfFirst K C = true)
    (hs : findIn K (.ref C) (PySem.dunder op.info.2) = some (some (.ref f))) (hf : isFn K (.ref f) = true) (hr : findIn K (.ref C) (dunderR op.info.2) = some rc) (hp : rc = none ∨ ∃ g : Addr, rc = some (.ref g)) (T : RiT K C op t)
    (h : wpAny (model prog w) A (call (.ref f) [.ref x, b]) (PySem.W.CmpBack Q) E s) : wpAny (model prog w) A (binaryOp op (.ref x) b) Q E s := by
  obtain ⟨ro, nb, fb, h1, h2, hn⟩ := T.ex
  obtain ⟨cd, rest, hcd, hm⟩ := ksp_first hc
  have hne := T.ne
  have hsub := T.sub
  rcases hi : op.info with ⟨sym, nm'⟩
  rw [hi] at hs hr h1 h2 hn
  dsimp only at hs hr h1 h2 hn
  have one := ksp_try X I hs hf h
  obtain ⟨hh, g, d, tt, os⟩ := s
  have A1 : Looks (model prog w) hh (typeOf (.ref x)) (.ref C) := I.type
  have A2 : Looks (model prog w) hh (typeOf b) t := Lt
  have A3 : Looks (model prog w) hh (fillsNumberSlot (.ref C) nm') true := fills_K X hcd hm hs
  have A4 : Looks (model prog w) hh (fillsNumberSlot t nm') fb := h1 _ _ X
  have A5 : Looks (model prog w) hh (isSubtype t (.ref C)) false := looks_subIn X hsub
  have A6 : Looks (model prog w) hh (numberSlotInPython (.ref C) nm') true := ksp_inPy X hs hr hp
  have A7 : Looks (model prog w) hh (numberSlotInPython t nm') nb := hn _ _ X
  have A8 : Looks (model prog w) hh (typeLookup t (dunderR nm')) ro := looks_findIn X h2
  simp only [binaryOp, hi]
  refine wpAny_holding (wpAny_bind ?_)
  unfold binaryOp1
  refine wpAny_bind (A1.at (wpAny_bind (A2.at (wpAny_bind (A3.at ?_)))))
  simp only [hne, Bool.false_eq_true, if_false]
  cases fb <;> cases nb <;>
  · ksp_lk
    refine wpAny_mono one (fun r s' hr' => ?_) fun _ _ e => e
    obtain ⟨v, rfl, hq⟩ := hr'
    ksp_lk
    exact hq
end
theorem RiT.ty {K : Frag} {C : Addr} {op : Operator} {T : String} (h1 : ∃ fo, PySem.W.findIn K (.type T) (PySem.dunder op.info.2) = some fo) (h2 : ∃ ro, PySem.W.findIn K (.type T) (dunderR op.info.2) = some ro) (h3 : PySem.W.subIn K (.type T) (.ref C) = some false) : RiT K C op (.type T) := by
  obtain ⟨fo, h1⟩ := h1
  obtain ⟨ro, h2⟩ := h2
  exact ⟨Bool.eq_false_iff.mpr (fun q => by cases (beq_iff_eq.mp q)), ⟨ro, false, _, fun M h X => PySem.W.ksp_fillsT X h1 h2, h2, fun M h _ => PySem.W.Looks.of_pure rfl⟩, h3⟩
theorem RiT.own {K : Frag} {C D g : Addr} {op : Operator} {rc : Option Value} (hn : C ≠ D) (hc : PySem.W.selfFirst K D = true) (hs : PySem.W.findIn K (.ref D) (PySem.dunder op.info.2) = some (some (.ref g))) (hr : PySem.W.findIn K (.ref D) (dunderR op.info.2) = some rc) (hp : rc = none ∨ ∃ g : Addr, rc = some (.ref g)) (h3 : PySem.W.subIn K (.ref D) (.ref C) = some false) : RiT K C op (.ref D) := by
  obtain ⟨cd, rest, hcd, hm⟩ := PySem.W.ksp_first hc
  exact ⟨(by rw [beq_eq_false_iff_ne]; intro q; injection q with q; exact hn q), ⟨rc, true, true, fun M h X => PySem.W.fills_K X hcd hm hs, hr, fun M h X => PySem.W.ksp_inPy X hs hr hp⟩, h3⟩
structure rBinX (K : Frag) (C : Addr) (op : Operator) (sp : Sp) (E : XK) (x : V) (y : V) (H : Hp) (Q : VK) : Prop where
  un : ∃ a dx fs, x = .ref a ∧ H a = some (.ins C dx fs) ∧ (∃ t, TyX K H y t ∧ RiT K C op t) ∧ sp [x, y] H Q E
section
variable {X : Cx} {CX : CXT} {k : Nat} {C g : Addr} {fd : FuncData} {ps ks : List Str} {sp : Sp} {E : XK} {op : Operator}
theorem op_goX (G : GO X.prog X.w X.K X.mg X.base CX k C op sp) (hr : Room k X.A) (hx : Passes CX X E) : OpR X (binaryOp op) (rBinX X.K C op sp E) := by
  obtain ⟨g, fd, ps, O, F, hb⟩ := G.ex
  intro pins s σ H x y v u Q I rx ry h
  obtain ⟨a, dx, fs, rfl, ha, ⟨t, ty, T⟩, q⟩ := h
  cases (show v = Value.ref a from rx)
  obtain ⟨mA, J, _⟩ := ins_get I.hok ha
  obtain ⟨od, J, _⟩ := J.look
  exact bin_any I.kIn J (ty_looks I ry ty) O.first O.at_ O.fn O.rev (.inl rfl) T (run_dun (us := [.ref a, u]) (vs := [.ref a, y]) F hr hb hx I (.cons rfl (.cons ry .nil)) q)
end
theorem binXD {K : Frag} {mg : Str → Option Value} {cs : List Cn} {ts : List Ty0} {H : Hp} {x y : V} {d1 d2 : Dt} {c : Cn} {fs : List (Str × Dt)} {op : Operator} {sp : Sp} {Q : VK} {E : XK} (G : G0 K mg cs ts) (h : IsV K H x d1) (o : d1.own = some (c, fs)) (h2 : IsV K H y d2) (z : okT cs ts d2 = true) (T : RiT K (ca K c) op (tv K d2.ty)) (k : sp [x, y] H Q E) : rBinX K (ca K c) op sp E x y H Q := by
  obtain ⟨p, dx, gs, rfl, hp, ifs⟩ := h.out o
  refine ⟨p, dx, gs, rfl, hp, ⟨_, G.ty h2 (fun c fs e => ?_), T⟩, k⟩
  have z := (Bool.and_eq_true_iff.mp z).1
  rw [e] at z
  exact of_decide_eq_true z
/-! ### C(k = v, ..) -/
def pk {α : Type} (n : Nat) (pick : List Nat) (us ws : List α) : List α := if us.length = 1 ∧ ws.length = n then us ++ pick.filterMap fun i => ws[i]? else []
theorem pk_rel {n : Nat} {pick : List Nat} {vs : List V} {us : List Value} {zs : List V} {ws : List Value} (r : Vals vs us) (q : Vals zs ws) : Vals (pk n pick vs zs) (pk n pick us ws) := by
  unfold pk
  rw [r.length, q.length]
  split
  · exact vals_app r (vals_pick q pick)
  · exact .nil
structure GMK (P : Program) (w : World) (K : Frag) (mg : Str → Option Value) (base : Heap) (CX : CXT) (k : Nat) (x : Str) (C : Addr) (ks : List Str) (pick : List Nat) (sp : Sp) : Prop where
  ex : ∃ (f : Addr) (fd : FuncData) (ps : List Str), FnOk P w K mg base CX k f fd ps sp ∧ Mk K C f ∧ mg x = some (.ref C) ∧ KBn K fd ps 1 ks (pk ks.length pick) (pk ks.length pick)
section
variable {X : Cx} {CX : CXT} {k : Nat} {C : Addr} {sp : Sp} {E : XK} {ks : List Str} {pick : List Nat} {x : Str} {p pos : Pos} {kws : List Keyword} {tk : TA}
theorem pe_makeK (G : GMK X.prog X.w X.K X.mg X.base CX k x C ks pick sp) (hr : Room (k + 1) X.A) (hg : Gl X x) (hx : Passes CX X E) (hkw : PK X kws tk)
    (hall : (backToKw pos (keywordEach kws X.env)).all (·.1.isSome) = true := by rfl) (hks : (backToKw pos (keywordEach kws X.env)).filterMap (·.1) = ks := by rfl)
    (hdb : (x == ("__debug__" : Str)) = false := by decide) (hpl : ((backTo pos (starEach [] X.env)).any (·.1) || (backToKw pos (keywordEach kws X.env)).any (·.1.isNone)) = false := by rfl) :
    PE X (.Call (.Name x p) [] kws pos) (fun σ H Q => tk σ H fun zs H2 => zs.length = ks.length ∧ MakeD C sp (pick.filterMap fun i => zs[i]?) H2 Q E) := by
  obtain ⟨f, fd, ps, F, M, hm, hb⟩ := G.ex
  refine ⟨fun pins s σ H Q I h => wpAny_Call_Name_kw (ld_glob I hg hm ?_ hdb)⟩
  refine PySem.W.callWith_KW0 (first := []) (h₀ := X.base) I.ok.mod.kin M.kp hall (thn (hkw.run pos pins _ σ H _ I h) fun ws s2 ⟨zs, H2, I2, rz, l2, q2⟩ => ⟨I2.kIn, ?_⟩) hpl
  rw [hks]
  refine run_makeN (us := []) (vs := []) (n := 0) M F hr hb hx I2 .nil rz rfl l2 fun y dx a b c => ?_
  have e : pk ks.length pick [V.ref y] zs = V.ref y :: pick.filterMap fun i => zs[i]? := by
    unfold pk
    rw [if_pos ⟨rfl, l2⟩]
    rfl
  rw [e]
  exact q2.un y dx a b c
end
section
variable {K : Frag} {f : Addr} {fd : FuncData} {x qual : Str} {params : Arguments} {body : List Stmt} {scope : Scope} {ps : List Str}
theorem pk_2 {k1 k2 : Str} {i j : Nat} (F : FunD K x qual params body scope [] [] f fd)
    (h : ∀ (kV doc pm : Value) (an : Option Addr) (cdv ct a u v : Value), bindArgs (PySem.W.fnOf x qual params body scope .none kV doc pm an cdv ct) ⟨[a], [(k1, u), (k2, v)]⟩ = pure (ps.zip (a :: [i, j].filterMap fun i => [u, v][i]?))) : KBn K fd ps 1 [k1, k2] (pk 2 [i, j]) (pk 2 [i, j]) := by
  obtain ⟨oc, od, dV, kV, doc, pm, an, cdv, ct, osl, rfl, lk, hcd, hD, hKw⟩ := F.ex
  refine ⟨fun s us ws hK l1 l2 => ?_, fun r q => pk_rel r q⟩
  match us, ws, l1, l2 with
  | [a], [u, v], _, _ =>
    rcases hD with ⟨_, rfl⟩ | ⟨e, _⟩
    · exact .of_eq (h kV doc pm an cdv ct a u v)
    · exact absurd rfl e
end
/-! ### a class method -/
structure GC (P : Program) (w : World) (K : Frag) (mg : Str → Option Value) (base : Heap) (CX : CXT) (k : Nat) (C : Addr) (m : Str) (sp : Sp) : Prop where
  ex : ∃ (mc : Value) (p g : Addr) (fd : FuncData) (ps : List Str), ClX.CRead K C mc ∧ ClX.CMet K C mc m p g ∧ FnOk P w K mg base CX k g fd ps sp ∧ Binds K fd ps []
section
variable {X : Cx} {CX : CXT} {k : Nat} {C : Addr} {sp : Sp} {E : XK} {o e : Expr} {es : List Expr} {m : Str} {apos pos : Pos} {ta : TE} {t : TA} {pl : Sem Bool}
theorem pe_gcD (he : PE X o ta) (G : GC X.prog X.w X.K X.mg X.base CX k C m sp) (hr : Room k X.A) (hx : Passes CX X E) (ha : PA X (e :: es) t)
    (hst : starEach (e :: es) X.env = (false, eval e X.env) :: starEach es X.env := by rfl) (hpl : (backTo pos (starEach es X.env)).any (·.1) = false := by rfl)
    (ht : eval (.Call (.Attribute o m apos) (e :: es) [] pos) X.env = (do
      let ov ← eval o X.env
      standAt apos.atName
      let (f, first) ← holding [ov] (getMethod ov m pl)
      callWith pos f first (backTo pos (starEach (e :: es) X.env)) (backToKw pos (keywordEach [] X.env))) := by rfl) :
    PE X (.Call (.Attribute o m apos) (e :: es) [] pos) (fun σ H Q => ta σ H fun x H1 => x = .ref C ∧ t σ H1 fun vs H2 => sp ((.ref C :: vs) ++ []) H2 Q E) := by
  obtain ⟨mc, p, g, fd, ps, r, c, F, hb⟩ := G.ex
  exact ClX.pe_cmeth he r c (F.raw hb .nil) hr hx ha hst hpl ht
/-- a def at its own address -/
structure GL (P : Program) (w : World) (K : Frag) (mg : Str → Option Value) (base : Heap) (CX : CXT) (k : Nat) (x : Str) (sp : Sp) : Prop where
  hm : mg x = some (.ref (He.ga K x))
  kp : PySem.W.keepIn K (.ref (He.ga K x)) = true
  ex : ∃ (fd : FuncData) (ps : List Str), FnOk P w K mg base CX k (He.ga K x) fd ps sp ∧ Binds K fd ps []
theorem pe_glD {x y : Str} {i : Nat} {p : Pos} (G : GL X.prog X.w X.K X.mg X.base CX k y sp) (hr : Room k X.A) (hN : X.N[i]? = some x) (hv : Vis X.env.scope x) (hx : Passes CX X E) (ha : PA X (e :: es) t)
    (hdb : (x == ("__debug__" : Str)) = false := by decide) (hcd : (x == ("__classdict__" : Str)) = false := by decide)
    (he : starEach (e :: es) X.env = (false, eval e X.env) :: starEach es X.env := by rfl) (hpl : (backTo pos (starEach es X.env)).any (·.1) = false := by rfl) :
    PE X (.Call (.Name x p) (e :: es) [] pos) (tCallL i (He.ga X.K y) sp [] E t) := by
  obtain ⟨fd, ps, F, hb⟩ := G.ex
  exact pe_callL F hr hN hv G.kp hb .nil hx ha hdb hcd he hpl
end
/-! ### the words' object by hand -/
section
variable {K : Frag} {mg : Str → Option Value} {cs : List Cn} {ts : List Ty0} {H : Hp} {p C dx : Addr} {fs : List (Str × V)} {f : Str} {v : V} {Q : VK} {c : Cn} {P : Prop}
theorem fldRaw (G : G0 K mg cs ts) (h : H p = some (.ins (ca K c) dx fs)) (l : fs.lookup f = some v) (hc : c ∈ cs) (hf : f ∈ c.flds) (q : Q v H) : FldD K f (.ref p) H Q := ⟨p, _, dx, fs, v, rfl, h, (G.cf c hc).cl, (G.cf c hc).no f hf, l, q⟩
theorem methRaw {m : Str} (h : H p = some (.ins C dx fs)) (l : fs.lookup m = none) (q : P) : MethD C m (.ref p) H P := ⟨p, dx, fs, rfl, h, l, q⟩
theorem setRaw {P : Hp → Prop} {y : V} (G : G0 K mg cs ts) (h : H p = some (.ins (ca K c) dx fs)) (hl : Nat.blt fs.length 1000 = true) (hc : c ∈ cs) (hf : f ∈ c.flds) (q : P (upd H p (.ins (ca K c) dx (putF f y fs)))) : SetD K f (.ref p) y H P := ⟨p, _, dx, fs, rfl, h, (G.cf c hc).cl, (G.cf c hc).no f hf, Nat.le_of_ble_eq_true hl, q⟩
end
section
variable {K : Frag} {H : Hp} {p l : Addr} {ws : List Str} {k k' : Nat} {o : Out} {Q : VK} {E : XK} {R : List Str → Nat → Out → Nat → Prop}
theorem wR (h : WA K H p l ws k) (r : R ws k o k') (a : AftW K H p l ws o k' Q E) : spW K R [.ref p] H Q E := ⟨p, l, ws, k, o, k', rfl, h, r, a⟩
theorem awInt {n : Int} (q : ∀ H', Wr p H H' → WA K H' p l ws k' → Q (.int n) H') : AftW K H p l ws (.ok (.int n)) k' Q E := fun v H' s w i => by
  cases i with
  | int => exact q H' s w
  | own o _ _ => cases o
theorem awStr {n : Str} (q : ∀ H', Wr p H H' → WA K H' p l ws k' → Q (.str n) H') : AftW K H p l ws (.ok (.str n)) k' Q E := fun v H' s w i => by
  cases i with
  | str => exact q H' s w
  | own o _ _ => cases o
theorem awBl {n : Bool} (q : ∀ H', Wr p H H' → WA K H' p l ws k' → Q (.bl n) H') : AftW K H p l ws (.ok (.bl n)) k' Q E := fun v H' s w i => by
  cases i with
  | bl => exact q H' s w
  | own o _ _ => cases o
theorem awNon (q : ∀ H', Wr p H H' → WA K H' p l ws k' → Q .non H') : AftW K H p l ws (.ok .non) k' Q E := fun v H' s w i => by
  cases i with
  | non => exact q H' s w
  | own o _ _ => cases o
theorem awSame {H1 : Hp} (a : AftW K H p l ws o k' Q E) (s : Wr p H H1) (n : ∀ b, H1 b = none → H b = none) : AftW K H1 p l ws o k' Q E := by
  cases o with
  | ok d => exact fun v H' s' w i => a v H' (s.trans s') w i
  | err x fs => exact fun dd H' gs s' n' e i => a dd H' gs (s.trans s') (n _ n') e i
theorem wrNone {H1 : Hp} (h : WA K H p l ws k) (h1 : WA K H1 p l ws k') (s : Wr p H H1) : ∀ b, H1 b = none → H b = none := fun b n => by
  cases e : H b with
  | none => rfl
  | some o =>
    by_cases z : b = p
    · obtain ⟨dx, h1, _⟩ := h1
      rw [z, h1] at n
      cases n
    · rw [s b o z e] at n
      cases n
/-- the error as it is raised -/
theorem awErr {x : Str} {fs : List (Str × Dt)} {H1 : Hp} (a : AftW K H p l ws (.err x fs) k' Q E) (s : Wr p H H1) (n : ∀ b, H1 b = none → H b = none) : AftE K H1 x fs E := .mk fun dd H' gs s' n' e i => a dd H' gs (s.trans (Same.wr s')) (n _ n') e i
end
theorem wI {K : Frag} {R : List Str → Nat → Out → Nat → Prop} {vs : List V} {H : Hp} {Q : VK} {E : XK} (h : spW K R vs H Q E) : ∃ p l ws k o k', vs = [.ref p] ∧ WA K H p l ws k ∧ R ws k o k' ∧ AftW K H p l ws o k' Q E := h.un
theorem lc_str {x : Str} {g : TG} {tt : TT} {te : TE} {vs : List Nat} {σ : L2.St} {H1 : Hp} {D : Addr} {Qd : Hp → Prop} (Pv : Nat → Hp → Prop) (h0 : Pv 0 (upd H1 D (.lst [])))
    (hs : ∀ i c H, (TL.tl x)[i]? = some c → Pv i H → g (.str ⟨#[c]⟩) (wipe σ vs) H fun σ2 H2 => wipe σ2 vs = wipe σ vs ∧ tt σ2 H2 fun b H3 =>
      if b = true then te σ2 H3 fun y H4 => ∃ acc, H4 D = some (.lst acc) ∧ acc.length < sizeLine ∧ Pv (i + 1) (upd H4 D (.lst (acc ++ [y]))) else Pv (i + 1) H3) (hd : ∀ H, Pv (TL.tl x).length H → Qd H) :
    ∃ W : Nat → Nat → Hp → Prop, (∃ m, W 0 m (upd H1 D (.lst []))) ∧ ∀ i m H, W i m H →
      ((Its x).stop i H ∧ Qd H) ∨ ((Its x).go i H ∧ ∃ Nx : Hp → Prop, (∀ H', Nx H' → ∃ m', m' < m ∧ W (i + 1) m' H') ∧ ∀ v H', (Its x).yld i H v H' → g v (wipe σ vs) H' fun σ2 H2 => wipe σ2 vs = wipe σ vs ∧ tt σ2 H2 fun b H3 =>
        if b = true then te σ2 H3 fun y H4 => ∃ acc, H4 D = some (.lst acc) ∧ acc.length < sizeLine ∧ Nx (upd H4 D (.lst (acc ++ [y]))) else Nx H3) := by
  have sz : x.cps.size = (TL.tl x).length := by simp [TL.tl]
  refine ⟨fun i m H => m = (TL.tl x).length - i ∧ i ≤ (TL.tl x).length ∧ Pv i H, ⟨_, rfl, Nat.zero_le _, h0⟩, ?_⟩
  rintro i m H ⟨rfl, hi, p⟩
  by_cases hlt : i < (TL.tl x).length
  · refine .inr ⟨by show i < x.cps.size; omega, Pv (i + 1), fun H' p' => ⟨(TL.tl x).length - (i + 1), by omega, rfl, hlt, p'⟩, fun v H' y => ?_⟩
    obtain ⟨e, c, hc, ev⟩ := y
    subst e ev
    exact hs i c _ (by rw [← hc]; simp [TL.tl]) p
  · obtain rfl : i = (TL.tl x).length := by omega
    exact .inl ⟨by show x.cps.size ≤ (TL.tl x).length; omega, hd H p⟩
theorem digMem (c : Nat) : decide (c ∈ ("0123456789" : Str).cps.toList) = isDig c := by
  rw [show ("0123456789" : Str).cps.toList = [48, 49, 50, 51, 52, 53, 54, 55, 56, 57] from by decide +kernel]
  unfold isDig
  rw [← Bool.decide_and]
  refine decide_eq_decide.mpr ⟨fun h => ?_, fun h => ?_⟩
  · simp only [List.mem_cons, List.not_mem_nil, or_false] at h
    omega
  · simp only [List.mem_cons, List.not_mem_nil, or_false]
    omega
theorem digs_le (l : List Nat) : (digs l).length ≤ l.length := by
  rcases digs_of l with ⟨r, e, er⟩ | ⟨_, er⟩
  · rw [er, e, List.length_cons]
    omega
  · rw [er]
    exact Nat.le_refl _
theorem okD_eq {w : Str} : okD (TL.tl w) = (decide (1 ≤ (Txt.removeprefix w "-").length) && (decide ((Txt.removeprefix w "-").length ≤ 60) && ((TL.tl (Txt.removeprefix w "-")).map isDig).all id)) := by
  unfold okD
  rw [TL.len_tl, tl_rp, List.all_map]
  rfl
theorem ixLRaw {K : Frag} {H : Hp} {p : Addr} {xs : List V} {i : Int} {v : V} {Q : VK} (h : SqL K H p xs) (g : atI xs i = some v) (q : Q v H) : rIxL K (.ref p) (.int i) H Q := ⟨p, xs, i, v, rfl, rfl, h, g, q⟩
theorem ixTRaw {K : Frag} {H : Hp} {p : Addr} {xs : List V} {i : Int} {v : V} {Q : VK} (h : SqT K H p xs) (g : atI xs i = some v) (q : Q v H) : rIxT K (.ref p) (.int i) H Q := ⟨p, xs, i, v, rfl, rfl, h, g, q⟩
theorem intW_no {w : Str} (h : okD (TL.tl w) = false) : intW w = none := by
  unfold intW
  rw [if_neg (by rw [h]; simp)]
theorem intW_yes {w : Str} {n : Int} (h : okD (TL.tl w) = true) (e : intText? w = some n) : intW w = if dS n = w then some n else none := by
  unfold intW
  rw [if_pos h, e]
theorem intText_small {w : Str} {n : Int} (h : okD (TL.tl w) = true) (e : intText? w = some n) : w.length ≤ 640 ∧ n.natAbs.log2 < 1920 := by
  have fold : ∀ (l : List Nat) (a k : Nat), NumText.AllDigits l → a < 10 ^ k → l.foldl (fun acc c => acc * 10 + (c - 48)) a < 10 ^ (k + l.length) := by
    intro l
    induction l with
    | nil => intro a k _ h; exact h
    | cons c l ih =>
      intro a k hd h
      have hc := hd c List.mem_cons_self
      have := ih (a * 10 + (c - 48)) (k + 1) (fun d hd' => hd d (List.mem_cons_of_mem _ hd')) (by rw [Nat.pow_succ]; omega)
      rw [List.length_cons, show k + (l.length + 1) = k + 1 + l.length by omega]
      exact this
  have fin : ∀ l : List Nat, NumText.AllDigits l → l.length ≤ 60 → NumText.digitsVal l < 10 ^ 60 := fun l h1 h2 => by
    have := fold l 0 0 h1 (by decide)
    unfold NumText.digitsVal
    rw [Nat.zero_add] at this
    exact Nat.lt_of_lt_of_le this (Nat.pow_le_pow_right (by decide) h2)
  unfold okD at h
  obtain ⟨h1, h⟩ := Bool.and_eq_true_iff.mp h
  obtain ⟨h2, h3⟩ := Bool.and_eq_true_iff.mp h
  have h1 := of_decide_eq_true h1
  have h2 := of_decide_eq_true h2
  have h3 := allDig h3
  rcases digs_of (TL.tl w) with ⟨r, ew, er⟩ | ⟨_, er⟩
  · rw [er] at h1 h2 h3
    have l : w.length ≤ 640 := by
      rw [TL.len_tl, ew, List.length_cons]
      omega
    refine ⟨l, ?_⟩
    rw [intText_neg (cs := r) ew h3 (fun z => by rw [z] at h1; cases h1) (by omega)] at e
    cases e
    have := fin r h3 h2
    exact log60 (by omega)
  · rw [er] at h1 h2 h3
    have l : w.length ≤ 640 := by
      rw [TL.len_tl]
      omega
    refine ⟨l, ?_⟩
    rw [intText_digits (x := w) h3 (fun z => by have : TL.tl w = [] := z; rw [this] at h1; cases h1) (by omega)] at e
    cases e
    have : NumText.digitsVal w.cps.toList < 10 ^ 60 := fin _ h3 h2
    exact log60 (by omega)
theorem vEqS (a b : Str) : decide (V.str a = V.str b) = decide (a = b) := decide_eq_decide.mpr (by rw [V.str.injEq])
theorem rdI_lt60 {ws : List Str} {k : Nat} {n : Int} (h : rdI ws k = some n) : n.natAbs < 10 ^ 60 := by
  unfold rdI at h
  split at h
  · exact (intW_some h).2
  · cases h
theorem bi60 {n : Int} (h : n.natAbs < 10 ^ 60) : Bi n 200 := ⟨Nat.lt_of_lt_of_le h (by decide)⟩
theorem wordsI {K : Frag} {cs : List Cn} {ts : List Ty0} {vs : List V} {H : Hp} {Q : VK} {E : XK} (h : spWords K cs ts vs H Q E) : ∃ v d, vs = [v] ∧ IsV K H v d ∧ okT cs ts d = true ∧
  ((∃ x, d = .str x ∧ TOk x ∧ ∀ p l H', Same H H' → H p = none → WA K H' p l (wsOf x) 0 → Q (.ref p) H') ∨ (decide (d.ty = .str) = false ∧ AftE K H "BadText" [("word", .int 0), ("line", .int 0)] E)) := h.un
theorem wordsO {K : Frag} {cs : List Cn} {ts : List Ty0} {v : V} {d : Dt} {H : Hp} {Q : VK} {E : XK} (i : IsV K H v d) (o : okT cs ts d = true) (h : (∃ x, d = .str x ∧ TOk x ∧ ∀ p l H', Same H H' → H p = none → WA K H' p l (wsOf x) 0 → Q (.ref p) H') ∨ (decide (d.ty = .str) = false ∧ AftE K H "BadText" [("word", .int 0), ("line", .int 0)] E)) : spWords K cs ts [v] H Q E := ⟨v, d, rfl, i, o, h⟩
theorem readWI {K : Frag} {cs : List Cn} {ts : List Ty0} {f : Addr} {R : List Str → Nat → Out → Nat → Prop} {vs : List V} {H : Hp} {Q : VK} {E : XK} (h : spReadW K cs ts f R vs H Q E) : ∃ v d o, vs = [v, .ref f] ∧ IsV K H v d ∧ okT cs ts d = true ∧ RReadBy R [d] o ∧ Aft K H o Q E := h.un
theorem readWO {K : Frag} {cs : List Cn} {ts : List Ty0} {f : Addr} {R : List Str → Nat → Out → Nat → Prop} {v : V} {d : Dt} {o : Out} {H : Hp} {Q : VK} {E : XK} (i : IsV K H v d) (ot : okT cs ts d = true) (r : RReadBy R [d] o) (q : Aft K H o Q E) : spReadW K cs ts f R [v, .ref f] H Q E := ⟨v, d, o, rfl, i, ot, r, q⟩
theorem readCI {K : Frag} {cs : List Cn} {ts : List Ty0} {R : List Str → Nat → Out → Nat → Prop} {vs : List V} {H : Hp} {Q : VK} {E : XK} (h : spReadC K cs ts R vs H Q E) : ∃ C v d o, vs = [C, v] ∧ IsV K H v d ∧ okT cs ts d = true ∧ RReadBy R [d] o ∧ Aft K H o Q E := h.un
theorem readCO {K : Frag} {cs : List Cn} {ts : List Ty0} {R : List Str → Nat → Out → Nat → Prop} {C v : V} {d : Dt} {o : Out} {H : Hp} {Q : VK} {E : XK} (i : IsV K H v d) (ot : okT cs ts d = true) (r : RReadBy R [d] o) (q : Aft K H o Q E) : spReadC K cs ts R [C, v] H Q E := ⟨C, v, d, o, rfl, i, ot, r, q⟩
theorem wpI {K : Frag} {R : List Str → Nat → Out → Prop} {vs : List V} {H : Hp} {Q : VK} {E : XK} (h : spWp K R vs H Q E) : ∃ p l ws k o, vs = [.ref p] ∧ WA K H p l ws k ∧ R ws k o ∧ Aft K H o Q E := h.un
theorem wpO {K : Frag} {R : List Str → Nat → Out → Prop} {p l : Addr} {ws : List Str} {k : Nat} {o : Out} {H : Hp} {Q : VK} {E : XK} (h : WA K H p l ws k) (r : R ws k o) (q : Aft K H o Q E) : spWp K R [.ref p] H Q E := ⟨p, l, ws, k, o, rfl, h, r, q⟩
theorem finE' {K : Frag} {H0 H : Hp} {L : List (V × Dt)} {x : Str} {fs : List (Str × Dt)} {E : XK} (q : AftE K H0 x fs E) (h : Env K .fn H0 H L) : AftE K H x fs E := .mk fun dd H' gs s n e i => q.un dd H' gs (h.gr.trans s) (none_same h.gr n) e i
theorem WA.upd {K : Frag} {H : Hp} {p l dx : Addr} {ws : List Str} {k k' : Nat} (h : WA K H p l ws k) (g : H p = some (.ins (ca K .Words) dx [("words", .ref l), ("done", .int k), ("last", .int (ws.length : Nat))])) : WA K (upd H p (.ins (ca K .Words) dx [("words", .ref l), ("done", .int k'), ("last", .int (ws.length : Nat))])) p l ws k' := by
  obtain ⟨_, _, h2, h3⟩ := h
  refine ⟨dx, upd_same, ?_, h3⟩
  rw [upd_ne (fun z => by rw [z, g] at h2; cases h2)]
  exact h2
theorem Wr.upd {H : Hp} {p : Addr} {o : HO} : Wr p H (L2.upd H p o) := fun b u n e => by rw [upd_ne n]; exact e
theorem Wr.same {H H1 H2 : Hp} {p : Addr} (n : H p = none) (s : Same H H1) (w : Wr p H1 H2) : Same H H2 := fun b o e => w b o (ne_of_none e n) (s b o e)
theorem makeRaw {C : Addr} {sp : Sp} {vs : List V} {H : Hp} {Q : VK} {E : XK} (h : ∀ x dx, H x = none → H dx = none → dx ≠ x → sp (.ref x :: vs) (upd (upd H dx (.own x)) x (.ins C dx [])) (fun v H2 => v = .non ∧ Q (.ref x) H2) E) : MakeD C sp vs H Q E := ⟨h⟩
theorem aftOk {K : Frag} {H0 H : Hp} {d : Dt} {v : V} {Q : VK} {E : XK} (q : Aft K H0 (.ok d) Q E) (s : Same H0 H) (i : IsV K H v d) : Q v H := q.un v H s i
theorem aftEr {K : Frag} {H0 H : Hp} {x : Str} {fs : List (Str × Dt)} {gs : List (Str × V)} {dd : Addr} {Q : VK} {E : XK} (q : Aft K H0 (.err x fs) Q E) (s : Same H0 H) (n : H0 dd = none) (e : H dd = some (.xd gs)) (i : IsFs K H gs fs) : E (.ref (cX K x)) (some dd) H := q.un dd H gs s n e i
theorem aftEE {K : Frag} {H0 H : Hp} {x : Str} {fs : List (Str × Dt)} {Q : VK} {E : XK} (q : Aft K H0 (.err x fs) Q E) (s : Same H0 H) : AftE K H x fs E := .mk fun dd H' gs s' n e i => q.un dd H' gs (s.trans s') (none_same s n) e i
theorem same_mk {H : Hp} {x dx C : Addr} {o : HO} (nx : H x = none) (nd : H dx = none) : Same H (upd (upd H dx (.own x)) x o) := fun b o e => by rw [upd_ne (ne_of_none e nx), upd_ne (ne_of_none e nd)]; exact e
theorem emptyApp (x : Str) : Str.empty ++ x = x := by
  apply TL.ext_tl
  rw [TL.tl_append]
  rfl
theorem lenApp (x y : Str) : (x ++ y).length = x.length + y.length := by
  rw [TL.len_tl, TL.tl_append, List.length_append, ← TL.len_tl, ← TL.len_tl]
theorem finD' {K : Frag} {H0 H : Hp} {L : List (V × Dt)} {v : V} {d : Dt} {Q : VK} (q : AftD K H0 d Q) (h : Env K .fn H0 H L) (i : IsV K H v d) : Q v H := q.un v H h.gr i
end Sp
end
section
set_option Elab.async false
set_option linter.all false
set_option exponentiation.threshold 5000
set_option maxRecDepth 100000
set_option maxHeartbeats 4000000
namespace Sp
open PySem PySem.Spec PyProof.Rows L2
open PySem.W (Frag)
/-! ### a quiet def, called while an exception is handled -/
abbrev cxQ (P : Program) (w : World) (K : Frag) (mg : Str → Option Value) (base : Heap) (N : List Str) (qual : Str) (scope : Scope) (f : Addr) (cd : Value) (A : Around) (outer : List PySem.Env) (s : Shared) (H : Hp) (E : XK) : Cx :=
  { cxOf C8.CX0 P w K mg base N qual scope f cd A outer s H E with calm := false }
structure FnQ (P : Program) (w : World) (K : Frag) (mg : Str → Option Value) (base : Heap) (k : Nat) (f : Addr) (fd : FuncData) (ps : List Str) (sp : Sp) : Prop where
  len : ∀ vs H Q E, sp vs H Q E → vs.length = ps.length
  run : ∀ (A : Around) (outer : List PySem.Env) (s : Shared) (H : Hp) (args : Args) (us : List Value) (vs : List V) (Q : VK) (E : XK), L2H.RoomH k A → Env0 P w K mg base A outer s H → BindsTo s fd args (ps.zip us) → Vals vs us → sp vs H Q E →
    codeAny (model P w) A (.call (.ref f) args) (CR C8.CX0 outer P w H s Q E) s
section
variable {P : Program} {w : World} {K : Frag} {mg : Str → Option Value} {base : Heap}
theorem inv_startQ {N ps : List Str} {qual : Str} {scope : Scope} {f : Addr} {cd : Value} {A : Around} {outer : List PySem.Env} {s s1 : Shared} {H : Hp} {E : XK} {us : List Value} {vs : List V}
    (S : FnScope N ps scope) (e0 : Env0 P w K mg base A outer s H) (hl : vs.length = ps.length) (r : Vals vs us)
    (x : InCallC s s.heap.objs.size (bindL (envOfC qual scope s.heap.objs.size f cd).kindOf (ps.zip us) fun _ => none) (cellsFrom (s.heap.objs.size + 1) scope.names []) (bindC (envOfC qual scope s.heap.objs.size f cd).kindOf (ps.zip us) fun _ => none) s1) :
    Inv (cxQ P w K mg base N qual scope f cd A outer s H E) [] (L2.start N vs) H s1 := by
  have hpl : ps.length ≤ N.length := by have := congrArg List.length S.pre; rw [List.length_take] at this; omega
  obtain ⟨h1, tk, rfl, hk⟩ := x.done
  have noA : ∀ b : Addr, b ∉ (cxQ P w K mg base N qual scope f cd A outer s H E).ex := fun b z => absurd (show b ∈ ([] : List Addr) from z) (by simp)
  refine ⟨⟨e0.mod, S.kind, rfl, rfl, Nat.le_refl _, fun y z c h1 h2 => ?_, fun y hy => ?_, fun y c _ h => ?_, (fun z => Bool.noConfusion (show false = true from z)), Around.frames_deeper e0.frames, .inr ⟨rfl, rfl⟩, fun b z => absurd z (noA b), e0.bs, e0.bsz, fun b _ _ => noA b, fun b z => absurd z (noA b), e0.funs, e0.frf⟩,
    rfl, e0.bare, Un.kept hk, ⟨_, x.toInCall.ns, fun i y v h1 h2 h3 => ?_⟩, fun y c h => ⟨_, x.cell y c h⟩, e0.hok.fresh (Nat.le_refl _), fun y c h => ?_, fun p hp => absurd (show p ∈ ([] : List (Addr × Obj)) from hp) (by simp), e0.hok.kept hk, ?_⟩
  · exact name_of_addr x.apart (PySem.mem_of_lookup h1) (PySem.mem_of_lookup h2)
  · have hy : scope.names.lookup y = some .cell ∨ scope.names.lookup y = some .free := hy
    rcases hy with hy | hy
    · exact cell_has hy
    · exact absurd rfl (S.nofree _ (PySem.mem_of_lookup hy))
  · exact Nat.le_of_lt (x.above y c (PySem.mem_of_lookup h))
  · have hi : i < vs.length := by
      unfold L2.start at h2
      by_cases hi : i < vs.length
      · exact hi
      · rw [List.getElem?_append_right (by simpa using hi)] at h2
        rw [List.getElem?_replicate] at h2
        split at h2 <;> cases h2
    have ha : vs[i]? = some v := by
      unfold L2.start at h2
      rw [List.getElem?_append_left (by simpa using hi), List.getElem?_map] at h2
      cases e : vs[i]? with
      | none => rw [e] at h2; cases h2
      | some a => rw [e] at h2; cases h2; rfl
    obtain ⟨u, hu, rv⟩ := r.get ha
    have hp : ps[i]? = some y := by
      rw [← S.pre, List.getElem?_take_of_lt (by omega)]; exact h1
    have ndP : ps.Nodup := by rw [← S.pre]; exact S.nd.sublist (List.take_sublist _ _)
    refine ⟨u, rv, ?_⟩
    rcases S.par y (List.mem_of_getElem? hp) with k | k
    · exact .inl ⟨k, bindL_get ndP hp hu k⟩
    · obtain ⟨c, e⟩ := cell_has (n := s.heap.objs.size + 1) k
      refine .inr ⟨.inl k, c, e, ?_⟩
      have q := x.cell y c e
      rw [bindC_get ndP hp hu (by show scope.names.lookup y ≠ _; rw [k]; decide)] at q
      exact q
  · exact e0.hok.fresh (Nat.le_of_lt (x.above y c (PySem.mem_of_lookup h)))
  · unfold L2.start
    show _ = N.length
    rw [List.length_append, List.length_map, List.length_replicate]
    omega
theorem FunD.okQ {x qual : Str} {params : Arguments} {body : List Stmt} {scope : Scope} {f : Addr} {fd : FuncData} {N ps : List Str} {k : Nat} {sp : Sp} (F : FunD K x qual params body scope [] [] f fd) (S : FnScope N ps scope)
    (len : ∀ vs H Q E, sp vs H Q E → vs.length = ps.length)
    (hbody : ∀ (cdv : Value) (A : Around) (outer : List PySem.Env) (s : Shared) (H : Hp) (vs : List V) (Q : VK) (E : XK), sp vs H Q E →
      ∃ t, PSs (cxQ P w K mg base N qual scope f cdv A outer s H E) body t ∧ t { nx := fun _ H' => Q .non H', rt := Q } (L2.start N vs) H) :
    FnQ P w K mg base (k + 1) f fd ps sp := by
  obtain ⟨oc, od, dV, kV, doc, pm, an, cdv, ct, osl, rfl, lk, hcd, _, _⟩ := F.ex
  refine ⟨len, fun A outer s H args us vs Q E hr e0 hb r hsp => ?_⟩
  have hl := len _ _ _ _ hsp
  have KX : K.In s.heap := e0.mod.kin.keeps fun b o e => (e0.bs b o e).1
  have lim : s.heap.NoLimit := e0.mod.nolimit.keeps fun b o e => (e0.bs b o e).1
  have hkind : ∀ y ∈ ps.zip us, scope.names.lookup y.1 = some .local ∨ (scope.names.lookup y.1 = some .cell ∧ ((cellsFrom (s.heap.objs.size + 1) scope.names []).lookup y.1).isSome = true) := fun ⟨n, v⟩ hy => by
    rcases S.par n (List.of_mem_zip hy).1 with q | q
    · exact .inl q
    · exact .inr ⟨q, PySem.W.cellsFrom_some _ _ _ (.inl q)⟩
  refine codeAny_call_function hr.depth (KX _ _ lk) rfl S.co S.gen rfl (PySem.W.codeRec_of KX hcd) (hb _ _ _ _ ?_)
  refine wpAny_newFunctionEnv_cells S.kind hkind fun env he s1 x => ?_
  subst he
  refine ⟨lim.keeps x.toInCall.keep, codeAny_func ?_⟩
  obtain ⟨t, ht, hq⟩ := hbody cdv A outer s H vs Q E hsp
  have I : Inv (cxQ P w K mg base N qual scope f cdv A outer s H E) [] (L2.start N vs) H s1 := inv_startQ S e0 hl r x
  refine wpAny_mono (ht.run [] s1 (L2.start N vs) H _ I hq) (fun fl s' hs => ?_) fun e s' hs => hs
  have fin : ∀ {σ' : L2.St} {H' : Hp} {v : V} {u : Value}, Inv (cxQ P w K mg base N qual scope f cdv A outer s H E) [] σ' H' s' → RelV v u → Q v H' → CE outer P w H s Q u s' :=
    fun {σ' H' v u} J rv q => ⟨v, H', J.os, J.bare, J.base, J.hok, rv, q⟩
  cases fl with
  | ret u =>
    obtain ⟨v, σ', H', J, rv, q⟩ := hs
    exact fin J rv q
  | next =>
    obtain ⟨σ', H', J, q⟩ := hs
    exact fin (v := V.non) (u := Value.none) J rfl q
  | brk =>
    obtain ⟨_, _, _, q⟩ := hs
    exact False.elim q
  | cont =>
    obtain ⟨_, _, _, q⟩ := hs
    exact False.elim q
end
structure GQ (P : Program) (w : World) (K : Frag) (mg : Str → Option Value) (base : Heap) (k : Nat) (x : Str) (sp : Sp) : Prop where
  ex : ∃ (f : Addr) (fd : FuncData) (ps : List Str), FnQ P w K mg base k f fd ps sp ∧ mg x = some (.ref f) ∧ PySem.W.keepIn K (.ref f) = true ∧ Binds K fd ps []
theorem pe_gq {X : Cx} {x : Str} {k : Nat} {sp : Sp} {p pos : Pos} {e : Expr} {es : List Expr} {t : TA} (G : GQ X.prog X.w X.K X.mg X.base k x sp) (hr : L2H.RoomH k X.A) (hg : Gl X x)
    (ha : PA X (e :: es) t) (hdb : (x == ("__debug__" : Str)) = false := by decide) (he : starEach (e :: es) X.env = (false, eval e X.env) :: starEach es X.env := by rfl) (hpl : (backTo pos (starEach es X.env)).any (·.1) = false := by rfl) :
    PE X (.Call (.Name x p) (e :: es) [] pos) (tCall sp [] C8.E0 t) := by
  obtain ⟨f, fd, ps, F, hm, hk, hb⟩ := G.ex
  refine ⟨fun pins s σ H Q I h => ?_⟩
  refine wpAny_Call_Name_kw (ld_glob I hg hm ?_ hdb)
  refine PySem.W.callWith_K (h₀ := X.base) I.ok.mod.kin hk (thn (ha.run pos pins s σ H _ I h) fun us s1 ⟨vs, H1, I1, r, q⟩ => ⟨I1.kIn, ?_⟩) he hpl
  have q : sp (vs ++ []) H1 Q C8.E0 := q
  rw [List.append_nil] at q
  have hl : us.length = ps.length := by rw [← r.length]; exact F.len _ _ _ _ q
  have b := hb s1 us I1.kIn (by rw [List.append_nil]; exact hl)
  rw [List.append_nil] at b
  refine wpAny_call (codeAny_mono (F.run X.A X.stack s1 H1 ⟨us, []⟩ us vs Q C8.E0 hr I1.env0 b r q) fun r s' hq => ?_)
  cases r with
  | error e => exact False.elim hq
  | ok fl =>
    cases fl with
    | ret u => exact I1.after hq
    | next => exact False.elim hq
    | brk => exact False.elim hq
    | cont => exact False.elim hq
/-! ### the pail -/
def Sb (a : Addr) (H H' : Hp) : Prop := ∀ b o, b ≠ a → H b = some o → H' b = some o
theorem Sb.trans {a : Addr} {H H1 H2 : Hp} (x : Sb a H H1) (y : Sb a H1 H2) : Sb a H H2 := fun b o n e => y b o n (x b o n e)
theorem Same.sb {a : Addr} {H H' : Hp} (x : Same H H') : Sb a H H' := fun b o _ e => x b o e
def spPail (K : Frag) : Sp := fun vs H Q _ => ∃ (a : Addr) (ns : List Int), vs = [.ref a] ∧ SqL K H a (ns.map V.int) ∧ ∀ p H', Same H H' → H p = none → (∃ c, Pail H' p c 0) → Q (.ref p) H'
structure spDip (vs : List V) (H : Hp) (Q : VK) (z_3 : XK) : Prop where
  un : ∃ (a c : Addr) (m : Int) (N : Nat), vs = [.ref a, .int m] ∧ Pail H a c N ∧ N ≤ 1000000 ∧ 0 < m ∧ m < 2 ^ 30 ∧ ∀ d H', 0 ≤ d → d < m → Pail H' a c (N + 1) → Sb a H H' → Q (.int d) H'
theorem shaped_ints (cs : List Int) : SeqAt.shaped (.list (cs.map PyData.int)) = true := by
  induction cs with
  | nil => rfl
  | cons c cs ih => exact ih
theorem dp_ints {K : Frag} {H : Hp} (cs : List Int) : DpAll K H (cs.map V.int) (cs.map PyData.int) := by
  induction cs with
  | nil => exact .nil
  | cons c cs ih => exact .cons (.int c) ih
theorem tailR {P : Int → Prop} {G : Prop} (main : (∀ x, P x) → G) (tl : ∀ x, P x) : G := main tl
/-- nothing in it looks like the pail -/
def pailish : List Dt → Bool
  | [.lst _, .int _, .int _] => true
  | _ => false
mutual
def noP : Dt → Bool
  | .tup l => noPs l
  | .book l => noPs l
  | .lst l => !pailish l && noPs l
  | _ => true
def noPs : List Dt → Bool
  | [] => true
  | d :: l => noP d && noPs l
end
def noPf : List (Str × Dt) → Bool
  | [] => true
  | d :: l => noP d.2 && noPf l
theorem own_noP {d : Dt} {c : Cn} {fs : List (Str × Dt)} (h : d.own = some (c, fs)) (n : noP d = true) : noPf fs = true := by
  cases d <;> (first | (cases h; done) | (cases h; first | rfl | (simpa [noPf, noP] using n)))
section
variable {K : Frag} {H H' : Hp}
theorem pail_ne {a c b : Addr} {N : Nat} {vs : List V} {l : List Dt} (ha : Pail H a c N) (h : H b = some (.lst vs)) (r : IsVs K H vs l) (n : noP (.lst l) = true) : b ≠ a := fun z => by
  obtain ⟨cs, x, g, h1, h2, _⟩ := ha
  rw [z, h1] at h
  cases h
  have n := (Bool.and_eq_true_iff.mp (show (!pailish l && noPs l) = true from n)).1
  cases r with
  | cons a1 r => cases r with
    | cons a2 r => cases r with
      | cons a3 r => cases r with
        | nil =>
          cases a2 with
          | int =>
            cases a3 with
            | int =>
              cases a1 with
              | tup h _ => rw [h2] at h; cases h
              | lst h _ => cases n
              | dct h => rw [h2] at h; cases h
              | own o h _ => rw [h2] at h; cases h
mutual
theorem IsV.sp {a c : Addr} {N : Nat} (ha : Pail H a c N) (e : Sbl a H H') : ∀ {v : V} {d : Dt}, IsV K H v d → noP d = true → IsV K H' v d
  | _, _, .non, _ => .non
  | _, _, .bl b, _ => .bl b
  | _, _, .int b, _ => .int b
  | _, _, .str b, _ => .str b
  | _, _, .tup h r, n => .tup (e _ _ (fun z => by obtain ⟨_, _, _, h1, _⟩ := ha; rw [z, h1] at h; cases h) (fun _ z => by cases z) h) (IsVs.sp ha e r n)
  | _, _, .lst h r, n => .lst (e _ _ (pail_ne ha h r n) (fun _ z => by cases z) h) (IsVs.sp ha e r (Bool.and_eq_true_iff.mp n).2)
  | _, _, .dct h, n => .dct (e _ _ (fun z => by obtain ⟨_, _, _, h1, _⟩ := ha; rw [z, h1] at h; cases h) (fun _ z => by cases z) h)
  | _, _, .own o h r, n => .own o (e _ _ (fun z => by obtain ⟨_, _, _, h1, _⟩ := ha; rw [z, h1] at h; cases h) (fun _ z => by cases z) h) (IsFs.sp ha e r (own_noP o n))
theorem IsVs.sp {a c : Addr} {N : Nat} (ha : Pail H a c N) (e : Sbl a H H') : ∀ {v : List V} {d : List Dt}, IsVs K H v d → noPs d = true → IsVs K H' v d
  | _, _, .nil, _ => .nil
  | _, _, .cons a b, n => .cons (IsV.sp ha e a (Bool.and_eq_true_iff.mp n).1) (IsVs.sp ha e b (Bool.and_eq_true_iff.mp n).2)
theorem IsFs.sp {a c : Addr} {N : Nat} (ha : Pail H a c N) (e : Sbl a H H') : ∀ {v : List (Str × V)} {d : List (Str × Dt)}, IsFs K H v d → noPf d = true → IsFs K H' v d
  | _, _, .nil, _ => .nil
  | _, _, .cons a b, n => .cons (IsV.sp ha e a (Bool.and_eq_true_iff.mp n).1) (IsFs.sp ha e b (Bool.and_eq_true_iff.mp n).2)
end
end
/-! ### the law's ledger -/
theorem tabsSbl {T : List (Addr × Str)} {H H' : Hp} {a : Addr} {xs : List V} (h : LamX.Tabs T H) (e : Sb a H H') (ha : H a = some (.lst xs)) : LamX.Tabs T H' := fun p hp => by
  obtain ⟨ps, h1, h2, h3⟩ := h p hp
  refine ⟨ps, e _ _ (fun z => ?_) h1, h2, fun pos cv hc => ?_⟩
  · rw [z, ha] at h1
    cases h1
  · obtain ⟨c, e1, e2⟩ := h3 pos cv hc
    refine ⟨c, e1, e _ _ (fun z => ?_) e2⟩
    rw [z, ha] at e2
    unfold LamX.CodeO at e2
    cases e2
section
variable {K : Frag} {T : List (Addr × Str)} {H0 H H' : Hp} {L : List (V × Dt)} {a c : Addr} {N : Nat} {Q : VK} {E : XK} {v : V} {d : Dt} {pp : Option (Addr × Addr × Nat)}
theorem lawNP {L : List (V × Dt)} (n : noPs (L.map (·.2)) = true) : ∀ e ∈ L, noP e.2 = true := by
  induction L with
  | nil => exact fun _ i => by cases i
  | cons x l ih =>
    intro e i
    have n := Bool.and_eq_true_iff.mp (show (noP x.2 && noPs (l.map (·.2))) = true from n)
    rcases List.mem_cons.mp i with rfl | i
    · exact n.1
    · exact ih n.2 e i
/-- a digit is drawn -/
theorem dipD {m : Int} (h : Env K (.law T (some (a, c, N))) H0 H L) (hN : N ≤ 999000) (m0 : 0 < m) (m1 : m < 2 ^ 30) (n : noPs (L.map (·.2)) = true)
    (k : ∀ d H', 0 ≤ d → d < m → Env K (.law T (some (a, c, N + 1))) H0 H' L → Q (.int d) H') : spDip [.ref a, .int m] H Q E := by
  have hp := h.at_.2 _ rfl
  obtain ⟨xs, hx⟩ := hp.lst
  refine ⟨a, c, m, N, rfl, hp, Nat.le_trans hN (by decide), m0, m1, fun d H' d0 d1 p s => k d H' d0 d1 ⟨?_, ⟨tabsSbl h.at_.1 s hx, fun q e => ?_⟩, fun e i => ?_⟩⟩
  · intro b o nb nt e
    exact s _ _ (nb (a, c, N + 1) rfl) (h.gr b o (fun q e => by cases e; exact nb (a, c, N + 1) rfl) nt e)
  · cases e
    exact p
  · exact IsV.sp hp (fun b o nb _ e => s b o nb e) (h.all e i) (lawNP n e i)
/-- what a def of the law leaves: d, one of P -/
structure spL (K : Frag) (cs : List Cn) (ts : List Ty0) (T : List (Addr × Str)) (n : Nat) (R : List Dt → Dt → Prop) (vs : List V) (H : Hp) (Q : VK) (z_3 : XK) : Prop where
  un : ∃ ds d, IsVs K H vs ds ∧ DsOk cs ts n ds ∧ R ds d ∧ LamX.Tabs T H ∧ ∀ v H', LamX.ExtN H H' → LamX.Tabs T H' → IsV K H' v d → Q v H'
/-- the same, a pail at first -/
structure spLP (K : Frag) (cs : List Cn) (ts : List Ty0) (T : List (Addr × Str)) (n M up : Nat) (Pr : List Dt → Prop) (R : List Dt → Dt → Prop) (vs : List V) (H : Hp) (Q : VK) (z_3 : XK) : Prop where
  un : ∃ (a c : Addr) (N : Nat) (args : List V) (ds : List Dt), vs = .ref a :: args ∧ IsVs K H args ds ∧ DsOk cs ts n ds ∧ noPs ds = true ∧ Pr ds ∧ LamX.Tabs T H ∧ Pail H a c N ∧ N ≤ M ∧
  ∀ v H' d, R ds d → (∀ b o, b ≠ a → (∀ ps, o ≠ .tbl ps) → H b = some o → H' b = some o) → LamX.Tabs T H' → Pail H' a c (N + up) → IsV K H' v d → Q v H'
variable {cs : List Cn} {ts : List Ty0} {n M up : Nat} {R : List Dt → Dt → Prop} {Pr : List Dt → Prop} {vs : List V} {ds : List Dt}
theorem Pail.extN {H H' : Hp} {a c : Addr} {N : Nat} (h : Pail H a c N) (e : LamX.ExtN H H') : Pail H' a c N := h.ext fun b o n e' => e b o e' n
theorem Env.extN (h : Env K (.law T pp) H0 H L) (e : LamX.ExtN H H') (t : LamX.Tabs T H') : Env K (.law T pp) H0 H' L :=
  ⟨fun b o nb nt e' => e b o (h.gr b o nb nt e') nt, ⟨t, fun q z => (h.at_.2 q z).extN e⟩, fun x i => (h.all x i).ext fun b o n e' => e b o e' n⟩
theorem lawL (h : Env K (.law T pp) H0 H L) (i : IsVs K H vs ds) (z : DsOk cs ts n ds) (r : R ds d) (k : ∀ v H', Env K (.law T pp) H0 H' ((v, d) :: L) → Q v H') : spL K cs ts T n R vs H Q E :=
  ⟨ds, d, i, z, r, h.at_.1, fun v H' e t i => k v H' ((h.extN e t).add i)⟩
theorem lawP (h : Env K (.law T (some (a, c, N))) H0 H L) (i : IsVs K H vs ds) (z : DsOk cs ts n ds) (nd : noPs ds = true) (pr : Pr ds) (hN : N ≤ M) (nl : noPs (L.map (·.2)) = true)
    (k : ∀ v H' d, R ds d → Env K (.law T (some (a, c, N + up))) H0 H' ((v, d) :: L) → Q v H') : spLP K cs ts T n M up Pr R (.ref a :: vs) H Q E := by
  have hp := h.at_.2 _ rfl
  refine ⟨a, c, N, vs, ds, rfl, i, z, nd, pr, h.at_.1, hp, hN, fun v H' d r e t p iv => k v H' d r ⟨?_, ⟨t, fun q e => ?_⟩, fun x i => ?_⟩⟩
  · exact fun b o nb nt e' => e b o (nb (a, c, N + up) rfl) nt (h.gr b o (fun q z => by cases z; exact nb (a, c, N + up) rfl) nt e')
  · cases e
    exact p
  · rcases List.mem_cons.mp i with rfl | i
    · exact iv
    · exact IsV.sp hp (fun b o nb nt e' => e b o nb nt e') (h.all x i) (lawNP nl x i)
theorem Env.ofL {H : Hp} (t : LamX.Tabs T H) : Env K (.law T none) H H [] := ⟨fun _ _ _ _ h => h, ⟨t, fun _ z => by cases z⟩, fun _ i => by cases i⟩
theorem Env.ofP {H : Hp} {a c : Addr} {N : Nat} (t : LamX.Tabs T H) (p : Pail H a c N) : Env K (.law T (some (a, c, N))) H H [] := ⟨fun _ _ _ _ h => h, ⟨t, fun _ z => by cases z; exact p⟩, fun _ i => by cases i⟩
/-! the ends -/
structure FinL (K : Frag) (T : List (Addr × Str)) (H : Hp) (d : Dt) (Q : VK) : Prop where
  un : ∀ v H', LamX.ExtN H H' → LamX.Tabs T H' → IsV K H' v d → Q v H'
structure FinP (K : Frag) (T : List (Addr × Str)) (H : Hp) (a c : Addr) (N : Nat) (R : Dt → Prop) (Q : VK) : Prop where
  un : ∀ v H' d, R d → (∀ b o, b ≠ a → (∀ ps, o ≠ .tbl ps) → H b = some o → H' b = some o) → LamX.Tabs T H' → Pail H' a c N → IsV K H' v d → Q v H'
theorem finL (q : FinL K T H0 d Q) (h : Env K (.law T none) H0 H L) (i : IsV K H v d) : Q v H := q.un v H (fun b o e nt => h.gr b o (fun _ z => by cases z) nt e) h.at_.1 i
theorem finP {R : Dt → Prop} {M : Nat} (q : FinP K T H0 a c M R Q) (h : Env K (.law T (some (a, c, N))) H0 H L) (hN : N ≤ M) (r : R d) (i : IsV K H v d) : Q v H :=
  q.un v H d r (fun b o nb nt e => h.gr b o (fun _ z => by cases z; exact nb) nt e) h.at_.1 ((h.at_.2 _ rfl).mono hN) i
end
section
variable {P : Program} {w : World} {K : Frag} {mg : Str → Option Value} {base : Heap} {x qual : Str} {params : Arguments} {body : List Stmt} {scope : Scope} {dvs : List V} {kws : List (Str × V)} {f c : Addr} {fd : FuncData} {CX : CXT} {N ps : List Str} {k n M up : Nat} {cs : List Cn} {ts : List Ty0} {T : List (Addr × Str)} {R : List Dt → Dt → Prop} {Pr : List Dt → Prop} {sp : Sp}
/-- as FunD.ok, the code object named -/
theorem okC (F : FunD K x qual params body scope dvs kws f fd) (hc : fd.code = .ref c) (S : FnScope N ps scope) (len : ∀ vs H Q E, sp vs H Q E → vs.length = ps.length)
    (hbody : ∀ (A : Around) (outer : List PySem.Env) (s : Shared) (H : Hp) (vs : List V) (Q : VK) (E : XK), Room k (A.deeper (envOfC qual scope s.heap.objs.size f (.ref c))) → sp vs H Q E →
      ∃ t, PSs (cxOf CX P w K mg base N qual scope f (.ref c) A outer s H E) body t ∧ t { nx := fun _ H' => Q .non H', rt := Q } (L2.start N vs) H) : FnOk P w K mg base CX (k + 1) f fd ps sp := by
  obtain ⟨oc, od, dV, kV, doc, pm, an, cdv, ct, osl, rfl, lk, hcd, _, _⟩ := F.ex
  have e : cdv = .ref c := hc
  subst e
  exact fn_of lk hcd S len fun A outer s H vs Q E hr hsp => hbody A outer s H vs Q E hr hsp
theorem okL (F : FunD K x qual params body scope dvs kws f fd) (hc : fd.code = .ref c) (S : FnScope N ps scope) (hl : ∀ ds d, R ds d → ds.length = ps.length)
    (hb : ∀ (A : Around) (outer : List PySem.Env) (s : Shared) (H : Hp) (ds : List Dt) (d : Dt) (Q : VK) (E : XK), Room k (A.deeper (envOfC qual scope s.heap.objs.size f (.ref c))) → DsOk cs ts n ds → R ds d → FinL K T H d Q → Env K (.law T none) H H [] →
      ∃ t, PSs (cxOf CX P w K mg base N qual scope f (.ref c) A outer s H E) body t ∧ AftA K H ds fun vs => t { nx := fun _ H' => Q .non H', rt := Q } (L2.start N vs) H) : FnOk P w K mg base CX (k + 1) f fd ps (spL K cs ts T n R) :=
  okC F hc S (fun vs H Q E ⟨ds, d, i, _, r, _⟩ => by rw [i.length]; exact hl _ _ r) fun A outer s H vs Q E hr ⟨ds, d, i, z, r, t, q⟩ => let ⟨tt, h1, h2⟩ := hb A outer s H ds d Q E hr z r ⟨q⟩ (Env.ofL t); ⟨tt, h1, h2.un vs i⟩
theorem okP (F : FunD K x qual params body scope dvs kws f fd) (hc : fd.code = .ref c) (S : FnScope N ps scope) (hl : ∀ ds, Pr ds → ds.length + 1 = ps.length)
    (hb : ∀ (A : Around) (outer : List PySem.Env) (s : Shared) (H : Hp) (a c' : Addr) (m : Nat) (ds : List Dt) (Q : VK) (E : XK), Room k (A.deeper (envOfC qual scope s.heap.objs.size f (.ref c))) → DsOk cs ts n ds → noPs ds = true → Pr ds → m ≤ M → FinP K T H a c' (m + up) (R ds) Q → Env K (.law T (some (a, c', m))) H H [] →
      ∃ t, PSs (cxOf CX P w K mg base N qual scope f (.ref c) A outer s H E) body t ∧ AftA K H ds fun vs => t { nx := fun _ H' => Q .non H', rt := Q } (L2.start N (.ref a :: vs)) H) : FnOk P w K mg base CX (k + 1) f fd ps (spLP K cs ts T n M up Pr R) :=
  okC F hc S (fun vs H Q E ⟨a, c, m, args, ds, e, i, _, _, r, _⟩ => by rw [e, List.length_cons, i.length]; exact hl _ r) fun A outer s H vs Q E hr ⟨a, c', m, args, ds, e, i, z, nd, r, t, p, hm, q⟩ => let ⟨tt, h1, h2⟩ := hb A outer s H a c' m ds Q E hr z nd r hm ⟨q⟩ (Env.ofP t p); ⟨tt, h1, by subst e; exact h2.un args i⟩
theorem okL0 (F : FunD K x qual params body scope dvs kws f fd) (S : FnScope N ps scope) (hl : ∀ ds d, R ds d → ds.length = ps.length)
    (hb : ∀ (cdv : Value) (A : Around) (outer : List PySem.Env) (s : Shared) (H : Hp) (ds : List Dt) (d : Dt) (Q : VK) (E : XK), Room k (A.deeper (envOfC qual scope s.heap.objs.size f cdv)) → DsOk cs ts n ds → R ds d → FinL K T H d Q → Env K (.law T none) H H [] →
      ∃ t, PSs (cxOf CX P w K mg base N qual scope f cdv A outer s H E) body t ∧ AftA K H ds fun vs => t { nx := fun _ H' => Q .non H', rt := Q } (L2.start N vs) H) : FnOk P w K mg base CX (k + 1) f fd ps (spL K cs ts T n R) :=
  F.ok S (fun vs H Q E ⟨ds, d, i, _, r, _⟩ => by rw [i.length]; exact hl _ _ r) fun cdv A outer s H vs Q E hr ⟨ds, d, i, z, r, t, q⟩ => let ⟨tt, h1, h2⟩ := hb cdv A outer s H ds d Q E hr z r ⟨q⟩ (Env.ofL t); ⟨tt, h1, h2.un vs i⟩
theorem okP0 (F : FunD K x qual params body scope dvs kws f fd) (S : FnScope N ps scope) (hl : ∀ ds, Pr ds → ds.length + 1 = ps.length)
    (hb : ∀ (cdv : Value) (A : Around) (outer : List PySem.Env) (s : Shared) (H : Hp) (a c' : Addr) (m : Nat) (ds : List Dt) (Q : VK) (E : XK), Room k (A.deeper (envOfC qual scope s.heap.objs.size f cdv)) → DsOk cs ts n ds → noPs ds = true → Pr ds → m ≤ M → FinP K T H a c' (m + up) (R ds) Q → Env K (.law T (some (a, c', m))) H H [] →
      ∃ t, PSs (cxOf CX P w K mg base N qual scope f cdv A outer s H E) body t ∧ AftA K H ds fun vs => t { nx := fun _ H' => Q .non H', rt := Q } (L2.start N (.ref a :: vs)) H) : FnOk P w K mg base CX (k + 1) f fd ps (spLP K cs ts T n M up Pr R) :=
  F.ok S (fun vs H Q E ⟨a, c, m, args, ds, e, i, _, _, r, _⟩ => by rw [e, List.length_cons, i.length]; exact hl _ r) fun cdv A outer s H vs Q E hr ⟨a, c', m, args, ds, e, i, z, nd, r, t, p, hm, q⟩ => let ⟨tt, h1, h2⟩ := hb cdv A outer s H a c' m ds Q E hr z nd r hm ⟨q⟩ (Env.ofP t p); ⟨tt, h1, by subst e; exact h2.un args i⟩
theorem FunD.okQR {k n : Nat} {cs : List Cn} {ts : List Ty0} {R : List Dt → Out → Prop} (F : FunD K x qual params body scope [] [] f fd) (S : FnScope N ps scope) (hl : ∀ ds o, R ds o → ds.length = ps.length)
    (hb : ∀ (cdv : Value) (A : Around) (outer : List PySem.Env) (s : Shared) (H : Hp) (ds : List Dt) (o : Out) (Q : VK) (E : XK), DsOk cs ts n ds → R ds o → Aft K H o Q E →
      ∃ t, PSs (cxQ P w K mg base N qual scope f cdv A outer s H E) body t ∧ AftA K H ds fun vs => t { nx := fun _ H' => Q .non H', rt := Q } (L2.start N vs) H) : FnQ P w K mg base (k + 1) f fd ps (spR K cs ts n R) :=
  Sp.FunD.okQ F S (fun vs H Q E ⟨ds, o, i, _, r, _⟩ => by rw [i.length]; exact hl _ _ r) fun cdv A outer s H vs Q E ⟨ds, o, i, z, r, q⟩ => let ⟨t, h1, h2⟩ := hb cdv A outer s H ds o Q E z r q; ⟨t, h1, h2.un vs i⟩
end
end Sp
end
section
set_option Elab.async false
set_option linter.all false
set_option exponentiation.threshold 5000
set_option maxRecDepth 100000
set_option maxHeartbeats 4000000
namespace Sp
open PySem PySem.Spec PyProof.Rows L2
open PySem.W (Frag)
theorem takesLen {X : Cx} {W : WX} (t : Takes X W) : Takes X (fun c d σ H => σ.length = X.N.length → W c d σ H) := fun u s' ⟨a, B, sI, pins, σ, H, cls, d, e, I, nb, up, sky, na, os, ag, w⟩ =>
  t u s' ⟨a, B, sI, pins, σ, H, cls, d, e, I, nb, up, sky, na, os, ag, w I.len⟩
/-! ### what is heard of a lambda -/
/-- (tag, what was told) -/
structure HOk (tag : Str) (Q : VK) (v : V) (H1 : Hp) : Prop where
  un : ∀ p, H1 p = none → Q (.ref p) (upd H1 p (.tup [.str tag, v]))
structure TTH (HE : VK → XK) (Hk : VK → VK) (tl : XK → Hp → VK → Prop) (H : Hp) (Q : VK) : Prop where
  un : ∀ R : VK, (∀ v H1, Hk Q v H1 → R v H1) → tl (HE Q) H R
/-- the classes with their tags and fields, and what else is heard -/
structure HEr (K : Frag) (tb : List (Str × Str × List Str)) (sp : VK → Value → List (Str × V) → Hp → Prop) (Q : VK) (cls : Value) (d : Option Addr) (H' : Hp) : Prop where
  un : ∃ dd gs, d = some dd ∧ H' dd = some (.xd gs) ∧
  ((∃ e ∈ tb, cls = .ref (cX K e.1) ∧ ∃ vs, e.2.2.map (fun f => gs.lookup f) = vs.map some ∧ ∀ p, H' p = none → Q (.ref p) (upd H' p (.tup (.str e.2.1 :: vs)))) ∨ sp Q cls gs H')
section
variable {K : Frag} {T : List (Addr × Str)} {pp : Option (Addr × Addr × Nat)} {m : Md} {H0 H H' : Hp} {L : List (V × Dt)} {Q : VK} {E : XK} {v : V} {d : Dt} {tb : List (Str × Str × List Str)} {sp : VK → Value → List (Str × V) → Hp → Prop} {fs : List (Str × Dt)} {tag x f g : Str}
theorem lamD {HE : VK → XK} {Hk : VK → VK} {t : XK → TE} {σ : L2.St} (h : Env K (.law T pp) H0 H L) (k : ∀ H1 R, (∀ v H1, Hk Q v H1 → R v H1) → Env K (.law T pp) H0 H1 L → t (HE Q) σ H1 R) : tLam T (TTH HE Hk) t σ H Q :=
  ⟨h.at_.1, fun H1 e t' => ⟨fun R r => k H1 R r (h.extN e t')⟩⟩
theorem hokD (h : Env K m H0 H L) (i : IsV K H v d) (k : ∀ p H', Env K m H0 H' ((.ref p, .tup [.str tag, d]) :: L) → Q (.ref p) H') : HOk tag Q v H :=
  .mk fun p n => k p _ ((h.step (Same.new' n)).add (.tup upd_same (.cons (.str _) (.cons (i.same (Same.new' n)) .nil))))
theorem herP1 (h : Env K m H0 H L) (hm : (x, tag, [f]) ∈ tb) (l : fs.lookup f = some d) (k : ∀ p H', Env K m H0 H' ((.ref p, .tup [.str tag, d]) :: L) → Q (.ref p) H') : AftE K H x fs (HEr K tb sp Q) := .mk fun dd H' gs s n e i => by
  obtain ⟨v, e1, iv⟩ := i.get l
  exact ⟨dd, gs, rfl, e, .inl ⟨_, hm, rfl, [v], by rw [List.map_cons, e1]; rfl, fun p n => k p _ (((h.step s).step (Same.new' n)).add (.tup upd_same (.cons (.str _) (.cons (iv.same (Same.new' n)) .nil))))⟩⟩
theorem herP2 {d2 : Dt} (h : Env K m H0 H L) (hm : (x, tag, [f, g]) ∈ tb) (l : fs.lookup f = some d) (l2 : fs.lookup g = some d2) (k : ∀ p H', Env K m H0 H' ((.ref p, .tup [.str tag, d, d2]) :: L) → Q (.ref p) H') : AftE K H x fs (HEr K tb sp Q) := .mk fun dd H' gs s n e i => by
  obtain ⟨v, e1, iv⟩ := i.get l
  obtain ⟨v2, e2, iv2⟩ := i.get l2
  exact ⟨dd, gs, rfl, e, .inl ⟨_, hm, rfl, [v, v2], by rw [List.map_cons, List.map_cons, e1, e2]; rfl, fun p n => k p _ (((h.step s).step (Same.new' n)).add (.tup upd_same (.cons (.str _) (.cons (iv.same (Same.new' n)) (.cons (iv2.same (Same.new' n)) .nil)))))⟩⟩
end
theorem dctD {K : Frag} {m : Md} {H0 H : Hp} {L : List (V × Dt)} {σ : L2.St} {Q : VK} (h : Env K m H0 H L) (k : ∀ p H', Env K m H0 H' ((.ref p, .dct) :: L) → Q (.ref p) H') : tDNewK σ H Q := ⟨fun p n => k p _ ((h.step (Same.new' n)).add (.dct upd_same))⟩
theorem herI {K : Frag} {tb : List (Str × Str × List Str)} {sp : VK → Value → List (Str × V) → Hp → Prop} {Q : VK} {cls : Value} {d : Option Addr} {H' : Hp} (h : HEr K tb sp Q cls d H') : ∃ dd gs, d = some dd ∧ H' dd = some (.xd gs) ∧
  ((∃ e ∈ tb, cls = .ref (cX K e.1) ∧ ∃ vs, e.2.2.map (fun f => gs.lookup f) = vs.map some ∧ ∀ p, H' p = none → Q (.ref p) (upd H' p (.tup (.str e.2.1 :: vs)))) ∨ sp Q cls gs H') := h.un
theorem tthI {HE : VK → XK} {Hk : VK → VK} {tl : XK → Hp → VK → Prop} {H : Hp} {Q : VK} (h : TTH HE Hk tl H Q) : ∀ R : VK, (∀ v H1, Hk Q v H1 → R v H1) → tl (HE Q) H R := h.un
theorem hokI {tag : Str} {Q : VK} {v : V} {H1 : Hp} (h : HOk tag Q v H1) : ∀ p, H1 p = none → Q (.ref p) (upd H1 p (.tup [.str tag, v])) := h.un
theorem herX {K : Frag} {m : Md} {H0 H : Hp} {L : List (V × Dt)} {x : Str} {fs : List (Str × Dt)} {tb : List (Str × Str × List Str)} {sp : VK → Value → List (Str × V) → Hp → Prop} {Q : VK} (h : Env K m H0 H L) (k : ∀ H' gs, Same H H' → IsFs K H' gs fs → sp Q (.ref (cX K x)) gs H') : AftE K H x fs (HEr K tb sp Q) :=
  .mk fun dd H' gs s n e i => ⟨dd, gs, rfl, e, .inr (k H' gs s i)⟩
theorem afMk {K : Frag} {H : Hp} {d : Dt} {Q : VK} (h : ∀ v H', Same H H' → IsV K H' v d → Q v H') : AftD K H d Q := .mk h
theorem pe_tupE {X : Cx} {es : List Expr} {t : TA} {pos : Pos} {x1 : Nat} (h : PA X es t) : PE X (.Tuple es x1 pos) (tTupD t) := pe_tupD h
theorem map1 {gs : List (Str × V)} {vs : List V} {f : Str} (h : [f].map (fun f => gs.lookup f) = vs.map some) : ∃ v, vs = [v] ∧ gs.lookup f = some v := by
  match vs, h with
  | [v], h => exact ⟨v, rfl, (List.cons.inj h).1⟩
  | [], h => exact absurd (congrArg List.length h) (by simp)
  | _ :: _ :: _, h => exact absurd (congrArg List.length h) (by simp)
theorem map2 {gs : List (Str × V)} {vs : List V} {f g : Str} (h : [f, g].map (fun f => gs.lookup f) = vs.map some) : ∃ v u, vs = [v, u] ∧ gs.lookup f = some v ∧ gs.lookup g = some u := by
  match vs, h with
  | [v, u], h => exact ⟨v, u, rfl, (List.cons.inj h).1, (List.cons.inj (List.cons.inj h).2).1⟩
  | [], h => exact absurd (congrArg List.length h) (by simp)
  | [_], h => exact absurd (congrArg List.length h) (by simp)
  | _ :: _ :: _ :: _, h => exact absurd (congrArg List.length h) (by simp)
/-! ### what the law's own defs do -/
inductive RTold : List Dt → Out → Prop
  | ok {k j : Int} : RTold [.step k j] (.ok (.tup [.int k, .int j]))
  | no {d : Dt} (h : d.is .Step = false) : RTold [d] (.ok .non)
inductive RComm : List Dt → Out → Prop
  | mk {a b : Int} : RComm [.int a, .int b] (.ok (.int ((Nat.gcd a.natAbs b.natAbs : Nat) : Int)))
inductive RNear : List Dt → Out → Prop
  | mk {k j a b : Int} (h : Mt k j a b) (l : k.natAbs < 31) (l2 : j.natAbs < 2 ^ 52) : RNear [.tup [.int k, .int j]] (.ok (.tup [.int a, .int b]))
structure Pk (n : Nat) (k j : Int) : Prop where
  nz : ¬ (k = 0 ∧ j = 0)
  k : k.natAbs < 2 ^ n
  j : j.natAbs < 2 ^ n
theorem Pk.mono {n m : Nat} {k j : Int} (h : Pk n k j) (l : n ≤ m) : Pk m k j := ⟨h.nz, nb_le h.k l, nb_le h.j l⟩
inductive ROne : List Dt → Dt → Prop
  | mk {k j : Int} (h : Pk 52 k j) : ROne [.tup [.int k, .int j]] (.bl true)
inductive RTwo : List Dt → Dt → Prop
  | mk {k j l i : Int} (h : Pk 52 k j) (h2 : Pk 52 l i) : RTwo [.tup [.int k, .int j], .tup [.int l, .int i]] (.bl true)
/-! the greatest common divisor, in 200 turns -/
theorem gcd_step {a b : Int} (a0 : 0 ≤ a) (b0 : 0 < b) : Nat.gcd b.natAbs (a % b).natAbs = Nat.gcd a.natAbs b.natAbs := by
  show Int.gcd b (a % b) = Int.gcd a b
  rw [Int.gcd_comm a b]
  have e : a % b = a - b * (a / b) := by have := Int.emod_add_mul_ediv a b; omega
  rw [e, Int.gcd_sub_mul_left_right]
theorem half_step {a b : Int} (b0 : 0 < b) (h : b ≤ a) : 2 * (b * (a % b)) ≤ b * a := by
  have h1 := Int.emod_lt_of_pos a b0
  have h0 := Int.emod_nonneg a (show b ≠ 0 by omega)
  have h2 := Int.emod_add_mul_ediv a b
  have h3 : 1 ≤ a / b := by
    have := (Int.le_ediv_iff_mul_le b0 (a := 1) (b := a)).mpr (by omega)
    exact this
  have h4 : b ≤ b * (a / b) := by
    have := Int.mul_le_mul_of_nonneg_left h3 (show 0 ≤ b by omega)
    omega
  have h5 : 2 * (a % b) ≤ a := by omega
  have := Int.mul_le_mul_of_nonneg_left h5 (show 0 ≤ b by omega)
  rw [Int.mul_left_comm] at this
  exact this
/-- after i turns -/
structure Eu (x y : Int) (i : Nat) (a b : Int) : Prop where
  a0 : 0 ≤ a
  b0 : 0 ≤ b
  g : Nat.gcd a.natAbs b.natAbs = Nat.gcd x.natAbs y.natAbs
  lt : 1 ≤ i → b = 0 ∨ b < a
  p : 1 ≤ i → a * b < 2 ^ (131 - i)
  q : a < 2 ^ 60 ∧ b < 2 ^ 60
theorem Eu.start {x y : Int} (hx : x.natAbs < 2 ^ 60) (hy : y.natAbs < 2 ^ 60) : Eu x y 0 (if x < 0 then -x else x) (if y < 0 then -y else y) := by
  refine ⟨by split <;> omega, by split <;> omega, ?_, fun h => by omega, fun h => by omega, ?_⟩
  · congr 1 <;> split <;> omega
  · constructor <;> split <;> omega
theorem Eu.step {x y : Int} {i : Nat} {a b : Int} (h : Eu x y i a b) (hb : 0 < b) (hi : i < 130) : Eu x y (i + 1) b (a % b) := by
  have l1 := Int.emod_lt_of_pos a hb
  have l0 := Int.emod_nonneg a (show b ≠ 0 by omega)
  have hq := h.q
  refine ⟨by omega, l0, by rw [gcd_step h.a0 hb, h.g], fun _ => .inr l1, fun _ => ?_, by omega, by omega⟩
  by_cases z : 1 ≤ i
  · have p := h.p z
    have l := h.lt z
    have hs := half_step hb (show b ≤ a by omega)
    have e : (2 : Int) ^ (131 - i) = 2 * 2 ^ (131 - (i + 1)) := by
      rw [show 131 - i = (131 - (i + 1)) + 1 by omega, Int.pow_succ]
      omega
    rw [e, Int.mul_comm a b] at p
    omega
  · obtain rfl : i = 0 := by omega
    have : b * (a % b) ≤ b * b := Int.mul_le_mul_of_nonneg_left (by omega) (by omega)
    have h2 : b * b ≤ 2 ^ 60 * 2 ^ 60 := Int.mul_le_mul (by omega) (by omega) (by omega) (by decide)
    have : (2 : Int) ^ 60 * 2 ^ 60 < 2 ^ (131 - (0 + 1)) := by decide
    omega
theorem Eu.stay {x y : Int} {i : Nat} {a b : Int} (h : Eu x y i a b) (hb : ¬ 0 < b) : Eu x y (i + 1) a b := by
  have b0 := h.b0
  obtain rfl : b = 0 := by omega
  exact ⟨h.a0, h.b0, h.g, fun _ => .inl rfl, fun _ => by rw [Int.mul_zero]; exact Int.pow_pos (by decide), h.q⟩
theorem Eu.done {x y : Int} {i : Nat} {a b : Int} (h : Eu x y i a b) (hi : 130 ≤ i) : b = 0 := by
  have p := h.p (by omega)
  have b0 := h.b0
  have a0 := h.a0
  rcases h.lt (by omega) with z | z
  · exact z
  · by_cases hb : b = 0
    · exact hb
    · have e : 1 * 2 ≤ a * b := by
        have : (2 : Int) * 1 ≤ a * b := Int.mul_le_mul (by omega) (by omega) (by omega) (by omega)
        omega
      have : (2 : Int) ^ (131 - i) ≤ 2 ^ 1 := by
        have := Nat.pow_le_pow_right (show 0 < 2 by decide) (show 131 - i ≤ 1 by omega)
        exact_mod_cast this
      omega
theorem Eu.gcd {x y : Int} {i : Nat} {a : Int} (h : Eu x y i a 0) : a = ((Nat.gcd x.natAbs y.natAbs : Nat) : Int) := by
  have g := h.g
  rw [show (0 : Int).natAbs = 0 from rfl, Nat.gcd_zero_right] at g
  have := h.a0
  omega
/-! ### equal data -/
theorem eqv_int2 (a b c d : Int) : PyData.eqv (.tuple [.int a, .int b]) (.tuple [.int c, .int d]) = (decide (a = c) && decide (b = d)) := by
  rw [Bool.eq_iff_iff]
  simp [PyData.eqv, PyData.eqvAll]
theorem eqv_tag2 (t u : Str) (p q : PyData) : PyData.eqv (.tuple [.str t, p]) (.tuple [.str u, q]) = (decide (t = u) && PyData.eqv p q) := by
  rw [Bool.eq_iff_iff]
  simp [PyData.eqv, PyData.eqvAll]
theorem IsV.intE {K : Frag} {H : Hp} {v : V} {i : Int} (h : IsV K H v (.int i)) : v = .int i := by
  cases h with
  | int => rfl
  | own o _ _ => cases o
theorem IsV.blE {K : Frag} {H : Hp} {v : V} {i : Bool} (h : IsV K H v (.bl i)) : v = .bl i := by
  cases h with
  | bl => rfl
  | own o _ _ => cases o
theorem IsV.tupE {K : Frag} {H : Hp} {v : V} {l : List Dt} (h : IsV K H v (.tup l)) : ∃ p, v = .ref p := by
  cases h with
  | tup => exact ⟨_, rfl⟩
  | own o _ _ => cases o
theorem lstI {xs : List V} {H : Hp} {Q : VK} (l : xs.length ≤ sizeLine) (h : ∀ p, H p = none → Q (.ref p) (upd H p (.lst xs))) : LstD xs H Q := ⟨l, h⟩
theorem tupI {xs : List V} {H : Hp} {Q : VK} (l : xs.length ≤ sizeLine) (h : ∀ p, H p = none → Q (.ref p) (upd H p (.tup xs))) : TupD xs H Q := ⟨l, h⟩
/-! the nearest one -/
theorem near_hit {k j x y here : Int} (h : Mt k j x y) (hk : k ≠ 0) (hle : here.natAbs ≤ x.natAbs) (hx : ¬ (here < 0 ∧ x = -here)) (c : Int) (e : here * j - 1 = c * k) : here = x := by
  have cr := h.cr
  have lo := h.lo hk
  have hi := h.hi hk
  obtain ⟨t, ht⟩ : ∃ t, here - x = t * k := by
    refine ⟨x * c - here * y, ?_⟩
    have e1 : x * (here * j) - here * (x * j) = 0 := by grind
    have e2 : x * (here * j) = x * (c * k) + x := by rw [show here * j = c * k + 1 by omega]; grind
    have e3 : here * (x * j) = here * (k * y) + here := by rw [show x * j = k * y + 1 by omega]; grind
    have e4 : (x * c - here * y) * k = x * (c * k) - here * (k * y) := by grind
    omega
  have hs : t = 0 ∨ 1 ≤ t ∨ t ≤ -1 := by omega
  have hK : k = ((k.natAbs : Nat) : Int) ∨ k = -((k.natAbs : Nat) : Int) := by omega
  rcases hs with rfl | hs | hs
  · rw [Int.zero_mul] at ht
    omega
  · have hm : ((k.natAbs : Nat) : Int) ≤ t * ((k.natAbs : Nat) : Int) := by
      have := Int.mul_le_mul_of_nonneg_right hs (show (0 : Int) ≤ ((k.natAbs : Nat) : Int) by omega)
      omega
    rcases hK with z | z
    · rw [z] at ht
      omega
    · rw [z, Int.mul_neg] at ht
      omega
  · have hm : ((k.natAbs : Nat) : Int) ≤ -(t * ((k.natAbs : Nat) : Int)) := by
      have := Int.mul_le_mul_of_nonneg_right (show 1 ≤ -t by omega) (show (0 : Int) ≤ ((k.natAbs : Nat) : Int) by omega)
      rw [Int.neg_mul] at this
      omega
    rcases hK with z | z
    · rw [z] at ht
      omega
    · rw [z, Int.mul_neg] at ht
      omega
theorem near_y {k j x y : Int} (h : Mt k j x y) (hk : k ≠ 0) : (x * j - 1).fdiv k = y ∧ (x * j - 1).fmod k = 0 := by
  have cr := h.cr
  have e : x * j - 1 = y * k := by
    rw [Int.mul_comm y k]
    omega
  rw [e]
  exact ⟨Int.mul_fdiv_cancel _ hk, Int.mul_fmod_left _ _⟩
theorem near_0 {j x y here : Int} (h : Mt 0 j x y) : here * j = 1 ↔ here = x := by
  have cr := h.cr
  rw [Int.zero_mul, Int.sub_zero] at cr
  have hj : j = 1 ∨ j = -1 := by
    have := Int.natAbs_mul x j
    rw [cr] at this
    have h1 : j.natAbs = 1 := Nat.eq_one_of_mul_eq_one_left (m := x.natAbs) this.symm
    omega
  rcases hj with rfl | rfl <;> omega
theorem near_n {k j x y : Int} (h : Mt k j x y) : x.natAbs < k.natAbs + 2 := by
  by_cases hk : k = 0
  · subst hk
    have := (near_0 (here := x) h).mpr rfl
    have h2 := Int.natAbs_mul x j
    rw [this] at h2
    have h1 : x.natAbs = 1 := Nat.eq_one_of_mul_eq_one_right (n := j.natAbs) h2.symm
    omega
  · have lo := h.lo hk
    have hi := h.hi hk
    omega
theorem rawL {K : Frag} {H : Hp} {p : Addr} (h : IsV K H (.ref p) (.lst [])) : H p = some (.lst []) := by
  cases h with
  | lst h r => cases r; exact h
  | own o _ _ => cases o
theorem rawT2 {K : Frag} {H : Hp} {p : Addr} {a b : Int} (h : IsV K H (.ref p) (.tup [.int a, .int b])) : H p = some (.tup [.int a, .int b]) := by
  cases h with
  | tup h r =>
    cases r with
    | cons r1 r => cases r with
      | cons r2 r =>
        cases r
        rw [r1.intE, r2.intE] at h
        exact h
  | own o _ _ => cases o
theorem rawLT {K : Frag} {H : Hp} {p : Addr} {a b : Int} (h : IsV K H (.ref p) (.lst [.tup [.int a, .int b]])) : ∃ t, H p = some (.lst [.ref t]) ∧ H t = some (.tup [.int a, .int b]) := by
  cases h with
  | lst h r =>
    cases r with
    | cons r1 r =>
      cases r
      obtain ⟨t, rfl⟩ := r1.tupE
      exact ⟨t, h, rawT2 r1⟩
  | own o _ _ => cases o
theorem afterApp {K : Frag} {H H2 : Hp} {L : List (V × Dt)} {p t t0 : Addr} {x y a b : Int} (e : Env K .fn H H2 L) (hp : H p = none) (h : H2 p = some (.lst [])) (ht : IsV K H2 (.ref t) (.tup [.int x, .int y])) (ht0 : IsV K H2 (.ref t0) (.tup [.int a, .int b])) :
    Env K .fn H (upd H2 p (.lst [.ref t])) [(.ref p, .lst [.tup [.int x, .int y]]), (.ref t0, .tup [.int a, .int b])] := by
  have r := rawT2 ht
  have r0 := rawT2 ht0
  have n : t ≠ p := fun z => by rw [z, h] at r; cases r
  have n0 : t0 ≠ p := fun z => by rw [z, h] at r0; cases r0
  have i1 : IsV K (upd H2 p (.lst [.ref t])) (.ref t0) (.tup [.int a, .int b]) := .tup (by rw [upd_ne n0]; exact r0) (.cons (.int _) (.cons (.int _) .nil))
  have i2 : IsV K (upd H2 p (.lst [.ref t])) (.ref p) (.lst [.tup [.int x, .int y]]) := .lst upd_same (.cons (.tup (by rw [upd_ne n]; exact r) (.cons (.int _) (.cons (.int _) .nil))) .nil)
  have sm : Same H (upd H2 p (.lst [.ref t])) := fun b o eb => by
    rw [upd_ne (fun z => by rw [z, hp] at eb; cases eb)]
    exact e.gr b o eb
  exact (((Env.of H).step sm).add i1).add i2
end Sp
end
section
set_option Elab.async false
set_option linter.all false
set_option maxRecDepth 100000
set_option maxHeartbeats 4000000
namespace Sp
open PySem PySem.Spec PyProof.Rows L2 TL
theorem sum_mem {l : List Nat} {a : Nat} (h : a ∈ l) : a ≤ l.sum := by
  induction l with
  | nil => cases h
  | cons b l ih =>
    rw [List.sum_cons]
    rcases List.mem_cons.mp h with rfl | h
    · omega
    · have := ih h
      omega
theorem tOk {x : Str} (h : x.length ≤ 90000) : TOk x := by
  have w := split_weight x " " (by decide)
  refine ⟨by omega, ?_, fun v hv => ?_⟩
  · show (Txt.split x " ").length ≤ _
    omega
  · have := sum_mem (List.mem_map_of_mem (f := fun s : Str => s.length) hv)
    have e : ((Txt.split x " ").map (·.length)).sum = ((wsOf x).map fun s : Str => s.length).sum := rfl
    omega
theorem ws_join {ws : List Str} (hne : ws ≠ []) (hp : ∀ w ∈ ws, 32 ∉ tl w) : wsOf (Txt.join " " ws) = ws := split_join (y := " ") (s := 32) (S := []) rfl (by decide +kernel) hne hp
theorem ws_two (k j : Int) : wsOf (dS k ++ (Str.ofString " " ++ dS j)) = [dS k, dS j] := by
  have e : dS k ++ (Str.ofString " " ++ dS j) = Txt.join " " [dS k, dS j] := by
    apply ext_tl
    rw [tl_append, tl_append, join_eq, tl_join]
    first | rfl | simp [joinL]
  rw [e]
  refine ws_join (by simp) fun w hw => ?_
  rcases List.mem_cons.mp hw with rfl | hw
  · exact dS_free (by decide) (by decide)
  · rcases List.mem_cons.mp hw with rfl | hw
    · exact dS_free (by decide) (by decide)
    · cases hw
theorem lt60 {k : Int} (h : k.natAbs < 2 ^ 52) : k.natAbs < 10 ^ 60 := Nat.lt_of_lt_of_le h (by decide)
theorem rd_own {k j : Int} (h : Pk 52 k j) : RReadBy RTakeS [.str (dS k ++ (Str.ofString " " ++ dS j))] (.ok (.step k j)) := by
  have l1 := len_dS (lt60 h.k)
  have l2 := len_dS (lt60 h.j)
  have e := ws_two k j
  have es : (Str.ofString " ").length = 1 := rfl
  refine .ok (tOk (by rw [lenApp, lenApp]; omega)) ?_
  rw [e]
  refine .ok ?_ ?_ h.nz
  · show intW (dS k) = some k
    exact intW_dS (lt60 h.k)
  · show intW (dS j) = some j
    exact intW_dS (lt60 h.j)
/-! the same, what is read freed of the context -/
section
variable {X : Cx} {CX : CXT} {k : Nat} {C : Addr} {sp : Sp} {E : XK} {op : Operator} {o : Expr} {f : Str} {pos : Pos} {ta : TE}
theorem pe_propXK (K : PySem.W.Frag) (hK : X.K = K) (he : PE X o ta) (G : GP X.prog X.w X.K X.mg X.base (L2.CX X.prog X.w) k C f sp) (hr : Room (k + 1) X.A) (hx : Passes (L2.CX X.prog X.w) X E) (hab : attributeBase o f X.env (eval o X.env) = eval o X.env) : PE X (.Attribute o f pos) (tPropD C sp (fun c d H' => Na K c ∧ E c d H') ta) := by
  subst hK
  exact pe_propX he G hr hx hab
theorem op_goXK (K : PySem.W.Frag) (hK : X.K = K) (G : GO X.prog X.w X.K X.mg X.base CX k C op sp) (hr : Room k X.A) (hx : Passes CX X E) : OpR X (binaryOp op) (rBinX K C op sp E) := by
  subst hK
  exact op_goX G hr hx
end
theorem RUpw_up {k j : Int} (h : ¬ (k = 0 ∧ j = 0)) (u : upS k j = true) : RUpw [.step k j] (.ok (.step k j)) := by
  have r := RUpw.mk h
  rw [u] at r
  exact r
theorem RUpw_dn {k j : Int} (h : ¬ (k = 0 ∧ j = 0)) (u : upS k j = false) : RUpw [.step k j] (.ok (.step (-k) (-j))) := by
  have r := RUpw.mk h
  rw [u] at r
  exact r
theorem finLB {K : PySem.W.Frag} {T : List (Addr × Str)} {H0 H : Hp} {L : List (V × Dt)} {Q : VK} {b b' : Bool} (q : FinL K T H0 (.bl b) Q) (h : Env K (.law T none) H0 H L) (e : b' = b) : Q (.bl b') H := finL q h (e ▸ .bl _)
theorem corner_eq {j k : Int} (hk : k ≠ 0) : (Rat.divInt j k).num * k = j * ((Rat.divInt j k).den : Nat) :=
  (Rat.divInt_eq_divInt_iff (by have := (Rat.divInt j k).den_nz; omega) hk).mp (Rat.num_divInt_den (Rat.divInt j k))
theorem corner_den {j k : Int} (hk : k ≠ 0) : (if k < 0 then -k else k).fdiv ((Nat.gcd k.natAbs j.natAbs : Nat) : Int) = ((Rat.divInt j k).den : Nat) := by
  have c := comm_den (a := j) (b := k) hk
  unfold comm at c
  rw [Nat.gcd_comm]
  by_cases h : 0 < k
  · rw [if_pos h] at c
    rw [if_neg (by omega)]
    exact c
  · rw [if_neg h] at c
    rw [if_pos (by omega), ← c, ← Int.neg_fdiv_neg (-k), Int.neg_neg]
theorem lamR {tag : Str} {Q R : VK} {v : V} {H : Hp} (h : ∀ v H1, HOk tag Q v H1 → R v H1) (k : HOk tag Q v H) : R v H := h v H k
end Sp
end
section
set_option Elab.async false
set_option linter.all false
set_option exponentiation.threshold 5000
set_option maxRecDepth 100000
set_option maxHeartbeats 0
local macro_rules | `(tactic| walk_at "mem") => `(tactic| first | exact List.mem_cons_self | (refine List.mem_cons_of_mem _ ?_; walk_at "mem"))
local macro_rules | `(tactic| walk_at "isv") => `(tactic| first | exact Sp.IsV.int _ | exact Sp.IsV.str _ | exact Sp.IsV.bl _ | exact Sp.IsV.non | exact Sp.Env.get (by assumption) (by walk_at "mem") | assumption)
local macro_rules | `(tactic| walk_at "isvs") => `(tactic| first | exact Sp.IsVs.nil | (refine' Sp.IsVs.cons ?iv ?rs; (case iv => walk_at "isv"); (case rs => walk_at "isvs")))
local macro_rules | `(tactic| walk_at "isfs") => `(tactic| first | exact Sp.IsFs.nil | (refine' Sp.IsFs.cons ?iv ?rs; (case iv => walk_at "isv"); (case rs => walk_at "isfs")))
local macro_rules | `(tactic| walk_at "sz1") => `(tactic| first | exact trivial | exact Sp.biI _ | exact Sp.bqI _ | exact ⟨Sp.biI _, Sp.biI _⟩ | exact ⟨Sp.bqI _, Sp.bqI _⟩ | exact ⟨⟨Sp.biI _, Sp.biI _⟩, Sp.biI _, Sp.biI _⟩ | exact ⟨Sp.bqI _, Sp.bqI _, Sp.bqI _⟩ | assumption | exact Sp.SzD.mono (by assumption) (by decide))
local macro_rules | `(tactic| walk_at "okt") => `(tactic| first | rfl | assumption | decide)
local macro_rules | `(tactic| walk_at "dsok") => `(tactic| first | exact trivial | (refine And.intro (And.intro ?oa ?ob) ?rs; (case oa => walk_at "okt"); (case ob => walk_at "sz1"); (case rs => walk_at "dsok")))
local macro_rules | `(tactic| walk_at "sc") => `(tactic| first | rfl | assumption | decide | omega)
local macro_rules | `(tactic| walk_at "leaf") => `(tactic| first | rfl | assumption | exact True.intro | exact ⟨_, rfl⟩ | exact L2.upd_same | exact L2.ClsV.ty _ | exact L2.ClsV.own _ | decide | exact of_decide_eq_true rfl | exact Sp.cmI _ _ | exact Sp.cdI _ (by first | assumption | omega) | exact Sp.cmL (by decide) | exact Sp.cmR (by decide) | exact ⟨by decide, by decide, by decide⟩ | exact ⟨by decide, by decide⟩ | omega | fail)
local macro_rules | `(tactic| walk_at "cls") => `(tactic| first | exact Sp.ClsD.int | exact Sp.ClsD.bool | exact Sp.ClsD.str | exact Sp.ClsD.own _ | exact Sp.ClsD.tuple | exact Sp.ClsD.list)
local macro_rules | `(tactic| walk_at "args") => `(tactic| repeat (first
  | refine' Sp.aaInt ?_ | refine' Sp.aaBl ?_ | refine' Sp.aaStr ?_ | refine' Sp.aaNon ?_ | (refine' Sp.aaOwn (by assumption) (by rfl) ?_; intro _ _) | (refine' Sp.aaTup (by assumption) ?_; intro _ _) | (refine' Sp.aaAny (by assumption) ?_; intro _ _) | refine' Sp.aaNil ?_))
local macro_rules | `(tactic| walk_at "rd1") => `(tactic| first
  | apply Sp.exI
  | (refine And.intro ?lf ?_; (case lf => walk_at "leaf"))
  | (show @ite Prop (_ = true) _ _ _; first | refine' Sp.iteT (by first | assumption | rfl | exact Sp.nbT (by assumption) | exact Sp.nbF (by assumption)) ?_ | refine' Sp.iteF (by first | assumption | rfl | exact Sp.nbT (by assumption) | exact Sp.nbF (by assumption)) ?_)
  | (refine' Sp.afInt (by assumption) ?_; intro _ _) | (refine' Sp.afBl (by assumption) ?_; intro _ _) | (refine' Sp.afStr (by assumption) ?_; intro _ _) | (refine' Sp.afNon (by assumption) ?_; intro _ _)
  | (refine' Sp.afOwn (by assumption) (by rfl) ?_; intro _ _ _) | (refine' Sp.afTup (by assumption) ?_; intro _ _ _) | (refine' Sp.afRef (by assumption) ?_; intro _ _ _)
  | refine' Sp.asInt ?_ | refine' Sp.asBl ?_ | refine' Sp.asStr ?_ | refine' Sp.asNon ?_
  | (refine' Sp.asOwn (by assumption) (by rfl) ?_; intro _ _) | (refine' Sp.asTup (by assumption) ?_; intro _ _) | (refine' Sp.asRef (by assumption) ?_; intro _ _)
  | refine' Sp.aaInt ?_ | refine' Sp.aaBl ?_ | refine' Sp.aaStr ?_ | refine' Sp.aaNon ?_ | (refine' Sp.aaOwn (by assumption) (by rfl) ?_; intro _ _) | (refine' Sp.aaTup (by assumption) ?_; intro _ _) | (refine' Sp.aaAny (by assumption) ?_; intro _ _) | refine' Sp.aaNil ?_
  | (refine' Sp.fnR ?i ?z ?r ?_; (case i => walk_at "isvs"); (case z => walk_at "dsok"); (case r => walk_at "rel"))
  | (refine' Sp.makeOk ?i ?z ?r ?o ?_; (case i => walk_at "isvs"); (case z => walk_at "dsok"); (case r => walk_at "rel"); (case o => rfl))
  | (refine' Sp.makeEr ?i ?z ?r ?_; (case i => walk_at "isvs"); (case z => walk_at "dsok"); (case r => walk_at "rel"))
  | (refine' Sp.isiD (by assumption) ?i ?c ?o ?t ?_; (case i => walk_at "isv"); (case c => walk_at "cls"); (case o => walk_at "okt"); (case t => decide))
  | (refine' Sp.fldD (by assumption) ?i ?o ?l ?c ?_; (case i => walk_at "isv"); (case o => rfl); (case l => rfl); (case c => decide))
  | (refine' Sp.fldRaw (by assumption) (by assumption) (by rfl) (by decide) (by decide) ?_)
  | (refine' Sp.methRaw (by assumption) (by rfl) ?_)
  | (refine' Sp.setRaw (by assumption) (by assumption) (by rfl) (by decide) (by decide) ?_)
  | (refine' Sp.strD ?i ?o ?_; (case i => walk_at "isv"); (case o => rfl))
  | (refine' Sp.methD ?i ?o ?l ?_; (case i => walk_at "isv"); (case o => rfl); (case l => rfl))
  | (refine' Sp.propD ?i ?o ?_; (case i => walk_at "isv"); (case o => rfl))
  | (refine' Sp.binD ?i ?o ?j ?e ?_; (case i => walk_at "isv"); (case o => rfl); (case j => walk_at "isv"); (case e => rfl))
  | (refine' Sp.unD ?i ?o ?_; (case i => walk_at "isv"); (case o => rfl))
  | (refine' Sp.absD ?i ?o ?_; (case i => walk_at "isv"); (case o => rfl))
  | (refine' Sp.eqOwnD (by assumption) ?i ?o ?j ?e ?n ?_; (case i => walk_at "isv"); (case o => rfl); (case j => walk_at "isv"); (case e => walk_at "okt"); (case n => walk_at "nf"))
  | (refine' Sp.neOwnD (by assumption) ?i ?o ?j ?e ?n ?_; (case i => walk_at "isv"); (case o => rfl); (case j => walk_at "isv"); (case e => walk_at "okt"); (case n => walk_at "nf"))
  | (refine' Sp.tupD (by assumption) ?i ?l ?_; (case i => walk_at "isvs"); (case l => rfl); intro _ _ _)
  | (refine' Sp.lstD (by assumption) ?i ?l ?_; (case i => walk_at "isvs"); (case l => rfl); intro _ _ _)
  | (refine' Sp.raiseD (by assumption) ?i ?e ?l ?_; (case i => walk_at "isvs"); (case e => rfl); (case l => rfl))
  | (refine' Sp.setD (by assumption) (by assumption) rfl rfl rfl (by decide) (by decide) ?_; intro _ _)
  | (refine' Sp.ixTD ?i ?e ?g ?_; (case i => walk_at "isv"); (case e => rfl); (case g => rfl))
  | (refine' Sp.ixLD ?i ?e ?g ?_; (case i => walk_at "isv"); (case e => rfl); (case g => rfl))
  | (refine' Sp.gTupD ?i ?e ?_; (case i => walk_at "isv"); (case e => rfl))
  | (refine' Sp.finD' (by assumption) (by assumption) ?i; (case i => walk_at "isv"))
  | refine' Sp.finE' (by assumption) (by assumption)
  | refine' Sp.finIE (by assumption) (by assumption) (by assumption)
  | (refine' Sp.dipD (by assumption) (by omega) ?m0 ?m1 ?n ?_; (case m0 => first | decide | omega); (case m1 => first | decide | omega); (case n => rfl); intro _ _ _ _ _)
  | (refine' Sp.lawL (by assumption) ?i ?z ?r ?_; (case i => walk_at "isvs"); (case z => walk_at "dsok"); (case r => walk_at "rel"); intro _ _ _)
  | (refine' Sp.lawP (by assumption) ?i ?z ?nd ?pr (by omega) ?nl ?_; (case i => walk_at "isvs"); (case z => walk_at "dsok"); (case nd => rfl); (case pr => walk_at "pre"); (case nl => rfl))
  | (refine' Sp.dctD (by assumption) ?_; intro _ _ _)
  | (refine' Sp.eqDD ?i ?j ?e ?f ?s ?t ?_; (case i => walk_at "isv"); (case j => walk_at "isv"); (case e => rfl); (case f => rfl); (case s => rfl); (case t => rfl))
  | (refine' Sp.neDD ?i ?j ?e ?f ?s ?t ?_; (case i => walk_at "isv"); (case j => walk_at "isv"); (case e => rfl); (case f => rfl); (case s => rfl); (case t => rfl))
  | (refine' Sp.lamD (by assumption) ?_; intro _ _ _ _)
  | (refine' Sp.hokD (by assumption) ?i ?_; (case i => walk_at "isv"); intro _ _ _)
  | (refine' Sp.herP1 (by assumption) ?m ?l ?_; (case m => walk_at "mem"); (case l => rfl); intro _ _ _)
  | (refine' Sp.herP2 (by assumption) ?m ?l ?l2 ?_; (case m => walk_at "mem"); (case l => rfl); (case l2 => rfl); intro _ _ _)
  | (refine' Sp.finL (by assumption) (by assumption) ?i; (case i => walk_at "isv"))
  | fail)
local macro_rules | `(tactic| walk_at "rd1N") => `(tactic| first
  | apply Sp.exI
  | (refine And.intro ?lf ?_; (case lf => walk_at "leaf"))
  | (show @ite Prop (_ = true) _ _ _; first | refine' Sp.iteT (by first | assumption | rfl | exact Sp.nbT (by assumption) | exact Sp.nbF (by assumption)) ?_ | refine' Sp.iteF (by first | assumption | rfl | exact Sp.nbT (by assumption) | exact Sp.nbF (by assumption)) ?_)
  | (refine' Sp.afInt (by assumption) ?_; intro _ _) | (refine' Sp.afBl (by assumption) ?_; intro _ _) | (refine' Sp.afStr (by assumption) ?_; intro _ _) | (refine' Sp.afNon (by assumption) ?_; intro _ _)
  | (refine' Sp.afOwn (by assumption) (by rfl) ?_; intro _ _ _) | (refine' Sp.afTup (by assumption) ?_; intro _ _ _) | (refine' Sp.afRef (by assumption) ?_; intro _ _ _)
  | refine' Sp.asInt ?_ | refine' Sp.asBl ?_ | refine' Sp.asStr ?_ | refine' Sp.asNon ?_
  | (refine' Sp.asOwn (by assumption) (by rfl) ?_; intro _ _) | (refine' Sp.asTup (by assumption) ?_; intro _ _) | (refine' Sp.asRef (by assumption) ?_; intro _ _)
  | refine' Sp.aaInt ?_ | refine' Sp.aaBl ?_ | refine' Sp.aaStr ?_ | refine' Sp.aaNon ?_ | (refine' Sp.aaOwn (by assumption) (by rfl) ?_; intro _ _) | (refine' Sp.aaTup (by assumption) ?_; intro _ _) | (refine' Sp.aaAny (by assumption) ?_; intro _ _) | refine' Sp.aaNil ?_
  | (refine' Sp.fnR ?i ?z ?r ?_; (case i => walk_at "isvs"); (case z => walk_at "dsok"); (case r => walk_at "rel"))
  | (refine' Sp.makeOk ?i ?z ?r ?o ?_; (case i => walk_at "isvs"); (case z => walk_at "dsok"); (case r => walk_at "rel"); (case o => rfl))
  | (refine' Sp.makeEr ?i ?z ?r ?_; (case i => walk_at "isvs"); (case z => walk_at "dsok"); (case r => walk_at "rel"))
  | (refine' Sp.isiD (by assumption) ?i ?c ?o ?t ?_; (case i => walk_at "isv"); (case c => walk_at "cls"); (case o => walk_at "okt"); (case t => decide))
  | (refine' Sp.fldD (by assumption) ?i ?o ?l ?c ?_; (case i => walk_at "isv"); (case o => rfl); (case l => rfl); (case c => decide))
  | (refine' Sp.fldRaw (by assumption) (by assumption) (by rfl) (by decide) (by decide) ?_)
  | (refine' Sp.methRaw (by assumption) (by rfl) ?_)
  | (refine' Sp.setRaw (by assumption) (by assumption) (by rfl) (by decide) (by decide) ?_)
  | (refine' Sp.strD ?i ?o ?_; (case i => walk_at "isv"); (case o => rfl))
  | (refine' Sp.methD ?i ?o ?l ?_; (case i => walk_at "isv"); (case o => rfl); (case l => rfl))
  | (refine' Sp.propD ?i ?o ?_; (case i => walk_at "isv"); (case o => rfl))
  | (refine' Sp.binD ?i ?o ?j ?e ?_; (case i => walk_at "isv"); (case o => rfl); (case j => walk_at "isv"); (case e => rfl))
  | (refine' Sp.unD ?i ?o ?_; (case i => walk_at "isv"); (case o => rfl))
  | (refine' Sp.absD ?i ?o ?_; (case i => walk_at "isv"); (case o => rfl))
  | (refine' Sp.eqOwnD (by assumption) ?i ?o ?j ?e ?n ?_; (case i => walk_at "isv"); (case o => rfl); (case j => walk_at "isv"); (case e => walk_at "okt"); (case n => walk_at "nf"))
  | (refine' Sp.neOwnD (by assumption) ?i ?o ?j ?e ?n ?_; (case i => walk_at "isv"); (case o => rfl); (case j => walk_at "isv"); (case e => walk_at "okt"); (case n => walk_at "nf"))
  | (refine' Sp.raiseD (by assumption) ?i ?e ?l ?_; (case i => walk_at "isvs"); (case e => rfl); (case l => rfl))
  | (refine' Sp.setD (by assumption) (by assumption) rfl rfl rfl (by decide) (by decide) ?_; intro _ _)
  | (refine' Sp.ixTD ?i ?e ?g ?_; (case i => walk_at "isv"); (case e => rfl); (case g => rfl))
  | (refine' Sp.ixLD ?i ?e ?g ?_; (case i => walk_at "isv"); (case e => rfl); (case g => rfl))
  | (refine' Sp.gTupD ?i ?e ?_; (case i => walk_at "isv"); (case e => rfl))
  | (refine' Sp.finD' (by assumption) (by assumption) ?i; (case i => walk_at "isv"))
  | refine' Sp.finE' (by assumption) (by assumption)
  | refine' Sp.finIE (by assumption) (by assumption) (by assumption)
  | (refine' Sp.dipD (by assumption) (by omega) ?m0 ?m1 ?n ?_; (case m0 => first | decide | omega); (case m1 => first | decide | omega); (case n => rfl); intro _ _ _ _ _)
  | (refine' Sp.lawL (by assumption) ?i ?z ?r ?_; (case i => walk_at "isvs"); (case z => walk_at "dsok"); (case r => walk_at "rel"); intro _ _ _)
  | (refine' Sp.lawP (by assumption) ?i ?z ?nd ?pr (by omega) ?nl ?_; (case i => walk_at "isvs"); (case z => walk_at "dsok"); (case nd => rfl); (case pr => walk_at "pre"); (case nl => rfl))
  | (refine' Sp.dctD (by assumption) ?_; intro _ _ _)
  | (refine' Sp.eqDD ?i ?j ?e ?f ?s ?t ?_; (case i => walk_at "isv"); (case j => walk_at "isv"); (case e => rfl); (case f => rfl); (case s => rfl); (case t => rfl))
  | (refine' Sp.neDD ?i ?j ?e ?f ?s ?t ?_; (case i => walk_at "isv"); (case j => walk_at "isv"); (case e => rfl); (case f => rfl); (case s => rfl); (case t => rfl))
  | (refine' Sp.lamD (by assumption) ?_; intro _ _ _ _)
  | (refine' Sp.hokD (by assumption) ?i ?_; (case i => walk_at "isv"); intro _ _ _)
  | (refine' Sp.herP1 (by assumption) ?m ?l ?_; (case m => walk_at "mem"); (case l => rfl); intro _ _ _)
  | (refine' Sp.herP2 (by assumption) ?m ?l ?l2 ?_; (case m => walk_at "mem"); (case l => rfl); (case l2 => rfl); intro _ _ _)
  | (refine' Sp.finL (by assumption) (by assumption) ?i; (case i => walk_at "isv"))
  | fail)
local macro_rules | `(tactic| walk_at "rdN") => `(tactic| repeat (walk_at "rd1N"))
local macro_rules | `(tactic| walk_at "rd") => `(tactic| repeat (walk_at "rd1"))
local macro_rules | `(tactic| walk_at "zs") => `(tactic| (refine' Sp.zsStart (by assumption) ?_; repeat (first | refine' Sp.zsNil ?_ | (refine' Sp.zsInt ?_; intro _) | (refine' Sp.zsRat ?_; intro _) | (refine' Sp.zsStep ?_; intro _ _) | (refine' Sp.zsStem ?_; intro _ _) | (refine' Sp.zsTable ?_; intro _ _ _ _) | (refine' Sp.zsAny ?_; intro _ _))))
local macro_rules | `(tactic| walk_at "go0") => `(tactic| (walk_at "zs"; (have := Sp.Env.of (K := ‹PySem.W.Frag›) ‹L2.Hp›); walk_at "args"))
local macro_rules | `(tactic| walk_at "go") => `(tactic| (walk_at "go0"; walk_at "rd"))
local macro_rules | `(tactic| walk_at "goI0") => `(tactic| (walk_at "zs"; (have := Sp.Env.ofI (K := ‹PySem.W.Frag›) (H := ‹L2.Hp›) (by assumption)); walk_at "args"))
local macro_rules | `(tactic| walk_at "goI") => `(tactic| (walk_at "goI0"; walk_at "rd"))
local macro_rules | `(tactic| walk_at "goL") => `(tactic| (walk_at "zs"; walk_at "args"; walk_at "rd"))
local macro_rules | `(tactic| walk_at "rel") => `(tactic| first
  | (apply Sp.RIsInt.mk <;> walk_at "sc")
  | (apply Sp.RIsRat.mk <;> walk_at "sc")
  | (apply Sp.RSign.mk <;> walk_at "sc")
  | (apply Sp.RInitR.one <;> walk_at "sc")
  | (apply Sp.RInitR.ok <;> walk_at "sc")
  | (apply Sp.RInitR.z <;> walk_at "sc")
  | (apply Sp.RInitR.t <;> walk_at "sc")
  | (apply Sp.RInitR.b <;> walk_at "sc")
  | (apply Sp.ROf.r <;> walk_at "sc")
  | (apply Sp.ROf.i <;> walk_at "sc")
  | (apply Sp.ROf.n <;> walk_at "sc")
  | (apply Sp.RBinR.r <;> walk_at "sc")
  | (apply Sp.RBinR.i <;> walk_at "sc")
  | (apply Sp.RBinR.n <;> walk_at "sc")
  | (apply Sp.ROver.r <;> walk_at "sc")
  | (apply Sp.ROver.i <;> walk_at "sc")
  | (apply Sp.ROver.z <;> walk_at "sc")
  | (apply Sp.ROver.zi <;> walk_at "sc")
  | (apply Sp.ROver.n <;> walk_at "sc")
  | (apply Sp.RCmp.r <;> walk_at "sc")
  | (apply Sp.RCmp.i <;> walk_at "sc")
  | (apply Sp.RCmp.n <;> walk_at "sc")
  | (apply Sp.RBelow.r <;> walk_at "sc")
  | (apply Sp.RBelow.i <;> walk_at "sc")
  | (apply Sp.RBelow.n <;> walk_at "sc")
  | (apply Sp.RUnR.mk <;> walk_at "sc")
  | (apply Sp.REqR.r <;> walk_at "sc")
  | (apply Sp.REqR.i <;> walk_at "sc")
  | (apply Sp.REqR.n <;> walk_at "sc")
  | (apply Sp.RPropR.mk <;> walk_at "sc")
  | (apply Sp.RInitS.ok <;> walk_at "sc")
  | (apply Sp.RInitS.z <;> walk_at "sc")
  | (apply Sp.RInitS.s <;> walk_at "sc")
  | (apply Sp.RInitS.r <;> walk_at "sc")
  | (apply Sp.RNeed.ok <;> walk_at "sc")
  | (apply Sp.RNeed.no <;> walk_at "sc")
  | (apply Sp.RNeedK.ok <;> walk_at "sc")
  | (apply Sp.RNeedK.z <;> walk_at "sc")
  | (apply Sp.RCross.ok <;> walk_at "sc")
  | (apply Sp.RCross.one <;> walk_at "sc")
  | (apply Sp.RCross.oth <;> walk_at "sc")
  | (apply Sp.RAreN.ok <;> walk_at "sc")
  | (apply Sp.RAreN.one <;> walk_at "sc")
  | (apply Sp.RAreN.oth <;> walk_at "sc")
  | (apply Sp.RNeedN.ok <;> walk_at "sc")
  | (apply Sp.RNeedN.no <;> walk_at "sc")
  | (apply Sp.RNeedN.one <;> walk_at "sc")
  | (apply Sp.RNeedN.oth <;> walk_at "sc")
  | (apply Sp.RBetween.ok <;> walk_at "sc")
  | (apply Sp.RBetween.no <;> walk_at "sc")
  | (apply Sp.RBetween.one <;> walk_at "sc")
  | (apply Sp.RBetween.oth <;> walk_at "sc")
  | (apply Sp.RSummed.ok <;> walk_at "sc")
  | (apply Sp.RSummed.z <;> walk_at "sc")
  | (apply Sp.RBinS.ok <;> walk_at "sc")
  | (apply Sp.RBinS.z <;> walk_at "sc")
  | (apply Sp.RBinS.n <;> walk_at "sc")
  | (apply Sp.RMulS.ok <;> walk_at "sc")
  | (apply Sp.RMulS.z <;> walk_at "sc")
  | (apply Sp.RMulS.n <;> walk_at "sc")
  | (apply Sp.RNegS.mk <;> walk_at "sc")
  | (apply Sp.REqS.s <;> walk_at "sc")
  | (apply Sp.REqS.n <;> walk_at "sc")
  | (apply Sp.RIsUp.mk <;> walk_at "sc")
  | (apply Sp.RUpw.mk <;> walk_at "sc")
  | (apply Sp.ROneR.mk <;> walk_at "sc")
  | (apply Sp.RCorner.ok <;> walk_at "sc")
  | (apply Sp.RCorner.z <;> walk_at "sc")
  | (apply Sp.RStrS.mk <;> walk_at "sc")
  | (apply Sp.RTold.ok <;> walk_at "sc")
  | (apply Sp.RTold.no <;> walk_at "sc")
  | (apply Sp.RComm.mk <;> walk_at "sc")
  | (apply Sp.RNear.mk <;> walk_at "sc")
  | (apply Sp.ROne.mk <;> walk_at "sc")
  | (apply Sp.RTwo.mk <;> walk_at "sc")
  | fail)
local macro_rules | `(tactic| walk_at "nf") => `(tactic| first | exact (‹∀ t ∈ Sp.tsL, PySem.W.notFirst ‹PySem.W.Frag› (Sp.ca ‹PySem.W.Frag› Sp.Cn.Step) (Sp.tv ‹PySem.W.Frag› t) = true›) (Sp.Ty0.own Sp.Cn.Step) (by decide) | exact (‹∀ t ∈ Sp.tsL, PySem.W.notFirst ‹PySem.W.Frag› (Sp.ca ‹PySem.W.Frag› Sp.Cn.Step) (Sp.tv ‹PySem.W.Frag› t) = true›) Sp.Ty0.tuple (by decide) | fail)
local macro_rules | `(tactic| walk_at "pre") => `(tactic| first | rfl | exact ⟨_, _, rfl, by assumption⟩)
namespace Sp
open PySem PySem.Spec PyProof.Rows L2
open PySem.W (Frag)
section
variable {P : Program} {w : World} {K : PySem.W.Frag} {mg : Str → Option Value} {base : Heap} {f : Addr} {fd : FuncData} {T : List (Addr × Str)}
variable (h_gcd : mg "gcd" = some (.builtin "math.gcd")) {tk1 tk2 : Tok} (h_most : mg "MOST_DIGITS" = some (.int 60 tk1)) (h_digits : mg "DIGITS" = some (.str "0123456789" tk2)) (h_all : mg "all" = none)

theorem sc__law_told : FnScope ["_law_step"] ["_law_step"] (defScope (topS 47)) := ⟨rfl, rfl, rfl, by decide +kernel, rfl, by decide +kernel, by decide +kernel⟩
theorem ok__law_told (G : G0 K mg csL tsL) (F : FP K "_law_told" "_law_told" (topS 47) [] f fd) : FnOk P w K mg base (L2.CX P w) 1 f fd ["_law_step"] (spR K csL tsL 100000 RTold) := by
  have nd := sc__law_told.nd
  refine okR F sc__law_told (fun ds o r => by cases r <;> rfl) (fun cdv A outer s H ds o Q E hr z r q => ⟨_, pss_cons (ps_if (PW.pt (pw_or (pt_not (pt_val (pe_callB call_isi rfl G.nm.isinstance (by decide +kernel) (pa_cons (pv 0) (pa_cons ((pe_glob (v := .ref (ca K .Step)) rfl (G.mgc .Step (by decide)) rfl)) (pa_nil)))))) (pw_or (pt_val (pe_callB call_isi rfl G.nm.isinstance (by decide +kernel) (pa_cons (pe_fldD (pv 0) rfl) (pa_cons ((pe_bltn (v := .ty "bool") (u := .type "bool") rfl G.nm.bool PyProof.Rows.Boot.«bool» rfl)) (pa_nil))))) (pw_or1 (pt_val (pe_callB call_isi rfl G.nm.isinstance (by decide +kernel) (pa_cons (pe_fldD (pv 0) rfl) (pa_cons ((pe_bltn (v := .ty "bool") (u := .type "bool") rfl G.nm.bool PyProof.Rows.Boot.«bool» rfl)) (pa_nil))))))))) (pss_one (ps_ret (pe_non))) (pss_nil)) (pss_one (ps_ret (pe_ifExp (PW.pt (pw_and (pt_val (pe_callB call_isi rfl G.nm.isinstance (by decide +kernel) (pa_cons (pe_fldD (pv 0) rfl) (pa_cons ((pe_bltn (v := .ty "int") (u := .type "int") rfl G.nm.int PyProof.Rows.Boot.«int» rfl)) (pa_nil))))) (pw_and1 (pt_val (pe_callB call_isi rfl G.nm.isinstance (by decide +kernel) (pa_cons (pe_fldD (pv 0) rfl) (pa_cons ((pe_bltn (v := .ty "int") (u := .type "int") rfl G.nm.int PyProof.Rows.Boot.«int» rfl)) (pa_nil)))))))) (pe_tupE (pa_cons (pe_fldD (pv 0) rfl) (pa_cons (pe_fldD (pv 0) rfl) (pa_nil)))) (pe_non)))), ?_⟩)
  have e0 : ∀ d : Dt, decide (d.ty = .own .Step) = d.is .Step := fun d => rfl
  cases r with
  | @ok k j => walk_at "go"
  | @no d h =>
    have e := is_eq .Step d
    rw [h] at e
    walk_at "go"
theorem okq_told (G : G0 K mg csL tsL) (F : FP K "_law_told" "_law_told" (topS 47) [] f fd) : FnQ P w K mg base 1 f fd ["_law_step"] (spR K csL tsL 100000 RTold) := by
  have nd := sc__law_told.nd
  refine Sp.FunD.okQR F sc__law_told (fun ds o r => by cases r <;> rfl) (fun cdv A outer s H ds o Q E z r q => ⟨_, pss_cons (ps_if (PW.pt (pw_or (pt_not (pt_val (pe_callB call_isi rfl G.nm.isinstance (by decide +kernel) (pa_cons (pv 0) (pa_cons ((pe_glob (v := .ref (ca K .Step)) rfl (G.mgc .Step (by decide)) rfl)) (pa_nil)))))) (pw_or (pt_val (pe_callB call_isi rfl G.nm.isinstance (by decide +kernel) (pa_cons (pe_fldD (pv 0) rfl) (pa_cons ((pe_bltn (v := .ty "bool") (u := .type "bool") rfl G.nm.bool PyProof.Rows.Boot.«bool» rfl)) (pa_nil))))) (pw_or1 (pt_val (pe_callB call_isi rfl G.nm.isinstance (by decide +kernel) (pa_cons (pe_fldD (pv 0) rfl) (pa_cons ((pe_bltn (v := .ty "bool") (u := .type "bool") rfl G.nm.bool PyProof.Rows.Boot.«bool» rfl)) (pa_nil))))))))) (pss_one (ps_ret (pe_non))) (pss_nil)) (pss_one (ps_ret (pe_ifExp (PW.pt (pw_and (pt_val (pe_callB call_isi rfl G.nm.isinstance (by decide +kernel) (pa_cons (pe_fldD (pv 0) rfl) (pa_cons ((pe_bltn (v := .ty "int") (u := .type "int") rfl G.nm.int PyProof.Rows.Boot.«int» rfl)) (pa_nil))))) (pw_and1 (pt_val (pe_callB call_isi rfl G.nm.isinstance (by decide +kernel) (pa_cons (pe_fldD (pv 0) rfl) (pa_cons ((pe_bltn (v := .ty "int") (u := .type "int") rfl G.nm.int PyProof.Rows.Boot.«int» rfl)) (pa_nil)))))))) (pe_tupE (pa_cons (pe_fldD (pv 0) rfl) (pa_cons (pe_fldD (pv 0) rfl) (pa_nil)))) (pe_non)))), ?_⟩)
  cases r with
  | @ok k j => walk_at "go"
  | @no d h =>
    have e := is_eq .Step d
    rw [h] at e
    walk_at "go"
/-! ### what is heard -/
def HP : List (Str × Str × List Str) := [("BadStep", "step", ["part"]), ("BadNumber", "number", ["part"]), ("BadText", "text", ["line", "word"]), ("Common", "common", ["divisor"]), ("Round", "round", ["part"])]
def HX (K : Frag) : VK → Value → List (Str × V) → Hp → Prop := fun Q cls gs H' => cls = .ref (cX K "NotNeighbours") ∧ ∃ v1 v2 k j l i, gs = [(("other" : Str), v2), (("one" : Str), v1)] ∧ IsV K H' v1 (.step k j) ∧ IsV K H' v2 (.step l i) ∧ SzD 100000 (.step k j) ∧ SzD 100000 (.step l i) ∧
  ∀ u1 u2 H2, Same H' H2 → IsV K H2 u1 (.tup [.int k, .int j]) → IsV K H2 u2 (.tup [.int l, .int i]) → ∀ p, H2 p = none → Q (.ref p) (upd H2 p (.tup [.str "apart", u1, u2]))
abbrev HErr (K : Frag) : VK → XK := HEr K HP (HX K)
abbrev TH (K : Frag) : (XK → Hp → VK → Prop) → Hp → VK → Prop := TTH (HErr K) (HOk "told")
def errs6 : List Str := ["BadStep", "BadNumber", "BadText", "NotNeighbours", "Common", "Round"]
def errF : List (Str × Str) := [("BadStep", "part"), ("BadNumber", "part"), ("BadText", "line"), ("BadText", "word"), ("NotNeighbours", "one"), ("NotNeighbours", "other"), ("Common", "divisor"), ("Round", "part")]
structure GE (K : Frag) (mg : Str → Option Value) : Prop where
  ex : ∀ x ∈ errs6, ∀ y ∈ errs6, PySem.W.exmOne K (.ref (cX K x)) (.ref (cX K y)) = some (decide (x = y))
  xf : ∀ x ∈ errs6, XfC K (cX K x)
  no : ∀ e ∈ errF, PySem.W.findIn K (.ref (cX K e.1)) e.2 = some none
  mg : ∀ x ∈ errs6, mg x = some (.ref (cX K x))
theorem sc_heard : FnScope ["_law_ask", "_law_heard_here", "error"] ["_law_ask"] (defScope (topS 48)) := ⟨rfl, rfl, rfl, by decide +kernel, rfl, by decide +kernel, by decide +kernel⟩
theorem heard_gives {X : Cx} {g : Addr} {cdg : Value} {q : Str} (g_told_q : GQ X.prog X.w X.K X.mg X.base 1 "_law_told" (spR X.K csL tsL 100000 RTold)) (hrm : L2H.RoomH 3 X.A) (E : GE X.K X.mg) : LamX.GivesTo X ["_law_ask", "_law_heard_here", "error"] "_law_heard" (defScope (topS 48)) g cdg (defBody (topS 48)) "_law_ask" q (TH X.K) := by
  intro f c' s H Q tl act hc h
  have nd := sc_heard.nd
  have xs := E.xf "BadStep" (by decide)
  have xn := E.xf "BadNumber" (by decide)
  have xt := E.xf "BadText" (by decide)
  have xa := E.xf "NotNeighbours" (by decide)
  have xc := E.xf "Common" (by decide)
  have xr := E.xf "Round" (by decide)
  have ns := E.no ("BadStep", "part") (by decide)
  have nn := E.no ("BadNumber", "part") (by decide)
  have nl := E.no ("BadText", "line") (by decide)
  have nw := E.no ("BadText", "word") (by decide)
  have n1 := E.no ("NotNeighbours", "one") (by decide)
  have n2 := E.no ("NotNeighbours", "other") (by decide)
  have nc := E.no ("Common", "divisor") (by decide)
  have nr := E.no ("Round", "part") (by decide)
  refine ⟨_, pss_cons (ps_asg pe_non (pg_name (i := 1) nd rfl (Or.inl rfl))) (pss_cons (ps_try_manyA (X := (cxOf C8.CX0 X.prog X.w X.K X.mg X.base ["_law_ask", "_law_heard_here", "error"] "_law_heard" (defScope (topS 48)) g cdg X.A X.stack s H C8.E0).nox)
      (l := [(.ref (cX X.K "BadStep"), 2, fun a cls d => _), (.ref (cX X.K "BadNumber"), 2, fun a cls d => _), (.ref (cX X.K "BadText"), 2, fun a cls d => _), (.ref (cX X.K "NotNeighbours"), 2, fun a cls d => _), (.ref (cX X.K "Common"), 2, fun a cls d => _), (.ref (cX X.K "Round"), 2, fun a cls d => _)])
      (tb := fun W D σ H => ∃ Ech : XK, (∀ cls d σ' H', Ech cls d H' → σ'.length = 3 → W cls d σ' H') ∧ σ[0]? = some (some (.ref f)) ∧ H c' = some (LamX.CodeO c' q) ∧ tl Ech H (fun v H1 => 2 ≤ sizeLine ∧ ∀ p, H1 p = none → D.nx (σ.set 1 (some (.ref p))) (upd H1 p (.tup [.str "told", v]))))
      rfl rfl nd LamX.takes0 (fun W pn xe tk _ => ?body)
      (.cons ⟨rfl, rfl, .inl (E.mg "BadStep" (by decide))⟩ rfl rfl (fun a oe cls d pn hz hf => pss_one (ps_asg (pe_tup (pa_cons pe_str (pa_cons (pe_xf xs ns hz hf (pv 2)) pa_nil))) (pg_name (i := 1) nd rfl (Or.inl rfl))))
      (.cons ⟨rfl, rfl, .inl (E.mg "BadNumber" (by decide))⟩ rfl rfl (fun a oe cls d pn hz hf => pss_one (ps_asg (pe_tup (pa_cons pe_str (pa_cons (pe_xf xn nn hz hf (pv 2)) pa_nil))) (pg_name (i := 1) nd rfl (Or.inl rfl))))
      (.cons ⟨rfl, rfl, .inl (E.mg "BadText" (by decide))⟩ rfl rfl (fun a oe cls d pn hz hf => pss_one (ps_asg (pe_tup (pa_cons pe_str (pa_cons (pe_xf xt nl hz hf (pv 2)) (pa_cons (pe_xf xt nw hz hf (pv 2)) pa_nil)))) (pg_name (i := 1) nd rfl (Or.inl rfl))))
      (.cons ⟨rfl, rfl, .inl (E.mg "NotNeighbours" (by decide))⟩ rfl rfl (fun a oe cls d pn hz hf => pss_one (ps_asg (pe_tup (pa_cons pe_str (pa_cons (pe_gq (k := 1) g_told_q ?r1 rfl (pa_cons (pe_xf xa n1 hz hf (pv 2)) pa_nil)) (pa_cons (pe_gq (k := 1) g_told_q ?r2 rfl (pa_cons (pe_xf xa n2 hz hf (pv 2)) pa_nil)) pa_nil)))) (pg_name (i := 1) nd rfl (Or.inl rfl))))
      (.cons ⟨rfl, rfl, .inl (E.mg "Common" (by decide))⟩ rfl rfl (fun a oe cls d pn hz hf => pss_one (ps_asg (pe_tup (pa_cons pe_str (pa_cons (pe_xf xc nc hz hf (pv 2)) pa_nil))) (pg_name (i := 1) nd rfl (Or.inl rfl))))
      (.cons ⟨rfl, rfl, .inl (E.mg "Round" (by decide))⟩ rfl rfl (fun a oe cls d pn hz hf => pss_one (ps_asg (pe_tup (pa_cons pe_str (pa_cons (pe_xf xr nr hz hf (pv 2)) pa_nil))) (pg_name (i := 1) nd rfl (Or.inl rfl)))) .nil)))))))
      (pss_one (ps_ret (pv 1)))), ?_⟩
  case r1 =>
    have hd := L2H.RoomH.deeper (L2H.RoomH.mono (j := 1 + 1) hrm (by decide)) (envOfC "_law_heard" (defScope (topS 48)) s.heap.objs.size g cdg)
    exact ⟨hd.dp, hd.un⟩
  case r2 =>
    have hd := L2H.RoomH.deeper (L2H.RoomH.mono (j := 1 + 1) hrm (by decide)) (envOfC "_law_heard" (defScope (topS 48)) s.heap.objs.size g cdg)
    exact ⟨hd.dp, hd.un⟩
  · refine ⟨fun pins s' σ H' D I h' => ?_⟩
    obtain ⟨Ech, hW, h1, h2, h3⟩ := h'
    exact (pss_one (ps_asg (pe_tup (pa_cons pe_str (pa_cons (act (fun c d σ H => σ.length = 3 → W c d σ H) pn xe Ech _ _ (takesLen tk) (fun cls d σ' H' e l => hW cls d σ' H' e l)) pa_nil))) (pg_name (i := 1) nd rfl (Or.inl rfl)))).run pins s' σ H' D I ⟨h1, h2, h3⟩
  · refine ⟨HErr X.K Q, fun cls d σ' H' he hl => ?_, rfl, hc, tthI h _ fun v H1 hh => ⟨by decide, fun p hp => ?_⟩⟩
    · match σ', hl with
      | [x0, x1, x2], _ =>
        have h2 : 2 ≤ sizeLine := by decide
        have h3 : 3 ≤ sizeLine := by decide
        obtain ⟨dd, gs, rfl, e1, he⟩ := herI he
        have no : ∀ x ∈ errs6, ∀ y ∈ errs6, decide (x = y) = false → PySem.W.exmOne X.K (.ref (cX X.K x)) (.ref (cX X.K y)) = some false := fun x hx y hy e => by rw [E.ex x hx y hy, e]
        have yes : ∀ x ∈ errs6, PySem.W.exmOne X.K (.ref (cX X.K x)) (.ref (cX X.K x)) = some true := fun x hx => by rw [E.ex x hx x hx, decide_eq_true rfl]
        rcases he with ⟨e, hm, rfl, vs, hv, k⟩ | ⟨rfl, v1, v2, k1, j1, l1, i1, rfl, i1', i2', z1', z2', k⟩
        · rcases List.mem_cons.mp hm with rfl | hm
          · obtain ⟨v, rfl, l1⟩ := map1 hv
            refine ⟨true, yes "BadStep" (by decide), fun _ a na => ?_, fun z => Bool.noConfusion z⟩
            exact ⟨_, rfl, rfl, rfl, dd, _, v, rfl, e1, l1, h2, fun p hp => ⟨_, rfl, k p hp⟩⟩
          rcases List.mem_cons.mp hm with rfl | hm
          · obtain ⟨v, rfl, l1⟩ := map1 hv
            refine ⟨false, no "BadNumber" (by decide) "BadStep" (by decide) (by decide), fun z => Bool.noConfusion z, fun _ => ⟨true, yes "BadNumber" (by decide), fun _ a na => ?_, fun z => Bool.noConfusion z⟩⟩
            exact ⟨_, rfl, rfl, rfl, dd, _, v, rfl, e1, l1, h2, fun p hp => ⟨_, rfl, k p hp⟩⟩
          rcases List.mem_cons.mp hm with rfl | hm
          · obtain ⟨v, u, rfl, l1, l2⟩ := map2 hv
            refine ⟨false, no "BadText" (by decide) "BadStep" (by decide) (by decide), fun z => Bool.noConfusion z, fun _ => ⟨false, no "BadText" (by decide) "BadNumber" (by decide) (by decide), fun z => Bool.noConfusion z, fun _ => ⟨true, yes "BadText" (by decide), fun _ a na => ?_, fun z => Bool.noConfusion z⟩⟩⟩
            exact ⟨_, rfl, rfl, rfl, dd, _, v, rfl, e1, l1, _, rfl, rfl, rfl, dd, _, u, rfl, e1, l2, h3, fun p hp => ⟨_, rfl, k p hp⟩⟩
          rcases List.mem_cons.mp hm with rfl | hm
          · obtain ⟨v, rfl, l1⟩ := map1 hv
            refine ⟨false, no "Common" (by decide) "BadStep" (by decide) (by decide), fun z => Bool.noConfusion z, fun _ => ⟨false, no "Common" (by decide) "BadNumber" (by decide) (by decide), fun z => Bool.noConfusion z, fun _ => ⟨false, no "Common" (by decide) "BadText" (by decide) (by decide), fun z => Bool.noConfusion z, fun _ =>
              ⟨false, no "Common" (by decide) "NotNeighbours" (by decide) (by decide), fun z => Bool.noConfusion z, fun _ => ⟨true, yes "Common" (by decide), fun _ a na => ?_, fun z => Bool.noConfusion z⟩⟩⟩⟩⟩
            exact ⟨_, rfl, rfl, rfl, dd, _, v, rfl, e1, l1, h2, fun p hp => ⟨_, rfl, k p hp⟩⟩
          rcases List.mem_cons.mp hm with rfl | hm
          · obtain ⟨v, rfl, l1⟩ := map1 hv
            refine ⟨false, no "Round" (by decide) "BadStep" (by decide) (by decide), fun z => Bool.noConfusion z, fun _ => ⟨false, no "Round" (by decide) "BadNumber" (by decide) (by decide), fun z => Bool.noConfusion z, fun _ => ⟨false, no "Round" (by decide) "BadText" (by decide) (by decide), fun z => Bool.noConfusion z, fun _ =>
              ⟨false, no "Round" (by decide) "NotNeighbours" (by decide) (by decide), fun z => Bool.noConfusion z, fun _ => ⟨false, no "Round" (by decide) "Common" (by decide) (by decide), fun z => Bool.noConfusion z, fun _ => ⟨true, yes "Round" (by decide), fun _ a na => ?_, fun z => Bool.noConfusion z⟩⟩⟩⟩⟩⟩
            exact ⟨_, rfl, rfl, rfl, dd, _, v, rfl, e1, l1, h2, fun p hp => ⟨_, rfl, k p hp⟩⟩
          cases hm
        · refine ⟨false, no "NotNeighbours" (by decide) "BadStep" (by decide) (by decide), fun z => Bool.noConfusion z, fun _ => ⟨false, no "NotNeighbours" (by decide) "BadNumber" (by decide) (by decide), fun z => Bool.noConfusion z, fun _ => ⟨false, no "NotNeighbours" (by decide) "BadText" (by decide) (by decide), fun z => Bool.noConfusion z, fun _ =>
            ⟨true, yes "NotNeighbours" (by decide), fun _ a na => ?_, fun z => Bool.noConfusion z⟩⟩⟩⟩
          refine ⟨_, rfl, rfl, rfl, dd, _, v1, rfl, e1, rfl, fnR (vs := [v1]) (ds := [.step k1 j1]) (.cons i1' .nil) ⟨⟨rfl, z1'⟩, trivial⟩ .ok (afMk fun u1 H2 s2 iu1 => ?_)⟩
          · refine ⟨_, rfl, rfl, rfl, dd, _, v2, rfl, s2 _ _ e1, rfl, fnR (vs := [v2]) (ds := [.step l1 i1]) (.cons (i2'.same s2) .nil) ⟨⟨rfl, z2'⟩, trivial⟩ .ok (afMk fun u2 H3 s3 iu2 => ?_)⟩
            · exact ⟨h3, fun p hp => ⟨_, rfl, k u1 u2 H3 (s2.trans s3) (iu1.same s3) iu2 p hp⟩⟩
    · exact ⟨_, rfl, hokI hh p hp⟩
/-- what stands at _law_heard -/
structure GHd (P : Program) (w : World) (K : Frag) (mg : Str → Option Value) (base : Heap) : Prop where
  told : GQ P w K mg base 1 "_law_told" (spR K csL tsL 100000 RTold)
  ex : ∃ (g : Addr) (oc : Value) (od : Option Addr) (dV kV doc pm : Value) (an : Option Addr) (cdv ct : Value) (osl : Array (Option Value)), mg "_law_heard" = some (.ref g) ∧ PySem.W.keepIn K (.ref g) = true ∧
    K.lookup g = some ⟨oc, od, .func (PySem.W.fnOf "_law_heard" "_law_heard" (defArgs (topS 48)) (defBody (topS 48)) (defScope (topS 48)) dV kV doc pm an cdv ct), osl⟩ ∧ PySem.W.codeIn K cdv "_law_heard" = true ∧
    Binds K (PySem.W.fnOf "_law_heard" "_law_heard" (defArgs (topS 48)) (defBody (topS 48)) (defScope (topS 48)) dV kV doc pm an cdv ct) ["_law_ask"] []
theorem GHd.of (ht : GQ P w K mg base 1 "_law_told" (spR K csL tsL 100000 RTold)) (F : FP K "_law_heard" "_law_heard" (topS 48) [] f fd) (hm : mg "_law_heard" = some (.ref f)) : GHd P w K mg base := by
  have b := FunD.bindsN (ps := ["_law_ask"]) F fun _ _ _ _ _ _ us hl => match us, hl with | [_], _ => rfl
  obtain ⟨oc, od, dV, kV, doc, pm, an, cdv, ct, osl, rfl, lk, hcd, _, _⟩ := F.ex
  exact ⟨ht, f, oc, od, dV, kV, doc, pm, an, cdv, ct, osl, hm, F.kp, lk, hcd, b⟩
theorem pe_heard {X : Cx} {T : List (Addr × Str)} {c P : Addr} {k : Nat} {params : Arguments} {body : Expr} {scope : Scope} {t : XK → TE} {p lpos pos : Pos} (G : GHd X.prog X.w X.K X.mg X.base) (E : GE X.K X.mg) (hg : Gl X "_law_heard")
    (TB : LamX.TabB X.base X.mg c P) (hcode : X.env.code = .ref c) (hmT : (P, X.env.qual ++ "<lambda>") ∈ T) (hu : ∀ p ∈ T, p.1 = P → p.2 = X.env.qual ++ "<lambda>") (hr : Room (k + 2) X.A) (hr3 : Room 3 X.A) (L : LamX.LamS X.env.scope scope) (hdef : defaultsOf params X.env = ([], []))
    (hbind : ∀ (q : Str) (cl : List (Str × Addr)) (pm cv ctv : Value), bindArgs (PySem.W.kla_fn "<lambda>" q params body scope cl pm cv ctv) ⟨[], []⟩ = pure [])
    (hbody : ∀ (A : Around) (outer : List PySem.Env) (s : Shared) (H : Hp) (E : XK) (f c' : Addr), Room k (A.deeper (LamX.lamEnv X scope s.heap.objs.size f c')) → PE (LamX.lamCx X A outer s H E scope f c') body (t E)) :
    PE X (.Call (.Name "_law_heard" p) [.Lambda params body scope lpos] [] pos) (tLam T (TH X.K) t) := by
  obtain ⟨g, oc, od, dV, kV, doc, pm, an, cdv, ct, osl, hm, hk, lk, hcd, hb⟩ := G.ex
  exact ⟨fun pins s σ H Q I z => (LamX.pe_lamcall (Ng := ["_law_ask", "_law_heard_here", "error"]) hg hm hk lk hcd hb sc_heard rfl (Or.inl rfl) (heard_gives G.told (L2H.roomH_of hr3) E) TB hcode hmT hu hr L hdef hbind hbody).run pins s σ H Q I z.un⟩
end
end Sp
end
section
set_option Elab.async false
set_option linter.all false
set_option exponentiation.threshold 5000
set_option maxRecDepth 100000
set_option maxHeartbeats 4000000
namespace Sp
open PySem PySem.Spec PyProof.Rows L2
open PySem.W (Frag)
/-! ### texts times numbers -/
def repS (s : Str) (k : Int) : Str := ⟨(List.replicate k.toNat s.cps).foldl (· ++ ·) #[]⟩
structure rRepS (x : V) (y : V) (H : Hp) (Q : VK) : Prop where
  un : ∃ s k, x = .str s ∧ y = .int k ∧ 2 ≤ k ∧ k ≤ 1000 ∧ s.length ≠ 0 ∧ s.length ≤ 1000 ∧ (repS s k).length ≤ sizeLine ∧ Q (.str (repS s k)) H
theorem op_repS {X : Cx} : OpR X (binaryOp .Mult) rRepS := by
  intro pins s σ H x y v u Q I rx ry h
  obtain ⟨a, k, rfl, rfl, k0, k1, l0, l1, hl, q⟩ := h
  obtain ⟨t, rfl⟩ := rx
  obtain ⟨t', rfl⟩ := ry
  have c : (k == 1 || a.length == 0) = false := by
    rw [Bool.or_eq_false_iff]
    exact ⟨beq_eq_false_iff_ne.mpr (by omega), beq_eq_false_iff_ne.mpr l0⟩
  have n1 : ¬ k < 1 := by omega
  refine PySem.P.mul_str ?_ (fun _ _ => ?_) (fun _ _ => ?_) ?_
  · rw [decide_eq_false (by omega), decide_eq_false (by omega)]
    rfl
  · have : (1000 : Int) ≤ (2 ^ 63 - 1) / k := (Int.le_ediv_iff_mul_le (by omega)).mpr (by omega)
    omega
  · have h1 : a.length * k.toNat ≤ 1000 * 1000 := Nat.mul_le_mul l1 (by omega)
    unfold Builtin.Str.tooLong
    have sl : (1000000 : Nat) ≤ sizeLine := by decide
    exact decide_eq_false (by omega)
  · rw [if_neg n1, if_neg (by rw [c]; simp)]
    exact ⟨hl, .str (repS a k), H, I.tok _, ⟨_, rfl⟩, q⟩
/-! ### a call from which nothing may come -/
theorem pxF {X : Cx} : Passes (L2.CX X.prog X.w) X C8.E0 := fun pins σ H s e s' I c => by
  obtain ⟨a, B, H', cls, d, rfl, ⟨st, _, _, oe, vs, _, _, _, he, hz, _⟩, _, ub, _, _, _, q⟩ := c
  exact q.elim
/-! ### cases of what is promised -/
theorem FnOk.cases {P : Program} {w : World} {K : Frag} {mg : Str → Option Value} {base : Heap} {CX : CXT} {k : Nat} {f : Addr} {fd : FuncData} {ps : List Str} {sp : Sp}
    (h : ∀ vs H Q E, sp vs H Q E → ∃ sp', FnOk P w K mg base CX k f fd ps sp' ∧ sp' vs H Q E) : FnOk P w K mg base CX k f fd ps sp :=
  ⟨fun vs H Q E z => let ⟨_, F, z'⟩ := h vs H Q E z; F.len vs H Q E z', fun A outer s H args us vs Q E hr e b r z => let ⟨_, F, z'⟩ := h vs H Q E z; F.run A outer s H args us vs Q E hr e b r z'⟩
/-! ### lists that change -/
section
variable {K : Frag} {T : List (Addr × Str)} {H0 H : Hp} {L : List (V × Dt)} {pp : Option (Addr × Addr × Nat)} {p : Addr} {xs ys : List V} {ds : List Dt}
/-- it did not stand -/
def NewL (H0 : Hp) (p : Addr) : Prop := ∀ o, H0 p = some o → ∃ ps, o = .tbl ps
theorem Env.fresh (h : Env K (.law T pp) H0 H L) (hp : H p = none) : NewL H0 p := fun o e => by
  cases o with
  | tbl ps => exact ⟨ps, rfl⟩
  | _ =>
    exfalso
    have := h.gr p _ (fun q z e => by
      obtain ⟨xs, hx⟩ := (h.at_.2 q z).lst
      rw [← e, hp] at hx
      cases hx) (fun ps z => by cases z) e
    rw [hp] at this
    cases this
structure NewP (H0 : Hp) (a c p : Addr) : Prop where
  n : NewL H0 p
  a : p ≠ a
  c : p ≠ c
theorem Env.freshP {a c : Addr} {N : Nat} (h : Env K (.law T (some (a, c, N))) H0 H L) (hp : H p = none) : NewP H0 a c p := by
  obtain ⟨cs, n, g, h1, h2, _⟩ := h.at_.2 _ rfl
  refine ⟨h.fresh hp, fun z => ?_, fun z => ?_⟩
  · rw [← z, hp] at h1
    cases h1
  · have h2 : H c = some (.lst (cs.map V.int)) := h2
    rw [← z, hp] at h2
    cases h2
theorem Env.lset {a c : Addr} {N : Nat} (h : Env K (.law T (some (a, c, N))) H0 H L) (n : NewP H0 a c p) (hp : H p = some (.lst xs)) (L' : List (V × Dt)) (sub : ∀ e ∈ L', e ∈ L ∧ noL e.2 = true) (iy : IsVs K H ys ds) (dn : noLs ds = true) :
    Env K (.law T (some (a, c, N))) H0 (upd H p (.lst ys)) ((.ref p, .lst ds) :: L') := by
  have sb : Sbl p H (upd H p (.lst ys)) := fun b o nb _ e => by rw [upd_ne nb]; exact e
  have iy' := IsVs.sb hp sb iy dn
  refine ⟨fun b o nb nt e => ?_, ⟨tabsSbl h.at_.1 (fun b o nb e => by rw [upd_ne nb]; exact e) hp, fun q z => ?_⟩, fun e i => ?_⟩
  · rw [upd_ne (fun z => by
      subst z
      obtain ⟨ps, rfl⟩ := n.n o e
      exact nt ps rfl)]
    exact h.gr b o nb nt e
  · cases z
    obtain ⟨cs, m, g, h1, h2, h3⟩ := h.at_.2 _ rfl
    refine ⟨cs, m, g, ?_, ?_, h3⟩
    · rw [upd_ne n.a.symm]
      exact h1
    · rw [upd_ne n.c.symm]
      exact h2
  · rcases List.mem_cons.mp i with rfl | i
    · exact .lst upd_same iy'
    · exact IsV.sb hp sb (h.all e (sub e i).1) (sub e i).2
end
section
variable {K : Frag} {mg : Str → Option Value} {m : Md} {H0 H H' : Hp} {L : List (V × Dt)} {v x y : V} {d : Dt} {vs : List V} {a b l : List Dt} {Q : VK} {E : XK} {cs : List Cn} {ts : List Ty0}
theorem IsVs.app {xs zs : List V} {a b : List Dt} (i : IsVs K H xs a) (j : IsVs K H zs b) : IsVs K H (xs ++ zs) (a ++ b) := by
  induction xs generalizing a with
  | nil => cases i; exact j
  | cons x xs ih =>
    cases i with
    | cons i1 i2 => exact .cons i1 (ih i2)
theorem IsV.lstE {l : List Dt} (h : IsV K H v (.lst l)) : ∃ p vs, v = .ref p ∧ H p = some (.lst vs) ∧ IsVs K H vs l := by
  cases h with
  | lst h r => exact ⟨_, _, rfl, h, r⟩
  | own o _ _ => cases o
theorem catD (h : Env K m H0 H L) (i : IsV K H x (.lst a)) (j : IsV K H y (.lst b)) (hl : Nat.ble (a.length + b.length) 1000 = true) (k : ∀ p H', Env K m H0 H' ((.ref p, .lst (a ++ b)) :: L) → Q (.ref p) H') : rCat x y H Q := by
  obtain ⟨p, xs, rfl, hp, ip⟩ := i.lstE
  obtain ⟨q, zs, rfl, hq, iq⟩ := j.lstE
  refine ⟨p, q, xs, zs, rfl, rfl, hp, hq, ?_, fun r n => k r _ ((h.step (Same.new' n)).add (.lst upd_same ((ip.app iq).same (Same.new' n))))⟩
  rw [ip.length, iq.length]
  exact Nat.le_trans (Nat.le_of_ble_eq_true hl) (by decide)
theorem strsE {ws : List Str} : ∀ {vs : List V}, IsVs K H vs (ws.map Dt.str) → vs = ws.map V.str := by
  induction ws with
  | nil => intro vs i; cases i; rfl
  | cons w ws ih =>
    intro vs i
    cases i with
    | cons i1 i2 =>
      rw [ih i2]
      cases i1 with
      | str => rfl
      | own o _ _ => cases o
/-- " ".join of a list of texts -/
theorem joinD {p : Addr} {ws : List Str} (i : IsV K H (.ref p) (.lst (ws.map Dt.str))) : SqL K H p (ws.map V.str) := by
  obtain ⟨q, vs, e, hp, r⟩ := i.lstE
  cases e
  rw [← strsE r]
  exact SqL.of hp
/-- an item, whichever -/
theorem ixTAny {i : Int} (h : IsV K H x (.tup l)) (h0 : 0 ≤ i) (h1 : i < l.length) (k : ∀ v d, d ∈ l → IsV K H v d → Q v H) : rIxT K x (.int i) H Q := by
  cases h with
  | tup h r =>
    obtain ⟨n, rfl⟩ := Int.eq_ofNat_of_zero_le h0
    have hn : n < l.length := by omega
    obtain ⟨v, e1, iv⟩ := r.get (List.getElem?_eq_getElem hn)
    exact ⟨_, _, _, v, rfl, rfl, SqT.of h, atI_nat e1, k v _ (List.getElem_mem hn) iv⟩
  | own o _ _ => cases o
theorem ixLAny {i : Int} (h : IsV K H x (.lst l)) (h0 : -(l.length : Int) ≤ i) (h1 : i < l.length) (k : ∀ v d, d ∈ l → IsV K H v d → Q v H) : rIxL K x (.int i) H Q := by
  cases h with
  | @lst p vs ds h r =>
    have hl := r.length
    obtain ⟨n, e, hn⟩ : ∃ n : Nat, ixN vs.length i = some n ∧ n < l.length := by
      unfold ixN
      rw [hl]
      by_cases z : 0 ≤ i
      · rw [if_pos z, if_pos h1]
        exact ⟨_, rfl, by omega⟩
      · rw [if_neg z, if_pos h0]
        exact ⟨_, rfl, by omega⟩
    obtain ⟨v, e1, iv⟩ := r.get (List.getElem?_eq_getElem hn)
    exact ⟨_, _, _, v, rfl, rfl, SqL.of h, by unfold atI; rw [e]; exact e1, k v _ (List.getElem_mem hn) iv⟩
  | own o _ _ => cases o
theorem mateN (i : IsV K H v d) (o : okT cs ts d = true) (h : d.is .Step = false) (z : SzD 100000 d) (q : AftE K H "BadStep" (part "step") E) : spMate K cs ts [v] H Q E := mateO i o (.inr ⟨h, z, q⟩)
end
/-! the two steps' cases -/
inductive RTwoC (b1 b2 b3 : Bool) : List Dt → Dt → Prop
  | mk {k j l i : Int} (h : Pk 52 k j) (h2 : Pk 52 l i) (c1 : decide (k + l = 0 ∧ j + i = 0) = b1) (c2 : decide (k - l = 0 ∧ j - i = 0) = b2) (c3 : decide ((crs k j l i).natAbs = 1) = b3) : RTwoC b1 b2 b3 [.tup [.int k, .int j], .tup [.int l, .int i]] (.bl true)
def spLaw (K : Frag) (T : List (Addr × Str)) : Sp := fun vs H Q _ => ∃ (a : Addr) (ns : List Int), vs = [.ref a] ∧ SqL K H a (ns.map V.int) ∧ LamX.Tabs T H ∧ ∀ H', Q (.bl true) H'
def oddT : List Ty0 := [.none, .bool, .str, .list, .tuple, .dict]
end Sp
end
section
set_option Elab.async false
set_option linter.all false
set_option exponentiation.threshold 5000
set_option maxRecDepth 100000
set_option maxHeartbeats 4000000
namespace Sp
open PySem PySem.Spec PyProof.Rows L2 TL
open PySem.W (Frag)
/-! ### texts of steps that cannot be read -/
theorem join1 (a : Str) : Txt.join " " [a] = a := by
  apply ext_tl
  rw [join_eq, tl_join]
  first | rfl | simp [joinL]
theorem join2 (a b : Str) : Txt.join " " [a, b] = a ++ (Str.ofString " " ++ b) := by
  apply ext_tl
  rw [tl_append, tl_append, join_eq, tl_join]
  first | rfl | simp [joinL]
theorem join3 (a b c : Str) : Txt.join " " [a, b, c] = a ++ (Str.ofString " " ++ (b ++ (Str.ofString " " ++ c))) := by
  apply ext_tl
  rw [tl_append, tl_append, tl_append, tl_append, join_eq, tl_join]
  first | rfl | simp [joinL]
theorem sp1 : (Str.ofString " ").length = 1 := rfl
theorem rd_one {k : Int} (h : k.natAbs < 2 ^ 52) : RReadBy RTakeS [.str (dS k)] (errT 1) := by
  have e : wsOf (dS k) = [dS k] := by
    have := ws_join (ws := [dS k]) (by simp) (fun w hw => by
      rw [List.mem_singleton.mp hw]
      exact dS_free (by decide) (by decide))
    rw [join1] at this
    exact this
  refine .err (k := 0) (tOk (by have := len_dS (lt60 h); omega)) ?_
  rw [e]
  refine RTakeS.e2 (k := 0) (a := k) ?_ rfl
  show intW (dS k) = some k
  exact intW_dS (lt60 h)
theorem ws_bad {a b : Str} (ha : 32 ∉ tl a) (hb : 32 ∉ tl b) : wsOf (Txt.join " " [a, b]) = [a, b] := ws_join (by simp) fun w hw => by
  rcases List.mem_cons.mp hw with rfl | hw
  · exact ha
  · rw [List.mem_singleton.mp hw]
    exact hb
theorem dS_sp (k : Int) : 32 ∉ tl (dS k) := dS_free (by decide) (by decide)
theorem len2 {a b : Str} (ha : a.length ≤ 100) (hb : b.length ≤ 100) : (Txt.join " " [a, b]).length ≤ 90000 := by
  rw [join2, lenApp, lenApp, sp1]
  omega
theorem rd_bad0 {w : Str} {j : Int} (h : j.natAbs < 2 ^ 52) (hw : intW w = none) (fr : 32 ∉ tl w) (l : w.length ≤ 100) : RReadBy RTakeS [.str (Txt.join " " [w, dS j])] (errT 0) := by
  have l2 := len_dS (lt60 h)
  refine .err (k := 0) (tOk (len2 l (by omega))) ?_
  rw [ws_bad fr (dS_sp j)]
  exact RTakeS.e1 (k := 0) (Nat.zero_le _) hw
theorem rd_bad1 {w : Str} {k : Int} (h : k.natAbs < 2 ^ 52) (hw : intW w = none) (fr : 32 ∉ tl w) (l : w.length ≤ 100) : RReadBy RTakeS [.str (Txt.join " " [dS k, w])] (errT 1) := by
  have l2 := len_dS (lt60 h)
  refine .err (k := 0) (tOk (len2 (by omega) l)) ?_
  rw [ws_bad (dS_sp k) fr]
  refine RTakeS.e2 (k := 0) (a := k) ?_ hw
  show intW (dS k) = some k
  exact intW_dS (lt60 h)
theorem rd_three {k j : Int} (h : Pk 52 k j) : RReadBy RTakeS [.str (Txt.join " " [dS k, dS j, "3"])] (errT 2) := by
  have l1 := len_dS (lt60 h.k)
  have l2 := len_dS (lt60 h.j)
  have e : wsOf (Txt.join " " [dS k, dS j, "3"]) = [dS k, dS j, "3"] := ws_join (by simp) fun w hw => by
    rcases List.mem_cons.mp hw with rfl | hw
    · exact dS_sp _
    · rcases List.mem_cons.mp hw with rfl | hw
      · exact dS_sp _
      · rw [List.mem_singleton.mp hw]
        decide +kernel
  refine .more (k := 2) (d := .step k j) (tOk ?_) ?_ ?_
  · rw [join3, lenApp, lenApp, lenApp, lenApp, sp1, show ("3" : Str).length = 1 from rfl]
    omega
  · rw [e]
    refine RTakeS.ok (k := 0) ?_ ?_ h.nz
    · show intW (dS k) = some k
      exact intW_dS (lt60 h.k)
    · show intW (dS j) = some j
      exact intW_dS (lt60 h.j)
  · rw [e]
    exact fun z => by cases z
theorem rd_zero : RReadBy RTakeS [.str "0 0"] (errT 1) := by
  have e : ("0 0" : Str) = dS 0 ++ (Str.ofString " " ++ dS 0) := by decide +kernel
  have ew : wsOf "0 0" = [dS 0, dS 0] := by
    rw [e]
    exact ws_two 0 0
  refine .err (k := 0) (tOk (by decide +kernel)) ?_
  rw [ew]
  exact RTakeS.z (k := 0) (intW_dS (i := 0) (by decide)) (intW_dS (i := 0) (by decide))
/-! ### " ".join -/
def Dt.strs : List Dt → List Str
  | [] => []
  | .str x :: l => x :: Dt.strs l
  | _ :: l => Dt.strs l
def Dt.isStrs : List Dt → Bool
  | [] => true
  | .str _ :: l => Dt.isStrs l
  | _ => false
theorem strs_map : ∀ {l : List Dt}, Dt.isStrs l = true → l = (Dt.strs l).map Dt.str
  | [], _ => rfl
  | d :: l, h => by
    cases d with
    | str x => exact congrArg (Dt.str x :: ·) (strs_map (l := l) h)
    | _ => cases h
structure JoinB (a : Str) (ws : List Str) : Prop where
  le : (ws.map (·.length)).sum + ws.length * a.length ≤ 16777216
structure JoinR (K : PySem.W.Frag) (x : V) (xs : List V) (H : Hp) (Q : VK) : Prop where
  un : ∃ a p, ∃ ys : List Str, x = .str a ∧ xs = [.ref p] ∧ (SqL K H p (ys.map V.str) ∨ SqT K H p (ys.map V.str)) ∧ (ys.map (·.length)).sum + ys.length * a.length ≤ 16777216 ∧ Q (.str (Txt.join a ys)) H
theorem pe_joinK {X : Cx} {o e : Expr} {to te : TE} {apos pos : Pos} (K : PySem.W.Frag) (hK : X.K = K) (ho : PE X o to) (he : PE X e te) (hs : starEach [e] X.env = [(false, eval e X.env)] := by rfl) (hbase : attributeBase o "join" X.env (eval o X.env) = eval o X.env := by rfl) (hline : (apos.endLine == pos.line) = true := by rfl) :
    PE X (.Call (.Attribute o "join" apos) [e] [] pos) (tM1 (JoinR K) to te) := by
  subst hK
  exact ⟨fun pins s σ H Q I z => (pe_join (PE.mono ho) (PE.mono he) hs hbase hline).run pins s σ H Q I ⟨_, z, fun _ _ y => ⟨y.1, ⟨_, y.2, fun _ _ w => w.un⟩⟩⟩⟩
theorem joinR {K : PySem.W.Frag} {H : Hp} {y : V} {l : List Dt} {a : Str} {Q : VK} (i : IsV K H y (.lst l)) (s : Dt.isStrs l = true) (b : JoinB a (Dt.strs l)) (q : Q (.str (Txt.join a (Dt.strs l))) H) : JoinR K (.str a) [y] H Q := by
  obtain ⟨p, vs, rfl, hp, r⟩ := i.lstE
  refine ⟨a, p, Dt.strs l, rfl, rfl, .inl (joinD ?_), b.le, q⟩
  rw [← strs_map s]
  exact i
theorem joinB3 {k j : Int} (h : Pk 52 k j) : JoinB " " [dS k, dS j, "3"] := by
  have l1 := len_dS (lt60 h.k)
  have l2 := len_dS (lt60 h.j)
  refine ⟨?_⟩
  rw [List.map_cons, List.map_cons, List.map_cons, List.map_nil, List.sum_cons, List.sum_cons, List.sum_cons, List.sum_nil, show ("3" : Str).length = 1 from rfl, show (" " : Str).length = 1 from rfl, List.length_cons, List.length_cons, List.length_cons, List.length_nil]
  omega
theorem joinB2 {a b : Str} (h : a.length ≤ 100) (h2 : b.length ≤ 100) : JoinB " " [a, b] := by
  refine ⟨?_⟩
  rw [List.map_cons, List.map_cons, List.map_nil, List.sum_cons, List.sum_cons, List.sum_nil, show (" " : Str).length = 1 from rfl, List.length_cons, List.length_cons, List.length_nil]
  omega
theorem ix_listK {X : Cx} (K : Frag) (hK : X.K = K) : IxR X (rIxL K) := by
  subst hK
  exact ix_list
theorem ix_tupK {X : Cx} (K : Frag) (hK : X.K = K) : IxR X (rIxT K) := by
  subst hK
  exact ix_tup
theorem gTupRaw {K : Frag} {H : Hp} {p : Addr} {xs : List V} {m : Nat} {t : TGs} {σ : L2.St} {Q : L2.St → Hp → Prop} (h : SqT K H p xs) (e : xs.length = m) (k : t xs σ H Q) : gTup K m t (.ref p) σ H Q := ⟨p, xs, rfl, h, e, k⟩
theorem tups_noL {n : Nat} {ds : List Dt} (h : ∀ d ∈ ds, ∃ k j, d = .tup [.int k, .int j] ∧ Pk n k j) : noLs ds = true := by
  induction ds with
  | nil => rfl
  | cons d ds ih =>
    obtain ⟨k, j, rfl, _⟩ := h d List.mem_cons_self
    exact ih fun d i => h d (List.mem_cons_of_mem _ i)
theorem tups_noPs {n : Nat} {ds : List Dt} (h : ∀ d ∈ ds, ∃ k j, d = .tup [.int k, .int j] ∧ Pk n k j) : noPs ds = true := by
  induction ds with
  | nil => rfl
  | cons d ds ih =>
    obtain ⟨k, j, rfl, _⟩ := h d List.mem_cons_self
    exact ih fun d i => h d (List.mem_cons_of_mem _ i)
theorem tups_noP {n : Nat} {ds : List Dt} (h : ∀ d ∈ ds, ∃ k j, d = .tup [.int k, .int j] ∧ Pk n k j) : noPs [.lst ds] = true := by
  show ((!pailish ds && noPs ds) && true) = true
  rw [tups_noPs h]
  cases ds with
  | nil => rfl
  | cons d ds =>
    obtain ⟨k, j, rfl, _⟩ := h d List.mem_cons_self
    rfl
theorem tyVL {K : Frag} {H : Hp} {v : V} {l : List Dt} (i : IsV K H v (.lst l)) : tyV K "list" v H := by
  obtain ⟨p, vs, rfl, hp, _⟩ := i.lstE
  exact .inl ⟨rfl, _, SqL.of hp⟩
theorem appL {K : Frag} {T : List (Addr × Str)} {H0 H : Hp} {L : List (V × Dt)} {a c D : Addr} {N : Nat} {y : V} {d : Dt} {ds : List Dt} {Q : VK} (e : Env K (.law T (some (a, c, N))) H0 H L) (fr : NewP H0 a c D) (i : IsV K H (.ref D) (.lst ds)) (j : IsV K H y d)
    (nl : noLs ds = true) (nd : noL d = true) (hl : Nat.ble ds.length 1000 = true) (k : ∀ H', Env K (.law T (some (a, c, N))) H0 H' [(.ref D, .lst (ds ++ [d]))] → Q .non H') : rAppend (.ref D) [y] H Q := by
  obtain ⟨p, vs, e1, hp, iv⟩ := i.lstE
  cases e1
  have nn : noLs (ds ++ [d]) = true := by
    clear iv k hl i
    induction ds with
    | nil => exact Bool.and_eq_true_iff.mpr ⟨nd, rfl⟩
    | cons x xs ih => exact Bool.and_eq_true_iff.mpr ⟨(Bool.and_eq_true_iff.mp nl).1, ih (Bool.and_eq_true_iff.mp nl).2⟩
  have sl : 1000 < sizeLine := by decide
  exact ⟨D, vs, y, rfl, rfl, hp, by rw [iv.length]; exact Nat.lt_of_le_of_lt (Nat.le_of_ble_eq_true hl) sl, k _ (e.lset fr hp [] (fun _ i => by cases i) (iv.app (.cons j .nil)) nn)⟩
theorem quo {k j : Int} {n : Nat} (h : Pk n k j) : ∃ g u v : Int, g = ((Nat.gcd k.natAbs j.natAbs : Nat) : Int) ∧ k.fdiv ((Nat.gcd k.natAbs j.natAbs : Nat) : Int) = u ∧ j.fdiv ((Nat.gcd k.natAbs j.natAbs : Nat) : Int) = v ∧ Pk n u v ∧ Nat.gcd u.natAbs v.natAbs = 1 ∧ g ≠ 0 ∧ g.natAbs < 2 ^ n := by
  have hg : 0 < Nat.gcd k.natAbs j.natAbs := by
    refine Nat.pos_of_ne_zero fun z => h.nz ?_
    have := Nat.gcd_eq_zero_iff.mp z
    omega
  have dk : ((Nat.gcd k.natAbs j.natAbs : Nat) : Int) ∣ k := Int.ofNat_dvd_left.mpr (Nat.gcd_dvd_left _ _)
  have dj : ((Nat.gcd k.natAbs j.natAbs : Nat) : Int) ∣ j := Int.ofNat_dvd_left.mpr (Nat.gcd_dvd_right _ _)
  have hl : Nat.gcd k.natAbs j.natAbs < 2 ^ n := by
    by_cases z : k = 0
    · have hj : 0 < j.natAbs := by have := h.nz; omega
      have := Nat.gcd_le_right k.natAbs hj
      have := h.j
      omega
    · have := Nat.gcd_le_left j.natAbs (show 0 < k.natAbs by omega)
      have := h.k
      omega
  generalize hG : Nat.gcd k.natAbs j.natAbs = G at *
  obtain ⟨u, eu⟩ := dk
  obtain ⟨v, ev⟩ := dj
  have g0 : (G : Int) ≠ 0 := by omega
  have ku : k.natAbs = G * u.natAbs := by rw [eu, Int.natAbs_mul]; rfl
  have jv : j.natAbs = G * v.natAbs := by rw [ev, Int.natAbs_mul]; rfl
  have lu : u.natAbs ≤ k.natAbs := by rw [ku]; exact Nat.le_mul_of_pos_left _ hg
  have lv : v.natAbs ≤ j.natAbs := by rw [jv]; exact Nat.le_mul_of_pos_left _ hg
  refine ⟨G, u, v, rfl, ?_, ?_, ⟨fun z => h.nz ?_, ?_, ?_⟩, ?_, g0, by omega⟩
  · rw [eu]; exact Int.mul_fdiv_cancel_left _ g0
  · rw [ev]; exact Int.mul_fdiv_cancel_left _ g0
  · rw [eu, ev, z.1, z.2]; simp
  · have := h.k; omega
  · have := h.j; omega
  · rw [ku, jv, Nat.gcd_mul_left] at hG
    exact Nat.eq_of_mul_eq_mul_left hg (by rw [hG, Nat.mul_one])
theorem mt_pk {k j a b : Int} (h : Mt k j a b) (p : Pk 49 k j) : Pk 52 a b := by
  have cr := h.cr
  refine ⟨fun z => ?_, ?_, ?_⟩
  · rw [z.1, z.2, Int.zero_mul, Int.mul_zero] at cr
    cases cr
  · have n := near_n h
    have := p.k
    omega
  · by_cases hk : k = 0
    · rw [h.z hk]
      decide
    · have lo := h.lo hk
      have hi := h.hi hk
      have e : k * b = a * j - 1 := by omega
      have h1 : (k * b).natAbs ≤ k.natAbs * j.natAbs + 1 := by
        rw [e]
        have h2 : (a * j).natAbs ≤ k.natAbs * j.natAbs := by
          rw [Int.natAbs_mul]
          exact Nat.mul_le_mul_right _ (by omega)
        omega
      rw [Int.natAbs_mul] at h1
      have hk1 : 1 ≤ k.natAbs := by omega
      have : b.natAbs ≤ j.natAbs + 1 := by
        refine Nat.le_of_mul_le_mul_left (c := k.natAbs) ?_ (by omega)
        rw [Nat.mul_add]
        omega
      have := p.j
      omega
theorem Env.up {K : Frag} {T : List (Addr × Str)} {H0 H : Hp} {L : List (V × Dt)} {a c : Addr} {N M : Nat} (h : Env K (.law T (some (a, c, N))) H0 H L) (l : N ≤ M) : Env K (.law T (some (a, c, M))) H0 H L :=
  ⟨fun b o nb nt e => h.gr b o (fun q z => by cases z; exact nb (a, c, M) rfl) nt e, ⟨h.at_.1, fun q z => by cases z; exact (h.at_.2 _ rfl).mono l⟩, h.all⟩
theorem allApp {α : Type} {P : α → Prop} {a : List α} {x : α} (h : ∀ d ∈ a, P d) (p : P x) : ∀ d ∈ a ++ [x], P d := fun d i => by
  rcases List.mem_append.mp i with i | i
  · exact h d i
  · rw [List.mem_singleton.mp i]
    exact p
theorem enumI {K : Frag} {ta : TA} {σ : L2.St} {H : Hp} {R : It → Hp → Prop} (h : ta σ H fun vs H1 => EnumD K vs H1 R) : iEnum K ta σ H R := ⟨h⟩
theorem enumD {K : Frag} {H : Hp} {D : Addr} {ds : List Dt} {R : It → Hp → Prop} (i : IsV K H (.ref D) (.lst ds)) (k : ∀ vs, H D = some (.lst vs) → IsVs K H vs ds → R (Ite K D) H) : EnumD K [V.ref D] H R := by
  obtain ⟨p, vs, e, hp, iv⟩ := i.lstE
  cases e
  exact ⟨D, vs, rfl, SqL.of hp, k vs hp iv⟩
theorem lawLB {K : Frag} {T : List (Addr × Str)} {H0 H : Hp} {L : List (V × Dt)} {pp : Option (Addr × Addr × Nat)} {vs : List V} {ds : List Dt} {b : Bool} {cs : List Cn} {ts : List Ty0} {n : Nat} {R : List Dt → Dt → Prop} {Q : VK} {E : XK} (h : Env K (.law T pp) H0 H L) (i : IsVs K H vs ds) (z : DsOk cs ts n ds) (r : R ds (.bl b)) (k : ∀ H', Env K (.law T pp) H0 H' L → Q (.bl b) H') : spL K cs ts T n R vs H Q E :=
  ⟨ds, _, i, z, r, h.at_.1, fun v H' e t i => by
    obtain rfl := i.blE
    exact k H' (h.extN e t)⟩
theorem Env.rebase {K : Frag} {T : List (Addr × Str)} {H0 H : Hp} {L : List (V × Dt)} {pp : Option (Addr × Addr × Nat)} (h : Env K (.law T pp) H0 H L) : Env K (.law T pp) H H L := ⟨fun _ _ _ _ e => e, h.at_, h.all⟩
structure RepB (s : Str) (k : Int) : Prop where
  a : 2 ≤ k
  b : k ≤ 1000
  c : s.length ≠ 0
  d : s.length ≤ 1000
  e : (repS s k).length ≤ sizeLine
theorem repSD {s : Str} {k : Int} {H : Hp} {Q : VK} (b : RepB s k) (q : Q (.str (repS s k)) H) : rRepS (.str s) (.int k) H Q := ⟨s, k, rfl, rfl, b.a, b.b, b.c, b.d, b.e, q⟩
theorem repB9 : RepB "9" 61 := ⟨by decide, by decide, by decide, by decide, by decide +kernel⟩
def badL : List Str := ["", "+1", "01", "1/2", "-0", "x", "--1", "-", "1.0", repS "9" 61, "-" ++ repS "9" 61]
theorem bad_ok : ∀ w ∈ badL, intW w = none ∧ 32 ∉ tl w ∧ w.length ≤ 100 := by decide +kernel
end Sp
end
section
set_option Elab.async false
set_option linter.all false
set_option maxRecDepth 100000
set_option maxHeartbeats 4000000
namespace Sp
open PySem PySem.Spec PyProof.Rows L2
open PySem.W (Frag)
/-! ### an if after which all goes on alike: what follows is read once -/
structure tIfC (c : TT) (t u : TS) (D : Ends) (σ : L2.St) (H : Hp) : Prop where
  un : tIfS c t u D σ H
theorem ps_ifC {X : Cx} {c : Expr} {a b : List Stmt} {tc : TT} {t u : TS} {pos : Pos} (hc : PT X c tc) (ha : PSs X a t) (hb : PSs X b u) : PS X (.If c a b pos) (tIfC tc t u) := ⟨fun pins s σ H D I h => (ps_if hc ha hb).run pins s σ H D I h.un⟩
theorem ifCut {K : Frag} {m : Md} {H0 H : Hp} {L : List (V × Dt)} {c : TT} {t u : TS} {D : Ends} {σ : L2.St} (e : Env K m H0 H L) (hr : ∀ H', Env K m H0 H' L → D.nx σ H') (h : ∀ N : L2.St → Hp → Prop, (∀ H', Env K m H0 H' L → N σ H') → tIfS c t u { D with nx := N } σ H) : tIfC c t u D σ H := ⟨h D.nx hr⟩
theorem ifGo {c : TT} {t u : TS} {D : Ends} {σ : L2.St} {H : Hp} (h : tIfS c t u D σ H) : tIfC c t u D σ H := ⟨h⟩
theorem Env.drop {K : Frag} {m : Md} {H0 H : Hp} {L : List (V × Dt)} {x : V × Dt} (h : Env K m H0 H (x :: L)) : Env K m H0 H L := ⟨h.gr, h.at_, fun e i => h.all e (List.mem_cons_of_mem _ i)⟩
theorem Env.sub {K : Frag} {m : Md} {H0 H : Hp} {L L' : List (V × Dt)} (h : Env K m H0 H L) (s : ∀ e ∈ L', e ∈ L) : Env K m H0 H L' := ⟨h.gr, h.at_, fun e i => h.all e (s e i)⟩
end Sp
end
section
set_option Elab.async false
set_option linter.all false
set_option maxRecDepth 100000
set_option maxHeartbeats 0
namespace Sp
open PySem PySem.Spec PyProof.Rows L2
open PySem.W (Frag)
theorem oexB_ok {K : Frag} {C : Addr} (h : oexB K C = true) : OexC K C := by
  unfold oexB at h
  obtain ⟨h1, h⟩ := He.ba h
  obtain ⟨h2, h⟩ := He.ba h
  obtain ⟨h3, h⟩ := He.ba h
  obtain ⟨h4, h5⟩ := He.ba h
  refine ⟨?_, of_decide_eq_true h2, of_decide_eq_true h3, of_decide_eq_true h4, h5⟩
  split at h1
  · rename_i dd cd sl ho
    split at h1
    · rename_i C' bm k0 k1 k2 k3 n k5 hm hs
      simp only [Bool.and_eq_true, beq_iff_eq, Bool.not_eq_true'] at h1
      obtain ⟨rfl, rfl, hdel, hdict, hr⟩ := h1
      obtain ⟨nm, bs, mro, ns, qn, hd, sn, sub, ab, col, del⟩ := cd
      dsimp only at hm hdel hdict
      subst hm hdel hdict
      have hsl : sl = #[k0, k1, k2, k3, some (.builtin "ValueError.__new__"), k5] := by
        obtain ⟨l⟩ := sl
        simp only at hs
        rw [hs]
      subst hsl
      exact ⟨nm, qn, ns, bs, bm, sn, sub, ab, col, dd, k0, k1, k2, k3, k5, ho, hr⟩
    · cases h1
  · cases h1
theorem cfB_ok {K : Frag} {x : Str} {fl : List Str} (h : cfB K x fl = true) : CF K (He.ga K x) fl := by
  unfold cfB at h
  obtain ⟨h1, h⟩ := He.ba h
  obtain ⟨h2, h⟩ := He.ba h
  obtain ⟨h3, h⟩ := He.ba h
  obtain ⟨h4, h⟩ := He.ba h
  obtain ⟨h5, h⟩ := He.ba h
  obtain ⟨h6, h7⟩ := He.ba h
  exact ⟨He.cls_ok h1, of_decide_eq_true h2, of_decide_eq_true h3, of_decide_eq_true h4, of_decide_eq_true h5, fun f hf => He.noat_ok (List.all_eq_true.mp h7 f hf)⟩
theorem cfB_glo {K : Frag} {x : Str} {fl : List Str} (h : cfB K x fl = true) : (He.Fa.glo x).ok K = true := by
  unfold cfB at h
  obtain ⟨_, h⟩ := He.ba h
  obtain ⟨_, h⟩ := He.ba h
  obtain ⟨_, h⟩ := He.ba h
  obtain ⟨_, h⟩ := He.ba h
  obtain ⟨_, h⟩ := He.ba h
  exact (He.ba h).1
theorem kitB_ok {K : Frag} {ts : List Ty0} (h : kitB K ts = true) : ∀ t ∈ ts, ∀ u ∈ ts, PySem.W.kitOne K (tv K t) (tv K u) = some (sub0 t u) := fun t ht u hu => of_decide_eq_true (List.all_eq_true.mp (List.all_eq_true.mp h t ht) u hu)
theorem opB_ok {K : Frag} {C : Addr} {m r : Str} (h : opB K C m r = true) : OpC K C m r (He.ma K C m) := by
  unfold opB at h
  obtain ⟨h1, h⟩ := He.ba h
  obtain ⟨h2, h⟩ := He.ba h
  obtain ⟨h3, h⟩ := He.ba h
  obtain ⟨h4, h⟩ := He.ba h
  obtain ⟨h5, h⟩ := He.ba h
  obtain ⟨h6, h7⟩ := He.ba h
  exact ⟨h1, of_decide_eq_true h2, h3, of_decide_eq_true h4, Option.isSome_iff_exists.mp h5, Option.isSome_iff_exists.mp h6, of_decide_eq_true h7⟩
theorem metB_ok {K : Frag} {C : Addr} {m : Str} (h : metB K C m = true) : Meth K C m (He.ma K C m) := by
  unfold metB nmB at h
  obtain ⟨h1, h3⟩ := He.ba h
  obtain ⟨h1, h2⟩ := He.ba h1
  exact ⟨of_decide_eq_true h1, h2, h3⟩
theorem propB_ok {K : Frag} {C : Addr} {m : Str} (h : propB K C m = true) : PropOf K C m (He.ma K C m) (He5.wf K C "property" m) := by
  unfold propB at h
  obtain ⟨h1, h⟩ := He.ba h
  obtain ⟨h2, h⟩ := He.ba h
  obtain ⟨h3, h4⟩ := He.ba h
  refine ⟨of_decide_eq_true h1, of_decide_eq_true h2, of_decide_eq_true h3, ?_⟩
  unfold He5.wf
  split at h4
  · rename_i f r e
    exact ⟨r, by rw [e]⟩
  · cases h4
theorem smB_ok {K : Frag} {C : Addr} {m : Str} (h : smB K C m = true) : SMet K C (.type "type") m (He.ma K C m) (He5.wf K C "staticmethod" m) := by
  unfold smB at h
  obtain ⟨h1, h⟩ := He.ba h
  obtain ⟨h2, h⟩ := He.ba h
  obtain ⟨h3, h4⟩ := He.ba h
  obtain ⟨h5, h6⟩ := He5.wrapB_ok h3
  exact ⟨h1, of_decide_eq_true h2, h5, h6, h4⟩
theorem cmB_ok {K : Frag} {C : Addr} {m : Str} (h : cmB K C m = true) : ClX.CRead K C (.type "type") ∧ ClX.CMet K C (.type "type") m (He.ma K C m) (He5.wf K C "classmethod" m) := by
  unfold cmB at h
  obtain ⟨h1, h⟩ := He.ba h
  obtain ⟨h2, h⟩ := He.ba h
  obtain ⟨h3, h4⟩ := He.ba h
  exact ⟨⟨h1, of_decide_eq_true h2⟩, He5.cmet_of h3 h4⟩
theorem nm_ok {K : Frag} {C : Addr} {m : Str} (h : nmB K C m = true) : PySem.W.findIn K (.ref C) m = some (some (.ref (He.ma K C m))) ∧ PySem.W.isFn K (.ref (He.ma K C m)) = true := by
  unfold nmB at h
  obtain ⟨h1, h2⟩ := He.ba h
  exact ⟨of_decide_eq_true h1, h2⟩
structure XnF (K : Frag) (x : Str) (fl : List Str) : Prop where
  oex : OexC K (He.ga K x)
  glo : (He.Fa.glo x).ok K = true
  ini : PySem.W.findIn K (.ref (He.ga K x)) "__init__" = some (some (.ref (He.ma K (He.ga K x) "__init__")))
  ty : PySem.W.typeIn K (.ref (He.ma K (He.ga K x) "__init__")) = some (.type "function")
  no : ∀ f ∈ fl, PySem.W.findIn K (.ref (He.ga K x)) f = some none
theorem xnB_ok {K : Frag} {x : Str} {fl : List Str} (h : xnB K x fl = true) : XnF K x fl := by
  unfold xnB at h
  obtain ⟨h1, h⟩ := He.ba h
  obtain ⟨h2, h⟩ := He.ba h
  obtain ⟨h3, h⟩ := He.ba h
  obtain ⟨h4, h5⟩ := He.ba h
  exact ⟨oexB_ok h1, h2, of_decide_eq_true h3, of_decide_eq_true h4, fun f hf => He.noat_ok (List.all_eq_true.mp h5 f hf)⟩
theorem nfB_ok {K : Frag} {C : Addr} {ts : List Ty0} (h : nfB K C ts = true) : ∀ t ∈ ts, PySem.W.notFirst K C (tv K t) = true := List.all_eq_true.mp h
theorem tv_tyS {K : Frag} {t : Ty0} {s : String} (h : tyS t = some s) : tv K t = .type s := by
  cases t <;> first | (cases h; done) | (cases h; rfl)
theorem ritB_ok {K : Frag} {C : Addr} {op : Operator} {ts : List Ty0} (h : ritB K C op ts = true) : ∀ t ∈ ts, RiT K C op (tv K t) := fun t ht => by
  have h1 := List.all_eq_true.mp h t ht
  cases e : tyS t with
  | none => rw [e] at h1; cases h1
  | some T =>
    rw [e] at h1
    obtain ⟨h2, h1⟩ := He.ba h1
    obtain ⟨h3, h4⟩ := He.ba h1
    rw [tv_tyS e]
    exact RiT.ty (Option.isSome_iff_exists.mp h2) (Option.isSome_iff_exists.mp h3) (of_decide_eq_true h4)
theorem rioB_ok {K : Frag} {C D : Addr} {op : Operator} (h : rioB K C D op = true) : RiT K C op (.ref D) := by
  unfold rioB at h
  obtain ⟨h1, h⟩ := He.ba h
  obtain ⟨h2, h⟩ := He.ba h
  obtain ⟨h3, h⟩ := He.ba h
  obtain ⟨h4, h5⟩ := He.ba h
  exact RiT.own (of_decide_eq_true h1) h2 (of_decide_eq_true h3) (of_decide_eq_true h4) (.inl rfl) (of_decide_eq_true h5)
theorem code_of {K : Frag} {x qual : Str} {params : Arguments} {body : List Stmt} {scope : Scope} {fd : FuncData} (F : FunD K x qual params body scope [] [] (He.ga K x) fd) : fd.code = .ref (He.cT K (x, none)).1 := by
  obtain ⟨oc, od, dV, kV, doc, pm, an, cdv, ct, osl, rfl, lk, hcd, _, _⟩ := F.ex
  obtain ⟨c, rfl⟩ := He.codeIn_ref hcd
  exact congrArg Value.ref (He.codeOf_eq (p := (x, none)) lk rfl).symm
end Sp
end
section
set_option Elab.async false
set_option linter.all false
set_option maxRecDepth 100000
set_option maxHeartbeats 4000000
namespace Sp
open PySem PySem.Spec PyProof.Rows L2
theorem herN {K : PySem.W.Frag} {m : Md} {H0 H : Hp} {L : List (V × Dt)} {k j l i : Int} {Q : VK} (h : Env K m H0 H L) (z1 : SzD 100000 (.step k j)) (z2 : SzD 100000 (.step l i)) (kk : ∀ p H', Env K m H0 H' ((.ref p, .tup [.str "apart", .tup [.int k, .int j], .tup [.int l, .int i]]) :: L) → Q (.ref p) H') :
    AftE K H "NotNeighbours" [("other", .step l i), ("one", .step k j)] (HErr K Q) := by
  refine herX h fun H' gs s ig => ?_
  match gs, ig with
  | [(_, v2), (_, v1)], .cons i2 (.cons i1 .nil) =>
    exact ⟨rfl, v1, v2, k, j, l, i, rfl, i1, i2, z1, z2, fun u1 u2 H2 s2 iu1 iu2 p n => kk p _ (((h.step (s.trans s2)).step (Same.new' n)).add (.tup upd_same (.cons (.str _) (.cons (iu1.same (Same.new' n)) (.cons (iu2.same (Same.new' n)) .nil)))))⟩
theorem inTI {K : PySem.W.Frag} {H : Hp} {y : V} {a b n : Int} {Q : VK} (h : IsV K H y (.tup [.int a, .int b])) (q : Q (.bl (inV (.int n) [.int a, .int b])) H) : rIn K false (.int n) y H Q := by
  obtain ⟨p, rfl⟩ := h.tupE
  exact ⟨p, _, rfl, .inr (SqT.of (rawT2 h)), rfl, rfl, q⟩
theorem inV1 (x n : Int) (h : x = n) : decide (V.bl (decide (x.natAbs = 1)) = V.bl (inV (.int n) [.int 1, .int (-1)])) = true := by
  subst h
  have e : inV (.int x) [.int 1, .int (-1)] = decide (x.natAbs = 1) := by
    rw [Bool.eq_iff_iff]
    simp [inV, eqV]
    omega
  rw [e]
  simp
theorem inV2 (x n : Int) (h : x = n) : inV (.int n) [.int 1, .int (-1)] = decide (x.natAbs = 1) := by
  subst h
  rw [Bool.eq_iff_iff]
  simp [inV, eqV]
  omega
end Sp
end
section
set_option Elab.async false
set_option linter.all false
set_option exponentiation.threshold 5000
set_option maxRecDepth 100000
set_option maxHeartbeats 0
local macro_rules | `(tactic| walk_at "mem") => `(tactic| first | exact List.mem_cons_self | (refine List.mem_cons_of_mem _ ?_; walk_at "mem"))
local macro_rules | `(tactic| walk_at "isv") => `(tactic| first | exact Sp.IsV.int _ | exact Sp.IsV.str _ | exact Sp.IsV.bl _ | exact Sp.IsV.non | exact Sp.Env.get (by assumption) (by walk_at "mem") | assumption)
local macro_rules | `(tactic| walk_at "isvs") => `(tactic| first | exact Sp.IsVs.nil | (refine' Sp.IsVs.cons ?iv ?rs; (case iv => walk_at "isv"); (case rs => walk_at "isvs")))
local macro_rules | `(tactic| walk_at "isfs") => `(tactic| first | exact Sp.IsFs.nil | (refine' Sp.IsFs.cons ?iv ?rs; (case iv => walk_at "isv"); (case rs => walk_at "isfs")))
local macro_rules | `(tactic| walk_at "sz1") => `(tactic| first | exact trivial | exact Sp.biI _ | exact Sp.bqI _ | exact ⟨Sp.biI _, Sp.biI _⟩ | exact ⟨Sp.bqI _, Sp.bqI _⟩ | exact ⟨⟨Sp.biI _, Sp.biI _⟩, Sp.biI _, Sp.biI _⟩ | exact ⟨Sp.bqI _, Sp.bqI _, Sp.bqI _⟩ | assumption | exact Sp.SzD.mono (by assumption) (by decide))
local macro_rules | `(tactic| walk_at "okt") => `(tactic| first | rfl | assumption | decide)
local macro_rules | `(tactic| walk_at "dsok") => `(tactic| first | exact trivial | (refine And.intro (And.intro ?oa ?ob) ?rs; (case oa => walk_at "okt"); (case ob => walk_at "sz1"); (case rs => walk_at "dsok")))
local macro_rules | `(tactic| walk_at "sc") => `(tactic| first | rfl | assumption | decide | omega)
local macro_rules | `(tactic| walk_at "leaf") => `(tactic| first | rfl | assumption | exact True.intro | exact ⟨_, rfl⟩ | exact L2.upd_same | exact L2.ClsV.ty _ | exact L2.ClsV.own _ | decide | exact of_decide_eq_true rfl | exact Sp.cmI _ _ | exact Sp.cdI _ (by first | assumption | omega) | exact Sp.cmL (by decide) | exact Sp.cmR (by decide) | exact ⟨by decide, by decide, by decide⟩ | exact ⟨by decide, by decide⟩ | omega | fail)
local macro_rules | `(tactic| walk_at "cls") => `(tactic| first | exact Sp.ClsD.int | exact Sp.ClsD.bool | exact Sp.ClsD.str | exact Sp.ClsD.own _ | exact Sp.ClsD.tuple | exact Sp.ClsD.list)
local macro_rules | `(tactic| walk_at "args") => `(tactic| repeat (first
  | refine' Sp.aaInt ?_ | refine' Sp.aaBl ?_ | refine' Sp.aaStr ?_ | refine' Sp.aaNon ?_ | (refine' Sp.aaOwn (by assumption) (by rfl) ?_; intro _ _) | (refine' Sp.aaTup (by assumption) ?_; intro _ _) | (refine' Sp.aaAny (by assumption) ?_; intro _ _) | refine' Sp.aaNil ?_))
local macro_rules | `(tactic| walk_at "rd1") => `(tactic| first
  | apply Sp.exI
  | (refine And.intro ?lf ?_; (case lf => walk_at "leaf"))
  | (show @ite Prop (_ = true) _ _ _; first | refine' Sp.iteT (by first | assumption | rfl | exact Sp.nbT (by assumption) | exact Sp.nbF (by assumption)) ?_ | refine' Sp.iteF (by first | assumption | rfl | exact Sp.nbT (by assumption) | exact Sp.nbF (by assumption)) ?_)
  | (refine' Sp.afInt (by assumption) ?_; intro _ _) | (refine' Sp.afBl (by assumption) ?_; intro _ _) | (refine' Sp.afStr (by assumption) ?_; intro _ _) | (refine' Sp.afNon (by assumption) ?_; intro _ _)
  | (refine' Sp.afOwn (by assumption) (by rfl) ?_; intro _ _ _) | (refine' Sp.afTup (by assumption) ?_; intro _ _ _) | (refine' Sp.afRef (by assumption) ?_; intro _ _ _)
  | refine' Sp.asInt ?_ | refine' Sp.asBl ?_ | refine' Sp.asStr ?_ | refine' Sp.asNon ?_
  | (refine' Sp.asOwn (by assumption) (by rfl) ?_; intro _ _) | (refine' Sp.asTup (by assumption) ?_; intro _ _) | (refine' Sp.asRef (by assumption) ?_; intro _ _)
  | refine' Sp.aaInt ?_ | refine' Sp.aaBl ?_ | refine' Sp.aaStr ?_ | refine' Sp.aaNon ?_ | (refine' Sp.aaOwn (by assumption) (by rfl) ?_; intro _ _) | (refine' Sp.aaTup (by assumption) ?_; intro _ _) | (refine' Sp.aaAny (by assumption) ?_; intro _ _) | refine' Sp.aaNil ?_
  | (refine' Sp.fnR ?i ?z ?r ?_; (case i => walk_at "isvs"); (case z => walk_at "dsok"); (case r => walk_at "rel"))
  | (refine' Sp.makeOk ?i ?z ?r ?o ?_; (case i => walk_at "isvs"); (case z => walk_at "dsok"); (case r => walk_at "rel"); (case o => rfl))
  | (refine' Sp.makeEr ?i ?z ?r ?_; (case i => walk_at "isvs"); (case z => walk_at "dsok"); (case r => walk_at "rel"))
  | (refine' Sp.isiD (by assumption) ?i ?c ?o ?t ?_; (case i => walk_at "isv"); (case c => walk_at "cls"); (case o => walk_at "okt"); (case t => decide))
  | (refine' Sp.fldD (by assumption) ?i ?o ?l ?c ?_; (case i => walk_at "isv"); (case o => rfl); (case l => rfl); (case c => decide))
  | (refine' Sp.fldRaw (by assumption) (by assumption) (by rfl) (by decide) (by decide) ?_)
  | (refine' Sp.methRaw (by assumption) (by rfl) ?_)
  | (refine' Sp.setRaw (by assumption) (by assumption) (by rfl) (by decide) (by decide) ?_)
  | (refine' Sp.strD ?i ?o ?_; (case i => walk_at "isv"); (case o => rfl))
  | (refine' Sp.methD ?i ?o ?l ?_; (case i => walk_at "isv"); (case o => rfl); (case l => rfl))
  | (refine' Sp.propD ?i ?o ?_; (case i => walk_at "isv"); (case o => rfl))
  | (refine' Sp.binD ?i ?o ?j ?e ?_; (case i => walk_at "isv"); (case o => rfl); (case j => walk_at "isv"); (case e => rfl))
  | (refine' Sp.unD ?i ?o ?_; (case i => walk_at "isv"); (case o => rfl))
  | (refine' Sp.absD ?i ?o ?_; (case i => walk_at "isv"); (case o => rfl))
  | (refine' Sp.eqOwnD (by assumption) ?i ?o ?j ?e ?n ?_; (case i => walk_at "isv"); (case o => rfl); (case j => walk_at "isv"); (case e => walk_at "okt"); (case n => walk_at "nf"))
  | (refine' Sp.neOwnD (by assumption) ?i ?o ?j ?e ?n ?_; (case i => walk_at "isv"); (case o => rfl); (case j => walk_at "isv"); (case e => walk_at "okt"); (case n => walk_at "nf"))
  | (refine' Sp.tupD (by assumption) ?i ?l ?_; (case i => walk_at "isvs"); (case l => rfl); intro _ _ _)
  | (refine' Sp.lstD (by assumption) ?i ?l ?_; (case i => walk_at "isvs"); (case l => rfl); intro _ _ _)
  | (refine' Sp.raiseD (by assumption) ?i ?e ?l ?_; (case i => walk_at "isvs"); (case e => rfl); (case l => rfl))
  | (refine' Sp.setD (by assumption) (by assumption) rfl rfl rfl (by decide) (by decide) ?_; intro _ _)
  | (refine' Sp.ixTD ?i ?e ?g ?_; (case i => walk_at "isv"); (case e => rfl); (case g => rfl))
  | (refine' Sp.ixLD ?i ?e ?g ?_; (case i => walk_at "isv"); (case e => rfl); (case g => rfl))
  | (refine' Sp.gTupD ?i ?e ?_; (case i => walk_at "isv"); (case e => rfl))
  | (refine' Sp.finD' (by assumption) (by assumption) ?i; (case i => walk_at "isv"))
  | refine' Sp.finE' (by assumption) (by assumption)
  | refine' Sp.finIE (by assumption) (by assumption) (by assumption)
  | (refine' Sp.dipD (by assumption) (by omega) ?m0 ?m1 ?n ?_; (case m0 => first | decide | omega); (case m1 => first | decide | omega); (case n => rfl); intro _ _ _ _ _)
  | (refine' Sp.lawL (by assumption) ?i ?z ?r ?_; (case i => walk_at "isvs"); (case z => walk_at "dsok"); (case r => walk_at "rel"); intro _ _ _)
  | (refine' Sp.lawP (by assumption) ?i ?z ?nd ?pr (by omega) ?nl ?_; (case i => walk_at "isvs"); (case z => walk_at "dsok"); (case nd => rfl); (case pr => walk_at "pre"); (case nl => rfl))
  | (refine' Sp.dctD (by assumption) ?_; intro _ _ _)
  | (refine' Sp.eqDD ?i ?j ?e ?f ?s ?t ?_; (case i => walk_at "isv"); (case j => walk_at "isv"); (case e => rfl); (case f => rfl); (case s => rfl); (case t => rfl))
  | (refine' Sp.neDD ?i ?j ?e ?f ?s ?t ?_; (case i => walk_at "isv"); (case j => walk_at "isv"); (case e => rfl); (case f => rfl); (case s => rfl); (case t => rfl))
  | (refine' Sp.lamD (by assumption) ?_; intro _ _ _ _)
  | (refine' Sp.hokD (by assumption) ?i ?_; (case i => walk_at "isv"); intro _ _ _)
  | (refine' Sp.herP1 (by assumption) ?m ?l ?_; (case m => walk_at "mem"); (case l => rfl); intro _ _ _)
  | (refine' Sp.herP2 (by assumption) ?m ?l ?l2 ?_; (case m => walk_at "mem"); (case l => rfl); (case l2 => rfl); intro _ _ _)
  | (refine' Sp.finL (by assumption) (by assumption) ?i; (case i => walk_at "isv"))
  | fail)
local macro_rules | `(tactic| walk_at "rd1N") => `(tactic| first
  | apply Sp.exI
  | (refine And.intro ?lf ?_; (case lf => walk_at "leaf"))
  | (show @ite Prop (_ = true) _ _ _; first | refine' Sp.iteT (by first | assumption | rfl | exact Sp.nbT (by assumption) | exact Sp.nbF (by assumption)) ?_ | refine' Sp.iteF (by first | assumption | rfl | exact Sp.nbT (by assumption) | exact Sp.nbF (by assumption)) ?_)
  | (refine' Sp.afInt (by assumption) ?_; intro _ _) | (refine' Sp.afBl (by assumption) ?_; intro _ _) | (refine' Sp.afStr (by assumption) ?_; intro _ _) | (refine' Sp.afNon (by assumption) ?_; intro _ _)
  | (refine' Sp.afOwn (by assumption) (by rfl) ?_; intro _ _ _) | (refine' Sp.afTup (by assumption) ?_; intro _ _ _) | (refine' Sp.afRef (by assumption) ?_; intro _ _ _)
  | refine' Sp.asInt ?_ | refine' Sp.asBl ?_ | refine' Sp.asStr ?_ | refine' Sp.asNon ?_
  | (refine' Sp.asOwn (by assumption) (by rfl) ?_; intro _ _) | (refine' Sp.asTup (by assumption) ?_; intro _ _) | (refine' Sp.asRef (by assumption) ?_; intro _ _)
  | refine' Sp.aaInt ?_ | refine' Sp.aaBl ?_ | refine' Sp.aaStr ?_ | refine' Sp.aaNon ?_ | (refine' Sp.aaOwn (by assumption) (by rfl) ?_; intro _ _) | (refine' Sp.aaTup (by assumption) ?_; intro _ _) | (refine' Sp.aaAny (by assumption) ?_; intro _ _) | refine' Sp.aaNil ?_
  | (refine' Sp.fnR ?i ?z ?r ?_; (case i => walk_at "isvs"); (case z => walk_at "dsok"); (case r => walk_at "rel"))
  | (refine' Sp.makeOk ?i ?z ?r ?o ?_; (case i => walk_at "isvs"); (case z => walk_at "dsok"); (case r => walk_at "rel"); (case o => rfl))
  | (refine' Sp.makeEr ?i ?z ?r ?_; (case i => walk_at "isvs"); (case z => walk_at "dsok"); (case r => walk_at "rel"))
  | (refine' Sp.isiD (by assumption) ?i ?c ?o ?t ?_; (case i => walk_at "isv"); (case c => walk_at "cls"); (case o => walk_at "okt"); (case t => decide))
  | (refine' Sp.fldD (by assumption) ?i ?o ?l ?c ?_; (case i => walk_at "isv"); (case o => rfl); (case l => rfl); (case c => decide))
  | (refine' Sp.fldRaw (by assumption) (by assumption) (by rfl) (by decide) (by decide) ?_)
  | (refine' Sp.methRaw (by assumption) (by rfl) ?_)
  | (refine' Sp.setRaw (by assumption) (by assumption) (by rfl) (by decide) (by decide) ?_)
  | (refine' Sp.strD ?i ?o ?_; (case i => walk_at "isv"); (case o => rfl))
  | (refine' Sp.methD ?i ?o ?l ?_; (case i => walk_at "isv"); (case o => rfl); (case l => rfl))
  | (refine' Sp.propD ?i ?o ?_; (case i => walk_at "isv"); (case o => rfl))
  | (refine' Sp.binD ?i ?o ?j ?e ?_; (case i => walk_at "isv"); (case o => rfl); (case j => walk_at "isv"); (case e => rfl))
  | (refine' Sp.unD ?i ?o ?_; (case i => walk_at "isv"); (case o => rfl))
  | (refine' Sp.absD ?i ?o ?_; (case i => walk_at "isv"); (case o => rfl))
  | (refine' Sp.eqOwnD (by assumption) ?i ?o ?j ?e ?n ?_; (case i => walk_at "isv"); (case o => rfl); (case j => walk_at "isv"); (case e => walk_at "okt"); (case n => walk_at "nf"))
  | (refine' Sp.neOwnD (by assumption) ?i ?o ?j ?e ?n ?_; (case i => walk_at "isv"); (case o => rfl); (case j => walk_at "isv"); (case e => walk_at "okt"); (case n => walk_at "nf"))
  | (refine' Sp.raiseD (by assumption) ?i ?e ?l ?_; (case i => walk_at "isvs"); (case e => rfl); (case l => rfl))
  | (refine' Sp.setD (by assumption) (by assumption) rfl rfl rfl (by decide) (by decide) ?_; intro _ _)
  | (refine' Sp.ixTD ?i ?e ?g ?_; (case i => walk_at "isv"); (case e => rfl); (case g => rfl))
  | (refine' Sp.ixLD ?i ?e ?g ?_; (case i => walk_at "isv"); (case e => rfl); (case g => rfl))
  | (refine' Sp.gTupD ?i ?e ?_; (case i => walk_at "isv"); (case e => rfl))
  | (refine' Sp.finD' (by assumption) (by assumption) ?i; (case i => walk_at "isv"))
  | refine' Sp.finE' (by assumption) (by assumption)
  | refine' Sp.finIE (by assumption) (by assumption) (by assumption)
  | (refine' Sp.dipD (by assumption) (by omega) ?m0 ?m1 ?n ?_; (case m0 => first | decide | omega); (case m1 => first | decide | omega); (case n => rfl); intro _ _ _ _ _)
  | (refine' Sp.lawL (by assumption) ?i ?z ?r ?_; (case i => walk_at "isvs"); (case z => walk_at "dsok"); (case r => walk_at "rel"); intro _ _ _)
  | (refine' Sp.lawP (by assumption) ?i ?z ?nd ?pr (by omega) ?nl ?_; (case i => walk_at "isvs"); (case z => walk_at "dsok"); (case nd => rfl); (case pr => walk_at "pre"); (case nl => rfl))
  | (refine' Sp.dctD (by assumption) ?_; intro _ _ _)
  | (refine' Sp.eqDD ?i ?j ?e ?f ?s ?t ?_; (case i => walk_at "isv"); (case j => walk_at "isv"); (case e => rfl); (case f => rfl); (case s => rfl); (case t => rfl))
  | (refine' Sp.neDD ?i ?j ?e ?f ?s ?t ?_; (case i => walk_at "isv"); (case j => walk_at "isv"); (case e => rfl); (case f => rfl); (case s => rfl); (case t => rfl))
  | (refine' Sp.lamD (by assumption) ?_; intro _ _ _ _)
  | (refine' Sp.hokD (by assumption) ?i ?_; (case i => walk_at "isv"); intro _ _ _)
  | (refine' Sp.herP1 (by assumption) ?m ?l ?_; (case m => walk_at "mem"); (case l => rfl); intro _ _ _)
  | (refine' Sp.herP2 (by assumption) ?m ?l ?l2 ?_; (case m => walk_at "mem"); (case l => rfl); (case l2 => rfl); intro _ _ _)
  | (refine' Sp.finL (by assumption) (by assumption) ?i; (case i => walk_at "isv"))
  | fail)
local macro_rules | `(tactic| walk_at "rdN") => `(tactic| repeat (walk_at "rd1N"))
local macro_rules | `(tactic| walk_at "rd") => `(tactic| repeat (walk_at "rd1"))
local macro_rules | `(tactic| walk_at "zs") => `(tactic| (refine' Sp.zsStart (by assumption) ?_; repeat (first | refine' Sp.zsNil ?_ | (refine' Sp.zsInt ?_; intro _) | (refine' Sp.zsRat ?_; intro _) | (refine' Sp.zsStep ?_; intro _ _) | (refine' Sp.zsStem ?_; intro _ _) | (refine' Sp.zsTable ?_; intro _ _ _ _) | (refine' Sp.zsAny ?_; intro _ _))))
local macro_rules | `(tactic| walk_at "go0") => `(tactic| (walk_at "zs"; (have := Sp.Env.of (K := ‹PySem.W.Frag›) ‹L2.Hp›); walk_at "args"))
local macro_rules | `(tactic| walk_at "go") => `(tactic| (walk_at "go0"; walk_at "rd"))
local macro_rules | `(tactic| walk_at "goI0") => `(tactic| (walk_at "zs"; (have := Sp.Env.ofI (K := ‹PySem.W.Frag›) (H := ‹L2.Hp›) (by assumption)); walk_at "args"))
local macro_rules | `(tactic| walk_at "goI") => `(tactic| (walk_at "goI0"; walk_at "rd"))
local macro_rules | `(tactic| walk_at "goL") => `(tactic| (walk_at "zs"; walk_at "args"; walk_at "rd"))
local macro_rules | `(tactic| walk_at "rel") => `(tactic| first
  | (apply Sp.RIsInt.mk <;> walk_at "sc")
  | (apply Sp.RIsRat.mk <;> walk_at "sc")
  | (apply Sp.RSign.mk <;> walk_at "sc")
  | (apply Sp.RInitR.one <;> walk_at "sc")
  | (apply Sp.RInitR.ok <;> walk_at "sc")
  | (apply Sp.RInitR.z <;> walk_at "sc")
  | (apply Sp.RInitR.t <;> walk_at "sc")
  | (apply Sp.RInitR.b <;> walk_at "sc")
  | (apply Sp.ROf.r <;> walk_at "sc")
  | (apply Sp.ROf.i <;> walk_at "sc")
  | (apply Sp.ROf.n <;> walk_at "sc")
  | (apply Sp.RBinR.r <;> walk_at "sc")
  | (apply Sp.RBinR.i <;> walk_at "sc")
  | (apply Sp.RBinR.n <;> walk_at "sc")
  | (apply Sp.ROver.r <;> walk_at "sc")
  | (apply Sp.ROver.i <;> walk_at "sc")
  | (apply Sp.ROver.z <;> walk_at "sc")
  | (apply Sp.ROver.zi <;> walk_at "sc")
  | (apply Sp.ROver.n <;> walk_at "sc")
  | (apply Sp.RCmp.r <;> walk_at "sc")
  | (apply Sp.RCmp.i <;> walk_at "sc")
  | (apply Sp.RCmp.n <;> walk_at "sc")
  | (apply Sp.RBelow.r <;> walk_at "sc")
  | (apply Sp.RBelow.i <;> walk_at "sc")
  | (apply Sp.RBelow.n <;> walk_at "sc")
  | (apply Sp.RUnR.mk <;> walk_at "sc")
  | (apply Sp.REqR.r <;> walk_at "sc")
  | (apply Sp.REqR.i <;> walk_at "sc")
  | (apply Sp.REqR.n <;> walk_at "sc")
  | (apply Sp.RPropR.mk <;> walk_at "sc")
  | (apply Sp.RInitS.ok <;> walk_at "sc")
  | (apply Sp.RInitS.z <;> walk_at "sc")
  | (apply Sp.RInitS.s <;> walk_at "sc")
  | (apply Sp.RInitS.r <;> walk_at "sc")
  | (apply Sp.RNeed.ok <;> walk_at "sc")
  | (apply Sp.RNeed.no <;> walk_at "sc")
  | (apply Sp.RNeedK.ok <;> walk_at "sc")
  | (apply Sp.RNeedK.z <;> walk_at "sc")
  | (apply Sp.RCross.ok <;> walk_at "sc")
  | (apply Sp.RCross.one <;> walk_at "sc")
  | (apply Sp.RCross.oth <;> walk_at "sc")
  | (apply Sp.RAreN.ok <;> walk_at "sc")
  | (apply Sp.RAreN.one <;> walk_at "sc")
  | (apply Sp.RAreN.oth <;> walk_at "sc")
  | (apply Sp.RNeedN.ok <;> walk_at "sc")
  | (apply Sp.RNeedN.no <;> walk_at "sc")
  | (apply Sp.RNeedN.one <;> walk_at "sc")
  | (apply Sp.RNeedN.oth <;> walk_at "sc")
  | (apply Sp.RBetween.ok <;> walk_at "sc")
  | (apply Sp.RBetween.no <;> walk_at "sc")
  | (apply Sp.RBetween.one <;> walk_at "sc")
  | (apply Sp.RBetween.oth <;> walk_at "sc")
  | (apply Sp.RSummed.ok <;> walk_at "sc")
  | (apply Sp.RSummed.z <;> walk_at "sc")
  | (apply Sp.RBinS.ok <;> walk_at "sc")
  | (apply Sp.RBinS.z <;> walk_at "sc")
  | (apply Sp.RBinS.n <;> walk_at "sc")
  | (apply Sp.RMulS.ok <;> walk_at "sc")
  | (apply Sp.RMulS.z <;> walk_at "sc")
  | (apply Sp.RMulS.n <;> walk_at "sc")
  | (apply Sp.RNegS.mk <;> walk_at "sc")
  | (apply Sp.REqS.s <;> walk_at "sc")
  | (apply Sp.REqS.n <;> walk_at "sc")
  | (apply Sp.RIsUp.mk <;> walk_at "sc")
  | (apply Sp.RUpw.mk <;> walk_at "sc")
  | (apply Sp.ROneR.mk <;> walk_at "sc")
  | (apply Sp.RCorner.ok <;> walk_at "sc")
  | (apply Sp.RCorner.z <;> walk_at "sc")
  | fail)
local macro_rules | `(tactic| walk_at "nf") => `(tactic| first | exact nf_Ratio _ (by decide) | exact nf_Step _ (by decide) | fail)
namespace Sp
open PySem PySem.Spec PyProof.Rows L2
open PySem.W (Frag)
section
variable {P : Program} {w : World} {K : PySem.W.Frag} {mg : Str → Option Value} {base : Heap} {f : Addr} {fd : FuncData}
variable (h_gcd : mg "gcd" = some (.builtin "math.gcd")) {tk1 tk2 : Tok} (h_most : mg "MOST_DIGITS" = some (.int 60 tk1)) (h_digits : mg "DIGITS" = some (.str "0123456789" tk2)) (h_all : mg "all" = none)
variable (g_xBadRatio : GXN P w K mg base 1 "BadRatio" ["part"] (cX K "BadRatio"))
  (g_xBadStep : GXN P w K mg base 1 "BadStep" ["part"] (cX K "BadStep"))
  (g_xBadNumber : GXN P w K mg base 1 "BadNumber" ["part"] (cX K "BadNumber"))
  (g_xRound : GXN P w K mg base 1 "Round" ["part"] (cX K "Round"))
  (g_xNotNeighbours : GXN P w K mg base 1 "NotNeighbours" ["one", "other"] (cX K "NotNeighbours"))
  (g_xCommon : GXN P w K mg base 1 "Common" ["divisor"] (cX K "Common"))
  (g_xBadText : GXN P w K mg base 1 "BadText" ["line", "word"] (cX K "BadText"))
  (g_is_integer : GD P w K mg base (L2.CX P w) 1 "is_integer" ["value"] [] (spR K csL tsL 3900 RIsInt))
  (g_is_ratio : GD P w K mg base (L2.CX P w) 2 "is_ratio" ["value"] [] (spR K csL tsL 3900 RIsRat))
  (g_sign_of : GD P w K mg base (L2.CX P w) 1 "sign_of" ["number"] [] (spR K csL tsL 100000 RSign))
  (g_mRatio : GM P w K mg base (L2.CX P w) 3 "Ratio" (ca K .Ratio) ["self", "top", "bottom"] [] (spRI K csL tsL .Ratio 3900 RInitR)) (g_mRatio1 : GM P w K mg base (L2.CX P w) 3 "Ratio" (ca K .Ratio) ["self", "top", "bottom"] [.int 1] (spRI K csL tsL .Ratio 3900 RInitR))
  (g_Ratio_of : GS P w K mg base (L2.CX P w) 5 (ca K .Ratio) "of" (spR K csL tsL 3900 (ROf "BadRatio" "value")))
  (g_at_right : GD P w K mg base (L2.CX P w) 6 "at_right" ["value"] [] (spR K csL tsL 3900 (ROf "BadRatio" "other")))
  (g_Ratio_Add : GO P w K mg base (L2.CX P w) 7 (ca K .Ratio) .Add (spR K csL tsL 1900 (RBinR (· + ·))))
  (g_Ratio_Sub : GO P w K mg base (L2.CX P w) 7 (ca K .Ratio) .Sub (spR K csL tsL 1900 (RBinR (· - ·))))
  (g_Ratio_Mult : GO P w K mg base (L2.CX P w) 7 (ca K .Ratio) .Mult (spR K csL tsL 1900 (RBinR (· * ·))))
  (g_Ratio_over : GH P w K mg base (L2.CX P w) 7 (ca K .Ratio) "over" ["self", "other"] (spR K csL tsL 1900 ROver))
  (g_Ratio_USub : GN P w K mg base (L2.CX P w) 5 (ca K .Ratio) "__neg__" (spR K csL tsL 3900 (RUnR (fun q => -q))))
  (g_Ratio_abs : GN P w K mg base (L2.CX P w) 5 (ca K .Ratio) "__abs__" (spR K csL tsL 3900 (RUnR qabs)))
  (g_Ratio_eq : GN P w K mg base (L2.CX P w) 2 (ca K .Ratio) "__eq__" (spR K csL tsL 3900 REqR)) (g_Ratio_eq_ne : GNe P w K mg base (L2.CX P w) 2 (ca K .Ratio) (spR K csL tsL 3900 REqR)) (nf_Ratio : ∀ t ∈ tsL, PySem.W.notFirst K (ca K .Ratio) (tv K t) = true)
  (g_Ratio_sign : GP P w K mg base (L2.CX P w) 2 (ca K .Ratio) "sign" (spR K csL tsL 3900 (RPropR fun q => .int q.num.sign)))
  (g_Ratio_below : GP P w K mg base (L2.CX P w) 1 (ca K .Ratio) "below" (spR K csL tsL 3900 (RPropR fun q => .int q.floor)))
  (g_mStep : GM P w K mg base (L2.CX P w) 3 "Step" (ca K .Step) ["self", "studs", "rounds"] [] (spRI K csL tsL .Step 3900 RInitS))
  (g_need_step : GD P w K mg base (L2.CX P w) 3 "need_step" ["value", "part"] [] (spR K csL tsL 100000 (RNeed .Step "BadStep")))
  (g_need_studs : GD P w K mg base (L2.CX P w) 3 "need_studs" ["step", "part"] [] (spR K csL tsL 100000 RNeedK))
  (g_is_upward : GD P w K mg base (L2.CX P w) 1 "is_upward" ["step"] [] (spR K csL tsL 3900 RIsUp))
  (g_summed : GD P w K mg base (L2.CX P w) 5 "summed" ["studs", "rounds"] [] (spR K csL tsL 3900 RSummed))
  (g_Step_Add : GO P w K mg base (L2.CX P w) 6 (ca K .Step) .Add (spR K csL tsL 1900 (RBinS (· + ·))))
  (g_Step_Sub : GO P w K mg base (L2.CX P w) 6 (ca K .Step) .Sub (spR K csL tsL 1900 (RBinS (· - ·))))
  (g_Step_USub : GN P w K mg base (L2.CX P w) 5 (ca K .Step) "__neg__" (spR K csL tsL 3900 RNegS))
  (g_Step_Mult : GO P w K mg base (L2.CX P w) 5 (ca K .Step) .Mult (spR K csL tsL 1900 RMulS))
  (g_Step_eq : GN P w K mg base (L2.CX P w) 1 (ca K .Step) "__eq__" (spR K csL tsL 3900 REqS)) (g_Step_eq_ne : GNe P w K mg base (L2.CX P w) 1 (ca K .Step) (spR K csL tsL 3900 REqS)) (nf_Step : ∀ t ∈ tsL, PySem.W.notFirst K (ca K .Step) (tv K t) = true)
  (g_Step_upward : GP P w K mg base (L2.CX P w) 5 (ca K .Step) "upward" (spR K csL tsL 3900 RUpw))
  (g_Step_corner : GP P w K mg base (L2.CX P w) 5 (ca K .Step) "corner" (spR K csL tsL 3900 RCorner))
  (g_Step_one_round : GS0 P w K mg base (L2.CX P w) 5 (ca K .Step) "one_round" (spR K csL tsL 3900 ROneR))
  (g_cross : GD P w K mg base (L2.CX P w) 4 "cross" ["one", "other"] [] (spR K csL tsL 1900 RCross))
  (g_are_neighbours : GD P w K mg base (L2.CX P w) 5 "are_neighbours" ["one", "other"] [] (spR K csL tsL 1900 RAreN))
  (g_need_neighbours : GD P w K mg base (L2.CX P w) 6 "need_neighbours" ["one", "other"] [] (spR K csL tsL 1900 RNeedN))
  (g_between : GD P w K mg base (L2.CX P w) 7 "between" ["one", "other"] [] (spR K csL tsL 1900 RBetween))
  (g_integer_of : GD P w K mg base (L2.CX P w) 1 "integer_of" ["word"] [] (spR K csL tsL 100000 RIntOf))
  (g_mWords : GM P w K mg base (L2.CX P w) 1 "Words" (ca K .Words) ["self", "words", "done", "last"] [] (spInitW K))
  (g_Words_is_over : GH P w K mg base (L2.CX P w) 1 (ca K .Words) "is_over" ["self"] (spWp K RIsOver))
  (g_Words_take : GH P w K mg base (L2.CX P w) 3 (ca K .Words) "take" ["self"] (spW K RTake))
  (g_Words_refuse : GH P w K mg base (L2.CX P w) 3 (ca K .Words) "refuse" ["self"] (spW K RRefuse))
  (g_Words_integer : GH P w K mg base (L2.CX P w) 4 (ca K .Words) "integer" ["self"] (spW K RInteg))
  (g_Words_end : GH P w K mg base (L2.CX P w) 3 (ca K .Words) "end" ["self"] (spWp K REndW))
  (g_words_in : GD P w K mg base (L2.CX P w) 3 "words_in" ["text"] [] (spWords K csL tsL))
  (g_take_step : GD P w K mg base (L2.CX P w) 5 "take_step" ["words"] [] (spW K RTakeS))
  (g_read_whole : GD P w K mg base (L2.CX P w) 6 "read_whole" ["text", "take"] [] (spReadW K csL tsL (He.ga K "take_step") RTakeS))
  (g_Step_read : GC P w K mg base (L2.CX P w) 7 (ca K .Step) "read" (spReadC K csL tsL RTakeS))
  (g_Step_str : GN P w K mg base (L2.CX P w) 1 (ca K .Step) "__str__" (spR K csL tsL 3900 RStrS))
  (g_inverse : GD P w K mg base (L2.CX P w) 1 "inverse" ["number", "modulus"] [] (spInv K))
  (g_mate : GD P w K mg base (L2.CX P w) 5 "mate" ["step"] [] (spMate K csL tsL))
variable (g_take_step_l : GL P w K mg base (L2.CX P w) 5 "take_step" (spW K RTakeS))

theorem sc_is_integer : FnScope ["value"] ["value"] (defScope (topS 13)) := ⟨rfl, rfl, rfl, by decide +kernel, rfl, by decide +kernel, by decide +kernel⟩
theorem ok_is_integer (G : G0 K mg csL tsL) (F : FP K "is_integer" "is_integer" (topS 13) [] f fd) : FnOk P w K mg base (L2.CX P w) 1 f fd ["value"] (spR K csL tsL 3900 RIsInt) := by
  have nd := sc_is_integer.nd
  refine okR F sc_is_integer (fun ds o r => by cases r <;> rfl) (fun cdv A outer s H ds o Q E hr z r q => ⟨_, pss_one (ps_ret (pe_and (pe_callB call_isi rfl G.nm.isinstance (by decide +kernel) (pa_cons (pv 0) (pa_cons ((pe_bltn (v := .ty "int") (u := .type "int") rfl G.nm.int PyProof.Rows.Boot.«int» rfl)) (pa_nil)))) (pe_one (pe_not (pe_callB call_isi rfl G.nm.isinstance (by decide +kernel) (pa_cons (pv 0) (pa_cons ((pe_bltn (v := .ty "bool") (u := .type "bool") rfl G.nm.bool PyProof.Rows.Boot.«bool» rfl)) (pa_nil)))))))), ?_⟩)
  cases r
  rename_i d
  have e := isI_eq d
  walk_at "go"
  refine iteP (fun h1 => ?_) (fun h1 => ?_)
  · rw [h1] at e
    walk_at "rd"
    exact finB q (by assumption) e
  · rw [Bool.eq_false_iff.mpr h1] at e
    exact finB q (by assumption) e
theorem sc_is_ratio : FnScope ["value"] ["value"] (defScope (topS 23)) := ⟨rfl, rfl, rfl, by decide +kernel, rfl, by decide +kernel, by decide +kernel⟩
include g_is_integer in
theorem ok_is_ratio (G : G0 K mg csL tsL) (F : FP K "is_ratio" "is_ratio" (topS 23) [] f fd) : FnOk P w K mg base (L2.CX P w) 2 f fd ["value"] (spR K csL tsL 3900 RIsRat) := by
  have nd := sc_is_ratio.nd
  refine okR F sc_is_ratio (fun ds o r => by cases r <;> rfl) (fun cdv A outer s H ds o Q E hr z r q => ⟨_, pss_one (ps_ret (pe_or (pe_callB call_isi rfl G.nm.isinstance (by decide +kernel) (pa_cons (pv 0) (pa_cons ((pe_glob (v := .ref (ca K .Ratio)) rfl (G.mgc .Ratio (by decide)) rfl)) (pa_nil)))) (pe_one (pe_gd g_is_integer (hr.mono (by decide)) rfl (pxE rfl rfl rfl rfl) (pa_cons (pv 0) (pa_nil)))))), ?_⟩)
  cases r
  rename_i d
  have e := isR_eq d
  walk_at "go"
  refine iteP (fun h1 => ?_) (fun h1 => ?_)
  · rw [h1] at e
    exact finB q (by assumption) e
  · rw [Bool.eq_false_iff.mpr h1] at e
    walk_at "rd"
    exact finB q (by assumption) e
theorem sc_sign_of : FnScope ["number"] ["number"] (defScope (topS 22)) := ⟨rfl, rfl, rfl, by decide +kernel, rfl, by decide +kernel, by decide +kernel⟩
theorem ok_sign_of (G : G0 K mg csL tsL) (F : FP K "sign_of" "sign_of" (topS 22) [] f fd) : FnOk P w K mg base (L2.CX P w) 1 f fd ["number"] (spR K csL tsL 100000 RSign) := by
  have nd := sc_sign_of.nd
  refine okR F sc_sign_of (fun ds o r => by cases r <;> rfl) (fun cdv A outer s H ds o Q E hr z r q => ⟨_, pss_cons (ps_if (pt_cmpR op_lt (pv 0) (pe_int) (nomark _)) (pss_one (ps_ret (pe_un un_neg (pe_int)))) (pss_nil)) (pss_one (ps_ret (pe_ifExp (pt_cmpR op_gt (pv 0) (pe_int) (nomark _)) (pe_int) (pe_int)))), ?_⟩)
  cases r
  rename_i n
  walk_at "go"
  refine iteP (fun h1 => ?_) (fun h1 => ?_)
  · walk_at "rd"
    exact finN q (by assumption) (Int.sign_eq_neg_one_of_neg (of_decide_eq_true h1)).symm
  · have h1 : ¬ n < 0 := fun z => h1 (decide_eq_true z)
    walk_at "rd"
    refine iteP (fun h2 => ?_) (fun h2 => ?_)
    · exact finN q (by assumption) (Int.sign_eq_one_of_pos (of_decide_eq_true h2)).symm
    · have h2 : ¬ 0 < n := fun z => h2 (decide_eq_true z)
      exact finN q (by assumption) (by rw [show n = 0 by omega]; rfl)
theorem sc_Ratio_of : FnScope ["value"] ["value"] (defScope (inClass (topS 21) 17)) := ⟨rfl, rfl, rfl, by decide +kernel, rfl, by decide +kernel, by decide +kernel⟩
include g_is_ratio g_mRatio1 g_xBadRatio in
theorem ok_Ratio_of (G : G0 K mg csL tsL) (F : FP K "of" "Ratio.of" (inClass (topS 21) 17) [] f fd) : FnOk P w K mg base (L2.CX P w) 5 f fd ["value"] (spR K csL tsL 3900 (ROf "BadRatio" "value")) := by
  have nd := sc_Ratio_of.nd
  refine okR F sc_Ratio_of (fun ds o r => by cases r <;> rfl) (fun cdv A outer s H ds o Q E hr z r q => ⟨_, pss_cons (ps_if (pt_not (pt_val (pe_gd g_is_ratio (hr.mono (by decide)) rfl (pxE rfl rfl rfl rfl) (pa_cons (pv 0) (pa_nil))))) (pss_one (ps_raise rfl (takes_of rfl rfl rfl rfl) (pmkD g_xBadRatio (hr.mono (by decide)) rfl (pa_cons (pe_str) (pa_nil))))) (pss_nil)) (pss_one (ps_ret (pe_ifExp (pt_val (pe_callB call_isi rfl G.nm.isinstance (by decide +kernel) (pa_cons (pv 0) (pa_cons ((pe_glob (v := .ref (ca K .Ratio)) rfl (G.mgc .Ratio (by decide)) rfl)) (pa_nil))))) (pv 0) (pe_makeD g_mRatio1 (hr.mono (by decide)) rfl (pxE rfl rfl rfl rfl) (pa_cons (pv 0) (pa_nil)))))), ?_⟩)
  cases r <;> walk_at "go"
theorem sc_at_right : FnScope ["value"] ["value"] (defScope (topS 24)) := ⟨rfl, rfl, rfl, by decide +kernel, rfl, by decide +kernel, by decide +kernel⟩
include g_Ratio_of g_is_ratio g_xBadRatio in
theorem ok_at_right (G : G0 K mg csL tsL) (F : FP K "at_right" "at_right" (topS 24) [] f fd) : FnOk P w K mg base (L2.CX P w) 6 f fd ["value"] (spR K csL tsL 3900 (ROf "BadRatio" "other")) := by
  have nd := sc_at_right.nd
  refine okR F sc_at_right (fun ds o r => by cases r <;> rfl) (fun cdv A outer s H ds o Q E hr z r q => ⟨_, pss_cons (ps_if (pt_not (pt_val (pe_gd g_is_ratio (hr.mono (by decide)) rfl (pxE rfl rfl rfl rfl) (pa_cons (pv 0) (pa_nil))))) (pss_one (ps_raise rfl (takes_of rfl rfl rfl rfl) (pmkD g_xBadRatio (hr.mono (by decide)) rfl (pa_cons (pe_str) (pa_nil))))) (pss_nil)) (pss_one (ps_ret (pe_gs (pe_glob (v := .ref (ca K .Ratio)) rfl (G.mgc .Ratio (by decide)) rfl) g_Ratio_of (hr.mono (by decide)) (pxE rfl rfl rfl rfl) (pa_cons (pv 0) (pa_nil))))), ?_⟩)
  cases r <;> walk_at "go"
theorem sc_Ratio_add : FnScope ["self", "other", "right"] ["self", "other"] (defScope (inClass (topS 21) 4)) := ⟨rfl, rfl, rfl, by decide +kernel, rfl, by decide +kernel, by decide +kernel⟩
include g_at_right g_mRatio in
theorem ok_Ratio_add (G : G0 K mg csL tsL) (F : FP K "__add__" "Ratio.__add__" (inClass (topS 21) 4) [] f fd) : FnOk P w K mg base (L2.CX P w) 7 f fd ["self", "other"] (spR K csL tsL 1900 (RBinR (· + ·))) := by
  have nd := sc_Ratio_add.nd
  refine okR F sc_Ratio_add (fun ds o r => by cases r <;> rfl) (fun cdv A outer s H ds o Q E hr z r q => ⟨_, pss_cons (ps_set (i := 2) nd rfl (Or.inl rfl) (pe_gd g_at_right (hr.mono (by decide)) rfl (pxE rfl rfl rfl rfl) (pa_cons (pv 1) (pa_nil)))) (pss_one (ps_ret (pe_makeD g_mRatio (hr.mono (by decide)) rfl (pxE rfl rfl rfl rfl) (pa_cons (pe_op op_add (pe_op op_mulB (pe_fldD (pv 0) rfl) (pe_fldD (pv 2) rfl)) (pe_op op_mulB (pe_fldD (pv 2) rfl) (pe_fldD (pv 0) rfl))) (pa_cons (pe_op op_mulB (pe_fldD (pv 0) rfl) (pe_fldD (pv 2) rfl)) (pa_nil)))))), ?_⟩)
  cases r with
  | @r p q2 =>
    have nz := dd_ne p q2
    walk_at "go"
    exact finDE q (by assumption) (by walk_at "isv") (by rw [add_eq])
  | @i p i =>
    have nz := dd_ne p (i : Rat)
    walk_at "go"
    exact finDE q (by assumption) (by walk_at "isv") (by rw [add_eq])
  | n h => walk_at "go"
theorem sc_Ratio_init : FnScope ["self", "top", "bottom", "common"] ["self", "top", "bottom"] (defScope (inClass (topS 21) 0)) := ⟨rfl, rfl, rfl, by decide +kernel, rfl, by decide +kernel, by decide +kernel⟩
include g_is_integer g_xBadRatio h_gcd in
theorem ok_Ratio_init (G : G0 K mg csL tsL) (F : FP K "__init__" "Ratio.__init__" (inClass (topS 21) 0) [.int 1] f fd) : FnOk P w K mg base (L2.CX P w) 3 f fd ["self", "top", "bottom"] (spRI K csL tsL .Ratio 3900 RInitR) := by
  have nd := sc_Ratio_init.nd
  refine okI F sc_Ratio_init (fun ds o r => by cases r <;> rfl) (fun cdv A outer s H a dx ds o Q E hr ha z r q => ⟨_, pss_cons (ps_if (pt_not (pt_val (pe_gd g_is_integer (hr.mono (by decide)) rfl (pxE rfl rfl rfl rfl) (pa_cons (pv 1) (pa_nil))))) (pss_one (ps_raise rfl (takes_of rfl rfl rfl rfl) (pmkD g_xBadRatio (hr.mono (by decide)) rfl (pa_cons (pe_str) (pa_nil))))) (pss_nil)) (pss_cons (ps_if (PW.pt (pw_or (pt_not (pt_val (pe_gd g_is_integer (hr.mono (by decide)) rfl (pxE rfl rfl rfl rfl) (pa_cons (pv 2) (pa_nil))))) (pw_or1 (pt_cmpR op_eq (pv 2) (pe_int) (nomark _))))) (pss_one (ps_raise rfl (takes_of rfl rfl rfl rfl) (pmkD g_xBadRatio (hr.mono (by decide)) rfl (pa_cons (pe_str) (pa_nil))))) (pss_nil)) (pss_cons (ps_set (i := 3) nd rfl (Or.inl rfl) (pe_ifExp (pt_cmpR op_gt (pv 2) (pe_int) (nomark _)) (pe_callBfun cr_gcd rfl h_gcd (pa_cons (pv 1) (pa_cons (pv 2) (pa_nil)))) (pe_un un_neg (pe_callBfun cr_gcd rfl h_gcd (pa_cons (pv 1) (pa_cons (pv 2) (pa_nil))))))) (pss_cons (ps_fldD (pv 0) (pe_op op_fdivB (pv 1) (pv 3)) rfl) (pss_one (ps_fldD (pv 0) (pe_op op_fdivB (pv 2) (pv 3)) rfl))))), ?_⟩)
  have key : ∀ t b : Int, b ≠ 0 → Bi t 3900 → Bi b 3900 → ∀ x, CDivB x (comm t b) := fun t b hb _ _ x => ⟨comm_ne hb, by
    have h1 := comm_le (a := t) hb
    have h2 := biL (i := b) (m := 4000) 3900
    omega⟩
  have fin : ∀ (t b : Int) (H' : Hp) (L : List (V × Dt)) (x : Int), b ≠ 0 → x = comm t b → FinI K H a dx .Ratio (.ok (.rat (Rat.divInt t b))) Q E → Env K (.ini a (ca K .Ratio) dx [("top", .int (t.fdiv x)), ("bottom", .int (b.fdiv x))]) H H' L → Q .non H' := fun t b H' L x hb e q h => by
    subst e
    rw [comm_num hb, comm_den hb] at h
    exact finI q h rfl (.cons (.int _) (.cons (.int _) .nil))
  cases r with
  | @one t =>
    have g : ((Nat.gcd t.natAbs (Int.natAbs 1) : Nat) : Int) = comm t 1 := by
      unfold comm
      rw [if_pos (by decide)]
    have d := key t 1 (by decide) (by walk_at "zs"; assumption) ⟨by exact biL (i := 1) (m := 3900) 1⟩
    rw [← g] at d
    have d1 := d t
    have d2 := d 1
    rw [← divInt_one] at q
    walk_at "goI"
    exact fin t 1 _ _ _ (by decide) g q (by assumption)
  | @ok t b h =>
    have d := key t b h
    walk_at "goI"
    refine iteF (by simpa using h) ?_
    walk_at "rd"
    have d := d (by assumption) (by assumption)
    refine iteP (fun h2 => ?_) (fun h2 => ?_)
    · have g : ((Nat.gcd t.natAbs b.natAbs : Nat) : Int) = comm t b := by
        unfold comm
        rw [if_pos (of_decide_eq_true h2)]
      rw [← g] at d
      have d1 := d t
      have d2 := d b
      walk_at "rd"
      exact fin t b _ _ _ h g q (by assumption)
    · have g : -((Nat.gcd t.natAbs b.natAbs : Nat) : Int) = comm t b := by
        unfold comm
        rw [if_neg (fun z => h2 (decide_eq_true z))]
      rw [← g] at d
      have d1 := d t
      have d2 := d b
      walk_at "rd"
      exact fin t b _ _ _ h g q (by assumption)
  | z => walk_at "goI"
  | t h => walk_at "goI"
  | b h => walk_at "goI"
end
end Sp
end
section
set_option Elab.async false
set_option linter.all false
set_option exponentiation.threshold 5000
set_option maxRecDepth 100000
set_option maxHeartbeats 0
local macro_rules | `(tactic| walk_at "mem") => `(tactic| first | exact List.mem_cons_self | (refine List.mem_cons_of_mem _ ?_; walk_at "mem"))
local macro_rules | `(tactic| walk_at "isv") => `(tactic| first | exact Sp.IsV.int _ | exact Sp.IsV.str _ | exact Sp.IsV.bl _ | exact Sp.IsV.non | exact Sp.Env.get (by assumption) (by walk_at "mem") | assumption)
local macro_rules | `(tactic| walk_at "isvs") => `(tactic| first | exact Sp.IsVs.nil | (refine' Sp.IsVs.cons ?iv ?rs; (case iv => walk_at "isv"); (case rs => walk_at "isvs")))
local macro_rules | `(tactic| walk_at "isfs") => `(tactic| first | exact Sp.IsFs.nil | (refine' Sp.IsFs.cons ?iv ?rs; (case iv => walk_at "isv"); (case rs => walk_at "isfs")))
local macro_rules | `(tactic| walk_at "sz1") => `(tactic| first | exact trivial | exact Sp.biI _ | exact Sp.bqI _ | exact ⟨Sp.biI _, Sp.biI _⟩ | exact ⟨Sp.bqI _, Sp.bqI _⟩ | exact ⟨⟨Sp.biI _, Sp.biI _⟩, Sp.biI _, Sp.biI _⟩ | exact ⟨Sp.bqI _, Sp.bqI _, Sp.bqI _⟩ | assumption | exact Sp.SzD.mono (by assumption) (by decide))
local macro_rules | `(tactic| walk_at "okt") => `(tactic| first | rfl | assumption | decide)
local macro_rules | `(tactic| walk_at "dsok") => `(tactic| first | exact trivial | (refine And.intro (And.intro ?oa ?ob) ?rs; (case oa => walk_at "okt"); (case ob => walk_at "sz1"); (case rs => walk_at "dsok")))
local macro_rules | `(tactic| walk_at "sc") => `(tactic| first | rfl | assumption | decide | omega)
local macro_rules | `(tactic| walk_at "leaf") => `(tactic| first | rfl | assumption | exact True.intro | exact ⟨_, rfl⟩ | exact L2.upd_same | exact L2.ClsV.ty _ | exact L2.ClsV.own _ | decide | exact of_decide_eq_true rfl | exact Sp.cmI _ _ | exact Sp.cdI _ (by first | assumption | omega) | exact Sp.cmL (by decide) | exact Sp.cmR (by decide) | exact ⟨by decide, by decide, by decide⟩ | exact ⟨by decide, by decide⟩ | omega | fail)
local macro_rules | `(tactic| walk_at "cls") => `(tactic| first | exact Sp.ClsD.int | exact Sp.ClsD.bool | exact Sp.ClsD.str | exact Sp.ClsD.own _ | exact Sp.ClsD.tuple | exact Sp.ClsD.list)
local macro_rules | `(tactic| walk_at "args") => `(tactic| repeat (first
  | refine' Sp.aaInt ?_ | refine' Sp.aaBl ?_ | refine' Sp.aaStr ?_ | refine' Sp.aaNon ?_ | (refine' Sp.aaOwn (by assumption) (by rfl) ?_; intro _ _) | (refine' Sp.aaTup (by assumption) ?_; intro _ _) | (refine' Sp.aaAny (by assumption) ?_; intro _ _) | refine' Sp.aaNil ?_))
local macro_rules | `(tactic| walk_at "rd1") => `(tactic| first
  | apply Sp.exI
  | (refine And.intro ?lf ?_; (case lf => walk_at "leaf"))
  | (show @ite Prop (_ = true) _ _ _; first | refine' Sp.iteT (by first | assumption | rfl | exact Sp.nbT (by assumption) | exact Sp.nbF (by assumption)) ?_ | refine' Sp.iteF (by first | assumption | rfl | exact Sp.nbT (by assumption) | exact Sp.nbF (by assumption)) ?_)
  | (refine' Sp.afInt (by assumption) ?_; intro _ _) | (refine' Sp.afBl (by assumption) ?_; intro _ _) | (refine' Sp.afStr (by assumption) ?_; intro _ _) | (refine' Sp.afNon (by assumption) ?_; intro _ _)
  | (refine' Sp.afOwn (by assumption) (by rfl) ?_; intro _ _ _) | (refine' Sp.afTup (by assumption) ?_; intro _ _ _) | (refine' Sp.afRef (by assumption) ?_; intro _ _ _)
  | refine' Sp.asInt ?_ | refine' Sp.asBl ?_ | refine' Sp.asStr ?_ | refine' Sp.asNon ?_
  | (refine' Sp.asOwn (by assumption) (by rfl) ?_; intro _ _) | (refine' Sp.asTup (by assumption) ?_; intro _ _) | (refine' Sp.asRef (by assumption) ?_; intro _ _)
  | refine' Sp.aaInt ?_ | refine' Sp.aaBl ?_ | refine' Sp.aaStr ?_ | refine' Sp.aaNon ?_ | (refine' Sp.aaOwn (by assumption) (by rfl) ?_; intro _ _) | (refine' Sp.aaTup (by assumption) ?_; intro _ _) | (refine' Sp.aaAny (by assumption) ?_; intro _ _) | refine' Sp.aaNil ?_
  | (refine' Sp.fnR ?i ?z ?r ?_; (case i => walk_at "isvs"); (case z => walk_at "dsok"); (case r => walk_at "rel"))
  | (refine' Sp.makeOk ?i ?z ?r ?o ?_; (case i => walk_at "isvs"); (case z => walk_at "dsok"); (case r => walk_at "rel"); (case o => rfl))
  | (refine' Sp.makeEr ?i ?z ?r ?_; (case i => walk_at "isvs"); (case z => walk_at "dsok"); (case r => walk_at "rel"))
  | (refine' Sp.isiD (by assumption) ?i ?c ?o ?t ?_; (case i => walk_at "isv"); (case c => walk_at "cls"); (case o => walk_at "okt"); (case t => decide))
  | (refine' Sp.fldD (by assumption) ?i ?o ?l ?c ?_; (case i => walk_at "isv"); (case o => rfl); (case l => rfl); (case c => decide))
  | (refine' Sp.fldRaw (by assumption) (by assumption) (by rfl) (by decide) (by decide) ?_)
  | (refine' Sp.methRaw (by assumption) (by rfl) ?_)
  | (refine' Sp.setRaw (by assumption) (by assumption) (by rfl) (by decide) (by decide) ?_)
  | (refine' Sp.strD ?i ?o ?_; (case i => walk_at "isv"); (case o => rfl))
  | (refine' Sp.methD ?i ?o ?l ?_; (case i => walk_at "isv"); (case o => rfl); (case l => rfl))
  | (refine' Sp.propD ?i ?o ?_; (case i => walk_at "isv"); (case o => rfl))
  | (refine' Sp.binD ?i ?o ?j ?e ?_; (case i => walk_at "isv"); (case o => rfl); (case j => walk_at "isv"); (case e => rfl))
  | (refine' Sp.unD ?i ?o ?_; (case i => walk_at "isv"); (case o => rfl))
  | (refine' Sp.absD ?i ?o ?_; (case i => walk_at "isv"); (case o => rfl))
  | (refine' Sp.eqOwnD (by assumption) ?i ?o ?j ?e ?n ?_; (case i => walk_at "isv"); (case o => rfl); (case j => walk_at "isv"); (case e => walk_at "okt"); (case n => walk_at "nf"))
  | (refine' Sp.neOwnD (by assumption) ?i ?o ?j ?e ?n ?_; (case i => walk_at "isv"); (case o => rfl); (case j => walk_at "isv"); (case e => walk_at "okt"); (case n => walk_at "nf"))
  | (refine' Sp.tupD (by assumption) ?i ?l ?_; (case i => walk_at "isvs"); (case l => rfl); intro _ _ _)
  | (refine' Sp.lstD (by assumption) ?i ?l ?_; (case i => walk_at "isvs"); (case l => rfl); intro _ _ _)
  | (refine' Sp.raiseD (by assumption) ?i ?e ?l ?_; (case i => walk_at "isvs"); (case e => rfl); (case l => rfl))
  | (refine' Sp.setD (by assumption) (by assumption) rfl rfl rfl (by decide) (by decide) ?_; intro _ _)
  | (refine' Sp.ixTD ?i ?e ?g ?_; (case i => walk_at "isv"); (case e => rfl); (case g => rfl))
  | (refine' Sp.ixLD ?i ?e ?g ?_; (case i => walk_at "isv"); (case e => rfl); (case g => rfl))
  | (refine' Sp.gTupD ?i ?e ?_; (case i => walk_at "isv"); (case e => rfl))
  | (refine' Sp.finD' (by assumption) (by assumption) ?i; (case i => walk_at "isv"))
  | refine' Sp.finE' (by assumption) (by assumption)
  | refine' Sp.finIE (by assumption) (by assumption) (by assumption)
  | (refine' Sp.dipD (by assumption) (by omega) ?m0 ?m1 ?n ?_; (case m0 => first | decide | omega); (case m1 => first | decide | omega); (case n => rfl); intro _ _ _ _ _)
  | (refine' Sp.lawL (by assumption) ?i ?z ?r ?_; (case i => walk_at "isvs"); (case z => walk_at "dsok"); (case r => walk_at "rel"); intro _ _ _)
  | (refine' Sp.lawP (by assumption) ?i ?z ?nd ?pr (by omega) ?nl ?_; (case i => walk_at "isvs"); (case z => walk_at "dsok"); (case nd => rfl); (case pr => walk_at "pre"); (case nl => rfl))
  | (refine' Sp.dctD (by assumption) ?_; intro _ _ _)
  | (refine' Sp.eqDD ?i ?j ?e ?f ?s ?t ?_; (case i => walk_at "isv"); (case j => walk_at "isv"); (case e => rfl); (case f => rfl); (case s => rfl); (case t => rfl))
  | (refine' Sp.neDD ?i ?j ?e ?f ?s ?t ?_; (case i => walk_at "isv"); (case j => walk_at "isv"); (case e => rfl); (case f => rfl); (case s => rfl); (case t => rfl))
  | (refine' Sp.lamD (by assumption) ?_; intro _ _ _ _)
  | (refine' Sp.hokD (by assumption) ?i ?_; (case i => walk_at "isv"); intro _ _ _)
  | (refine' Sp.herP1 (by assumption) ?m ?l ?_; (case m => walk_at "mem"); (case l => rfl); intro _ _ _)
  | (refine' Sp.herP2 (by assumption) ?m ?l ?l2 ?_; (case m => walk_at "mem"); (case l => rfl); (case l2 => rfl); intro _ _ _)
  | (refine' Sp.finL (by assumption) (by assumption) ?i; (case i => walk_at "isv"))
  | fail)
local macro_rules | `(tactic| walk_at "rd1N") => `(tactic| first
  | apply Sp.exI
  | (refine And.intro ?lf ?_; (case lf => walk_at "leaf"))
  | (show @ite Prop (_ = true) _ _ _; first | refine' Sp.iteT (by first | assumption | rfl | exact Sp.nbT (by assumption) | exact Sp.nbF (by assumption)) ?_ | refine' Sp.iteF (by first | assumption | rfl | exact Sp.nbT (by assumption) | exact Sp.nbF (by assumption)) ?_)
  | (refine' Sp.afInt (by assumption) ?_; intro _ _) | (refine' Sp.afBl (by assumption) ?_; intro _ _) | (refine' Sp.afStr (by assumption) ?_; intro _ _) | (refine' Sp.afNon (by assumption) ?_; intro _ _)
  | (refine' Sp.afOwn (by assumption) (by rfl) ?_; intro _ _ _) | (refine' Sp.afTup (by assumption) ?_; intro _ _ _) | (refine' Sp.afRef (by assumption) ?_; intro _ _ _)
  | refine' Sp.asInt ?_ | refine' Sp.asBl ?_ | refine' Sp.asStr ?_ | refine' Sp.asNon ?_
  | (refine' Sp.asOwn (by assumption) (by rfl) ?_; intro _ _) | (refine' Sp.asTup (by assumption) ?_; intro _ _) | (refine' Sp.asRef (by assumption) ?_; intro _ _)
  | refine' Sp.aaInt ?_ | refine' Sp.aaBl ?_ | refine' Sp.aaStr ?_ | refine' Sp.aaNon ?_ | (refine' Sp.aaOwn (by assumption) (by rfl) ?_; intro _ _) | (refine' Sp.aaTup (by assumption) ?_; intro _ _) | (refine' Sp.aaAny (by assumption) ?_; intro _ _) | refine' Sp.aaNil ?_
  | (refine' Sp.fnR ?i ?z ?r ?_; (case i => walk_at "isvs"); (case z => walk_at "dsok"); (case r => walk_at "rel"))
  | (refine' Sp.makeOk ?i ?z ?r ?o ?_; (case i => walk_at "isvs"); (case z => walk_at "dsok"); (case r => walk_at "rel"); (case o => rfl))
  | (refine' Sp.makeEr ?i ?z ?r ?_; (case i => walk_at "isvs"); (case z => walk_at "dsok"); (case r => walk_at "rel"))
  | (refine' Sp.isiD (by assumption) ?i ?c ?o ?t ?_; (case i => walk_at "isv"); (case c => walk_at "cls"); (case o => walk_at "okt"); (case t => decide))
  | (refine' Sp.fldD (by assumption) ?i ?o ?l ?c ?_; (case i => walk_at "isv"); (case o => rfl); (case l => rfl); (case c => decide))
  | (refine' Sp.fldRaw (by assumption) (by assumption) (by rfl) (by decide) (by decide) ?_)
  | (refine' Sp.methRaw (by assumption) (by rfl) ?_)
  | (refine' Sp.setRaw (by assumption) (by assumption) (by rfl) (by decide) (by decide) ?_)
  | (refine' Sp.strD ?i ?o ?_; (case i => walk_at "isv"); (case o => rfl))
  | (refine' Sp.methD ?i ?o ?l ?_; (case i => walk_at "isv"); (case o => rfl); (case l => rfl))
  | (refine' Sp.propD ?i ?o ?_; (case i => walk_at "isv"); (case o => rfl))
  | (refine' Sp.binD ?i ?o ?j ?e ?_; (case i => walk_at "isv"); (case o => rfl); (case j => walk_at "isv"); (case e => rfl))
  | (refine' Sp.unD ?i ?o ?_; (case i => walk_at "isv"); (case o => rfl))
  | (refine' Sp.absD ?i ?o ?_; (case i => walk_at "isv"); (case o => rfl))
  | (refine' Sp.eqOwnD (by assumption) ?i ?o ?j ?e ?n ?_; (case i => walk_at "isv"); (case o => rfl); (case j => walk_at "isv"); (case e => walk_at "okt"); (case n => walk_at "nf"))
  | (refine' Sp.neOwnD (by assumption) ?i ?o ?j ?e ?n ?_; (case i => walk_at "isv"); (case o => rfl); (case j => walk_at "isv"); (case e => walk_at "okt"); (case n => walk_at "nf"))
  | (refine' Sp.raiseD (by assumption) ?i ?e ?l ?_; (case i => walk_at "isvs"); (case e => rfl); (case l => rfl))
  | (refine' Sp.setD (by assumption) (by assumption) rfl rfl rfl (by decide) (by decide) ?_; intro _ _)
  | (refine' Sp.ixTD ?i ?e ?g ?_; (case i => walk_at "isv"); (case e => rfl); (case g => rfl))
  | (refine' Sp.ixLD ?i ?e ?g ?_; (case i => walk_at "isv"); (case e => rfl); (case g => rfl))
  | (refine' Sp.gTupD ?i ?e ?_; (case i => walk_at "isv"); (case e => rfl))
  | (refine' Sp.finD' (by assumption) (by assumption) ?i; (case i => walk_at "isv"))
  | refine' Sp.finE' (by assumption) (by assumption)
  | refine' Sp.finIE (by assumption) (by assumption) (by assumption)
  | (refine' Sp.dipD (by assumption) (by omega) ?m0 ?m1 ?n ?_; (case m0 => first | decide | omega); (case m1 => first | decide | omega); (case n => rfl); intro _ _ _ _ _)
  | (refine' Sp.lawL (by assumption) ?i ?z ?r ?_; (case i => walk_at "isvs"); (case z => walk_at "dsok"); (case r => walk_at "rel"); intro _ _ _)
  | (refine' Sp.lawP (by assumption) ?i ?z ?nd ?pr (by omega) ?nl ?_; (case i => walk_at "isvs"); (case z => walk_at "dsok"); (case nd => rfl); (case pr => walk_at "pre"); (case nl => rfl))
  | (refine' Sp.dctD (by assumption) ?_; intro _ _ _)
  | (refine' Sp.eqDD ?i ?j ?e ?f ?s ?t ?_; (case i => walk_at "isv"); (case j => walk_at "isv"); (case e => rfl); (case f => rfl); (case s => rfl); (case t => rfl))
  | (refine' Sp.neDD ?i ?j ?e ?f ?s ?t ?_; (case i => walk_at "isv"); (case j => walk_at "isv"); (case e => rfl); (case f => rfl); (case s => rfl); (case t => rfl))
  | (refine' Sp.lamD (by assumption) ?_; intro _ _ _ _)
  | (refine' Sp.hokD (by assumption) ?i ?_; (case i => walk_at "isv"); intro _ _ _)
  | (refine' Sp.herP1 (by assumption) ?m ?l ?_; (case m => walk_at "mem"); (case l => rfl); intro _ _ _)
  | (refine' Sp.herP2 (by assumption) ?m ?l ?l2 ?_; (case m => walk_at "mem"); (case l => rfl); (case l2 => rfl); intro _ _ _)
  | (refine' Sp.finL (by assumption) (by assumption) ?i; (case i => walk_at "isv"))
  | fail)
local macro_rules | `(tactic| walk_at "rdN") => `(tactic| repeat (walk_at "rd1N"))
local macro_rules | `(tactic| walk_at "rd") => `(tactic| repeat (walk_at "rd1"))
local macro_rules | `(tactic| walk_at "zs") => `(tactic| (refine' Sp.zsStart (by assumption) ?_; repeat (first | refine' Sp.zsNil ?_ | (refine' Sp.zsInt ?_; intro _) | (refine' Sp.zsRat ?_; intro _) | (refine' Sp.zsStep ?_; intro _ _) | (refine' Sp.zsStem ?_; intro _ _) | (refine' Sp.zsTable ?_; intro _ _ _ _) | (refine' Sp.zsAny ?_; intro _ _))))
local macro_rules | `(tactic| walk_at "go0") => `(tactic| (walk_at "zs"; (have := Sp.Env.of (K := ‹PySem.W.Frag›) ‹L2.Hp›); walk_at "args"))
local macro_rules | `(tactic| walk_at "go") => `(tactic| (walk_at "go0"; walk_at "rd"))
local macro_rules | `(tactic| walk_at "goI0") => `(tactic| (walk_at "zs"; (have := Sp.Env.ofI (K := ‹PySem.W.Frag›) (H := ‹L2.Hp›) (by assumption)); walk_at "args"))
local macro_rules | `(tactic| walk_at "goI") => `(tactic| (walk_at "goI0"; walk_at "rd"))
local macro_rules | `(tactic| walk_at "goL") => `(tactic| (walk_at "zs"; walk_at "args"; walk_at "rd"))
local macro_rules | `(tactic| walk_at "rel") => `(tactic| first
  | (apply Sp.RIsInt.mk <;> walk_at "sc")
  | (apply Sp.RIsRat.mk <;> walk_at "sc")
  | (apply Sp.RSign.mk <;> walk_at "sc")
  | (apply Sp.RInitR.one <;> walk_at "sc")
  | (apply Sp.RInitR.ok <;> walk_at "sc")
  | (apply Sp.RInitR.z <;> walk_at "sc")
  | (apply Sp.RInitR.t <;> walk_at "sc")
  | (apply Sp.RInitR.b <;> walk_at "sc")
  | (apply Sp.ROf.r <;> walk_at "sc")
  | (apply Sp.ROf.i <;> walk_at "sc")
  | (apply Sp.ROf.n <;> walk_at "sc")
  | (apply Sp.RBinR.r <;> walk_at "sc")
  | (apply Sp.RBinR.i <;> walk_at "sc")
  | (apply Sp.RBinR.n <;> walk_at "sc")
  | (apply Sp.ROver.r <;> walk_at "sc")
  | (apply Sp.ROver.i <;> walk_at "sc")
  | (apply Sp.ROver.z <;> walk_at "sc")
  | (apply Sp.ROver.zi <;> walk_at "sc")
  | (apply Sp.ROver.n <;> walk_at "sc")
  | (apply Sp.RCmp.r <;> walk_at "sc")
  | (apply Sp.RCmp.i <;> walk_at "sc")
  | (apply Sp.RCmp.n <;> walk_at "sc")
  | (apply Sp.RBelow.r <;> walk_at "sc")
  | (apply Sp.RBelow.i <;> walk_at "sc")
  | (apply Sp.RBelow.n <;> walk_at "sc")
  | (apply Sp.RUnR.mk <;> walk_at "sc")
  | (apply Sp.REqR.r <;> walk_at "sc")
  | (apply Sp.REqR.i <;> walk_at "sc")
  | (apply Sp.REqR.n <;> walk_at "sc")
  | (apply Sp.RPropR.mk <;> walk_at "sc")
  | (apply Sp.RInitS.ok <;> walk_at "sc")
  | (apply Sp.RInitS.z <;> walk_at "sc")
  | (apply Sp.RInitS.s <;> walk_at "sc")
  | (apply Sp.RInitS.r <;> walk_at "sc")
  | (apply Sp.RNeed.ok <;> walk_at "sc")
  | (apply Sp.RNeed.no <;> walk_at "sc")
  | (apply Sp.RNeedK.ok <;> walk_at "sc")
  | (apply Sp.RNeedK.z <;> walk_at "sc")
  | (apply Sp.RCross.ok <;> walk_at "sc")
  | (apply Sp.RCross.one <;> walk_at "sc")
  | (apply Sp.RCross.oth <;> walk_at "sc")
  | (apply Sp.RAreN.ok <;> walk_at "sc")
  | (apply Sp.RAreN.one <;> walk_at "sc")
  | (apply Sp.RAreN.oth <;> walk_at "sc")
  | (apply Sp.RNeedN.ok <;> walk_at "sc")
  | (apply Sp.RNeedN.no <;> walk_at "sc")
  | (apply Sp.RNeedN.one <;> walk_at "sc")
  | (apply Sp.RNeedN.oth <;> walk_at "sc")
  | (apply Sp.RBetween.ok <;> walk_at "sc")
  | (apply Sp.RBetween.no <;> walk_at "sc")
  | (apply Sp.RBetween.one <;> walk_at "sc")
  | (apply Sp.RBetween.oth <;> walk_at "sc")
  | (apply Sp.RSummed.ok <;> walk_at "sc")
  | (apply Sp.RSummed.z <;> walk_at "sc")
  | (apply Sp.RBinS.ok <;> walk_at "sc")
  | (apply Sp.RBinS.z <;> walk_at "sc")
  | (apply Sp.RBinS.n <;> walk_at "sc")
  | (apply Sp.RMulS.ok <;> walk_at "sc")
  | (apply Sp.RMulS.z <;> walk_at "sc")
  | (apply Sp.RMulS.n <;> walk_at "sc")
  | (apply Sp.RNegS.mk <;> walk_at "sc")
  | (apply Sp.REqS.s <;> walk_at "sc")
  | (apply Sp.REqS.n <;> walk_at "sc")
  | (apply Sp.RIsUp.mk <;> walk_at "sc")
  | (apply Sp.RUpw.mk <;> walk_at "sc")
  | (apply Sp.ROneR.mk <;> walk_at "sc")
  | (apply Sp.RCorner.ok <;> walk_at "sc")
  | (apply Sp.RCorner.z <;> walk_at "sc")
  | fail)
local macro_rules | `(tactic| walk_at "nf") => `(tactic| first | exact nf_Ratio _ (by decide) | exact nf_Step _ (by decide) | fail)
namespace Sp
open PySem PySem.Spec PyProof.Rows L2
open PySem.W (Frag)
section
variable {P : Program} {w : World} {K : PySem.W.Frag} {mg : Str → Option Value} {base : Heap} {f : Addr} {fd : FuncData}
variable (h_gcd : mg "gcd" = some (.builtin "math.gcd")) {tk1 tk2 : Tok} (h_most : mg "MOST_DIGITS" = some (.int 60 tk1)) (h_digits : mg "DIGITS" = some (.str "0123456789" tk2)) (h_all : mg "all" = none)
variable (g_xBadRatio : GXN P w K mg base 1 "BadRatio" ["part"] (cX K "BadRatio"))
  (g_xBadStep : GXN P w K mg base 1 "BadStep" ["part"] (cX K "BadStep"))
  (g_xBadNumber : GXN P w K mg base 1 "BadNumber" ["part"] (cX K "BadNumber"))
  (g_xRound : GXN P w K mg base 1 "Round" ["part"] (cX K "Round"))
  (g_xNotNeighbours : GXN P w K mg base 1 "NotNeighbours" ["one", "other"] (cX K "NotNeighbours"))
  (g_xCommon : GXN P w K mg base 1 "Common" ["divisor"] (cX K "Common"))
  (g_xBadText : GXN P w K mg base 1 "BadText" ["line", "word"] (cX K "BadText"))
  (g_is_integer : GD P w K mg base (L2.CX P w) 1 "is_integer" ["value"] [] (spR K csL tsL 3900 RIsInt))
  (g_is_ratio : GD P w K mg base (L2.CX P w) 2 "is_ratio" ["value"] [] (spR K csL tsL 3900 RIsRat))
  (g_sign_of : GD P w K mg base (L2.CX P w) 1 "sign_of" ["number"] [] (spR K csL tsL 100000 RSign))
  (g_mRatio : GM P w K mg base (L2.CX P w) 3 "Ratio" (ca K .Ratio) ["self", "top", "bottom"] [] (spRI K csL tsL .Ratio 3900 RInitR)) (g_mRatio1 : GM P w K mg base (L2.CX P w) 3 "Ratio" (ca K .Ratio) ["self", "top", "bottom"] [.int 1] (spRI K csL tsL .Ratio 3900 RInitR))
  (g_Ratio_of : GS P w K mg base (L2.CX P w) 5 (ca K .Ratio) "of" (spR K csL tsL 3900 (ROf "BadRatio" "value")))
  (g_at_right : GD P w K mg base (L2.CX P w) 6 "at_right" ["value"] [] (spR K csL tsL 3900 (ROf "BadRatio" "other")))
  (g_Ratio_Add : GO P w K mg base (L2.CX P w) 7 (ca K .Ratio) .Add (spR K csL tsL 1900 (RBinR (· + ·))))
  (g_Ratio_Sub : GO P w K mg base (L2.CX P w) 7 (ca K .Ratio) .Sub (spR K csL tsL 1900 (RBinR (· - ·))))
  (g_Ratio_Mult : GO P w K mg base (L2.CX P w) 7 (ca K .Ratio) .Mult (spR K csL tsL 1900 (RBinR (· * ·))))
  (g_Ratio_over : GH P w K mg base (L2.CX P w) 7 (ca K .Ratio) "over" ["self", "other"] (spR K csL tsL 1900 ROver))
  (g_Ratio_USub : GN P w K mg base (L2.CX P w) 5 (ca K .Ratio) "__neg__" (spR K csL tsL 3900 (RUnR (fun q => -q))))
  (g_Ratio_abs : GN P w K mg base (L2.CX P w) 5 (ca K .Ratio) "__abs__" (spR K csL tsL 3900 (RUnR qabs)))
  (g_Ratio_eq : GN P w K mg base (L2.CX P w) 2 (ca K .Ratio) "__eq__" (spR K csL tsL 3900 REqR)) (g_Ratio_eq_ne : GNe P w K mg base (L2.CX P w) 2 (ca K .Ratio) (spR K csL tsL 3900 REqR)) (nf_Ratio : ∀ t ∈ tsL, PySem.W.notFirst K (ca K .Ratio) (tv K t) = true)
  (g_Ratio_sign : GP P w K mg base (L2.CX P w) 2 (ca K .Ratio) "sign" (spR K csL tsL 3900 (RPropR fun q => .int q.num.sign)))
  (g_Ratio_below : GP P w K mg base (L2.CX P w) 1 (ca K .Ratio) "below" (spR K csL tsL 3900 (RPropR fun q => .int q.floor)))
  (g_mStep : GM P w K mg base (L2.CX P w) 3 "Step" (ca K .Step) ["self", "studs", "rounds"] [] (spRI K csL tsL .Step 3900 RInitS))
  (g_need_step : GD P w K mg base (L2.CX P w) 3 "need_step" ["value", "part"] [] (spR K csL tsL 100000 (RNeed .Step "BadStep")))
  (g_need_studs : GD P w K mg base (L2.CX P w) 3 "need_studs" ["step", "part"] [] (spR K csL tsL 100000 RNeedK))
  (g_is_upward : GD P w K mg base (L2.CX P w) 1 "is_upward" ["step"] [] (spR K csL tsL 3900 RIsUp))
  (g_summed : GD P w K mg base (L2.CX P w) 5 "summed" ["studs", "rounds"] [] (spR K csL tsL 3900 RSummed))
  (g_Step_Add : GO P w K mg base (L2.CX P w) 6 (ca K .Step) .Add (spR K csL tsL 1900 (RBinS (· + ·))))
  (g_Step_Sub : GO P w K mg base (L2.CX P w) 6 (ca K .Step) .Sub (spR K csL tsL 1900 (RBinS (· - ·))))
  (g_Step_USub : GN P w K mg base (L2.CX P w) 5 (ca K .Step) "__neg__" (spR K csL tsL 3900 RNegS))
  (g_Step_Mult : GO P w K mg base (L2.CX P w) 5 (ca K .Step) .Mult (spR K csL tsL 1900 RMulS))
  (g_Step_eq : GN P w K mg base (L2.CX P w) 1 (ca K .Step) "__eq__" (spR K csL tsL 3900 REqS)) (g_Step_eq_ne : GNe P w K mg base (L2.CX P w) 1 (ca K .Step) (spR K csL tsL 3900 REqS)) (nf_Step : ∀ t ∈ tsL, PySem.W.notFirst K (ca K .Step) (tv K t) = true)
  (g_Step_upward : GP P w K mg base (L2.CX P w) 5 (ca K .Step) "upward" (spR K csL tsL 3900 RUpw))
  (g_Step_corner : GP P w K mg base (L2.CX P w) 5 (ca K .Step) "corner" (spR K csL tsL 3900 RCorner))
  (g_Step_one_round : GS0 P w K mg base (L2.CX P w) 5 (ca K .Step) "one_round" (spR K csL tsL 3900 ROneR))
  (g_cross : GD P w K mg base (L2.CX P w) 4 "cross" ["one", "other"] [] (spR K csL tsL 1900 RCross))
  (g_are_neighbours : GD P w K mg base (L2.CX P w) 5 "are_neighbours" ["one", "other"] [] (spR K csL tsL 1900 RAreN))
  (g_need_neighbours : GD P w K mg base (L2.CX P w) 6 "need_neighbours" ["one", "other"] [] (spR K csL tsL 1900 RNeedN))
  (g_between : GD P w K mg base (L2.CX P w) 7 "between" ["one", "other"] [] (spR K csL tsL 1900 RBetween))
  (g_integer_of : GD P w K mg base (L2.CX P w) 1 "integer_of" ["word"] [] (spR K csL tsL 100000 RIntOf))
  (g_mWords : GM P w K mg base (L2.CX P w) 1 "Words" (ca K .Words) ["self", "words", "done", "last"] [] (spInitW K))
  (g_Words_is_over : GH P w K mg base (L2.CX P w) 1 (ca K .Words) "is_over" ["self"] (spWp K RIsOver))
  (g_Words_take : GH P w K mg base (L2.CX P w) 3 (ca K .Words) "take" ["self"] (spW K RTake))
  (g_Words_refuse : GH P w K mg base (L2.CX P w) 3 (ca K .Words) "refuse" ["self"] (spW K RRefuse))
  (g_Words_integer : GH P w K mg base (L2.CX P w) 4 (ca K .Words) "integer" ["self"] (spW K RInteg))
  (g_Words_end : GH P w K mg base (L2.CX P w) 3 (ca K .Words) "end" ["self"] (spWp K REndW))
  (g_words_in : GD P w K mg base (L2.CX P w) 3 "words_in" ["text"] [] (spWords K csL tsL))
  (g_take_step : GD P w K mg base (L2.CX P w) 5 "take_step" ["words"] [] (spW K RTakeS))
  (g_read_whole : GD P w K mg base (L2.CX P w) 6 "read_whole" ["text", "take"] [] (spReadW K csL tsL (He.ga K "take_step") RTakeS))
  (g_Step_read : GC P w K mg base (L2.CX P w) 7 (ca K .Step) "read" (spReadC K csL tsL RTakeS))
  (g_Step_str : GN P w K mg base (L2.CX P w) 1 (ca K .Step) "__str__" (spR K csL tsL 3900 RStrS))
  (g_inverse : GD P w K mg base (L2.CX P w) 1 "inverse" ["number", "modulus"] [] (spInv K))
  (g_mate : GD P w K mg base (L2.CX P w) 5 "mate" ["step"] [] (spMate K csL tsL))
variable (g_take_step_l : GL P w K mg base (L2.CX P w) 5 "take_step" (spW K RTakeS))

theorem sc_Step_init : FnScope ["self", "studs", "rounds"] ["self", "studs", "rounds"] (defScope (inClass (topS 28) 0)) := ⟨rfl, rfl, rfl, by decide +kernel, rfl, by decide +kernel, by decide +kernel⟩
include g_is_integer g_xBadStep h_gcd in
theorem ok_Step_init (G : G0 K mg csL tsL) (F : FP K "__init__" "Step.__init__" (inClass (topS 28) 0) [] f fd) : FnOk P w K mg base (L2.CX P w) 3 f fd ["self", "studs", "rounds"] (spRI K csL tsL .Step 3900 RInitS) := by
  have nd := sc_Step_init.nd
  refine okI F sc_Step_init (fun ds o r => by cases r <;> rfl) (fun cdv A outer s H a dx ds o Q E hr ha z r q => ⟨_, pss_cons (ps_if (pt_not (pt_val (pe_gd g_is_integer (hr.mono (by decide)) rfl (pxE rfl rfl rfl rfl) (pa_cons (pv 1) (pa_nil))))) (pss_one (ps_raise rfl (takes_of rfl rfl rfl rfl) (pmkD g_xBadStep (hr.mono (by decide)) rfl (pa_cons (pe_str) (pa_nil))))) (pss_nil)) (pss_cons (ps_if (pt_not (pt_val (pe_gd g_is_integer (hr.mono (by decide)) rfl (pxE rfl rfl rfl rfl) (pa_cons (pv 2) (pa_nil))))) (pss_one (ps_raise rfl (takes_of rfl rfl rfl rfl) (pmkD g_xBadStep (hr.mono (by decide)) rfl (pa_cons (pe_str) (pa_nil))))) (pss_nil)) (pss_cons (ps_if (PW.pt (pw_and (pt_cmpR op_eq (pv 1) (pe_int) (nomark _)) (pw_and1 (pt_cmpR op_eq (pv 2) (pe_int) (nomark _))))) (pss_one (ps_raise rfl (takes_of rfl rfl rfl rfl) (pmkD g_xBadStep (hr.mono (by decide)) rfl (pa_cons (pe_str) (pa_nil))))) (pss_nil)) (pss_cons (ps_fldD (pv 0) (pv 1) rfl) (pss_cons (ps_fldD (pv 0) (pv 2) rfl) (pss_cons (ps_fldD (pv 0) (pe_callBfun cr_gcd rfl h_gcd (pa_cons (pv 1) (pa_cons (pv 2) (pa_nil)))) rfl) (pss_one (ps_fldD (pv 0) (pe_cmpR op_eq (pv 1) (pe_int) (nomark _)) rfl))))))), ?_⟩)
  have e : ∀ k : Int, decide (V.int k = V.int 0) = decide (k = 0) := fun k => by simp
  have fin : ∀ (k j : Int) (H' : Hp) (L : List (V × Dt)), FinI K H a dx .Step (.ok (.step k j)) Q E → Env K (.ini a (ca K .Step) dx [("studs", .int k), ("rounds", .int j), ("divisor", .int ((Nat.gcd k.natAbs j.natAbs : Nat) : Int)), ("is_round", .bl (decide (V.int k = V.int 0)))]) H H' L → Q .non H' := fun k j H' L q h => by
    rw [e k] at h
    exact finI q h rfl (.cons (.int _) (.cons (.int _) (.cons (.int _) (.cons (.bl _) .nil))))
  cases r with
  | @ok k j h =>
    walk_at "goI"
    refine iteP (fun h1 => ?_) (fun h1 => ?_)
    · have h1 : k = 0 := by simpa using h1
      walk_at "rd"
      refine iteF (by simpa using fun z => h ⟨h1, z⟩) ?_
      walk_at "rd"
      exact fin k j _ _ q (by assumption)
    · walk_at "rd"
      exact fin k j _ _ q (by assumption)
  | z => walk_at "goI"
  | s h => walk_at "goI"
  | r h => walk_at "goI"
theorem sc_need_step : FnScope ["value", "part"] ["value", "part"] (defScope (topS 31)) := ⟨rfl, rfl, rfl, by decide +kernel, rfl, by decide +kernel, by decide +kernel⟩
include g_xBadStep in
theorem ok_need_step (G : G0 K mg csL tsL) (F : FP K "need_step" "need_step" (topS 31) [] f fd) : FnOk P w K mg base (L2.CX P w) 3 f fd ["value", "part"] (spR K csL tsL 100000 (RNeed .Step "BadStep")) := by
  have nd := sc_need_step.nd
  refine okR F sc_need_step (fun ds o r => by cases r <;> rfl) (fun cdv A outer s H ds o Q E hr z r q => ⟨_, pss_one (ps_if (pt_not (pt_val (pe_callB call_isi rfl G.nm.isinstance (by decide +kernel) (pa_cons (pv 0) (pa_cons ((pe_glob (v := .ref (ca K .Step)) rfl (G.mgc .Step (by decide)) rfl)) (pa_nil)))))) (pss_one (ps_raise rfl (takes_of rfl rfl rfl rfl) (pmkD g_xBadStep (hr.mono (by decide)) rfl (pa_cons (pv 1) (pa_nil))))) (pss_nil)), ?_⟩)
  cases r with
  | @ok d p h =>
    have e := is_eq .Step d
    rw [h] at e
    walk_at "go"
  | @no d p h =>
    have e := is_eq .Step d
    rw [h] at e
    walk_at "go"
theorem sc_need_studs : FnScope ["step", "part"] ["step", "part"] (defScope (topS 32)) := ⟨rfl, rfl, rfl, by decide +kernel, rfl, by decide +kernel, by decide +kernel⟩
include g_xRound in
theorem ok_need_studs (G : G0 K mg csL tsL) (F : FP K "need_studs" "need_studs" (topS 32) [] f fd) : FnOk P w K mg base (L2.CX P w) 3 f fd ["step", "part"] (spR K csL tsL 100000 RNeedK) := by
  have nd := sc_need_studs.nd
  refine okR F sc_need_studs (fun ds o r => by cases r <;> rfl) (fun cdv A outer s H ds o Q E hr z r q => ⟨_, pss_one (ps_if (pt_val (pe_fldD (pv 0) rfl)) (pss_one (ps_raise rfl (takes_of rfl rfl rfl rfl) (pmkD g_xRound (hr.mono (by decide)) rfl (pa_cons (pv 1) (pa_nil))))) (pss_nil)), ?_⟩)
  cases r with
  | @ok k j p h =>
    walk_at "go"
    refine iteF (by simpa using h) ?_
    walk_at "rd"
  | z => walk_at "go"
theorem sc_is_upward : FnScope ["step"] ["step"] (defScope (topS 30)) := ⟨rfl, rfl, rfl, by decide +kernel, rfl, by decide +kernel, by decide +kernel⟩
theorem ok_is_upward (G : G0 K mg csL tsL) (F : FP K "is_upward" "is_upward" (topS 30) [] f fd) : FnOk P w K mg base (L2.CX P w) 1 f fd ["step"] (spR K csL tsL 3900 RIsUp) := by
  have nd := sc_is_upward.nd
  refine okR F sc_is_upward (fun ds o r => by cases r <;> rfl) (fun cdv A outer s H ds o Q E hr z r q => ⟨_, pss_one (ps_ret (pe_or (pe_cmpR op_gt (pe_fldD (pv 0) rfl) (pe_int) (nomark _)) (pe_one (pe_and (pe_cmpR op_eq (pe_fldD (pv 0) rfl) (pe_int) (nomark _)) (pe_one (pe_cmpR op_gt (pe_fldD (pv 0) rfl) (pe_int) (nomark _))))))), ?_⟩)
  cases r with
  | @mk k j =>
    walk_at "go"
    unfold upS at q
    refine iteP (fun h1 => ?_) (fun h1 => ?_)
    · rw [h1] at q
      exact finB q (by assumption) rfl
    · rw [Bool.eq_false_iff.mpr h1] at q
      walk_at "rd"
      refine iteP (fun h2 => ?_) (fun h2 => ?_)
      · rw [vEq] at h2
        rw [h2] at q
        walk_at "rd"
      · rw [vEq] at h2
        rw [Bool.eq_false_iff.mpr h2] at q
        exact finB q (by assumption) rfl
theorem sc_summed : FnScope ["studs", "rounds"] ["studs", "rounds"] (defScope (topS 29)) := ⟨rfl, rfl, rfl, by decide +kernel, rfl, by decide +kernel, by decide +kernel⟩
include g_mStep g_xBadStep in
theorem ok_summed (G : G0 K mg csL tsL) (F : FP K "summed" "summed" (topS 29) [] f fd) : FnOk P w K mg base (L2.CX P w) 5 f fd ["studs", "rounds"] (spR K csL tsL 3900 RSummed) := by
  have nd := sc_summed.nd
  refine okR F sc_summed (fun ds o r => by cases r <;> rfl) (fun cdv A outer s H ds o Q E hr z r q => ⟨_, pss_cons (ps_if (PW.pt (pw_and (pt_cmpR op_eq (pv 0) (pe_int) (nomark _)) (pw_and1 (pt_cmpR op_eq (pv 1) (pe_int) (nomark _))))) (pss_one (ps_raise rfl (takes_of rfl rfl rfl rfl) (pmkD g_xBadStep (hr.mono (by decide)) rfl (pa_cons (pe_str) (pa_nil))))) (pss_nil)) (pss_one (ps_ret (pe_makeD g_mStep (hr.mono (by decide)) rfl (pxE rfl rfl rfl rfl) (pa_cons (pv 0) (pa_cons (pv 1) (pa_nil)))))), ?_⟩)
  cases r with
  | @ok k j h =>
    walk_at "go"
    refine iteP (fun h1 => ?_) (fun h1 => ?_)
    · have h1 : k = 0 := by simpa using h1
      walk_at "rd"
      refine iteF (by simpa using fun z => h ⟨h1, z⟩) ?_
      walk_at "rd"
    · walk_at "rd"
  | z h =>
    obtain ⟨rfl, rfl⟩ := h
    walk_at "go"
theorem sc_Step_add : FnScope ["self", "other"] ["self", "other"] (defScope (inClass (topS 28) 4)) := ⟨rfl, rfl, rfl, by decide +kernel, rfl, by decide +kernel, by decide +kernel⟩
include g_need_step g_summed in
theorem ok_Step_add (G : G0 K mg csL tsL) (F : FP K "__add__" "Step.__add__" (inClass (topS 28) 4) [] f fd) : FnOk P w K mg base (L2.CX P w) 6 f fd ["self", "other"] (spR K csL tsL 1900 (RBinS (· + ·))) := by
  have nd := sc_Step_add.nd
  refine okR F sc_Step_add (fun ds o r => by cases r <;> rfl) (fun cdv A outer s H ds o Q E hr z r q => ⟨_, pss_cons (ps_expr (pe_gd g_need_step (hr.mono (by decide)) rfl (pxE rfl rfl rfl rfl) (pa_cons (pv 1) (pa_cons (pe_str) (pa_nil))))) (pss_one (ps_ret (pe_gd g_summed (hr.mono (by decide)) rfl (pxE rfl rfl rfl rfl) (pa_cons (pe_op op_add (pe_fldD (pv 0) rfl) (pe_fldD (pv 1) rfl)) (pa_cons (pe_op op_add (pe_fldD (pv 0) rfl) (pe_fldD (pv 1) rfl)) (pa_nil)))))), ?_⟩)
  cases r <;> walk_at "go"
theorem sc_Step_sub : FnScope ["self", "other"] ["self", "other"] (defScope (inClass (topS 28) 5)) := ⟨rfl, rfl, rfl, by decide +kernel, rfl, by decide +kernel, by decide +kernel⟩
include g_need_step g_summed in
theorem ok_Step_sub (G : G0 K mg csL tsL) (F : FP K "__sub__" "Step.__sub__" (inClass (topS 28) 5) [] f fd) : FnOk P w K mg base (L2.CX P w) 6 f fd ["self", "other"] (spR K csL tsL 1900 (RBinS (· - ·))) := by
  have nd := sc_Step_sub.nd
  refine okR F sc_Step_sub (fun ds o r => by cases r <;> rfl) (fun cdv A outer s H ds o Q E hr z r q => ⟨_, pss_cons (ps_expr (pe_gd g_need_step (hr.mono (by decide)) rfl (pxE rfl rfl rfl rfl) (pa_cons (pv 1) (pa_cons (pe_str) (pa_nil))))) (pss_one (ps_ret (pe_gd g_summed (hr.mono (by decide)) rfl (pxE rfl rfl rfl rfl) (pa_cons (pe_op op_sub (pe_fldD (pv 0) rfl) (pe_fldD (pv 1) rfl)) (pa_cons (pe_op op_sub (pe_fldD (pv 0) rfl) (pe_fldD (pv 1) rfl)) (pa_nil)))))), ?_⟩)
  cases r <;> walk_at "go"
theorem sc_Step_neg : FnScope ["self"] ["self"] (defScope (inClass (topS 28) 6)) := ⟨rfl, rfl, rfl, by decide +kernel, rfl, by decide +kernel, by decide +kernel⟩
include g_mStep in
theorem ok_Step_neg (G : G0 K mg csL tsL) (F : FP K "__neg__" "Step.__neg__" (inClass (topS 28) 6) [] f fd) : FnOk P w K mg base (L2.CX P w) 5 f fd ["self"] (spR K csL tsL 3900 RNegS) := by
  have nd := sc_Step_neg.nd
  refine okR F sc_Step_neg (fun ds o r => by cases r <;> rfl) (fun cdv A outer s H ds o Q E hr z r q => ⟨_, pss_one (ps_ret (pe_makeD g_mStep (hr.mono (by decide)) rfl (pxE rfl rfl rfl rfl) (pa_cons (pe_un un_neg (pe_fldD (pv 0) rfl)) (pa_cons (pe_un un_neg (pe_fldD (pv 0) rfl)) (pa_nil))))), ?_⟩)
  cases r with
  | @mk k j h =>
    have h' : ¬ (-k = 0 ∧ -j = 0) := by omega
    walk_at "go"
theorem sc_Step_mul : FnScope ["self", "other"] ["self", "other"] (defScope (inClass (topS 28) 7)) := ⟨rfl, rfl, rfl, by decide +kernel, rfl, by decide +kernel, by decide +kernel⟩
include g_is_integer g_mStep g_xBadNumber in
theorem ok_Step_mul (G : G0 K mg csL tsL) (F : FP K "__mul__" "Step.__mul__" (inClass (topS 28) 7) [] f fd) : FnOk P w K mg base (L2.CX P w) 5 f fd ["self", "other"] (spR K csL tsL 1900 RMulS) := by
  have nd := sc_Step_mul.nd
  refine okR F sc_Step_mul (fun ds o r => by cases r <;> rfl) (fun cdv A outer s H ds o Q E hr z r q => ⟨_, pss_cons (ps_if (PW.pt (pw_or (pt_not (pt_val (pe_gd g_is_integer (hr.mono (by decide)) rfl (pxE rfl rfl rfl rfl) (pa_cons (pv 1) (pa_nil))))) (pw_or1 (pt_cmpR op_eq (pv 1) (pe_int) (nomark _))))) (pss_one (ps_raise rfl (takes_of rfl rfl rfl rfl) (pmkD g_xBadNumber (hr.mono (by decide)) rfl (pa_cons (pe_str) (pa_nil))))) (pss_nil)) (pss_one (ps_ret (pe_makeD g_mStep (hr.mono (by decide)) rfl (pxE rfl rfl rfl rfl) (pa_cons (pe_op op_mulB (pe_fldD (pv 0) rfl) (pv 1)) (pa_cons (pe_op op_mulB (pe_fldD (pv 0) rfl) (pv 1)) (pa_nil)))))), ?_⟩)
  cases r with
  | @ok k j m h h2 =>
    have h' : ¬ (k * m = 0 ∧ j * m = 0) := fun ⟨x, y⟩ => h2 ⟨(Int.mul_eq_zero.mp x).resolve_right h, (Int.mul_eq_zero.mp y).resolve_right h⟩
    walk_at "go"
    refine iteF (by simpa using h) ?_
    walk_at "rd"
  | z => walk_at "go"
  | n h => walk_at "go"
theorem sc_Step_eq : FnScope ["self", "other"] ["self", "other"] (defScope (inClass (topS 28) 8)) := ⟨rfl, rfl, rfl, by decide +kernel, rfl, by decide +kernel, by decide +kernel⟩
theorem ok_Step_eq (G : G0 K mg csL tsL) (F : FP K "__eq__" "Step.__eq__" (inClass (topS 28) 8) [] f fd) : FnOk P w K mg base (L2.CX P w) 1 f fd ["self", "other"] (spR K csL tsL 3900 REqS) := by
  have nd := sc_Step_eq.nd
  refine okR F sc_Step_eq (fun ds o r => by cases r <;> rfl) (fun cdv A outer s H ds o Q E hr z r q => ⟨_, pss_one (ps_ret (pe_and (pe_callB call_isi rfl G.nm.isinstance (by decide +kernel) (pa_cons (pv 1) (pa_cons ((pe_glob (v := .ref (ca K .Step)) rfl (G.mgc .Step (by decide)) rfl)) (pa_nil)))) (pe_and (pe_cmpR op_eq (pe_fldD (pv 0) rfl) (pe_fldD (pv 1) rfl) (nomark _)) (pe_one (pe_cmpR op_eq (pe_fldD (pv 0) rfl) (pe_fldD (pv 1) rfl) (nomark _)))))), ?_⟩)
  cases r with
  | @s k j l i =>
    walk_at "go"
    refine iteP (fun h1 => ?_) (fun h1 => ?_)
    · rw [vEq] at h1
      rw [h1] at q
      walk_at "rd"
      exact finB q (by assumption) (vEq _ _)
    · rw [vEq] at h1
      rw [Bool.eq_false_iff.mpr h1] at q
      exact finB q (by assumption) rfl
  | @n k j d h =>
    have e := is_eq .Step d
    rw [h] at e
    walk_at "go"
theorem sc_Step_upward : FnScope ["self"] ["self"] (defScope (inClass (topS 28) 1)) := ⟨rfl, rfl, rfl, by decide +kernel, rfl, by decide +kernel, by decide +kernel⟩
include g_is_upward g_mStep in
theorem ok_Step_upward (G : G0 K mg csL tsL) (F : FP K "upward" "Step.upward" (inClass (topS 28) 1) [] f fd) : FnOk P w K mg base (L2.CX P w) 5 f fd ["self"] (spR K csL tsL 3900 RUpw) := by
  have nd := sc_Step_upward.nd
  refine okR F sc_Step_upward (fun ds o r => by cases r <;> rfl) (fun cdv A outer s H ds o Q E hr z r q => ⟨_, pss_one (ps_ret (pe_ifExp (pt_val (pe_gd g_is_upward (hr.mono (by decide)) rfl (pxE rfl rfl rfl rfl) (pa_cons (pv 0) (pa_nil)))) (pv 0) (pe_makeD g_mStep (hr.mono (by decide)) rfl (pxE rfl rfl rfl rfl) (pa_cons (pe_un un_neg (pe_fldD (pv 0) rfl)) (pa_cons (pe_un un_neg (pe_fldD (pv 0) rfl)) (pa_nil)))))), ?_⟩)
  cases r with
  | @mk k j h =>
    have h' : ¬ (-k = 0 ∧ -j = 0) := by omega
    walk_at "go"
    refine iteP (fun h1 => ?_) (fun h1 => ?_)
    · rw [if_pos h1] at q
      walk_at "rd"
    · rw [if_neg h1] at q
      walk_at "rd"
theorem sc_Step_corner : FnScope ["self"] ["self"] (defScope (inClass (topS 28) 2)) := ⟨rfl, rfl, rfl, by decide +kernel, rfl, by decide +kernel, by decide +kernel⟩
include g_mRatio g_need_studs in
theorem ok_Step_corner (G : G0 K mg csL tsL) (F : FP K "corner" "Step.corner" (inClass (topS 28) 2) [] f fd) : FnOk P w K mg base (L2.CX P w) 5 f fd ["self"] (spR K csL tsL 3900 RCorner) := by
  have nd := sc_Step_corner.nd
  refine okR F sc_Step_corner (fun ds o r => by cases r <;> rfl) (fun cdv A outer s H ds o Q E hr z r q => ⟨_, pss_cons (ps_expr (pe_gd g_need_studs (hr.mono (by decide)) rfl (pxE rfl rfl rfl rfl) (pa_cons (pv 0) (pa_cons (pe_str) (pa_nil))))) (pss_one (ps_ret (pe_makeD g_mRatio (hr.mono (by decide)) rfl (pxE rfl rfl rfl rfl) (pa_cons (pe_fldD (pv 0) rfl) (pa_cons (pe_fldD (pv 0) rfl) (pa_nil)))))), ?_⟩)
  cases r <;> walk_at "go"
theorem sc_Step_one_round : FnScope [] [] (defScope (inClass (topS 28) 3)) := ⟨rfl, rfl, rfl, by decide +kernel, rfl, by decide +kernel, by decide +kernel⟩
include g_mStep in
theorem ok_Step_one_round (G : G0 K mg csL tsL) (F : FP K "one_round" "Step.one_round" (inClass (topS 28) 3) [] f fd) : FnOk P w K mg base (L2.CX P w) 5 f fd [] (spR K csL tsL 3900 ROneR) := by
  have nd := sc_Step_one_round.nd
  refine okR F sc_Step_one_round (fun ds o r => by cases r <;> rfl) (fun cdv A outer s H ds o Q E hr z r q => ⟨_, pss_one (ps_ret (pe_makeD g_mStep (hr.mono (by decide)) rfl (pxE rfl rfl rfl rfl) (pa_cons (pe_int) (pa_cons (pe_int) (pa_nil))))), ?_⟩)
  cases r
  walk_at "go"
theorem sc_cross : FnScope ["one", "other"] ["one", "other"] (defScope (topS 35)) := ⟨rfl, rfl, rfl, by decide +kernel, rfl, by decide +kernel, by decide +kernel⟩
include g_need_step in
theorem ok_cross (G : G0 K mg csL tsL) (F : FP K "cross" "cross" (topS 35) [] f fd) : FnOk P w K mg base (L2.CX P w) 4 f fd ["one", "other"] (spR K csL tsL 1900 RCross) := by
  have nd := sc_cross.nd
  refine okR F sc_cross (fun ds o r => by cases r <;> rfl) (fun cdv A outer s H ds o Q E hr z r q => ⟨_, pss_cons (ps_expr (pe_gd g_need_step (hr.mono (by decide)) rfl (pxE rfl rfl rfl rfl) (pa_cons (pv 0) (pa_cons (pe_str) (pa_nil))))) (pss_cons (ps_expr (pe_gd g_need_step (hr.mono (by decide)) rfl (pxE rfl rfl rfl rfl) (pa_cons (pv 1) (pa_cons (pe_str) (pa_nil))))) (pss_one (ps_ret (pe_op op_sub (pe_op op_mulB (pe_fldD (pv 0) rfl) (pe_fldD (pv 1) rfl)) (pe_op op_mulB (pe_fldD (pv 1) rfl) (pe_fldD (pv 0) rfl)))))), ?_⟩)
  cases r <;> walk_at "go"
theorem sc_are_neighbours : FnScope ["one", "other"] ["one", "other"] (defScope (topS 36)) := ⟨rfl, rfl, rfl, by decide +kernel, rfl, by decide +kernel, by decide +kernel⟩
include g_cross in
theorem ok_are_neighbours (G : G0 K mg csL tsL) (F : FP K "are_neighbours" "are_neighbours" (topS 36) [] f fd) : FnOk P w K mg base (L2.CX P w) 5 f fd ["one", "other"] (spR K csL tsL 1900 RAreN) := by
  have nd := sc_are_neighbours.nd
  refine okR F sc_are_neighbours (fun ds o r => by cases r <;> rfl) (fun cdv A outer s H ds o Q E hr z r q => ⟨_, pss_one (ps_ret (pe_cmpR op_eq (pe_callB call_abs rfl G.nm.abs (by decide +kernel) (pa_cons (pe_gd g_cross (hr.mono (by decide)) rfl (pxE rfl rfl rfl rfl) (pa_cons (pv 0) (pa_cons (pv 1) (pa_nil)))) (pa_nil))) (pe_int) (nomark _))), ?_⟩)
  cases r with
  | @ok k j l i =>
    walk_at "go"
    exact finB q (by assumption) (absOne _)
  | one h => walk_at "go"
  | oth h => walk_at "go"
theorem sc_need_neighbours : FnScope ["one", "other"] ["one", "other"] (defScope (topS 37)) := ⟨rfl, rfl, rfl, by decide +kernel, rfl, by decide +kernel, by decide +kernel⟩
include g_are_neighbours g_xNotNeighbours in
theorem ok_need_neighbours (G : G0 K mg csL tsL) (F : FP K "need_neighbours" "need_neighbours" (topS 37) [] f fd) : FnOk P w K mg base (L2.CX P w) 6 f fd ["one", "other"] (spR K csL tsL 1900 RNeedN) := by
  have nd := sc_need_neighbours.nd
  refine okR F sc_need_neighbours (fun ds o r => by cases r <;> rfl) (fun cdv A outer s H ds o Q E hr z r q => ⟨_, pss_one (ps_if (pt_not (pt_val (pe_gd g_are_neighbours (hr.mono (by decide)) rfl (pxE rfl rfl rfl rfl) (pa_cons (pv 0) (pa_cons (pv 1) (pa_nil)))))) (pss_one (ps_raise rfl (takes_of rfl rfl rfl rfl) (pmkD g_xNotNeighbours (hr.mono (by decide)) rfl (pa_cons (pv 0) (pa_cons (pv 1) (pa_nil)))))) (pss_nil)), ?_⟩)
  cases r with
  | ok h =>
    have h' := decide_eq_true h
    walk_at "go"
  | no h =>
    have h' := decide_eq_false h
    walk_at "go"
  | one h => walk_at "go"
  | oth h => walk_at "go"
theorem sc_between : FnScope ["one", "other"] ["one", "other"] (defScope (topS 38)) := ⟨rfl, rfl, rfl, by decide +kernel, rfl, by decide +kernel, by decide +kernel⟩
include g_Step_Add g_need_neighbours in
theorem ok_between (G : G0 K mg csL tsL) (F : FP K "between" "between" (topS 38) [] f fd) : FnOk P w K mg base (L2.CX P w) 7 f fd ["one", "other"] (spR K csL tsL 1900 RBetween) := by
  have nd := sc_between.nd
  refine okR F sc_between (fun ds o r => by cases r <;> rfl) (fun cdv A outer s H ds o Q E hr z r q => ⟨_, pss_cons (ps_expr (pe_gd g_need_neighbours (hr.mono (by decide)) rfl (pxE rfl rfl rfl rfl) (pa_cons (pv 0) (pa_cons (pv 1) (pa_nil))))) (pss_one (ps_ret (pe_op (op_go g_Step_Add (hr.mono (by decide)) (pxE rfl rfl rfl rfl)) (pv 0) (pv 1)))), ?_⟩)
  cases r with
  | ok h =>
    have h' := crs_nz h
    walk_at "go"
  | no h => walk_at "go"
  | one h => walk_at "go"
  | oth h => walk_at "go"
end
end Sp
end
section
set_option Elab.async false
set_option linter.all false
set_option exponentiation.threshold 5000
set_option maxRecDepth 100000
set_option maxHeartbeats 0
local macro_rules | `(tactic| walk_at "mem") => `(tactic| first | exact List.mem_cons_self | (refine List.mem_cons_of_mem _ ?_; walk_at "mem"))
local macro_rules | `(tactic| walk_at "isv") => `(tactic| first | exact Sp.IsV.int _ | exact Sp.IsV.str _ | exact Sp.IsV.bl _ | exact Sp.IsV.non | exact Sp.Env.get (by assumption) (by walk_at "mem") | assumption)
local macro_rules | `(tactic| walk_at "isvs") => `(tactic| first | exact Sp.IsVs.nil | (refine' Sp.IsVs.cons ?iv ?rs; (case iv => walk_at "isv"); (case rs => walk_at "isvs")))
local macro_rules | `(tactic| walk_at "isfs") => `(tactic| first | exact Sp.IsFs.nil | (refine' Sp.IsFs.cons ?iv ?rs; (case iv => walk_at "isv"); (case rs => walk_at "isfs")))
local macro_rules | `(tactic| walk_at "sz1") => `(tactic| first | exact trivial | exact Sp.biI _ | exact Sp.bqI _ | exact ⟨Sp.biI _, Sp.biI _⟩ | exact ⟨Sp.bqI _, Sp.bqI _⟩ | exact ⟨⟨Sp.biI _, Sp.biI _⟩, Sp.biI _, Sp.biI _⟩ | exact ⟨Sp.bqI _, Sp.bqI _, Sp.bqI _⟩ | assumption | exact Sp.SzD.mono (by assumption) (by decide))
local macro_rules | `(tactic| walk_at "okt") => `(tactic| first | rfl | assumption | decide)
local macro_rules | `(tactic| walk_at "dsok") => `(tactic| first | exact trivial | (refine And.intro (And.intro ?oa ?ob) ?rs; (case oa => walk_at "okt"); (case ob => walk_at "sz1"); (case rs => walk_at "dsok")))
local macro_rules | `(tactic| walk_at "sc") => `(tactic| first | rfl | assumption | decide | omega)
local macro_rules | `(tactic| walk_at "leaf") => `(tactic| first | rfl | assumption | exact True.intro | exact ⟨_, rfl⟩ | exact L2.upd_same | exact L2.ClsV.ty _ | exact L2.ClsV.own _ | decide | exact of_decide_eq_true rfl | exact Sp.cmI _ _ | exact Sp.cdI _ (by first | assumption | omega) | exact Sp.cmL (by decide) | exact Sp.cmR (by decide) | exact ⟨by decide, by decide, by decide⟩ | exact ⟨by decide, by decide⟩ | omega | fail)
local macro_rules | `(tactic| walk_at "cls") => `(tactic| first | exact Sp.ClsD.int | exact Sp.ClsD.bool | exact Sp.ClsD.str | exact Sp.ClsD.own _ | exact Sp.ClsD.tuple | exact Sp.ClsD.list)
local macro_rules | `(tactic| walk_at "args") => `(tactic| repeat (first
  | refine' Sp.aaInt ?_ | refine' Sp.aaBl ?_ | refine' Sp.aaStr ?_ | refine' Sp.aaNon ?_ | (refine' Sp.aaOwn (by assumption) (by rfl) ?_; intro _ _) | (refine' Sp.aaTup (by assumption) ?_; intro _ _) | (refine' Sp.aaAny (by assumption) ?_; intro _ _) | refine' Sp.aaNil ?_))
local macro_rules | `(tactic| walk_at "rd1") => `(tactic| first
  | apply Sp.exI
  | (refine And.intro ?lf ?_; (case lf => walk_at "leaf"))
  | (show @ite Prop (_ = true) _ _ _; first | refine' Sp.iteT (by first | assumption | rfl | exact Sp.nbT (by assumption) | exact Sp.nbF (by assumption)) ?_ | refine' Sp.iteF (by first | assumption | rfl | exact Sp.nbT (by assumption) | exact Sp.nbF (by assumption)) ?_)
  | (refine' Sp.afInt (by assumption) ?_; intro _ _) | (refine' Sp.afBl (by assumption) ?_; intro _ _) | (refine' Sp.afStr (by assumption) ?_; intro _ _) | (refine' Sp.afNon (by assumption) ?_; intro _ _)
  | (refine' Sp.afOwn (by assumption) (by rfl) ?_; intro _ _ _) | (refine' Sp.afTup (by assumption) ?_; intro _ _ _) | (refine' Sp.afRef (by assumption) ?_; intro _ _ _)
  | refine' Sp.asInt ?_ | refine' Sp.asBl ?_ | refine' Sp.asStr ?_ | refine' Sp.asNon ?_
  | (refine' Sp.asOwn (by assumption) (by rfl) ?_; intro _ _) | (refine' Sp.asTup (by assumption) ?_; intro _ _) | (refine' Sp.asRef (by assumption) ?_; intro _ _)
  | refine' Sp.aaInt ?_ | refine' Sp.aaBl ?_ | refine' Sp.aaStr ?_ | refine' Sp.aaNon ?_ | (refine' Sp.aaOwn (by assumption) (by rfl) ?_; intro _ _) | (refine' Sp.aaTup (by assumption) ?_; intro _ _) | (refine' Sp.aaAny (by assumption) ?_; intro _ _) | refine' Sp.aaNil ?_
  | (refine' Sp.fnR ?i ?z ?r ?_; (case i => walk_at "isvs"); (case z => walk_at "dsok"); (case r => walk_at "rel"))
  | (refine' Sp.makeOk ?i ?z ?r ?o ?_; (case i => walk_at "isvs"); (case z => walk_at "dsok"); (case r => walk_at "rel"); (case o => rfl))
  | (refine' Sp.makeEr ?i ?z ?r ?_; (case i => walk_at "isvs"); (case z => walk_at "dsok"); (case r => walk_at "rel"))
  | (refine' Sp.isiD (by assumption) ?i ?c ?o ?t ?_; (case i => walk_at "isv"); (case c => walk_at "cls"); (case o => walk_at "okt"); (case t => decide))
  | (refine' Sp.fldD (by assumption) ?i ?o ?l ?c ?_; (case i => walk_at "isv"); (case o => rfl); (case l => rfl); (case c => decide))
  | (refine' Sp.fldRaw (by assumption) (by assumption) (by rfl) (by decide) (by decide) ?_)
  | (refine' Sp.methRaw (by assumption) (by rfl) ?_)
  | (refine' Sp.setRaw (by assumption) (by assumption) (by rfl) (by decide) (by decide) ?_)
  | (refine' Sp.strD ?i ?o ?_; (case i => walk_at "isv"); (case o => rfl))
  | (refine' Sp.methD ?i ?o ?l ?_; (case i => walk_at "isv"); (case o => rfl); (case l => rfl))
  | (refine' Sp.propD ?i ?o ?_; (case i => walk_at "isv"); (case o => rfl))
  | (refine' Sp.binD ?i ?o ?j ?e ?_; (case i => walk_at "isv"); (case o => rfl); (case j => walk_at "isv"); (case e => rfl))
  | (refine' Sp.unD ?i ?o ?_; (case i => walk_at "isv"); (case o => rfl))
  | (refine' Sp.absD ?i ?o ?_; (case i => walk_at "isv"); (case o => rfl))
  | (refine' Sp.eqOwnD (by assumption) ?i ?o ?j ?e ?n ?_; (case i => walk_at "isv"); (case o => rfl); (case j => walk_at "isv"); (case e => walk_at "okt"); (case n => walk_at "nf"))
  | (refine' Sp.neOwnD (by assumption) ?i ?o ?j ?e ?n ?_; (case i => walk_at "isv"); (case o => rfl); (case j => walk_at "isv"); (case e => walk_at "okt"); (case n => walk_at "nf"))
  | (refine' Sp.tupD (by assumption) ?i ?l ?_; (case i => walk_at "isvs"); (case l => rfl); intro _ _ _)
  | (refine' Sp.lstD (by assumption) ?i ?l ?_; (case i => walk_at "isvs"); (case l => rfl); intro _ _ _)
  | (refine' Sp.raiseD (by assumption) ?i ?e ?l ?_; (case i => walk_at "isvs"); (case e => rfl); (case l => rfl))
  | (refine' Sp.setD (by assumption) (by assumption) rfl rfl rfl (by decide) (by decide) ?_; intro _ _)
  | (refine' Sp.ixTD ?i ?e ?g ?_; (case i => walk_at "isv"); (case e => rfl); (case g => rfl))
  | (refine' Sp.ixLD ?i ?e ?g ?_; (case i => walk_at "isv"); (case e => rfl); (case g => rfl))
  | (refine' Sp.gTupD ?i ?e ?_; (case i => walk_at "isv"); (case e => rfl))
  | (refine' Sp.finD' (by assumption) (by assumption) ?i; (case i => walk_at "isv"))
  | refine' Sp.finE' (by assumption) (by assumption)
  | refine' Sp.finIE (by assumption) (by assumption) (by assumption)
  | (refine' Sp.dipD (by assumption) (by omega) ?m0 ?m1 ?n ?_; (case m0 => first | decide | omega); (case m1 => first | decide | omega); (case n => rfl); intro _ _ _ _ _)
  | (refine' Sp.lawL (by assumption) ?i ?z ?r ?_; (case i => walk_at "isvs"); (case z => walk_at "dsok"); (case r => walk_at "rel"); intro _ _ _)
  | (refine' Sp.lawP (by assumption) ?i ?z ?nd ?pr (by omega) ?nl ?_; (case i => walk_at "isvs"); (case z => walk_at "dsok"); (case nd => rfl); (case pr => walk_at "pre"); (case nl => rfl))
  | (refine' Sp.dctD (by assumption) ?_; intro _ _ _)
  | (refine' Sp.eqDD ?i ?j ?e ?f ?s ?t ?_; (case i => walk_at "isv"); (case j => walk_at "isv"); (case e => rfl); (case f => rfl); (case s => rfl); (case t => rfl))
  | (refine' Sp.neDD ?i ?j ?e ?f ?s ?t ?_; (case i => walk_at "isv"); (case j => walk_at "isv"); (case e => rfl); (case f => rfl); (case s => rfl); (case t => rfl))
  | (refine' Sp.lamD (by assumption) ?_; intro _ _ _ _)
  | (refine' Sp.hokD (by assumption) ?i ?_; (case i => walk_at "isv"); intro _ _ _)
  | (refine' Sp.herP1 (by assumption) ?m ?l ?_; (case m => walk_at "mem"); (case l => rfl); intro _ _ _)
  | (refine' Sp.herP2 (by assumption) ?m ?l ?l2 ?_; (case m => walk_at "mem"); (case l => rfl); (case l2 => rfl); intro _ _ _)
  | (refine' Sp.finL (by assumption) (by assumption) ?i; (case i => walk_at "isv"))
  | fail)
local macro_rules | `(tactic| walk_at "rd1N") => `(tactic| first
  | apply Sp.exI
  | (refine And.intro ?lf ?_; (case lf => walk_at "leaf"))
  | (show @ite Prop (_ = true) _ _ _; first | refine' Sp.iteT (by first | assumption | rfl | exact Sp.nbT (by assumption) | exact Sp.nbF (by assumption)) ?_ | refine' Sp.iteF (by first | assumption | rfl | exact Sp.nbT (by assumption) | exact Sp.nbF (by assumption)) ?_)
  | (refine' Sp.afInt (by assumption) ?_; intro _ _) | (refine' Sp.afBl (by assumption) ?_; intro _ _) | (refine' Sp.afStr (by assumption) ?_; intro _ _) | (refine' Sp.afNon (by assumption) ?_; intro _ _)
  | (refine' Sp.afOwn (by assumption) (by rfl) ?_; intro _ _ _) | (refine' Sp.afTup (by assumption) ?_; intro _ _ _) | (refine' Sp.afRef (by assumption) ?_; intro _ _ _)
  | refine' Sp.asInt ?_ | refine' Sp.asBl ?_ | refine' Sp.asStr ?_ | refine' Sp.asNon ?_
  | (refine' Sp.asOwn (by assumption) (by rfl) ?_; intro _ _) | (refine' Sp.asTup (by assumption) ?_; intro _ _) | (refine' Sp.asRef (by assumption) ?_; intro _ _)
  | refine' Sp.aaInt ?_ | refine' Sp.aaBl ?_ | refine' Sp.aaStr ?_ | refine' Sp.aaNon ?_ | (refine' Sp.aaOwn (by assumption) (by rfl) ?_; intro _ _) | (refine' Sp.aaTup (by assumption) ?_; intro _ _) | (refine' Sp.aaAny (by assumption) ?_; intro _ _) | refine' Sp.aaNil ?_
  | (refine' Sp.fnR ?i ?z ?r ?_; (case i => walk_at "isvs"); (case z => walk_at "dsok"); (case r => walk_at "rel"))
  | (refine' Sp.makeOk ?i ?z ?r ?o ?_; (case i => walk_at "isvs"); (case z => walk_at "dsok"); (case r => walk_at "rel"); (case o => rfl))
  | (refine' Sp.makeEr ?i ?z ?r ?_; (case i => walk_at "isvs"); (case z => walk_at "dsok"); (case r => walk_at "rel"))
  | (refine' Sp.isiD (by assumption) ?i ?c ?o ?t ?_; (case i => walk_at "isv"); (case c => walk_at "cls"); (case o => walk_at "okt"); (case t => decide))
  | (refine' Sp.fldD (by assumption) ?i ?o ?l ?c ?_; (case i => walk_at "isv"); (case o => rfl); (case l => rfl); (case c => decide))
  | (refine' Sp.fldRaw (by assumption) (by assumption) (by rfl) (by decide) (by decide) ?_)
  | (refine' Sp.methRaw (by assumption) (by rfl) ?_)
  | (refine' Sp.setRaw (by assumption) (by assumption) (by rfl) (by decide) (by decide) ?_)
  | (refine' Sp.strD ?i ?o ?_; (case i => walk_at "isv"); (case o => rfl))
  | (refine' Sp.methD ?i ?o ?l ?_; (case i => walk_at "isv"); (case o => rfl); (case l => rfl))
  | (refine' Sp.propD ?i ?o ?_; (case i => walk_at "isv"); (case o => rfl))
  | (refine' Sp.binD ?i ?o ?j ?e ?_; (case i => walk_at "isv"); (case o => rfl); (case j => walk_at "isv"); (case e => rfl))
  | (refine' Sp.unD ?i ?o ?_; (case i => walk_at "isv"); (case o => rfl))
  | (refine' Sp.absD ?i ?o ?_; (case i => walk_at "isv"); (case o => rfl))
  | (refine' Sp.eqOwnD (by assumption) ?i ?o ?j ?e ?n ?_; (case i => walk_at "isv"); (case o => rfl); (case j => walk_at "isv"); (case e => walk_at "okt"); (case n => walk_at "nf"))
  | (refine' Sp.neOwnD (by assumption) ?i ?o ?j ?e ?n ?_; (case i => walk_at "isv"); (case o => rfl); (case j => walk_at "isv"); (case e => walk_at "okt"); (case n => walk_at "nf"))
  | (refine' Sp.raiseD (by assumption) ?i ?e ?l ?_; (case i => walk_at "isvs"); (case e => rfl); (case l => rfl))
  | (refine' Sp.setD (by assumption) (by assumption) rfl rfl rfl (by decide) (by decide) ?_; intro _ _)
  | (refine' Sp.ixTD ?i ?e ?g ?_; (case i => walk_at "isv"); (case e => rfl); (case g => rfl))
  | (refine' Sp.ixLD ?i ?e ?g ?_; (case i => walk_at "isv"); (case e => rfl); (case g => rfl))
  | (refine' Sp.gTupD ?i ?e ?_; (case i => walk_at "isv"); (case e => rfl))
  | (refine' Sp.finD' (by assumption) (by assumption) ?i; (case i => walk_at "isv"))
  | refine' Sp.finE' (by assumption) (by assumption)
  | refine' Sp.finIE (by assumption) (by assumption) (by assumption)
  | (refine' Sp.dipD (by assumption) (by omega) ?m0 ?m1 ?n ?_; (case m0 => first | decide | omega); (case m1 => first | decide | omega); (case n => rfl); intro _ _ _ _ _)
  | (refine' Sp.lawL (by assumption) ?i ?z ?r ?_; (case i => walk_at "isvs"); (case z => walk_at "dsok"); (case r => walk_at "rel"); intro _ _ _)
  | (refine' Sp.lawP (by assumption) ?i ?z ?nd ?pr (by omega) ?nl ?_; (case i => walk_at "isvs"); (case z => walk_at "dsok"); (case nd => rfl); (case pr => walk_at "pre"); (case nl => rfl))
  | (refine' Sp.dctD (by assumption) ?_; intro _ _ _)
  | (refine' Sp.eqDD ?i ?j ?e ?f ?s ?t ?_; (case i => walk_at "isv"); (case j => walk_at "isv"); (case e => rfl); (case f => rfl); (case s => rfl); (case t => rfl))
  | (refine' Sp.neDD ?i ?j ?e ?f ?s ?t ?_; (case i => walk_at "isv"); (case j => walk_at "isv"); (case e => rfl); (case f => rfl); (case s => rfl); (case t => rfl))
  | (refine' Sp.lamD (by assumption) ?_; intro _ _ _ _)
  | (refine' Sp.hokD (by assumption) ?i ?_; (case i => walk_at "isv"); intro _ _ _)
  | (refine' Sp.herP1 (by assumption) ?m ?l ?_; (case m => walk_at "mem"); (case l => rfl); intro _ _ _)
  | (refine' Sp.herP2 (by assumption) ?m ?l ?l2 ?_; (case m => walk_at "mem"); (case l => rfl); (case l2 => rfl); intro _ _ _)
  | (refine' Sp.finL (by assumption) (by assumption) ?i; (case i => walk_at "isv"))
  | fail)
local macro_rules | `(tactic| walk_at "rdN") => `(tactic| repeat (walk_at "rd1N"))
local macro_rules | `(tactic| walk_at "rd") => `(tactic| repeat (walk_at "rd1"))
local macro_rules | `(tactic| walk_at "zs") => `(tactic| (refine' Sp.zsStart (by assumption) ?_; repeat (first | refine' Sp.zsNil ?_ | (refine' Sp.zsInt ?_; intro _) | (refine' Sp.zsRat ?_; intro _) | (refine' Sp.zsStep ?_; intro _ _) | (refine' Sp.zsStem ?_; intro _ _) | (refine' Sp.zsTable ?_; intro _ _ _ _) | (refine' Sp.zsAny ?_; intro _ _))))
local macro_rules | `(tactic| walk_at "go0") => `(tactic| (walk_at "zs"; (have := Sp.Env.of (K := ‹PySem.W.Frag›) ‹L2.Hp›); walk_at "args"))
local macro_rules | `(tactic| walk_at "go") => `(tactic| (walk_at "go0"; walk_at "rd"))
local macro_rules | `(tactic| walk_at "goI0") => `(tactic| (walk_at "zs"; (have := Sp.Env.ofI (K := ‹PySem.W.Frag›) (H := ‹L2.Hp›) (by assumption)); walk_at "args"))
local macro_rules | `(tactic| walk_at "goI") => `(tactic| (walk_at "goI0"; walk_at "rd"))
local macro_rules | `(tactic| walk_at "goL") => `(tactic| (walk_at "zs"; walk_at "args"; walk_at "rd"))
local macro_rules | `(tactic| walk_at "rel") => `(tactic| first
  | (apply Sp.RIsInt.mk <;> walk_at "sc")
  | (apply Sp.RIsRat.mk <;> walk_at "sc")
  | (apply Sp.RSign.mk <;> walk_at "sc")
  | (apply Sp.RInitR.one <;> walk_at "sc")
  | (apply Sp.RInitR.ok <;> walk_at "sc")
  | (apply Sp.RInitR.z <;> walk_at "sc")
  | (apply Sp.RInitR.t <;> walk_at "sc")
  | (apply Sp.RInitR.b <;> walk_at "sc")
  | (apply Sp.ROf.r <;> walk_at "sc")
  | (apply Sp.ROf.i <;> walk_at "sc")
  | (apply Sp.ROf.n <;> walk_at "sc")
  | (apply Sp.RBinR.r <;> walk_at "sc")
  | (apply Sp.RBinR.i <;> walk_at "sc")
  | (apply Sp.RBinR.n <;> walk_at "sc")
  | (apply Sp.ROver.r <;> walk_at "sc")
  | (apply Sp.ROver.i <;> walk_at "sc")
  | (apply Sp.ROver.z <;> walk_at "sc")
  | (apply Sp.ROver.zi <;> walk_at "sc")
  | (apply Sp.ROver.n <;> walk_at "sc")
  | (apply Sp.RCmp.r <;> walk_at "sc")
  | (apply Sp.RCmp.i <;> walk_at "sc")
  | (apply Sp.RCmp.n <;> walk_at "sc")
  | (apply Sp.RBelow.r <;> walk_at "sc")
  | (apply Sp.RBelow.i <;> walk_at "sc")
  | (apply Sp.RBelow.n <;> walk_at "sc")
  | (apply Sp.RUnR.mk <;> walk_at "sc")
  | (apply Sp.REqR.r <;> walk_at "sc")
  | (apply Sp.REqR.i <;> walk_at "sc")
  | (apply Sp.REqR.n <;> walk_at "sc")
  | (apply Sp.RPropR.mk <;> walk_at "sc")
  | (apply Sp.RInitS.ok <;> walk_at "sc")
  | (apply Sp.RInitS.z <;> walk_at "sc")
  | (apply Sp.RInitS.s <;> walk_at "sc")
  | (apply Sp.RInitS.r <;> walk_at "sc")
  | (apply Sp.RNeed.ok <;> walk_at "sc")
  | (apply Sp.RNeed.no <;> walk_at "sc")
  | (apply Sp.RNeedK.ok <;> walk_at "sc")
  | (apply Sp.RNeedK.z <;> walk_at "sc")
  | (apply Sp.RCross.ok <;> walk_at "sc")
  | (apply Sp.RCross.one <;> walk_at "sc")
  | (apply Sp.RCross.oth <;> walk_at "sc")
  | (apply Sp.RAreN.ok <;> walk_at "sc")
  | (apply Sp.RAreN.one <;> walk_at "sc")
  | (apply Sp.RAreN.oth <;> walk_at "sc")
  | (apply Sp.RNeedN.ok <;> walk_at "sc")
  | (apply Sp.RNeedN.no <;> walk_at "sc")
  | (apply Sp.RNeedN.one <;> walk_at "sc")
  | (apply Sp.RNeedN.oth <;> walk_at "sc")
  | (apply Sp.RBetween.ok <;> walk_at "sc")
  | (apply Sp.RBetween.no <;> walk_at "sc")
  | (apply Sp.RBetween.one <;> walk_at "sc")
  | (apply Sp.RBetween.oth <;> walk_at "sc")
  | (apply Sp.RSummed.ok <;> walk_at "sc")
  | (apply Sp.RSummed.z <;> walk_at "sc")
  | (apply Sp.RBinS.ok <;> walk_at "sc")
  | (apply Sp.RBinS.z <;> walk_at "sc")
  | (apply Sp.RBinS.n <;> walk_at "sc")
  | (apply Sp.RMulS.ok <;> walk_at "sc")
  | (apply Sp.RMulS.z <;> walk_at "sc")
  | (apply Sp.RMulS.n <;> walk_at "sc")
  | (apply Sp.RNegS.mk <;> walk_at "sc")
  | (apply Sp.REqS.s <;> walk_at "sc")
  | (apply Sp.REqS.n <;> walk_at "sc")
  | (apply Sp.RIsUp.mk <;> walk_at "sc")
  | (apply Sp.RUpw.mk <;> walk_at "sc")
  | (apply Sp.ROneR.mk <;> walk_at "sc")
  | (apply Sp.RCorner.ok <;> walk_at "sc")
  | (apply Sp.RCorner.z <;> walk_at "sc")
  | fail)
local macro_rules | `(tactic| walk_at "nf") => `(tactic| first | exact nf_Ratio _ (by decide) | exact nf_Step _ (by decide) | fail)
namespace Sp
open PySem PySem.Spec PyProof.Rows L2
open PySem.W (Frag)
section
variable {P : Program} {w : World} {K : PySem.W.Frag} {mg : Str → Option Value} {base : Heap} {f : Addr} {fd : FuncData}
variable (h_gcd : mg "gcd" = some (.builtin "math.gcd")) {tk1 tk2 : Tok} (h_most : mg "MOST_DIGITS" = some (.int 60 tk1)) (h_digits : mg "DIGITS" = some (.str "0123456789" tk2)) (h_all : mg "all" = none)
variable (g_xBadRatio : GXN P w K mg base 1 "BadRatio" ["part"] (cX K "BadRatio"))
  (g_xBadStep : GXN P w K mg base 1 "BadStep" ["part"] (cX K "BadStep"))
  (g_xBadNumber : GXN P w K mg base 1 "BadNumber" ["part"] (cX K "BadNumber"))
  (g_xRound : GXN P w K mg base 1 "Round" ["part"] (cX K "Round"))
  (g_xNotNeighbours : GXN P w K mg base 1 "NotNeighbours" ["one", "other"] (cX K "NotNeighbours"))
  (g_xCommon : GXN P w K mg base 1 "Common" ["divisor"] (cX K "Common"))
  (g_xBadText : GXN P w K mg base 1 "BadText" ["line", "word"] (cX K "BadText"))
  (g_is_integer : GD P w K mg base (L2.CX P w) 1 "is_integer" ["value"] [] (spR K csL tsL 3900 RIsInt))
  (g_is_ratio : GD P w K mg base (L2.CX P w) 2 "is_ratio" ["value"] [] (spR K csL tsL 3900 RIsRat))
  (g_sign_of : GD P w K mg base (L2.CX P w) 1 "sign_of" ["number"] [] (spR K csL tsL 100000 RSign))
  (g_mRatio : GM P w K mg base (L2.CX P w) 3 "Ratio" (ca K .Ratio) ["self", "top", "bottom"] [] (spRI K csL tsL .Ratio 3900 RInitR)) (g_mRatio1 : GM P w K mg base (L2.CX P w) 3 "Ratio" (ca K .Ratio) ["self", "top", "bottom"] [.int 1] (spRI K csL tsL .Ratio 3900 RInitR))
  (g_Ratio_of : GS P w K mg base (L2.CX P w) 5 (ca K .Ratio) "of" (spR K csL tsL 3900 (ROf "BadRatio" "value")))
  (g_at_right : GD P w K mg base (L2.CX P w) 6 "at_right" ["value"] [] (spR K csL tsL 3900 (ROf "BadRatio" "other")))
  (g_Ratio_Add : GO P w K mg base (L2.CX P w) 7 (ca K .Ratio) .Add (spR K csL tsL 1900 (RBinR (· + ·))))
  (g_Ratio_Sub : GO P w K mg base (L2.CX P w) 7 (ca K .Ratio) .Sub (spR K csL tsL 1900 (RBinR (· - ·))))
  (g_Ratio_Mult : GO P w K mg base (L2.CX P w) 7 (ca K .Ratio) .Mult (spR K csL tsL 1900 (RBinR (· * ·))))
  (g_Ratio_over : GH P w K mg base (L2.CX P w) 7 (ca K .Ratio) "over" ["self", "other"] (spR K csL tsL 1900 ROver))
  (g_Ratio_USub : GN P w K mg base (L2.CX P w) 5 (ca K .Ratio) "__neg__" (spR K csL tsL 3900 (RUnR (fun q => -q))))
  (g_Ratio_abs : GN P w K mg base (L2.CX P w) 5 (ca K .Ratio) "__abs__" (spR K csL tsL 3900 (RUnR qabs)))
  (g_Ratio_eq : GN P w K mg base (L2.CX P w) 2 (ca K .Ratio) "__eq__" (spR K csL tsL 3900 REqR)) (g_Ratio_eq_ne : GNe P w K mg base (L2.CX P w) 2 (ca K .Ratio) (spR K csL tsL 3900 REqR)) (nf_Ratio : ∀ t ∈ tsL, PySem.W.notFirst K (ca K .Ratio) (tv K t) = true)
  (g_Ratio_sign : GP P w K mg base (L2.CX P w) 2 (ca K .Ratio) "sign" (spR K csL tsL 3900 (RPropR fun q => .int q.num.sign)))
  (g_Ratio_below : GP P w K mg base (L2.CX P w) 1 (ca K .Ratio) "below" (spR K csL tsL 3900 (RPropR fun q => .int q.floor)))
  (g_mStep : GM P w K mg base (L2.CX P w) 3 "Step" (ca K .Step) ["self", "studs", "rounds"] [] (spRI K csL tsL .Step 3900 RInitS))
  (g_need_step : GD P w K mg base (L2.CX P w) 3 "need_step" ["value", "part"] [] (spR K csL tsL 100000 (RNeed .Step "BadStep")))
  (g_need_studs : GD P w K mg base (L2.CX P w) 3 "need_studs" ["step", "part"] [] (spR K csL tsL 100000 RNeedK))
  (g_is_upward : GD P w K mg base (L2.CX P w) 1 "is_upward" ["step"] [] (spR K csL tsL 3900 RIsUp))
  (g_summed : GD P w K mg base (L2.CX P w) 5 "summed" ["studs", "rounds"] [] (spR K csL tsL 3900 RSummed))
  (g_Step_Add : GO P w K mg base (L2.CX P w) 6 (ca K .Step) .Add (spR K csL tsL 1900 (RBinS (· + ·))))
  (g_Step_Sub : GO P w K mg base (L2.CX P w) 6 (ca K .Step) .Sub (spR K csL tsL 1900 (RBinS (· - ·))))
  (g_Step_USub : GN P w K mg base (L2.CX P w) 5 (ca K .Step) "__neg__" (spR K csL tsL 3900 RNegS))
  (g_Step_Mult : GO P w K mg base (L2.CX P w) 5 (ca K .Step) .Mult (spR K csL tsL 1900 RMulS))
  (g_Step_eq : GN P w K mg base (L2.CX P w) 1 (ca K .Step) "__eq__" (spR K csL tsL 3900 REqS)) (g_Step_eq_ne : GNe P w K mg base (L2.CX P w) 1 (ca K .Step) (spR K csL tsL 3900 REqS)) (nf_Step : ∀ t ∈ tsL, PySem.W.notFirst K (ca K .Step) (tv K t) = true)
  (g_Step_upward : GP P w K mg base (L2.CX P w) 5 (ca K .Step) "upward" (spR K csL tsL 3900 RUpw))
  (g_Step_corner : GP P w K mg base (L2.CX P w) 5 (ca K .Step) "corner" (spR K csL tsL 3900 RCorner))
  (g_Step_one_round : GS0 P w K mg base (L2.CX P w) 5 (ca K .Step) "one_round" (spR K csL tsL 3900 ROneR))
  (g_cross : GD P w K mg base (L2.CX P w) 4 "cross" ["one", "other"] [] (spR K csL tsL 1900 RCross))
  (g_are_neighbours : GD P w K mg base (L2.CX P w) 5 "are_neighbours" ["one", "other"] [] (spR K csL tsL 1900 RAreN))
  (g_need_neighbours : GD P w K mg base (L2.CX P w) 6 "need_neighbours" ["one", "other"] [] (spR K csL tsL 1900 RNeedN))
  (g_between : GD P w K mg base (L2.CX P w) 7 "between" ["one", "other"] [] (spR K csL tsL 1900 RBetween))
  (g_integer_of : GD P w K mg base (L2.CX P w) 1 "integer_of" ["word"] [] (spR K csL tsL 100000 RIntOf))
  (g_mWords : GM P w K mg base (L2.CX P w) 1 "Words" (ca K .Words) ["self", "words", "done", "last"] [] (spInitW K))
  (g_Words_is_over : GH P w K mg base (L2.CX P w) 1 (ca K .Words) "is_over" ["self"] (spWp K RIsOver))
  (g_Words_take : GH P w K mg base (L2.CX P w) 3 (ca K .Words) "take" ["self"] (spW K RTake))
  (g_Words_refuse : GH P w K mg base (L2.CX P w) 3 (ca K .Words) "refuse" ["self"] (spW K RRefuse))
  (g_Words_integer : GH P w K mg base (L2.CX P w) 4 (ca K .Words) "integer" ["self"] (spW K RInteg))
  (g_Words_end : GH P w K mg base (L2.CX P w) 3 (ca K .Words) "end" ["self"] (spWp K REndW))
  (g_words_in : GD P w K mg base (L2.CX P w) 3 "words_in" ["text"] [] (spWords K csL tsL))
  (g_take_step : GD P w K mg base (L2.CX P w) 5 "take_step" ["words"] [] (spW K RTakeS))
  (g_read_whole : GD P w K mg base (L2.CX P w) 6 "read_whole" ["text", "take"] [] (spReadW K csL tsL (He.ga K "take_step") RTakeS))
  (g_Step_read : GC P w K mg base (L2.CX P w) 7 (ca K .Step) "read" (spReadC K csL tsL RTakeS))
  (g_Step_str : GN P w K mg base (L2.CX P w) 1 (ca K .Step) "__str__" (spR K csL tsL 3900 RStrS))
  (g_inverse : GD P w K mg base (L2.CX P w) 1 "inverse" ["number", "modulus"] [] (spInv K))
  (g_mate : GD P w K mg base (L2.CX P w) 5 "mate" ["step"] [] (spMate K csL tsL))
variable (g_take_step_l : GL P w K mg base (L2.CX P w) 5 "take_step" (spW K RTakeS))

theorem sc_inverse : FnScope ["number", "modulus", "left", "right", "share", "following", "times"] ["number", "modulus"] (defScope (topS 40)) := ⟨rfl, rfl, rfl, by decide +kernel, rfl, by decide +kernel, by decide +kernel⟩
theorem ok_inverse (G : G0 K mg csL tsL) (F : FP K "inverse" "inverse" (topS 40) [] f fd) : FnOk P w K mg base (L2.CX P w) 1 f fd ["number", "modulus"] (spInv K) := by
  have nd := sc_inverse.nd
  refine F.ok sc_inverse (fun vs H Q E h => by obtain ⟨_, _, rfl, _⟩ := invI h; rfl) (fun cdv A outer s H vs Q E hr h => ⟨_, pss_cons (ps_par (i := 2) (j := 3) rfl nd rfl rfl (by decide) rfl rfl (pa_cons (pv 1) (pa_cons (pe_op op_mod (pv 0) (pv 1)) pa_nil)) rfl) (pss_cons (ps_asg (pe_tupD (pa_cons (pe_int) (pa_cons (pe_int) (pa_nil)))) (pg_tup rfl (pgs_cons (pg_name (i := 4) nd rfl (Or.inl rfl)) (pgs_cons (pg_name (i := 5) nd rfl (Or.inl rfl)) (pgs_nil))))) (pss_cons (ps_while (passes_of rfl) (pt_cmpR op_ne (pv 3) (pe_int) (nomark _)) (pss_cons (ps_set (i := 6) nd rfl (Or.inl rfl) (pe_op op_fdivB (pv 2) (pv 3))) (pss_cons (ps_par (i := 2) (j := 3) rfl nd rfl rfl (by decide) rfl rfl (pa_cons (pv 3) (pa_cons (pe_op op_sub (pv 2) (pe_op op_mulB (pv 6) (pv 3))) pa_nil)) rfl) (pss_one (ps_par (i := 4) (j := 5) rfl nd rfl rfl (by decide) rfl rfl (pa_cons (pv 5) (pa_cons (pe_op op_sub (pv 4) (pe_op op_mulB (pv 6) (pv 5))) pa_nil)) rfl))))) (pss_one (ps_ret (pe_op op_mod (pv 4) (pv 1)))))), ?_⟩)
  obtain ⟨n, m, rfl, hm, zm, hg, k⟩ := invI h
  have m0 : m ≠ 0 := by omega
  have hE := Env.of (K := K) H
  walk_at "rd"
  rename_i p H1 e1
  have s1 := e1.gr
  refine while_by (fun σ Hh => ∃ l r s f x, σ = [some (.int n), some (.int m), some (.int l), some (.int r), some (.int s), some (.int f), x] ∧ Hh = H1 ∧ Ek n m l r s f)
    (fun σ _ => match σ with | [_, _, _, some (.int r), _, _, _] => r.natAbs | _ => 0) ⟨_, _, _, _, _, rfl, rfl, (Int.fmod_eq_emod_of_nonneg n (show 0 ≤ m by omega) ▸ Ek.start hm hg)⟩ (fun σ Hh hP => ?_) mono_ne
  obtain ⟨l, r, s, f, x, rfl, rfl, ek⟩ := hP
  walk_at "rd"
  refine iteP (fun h1 => ?_) (fun h1 => ?_)
  · have hr : r ≠ 0 := by simpa using h1
    obtain ⟨z1, z2⟩ := ek.bounds hr
    have lm := ek.lm
    have rm := ek.rm
    have r0 := ek.r0
    have l0 := ek.l0
    have d1 : CDivB l r := ⟨hr, nb_le (show r.natAbs < 2 ^ 1900 by omega)⟩
    have c1 : CMulB (l.fdiv r) r := ⟨nb_le (show (l.fdiv r).natAbs < 2 ^ 1900 by omega), nb_le (show r.natAbs < 2 ^ 1900 by omega)⟩
    have c2 : CMulB (l.fdiv r) f := ⟨nb_le (show (l.fdiv r).natAbs < 2 ^ 1900 by omega), nb_le (show f.natAbs < 2 ^ 1900 by omega)⟩
    have st := ek.step hr
    walk_at "rd"
    have e : l - l.fdiv r * r = l.fmod r := by
      have := Int.mul_fdiv_add_fmod l r
      grind
    have := Int.fmod_lt_of_pos l (show 0 < r by omega)
    have := Int.fmod_nonneg_of_pos l (show 0 < r by omega)
    refine ⟨⟨_, _, _, _, _, rfl, rfl, st⟩, ?_⟩
    show (l - l.fdiv r * r).natAbs < r.natAbs
    omega
  · have hr : r = 0 := by simpa using h1
    subst hr
    obtain ⟨a, b, c⟩ := ek.done hm
    rw [Int.fmod_eq_emod_of_nonneg _ (show 0 ≤ m by omega)] at a b c
    walk_at "rd"
    exact k _ _ s1 a b c
theorem sc_mate : FnScope ["step", "many", "studs"] ["step"] (defScope (topS 39)) := ⟨rfl, rfl, rfl, by decide +kernel, rfl, by decide +kernel, by decide +kernel⟩
include g_inverse g_mStep g_need_step g_xCommon in
theorem ok_mate (G : G0 K mg csL tsL) (F : FP K "mate" "mate" (topS 39) [] f fd) : FnOk P w K mg base (L2.CX P w) 5 f fd ["step"] (spMate K csL tsL) := by
  have nd := sc_mate.nd
  refine F.ok sc_mate (fun vs H Q E h => by obtain ⟨_, _, rfl, _⟩ := mateI h; rfl) (fun cdv A outer s H vs Q E hr h => ⟨_, pss_cons (ps_expr (pe_gd g_need_step (hr.mono (by decide)) rfl (pxE rfl rfl rfl rfl) (pa_cons (pv 0) (pa_cons (pe_str) (pa_nil))))) (pss_cons (ps_if (pt_cmpR op_gt (pe_fldD (pv 0) rfl) (pe_int) (nomark _)) (pss_one (ps_raise rfl (takes_of rfl rfl rfl rfl) (pmkD g_xCommon (hr.mono (by decide)) rfl (pa_cons (pe_fldD (pv 0) rfl) (pa_nil))))) (pss_nil)) (pss_cons (ps_if (pt_val (pe_fldD (pv 0) rfl)) (pss_one (ps_ret (pe_makeD g_mStep (hr.mono (by decide)) rfl (pxE rfl rfl rfl rfl) (pa_cons (pe_fldD (pv 0) rfl) (pa_cons (pe_int) (pa_nil)))))) (pss_nil)) (pss_cons (ps_set (i := 1) nd rfl (Or.inl rfl) (pe_callB call_abs rfl G.nm.abs (by decide +kernel) (pa_cons (pe_fldD (pv 0) rfl) (pa_nil)))) (pss_cons (ps_set (i := 2) nd rfl (Or.inl rfl) (pe_gd g_inverse (hr.mono (by decide)) rfl (pxE rfl rfl rfl rfl) (pa_cons (pe_fldD (pv 0) rfl) (pa_cons (pv 1) (pa_nil))))) (pss_cons (ps_if (pt_cmpR op_gt (pe_op op_mulB (pe_int) (pv 2)) (pv 1) (nomark _)) (pss_one (ps_aug (i := 2) nd rfl (Or.inl rfl) (pv 1) ip_sub)) (pss_nil)) (pss_one (ps_ret (pe_makeD g_mStep (hr.mono (by decide)) rfl (pxE rfl rfl rfl rfl) (pa_cons (pv 2) (pa_cons (pe_op op_fdivB (pe_op op_sub (pe_op op_mulB (pv 2) (pe_fldD (pv 0) rfl)) (pe_int)) (pe_fldD (pv 0) rfl)) (pa_nil))))))))))), ?_⟩)
  obtain ⟨v, d, rfl, iv, ot, h⟩ := mateI h
  have hE := (Env.of (K := K) H).add iv
  rcases h with ⟨k, j, rfl, nz, b1, b2, hc, hm⟩ | ⟨hn, hz, q⟩
  · have B1 : Bi k 900 := ⟨b1⟩
    have B2 : Bi j 900 := ⟨b2⟩
    walk_at "rd"
    refine iteP (fun h1 => ?_) (fun h1 => ?_)
    · have q := hc (by have := of_decide_eq_true h1; omega)
      walk_at "rd"
    · have g1 : Nat.gcd k.natAbs j.natAbs = 1 := by
        have h1 : ¬ (1 : Int) < ((Nat.gcd k.natAbs j.natAbs : Nat) : Int) := fun z => h1 (decide_eq_true z)
        have : Nat.gcd k.natAbs j.natAbs ≠ 0 := fun z => by
          have := Nat.gcd_eq_zero_iff.mp z
          omega
        omega
      walk_at "rd"
      refine iteP (fun h2 => ?_) (fun h2 => ?_)
      · have h2 : k = 0 := of_decide_eq_true h2
        subst h2
        have gj : j.natAbs = 1 := by simpa using g1
        have jz : ¬ (j = 0 ∧ (0 : Int) = 0) := by omega
        have q := hm g1 j 0 ⟨by have : j = 1 ∨ j = -1 := by omega
                                rcases this with rfl | rfl <;> decide, fun _ => rfl, fun z => absurd rfl z, fun z => absurd rfl z⟩
        walk_at "rd"
      · have h2 : k ≠ 0 := fun z => h2 (decide_eq_true z)
        have ek : (if k < 0 then -k else k) = ((k.natAbs : Nat) : Int) := by split <;> omega
        walk_at "rd"
        rw [ek]
        refine invO (by omega) (nb_le (n := 1900) (show (((k.natAbs : Nat) : Int)).natAbs < 2 ^ 900 by omega)) ?_ fun s H2 sm s0 s1 hs => ?_
        · show Nat.gcd j.natAbs (((k.natAbs : Nat) : Int)).natAbs = 1
          rw [Nat.gcd_comm]
          simpa using g1
        obtain ⟨kk, hs⟩ := hs
        have ms : ∀ x : Int, x = (if 2 * s > ((k.natAbs : Nat) : Int) then s - ((k.natAbs : Nat) : Int) else s) → Mt k j x ((x * j - 1).fdiv k) := fun x hx => mt_of h2 s0 s1 hs hx
        have Bs : Bi s 901 := ⟨nb_le (show s.natAbs < 2 ^ 900 by omega)⟩
        have hE2 : Env K .fn H H2 [(v, .step k j)] := Env.step (by assumption) sm
        have Bk : Bi ((k.natAbs : Nat) : Int) 900 := ⟨by omega⟩
        walk_at "rd"
        have nzM : ∀ x y : Int, Mt k j x y → ¬ (x = 0 ∧ y = 0) := fun x y m ⟨a, b⟩ => by
          have := m.cr
          rw [a, b] at this
          simp at this
        refine iteP (fun h3 => ?_) (fun h3 => ?_)
        · have h3 : ((k.natAbs : Nat) : Int) < 2 * s := of_decide_eq_true h3
          have m1 := ms (s - ((k.natAbs : Nat) : Int)) (by rw [if_pos h3])
          have n1 := nzM _ _ m1
          have q := hm g1 _ _ m1
          have Bx : Bi (((s - ((k.natAbs : Nat) : Int)) * j - 1).fdiv k) 2000 := ⟨by
            have e : (((s - ((k.natAbs : Nat) : Int)) * j - 1).fdiv k).natAbs ≤ ((s - ((k.natAbs : Nat) : Int)) * j - 1).natAbs := Int.natAbs_fdiv_le_natAbs _ _
            exact Nat.lt_of_le_of_lt e (biL (m := 2000) _)⟩
          walk_at "rd"
        · have h3 : ¬ ((k.natAbs : Nat) : Int) < 2 * s := fun z => h3 (decide_eq_true z)
          have m1 := ms s (by rw [if_neg h3])
          have n1 := nzM _ _ m1
          have q := hm g1 _ _ m1
          have Bx : Bi ((s * j - 1).fdiv k) 2000 := ⟨by
            have e : ((s * j - 1).fdiv k).natAbs ≤ (s * j - 1).natAbs := Int.natAbs_fdiv_le_natAbs _ _
            exact Nat.lt_of_le_of_lt e (biL (m := 2000) _)⟩
          walk_at "rd"
  · walk_at "rd"
end
end Sp
end
section
set_option Elab.async false
set_option linter.all false
set_option exponentiation.threshold 5000
set_option maxRecDepth 100000
set_option maxHeartbeats 0
local macro_rules | `(tactic| walk_at "mem") => `(tactic| first | exact List.mem_cons_self | (refine List.mem_cons_of_mem _ ?_; walk_at "mem"))
local macro_rules | `(tactic| walk_at "isv") => `(tactic| first | exact Sp.IsV.int _ | exact Sp.IsV.str _ | exact Sp.IsV.bl _ | exact Sp.IsV.non | exact Sp.Env.get (by assumption) (by walk_at "mem") | assumption)
local macro_rules | `(tactic| walk_at "isvs") => `(tactic| first | exact Sp.IsVs.nil | (refine' Sp.IsVs.cons ?iv ?rs; (case iv => walk_at "isv"); (case rs => walk_at "isvs")))
local macro_rules | `(tactic| walk_at "isfs") => `(tactic| first | exact Sp.IsFs.nil | (refine' Sp.IsFs.cons ?iv ?rs; (case iv => walk_at "isv"); (case rs => walk_at "isfs")))
local macro_rules | `(tactic| walk_at "sz1") => `(tactic| first | exact trivial | exact Sp.biI _ | exact Sp.bqI _ | exact ⟨Sp.biI _, Sp.biI _⟩ | exact ⟨Sp.bqI _, Sp.bqI _⟩ | exact ⟨⟨Sp.biI _, Sp.biI _⟩, Sp.biI _, Sp.biI _⟩ | exact ⟨Sp.bqI _, Sp.bqI _, Sp.bqI _⟩ | assumption | exact Sp.SzD.mono (by assumption) (by decide))
local macro_rules | `(tactic| walk_at "okt") => `(tactic| first | rfl | assumption | decide)
local macro_rules | `(tactic| walk_at "dsok") => `(tactic| first | exact trivial | (refine And.intro (And.intro ?oa ?ob) ?rs; (case oa => walk_at "okt"); (case ob => walk_at "sz1"); (case rs => walk_at "dsok")))
local macro_rules | `(tactic| walk_at "sc") => `(tactic| first | rfl | assumption | decide | omega)
local macro_rules | `(tactic| walk_at "leaf") => `(tactic| first | rfl | assumption | exact True.intro | exact ⟨_, rfl⟩ | exact L2.upd_same | exact L2.ClsV.ty _ | exact L2.ClsV.own _ | decide | exact of_decide_eq_true rfl | exact Sp.cmI _ _ | exact Sp.cdI _ (by first | assumption | omega) | exact Sp.cmL (by decide) | exact Sp.cmR (by decide) | exact ⟨by decide, by decide, by decide⟩ | exact ⟨by decide, by decide⟩ | omega | fail)
local macro_rules | `(tactic| walk_at "cls") => `(tactic| first | exact Sp.ClsD.int | exact Sp.ClsD.bool | exact Sp.ClsD.str | exact Sp.ClsD.own _ | exact Sp.ClsD.tuple | exact Sp.ClsD.list)
local macro_rules | `(tactic| walk_at "args") => `(tactic| repeat (first
  | refine' Sp.aaInt ?_ | refine' Sp.aaBl ?_ | refine' Sp.aaStr ?_ | refine' Sp.aaNon ?_ | (refine' Sp.aaOwn (by assumption) (by rfl) ?_; intro _ _) | (refine' Sp.aaTup (by assumption) ?_; intro _ _) | (refine' Sp.aaAny (by assumption) ?_; intro _ _) | refine' Sp.aaNil ?_))
local macro_rules | `(tactic| walk_at "rd1") => `(tactic| first
  | apply Sp.exI
  | (refine And.intro ?lf ?_; (case lf => walk_at "leaf"))
  | (show @ite Prop (_ = true) _ _ _; first | refine' Sp.iteT (by first | assumption | rfl | exact Sp.nbT (by assumption) | exact Sp.nbF (by assumption)) ?_ | refine' Sp.iteF (by first | assumption | rfl | exact Sp.nbT (by assumption) | exact Sp.nbF (by assumption)) ?_)
  | (refine' Sp.afInt (by assumption) ?_; intro _ _) | (refine' Sp.afBl (by assumption) ?_; intro _ _) | (refine' Sp.afStr (by assumption) ?_; intro _ _) | (refine' Sp.afNon (by assumption) ?_; intro _ _)
  | (refine' Sp.afOwn (by assumption) (by rfl) ?_; intro _ _ _) | (refine' Sp.afTup (by assumption) ?_; intro _ _ _) | (refine' Sp.afRef (by assumption) ?_; intro _ _ _)
  | refine' Sp.asInt ?_ | refine' Sp.asBl ?_ | refine' Sp.asStr ?_ | refine' Sp.asNon ?_
  | (refine' Sp.asOwn (by assumption) (by rfl) ?_; intro _ _) | (refine' Sp.asTup (by assumption) ?_; intro _ _) | (refine' Sp.asRef (by assumption) ?_; intro _ _)
  | refine' Sp.aaInt ?_ | refine' Sp.aaBl ?_ | refine' Sp.aaStr ?_ | refine' Sp.aaNon ?_ | (refine' Sp.aaOwn (by assumption) (by rfl) ?_; intro _ _) | (refine' Sp.aaTup (by assumption) ?_; intro _ _) | (refine' Sp.aaAny (by assumption) ?_; intro _ _) | refine' Sp.aaNil ?_
  | (refine' Sp.fnR ?i ?z ?r ?_; (case i => walk_at "isvs"); (case z => walk_at "dsok"); (case r => walk_at "rel"))
  | (refine' Sp.makeOk ?i ?z ?r ?o ?_; (case i => walk_at "isvs"); (case z => walk_at "dsok"); (case r => walk_at "rel"); (case o => rfl))
  | (refine' Sp.makeEr ?i ?z ?r ?_; (case i => walk_at "isvs"); (case z => walk_at "dsok"); (case r => walk_at "rel"))
  | (refine' Sp.isiD (by assumption) ?i ?c ?o ?t ?_; (case i => walk_at "isv"); (case c => walk_at "cls"); (case o => walk_at "okt"); (case t => decide))
  | (refine' Sp.fldD (by assumption) ?i ?o ?l ?c ?_; (case i => walk_at "isv"); (case o => rfl); (case l => rfl); (case c => decide))
  | (refine' Sp.fldRaw (by assumption) (by assumption) (by rfl) (by decide) (by decide) ?_)
  | (refine' Sp.methRaw (by assumption) (by rfl) ?_)
  | (refine' Sp.setRaw (by assumption) (by assumption) (by rfl) (by decide) (by decide) ?_)
  | (refine' Sp.strD ?i ?o ?_; (case i => walk_at "isv"); (case o => rfl))
  | (refine' Sp.methD ?i ?o ?l ?_; (case i => walk_at "isv"); (case o => rfl); (case l => rfl))
  | (refine' Sp.propD ?i ?o ?_; (case i => walk_at "isv"); (case o => rfl))
  | (refine' Sp.binD ?i ?o ?j ?e ?_; (case i => walk_at "isv"); (case o => rfl); (case j => walk_at "isv"); (case e => rfl))
  | (refine' Sp.unD ?i ?o ?_; (case i => walk_at "isv"); (case o => rfl))
  | (refine' Sp.absD ?i ?o ?_; (case i => walk_at "isv"); (case o => rfl))
  | (refine' Sp.eqOwnD (by assumption) ?i ?o ?j ?e ?n ?_; (case i => walk_at "isv"); (case o => rfl); (case j => walk_at "isv"); (case e => walk_at "okt"); (case n => walk_at "nf"))
  | (refine' Sp.neOwnD (by assumption) ?i ?o ?j ?e ?n ?_; (case i => walk_at "isv"); (case o => rfl); (case j => walk_at "isv"); (case e => walk_at "okt"); (case n => walk_at "nf"))
  | (refine' Sp.tupD (by assumption) ?i ?l ?_; (case i => walk_at "isvs"); (case l => rfl); intro _ _ _)
  | (refine' Sp.lstD (by assumption) ?i ?l ?_; (case i => walk_at "isvs"); (case l => rfl); intro _ _ _)
  | (refine' Sp.raiseD (by assumption) ?i ?e ?l ?_; (case i => walk_at "isvs"); (case e => rfl); (case l => rfl))
  | (refine' Sp.setD (by assumption) (by assumption) rfl rfl rfl (by decide) (by decide) ?_; intro _ _)
  | (refine' Sp.ixTD ?i ?e ?g ?_; (case i => walk_at "isv"); (case e => rfl); (case g => rfl))
  | (refine' Sp.ixLD ?i ?e ?g ?_; (case i => walk_at "isv"); (case e => rfl); (case g => rfl))
  | (refine' Sp.gTupD ?i ?e ?_; (case i => walk_at "isv"); (case e => rfl))
  | (refine' Sp.finD' (by assumption) (by assumption) ?i; (case i => walk_at "isv"))
  | refine' Sp.finE' (by assumption) (by assumption)
  | refine' Sp.finIE (by assumption) (by assumption) (by assumption)
  | (refine' Sp.dipD (by assumption) (by omega) ?m0 ?m1 ?n ?_; (case m0 => first | decide | omega); (case m1 => first | decide | omega); (case n => rfl); intro _ _ _ _ _)
  | (refine' Sp.lawL (by assumption) ?i ?z ?r ?_; (case i => walk_at "isvs"); (case z => walk_at "dsok"); (case r => walk_at "rel"); intro _ _ _)
  | (refine' Sp.lawP (by assumption) ?i ?z ?nd ?pr (by omega) ?nl ?_; (case i => walk_at "isvs"); (case z => walk_at "dsok"); (case nd => rfl); (case pr => walk_at "pre"); (case nl => rfl))
  | (refine' Sp.dctD (by assumption) ?_; intro _ _ _)
  | (refine' Sp.eqDD ?i ?j ?e ?f ?s ?t ?_; (case i => walk_at "isv"); (case j => walk_at "isv"); (case e => rfl); (case f => rfl); (case s => rfl); (case t => rfl))
  | (refine' Sp.neDD ?i ?j ?e ?f ?s ?t ?_; (case i => walk_at "isv"); (case j => walk_at "isv"); (case e => rfl); (case f => rfl); (case s => rfl); (case t => rfl))
  | (refine' Sp.lamD (by assumption) ?_; intro _ _ _ _)
  | (refine' Sp.hokD (by assumption) ?i ?_; (case i => walk_at "isv"); intro _ _ _)
  | (refine' Sp.herP1 (by assumption) ?m ?l ?_; (case m => walk_at "mem"); (case l => rfl); intro _ _ _)
  | (refine' Sp.herP2 (by assumption) ?m ?l ?l2 ?_; (case m => walk_at "mem"); (case l => rfl); (case l2 => rfl); intro _ _ _)
  | (refine' Sp.finL (by assumption) (by assumption) ?i; (case i => walk_at "isv"))
  | fail)
local macro_rules | `(tactic| walk_at "rd1N") => `(tactic| first
  | apply Sp.exI
  | (refine And.intro ?lf ?_; (case lf => walk_at "leaf"))
  | (show @ite Prop (_ = true) _ _ _; first | refine' Sp.iteT (by first | assumption | rfl | exact Sp.nbT (by assumption) | exact Sp.nbF (by assumption)) ?_ | refine' Sp.iteF (by first | assumption | rfl | exact Sp.nbT (by assumption) | exact Sp.nbF (by assumption)) ?_)
  | (refine' Sp.afInt (by assumption) ?_; intro _ _) | (refine' Sp.afBl (by assumption) ?_; intro _ _) | (refine' Sp.afStr (by assumption) ?_; intro _ _) | (refine' Sp.afNon (by assumption) ?_; intro _ _)
  | (refine' Sp.afOwn (by assumption) (by rfl) ?_; intro _ _ _) | (refine' Sp.afTup (by assumption) ?_; intro _ _ _) | (refine' Sp.afRef (by assumption) ?_; intro _ _ _)
  | refine' Sp.asInt ?_ | refine' Sp.asBl ?_ | refine' Sp.asStr ?_ | refine' Sp.asNon ?_
  | (refine' Sp.asOwn (by assumption) (by rfl) ?_; intro _ _) | (refine' Sp.asTup (by assumption) ?_; intro _ _) | (refine' Sp.asRef (by assumption) ?_; intro _ _)
  | refine' Sp.aaInt ?_ | refine' Sp.aaBl ?_ | refine' Sp.aaStr ?_ | refine' Sp.aaNon ?_ | (refine' Sp.aaOwn (by assumption) (by rfl) ?_; intro _ _) | (refine' Sp.aaTup (by assumption) ?_; intro _ _) | (refine' Sp.aaAny (by assumption) ?_; intro _ _) | refine' Sp.aaNil ?_
  | (refine' Sp.fnR ?i ?z ?r ?_; (case i => walk_at "isvs"); (case z => walk_at "dsok"); (case r => walk_at "rel"))
  | (refine' Sp.makeOk ?i ?z ?r ?o ?_; (case i => walk_at "isvs"); (case z => walk_at "dsok"); (case r => walk_at "rel"); (case o => rfl))
  | (refine' Sp.makeEr ?i ?z ?r ?_; (case i => walk_at "isvs"); (case z => walk_at "dsok"); (case r => walk_at "rel"))
  | (refine' Sp.isiD (by assumption) ?i ?c ?o ?t ?_; (case i => walk_at "isv"); (case c => walk_at "cls"); (case o => walk_at "okt"); (case t => decide))
  | (refine' Sp.fldD (by assumption) ?i ?o ?l ?c ?_; (case i => walk_at "isv"); (case o => rfl); (case l => rfl); (case c => decide))
  | (refine' Sp.fldRaw (by assumption) (by assumption) (by rfl) (by decide) (by decide) ?_)
  | (refine' Sp.methRaw (by assumption) (by rfl) ?_)
  | (refine' Sp.setRaw (by assumption) (by assumption) (by rfl) (by decide) (by decide) ?_)
  | (refine' Sp.strD ?i ?o ?_; (case i => walk_at "isv"); (case o => rfl))
  | (refine' Sp.methD ?i ?o ?l ?_; (case i => walk_at "isv"); (case o => rfl); (case l => rfl))
  | (refine' Sp.propD ?i ?o ?_; (case i => walk_at "isv"); (case o => rfl))
  | (refine' Sp.binD ?i ?o ?j ?e ?_; (case i => walk_at "isv"); (case o => rfl); (case j => walk_at "isv"); (case e => rfl))
  | (refine' Sp.unD ?i ?o ?_; (case i => walk_at "isv"); (case o => rfl))
  | (refine' Sp.absD ?i ?o ?_; (case i => walk_at "isv"); (case o => rfl))
  | (refine' Sp.eqOwnD (by assumption) ?i ?o ?j ?e ?n ?_; (case i => walk_at "isv"); (case o => rfl); (case j => walk_at "isv"); (case e => walk_at "okt"); (case n => walk_at "nf"))
  | (refine' Sp.neOwnD (by assumption) ?i ?o ?j ?e ?n ?_; (case i => walk_at "isv"); (case o => rfl); (case j => walk_at "isv"); (case e => walk_at "okt"); (case n => walk_at "nf"))
  | (refine' Sp.raiseD (by assumption) ?i ?e ?l ?_; (case i => walk_at "isvs"); (case e => rfl); (case l => rfl))
  | (refine' Sp.setD (by assumption) (by assumption) rfl rfl rfl (by decide) (by decide) ?_; intro _ _)
  | (refine' Sp.ixTD ?i ?e ?g ?_; (case i => walk_at "isv"); (case e => rfl); (case g => rfl))
  | (refine' Sp.ixLD ?i ?e ?g ?_; (case i => walk_at "isv"); (case e => rfl); (case g => rfl))
  | (refine' Sp.gTupD ?i ?e ?_; (case i => walk_at "isv"); (case e => rfl))
  | (refine' Sp.finD' (by assumption) (by assumption) ?i; (case i => walk_at "isv"))
  | refine' Sp.finE' (by assumption) (by assumption)
  | refine' Sp.finIE (by assumption) (by assumption) (by assumption)
  | (refine' Sp.dipD (by assumption) (by omega) ?m0 ?m1 ?n ?_; (case m0 => first | decide | omega); (case m1 => first | decide | omega); (case n => rfl); intro _ _ _ _ _)
  | (refine' Sp.lawL (by assumption) ?i ?z ?r ?_; (case i => walk_at "isvs"); (case z => walk_at "dsok"); (case r => walk_at "rel"); intro _ _ _)
  | (refine' Sp.lawP (by assumption) ?i ?z ?nd ?pr (by omega) ?nl ?_; (case i => walk_at "isvs"); (case z => walk_at "dsok"); (case nd => rfl); (case pr => walk_at "pre"); (case nl => rfl))
  | (refine' Sp.dctD (by assumption) ?_; intro _ _ _)
  | (refine' Sp.eqDD ?i ?j ?e ?f ?s ?t ?_; (case i => walk_at "isv"); (case j => walk_at "isv"); (case e => rfl); (case f => rfl); (case s => rfl); (case t => rfl))
  | (refine' Sp.neDD ?i ?j ?e ?f ?s ?t ?_; (case i => walk_at "isv"); (case j => walk_at "isv"); (case e => rfl); (case f => rfl); (case s => rfl); (case t => rfl))
  | (refine' Sp.lamD (by assumption) ?_; intro _ _ _ _)
  | (refine' Sp.hokD (by assumption) ?i ?_; (case i => walk_at "isv"); intro _ _ _)
  | (refine' Sp.herP1 (by assumption) ?m ?l ?_; (case m => walk_at "mem"); (case l => rfl); intro _ _ _)
  | (refine' Sp.herP2 (by assumption) ?m ?l ?l2 ?_; (case m => walk_at "mem"); (case l => rfl); (case l2 => rfl); intro _ _ _)
  | (refine' Sp.finL (by assumption) (by assumption) ?i; (case i => walk_at "isv"))
  | fail)
local macro_rules | `(tactic| walk_at "rdN") => `(tactic| repeat (walk_at "rd1N"))
local macro_rules | `(tactic| walk_at "rd") => `(tactic| repeat (walk_at "rd1"))
local macro_rules | `(tactic| walk_at "zs") => `(tactic| (refine' Sp.zsStart (by assumption) ?_; repeat (first | refine' Sp.zsNil ?_ | (refine' Sp.zsInt ?_; intro _) | (refine' Sp.zsRat ?_; intro _) | (refine' Sp.zsStep ?_; intro _ _) | (refine' Sp.zsStem ?_; intro _ _) | (refine' Sp.zsTable ?_; intro _ _ _ _) | (refine' Sp.zsAny ?_; intro _ _))))
local macro_rules | `(tactic| walk_at "go0") => `(tactic| (walk_at "zs"; (have := Sp.Env.of (K := ‹PySem.W.Frag›) ‹L2.Hp›); walk_at "args"))
local macro_rules | `(tactic| walk_at "go") => `(tactic| (walk_at "go0"; walk_at "rd"))
local macro_rules | `(tactic| walk_at "goI0") => `(tactic| (walk_at "zs"; (have := Sp.Env.ofI (K := ‹PySem.W.Frag›) (H := ‹L2.Hp›) (by assumption)); walk_at "args"))
local macro_rules | `(tactic| walk_at "goI") => `(tactic| (walk_at "goI0"; walk_at "rd"))
local macro_rules | `(tactic| walk_at "goL") => `(tactic| (walk_at "zs"; walk_at "args"; walk_at "rd"))
local macro_rules | `(tactic| walk_at "rel") => `(tactic| first
  | (apply Sp.RIsInt.mk <;> walk_at "sc")
  | (apply Sp.RIsRat.mk <;> walk_at "sc")
  | (apply Sp.RSign.mk <;> walk_at "sc")
  | (apply Sp.RInitR.one <;> walk_at "sc")
  | (apply Sp.RInitR.ok <;> walk_at "sc")
  | (apply Sp.RInitR.z <;> walk_at "sc")
  | (apply Sp.RInitR.t <;> walk_at "sc")
  | (apply Sp.RInitR.b <;> walk_at "sc")
  | (apply Sp.ROf.r <;> walk_at "sc")
  | (apply Sp.ROf.i <;> walk_at "sc")
  | (apply Sp.ROf.n <;> walk_at "sc")
  | (apply Sp.RBinR.r <;> walk_at "sc")
  | (apply Sp.RBinR.i <;> walk_at "sc")
  | (apply Sp.RBinR.n <;> walk_at "sc")
  | (apply Sp.ROver.r <;> walk_at "sc")
  | (apply Sp.ROver.i <;> walk_at "sc")
  | (apply Sp.ROver.z <;> walk_at "sc")
  | (apply Sp.ROver.zi <;> walk_at "sc")
  | (apply Sp.ROver.n <;> walk_at "sc")
  | (apply Sp.RCmp.r <;> walk_at "sc")
  | (apply Sp.RCmp.i <;> walk_at "sc")
  | (apply Sp.RCmp.n <;> walk_at "sc")
  | (apply Sp.RBelow.r <;> walk_at "sc")
  | (apply Sp.RBelow.i <;> walk_at "sc")
  | (apply Sp.RBelow.n <;> walk_at "sc")
  | (apply Sp.RUnR.mk <;> walk_at "sc")
  | (apply Sp.REqR.r <;> walk_at "sc")
  | (apply Sp.REqR.i <;> walk_at "sc")
  | (apply Sp.REqR.n <;> walk_at "sc")
  | (apply Sp.RPropR.mk <;> walk_at "sc")
  | (apply Sp.RInitS.ok <;> walk_at "sc")
  | (apply Sp.RInitS.z <;> walk_at "sc")
  | (apply Sp.RInitS.s <;> walk_at "sc")
  | (apply Sp.RInitS.r <;> walk_at "sc")
  | (apply Sp.RNeed.ok <;> walk_at "sc")
  | (apply Sp.RNeed.no <;> walk_at "sc")
  | (apply Sp.RNeedK.ok <;> walk_at "sc")
  | (apply Sp.RNeedK.z <;> walk_at "sc")
  | (apply Sp.RCross.ok <;> walk_at "sc")
  | (apply Sp.RCross.one <;> walk_at "sc")
  | (apply Sp.RCross.oth <;> walk_at "sc")
  | (apply Sp.RAreN.ok <;> walk_at "sc")
  | (apply Sp.RAreN.one <;> walk_at "sc")
  | (apply Sp.RAreN.oth <;> walk_at "sc")
  | (apply Sp.RNeedN.ok <;> walk_at "sc")
  | (apply Sp.RNeedN.no <;> walk_at "sc")
  | (apply Sp.RNeedN.one <;> walk_at "sc")
  | (apply Sp.RNeedN.oth <;> walk_at "sc")
  | (apply Sp.RBetween.ok <;> walk_at "sc")
  | (apply Sp.RBetween.no <;> walk_at "sc")
  | (apply Sp.RBetween.one <;> walk_at "sc")
  | (apply Sp.RBetween.oth <;> walk_at "sc")
  | (apply Sp.RSummed.ok <;> walk_at "sc")
  | (apply Sp.RSummed.z <;> walk_at "sc")
  | (apply Sp.RBinS.ok <;> walk_at "sc")
  | (apply Sp.RBinS.z <;> walk_at "sc")
  | (apply Sp.RBinS.n <;> walk_at "sc")
  | (apply Sp.RMulS.ok <;> walk_at "sc")
  | (apply Sp.RMulS.z <;> walk_at "sc")
  | (apply Sp.RMulS.n <;> walk_at "sc")
  | (apply Sp.RNegS.mk <;> walk_at "sc")
  | (apply Sp.REqS.s <;> walk_at "sc")
  | (apply Sp.REqS.n <;> walk_at "sc")
  | (apply Sp.RIsUp.mk <;> walk_at "sc")
  | (apply Sp.RUpw.mk <;> walk_at "sc")
  | (apply Sp.ROneR.mk <;> walk_at "sc")
  | (apply Sp.RCorner.ok <;> walk_at "sc")
  | (apply Sp.RCorner.z <;> walk_at "sc")
  | fail)
local macro_rules | `(tactic| walk_at "nf") => `(tactic| first | exact nf_Ratio _ (by decide) | exact nf_Step _ (by decide) | fail)
namespace Sp
open PySem PySem.Spec PyProof.Rows L2
open PySem.W (Frag)
section
variable {P : Program} {w : World} {K : PySem.W.Frag} {mg : Str → Option Value} {base : Heap} {f : Addr} {fd : FuncData}
variable (h_gcd : mg "gcd" = some (.builtin "math.gcd")) {tk1 tk2 : Tok} (h_most : mg "MOST_DIGITS" = some (.int 60 tk1)) (h_digits : mg "DIGITS" = some (.str "0123456789" tk2)) (h_all : mg "all" = none)
variable (g_xBadRatio : GXN P w K mg base 1 "BadRatio" ["part"] (cX K "BadRatio"))
  (g_xBadStep : GXN P w K mg base 1 "BadStep" ["part"] (cX K "BadStep"))
  (g_xBadNumber : GXN P w K mg base 1 "BadNumber" ["part"] (cX K "BadNumber"))
  (g_xRound : GXN P w K mg base 1 "Round" ["part"] (cX K "Round"))
  (g_xNotNeighbours : GXN P w K mg base 1 "NotNeighbours" ["one", "other"] (cX K "NotNeighbours"))
  (g_xCommon : GXN P w K mg base 1 "Common" ["divisor"] (cX K "Common"))
  (g_xBadText : GXN P w K mg base 1 "BadText" ["line", "word"] (cX K "BadText"))
  (g_is_integer : GD P w K mg base (L2.CX P w) 1 "is_integer" ["value"] [] (spR K csL tsL 3900 RIsInt))
  (g_is_ratio : GD P w K mg base (L2.CX P w) 2 "is_ratio" ["value"] [] (spR K csL tsL 3900 RIsRat))
  (g_sign_of : GD P w K mg base (L2.CX P w) 1 "sign_of" ["number"] [] (spR K csL tsL 100000 RSign))
  (g_mRatio : GM P w K mg base (L2.CX P w) 3 "Ratio" (ca K .Ratio) ["self", "top", "bottom"] [] (spRI K csL tsL .Ratio 3900 RInitR)) (g_mRatio1 : GM P w K mg base (L2.CX P w) 3 "Ratio" (ca K .Ratio) ["self", "top", "bottom"] [.int 1] (spRI K csL tsL .Ratio 3900 RInitR))
  (g_Ratio_of : GS P w K mg base (L2.CX P w) 5 (ca K .Ratio) "of" (spR K csL tsL 3900 (ROf "BadRatio" "value")))
  (g_at_right : GD P w K mg base (L2.CX P w) 6 "at_right" ["value"] [] (spR K csL tsL 3900 (ROf "BadRatio" "other")))
  (g_Ratio_Add : GO P w K mg base (L2.CX P w) 7 (ca K .Ratio) .Add (spR K csL tsL 1900 (RBinR (· + ·))))
  (g_Ratio_Sub : GO P w K mg base (L2.CX P w) 7 (ca K .Ratio) .Sub (spR K csL tsL 1900 (RBinR (· - ·))))
  (g_Ratio_Mult : GO P w K mg base (L2.CX P w) 7 (ca K .Ratio) .Mult (spR K csL tsL 1900 (RBinR (· * ·))))
  (g_Ratio_over : GH P w K mg base (L2.CX P w) 7 (ca K .Ratio) "over" ["self", "other"] (spR K csL tsL 1900 ROver))
  (g_Ratio_USub : GN P w K mg base (L2.CX P w) 5 (ca K .Ratio) "__neg__" (spR K csL tsL 3900 (RUnR (fun q => -q))))
  (g_Ratio_abs : GN P w K mg base (L2.CX P w) 5 (ca K .Ratio) "__abs__" (spR K csL tsL 3900 (RUnR qabs)))
  (g_Ratio_eq : GN P w K mg base (L2.CX P w) 2 (ca K .Ratio) "__eq__" (spR K csL tsL 3900 REqR)) (g_Ratio_eq_ne : GNe P w K mg base (L2.CX P w) 2 (ca K .Ratio) (spR K csL tsL 3900 REqR)) (nf_Ratio : ∀ t ∈ tsL, PySem.W.notFirst K (ca K .Ratio) (tv K t) = true)
  (g_Ratio_sign : GP P w K mg base (L2.CX P w) 2 (ca K .Ratio) "sign" (spR K csL tsL 3900 (RPropR fun q => .int q.num.sign)))
  (g_Ratio_below : GP P w K mg base (L2.CX P w) 1 (ca K .Ratio) "below" (spR K csL tsL 3900 (RPropR fun q => .int q.floor)))
  (g_mStep : GM P w K mg base (L2.CX P w) 3 "Step" (ca K .Step) ["self", "studs", "rounds"] [] (spRI K csL tsL .Step 3900 RInitS))
  (g_need_step : GD P w K mg base (L2.CX P w) 3 "need_step" ["value", "part"] [] (spR K csL tsL 100000 (RNeed .Step "BadStep")))
  (g_need_studs : GD P w K mg base (L2.CX P w) 3 "need_studs" ["step", "part"] [] (spR K csL tsL 100000 RNeedK))
  (g_is_upward : GD P w K mg base (L2.CX P w) 1 "is_upward" ["step"] [] (spR K csL tsL 3900 RIsUp))
  (g_summed : GD P w K mg base (L2.CX P w) 5 "summed" ["studs", "rounds"] [] (spR K csL tsL 3900 RSummed))
  (g_Step_Add : GO P w K mg base (L2.CX P w) 6 (ca K .Step) .Add (spR K csL tsL 1900 (RBinS (· + ·))))
  (g_Step_Sub : GO P w K mg base (L2.CX P w) 6 (ca K .Step) .Sub (spR K csL tsL 1900 (RBinS (· - ·))))
  (g_Step_USub : GN P w K mg base (L2.CX P w) 5 (ca K .Step) "__neg__" (spR K csL tsL 3900 RNegS))
  (g_Step_Mult : GO P w K mg base (L2.CX P w) 5 (ca K .Step) .Mult (spR K csL tsL 1900 RMulS))
  (g_Step_eq : GN P w K mg base (L2.CX P w) 1 (ca K .Step) "__eq__" (spR K csL tsL 3900 REqS)) (g_Step_eq_ne : GNe P w K mg base (L2.CX P w) 1 (ca K .Step) (spR K csL tsL 3900 REqS)) (nf_Step : ∀ t ∈ tsL, PySem.W.notFirst K (ca K .Step) (tv K t) = true)
  (g_Step_upward : GP P w K mg base (L2.CX P w) 5 (ca K .Step) "upward" (spR K csL tsL 3900 RUpw))
  (g_Step_corner : GP P w K mg base (L2.CX P w) 5 (ca K .Step) "corner" (spR K csL tsL 3900 RCorner))
  (g_Step_one_round : GS0 P w K mg base (L2.CX P w) 5 (ca K .Step) "one_round" (spR K csL tsL 3900 ROneR))
  (g_cross : GD P w K mg base (L2.CX P w) 4 "cross" ["one", "other"] [] (spR K csL tsL 1900 RCross))
  (g_are_neighbours : GD P w K mg base (L2.CX P w) 5 "are_neighbours" ["one", "other"] [] (spR K csL tsL 1900 RAreN))
  (g_need_neighbours : GD P w K mg base (L2.CX P w) 6 "need_neighbours" ["one", "other"] [] (spR K csL tsL 1900 RNeedN))
  (g_between : GD P w K mg base (L2.CX P w) 7 "between" ["one", "other"] [] (spR K csL tsL 1900 RBetween))
  (g_integer_of : GD P w K mg base (L2.CX P w) 1 "integer_of" ["word"] [] (spR K csL tsL 100000 RIntOf))
  (g_mWords : GM P w K mg base (L2.CX P w) 1 "Words" (ca K .Words) ["self", "words", "done", "last"] [] (spInitW K))
  (g_Words_is_over : GH P w K mg base (L2.CX P w) 1 (ca K .Words) "is_over" ["self"] (spWp K RIsOver))
  (g_Words_take : GH P w K mg base (L2.CX P w) 3 (ca K .Words) "take" ["self"] (spW K RTake))
  (g_Words_refuse : GH P w K mg base (L2.CX P w) 3 (ca K .Words) "refuse" ["self"] (spW K RRefuse))
  (g_Words_integer : GH P w K mg base (L2.CX P w) 4 (ca K .Words) "integer" ["self"] (spW K RInteg))
  (g_Words_end : GH P w K mg base (L2.CX P w) 3 (ca K .Words) "end" ["self"] (spWp K REndW))
  (g_words_in : GD P w K mg base (L2.CX P w) 3 "words_in" ["text"] [] (spWords K csL tsL))
  (g_take_step : GD P w K mg base (L2.CX P w) 5 "take_step" ["words"] [] (spW K RTakeS))
  (g_read_whole : GD P w K mg base (L2.CX P w) 6 "read_whole" ["text", "take"] [] (spReadW K csL tsL (He.ga K "take_step") RTakeS))
  (g_Step_read : GC P w K mg base (L2.CX P w) 7 (ca K .Step) "read" (spReadC K csL tsL RTakeS))
  (g_Step_str : GN P w K mg base (L2.CX P w) 1 (ca K .Step) "__str__" (spR K csL tsL 3900 RStrS))
  (g_inverse : GD P w K mg base (L2.CX P w) 1 "inverse" ["number", "modulus"] [] (spInv K))
  (g_mate : GD P w K mg base (L2.CX P w) 5 "mate" ["step"] [] (spMate K csL tsL))
variable (g_take_step_l : GL P w K mg base (L2.CX P w) 5 "take_step" (spW K RTakeS))

theorem sc_integer_of : FnScope ["word", "digits", "value", "sign"] ["word"] (defScope (topS 16)) := ⟨rfl, rfl, rfl, by decide +kernel, rfl, by decide +kernel, by decide +kernel⟩
include h_all h_digits h_most in
theorem ok_integer_of (G : G0 K mg csL tsL) (F : FP K "integer_of" "integer_of" (topS 16) [] f fd) : FnOk P w K mg base (L2.CX P w) 1 f fd ["word"] (spR K csL tsL 100000 RIntOf) := by
  have nd := sc_integer_of.nd
  refine okR F sc_integer_of (fun ds o r => by cases r <;> rfl) (fun cdv A outer s H ds o Q E hr z r q => ⟨_, pss_cons (ps_set (i := 1) nd rfl (Or.inl rfl) (pe_bm PySem.F.plainAttrs_str PySem.F.slot_str_removeprefix PySem.F.type_str_removeprefix mt_removeprefix (pv 0) (pa_cons (pe_str) (pa_nil)))) (pss_cons (ps_if (PW.pt (pw_or (pt_not (pt_chain op_le op_le (pe_int) (pe_callB call_len_str rfl G.nm.len (by decide +kernel) (pa_cons (pv 1) (pa_nil))) ((pe_glob (v := .int 60) rfl h_most ⟨_, rfl⟩)))) (pw_or1 (pt_not (pt_val (pe_callB (cr_all rfl) rfl h_all (by decide +kernel) (pa_cons (pe_lc (own := [("sign", 3)]) (g := gName 3) (tt := tYes) rfl nd (pi_str (pv 1)) (blkOk_by (N := ["word", "digits", "value", "sign"]) (sc := defScope (topS 16)) (by decide +kernel)) (fun _ _ _ _ _ => pg_name (i := 3) nd rfl (Or.inl rfl)) (fun _ _ _ _ _ => pts_nil) (fun _ _ _ _ _ => pe_cmpR op_in_sign (pv 3) (pe_glob (v := .str "0123456789") rfl h_digits ⟨_, rfl⟩) rfl)) (pa_nil)))))))) (pss_one (ps_ret (pe_non))) (pss_nil)) (pss_cons (ps_set (i := 2) nd rfl (Or.inl rfl) (pe_callTy call_int_str rfl G.nm.int (by decide +kernel) (pa_cons (pv 0) (pa_nil)))) (pss_one (ps_ret (pe_ifExp (pt_cmpR op_eq (pe_callTy call_str_int rfl G.nm.str (by decide +kernel) (pa_cons (pv 2) (pa_nil))) (pv 0) (nomark _)) (pv 2) (pe_non)))))), ?_⟩)
  have ls : 100000 ≤ sizeLine := by decide
  obtain ⟨w, rfl, l, ho⟩ : ∃ w, ds = [.str w] ∧ w.length ≤ 100000 ∧ o = .ok (match intW w with | some n => .int n | none => .non) := by
    cases r with
    | @some w n h l => exact ⟨w, rfl, l, by rw [h]⟩
    | @none w h l => exact ⟨w, rfl, l, by rw [h]⟩
  subst ho
  have l1 : w.length ≤ sizeLine := by omega
  have l2 : (Txt.removeprefix w "-").length ≤ sizeLine := by
    have := digs_le (TL.tl w)
    rw [TL.len_tl, tl_rp]
    rw [TL.len_tl] at l1
    omega
  have ok := okD_eq (w := w)
  have nn : okD (TL.tl w) = false → Aft K H (.ok .non) Q E := fun h => by rw [intW_no h] at q; exact q
  walk_at "go"
  refine iteP (fun c1 => ?_) (fun c1 => ?_)
  · have c1 := of_decide_eq_true c1
    rw [decide_eq_true (show 1 ≤ (Txt.removeprefix w "-").length by omega), Bool.true_and] at ok
    walk_at "rd"
    refine iteP (fun c2 => ?_) (fun c2 => ?_)
    · rw [decide_eq_false (show ¬ (Txt.removeprefix w "-").length ≤ 60 by simp at c2; omega), Bool.false_and] at ok
      have q := nn ok
      walk_at "rd"
    · rw [decide_eq_true (show (Txt.removeprefix w "-").length ≤ 60 by simp at c2; omega), Bool.true_and] at ok
      walk_at "rd"
      intro D hD
      refine lc_str (x := Txt.removeprefix w "-") (fun i Hh => Same H Hh ∧ Hh D = some (.lst (((TL.tl (Txt.removeprefix w "-")).take i).map fun c => V.bl (isDig c)))) ⟨Same.new' hD, upd_same⟩ ?_ ?_
      · intro i c H1 hc hP
        obtain ⟨p1, p2⟩ := hP
        have hlt := (List.getElem?_eq_some_iff.mp hc).1
        walk_at "rd"
        refine ⟨by rw [List.length_map, List.length_take]; rw [TL.len_tl] at l2; omega, fun b o e => ?_, ?_⟩
        · rw [upd_ne (fun z => by rw [z, hD] at e; cases e)]
          exact p1 _ _ e
        · have hm : decide (c ∈ ("0123456789" : Str).cps.toList) = isDig c := digMem c
          rw [upd_same, List.take_add_one, hc, hm]
          simp
      · intro H1 hP
        obtain ⟨p1, p2⟩ := hP
        rw [List.take_length] at p2
        refine ⟨D, (TL.tl (Txt.removeprefix w "-")).map isDig, rfl, SqL.of (by rw [p2, List.map_map]; rfl), ?_⟩
        cases hall : ((TL.tl (Txt.removeprefix w "-")).map isDig).all id with
        | false =>
          rw [hall] at ok
          have q := nn ok
          have hE := (Env.of (K := K) H).step p1
          walk_at "rd"
        | true =>
          rw [hall] at ok
          obtain ⟨n, hn⟩ := intText_ok ok
          obtain ⟨s1, s2⟩ := intText_small ok hn
          have hy := intW_yes ok hn
          have hE := (Env.of (K := K) H).step p1
          walk_at "rd"
          have e1 : decide (V.str (dS n) = V.str w) = decide (dS n = w) := vEqS _ _
          refine iteP (fun h => ?_) (fun h => ?_)
          · have h : dS n = w := of_decide_eq_true (e1 ▸ h)
            rw [if_pos h] at hy
            rw [hy] at q
            walk_at "rd"
          · have h : ¬ dS n = w := fun z => h (e1.trans (decide_eq_true z))
            rw [if_neg h] at hy
            rw [hy] at q
            walk_at "rd"
  · rw [decide_eq_false (show ¬ 1 ≤ (Txt.removeprefix w "-").length by simp at c1; omega), Bool.false_and] at ok
    have q := nn ok
    walk_at "rd"
theorem sc_Words_init : FnScope ["self", "words", "done", "last"] ["self", "words", "done", "last"] (defScope (inClass (topS 17) 0)) := ⟨rfl, rfl, rfl, by decide +kernel, rfl, by decide +kernel, by decide +kernel⟩
theorem ok_Words_init (G : G0 K mg csL tsL) (F : FP K "__init__" "Words.__init__" (inClass (topS 17) 0) [] f fd) : FnOk P w K mg base (L2.CX P w) 1 f fd ["self", "words", "done", "last"] (spInitW K) := by
  have nd := sc_Words_init.nd
  refine F.ok sc_Words_init (fun vs H Q E h => by obtain ⟨_, _, _, _, _, rfl, _⟩ := h; rfl) (fun cdv A outer s H vs Q E hr h => ⟨_, pss_cons (ps_fldD (pv 0) (pv 1) rfl) (pss_cons (ps_fldD (pv 0) (pv 2) rfl) (pss_one (ps_fldD (pv 0) (pv 3) rfl))), ?_⟩)
  obtain ⟨a, dx, x, y, z, rfl, ha, q⟩ := h
  walk_at "rd"
  have h1 : (upd H a (.ins (ca K .Words) dx [("words", x)])) a = some (.ins (ca K .Words) dx [("words", x)]) := upd_same
  walk_at "rd"
  have h2 : (upd (upd H a (.ins (ca K .Words) dx [("words", x)])) a (.ins (ca K .Words) dx [("words", x), ("done", y)])) a = some (.ins (ca K .Words) dx [("words", x), ("done", y)]) := upd_same
  walk_at "rd"
  exact q _ (fun b o n e => by rw [upd_ne n, upd_ne n, upd_ne n]; exact e) upd_same
theorem sc_Words_is_over : FnScope ["self"] ["self"] (defScope (inClass (topS 17) 1)) := ⟨rfl, rfl, rfl, by decide +kernel, rfl, by decide +kernel, by decide +kernel⟩
theorem ok_Words_is_over (G : G0 K mg csL tsL) (F : FP K "is_over" "Words.is_over" (inClass (topS 17) 1) [] f fd) : FnOk P w K mg base (L2.CX P w) 1 f fd ["self"] (spWp K RIsOver) := by
  have nd := sc_Words_is_over.nd
  refine F.ok sc_Words_is_over (fun vs H Q E h => by obtain ⟨_, _, _, _, _, rfl, _⟩ := wpI h; rfl) (fun cdv A outer s H vs Q E hr h => ⟨_, pss_one (ps_ret (pe_cmpR op_eq (pe_fldD (pv 0) rfl) (pe_fldD (pv 0) rfl) (nomark _))), ?_⟩)
  obtain ⟨p, l, ws, k, o, rfl, hw, r, q⟩ := wpI h
  cases r
  obtain ⟨dx, h1, h2, h3, h4⟩ := id hw
  walk_at "rd"
  exact finB q (Env.of H) (by rw [vEq]; exact decide_eq_decide.mpr (by omega))
theorem sc_Words_take : FnScope ["self", "word"] ["self"] (defScope (inClass (topS 17) 5)) := ⟨rfl, rfl, rfl, by decide +kernel, rfl, by decide +kernel, by decide +kernel⟩
include g_Words_is_over g_xBadText in
theorem ok_Words_take (G : G0 K mg csL tsL) (F : FP K "take" "Words.take" (inClass (topS 17) 5) [] f fd) : FnOk P w K mg base (L2.CX P w) 3 f fd ["self"] (spW K RTake) := by
  have nd := sc_Words_take.nd
  refine F.ok sc_Words_take (fun vs H Q E h => by obtain ⟨_, _, _, _, _, _, rfl, _⟩ := wI h; rfl) (fun cdv A outer s H vs Q E hr h => ⟨_, pss_cons (ps_if (pt_val (pe_methD0 (pv 0) (G.cf .Words (by decide)).cl g_Words_is_over (hr.mono (by decide)) (pxE rfl rfl rfl rfl))) (pss_one (ps_raise rfl (takes_of rfl rfl rfl rfl) (pmkD g_xBadText (hr.mono (by decide)) rfl (pa_cons (pe_int) (pa_cons (pe_fldD (pv 0) rfl) (pa_nil)))))) (pss_nil)) (pss_cons (ps_set (i := 1) nd rfl (Or.inl rfl) (pe_ix ix_list (pe_fldD (pv 0) rfl) (pe_fldD (pv 0) rfl) (fun _ _ => rfl))) (pss_cons (ps_fldaug (pv 0) (pe_int) in_add) (pss_one (ps_ret (pv 1))))), ?_⟩)
  obtain ⟨p, l, ws, k, o, k', rfl, hw, r, q⟩ := wI h
  obtain ⟨dx, h1, h2, h3, h4⟩ := id hw
  have cf := G.cf .Words (by decide)
  have n1 := cf.cl
  have n2 := cf.no "done" (by decide)
  cases r with
  | ok hk =>
    rename_i w
    have hlt := (List.getElem?_eq_some_iff.mp hk).1
    have hne : decide (k = ws.length) = false := decide_eq_false (by omega)
    walk_at "rd"
    refine wpO hw .mk ?_
    have hE := Env.of (K := K) H
    refine' afBl hE ?_
    intro H1 e1
    have g1 := e1.gr _ _ h1
    have g2 := e1.gr _ _ h2
    have hat : atI (ws.map V.str) (k : Int) = some (.str w) := atI_nat (by rw [List.getElem?_map, hk]; rfl)
    walk_at "rd"
    refine ixLRaw (SqL.of g2) hat ?_
    walk_at "rd"
    exact q _ _ ((Same.wr e1.gr).trans Wr.upd) ((hw.same e1.gr).upd (k' := k + 1) g1) (.str w)
  | over =>
    have hne : decide (ws.length = ws.length) = true := decide_eq_true rfl
    walk_at "rd"
    refine wpO hw .mk ?_
    have hE := Env.of (K := K) H
    refine' afBl hE ?_
    intro H1 e1
    have g1 := e1.gr _ _ h1
    walk_at "rd"
    exact awErr q (Same.wr e1.gr) fun b n => none_same e1.gr n
theorem sc_Words_refuse : FnScope ["self"] ["self"] (defScope (inClass (topS 17) 6)) := ⟨rfl, rfl, rfl, by decide +kernel, rfl, by decide +kernel, by decide +kernel⟩
include g_xBadText in
theorem ok_Words_refuse (G : G0 K mg csL tsL) (F : FP K "refuse" "Words.refuse" (inClass (topS 17) 6) [] f fd) : FnOk P w K mg base (L2.CX P w) 3 f fd ["self"] (spW K RRefuse) := by
  have nd := sc_Words_refuse.nd
  refine F.ok sc_Words_refuse (fun vs H Q E h => by obtain ⟨_, _, _, _, _, _, rfl, _⟩ := wI h; rfl) (fun cdv A outer s H vs Q E hr h => ⟨_, pss_one (ps_raise rfl (takes_of rfl rfl rfl rfl) (pmkD g_xBadText (hr.mono (by decide)) rfl (pa_cons (pe_int) (pa_cons (pe_op op_sub (pe_fldD (pv 0) rfl) (pe_int)) (pa_nil))))), ?_⟩)
  obtain ⟨p, l, ws, k, o, k', rfl, hw, r, q⟩ := wI h
  obtain ⟨dx, h1, h2, h3, h4⟩ := id hw
  cases r with
  | @mk k =>
    have hE := Env.of (K := K) H
    walk_at "rd"
    rw [show (((k + 1 : Nat) : Int) - 1) = (k : Nat) by omega]
    exact awErr q (fun _ _ _ h => h) fun b n => n
theorem sc_Words_end : FnScope ["self"] ["self"] (defScope (inClass (topS 17) 8)) := ⟨rfl, rfl, rfl, by decide +kernel, rfl, by decide +kernel, by decide +kernel⟩
include g_Words_is_over g_xBadText in
theorem ok_Words_end (G : G0 K mg csL tsL) (F : FP K "end" "Words.end" (inClass (topS 17) 8) [] f fd) : FnOk P w K mg base (L2.CX P w) 3 f fd ["self"] (spWp K REndW) := by
  have nd := sc_Words_end.nd
  refine F.ok sc_Words_end (fun vs H Q E h => by obtain ⟨_, _, _, _, _, rfl, _⟩ := wpI h; rfl) (fun cdv A outer s H vs Q E hr h => ⟨_, pss_one (ps_if (pt_not (pt_val (pe_methD0 (pv 0) (G.cf .Words (by decide)).cl g_Words_is_over (hr.mono (by decide)) (pxE rfl rfl rfl rfl)))) (pss_one (ps_raise rfl (takes_of rfl rfl rfl rfl) (pmkD g_xBadText (hr.mono (by decide)) rfl (pa_cons (pe_int) (pa_cons (pe_fldD (pv 0) rfl) (pa_nil)))))) (pss_nil)), ?_⟩)
  obtain ⟨p, l, ws, k, o, rfl, hw, r, q⟩ := wpI h
  obtain ⟨dx, h1, h2, h3, h4⟩ := id hw
  have hE := Env.of (K := K) H
  walk_at "rd"
  refine wpO hw .mk ?_
  cases r with
  | ok =>
    have hne : decide (ws.length = ws.length) = true := decide_eq_true rfl
    walk_at "rd"
  | no hk =>
    have hne := decide_eq_false hk
    refine' afBl hE ?_
    intro H1 e1
    have g1 := e1.gr _ _ h1
    walk_at "rd"
theorem sc_Words_integer : FnScope ["self", "value"] ["self"] (defScope (inClass (topS 17) 7)) := ⟨rfl, rfl, rfl, by decide +kernel, rfl, by decide +kernel, by decide +kernel⟩
include g_Words_refuse g_Words_take g_integer_of in
theorem ok_Words_integer (G : G0 K mg csL tsL) (F : FP K "integer" "Words.integer" (inClass (topS 17) 7) [] f fd) : FnOk P w K mg base (L2.CX P w) 4 f fd ["self"] (spW K RInteg) := by
  have nd := sc_Words_integer.nd
  refine F.ok sc_Words_integer (fun vs H Q E h => by obtain ⟨_, _, _, _, _, _, rfl, _⟩ := wI h; rfl) (fun cdv A outer s H vs Q E hr h => ⟨_, pss_cons (ps_set (i := 1) nd rfl (Or.inl rfl) (pe_gd g_integer_of (hr.mono (by decide)) rfl (pxE rfl rfl rfl rfl) (pa_cons (pe_methD0 (pv 0) (G.cf .Words (by decide)).cl g_Words_take (hr.mono (by decide)) (pxE rfl rfl rfl rfl)) (pa_nil)))) (pss_cons (ps_if (pt_cmpR op_isN (pv 1) (pe_non) (nomark _)) (pss_one (ps_expr (pe_methD0 (pv 0) (G.cf .Words (by decide)).cl g_Words_refuse (hr.mono (by decide)) (pxE rfl rfl rfl rfl)))) (pss_nil)) (pss_one (ps_ret (pv 1)))), ?_⟩)
  obtain ⟨p, l, ws, k, o, k', rfl, hw, r, q⟩ := wI h
  obtain ⟨dx, h1, h2, h3, h4⟩ := id hw
  walk_at "rd"
  cases r with
  | ok hk =>
    rename_i n
    unfold rdI at hk
    cases hg : ws[k]? with
    | none => rw [hg] at hk; cases hk
    | some w =>
      rw [hg] at hk
      refine wR hw (.ok hg) (awStr fun H1 s1 w1 => ?_)
      have hE := Env.of (K := K) H1
      have hl := h4 w (List.mem_of_getElem? hg)
      refine' fnR (.cons (.str _) .nil) ⟨⟨rfl, trivial⟩, trivial⟩ (.some hk hl) ?_
      walk_at "rd"
      exact (fun (e : Env K .fn H1 _ []) => q _ _ (s1.trans (Same.wr e.gr)) (w1.same e.gr) (.int n)) (by assumption)
  | no hl hk =>
    unfold rdI at hk
    cases hg : ws[k]? with
    | none => 
      obtain rfl : k = ws.length := by
        have := List.getElem?_eq_none_iff.mp hg
        omega
      refine wR hw .over ?_
      exact q
    | some w =>
      rw [hg] at hk
      refine wR hw (.ok hg) (awStr fun H1 s1 w1 => ?_)
      have hE := Env.of (K := K) H1
      have hl := h4 w (List.mem_of_getElem? hg)
      obtain ⟨dx1, g1, g2, _⟩ := id w1
      refine' fnR (.cons (.str _) .nil) ⟨⟨rfl, trivial⟩, trivial⟩ (.none hk hl) ?_
      refine' afNon hE ?_
      intro H2 e2
      have g1' := e2.gr _ _ g1
      walk_at "rd"
      refine wR (w1.same e2.gr) .mk ?_
      exact fun dd H' gs s' n e i => q dd H' gs ((s1.trans (Same.wr e2.gr)).trans s') (wrNone hw w1 s1 _ (none_same e2.gr n)) e i
theorem sc_words_in : FnScope ["text", "words"] ["text"] (defScope (topS 18)) := ⟨rfl, rfl, rfl, by decide +kernel, rfl, by decide +kernel, by decide +kernel⟩
include g_mWords g_xBadText in
theorem ok_words_in (G : G0 K mg csL tsL) (F : FP K "words_in" "words_in" (topS 18) [] f fd) : FnOk P w K mg base (L2.CX P w) 3 f fd ["text"] (spWords K csL tsL) := by
  have nd := sc_words_in.nd
  refine F.ok sc_words_in (fun vs H Q E h => by obtain ⟨_, _, rfl, _⟩ := wordsI h; rfl) (fun cdv A outer s H vs Q E hr h => ⟨_, pss_cons (ps_if (pt_not (pt_val (pe_callB call_isi rfl G.nm.isinstance (by decide +kernel) (pa_cons (pv 0) (pa_cons ((pe_bltn (v := .ty "str") (u := .type "str") rfl G.nm.str PyProof.Rows.Boot.«str» rfl)) (pa_nil)))))) (pss_one (ps_raise rfl (takes_of rfl rfl rfl rfl) (pmkD g_xBadText (hr.mono (by decide)) rfl (pa_cons (pe_int) (pa_cons (pe_int) (pa_nil)))))) (pss_nil)) (pss_cons (ps_set (i := 1) nd rfl (Or.inl rfl) (pe_split (pv 0) (pe_str))) (pss_one (ps_ret (pe_makeD g_mWords (hr.mono (by decide)) rfl (pxE rfl rfl rfl rfl) (pa_cons (pv 1) (pa_cons (pe_int) (pa_cons (pe_callB call_len_seq rfl G.nm.len (by decide +kernel) (pa_cons (pv 1) (pa_nil))) (pa_nil)))))))), ?_⟩)
  obtain ⟨v, d, rfl, iv, ot, h⟩ := wordsI h
  have hE := (Env.of (K := K) H).add iv
  rcases h with ⟨x, rfl, hx, q⟩ | ⟨hn, q⟩
  · obtain rfl : v = .str x := by
      cases iv with
      | str => rfl
      | own o _ _ => cases o
    have l1 : x.length + 2 ≤ sizeLine := Nat.le_trans (Nat.add_le_add_right hx.l 2) (by decide)
    walk_at "rd"
    intro l hl
    have hq : upd H l (.lst ((Txt.split x " ").map V.str)) l = some (.lst ((Txt.split x " ").map V.str)) := upd_same
    walk_at "rd"
    refine ⟨.inl (SqL.of hq), ?_⟩
    walk_at "rd"
    refine makeRaw fun y dx ny nd ne => ?_
    have s1 : Same H (upd H l (.lst ((Txt.split x " ").map V.str))) := Same.new' hl
    have yl : l ≠ y := ne_of_none upd_same ny
    have dl : l ≠ dx := ne_of_none upd_same nd
    refine ⟨y, dx, _, _, _, rfl, upd_same, fun H' wr e => ⟨rfl, q y l H' (fun b o hb => ?_) (none_same s1 ny) ⟨dx, ?_, ?_, hx.n, hx.w⟩⟩⟩
    · exact wr b o (ne_of_none (s1 _ _ hb) ny) (same_mk (C := y) ny nd _ _ (s1 _ _ hb))
    · rw [e, List.length_map]
      rfl
    · exact wr l _ yl (by rw [upd_ne yl, upd_ne dl]; exact hq)
  · have hn : sub0 d.ty .str = false := by
      have := of_decide_eq_false hn
      revert this
      cases d.ty <;> intro this <;> (first | rfl | exact absurd rfl this)
    walk_at "rd"
theorem sc_read_whole : FnScope ["text", "take", "words", "value"] ["text", "take"] (defScope (topS 19)) := ⟨rfl, rfl, rfl, by decide +kernel, rfl, by decide +kernel, by decide +kernel⟩
include g_Words_end g_take_step_l g_words_in in
theorem ok_read_whole (G : G0 K mg csL tsL) (F : FP K "read_whole" "read_whole" (topS 19) [] f fd) : FnOk P w K mg base (L2.CX P w) 6 f fd ["text", "take"] (spReadW K csL tsL (He.ga K "take_step") RTakeS) := by
  have nd := sc_read_whole.nd
  refine F.ok sc_read_whole (fun vs H Q E h => by obtain ⟨_, _, _, rfl, _⟩ := readWI h; rfl) (fun cdv A outer s H vs Q E hr h => ⟨_, pss_cons (ps_set (i := 2) nd rfl (Or.inl rfl) (pe_gd g_words_in (hr.mono (by decide)) rfl (pxE rfl rfl rfl rfl) (pa_cons (pv 0) (pa_nil)))) (pss_cons (ps_set (i := 3) nd rfl (Or.inl rfl) (pe_glD (i := 1) g_take_step_l (hr.mono (by decide)) rfl (Or.inl rfl) (pxE rfl rfl rfl rfl) (pa_cons (pv 2) (pa_nil)))) (pss_cons (ps_expr (pe_methD0 (pv 2) (G.cf .Words (by decide)).cl g_Words_end (hr.mono (by decide)) (pxE rfl rfl rfl rfl))) (pss_one (ps_ret (pv 3))))), ?_⟩)
  obtain ⟨v, d, o, rfl, iv, ot, r, q⟩ := readWI h
  have hE := (Env.of (K := K) H).add iv
  walk_at "rd"
  refine wordsO iv ot ?_
  cases r with
  | ok t r =>
    refine .inl ⟨_, rfl, t, fun p l H1 s1 np w1 => ?_⟩
    walk_at "rd"
    refine wR w1 r fun v H2 s2 w2 i2 => ?_
    obtain ⟨dx, h1, _⟩ := id w2
    have hE := (Env.of (K := K) H2).add i2
    walk_at "rd"
    refine wpO w2 .ok ?_
    refine' afNon hE ?_
    intro H3 e3
    walk_at "rd"
    exact aftOk q ((Wr.same np s1 s2).trans e3.gr) (i2.same e3.gr)
  | err t r =>
    refine .inl ⟨_, rfl, t, fun p l H1 s1 np w1 => ?_⟩
    walk_at "rd"
    refine wR w1 r fun dd H2 gs s2 n2 e2 i2 => ?_
    exact aftEr q (Wr.same np s1 s2) (none_same s1 n2) e2 i2
  | more t r h =>
    refine .inl ⟨_, rfl, t, fun p l H1 s1 np w1 => ?_⟩
    walk_at "rd"
    refine wR w1 r fun v H2 s2 w2 i2 => ?_
    obtain ⟨dx, h1, _⟩ := id w2
    walk_at "rd"
    refine wpO w2 (.no h) ?_
    exact aftEE q (Wr.same np s1 s2)
  | no h =>
    exact .inr ⟨h, q⟩
theorem sc_take_step : FnScope ["words", "studs", "rounds"] ["words"] (defScope (topS 33)) := ⟨rfl, rfl, rfl, by decide +kernel, rfl, by decide +kernel, by decide +kernel⟩
include g_Words_integer g_Words_refuse g_mStep in
theorem ok_take_step (G : G0 K mg csL tsL) (F : FP K "take_step" "take_step" (topS 33) [] f fd) : FnOk P w K mg base (L2.CX P w) 5 f fd ["words"] (spW K RTakeS) := by
  have nd := sc_take_step.nd
  refine F.ok sc_take_step (fun vs H Q E h => by obtain ⟨_, _, _, _, _, _, rfl, _⟩ := wI h; rfl) (fun cdv A outer s H vs Q E hr h => ⟨_, pss_cons (ps_set (i := 1) nd rfl (Or.inl rfl) (pe_methD0 (pv 0) (G.cf .Words (by decide)).cl g_Words_integer (hr.mono (by decide)) (pxE rfl rfl rfl rfl))) (pss_cons (ps_set (i := 2) nd rfl (Or.inl rfl) (pe_methD0 (pv 0) (G.cf .Words (by decide)).cl g_Words_integer (hr.mono (by decide)) (pxE rfl rfl rfl rfl))) (pss_cons (ps_if (PW.pt (pw_and (pt_cmpR op_eq (pv 1) (pe_int) (nomark _)) (pw_and1 (pt_cmpR op_eq (pv 2) (pe_int) (nomark _))))) (pss_one (ps_expr (pe_methD0 (pv 0) (G.cf .Words (by decide)).cl g_Words_refuse (hr.mono (by decide)) (pxE rfl rfl rfl rfl)))) (pss_nil)) (pss_one (ps_ret (pe_makeD g_mStep (hr.mono (by decide)) rfl (pxE rfl rfl rfl rfl) (pa_cons (pv 1) (pa_cons (pv 2) (pa_nil)))))))), ?_⟩)
  obtain ⟨p, l, ws, k, o, k', rfl, hw, r, q⟩ := wI h
  obtain ⟨dx, h1, h2, h3, h4⟩ := id hw
  walk_at "rd"
  cases r with
  | @ok a b e1 e2 nz =>
    refine wR hw (.ok e1) (awInt fun H1 s1 w1 => ?_)
    obtain ⟨dx1, g1, _⟩ := id w1
    walk_at "rd"
    refine wR w1 (.ok e2) (awInt fun H2 s2 w2 => ?_)
    obtain ⟨dx2, g2, _⟩ := id w2
    have hE := Env.of (K := K) H2
    have b1 := bi60 (rdI_lt60 e1)
    have b2 := bi60 (rdI_lt60 e2)
    have fin : ∀ (v : V) (H3 : Hp), Same H2 H3 → IsV K H3 v (.step a b) → Q v H3 := fun v H3 s i => q v H3 ((s1.trans s2).trans (Same.wr s)) (w2.same s) i
    walk_at "rd"
    refine iteP (fun h1 => ?_) (fun h1 => ?_)
    · have h1 : a = 0 := by simpa using h1
      walk_at "rd"
      refine iteF (by simpa using fun z => nz ⟨h1, z⟩) ?_
      walk_at "rd"
      exact (fun {p : Addr} {H3 : Hp} (e : Env K .fn H2 H3 [(.ref p, .step a b)]) => fin (.ref p) H3 e.gr (e.get List.mem_cons_self)) (by assumption)
    · walk_at "rd"
      exact (fun {p : Addr} {H3 : Hp} (e : Env K .fn H2 H3 [(.ref p, .step a b)]) => fin (.ref p) H3 e.gr (e.get List.mem_cons_self)) (by assumption)
  | e1 hl e =>
    refine wR hw (.no hl e) ?_
    exact q
  | e2 e1 e2 =>
    refine wR hw (.ok e1) (awInt fun H1 s1 w1 => ?_)
    obtain ⟨dx1, g1, _⟩ := id w1
    walk_at "rd"
    refine wR w1 (.no (by have := rdI_lt e1; omega) e2) (k' := k + 1) ?_
    exact fun dd H' gs s' n e i => q dd H' gs (s1.trans s') (wrNone hw w1 s1 _ n) e i
  | z e1 e2 =>
    refine wR hw (.ok e1) (awInt fun H1 s1 w1 => ?_)
    obtain ⟨dx1, g1, _⟩ := id w1
    walk_at "rd"
    refine wR w1 (.ok e2) (awInt fun H2 s2 w2 => ?_)
    obtain ⟨dx2, g2, _⟩ := id w2
    walk_at "rd"
    refine wR w2 (.mk (k := k + 1)) ?_
    exact fun dd H' gs s' n e i => q dd H' gs ((s1.trans s2).trans s') (wrNone hw w1 s1 _ (wrNone w1 w2 s2 _ n)) e i
theorem sc_Step_read : FnScope ["cls", "text"] ["cls", "text"] (defScope (inClass (topS 28) 10)) := ⟨rfl, rfl, rfl, by decide +kernel, rfl, by decide +kernel, by decide +kernel⟩
include g_read_whole g_take_step_l in
theorem ok_Step_read (G : G0 K mg csL tsL) (F : FP K "read" "Step.read" (inClass (topS 28) 10) [] f fd) : FnOk P w K mg base (L2.CX P w) 7 f fd ["cls", "text"] (spReadC K csL tsL RTakeS) := by
  have nd := sc_Step_read.nd
  refine F.ok sc_Step_read (fun vs H Q E h => by obtain ⟨_, _, _, _, rfl, _⟩ := readCI h; rfl) (fun cdv A outer s H vs Q E hr h => ⟨_, pss_one (ps_ret (pe_gd g_read_whole (hr.mono (by decide)) rfl (pxE rfl rfl rfl rfl) (pa_cons (pv 1) (pa_cons ((pe_glob (v := .ref (He.ga K "take_step")) rfl g_take_step_l.hm rfl)) (pa_nil))))), ?_⟩)
  obtain ⟨C, v, d, o, rfl, iv, ot, r, q⟩ := readCI h
  walk_at "rd"
  exact readWO iv ot r q
theorem sc_Step_str : FnScope ["self"] ["self"] (defScope (inClass (topS 28) 9)) := ⟨rfl, rfl, rfl, by decide +kernel, rfl, by decide +kernel, by decide +kernel⟩
theorem ok_Step_str (G : G0 K mg csL tsL) (F : FP K "__str__" "Step.__str__" (inClass (topS 28) 9) [] f fd) : FnOk P w K mg base (L2.CX P w) 1 f fd ["self"] (spR K csL tsL 3900 RStrS) := by
  have nd := sc_Step_str.nd
  refine okR F sc_Step_str (fun ds o r => by cases r <;> rfl) (fun cdv A outer s H ds o Q E hr z r q => ⟨_, pss_one (ps_ret (pe_joined (.cons (pe_fmt (pe_fldD (pv 0) rfl)) (.cons (pe_str) (.cons (pe_fmt (pe_fldD (pv 0) rfl)) (.nil)))))), ?_⟩)
  cases r with
  | @mk k j h h2 =>
    have l1 := len_dS h
    have l2 := len_dS h2
    have sl : 1000 ≤ sizeLine := by decide
    have e0 : Str.empty ++ dS k = dS k := emptyApp _
    walk_at "go"
    refine .inr ⟨k, rfl, log60 h, ?_⟩
    have es : (Str.ofString " ").length = 1 := rfl
    have f1 : (dS k ++ Str.ofString " ").length ≤ sizeLine := by
      rw [lenApp]
      omega
    have f2 : (dS k ++ Str.ofString " " ++ dS j).length ≤ sizeLine := by
      rw [lenApp, lenApp]
      omega
    have fe : dS k ++ Str.ofString " " ++ dS j = dS k ++ (Str.ofString " " ++ dS j) := by
      apply TL.ext_tl
      simp only [TL.tl_append, List.append_assoc]
    have fin : Q (.str (dS k ++ Str.ofString " " ++ dS j)) H := by
      rw [fe]
      exact aftOk q (fun _ _ h => h) (.str _)
    rw [← e0] at f1 f2 fin
    have f0 : (Str.empty ++ dS k).length ≤ sizeLine := by
      rw [e0]
      omega
    refine ⟨_, rfl, f0, ?_⟩
    refine ⟨_, rfl, f1, ?_⟩
    walk_at "rd"
    refine .inr ⟨j, rfl, log60 h2, ?_⟩
    exact ⟨_, rfl, f2, fin⟩
end
end Sp
end
section
set_option Elab.async false
set_option linter.all false
set_option exponentiation.threshold 5000
set_option maxRecDepth 100000
set_option maxHeartbeats 0
local macro_rules | `(tactic| walk_at "leaf") => `(tactic| first | rfl | assumption | exact True.intro | exact L2.upd_same | exact L2.ClsV.ty _ | exact L2.ClsV.own _ | decide | exact of_decide_eq_true rfl | exact L2.SqL.of (by assumption) | exact L2.SqL.of L2.upd_same | exact Or.inl (L2.SqL.of L2.upd_same) | exact Or.inl (L2.SqL.of (by assumption)) | exact L2.SqT.of (by assumption) | exact L2.SqT.of L2.upd_same | exact Sp.cmL (by decide) | exact Sp.cmR (by decide) | exact ⟨by decide, by decide, by decide⟩ | exact ⟨by decide, by decide⟩ | omega | fail)
local macro_rules | `(tactic| walk_at "rd1") => `(tactic| first
  | apply Sp.exI
  | (refine And.intro ?lf ?_; (case lf => walk_at "leaf"))
  | fail)
local macro_rules | `(tactic| walk_at "rd") => `(tactic| repeat (walk_at "rd1"))
namespace Sp
open PySem PySem.Spec PyProof.Rows L2
open PySem.W (Frag)
section
variable {P : Program} {w : World} {K : PySem.W.Frag} {mg : Str → Option Value} {base : Heap} {f : Addr} {fd : FuncData} {T : List (Addr × Str)}

theorem sc__law_pail : FnScope ["_law_script", "_law_cell"] ["_law_script"] (defScope (topS 42)) := ⟨rfl, rfl, rfl, by decide +kernel, rfl, by decide +kernel, by decide +kernel⟩
theorem ok__law_pail (G : G0 K mg csL tsL) (F : FP K "_law_pail" "_law_pail" (topS 42) [] f fd) : FnOk P w K mg base (L2.CX P w) 1 f fd ["_law_script"] (spPail K) := by
  have nd := sc__law_pail.nd
  refine F.ok sc__law_pail (fun vs H Q E h => by obtain ⟨_, _, rfl, _⟩ := h; rfl) (fun cdv A outer s H vs Q E hr h => ⟨_, pss_one (ps_ret (pe_lst (pa_cons (pe_lc (own := [("_law_cell", 1)]) (g := gName 1) (tt := tYes) rfl nd (pi_list (pe_slice sl_list (pv 0) po_none (po_some pe_int))) (blkOk_by (N := ["_law_script", "_law_cell"]) (sc := defScope (topS 42)) (by decide +kernel)) (fun _ _ _ _ _ => pg_name (i := 1) nd rfl (Or.inl rfl)) (fun _ _ _ _ _ => pts_nil) (fun _ _ _ _ _ => pe_callTy call_int1i rfl G.nm.int (by decide +kernel) (pa_cons (pv 1) pa_nil))) (pa_cons (pe_int) (pa_cons (pe_int) (pa_nil)))))), ?_⟩)
  obtain ⟨a, ns, rfl, h, q⟩ := h
  walk_at "rd"
  intro p hp
  have ey : ∃ ys : List Int, cutV (List.map V.int ns) none (some 60) = ys.map V.int ∧ ys.length ≤ 60 := by
    unfold cutV
    rw [← List.map_drop, ← List.map_take]
    refine ⟨_, rfl, ?_⟩
    have e : HT.sIx (List.map V.int ns).length (List.map V.int ns).length (some 60) = min 60 (List.map V.int ns).length := HT.sIx_nat _ _ 60
    rw [List.length_take, List.length_drop, e]
    omega
  obtain ⟨ys, ey, hlen⟩ := ey
  rw [ey]
  refine ⟨p, rfl, ⟨_, SqL.of upd_same⟩, fun D hD => ?_⟩
  have s1 : Same H (upd H p (.lst (ys.map V.int))) := fun b o e => by rw [upd_ne (ne_of_none e hp)]; exact e
  have pD : p ≠ D := ne_of_none upd_same hD
  refine lc_list (K := K) (a := p) (xs := ys.map V.int) (fun i Hh => Same H Hh ∧ Hh p = some (.lst (ys.map V.int)) ∧ Hh D = some (.lst ((ys.take i).map V.int))) ?_ (fun i H _ h => SqL.of h.2.1) ?_ ?_
  · refine ⟨fun b o e => ?_, ?_, upd_same⟩
    · rw [upd_ne (ne_of_none (s1 _ _ e) hD)]
      exact s1 _ _ e
    · rw [upd_ne pD]
      exact upd_same
  · intro i x H1 hx hP
    obtain ⟨p1, p2, p3⟩ := hP
    rw [List.getElem?_map] at hx
    obtain ⟨y, hy, rfl⟩ := Option.map_eq_some_iff.mp hx
    have hi := (List.getElem?_eq_some_iff.mp hy).1
    walk_at "rd"
    have h60 : 60 < sizeLine := by decide
    refine ⟨by rw [List.length_map, List.length_take]; omega, fun b o e => ?_, ?_, ?_⟩
    · rw [upd_ne]
      · exact p1 _ _ e
      · intro z
        subst z
        rw [show H b = none from by
          cases q : H b with
          | none => rfl
          | some u => rw [s1 _ _ q] at hD; cases hD] at e
        cases e
    · rw [upd_ne pD]
      exact p2
    · rw [upd_same, List.take_add_one, hy]
      simp
  · intro H1 hP
    obtain ⟨p1, p2, p3⟩ := hP
    have h3 : 3 ≤ sizeLine := by decide
    walk_at "rd"
    intro r hr
    have rD : D ≠ r := ne_of_none p3 hr
    refine q r _ (fun b o e => ?_) ?_ ⟨D, ys, 0, 0, upd_same, ?_, by omega, by omega, by omega⟩
    · rw [upd_ne (ne_of_none (p1 _ _ e) hr)]
      exact p1 _ _ e
    · cases z : H r with
      | none => rfl
      | some u => rw [p1 _ _ z] at hr; cases hr
    · rw [upd_ne rD, p3, List.length_map, List.take_length]
theorem sc__law_dip : FnScope ["_law_pail_here", "_law_many", "_law_digit", "_law_at", "_law_cell", "_law_great", "_law_mixed"] ["_law_pail_here", "_law_many"] (defScope (topS 43)) := ⟨rfl, rfl, rfl, by decide +kernel, rfl, by decide +kernel, by decide +kernel⟩
theorem ok__law_dip (G : G0 K mg csL tsL) (F : FP K "_law_dip" "_law_dip" (topS 43) [] f fd) : FnOk P w K mg base (L2.CX P w) 1 f fd ["_law_pail_here", "_law_many"] spDip := by
  have nd := sc__law_dip.nd
  refine F.ok sc__law_dip (fun vs H Q E h => by obtain ⟨_, _, _, _, rfl, _⟩ := h; rfl) (fun cdv A outer s H vs Q E hr h => ⟨_, pss_cons (ps_if (pt_cmpR op_gt (pe_ix L2.ix_list (pv 0) (pe_int) (fun _ _ => rfl)) (pe_int) (nomark _)) (pss_cons (ps_set (i := 2) nd rfl (Or.inl rfl) (pe_op op_mod (pe_callTy call_int1i rfl G.nm.int (by decide +kernel) (pa_cons (pe_ix L2.ix_list (pv 0) (pe_int) (fun _ _ => rfl)) (pa_nil))) (pv 1))) (pss_cons (ps_asg (pe_op op_fdivB (pe_callTy call_int1i rfl G.nm.int (by decide +kernel) (pa_cons (pe_ix L2.ix_list (pv 0) (pe_int) (fun _ _ => rfl)) (pa_nil))) (pv 1)) (pg_sub (pv 0) (pe_int) set_list)) (pss_one (ps_ret (pv 2))))) (pss_nil)) (pss_cons (ps_set (i := 3) nd rfl (Or.inl rfl) (pe_ix L2.ix_list (pv 0) (pe_int) (fun _ _ => rfl))) (pss_cons (ps_asg (pe_op op_add (pv 3) (pe_int)) (pg_sub (pv 0) (pe_int) set_list)) (pss_cons (ps_set (i := 4) nd rfl (Or.inl rfl) (pe_op op_add (pe_op op_mul (pe_int) (pv 3)) (pe_int))) (pss_cons (ps_if (pt_cmpR (L2.op_neD hr.units) (pe_ix L2.ix_list (pv 0) (pe_int) (fun _ _ => rfl)) (pe_lst (pa_nil)) (nomark _)) (pss_one (ps_set (i := 4) nd rfl (Or.inl rfl) (pe_ix L2.ix_list (pe_ix L2.ix_list (pv 0) (pe_int) (fun _ _ => rfl)) (pe_op op_mod (pe_callTy call_int1i rfl G.nm.int (by decide +kernel) (pa_cons (pv 3) (pa_nil))) (pe_callB call_len_seq rfl G.nm.len (by decide +kernel) (pa_cons (pe_ix L2.ix_list (pv 0) (pe_int) (fun _ _ => rfl)) (pa_nil)))) (fun _ _ => rfl)))) (pss_nil)) (pss_cons (ps_if (PW.pt (pw_and (pt_cmpR op_lt (pv 3) (pe_callB call_len_seq rfl G.nm.len (by decide +kernel) (pa_cons (pe_ix L2.ix_list (pv 0) (pe_int) (fun _ _ => rfl)) (pa_nil))) (nomark _)) (pw_and1 (pt_cmpR op_ge (pe_callB call_abs rfl G.nm.abs (by decide +kernel) (pa_cons (pv 4) (pa_nil))) (pe_op op_pow (pe_int) (pe_int)) (nomark _))))) (pss_cons (ps_set (i := 5) nd rfl (Or.inl rfl) (pe_op op_add (pe_op op_mul (pe_int) (pe_op op_sub (pe_callB call_abs rfl G.nm.abs (by decide +kernel) (pa_cons (pv 4) (pa_nil))) (pe_op op_pow (pe_int) (pe_int)))) (pe_callTy call_int1b rfl G.nm.int (by decide +kernel) (pa_cons (pe_cmpR op_lt (pv 4) (pe_int) (nomark _)) (pa_nil))))) (pss_cons (ps_asg (pe_op op_fdivB (pe_callTy call_int1i rfl G.nm.int (by decide +kernel) (pa_cons (pv 5) (pa_nil))) (pv 1)) (pg_sub (pv 0) (pe_int) set_list)) (pss_one (ps_ret (pe_op op_mod (pe_callTy call_int1i rfl G.nm.int (by decide +kernel) (pa_cons (pv 5) (pa_nil))) (pv 1)))))) (pss_nil)) (pss_cons (ps_set (i := 6) nd rfl (Or.inl rfl) (pe_op op_mod (pe_callTy call_int1i rfl G.nm.int (by decide +kernel) (pa_cons (pe_op op_pow (pe_op op_add (pe_op op_add (pe_op op_mod (pe_callTy call_int1i rfl G.nm.int (by decide +kernel) (pa_cons (pv 4) (pa_nil))) (pe_int)) (pe_op op_mul (pe_int) (pv 3))) (pe_int)) (pe_int)) (pa_nil))) (pe_int))) (pss_cons (ps_set (i := 6) nd rfl (Or.inl rfl) (pe_op op_mod (pe_callTy call_int1i rfl G.nm.int (by decide +kernel) (pa_cons (pe_op op_pow (pe_op op_add (pe_op op_add (pe_op op_mul (pv 6) (pe_op op_add (pe_op op_mul (pe_int) (pv 3)) (pe_int))) (pe_op op_mul (pe_op op_mul (pe_int) (pv 3)) (pv 3))) (pe_int)) (pe_int)) (pa_nil))) (pe_int))) (pss_one (ps_ret (pe_op op_mod (pe_callTy call_int1i rfl G.nm.int (by decide +kernel) (pa_cons (pe_op op_fdivB (pv 6) (pe_int)) (pa_nil))) (pv 1))))))))))), ?_⟩)
  obtain ⟨a, c, m, N, rfl, ⟨cs, n, g, ha, hc, n0, nN, g0⟩, hN, m0, m1, q⟩ := h
  have dm : ∀ x, CDivB x m := fun x => ⟨by omega, by have h2 : (2 : Nat) ^ 30 ≤ 2 ^ 4000 := Nat.pow_le_pow_right (by decide) (by decide); omega⟩
  have dg := dm g
  have ca : c ≠ a := by
    intro z
    subst z
    rw [ha] at hc
    injection hc with hc
    injection hc with hc
    cases cs <;> cases hc
  walk_at "rd"
  refine iteP (fun h1 => ?_) (fun h1 => ?_)
  · have h1 : 0 < g := of_decide_eq_true h1
    walk_at "rd"
    have e : Sb a H (upd H a (.lst [.ref c, .int n, .int (g.fdiv m)])) := fun b o nb e => by rw [upd_ne nb]; exact e
    exact q (g % m) _ (Int.emod_nonneg _ (by omega)) (Int.emod_lt_of_pos _ m0) ⟨cs, n, g.fdiv m, upd_same, e _ _ ca hc, n0, by omega, Int.fdiv_nonneg g0 (by omega)⟩ e
  · have hc1 : upd H a (.lst [.ref c, .int (n + 1), .int g]) c = some (.lst (cs.map V.int)) := by
      rw [upd_ne ca]
      exact hc
    walk_at "rd"
    intro l hl
    have hc2 := (upd_ne (o := .lst []) (ne_of_none hc1 hl)).trans hc1
    refine ⟨_, _, .lst (SqL.of hc2) (dp_ints cs), .lst (SqL.of upd_same) .nil, shaped_ints cs, rfl, ?_⟩
    walk_at "rd"
    have hla : a ≠ l := ne_of_none (show upd H a (.lst [.ref c, .int (n + 1), .int g]) a = some _ from upd_same) hl
    have ha2 : upd (upd H a (.lst [.ref c, .int (n + 1), .int g])) l (.lst []) a = some (.lst [.ref c, .int (n + 1), .int g]) := by
      rw [upd_ne hla]
      exact upd_same
    apply tailR
    · intro tail
      refine iteP (fun h2 => ?_) (fun h2 => ?_)
      · have hl0 : 0 < ((cs.map V.int).length : Int) := by
          cases cs with
          | nil => cases h2
          | cons y ys => simp
        have hat : ∃ x : Int, atI (cs.map V.int) (n % ((cs.map V.int).length : Int)) = some (.int x) := by
          have r1 := Int.emod_nonneg n (show ((cs.map V.int).length : Int) ≠ 0 by omega)
          have r2 := Int.emod_lt_of_pos n hl0
          obtain ⟨j, hj⟩ : ∃ j : Nat, n % ((cs.map V.int).length : Int) = j := ⟨(n % ((cs.map V.int).length : Int)).toNat, by omega⟩
          rw [hj]
          have hjl : j < cs.length := by rw [hj, List.length_map] at r2; omega
          refine ⟨cs[j], atI_nat ?_⟩
          rw [List.getElem?_map, List.getElem?_eq_getElem hjl]
          rfl
        obtain ⟨x, hat⟩ := hat
        walk_at "rd"
        exact tail x
      · walk_at "rd"
        exact tail (52177 * n + 2903)
    · intro x
      have nM : n ≤ 1000000 := by omega
      have cp1 : CPow (x % 2147483629 + 61703 * n + 2903) 5 := ⟨by decide, by decide, by omega⟩
      have y0 := Int.emod_nonneg ((x % 2147483629 + 61703 * n + 2903) ^ Int.toNat 5) (show (2147483647 : Int) ≠ 0 by decide)
      have y1 := Int.emod_lt_of_pos ((x % 2147483629 + 61703 * n + 2903) ^ Int.toNat 5) (show (0 : Int) < 2147483647 by decide)
      have cm1 : CMul ((x % 2147483629 + 61703 * n + 2903) ^ Int.toNat 5 % 2147483647) (2 * n + 2311) := .inr ⟨by omega, by omega⟩
      have cm2 : CMul (52177 * n) n := .inr ⟨by omega, by omega⟩
      have cp2 : CPow ((x % 2147483629 + 61703 * n + 2903) ^ Int.toNat 5 % 2147483647 * (2 * n + 2311) + 52177 * n * n + 44117) 3 := by
        refine ⟨by decide, by decide, ?_⟩
        revert y0 y1
        generalize (x % 2147483629 + 61703 * n + 2903) ^ Int.toNat 5 % 2147483647 = y
        intro y0 y1
        have b1 : y * (2 * n + 2311) ≤ 2147483647 * 2002311 := Int.mul_le_mul (by omega) (by omega) (by omega) (by decide)
        have b2 : 0 ≤ y * (2 * n + 2311) := Int.mul_nonneg y0 (by omega)
        have b3 : n * n ≤ 1000000 * 1000000 := Int.mul_le_mul nM nM n0 (by decide)
        have b4 : 0 ≤ n * n := Int.mul_nonneg n0 n0
        rw [Int.mul_assoc 52177]
        omega
      have d64 : ∀ z : Int, CDivB z 64 := fun z => ⟨by decide, by decide⟩
      have d64' := d64 (((x % 2147483629 + 61703 * n + 2903) ^ Int.toNat 5 % 2147483647 * (2 * n + 2311) + 52177 * n * n + 44117) ^ Int.toNat 3 % 2147483587)
      have dgr := dm (2 * ((if x < 0 then -x else x) - 10 ^ Int.toNat 18) + (if decide (x < 0) = true then 1 else 0))
      have sb2 : ∀ o', Sb a H (upd (upd (upd H a (.lst [.ref c, .int (n + 1), .int g])) l (.lst [])) a o') := fun o' b o nb e => by
        have h1 := (upd_ne (o := .lst [.ref c, .int (n + 1), .int g]) nb).trans e
        rw [upd_ne nb, upd_ne (ne_of_none h1 hl)]
        exact h1
      have sb1 : Sb a H (upd (upd H a (.lst [.ref c, .int (n + 1), .int g])) l (.lst [])) := fun b o nb e => by
        have h1 := (upd_ne (o := .lst [.ref c, .int (n + 1), .int g]) nb).trans e
        rw [upd_ne (ne_of_none h1 hl)]
        exact h1
      have fin1 : Pail (upd (upd H a (.lst [.ref c, .int (n + 1), .int g])) l (.lst [])) a c (N + 1) := ⟨cs, n + 1, g, ha2, hc2, by omega, by omega, g0⟩
      refine iteP (fun h3 => ?_) (fun h3 => ?_)
      · walk_at "rd"
        refine iteP (fun h4 => ?_) (fun h4 => ?_)
        · walk_at "rd"
          refine q _ _ (Int.emod_nonneg _ (by omega)) (Int.emod_lt_of_pos _ m0) ⟨cs, n + 1, _, upd_same, sb2 _ _ _ ca hc, by omega, by omega, Int.fdiv_nonneg ?_ (by omega)⟩ (sb2 _)
          have h4 : (10 : Int) ^ Int.toNat 18 ≤ (if x < 0 then -x else x) := of_decide_eq_true h4
          have : (0 : Int) ≤ (if decide (x < 0) = true then 1 else 0) := by split <;> decide
          omega
        · walk_at "rd"
          exact q _ _ (Int.emod_nonneg _ (by omega)) (Int.emod_lt_of_pos _ m0) fin1 sb1
      · walk_at "rd"
        exact q _ _ (Int.emod_nonneg _ (by omega)) (Int.emod_lt_of_pos _ m0) fin1 sb1
end
end Sp
end
section
set_option Elab.async false
set_option linter.all false
set_option exponentiation.threshold 5000
set_option maxRecDepth 100000
set_option maxHeartbeats 0
local macro_rules | `(tactic| walk_at "mem") => `(tactic| first | exact List.mem_cons_self | (refine List.mem_cons_of_mem _ ?_; walk_at "mem"))
local macro_rules | `(tactic| walk_at "isv") => `(tactic| first | exact Sp.IsV.int _ | exact Sp.IsV.str _ | exact Sp.IsV.bl _ | exact Sp.IsV.non | exact Sp.Env.get (by assumption) (by walk_at "mem") | assumption)
local macro_rules | `(tactic| walk_at "isvs") => `(tactic| first | exact Sp.IsVs.nil | (refine' Sp.IsVs.cons ?iv ?rs; (case iv => walk_at "isv"); (case rs => walk_at "isvs")))
local macro_rules | `(tactic| walk_at "isfs") => `(tactic| first | exact Sp.IsFs.nil | (refine' Sp.IsFs.cons ?iv ?rs; (case iv => walk_at "isv"); (case rs => walk_at "isfs")))
local macro_rules | `(tactic| walk_at "sz1") => `(tactic| first | exact trivial | exact Sp.biI _ | exact Sp.bqI _ | exact ⟨Sp.biI _, Sp.biI _⟩ | exact ⟨Sp.bqI _, Sp.bqI _⟩ | exact ⟨⟨Sp.biI _, Sp.biI _⟩, Sp.biI _, Sp.biI _⟩ | exact ⟨Sp.bqI _, Sp.bqI _, Sp.bqI _⟩ | assumption | exact Sp.SzD.mono (by assumption) (by decide))
local macro_rules | `(tactic| walk_at "okt") => `(tactic| first | rfl | assumption | decide)
local macro_rules | `(tactic| walk_at "dsok") => `(tactic| first | exact trivial | (refine And.intro (And.intro ?oa ?ob) ?rs; (case oa => walk_at "okt"); (case ob => walk_at "sz1"); (case rs => walk_at "dsok")))
local macro_rules | `(tactic| walk_at "sc") => `(tactic| first | rfl | assumption | decide | omega)
local macro_rules | `(tactic| walk_at "leaf") => `(tactic| first | rfl | assumption | exact True.intro | exact ⟨_, rfl⟩ | exact L2.upd_same | exact L2.ClsV.ty _ | exact L2.ClsV.own _ | decide | exact of_decide_eq_true rfl | exact Sp.cmI _ _ | exact Sp.cdI _ (by first | assumption | omega) | exact Sp.cmL (by decide) | exact Sp.cmR (by decide) | exact ⟨by decide, by decide, by decide⟩ | exact ⟨by decide, by decide⟩ | omega | fail)
local macro_rules | `(tactic| walk_at "cls") => `(tactic| first | exact Sp.ClsD.int | exact Sp.ClsD.bool | exact Sp.ClsD.str | exact Sp.ClsD.own _ | exact Sp.ClsD.tuple | exact Sp.ClsD.list)
local macro_rules | `(tactic| walk_at "args") => `(tactic| repeat (first
  | refine' Sp.aaInt ?_ | refine' Sp.aaBl ?_ | refine' Sp.aaStr ?_ | refine' Sp.aaNon ?_ | (refine' Sp.aaOwn (by assumption) (by rfl) ?_; intro _ _) | (refine' Sp.aaTup (by assumption) ?_; intro _ _) | (refine' Sp.aaAny (by assumption) ?_; intro _ _) | refine' Sp.aaNil ?_))
local macro_rules | `(tactic| walk_at "rd1") => `(tactic| first
  | apply Sp.exI
  | (refine And.intro ?lf ?_; (case lf => walk_at "leaf"))
  | (show @ite Prop (_ = true) _ _ _; first | refine' Sp.iteT (by first | assumption | rfl | exact Sp.nbT (by assumption) | exact Sp.nbF (by assumption)) ?_ | refine' Sp.iteF (by first | assumption | rfl | exact Sp.nbT (by assumption) | exact Sp.nbF (by assumption)) ?_)
  | (refine' Sp.afInt (by assumption) ?_; intro _ _) | (refine' Sp.afBl (by assumption) ?_; intro _ _) | (refine' Sp.afStr (by assumption) ?_; intro _ _) | (refine' Sp.afNon (by assumption) ?_; intro _ _)
  | (refine' Sp.afOwn (by assumption) (by rfl) ?_; intro _ _ _) | (refine' Sp.afTup (by assumption) ?_; intro _ _ _) | (refine' Sp.afRef (by assumption) ?_; intro _ _ _)
  | refine' Sp.asInt ?_ | refine' Sp.asBl ?_ | refine' Sp.asStr ?_ | refine' Sp.asNon ?_
  | (refine' Sp.asOwn (by assumption) (by rfl) ?_; intro _ _) | (refine' Sp.asTup (by assumption) ?_; intro _ _) | (refine' Sp.asRef (by assumption) ?_; intro _ _)
  | refine' Sp.aaInt ?_ | refine' Sp.aaBl ?_ | refine' Sp.aaStr ?_ | refine' Sp.aaNon ?_ | (refine' Sp.aaOwn (by assumption) (by rfl) ?_; intro _ _) | (refine' Sp.aaTup (by assumption) ?_; intro _ _) | (refine' Sp.aaAny (by assumption) ?_; intro _ _) | refine' Sp.aaNil ?_
  | (refine' Sp.fnR ?i ?z ?r ?_; (case i => walk_at "isvs"); (case z => walk_at "dsok"); (case r => walk_at "rel"))
  | (refine' Sp.makeOk ?i ?z ?r ?o ?_; (case i => walk_at "isvs"); (case z => walk_at "dsok"); (case r => walk_at "rel"); (case o => rfl))
  | (refine' Sp.makeEr ?i ?z ?r ?_; (case i => walk_at "isvs"); (case z => walk_at "dsok"); (case r => walk_at "rel"))
  | (refine' Sp.isiD (by assumption) ?i ?c ?o ?t ?_; (case i => walk_at "isv"); (case c => walk_at "cls"); (case o => walk_at "okt"); (case t => decide))
  | (refine' Sp.fldD (by assumption) ?i ?o ?l ?c ?_; (case i => walk_at "isv"); (case o => rfl); (case l => rfl); (case c => decide))
  | (refine' Sp.fldRaw (by assumption) (by assumption) (by rfl) (by decide) (by decide) ?_)
  | (refine' Sp.methRaw (by assumption) (by rfl) ?_)
  | (refine' Sp.setRaw (by assumption) (by assumption) (by rfl) (by decide) (by decide) ?_)
  | (refine' Sp.strD ?i ?o ?_; (case i => walk_at "isv"); (case o => rfl))
  | (refine' Sp.methD ?i ?o ?l ?_; (case i => walk_at "isv"); (case o => rfl); (case l => rfl))
  | (refine' Sp.propD ?i ?o ?_; (case i => walk_at "isv"); (case o => rfl))
  | (refine' Sp.binD ?i ?o ?j ?e ?_; (case i => walk_at "isv"); (case o => rfl); (case j => walk_at "isv"); (case e => rfl))
  | (refine' Sp.unD ?i ?o ?_; (case i => walk_at "isv"); (case o => rfl))
  | (refine' Sp.absD ?i ?o ?_; (case i => walk_at "isv"); (case o => rfl))
  | (refine' Sp.eqOwnD (by assumption) ?i ?o ?j ?e ?n ?_; (case i => walk_at "isv"); (case o => rfl); (case j => walk_at "isv"); (case e => walk_at "okt"); (case n => walk_at "nf"))
  | (refine' Sp.neOwnD (by assumption) ?i ?o ?j ?e ?n ?_; (case i => walk_at "isv"); (case o => rfl); (case j => walk_at "isv"); (case e => walk_at "okt"); (case n => walk_at "nf"))
  | (refine' Sp.tupD (by assumption) ?i ?l ?_; (case i => walk_at "isvs"); (case l => rfl); intro _ _ _)
  | (refine' Sp.lstD (by assumption) ?i ?l ?_; (case i => walk_at "isvs"); (case l => rfl); intro _ _ _)
  | (refine' Sp.raiseD (by assumption) ?i ?e ?l ?_; (case i => walk_at "isvs"); (case e => rfl); (case l => rfl))
  | (refine' Sp.setD (by assumption) (by assumption) rfl rfl rfl (by decide) (by decide) ?_; intro _ _)
  | (refine' Sp.ixTD ?i ?e ?g ?_; (case i => walk_at "isv"); (case e => rfl); (case g => rfl))
  | (refine' Sp.ixLD ?i ?e ?g ?_; (case i => walk_at "isv"); (case e => rfl); (case g => rfl))
  | (refine' Sp.gTupD ?i ?e ?_; (case i => walk_at "isv"); (case e => rfl))
  | (refine' Sp.finD' (by assumption) (by assumption) ?i; (case i => walk_at "isv"))
  | refine' Sp.finE' (by assumption) (by assumption)
  | refine' Sp.finIE (by assumption) (by assumption) (by assumption)
  | (refine' Sp.dipD (by assumption) (by omega) ?m0 ?m1 ?n ?_; (case m0 => first | decide | omega); (case m1 => first | decide | omega); (case n => rfl); intro _ _ _ _ _)
  | (refine' Sp.lawL (by assumption) ?i ?z ?r ?_; (case i => walk_at "isvs"); (case z => walk_at "dsok"); (case r => walk_at "rel"); intro _ _ _)
  | (refine' Sp.lawP (by assumption) ?i ?z ?nd ?pr (by omega) ?nl ?_; (case i => walk_at "isvs"); (case z => walk_at "dsok"); (case nd => rfl); (case pr => walk_at "pre"); (case nl => rfl))
  | (refine' Sp.dctD (by assumption) ?_; intro _ _ _)
  | (refine' Sp.eqDD ?i ?j ?e ?f ?s ?t ?_; (case i => walk_at "isv"); (case j => walk_at "isv"); (case e => rfl); (case f => rfl); (case s => rfl); (case t => rfl))
  | (refine' Sp.neDD ?i ?j ?e ?f ?s ?t ?_; (case i => walk_at "isv"); (case j => walk_at "isv"); (case e => rfl); (case f => rfl); (case s => rfl); (case t => rfl))
  | (refine' Sp.lamD (by assumption) ?_; intro _ _ _ _)
  | (refine' Sp.hokD (by assumption) ?i ?_; (case i => walk_at "isv"); intro _ _ _)
  | (refine' Sp.herP1 (by assumption) ?m ?l ?_; (case m => walk_at "mem"); (case l => rfl); intro _ _ _)
  | (refine' Sp.herP2 (by assumption) ?m ?l ?l2 ?_; (case m => walk_at "mem"); (case l => rfl); (case l2 => rfl); intro _ _ _)
  | (refine' Sp.finL (by assumption) (by assumption) ?i; (case i => walk_at "isv"))
  | fail)
local macro_rules | `(tactic| walk_at "rd1N") => `(tactic| first
  | apply Sp.exI
  | (refine And.intro ?lf ?_; (case lf => walk_at "leaf"))
  | (show @ite Prop (_ = true) _ _ _; first | refine' Sp.iteT (by first | assumption | rfl | exact Sp.nbT (by assumption) | exact Sp.nbF (by assumption)) ?_ | refine' Sp.iteF (by first | assumption | rfl | exact Sp.nbT (by assumption) | exact Sp.nbF (by assumption)) ?_)
  | (refine' Sp.afInt (by assumption) ?_; intro _ _) | (refine' Sp.afBl (by assumption) ?_; intro _ _) | (refine' Sp.afStr (by assumption) ?_; intro _ _) | (refine' Sp.afNon (by assumption) ?_; intro _ _)
  | (refine' Sp.afOwn (by assumption) (by rfl) ?_; intro _ _ _) | (refine' Sp.afTup (by assumption) ?_; intro _ _ _) | (refine' Sp.afRef (by assumption) ?_; intro _ _ _)
  | refine' Sp.asInt ?_ | refine' Sp.asBl ?_ | refine' Sp.asStr ?_ | refine' Sp.asNon ?_
  | (refine' Sp.asOwn (by assumption) (by rfl) ?_; intro _ _) | (refine' Sp.asTup (by assumption) ?_; intro _ _) | (refine' Sp.asRef (by assumption) ?_; intro _ _)
  | refine' Sp.aaInt ?_ | refine' Sp.aaBl ?_ | refine' Sp.aaStr ?_ | refine' Sp.aaNon ?_ | (refine' Sp.aaOwn (by assumption) (by rfl) ?_; intro _ _) | (refine' Sp.aaTup (by assumption) ?_; intro _ _) | (refine' Sp.aaAny (by assumption) ?_; intro _ _) | refine' Sp.aaNil ?_
  | (refine' Sp.fnR ?i ?z ?r ?_; (case i => walk_at "isvs"); (case z => walk_at "dsok"); (case r => walk_at "rel"))
  | (refine' Sp.makeOk ?i ?z ?r ?o ?_; (case i => walk_at "isvs"); (case z => walk_at "dsok"); (case r => walk_at "rel"); (case o => rfl))
  | (refine' Sp.makeEr ?i ?z ?r ?_; (case i => walk_at "isvs"); (case z => walk_at "dsok"); (case r => walk_at "rel"))
  | (refine' Sp.isiD (by assumption) ?i ?c ?o ?t ?_; (case i => walk_at "isv"); (case c => walk_at "cls"); (case o => walk_at "okt"); (case t => decide))
  | (refine' Sp.fldD (by assumption) ?i ?o ?l ?c ?_; (case i => walk_at "isv"); (case o => rfl); (case l => rfl); (case c => decide))
  | (refine' Sp.fldRaw (by assumption) (by assumption) (by rfl) (by decide) (by decide) ?_)
  | (refine' Sp.methRaw (by assumption) (by rfl) ?_)
  | (refine' Sp.setRaw (by assumption) (by assumption) (by rfl) (by decide) (by decide) ?_)
  | (refine' Sp.strD ?i ?o ?_; (case i => walk_at "isv"); (case o => rfl))
  | (refine' Sp.methD ?i ?o ?l ?_; (case i => walk_at "isv"); (case o => rfl); (case l => rfl))
  | (refine' Sp.propD ?i ?o ?_; (case i => walk_at "isv"); (case o => rfl))
  | (refine' Sp.binD ?i ?o ?j ?e ?_; (case i => walk_at "isv"); (case o => rfl); (case j => walk_at "isv"); (case e => rfl))
  | (refine' Sp.unD ?i ?o ?_; (case i => walk_at "isv"); (case o => rfl))
  | (refine' Sp.absD ?i ?o ?_; (case i => walk_at "isv"); (case o => rfl))
  | (refine' Sp.eqOwnD (by assumption) ?i ?o ?j ?e ?n ?_; (case i => walk_at "isv"); (case o => rfl); (case j => walk_at "isv"); (case e => walk_at "okt"); (case n => walk_at "nf"))
  | (refine' Sp.neOwnD (by assumption) ?i ?o ?j ?e ?n ?_; (case i => walk_at "isv"); (case o => rfl); (case j => walk_at "isv"); (case e => walk_at "okt"); (case n => walk_at "nf"))
  | (refine' Sp.raiseD (by assumption) ?i ?e ?l ?_; (case i => walk_at "isvs"); (case e => rfl); (case l => rfl))
  | (refine' Sp.setD (by assumption) (by assumption) rfl rfl rfl (by decide) (by decide) ?_; intro _ _)
  | (refine' Sp.ixTD ?i ?e ?g ?_; (case i => walk_at "isv"); (case e => rfl); (case g => rfl))
  | (refine' Sp.ixLD ?i ?e ?g ?_; (case i => walk_at "isv"); (case e => rfl); (case g => rfl))
  | (refine' Sp.gTupD ?i ?e ?_; (case i => walk_at "isv"); (case e => rfl))
  | (refine' Sp.finD' (by assumption) (by assumption) ?i; (case i => walk_at "isv"))
  | refine' Sp.finE' (by assumption) (by assumption)
  | refine' Sp.finIE (by assumption) (by assumption) (by assumption)
  | (refine' Sp.dipD (by assumption) (by omega) ?m0 ?m1 ?n ?_; (case m0 => first | decide | omega); (case m1 => first | decide | omega); (case n => rfl); intro _ _ _ _ _)
  | (refine' Sp.lawL (by assumption) ?i ?z ?r ?_; (case i => walk_at "isvs"); (case z => walk_at "dsok"); (case r => walk_at "rel"); intro _ _ _)
  | (refine' Sp.lawP (by assumption) ?i ?z ?nd ?pr (by omega) ?nl ?_; (case i => walk_at "isvs"); (case z => walk_at "dsok"); (case nd => rfl); (case pr => walk_at "pre"); (case nl => rfl))
  | (refine' Sp.dctD (by assumption) ?_; intro _ _ _)
  | (refine' Sp.eqDD ?i ?j ?e ?f ?s ?t ?_; (case i => walk_at "isv"); (case j => walk_at "isv"); (case e => rfl); (case f => rfl); (case s => rfl); (case t => rfl))
  | (refine' Sp.neDD ?i ?j ?e ?f ?s ?t ?_; (case i => walk_at "isv"); (case j => walk_at "isv"); (case e => rfl); (case f => rfl); (case s => rfl); (case t => rfl))
  | (refine' Sp.lamD (by assumption) ?_; intro _ _ _ _)
  | (refine' Sp.hokD (by assumption) ?i ?_; (case i => walk_at "isv"); intro _ _ _)
  | (refine' Sp.herP1 (by assumption) ?m ?l ?_; (case m => walk_at "mem"); (case l => rfl); intro _ _ _)
  | (refine' Sp.herP2 (by assumption) ?m ?l ?l2 ?_; (case m => walk_at "mem"); (case l => rfl); (case l2 => rfl); intro _ _ _)
  | (refine' Sp.finL (by assumption) (by assumption) ?i; (case i => walk_at "isv"))
  | fail)
local macro_rules | `(tactic| walk_at "rdN") => `(tactic| repeat (walk_at "rd1N"))
local macro_rules | `(tactic| walk_at "rd") => `(tactic| repeat (walk_at "rd1"))
local macro_rules | `(tactic| walk_at "zs") => `(tactic| (refine' Sp.zsStart (by assumption) ?_; repeat (first | refine' Sp.zsNil ?_ | (refine' Sp.zsInt ?_; intro _) | (refine' Sp.zsRat ?_; intro _) | (refine' Sp.zsStep ?_; intro _ _) | (refine' Sp.zsStem ?_; intro _ _) | (refine' Sp.zsTable ?_; intro _ _ _ _) | (refine' Sp.zsAny ?_; intro _ _))))
local macro_rules | `(tactic| walk_at "go0") => `(tactic| (walk_at "zs"; (have := Sp.Env.of (K := ‹PySem.W.Frag›) ‹L2.Hp›); walk_at "args"))
local macro_rules | `(tactic| walk_at "go") => `(tactic| (walk_at "go0"; walk_at "rd"))
local macro_rules | `(tactic| walk_at "goI0") => `(tactic| (walk_at "zs"; (have := Sp.Env.ofI (K := ‹PySem.W.Frag›) (H := ‹L2.Hp›) (by assumption)); walk_at "args"))
local macro_rules | `(tactic| walk_at "goI") => `(tactic| (walk_at "goI0"; walk_at "rd"))
local macro_rules | `(tactic| walk_at "goL") => `(tactic| (walk_at "zs"; walk_at "args"; walk_at "rd"))
local macro_rules | `(tactic| walk_at "rel") => `(tactic| first
  | (apply Sp.RIsInt.mk <;> walk_at "sc")
  | (apply Sp.RIsRat.mk <;> walk_at "sc")
  | (apply Sp.RSign.mk <;> walk_at "sc")
  | (apply Sp.RInitR.one <;> walk_at "sc")
  | (apply Sp.RInitR.ok <;> walk_at "sc")
  | (apply Sp.RInitR.z <;> walk_at "sc")
  | (apply Sp.RInitR.t <;> walk_at "sc")
  | (apply Sp.RInitR.b <;> walk_at "sc")
  | (apply Sp.ROf.r <;> walk_at "sc")
  | (apply Sp.ROf.i <;> walk_at "sc")
  | (apply Sp.ROf.n <;> walk_at "sc")
  | (apply Sp.RBinR.r <;> walk_at "sc")
  | (apply Sp.RBinR.i <;> walk_at "sc")
  | (apply Sp.RBinR.n <;> walk_at "sc")
  | (apply Sp.ROver.r <;> walk_at "sc")
  | (apply Sp.ROver.i <;> walk_at "sc")
  | (apply Sp.ROver.z <;> walk_at "sc")
  | (apply Sp.ROver.zi <;> walk_at "sc")
  | (apply Sp.ROver.n <;> walk_at "sc")
  | (apply Sp.RCmp.r <;> walk_at "sc")
  | (apply Sp.RCmp.i <;> walk_at "sc")
  | (apply Sp.RCmp.n <;> walk_at "sc")
  | (apply Sp.RBelow.r <;> walk_at "sc")
  | (apply Sp.RBelow.i <;> walk_at "sc")
  | (apply Sp.RBelow.n <;> walk_at "sc")
  | (apply Sp.RUnR.mk <;> walk_at "sc")
  | (apply Sp.REqR.r <;> walk_at "sc")
  | (apply Sp.REqR.i <;> walk_at "sc")
  | (apply Sp.REqR.n <;> walk_at "sc")
  | (apply Sp.RPropR.mk <;> walk_at "sc")
  | (apply Sp.RInitS.ok <;> walk_at "sc")
  | (apply Sp.RInitS.z <;> walk_at "sc")
  | (apply Sp.RInitS.s <;> walk_at "sc")
  | (apply Sp.RInitS.r <;> walk_at "sc")
  | (apply Sp.RNeed.ok <;> walk_at "sc")
  | (apply Sp.RNeed.no <;> walk_at "sc")
  | (apply Sp.RNeedK.ok <;> walk_at "sc")
  | (apply Sp.RNeedK.z <;> walk_at "sc")
  | (apply Sp.RCross.ok <;> walk_at "sc")
  | (apply Sp.RCross.one <;> walk_at "sc")
  | (apply Sp.RCross.oth <;> walk_at "sc")
  | (apply Sp.RAreN.ok <;> walk_at "sc")
  | (apply Sp.RAreN.one <;> walk_at "sc")
  | (apply Sp.RAreN.oth <;> walk_at "sc")
  | (apply Sp.RNeedN.ok <;> walk_at "sc")
  | (apply Sp.RNeedN.no <;> walk_at "sc")
  | (apply Sp.RNeedN.one <;> walk_at "sc")
  | (apply Sp.RNeedN.oth <;> walk_at "sc")
  | (apply Sp.RBetween.ok <;> walk_at "sc")
  | (apply Sp.RBetween.no <;> walk_at "sc")
  | (apply Sp.RBetween.one <;> walk_at "sc")
  | (apply Sp.RBetween.oth <;> walk_at "sc")
  | (apply Sp.RSummed.ok <;> walk_at "sc")
  | (apply Sp.RSummed.z <;> walk_at "sc")
  | (apply Sp.RBinS.ok <;> walk_at "sc")
  | (apply Sp.RBinS.z <;> walk_at "sc")
  | (apply Sp.RBinS.n <;> walk_at "sc")
  | (apply Sp.RMulS.ok <;> walk_at "sc")
  | (apply Sp.RMulS.z <;> walk_at "sc")
  | (apply Sp.RMulS.n <;> walk_at "sc")
  | (apply Sp.RNegS.mk <;> walk_at "sc")
  | (apply Sp.REqS.s <;> walk_at "sc")
  | (apply Sp.REqS.n <;> walk_at "sc")
  | (apply Sp.RIsUp.mk <;> walk_at "sc")
  | (apply Sp.RUpw.mk <;> walk_at "sc")
  | (apply Sp.ROneR.mk <;> walk_at "sc")
  | (apply Sp.RCorner.ok <;> walk_at "sc")
  | (apply Sp.RCorner.z <;> walk_at "sc")
  | (apply Sp.RStrS.mk <;> walk_at "sc")
  | (apply Sp.RTold.ok <;> walk_at "sc")
  | (apply Sp.RTold.no <;> walk_at "sc")
  | (apply Sp.RComm.mk <;> walk_at "sc")
  | (apply Sp.RNear.mk <;> walk_at "sc")
  | (apply Sp.ROne.mk <;> walk_at "sc")
  | (apply Sp.RTwo.mk <;> walk_at "sc")
  | fail)
local macro_rules | `(tactic| walk_at "nf") => `(tactic| first | exact (‹∀ t ∈ Sp.tsL, PySem.W.notFirst ‹PySem.W.Frag› (Sp.ca ‹PySem.W.Frag› Sp.Cn.Step) (Sp.tv ‹PySem.W.Frag› t) = true›) (Sp.Ty0.own Sp.Cn.Step) (by decide) | exact (‹∀ t ∈ Sp.tsL, PySem.W.notFirst ‹PySem.W.Frag› (Sp.ca ‹PySem.W.Frag› Sp.Cn.Step) (Sp.tv ‹PySem.W.Frag› t) = true›) Sp.Ty0.tuple (by decide) | fail)
local macro_rules | `(tactic| walk_at "pre") => `(tactic| first | rfl | exact ⟨_, _, rfl, by assumption⟩)
namespace Sp
open PySem PySem.Spec PyProof.Rows L2
open PySem.W (Frag)
section
variable {P : Program} {w : World} {K : PySem.W.Frag} {mg : Str → Option Value} {base : Heap} {f : Addr} {fd : FuncData} {T : List (Addr × Str)}
variable (h_gcd : mg "gcd" = some (.builtin "math.gcd")) {tk1 tk2 : Tok} (h_most : mg "MOST_DIGITS" = some (.int 60 tk1)) (h_digits : mg "DIGITS" = some (.str "0123456789" tk2)) (h_all : mg "all" = none)
variable (g_xBadRatio : GXN P w K mg base 1 "BadRatio" ["part"] (cX K "BadRatio"))
  (g_xBadStep : GXN P w K mg base 1 "BadStep" ["part"] (cX K "BadStep"))
  (g_xBadNumber : GXN P w K mg base 1 "BadNumber" ["part"] (cX K "BadNumber"))
  (g_xRound : GXN P w K mg base 1 "Round" ["part"] (cX K "Round"))
  (g_xNotNeighbours : GXN P w K mg base 1 "NotNeighbours" ["one", "other"] (cX K "NotNeighbours"))
  (g_xCommon : GXN P w K mg base 1 "Common" ["divisor"] (cX K "Common"))
  (g_xBadText : GXN P w K mg base 1 "BadText" ["line", "word"] (cX K "BadText"))
  (g_is_integer : GD P w K mg base (L2.CX P w) 1 "is_integer" ["value"] [] (spR K csL tsL 3900 RIsInt))
  (g_is_ratio : GD P w K mg base (L2.CX P w) 2 "is_ratio" ["value"] [] (spR K csL tsL 3900 RIsRat))
  (g_sign_of : GD P w K mg base (L2.CX P w) 1 "sign_of" ["number"] [] (spR K csL tsL 100000 RSign))
  (g_mRatio : GM P w K mg base (L2.CX P w) 3 "Ratio" (ca K .Ratio) ["self", "top", "bottom"] [] (spRI K csL tsL .Ratio 3900 RInitR)) (g_mRatio1 : GM P w K mg base (L2.CX P w) 3 "Ratio" (ca K .Ratio) ["self", "top", "bottom"] [.int 1] (spRI K csL tsL .Ratio 3900 RInitR))
  (g_Ratio_of : GS P w K mg base (L2.CX P w) 5 (ca K .Ratio) "of" (spR K csL tsL 3900 (ROf "BadRatio" "value")))
  (g_at_right : GD P w K mg base (L2.CX P w) 6 "at_right" ["value"] [] (spR K csL tsL 3900 (ROf "BadRatio" "other")))
  (g_Ratio_Add : GO P w K mg base (L2.CX P w) 7 (ca K .Ratio) .Add (spR K csL tsL 1900 (RBinR (· + ·))))
  (g_Ratio_Sub : GO P w K mg base (L2.CX P w) 7 (ca K .Ratio) .Sub (spR K csL tsL 1900 (RBinR (· - ·))))
  (g_Ratio_Mult : GO P w K mg base (L2.CX P w) 7 (ca K .Ratio) .Mult (spR K csL tsL 1900 (RBinR (· * ·))))
  (g_Ratio_over : GH P w K mg base (L2.CX P w) 7 (ca K .Ratio) "over" ["self", "other"] (spR K csL tsL 1900 ROver))
  (g_Ratio_USub : GN P w K mg base (L2.CX P w) 5 (ca K .Ratio) "__neg__" (spR K csL tsL 3900 (RUnR (fun q => -q))))
  (g_Ratio_abs : GN P w K mg base (L2.CX P w) 5 (ca K .Ratio) "__abs__" (spR K csL tsL 3900 (RUnR qabs)))
  (g_Ratio_eq : GN P w K mg base (L2.CX P w) 2 (ca K .Ratio) "__eq__" (spR K csL tsL 3900 REqR)) (g_Ratio_eq_ne : GNe P w K mg base (L2.CX P w) 2 (ca K .Ratio) (spR K csL tsL 3900 REqR)) (nf_Ratio : ∀ t ∈ tsL, PySem.W.notFirst K (ca K .Ratio) (tv K t) = true)
  (g_Ratio_sign : GP P w K mg base (L2.CX P w) 2 (ca K .Ratio) "sign" (spR K csL tsL 3900 (RPropR fun q => .int q.num.sign)))
  (g_Ratio_below : GP P w K mg base (L2.CX P w) 1 (ca K .Ratio) "below" (spR K csL tsL 3900 (RPropR fun q => .int q.floor)))
  (g_mStep : GM P w K mg base (L2.CX P w) 3 "Step" (ca K .Step) ["self", "studs", "rounds"] [] (spRI K csL tsL .Step 3900 RInitS))
  (g_need_step : GD P w K mg base (L2.CX P w) 3 "need_step" ["value", "part"] [] (spR K csL tsL 100000 (RNeed .Step "BadStep")))
  (g_need_studs : GD P w K mg base (L2.CX P w) 3 "need_studs" ["step", "part"] [] (spR K csL tsL 100000 RNeedK))
  (g_is_upward : GD P w K mg base (L2.CX P w) 1 "is_upward" ["step"] [] (spR K csL tsL 3900 RIsUp))
  (g_summed : GD P w K mg base (L2.CX P w) 5 "summed" ["studs", "rounds"] [] (spR K csL tsL 3900 RSummed))
  (g_Step_Add : GO P w K mg base (L2.CX P w) 6 (ca K .Step) .Add (spR K csL tsL 1900 (RBinS (· + ·))))
  (g_Step_Sub : GO P w K mg base (L2.CX P w) 6 (ca K .Step) .Sub (spR K csL tsL 1900 (RBinS (· - ·))))
  (g_Step_USub : GN P w K mg base (L2.CX P w) 5 (ca K .Step) "__neg__" (spR K csL tsL 3900 RNegS))
  (g_Step_Mult : GO P w K mg base (L2.CX P w) 5 (ca K .Step) .Mult (spR K csL tsL 1900 RMulS))
  (g_Step_eq : GN P w K mg base (L2.CX P w) 1 (ca K .Step) "__eq__" (spR K csL tsL 3900 REqS)) (g_Step_eq_ne : GNe P w K mg base (L2.CX P w) 1 (ca K .Step) (spR K csL tsL 3900 REqS)) (nf_Step : ∀ t ∈ tsL, PySem.W.notFirst K (ca K .Step) (tv K t) = true)
  (g_Step_upward : GP P w K mg base (L2.CX P w) 5 (ca K .Step) "upward" (spR K csL tsL 3900 RUpw))
  (g_Step_corner : GP P w K mg base (L2.CX P w) 5 (ca K .Step) "corner" (spR K csL tsL 3900 RCorner))
  (g_Step_one_round : GS0 P w K mg base (L2.CX P w) 5 (ca K .Step) "one_round" (spR K csL tsL 3900 ROneR))
  (g_cross : GD P w K mg base (L2.CX P w) 4 "cross" ["one", "other"] [] (spR K csL tsL 1900 RCross))
  (g_are_neighbours : GD P w K mg base (L2.CX P w) 5 "are_neighbours" ["one", "other"] [] (spR K csL tsL 1900 RAreN))
  (g_need_neighbours : GD P w K mg base (L2.CX P w) 6 "need_neighbours" ["one", "other"] [] (spR K csL tsL 1900 RNeedN))
  (g_between : GD P w K mg base (L2.CX P w) 7 "between" ["one", "other"] [] (spR K csL tsL 1900 RBetween))
  (g_integer_of : GD P w K mg base (L2.CX P w) 1 "integer_of" ["word"] [] (spR K csL tsL 100000 RIntOf))
  (g_mWords : GM P w K mg base (L2.CX P w) 1 "Words" (ca K .Words) ["self", "words", "done", "last"] [] (spInitW K))
  (g_Words_is_over : GH P w K mg base (L2.CX P w) 1 (ca K .Words) "is_over" ["self"] (spWp K RIsOver))
  (g_Words_take : GH P w K mg base (L2.CX P w) 3 (ca K .Words) "take" ["self"] (spW K RTake))
  (g_Words_refuse : GH P w K mg base (L2.CX P w) 3 (ca K .Words) "refuse" ["self"] (spW K RRefuse))
  (g_Words_integer : GH P w K mg base (L2.CX P w) 4 (ca K .Words) "integer" ["self"] (spW K RInteg))
  (g_Words_end : GH P w K mg base (L2.CX P w) 3 (ca K .Words) "end" ["self"] (spWp K REndW))
  (g_words_in : GD P w K mg base (L2.CX P w) 3 "words_in" ["text"] [] (spWords K csL tsL))
  (g_take_step : GD P w K mg base (L2.CX P w) 5 "take_step" ["words"] [] (spW K RTakeS))
  (g_read_whole : GD P w K mg base (L2.CX P w) 6 "read_whole" ["text", "take"] [] (spReadW K csL tsL (He.ga K "take_step") RTakeS))
  (g_Step_read : GC P w K mg base (L2.CX P w) 7 (ca K .Step) "read" (spReadC K csL tsL RTakeS))
  (g_Step_str : GN P w K mg base (L2.CX P w) 1 (ca K .Step) "__str__" (spR K csL tsL 3900 RStrS))
  (g_inverse : GD P w K mg base (L2.CX P w) 1 "inverse" ["number", "modulus"] [] (spInv K))
  (g_mate : GD P w K mg base (L2.CX P w) 5 "mate" ["step"] [] (spMate K csL tsL))
  (g_l_pail : GD P w K mg base (L2.CX P w) 1 "_law_pail" ["_law_script"] [] (spPail K))
  (g_l_dip : GD P w K mg base (L2.CX P w) 1 "_law_dip" ["_law_pail_here", "_law_many"] [] spDip)
  (g_l_number : GD P w K mg base (L2.CX P w) 2 "_law_number" ["_law_pail_here", "_law_many"] [] (spLP K csL tsL T 60 900000 3 (fun ds => ds = [.int 30]) (fun _ d => ∃ i : Int, d = .int i ∧ i.natAbs < 2 ^ 46)))
  (g_l_pair : GD P w K mg base (L2.CX P w) 3 "_law_pair" ["_law_pail_here"] [] (spLP K csL tsL T 60 800000 20 (fun ds => ds = []) (fun _ d => ∃ k j : Int, d = .tup [.int k, .int j] ∧ Pk 49 k j)))
  (g_l_common : GD P w K mg base (L2.CX P w) 1 "_law_common" ["_law_one", "_law_other"] [] (spR K csL tsL 60 RComm))
  (g_l_told : GD P w K mg base (L2.CX P w) 1 "_law_told" ["_law_step"] [] (spR K csL tsL 100000 RTold))
  (g_l_nearest : GD P w K mg base (L2.CX P w) 1 "_law_nearest" ["_law_pair_here"] [] (spR K csL tsL 60 RNear))
  (g_l_one_right : GD P w K mg base (L2.CX P w) 18 "_law_one_right" ["_law_pair_here"] [] (spL K csL tsL T 60 ROne))
  (g_l_two_right : GD P w K mg base (L2.CX P w) 18 "_law_two_right" ["_law_one", "_law_other"] [] (spL K csL tsL T 60 RTwo))
  (g_l_mate_right : GD P w K mg base (L2.CX P w) 18 "_law_mate_right" ["_law_pair_here"] [] (spL K csL tsL T 60 ROne))
  (g_l_refused_right : GD P w K mg base (L2.CX P w) 18 "_law_refused_right" ["_law_pail_here", "_law_pair_here"] [] (spLP K csL tsL T 60 700000 5 (fun ds => ∃ k j : Int, ds = [.tup [.int k, .int j]] ∧ Pk 52 k j) (fun _ d => d = .bl true)))
  (g_l_text_right : GD P w K mg base (L2.CX P w) 18 "_law_text_right" ["_law_pail_here", "_law_pair_here"] [] (spLP K csL tsL T 60 700000 10 (fun ds => ∃ k j : Int, ds = [.tup [.int k, .int j]] ∧ Pk 52 k j) (fun _ d => d = .bl true)))
variable (g_take_step_l : GL P w K mg base (L2.CX P w) 5 "take_step" (spW K RTakeS))
variable (g_mStep_krs : GMK P w K mg base (L2.CX P w) 3 "Step" (ca K .Step) ["rounds", "studs"] [1, 0] (spRI K csL tsL .Step 3900 RInitS))
  (g_cross_k : GDK P w K mg base (L2.CX P w) 4 "cross" ["other", "one"] 2 [1, 0] (spR K csL tsL 1900 RCross))

theorem sc__law_common : FnScope ["_law_one", "_law_other", "_law_here", "_law_there", "_law_turn"] ["_law_one", "_law_other"] (defScope (topS 46)) := ⟨rfl, rfl, rfl, by decide +kernel, rfl, by decide +kernel, by decide +kernel⟩
theorem ok__law_common (G : G0 K mg csL tsL) (F : FP K "_law_common" "_law_common" (topS 46) [] f fd) : FnOk P w K mg base (L2.CX P w) 1 f fd ["_law_one", "_law_other"] (spR K csL tsL 60 RComm) := by
  have nd := sc__law_common.nd
  refine okR F sc__law_common (fun ds o r => by cases r <;> rfl) (fun cdv A outer s H ds o Q E hr z r q => ⟨_, pss_cons (ps_par (i := 2) (j := 3) rfl nd rfl rfl (by decide) rfl rfl (pa_cons (pe_callB call_abs rfl G.nm.abs (by decide +kernel) (pa_cons (pv 0) (pa_nil))) (pa_cons (pe_callB call_abs rfl G.nm.abs (by decide +kernel) (pa_cons (pv 1) (pa_nil))) pa_nil)) rfl) (pss_cons (ps_for (passes_of rfl) rfl (pi_range1 rfl G.nm.range (pa_cons (pe_int) (pa_nil))) (pg_name (i := 4) nd rfl (Or.inl rfl)) (pss_one (ps_if (pt_cmpR op_gt (pv 3) (pe_int) (nomark _)) (pss_one (ps_par (i := 2) (j := 3) rfl nd rfl rfl (by decide) rfl rfl (pa_cons (pv 3) (pa_cons (pe_op op_mod (pe_callTy call_int1i rfl G.nm.int (by decide +kernel) (pa_cons (pv 2) (pa_nil))) (pv 3)) pa_nil)) rfl)) (pss_nil)))) (pss_one (ps_ret (pv 2)))), ?_⟩)
  cases r with
  | @mk x y =>
    walk_at "go"
    rename_i bx bb hE
    refine for_range (lo := 0) (n := 200) (fun i σ Hh => Bx (∃ a b x4, σ = [some (V.int x), some (V.int y), some (V.int a), some (V.int b), x4] ∧ Hh = H ∧ Eu x y i a b)) ⟨⟨_, _, _, rfl, rfl, Eu.start bx.lt bb.lt⟩⟩ (fun i σ Hh hi hP => ?_) (fun σ Hh hP => ?_)
    · obtain ⟨a, b, x4, rfl, rfl, eu⟩ := hP.out
      walk_at "rd"
      refine iteP (fun h => ?_) (fun h => ?_)
      · have h : 0 < b := of_decide_eq_true h
        walk_at "rd"
        exact ⟨⟨_, _, _, rfl, rfl, eu.step h (by have := eu.done; omega)⟩⟩
      · have h : ¬ 0 < b := fun z => h (decide_eq_true z)
        walk_at "rd"
        exact ⟨⟨_, _, _, rfl, rfl, eu.stay h⟩⟩
    · obtain ⟨a, b, x4, rfl, rfl, eu⟩ := hP.out
      obtain rfl := eu.done (by decide)
      have e := eu.gcd
      subst e
      walk_at "rd"
theorem sc__law_number : FnScope ["_law_pail_here", "_law_many", "_law_found"] ["_law_pail_here", "_law_many"] (defScope (topS 44)) := ⟨rfl, rfl, rfl, by decide +kernel, rfl, by decide +kernel, by decide +kernel⟩
include g_l_dip in
theorem ok__law_number (G : G0 K mg csL tsL) (F : FP K "_law_number" "_law_number" (topS 44) [] f fd) : FnOk P w K mg base (L2.CX P w) 2 f fd ["_law_pail_here", "_law_many"] (spLP K csL tsL T 60 900000 3 (fun ds => ds = [.int 30]) (fun _ d => ∃ i : Int, d = .int i ∧ i.natAbs < 2 ^ 46)) := by
  have nd := sc__law_number.nd
  refine okP0 F sc__law_number (fun ds h => by subst h; rfl) (fun cdv A outer s H a c' m ds Q E hr z nds pr hm q hE => ⟨_, pss_cons (ps_set (i := 2) nd rfl (Or.inl rfl) (pe_op op_sub (pe_gd g_l_dip (hr.mono (by decide)) rfl (pxE rfl rfl rfl rfl) (pa_cons (pv 0) (pa_cons (pe_op op_add (pe_op op_mulB (pe_int) (pv 1)) (pe_int)) (pa_nil)))) (pv 1))) (pss_cons (ps_if (pt_cmpR op_eq (pe_gd g_l_dip (hr.mono (by decide)) rfl (pxE rfl rfl rfl rfl) (pa_cons (pv 0) (pa_cons (pe_int) (pa_nil)))) (pe_int) (nomark _)) (pss_one (ps_set (i := 2) nd rfl (Or.inl rfl) (pe_op op_add (pe_op op_mulB (pe_op op_mulB (pv 2) (pe_int)) (pe_int)) (pe_gd g_l_dip (hr.mono (by decide)) rfl (pxE rfl rfl rfl rfl) (pa_cons (pv 0) (pa_cons (pe_int) (pa_nil))))))) (pss_nil)) (pss_one (ps_ret (pv 2)))), ?_⟩)
  subst pr
  walk_at "goL"
  rename_i d1 H1 p1 p2 e1 d2 H2 p3 p4 e2
  have z1 : (d1 - 30).natAbs < 2 ^ 5 := by omega
  have b1 : Bi (d1 - 30) 5 := ⟨z1⟩
  have b2 : Bi (999961 : Int) 20 := ⟨by decide⟩
  have b3 : Bi (999959 : Int) 20 := ⟨by decide⟩
  refine iteP (fun h => ?_) (fun h => ?_)
  · walk_at "rd"
    rename_i d3 H3 p5 p6 e3
    have z2 : ((d1 - 30) * 999961 * 999959).natAbs < 2 ^ 45 := by omega
    exact finP q e3 (by omega) ⟨_, rfl, by omega⟩ (.int _)
  · walk_at "rd"
    exact finP q e2 (by omega) ⟨_, rfl, by omega⟩ (.int _)
theorem sc__law_pair : FnScope ["_law_pail_here", "_law_pair_here", "_law_way", "_law_times"] ["_law_pail_here"] (defScope (topS 45)) := ⟨rfl, rfl, rfl, by decide +kernel, rfl, by decide +kernel, by decide +kernel⟩
include g_l_dip g_l_number in
theorem ok__law_pair (G : G0 K mg csL tsL) (F : FP K "_law_pair" "_law_pair" (topS 45) [] f fd) : FnOk P w K mg base (L2.CX P w) 3 f fd ["_law_pail_here"] (spLP K csL tsL T 60 800000 20 (fun ds => ds = []) (fun _ d => ∃ k j : Int, d = .tup [.int k, .int j] ∧ Pk 49 k j)) := by
  have nd := sc__law_pair.nd
  refine okP0 F sc__law_pair (fun ds h => by subst h; rfl) (fun cdv A outer s H a c' m ds Q E hr z nds pr hm q hE => ⟨_, pss_cons (ps_set (i := 1) nd rfl (Or.inl rfl) (pe_tupE (pa_cons (pe_gd g_l_number (hr.mono (by decide)) rfl (pxE rfl rfl rfl rfl) (pa_cons (pv 0) (pa_cons (pe_int) (pa_nil)))) (pa_cons (pe_gd g_l_number (hr.mono (by decide)) rfl (pxE rfl rfl rfl rfl) (pa_cons (pv 0) (pa_cons (pe_int) (pa_nil)))) (pa_nil))))) (pss_cons (ps_set (i := 2) nd rfl (Or.inl rfl) (pe_gd g_l_dip (hr.mono (by decide)) rfl (pxE rfl rfl rfl rfl) (pa_cons (pv 0) (pa_cons (pe_int) (pa_nil))))) (pss_cons (ps_if (pt_cmpR op_eq (pv 2) (pe_int) (nomark _)) (pss_one (ps_set (i := 1) nd rfl (Or.inl rfl) (pe_tupE (pa_cons (pe_int) (pa_cons (pe_ix ix_tup (pv 1) (pe_int) (fun _ _ => rfl)) (pa_nil)))))) (pss_nil)) (pss_cons (ps_if (pt_cmpR op_eq (pv 2) (pe_int) (nomark _)) (pss_cons (ps_set (i := 3) nd rfl (Or.inl rfl) (pe_op op_add (pe_int) (pe_gd g_l_dip (hr.mono (by decide)) rfl (pxE rfl rfl rfl rfl) (pa_cons (pv 0) (pa_cons (pe_int) (pa_nil)))))) (pss_one (ps_set (i := 1) nd rfl (Or.inl rfl) (pe_tupE (pa_cons (pe_op op_mulB (pe_ix ix_tup (pv 1) (pe_int) (fun _ _ => rfl)) (pv 3)) (pa_cons (pe_op op_mulB (pe_ix ix_tup (pv 1) (pe_int) (fun _ _ => rfl)) (pv 3)) (pa_nil))))))) (pss_nil)) (pss_one (ps_ret (pe_ifExp (pt_cmpR (op_neD hr.units) (pv 1) (pe_tupE (pa_cons (pe_int) (pa_cons (pe_int) (pa_nil)))) (nomark _)) (pv 1) (pe_tupE (pa_cons (pe_int) (pa_cons (pe_int) (pa_nil)))))))))), ?_⟩)
  subst pr
  walk_at "goL"
  intro v1 H1 d1 r1 e1
  obtain ⟨i1, rfl, l1⟩ := r1
  obtain rfl := (e1.get List.mem_cons_self).intE
  walk_at "rd"
  intro v2 H2 d2 r2 e2
  obtain ⟨i2, rfl, l2⟩ := r2
  obtain rfl := (e2.get List.mem_cons_self).intE
  have b1 : Bi i1 46 := ⟨l1⟩
  have b2 : Bi i2 46 := ⟨l2⟩
  have fin : ∀ {H' : Hp} {L : List (V × Dt)} {M : Nat} {v : V} {k j : Int}, Env K (.law T (some (a, c', M))) H H' L → M ≤ m + 20 → IsV K H' v (.tup [.int k, .int j]) → Pk 49 k j → Q v H' := fun h l i p => finP q h l ⟨_, _, rfl, p⟩ i
  have end_ : ∀ {H' : Hp} {L : List (V × Dt)} {M : Nat} {p : Addr} {k j : Int}, Env K (.law T (some (a, c', M))) H H' L → M ≤ m + 20 → IsV K H' (.ref p) (.tup [.int k, .int j]) → k.natAbs < 2 ^ 49 → j.natAbs < 2 ^ 49 →
      (!PyData.eqv (.tuple [.int k, .int j]) (.tuple [.int 0, .int 0])) = true → Q (.ref p) H' := fun h l i z1 z2 e => fin h l i ⟨fun z => (by
        rw [eqv_int2, decide_eq_true z.1, decide_eq_true z.2] at e
        exact Bool.noConfusion e), z1, z2⟩
  have one : Pk 49 0 1 := ⟨by decide, by decide, by decide⟩
  walk_at "rd"
  rename_i w1 H4 y1 y2 e4
  refine iteP (fun h => ?_) (fun h => ?_)
  · walk_at "rd"
    refine iteP (fun h' => ?_) (fun h' => ?_)
    · exact absurd ((of_decide_eq_true h).symm.trans (of_decide_eq_true h')) (by simp)
    · walk_at "rd"
      refine iteP (fun hn => ?_) (fun hn => ?_)
      · exact ⟨_, rfl, end_ (by assumption) (by omega) (by walk_at "isv") (by decide) (by omega) hn⟩
      · walk_at "rd"
        exact fin (by assumption) (by omega) (by walk_at "isv") one
  · walk_at "rd"
    refine iteP (fun h' => ?_) (fun h' => ?_)
    · walk_at "rd"
      rename_i w2 H5 y3 y4 e5
      have b4 : Bi w2 2 := ⟨by omega⟩
      walk_at "rd"
      refine iteP (fun hn => ?_) (fun hn => ?_)
      · exact ⟨_, rfl, end_ (by assumption) (by omega) (by walk_at "isv") (biL (i := i1 * (2 + w2)) _) (biL (i := i2 * (2 + w2)) _) hn⟩
      · walk_at "rd"
        exact fin (by assumption) (by omega) (by walk_at "isv") one
    · walk_at "rd"
      refine iteP (fun hn => ?_) (fun hn => ?_)
      · exact ⟨_, rfl, end_ (by assumption) (by omega) (by walk_at "isv") (by omega) (by omega) hn⟩
      · walk_at "rd"
        exact fin (by assumption) (by omega) (by walk_at "isv") one
end
end Sp
end
section
set_option Elab.async false
set_option linter.all false
set_option exponentiation.threshold 5000
set_option maxRecDepth 100000
set_option maxHeartbeats 0
local macro_rules | `(tactic| walk_at "mem") => `(tactic| first | exact List.mem_cons_self | (refine List.mem_cons_of_mem _ ?_; walk_at "mem"))
local macro_rules | `(tactic| walk_at "isv") => `(tactic| first | exact Sp.IsV.int _ | exact Sp.IsV.str _ | exact Sp.IsV.bl _ | exact Sp.IsV.non | exact Sp.Env.get (by assumption) (by walk_at "mem") | assumption)
local macro_rules | `(tactic| walk_at "isvs") => `(tactic| first | exact Sp.IsVs.nil | (refine' Sp.IsVs.cons ?iv ?rs; (case iv => walk_at "isv"); (case rs => walk_at "isvs")))
local macro_rules | `(tactic| walk_at "isfs") => `(tactic| first | exact Sp.IsFs.nil | (refine' Sp.IsFs.cons ?iv ?rs; (case iv => walk_at "isv"); (case rs => walk_at "isfs")))
local macro_rules | `(tactic| walk_at "sz1") => `(tactic| first | exact trivial | exact Sp.biI _ | exact Sp.bqI _ | exact ⟨Sp.biI _, Sp.biI _⟩ | exact ⟨Sp.bqI _, Sp.bqI _⟩ | exact ⟨⟨Sp.biI _, Sp.biI _⟩, Sp.biI _, Sp.biI _⟩ | exact ⟨Sp.bqI _, Sp.bqI _, Sp.bqI _⟩ | assumption | exact Sp.SzD.mono (by assumption) (by decide))
local macro_rules | `(tactic| walk_at "okt") => `(tactic| first | rfl | assumption | decide)
local macro_rules | `(tactic| walk_at "dsok") => `(tactic| first | exact trivial | (refine And.intro (And.intro ?oa ?ob) ?rs; (case oa => walk_at "okt"); (case ob => walk_at "sz1"); (case rs => walk_at "dsok")))
local macro_rules | `(tactic| walk_at "sc") => `(tactic| first | rfl | assumption | decide | omega)
local macro_rules | `(tactic| walk_at "leaf") => `(tactic| first | rfl | assumption | exact True.intro | exact ⟨_, rfl⟩ | exact L2.upd_same | exact L2.ClsV.ty _ | exact L2.ClsV.own _ | decide | exact of_decide_eq_true rfl | exact Sp.cmI _ _ | exact Sp.cdI _ (by first | assumption | omega) | exact Sp.cmL (by decide) | exact Sp.cmR (by decide) | exact ⟨by decide, by decide, by decide⟩ | exact ⟨by decide, by decide⟩ | omega | fail)
local macro_rules | `(tactic| walk_at "cls") => `(tactic| first | exact Sp.ClsD.int | exact Sp.ClsD.bool | exact Sp.ClsD.str | exact Sp.ClsD.own _ | exact Sp.ClsD.tuple | exact Sp.ClsD.list)
local macro_rules | `(tactic| walk_at "args") => `(tactic| repeat (first
  | refine' Sp.aaInt ?_ | refine' Sp.aaBl ?_ | refine' Sp.aaStr ?_ | refine' Sp.aaNon ?_ | (refine' Sp.aaOwn (by assumption) (by rfl) ?_; intro _ _) | (refine' Sp.aaTup (by assumption) ?_; intro _ _) | (refine' Sp.aaAny (by assumption) ?_; intro _ _) | refine' Sp.aaNil ?_))
local macro_rules | `(tactic| walk_at "rd1") => `(tactic| first
  | apply Sp.exI
  | (refine And.intro ?lf ?_; (case lf => walk_at "leaf"))
  | (show @ite Prop (_ = true) _ _ _; first | refine' Sp.iteT (by first | assumption | rfl | exact Sp.nbT (by assumption) | exact Sp.nbF (by assumption)) ?_ | refine' Sp.iteF (by first | assumption | rfl | exact Sp.nbT (by assumption) | exact Sp.nbF (by assumption)) ?_)
  | (refine' Sp.afInt (by assumption) ?_; intro _ _) | (refine' Sp.afBl (by assumption) ?_; intro _ _) | (refine' Sp.afStr (by assumption) ?_; intro _ _) | (refine' Sp.afNon (by assumption) ?_; intro _ _)
  | (refine' Sp.afOwn (by assumption) (by rfl) ?_; intro _ _ _) | (refine' Sp.afTup (by assumption) ?_; intro _ _ _) | (refine' Sp.afRef (by assumption) ?_; intro _ _ _)
  | refine' Sp.asInt ?_ | refine' Sp.asBl ?_ | refine' Sp.asStr ?_ | refine' Sp.asNon ?_
  | (refine' Sp.asOwn (by assumption) (by rfl) ?_; intro _ _) | (refine' Sp.asTup (by assumption) ?_; intro _ _) | (refine' Sp.asRef (by assumption) ?_; intro _ _)
  | refine' Sp.aaInt ?_ | refine' Sp.aaBl ?_ | refine' Sp.aaStr ?_ | refine' Sp.aaNon ?_ | (refine' Sp.aaOwn (by assumption) (by rfl) ?_; intro _ _) | (refine' Sp.aaTup (by assumption) ?_; intro _ _) | (refine' Sp.aaAny (by assumption) ?_; intro _ _) | refine' Sp.aaNil ?_
  | (refine' Sp.fnR ?i ?z ?r ?_; (case i => walk_at "isvs"); (case z => walk_at "dsok"); (case r => walk_at "rel"))
  | (refine' Sp.makeOk ?i ?z ?r ?o ?_; (case i => walk_at "isvs"); (case z => walk_at "dsok"); (case r => walk_at "rel"); (case o => rfl))
  | (refine' Sp.makeEr ?i ?z ?r ?_; (case i => walk_at "isvs"); (case z => walk_at "dsok"); (case r => walk_at "rel"))
  | (refine' Sp.isiD (by assumption) ?i ?c ?o ?t ?_; (case i => walk_at "isv"); (case c => walk_at "cls"); (case o => walk_at "okt"); (case t => decide))
  | (refine' Sp.fldD (by assumption) ?i ?o ?l ?c ?_; (case i => walk_at "isv"); (case o => rfl); (case l => rfl); (case c => decide))
  | (refine' Sp.fldRaw (by assumption) (by assumption) (by rfl) (by decide) (by decide) ?_)
  | (refine' Sp.methRaw (by assumption) (by rfl) ?_)
  | (refine' Sp.setRaw (by assumption) (by assumption) (by rfl) (by decide) (by decide) ?_)
  | (refine' Sp.strD ?i ?o ?_; (case i => walk_at "isv"); (case o => rfl))
  | (refine' Sp.methD ?i ?o ?l ?_; (case i => walk_at "isv"); (case o => rfl); (case l => rfl))
  | (refine' Sp.propD ?i ?o ?_; (case i => walk_at "isv"); (case o => rfl))
  | (refine' Sp.binD ?i ?o ?j ?e ?_; (case i => walk_at "isv"); (case o => rfl); (case j => walk_at "isv"); (case e => rfl))
  | (refine' Sp.unD ?i ?o ?_; (case i => walk_at "isv"); (case o => rfl))
  | (refine' Sp.absD ?i ?o ?_; (case i => walk_at "isv"); (case o => rfl))
  | (refine' Sp.eqOwnD (by assumption) ?i ?o ?j ?e ?n ?_; (case i => walk_at "isv"); (case o => rfl); (case j => walk_at "isv"); (case e => walk_at "okt"); (case n => walk_at "nf"))
  | (refine' Sp.neOwnD (by assumption) ?i ?o ?j ?e ?n ?_; (case i => walk_at "isv"); (case o => rfl); (case j => walk_at "isv"); (case e => walk_at "okt"); (case n => walk_at "nf"))
  | (refine' Sp.tupD (by assumption) ?i ?l ?_; (case i => walk_at "isvs"); (case l => rfl); intro _ _ _)
  | (refine' Sp.lstD (by assumption) ?i ?l ?_; (case i => walk_at "isvs"); (case l => rfl); intro _ _ _)
  | (refine' Sp.raiseD (by assumption) ?i ?e ?l ?_; (case i => walk_at "isvs"); (case e => rfl); (case l => rfl))
  | (refine' Sp.setD (by assumption) (by assumption) rfl rfl rfl (by decide) (by decide) ?_; intro _ _)
  | (refine' Sp.ixTD ?i ?e ?g ?_; (case i => walk_at "isv"); (case e => rfl); (case g => rfl))
  | (refine' Sp.ixLD ?i ?e ?g ?_; (case i => walk_at "isv"); (case e => rfl); (case g => rfl))
  | (refine' Sp.gTupD ?i ?e ?_; (case i => walk_at "isv"); (case e => rfl))
  | (refine' Sp.finD' (by assumption) (by assumption) ?i; (case i => walk_at "isv"))
  | refine' Sp.finE' (by assumption) (by assumption)
  | refine' Sp.finIE (by assumption) (by assumption) (by assumption)
  | (refine' Sp.dipD (by assumption) (by omega) ?m0 ?m1 ?n ?_; (case m0 => first | decide | omega); (case m1 => first | decide | omega); (case n => rfl); intro _ _ _ _ _)
  | (refine' Sp.lawL (by assumption) ?i ?z ?r ?_; (case i => walk_at "isvs"); (case z => walk_at "dsok"); (case r => walk_at "rel"); intro _ _ _)
  | (refine' Sp.lawP (by assumption) ?i ?z ?nd ?pr (by omega) ?nl ?_; (case i => walk_at "isvs"); (case z => walk_at "dsok"); (case nd => rfl); (case pr => walk_at "pre"); (case nl => rfl))
  | (refine' Sp.dctD (by assumption) ?_; intro _ _ _)
  | (refine' Sp.eqDD ?i ?j ?e ?f ?s ?t ?_; (case i => walk_at "isv"); (case j => walk_at "isv"); (case e => rfl); (case f => rfl); (case s => rfl); (case t => rfl))
  | (refine' Sp.neDD ?i ?j ?e ?f ?s ?t ?_; (case i => walk_at "isv"); (case j => walk_at "isv"); (case e => rfl); (case f => rfl); (case s => rfl); (case t => rfl))
  | (refine' Sp.lamD (by assumption) ?_; intro _ _ _ _)
  | (refine' Sp.hokD (by assumption) ?i ?_; (case i => walk_at "isv"); intro _ _ _)
  | (refine' Sp.herP1 (by assumption) ?m ?l ?_; (case m => walk_at "mem"); (case l => rfl); intro _ _ _)
  | (refine' Sp.herP2 (by assumption) ?m ?l ?l2 ?_; (case m => walk_at "mem"); (case l => rfl); (case l2 => rfl); intro _ _ _)
  | (refine' Sp.finL (by assumption) (by assumption) ?i; (case i => walk_at "isv"))
  | fail)
local macro_rules | `(tactic| walk_at "rd1N") => `(tactic| first
  | apply Sp.exI
  | (refine And.intro ?lf ?_; (case lf => walk_at "leaf"))
  | (show @ite Prop (_ = true) _ _ _; first | refine' Sp.iteT (by first | assumption | rfl | exact Sp.nbT (by assumption) | exact Sp.nbF (by assumption)) ?_ | refine' Sp.iteF (by first | assumption | rfl | exact Sp.nbT (by assumption) | exact Sp.nbF (by assumption)) ?_)
  | (refine' Sp.afInt (by assumption) ?_; intro _ _) | (refine' Sp.afBl (by assumption) ?_; intro _ _) | (refine' Sp.afStr (by assumption) ?_; intro _ _) | (refine' Sp.afNon (by assumption) ?_; intro _ _)
  | (refine' Sp.afOwn (by assumption) (by rfl) ?_; intro _ _ _) | (refine' Sp.afTup (by assumption) ?_; intro _ _ _) | (refine' Sp.afRef (by assumption) ?_; intro _ _ _)
  | refine' Sp.asInt ?_ | refine' Sp.asBl ?_ | refine' Sp.asStr ?_ | refine' Sp.asNon ?_
  | (refine' Sp.asOwn (by assumption) (by rfl) ?_; intro _ _) | (refine' Sp.asTup (by assumption) ?_; intro _ _) | (refine' Sp.asRef (by assumption) ?_; intro _ _)
  | refine' Sp.aaInt ?_ | refine' Sp.aaBl ?_ | refine' Sp.aaStr ?_ | refine' Sp.aaNon ?_ | (refine' Sp.aaOwn (by assumption) (by rfl) ?_; intro _ _) | (refine' Sp.aaTup (by assumption) ?_; intro _ _) | (refine' Sp.aaAny (by assumption) ?_; intro _ _) | refine' Sp.aaNil ?_
  | (refine' Sp.fnR ?i ?z ?r ?_; (case i => walk_at "isvs"); (case z => walk_at "dsok"); (case r => walk_at "rel"))
  | (refine' Sp.makeOk ?i ?z ?r ?o ?_; (case i => walk_at "isvs"); (case z => walk_at "dsok"); (case r => walk_at "rel"); (case o => rfl))
  | (refine' Sp.makeEr ?i ?z ?r ?_; (case i => walk_at "isvs"); (case z => walk_at "dsok"); (case r => walk_at "rel"))
  | (refine' Sp.isiD (by assumption) ?i ?c ?o ?t ?_; (case i => walk_at "isv"); (case c => walk_at "cls"); (case o => walk_at "okt"); (case t => decide))
  | (refine' Sp.fldD (by assumption) ?i ?o ?l ?c ?_; (case i => walk_at "isv"); (case o => rfl); (case l => rfl); (case c => decide))
  | (refine' Sp.fldRaw (by assumption) (by assumption) (by rfl) (by decide) (by decide) ?_)
  | (refine' Sp.methRaw (by assumption) (by rfl) ?_)
  | (refine' Sp.setRaw (by assumption) (by assumption) (by rfl) (by decide) (by decide) ?_)
  | (refine' Sp.strD ?i ?o ?_; (case i => walk_at "isv"); (case o => rfl))
  | (refine' Sp.methD ?i ?o ?l ?_; (case i => walk_at "isv"); (case o => rfl); (case l => rfl))
  | (refine' Sp.propD ?i ?o ?_; (case i => walk_at "isv"); (case o => rfl))
  | (refine' Sp.binD ?i ?o ?j ?e ?_; (case i => walk_at "isv"); (case o => rfl); (case j => walk_at "isv"); (case e => rfl))
  | (refine' Sp.unD ?i ?o ?_; (case i => walk_at "isv"); (case o => rfl))
  | (refine' Sp.absD ?i ?o ?_; (case i => walk_at "isv"); (case o => rfl))
  | (refine' Sp.eqOwnD (by assumption) ?i ?o ?j ?e ?n ?_; (case i => walk_at "isv"); (case o => rfl); (case j => walk_at "isv"); (case e => walk_at "okt"); (case n => walk_at "nf"))
  | (refine' Sp.neOwnD (by assumption) ?i ?o ?j ?e ?n ?_; (case i => walk_at "isv"); (case o => rfl); (case j => walk_at "isv"); (case e => walk_at "okt"); (case n => walk_at "nf"))
  | (refine' Sp.raiseD (by assumption) ?i ?e ?l ?_; (case i => walk_at "isvs"); (case e => rfl); (case l => rfl))
  | (refine' Sp.setD (by assumption) (by assumption) rfl rfl rfl (by decide) (by decide) ?_; intro _ _)
  | (refine' Sp.ixTD ?i ?e ?g ?_; (case i => walk_at "isv"); (case e => rfl); (case g => rfl))
  | (refine' Sp.ixLD ?i ?e ?g ?_; (case i => walk_at "isv"); (case e => rfl); (case g => rfl))
  | (refine' Sp.gTupD ?i ?e ?_; (case i => walk_at "isv"); (case e => rfl))
  | (refine' Sp.finD' (by assumption) (by assumption) ?i; (case i => walk_at "isv"))
  | refine' Sp.finE' (by assumption) (by assumption)
  | refine' Sp.finIE (by assumption) (by assumption) (by assumption)
  | (refine' Sp.dipD (by assumption) (by omega) ?m0 ?m1 ?n ?_; (case m0 => first | decide | omega); (case m1 => first | decide | omega); (case n => rfl); intro _ _ _ _ _)
  | (refine' Sp.lawL (by assumption) ?i ?z ?r ?_; (case i => walk_at "isvs"); (case z => walk_at "dsok"); (case r => walk_at "rel"); intro _ _ _)
  | (refine' Sp.lawP (by assumption) ?i ?z ?nd ?pr (by omega) ?nl ?_; (case i => walk_at "isvs"); (case z => walk_at "dsok"); (case nd => rfl); (case pr => walk_at "pre"); (case nl => rfl))
  | (refine' Sp.dctD (by assumption) ?_; intro _ _ _)
  | (refine' Sp.eqDD ?i ?j ?e ?f ?s ?t ?_; (case i => walk_at "isv"); (case j => walk_at "isv"); (case e => rfl); (case f => rfl); (case s => rfl); (case t => rfl))
  | (refine' Sp.neDD ?i ?j ?e ?f ?s ?t ?_; (case i => walk_at "isv"); (case j => walk_at "isv"); (case e => rfl); (case f => rfl); (case s => rfl); (case t => rfl))
  | (refine' Sp.lamD (by assumption) ?_; intro _ _ _ _)
  | (refine' Sp.hokD (by assumption) ?i ?_; (case i => walk_at "isv"); intro _ _ _)
  | (refine' Sp.herP1 (by assumption) ?m ?l ?_; (case m => walk_at "mem"); (case l => rfl); intro _ _ _)
  | (refine' Sp.herP2 (by assumption) ?m ?l ?l2 ?_; (case m => walk_at "mem"); (case l => rfl); (case l2 => rfl); intro _ _ _)
  | (refine' Sp.finL (by assumption) (by assumption) ?i; (case i => walk_at "isv"))
  | fail)
local macro_rules | `(tactic| walk_at "rdN") => `(tactic| repeat (walk_at "rd1N"))
local macro_rules | `(tactic| walk_at "rd") => `(tactic| repeat (walk_at "rd1"))
local macro_rules | `(tactic| walk_at "zs") => `(tactic| (refine' Sp.zsStart (by assumption) ?_; repeat (first | refine' Sp.zsNil ?_ | (refine' Sp.zsInt ?_; intro _) | (refine' Sp.zsRat ?_; intro _) | (refine' Sp.zsStep ?_; intro _ _) | (refine' Sp.zsStem ?_; intro _ _) | (refine' Sp.zsTable ?_; intro _ _ _ _) | (refine' Sp.zsAny ?_; intro _ _))))
local macro_rules | `(tactic| walk_at "go0") => `(tactic| (walk_at "zs"; (have := Sp.Env.of (K := ‹PySem.W.Frag›) ‹L2.Hp›); walk_at "args"))
local macro_rules | `(tactic| walk_at "go") => `(tactic| (walk_at "go0"; walk_at "rd"))
local macro_rules | `(tactic| walk_at "goI0") => `(tactic| (walk_at "zs"; (have := Sp.Env.ofI (K := ‹PySem.W.Frag›) (H := ‹L2.Hp›) (by assumption)); walk_at "args"))
local macro_rules | `(tactic| walk_at "goI") => `(tactic| (walk_at "goI0"; walk_at "rd"))
local macro_rules | `(tactic| walk_at "goL") => `(tactic| (walk_at "zs"; walk_at "args"; walk_at "rd"))
local macro_rules | `(tactic| walk_at "rel") => `(tactic| first
  | (apply Sp.RIsInt.mk <;> walk_at "sc")
  | (apply Sp.RIsRat.mk <;> walk_at "sc")
  | (apply Sp.RSign.mk <;> walk_at "sc")
  | (apply Sp.RInitR.one <;> walk_at "sc")
  | (apply Sp.RInitR.ok <;> walk_at "sc")
  | (apply Sp.RInitR.z <;> walk_at "sc")
  | (apply Sp.RInitR.t <;> walk_at "sc")
  | (apply Sp.RInitR.b <;> walk_at "sc")
  | (apply Sp.ROf.r <;> walk_at "sc")
  | (apply Sp.ROf.i <;> walk_at "sc")
  | (apply Sp.ROf.n <;> walk_at "sc")
  | (apply Sp.RBinR.r <;> walk_at "sc")
  | (apply Sp.RBinR.i <;> walk_at "sc")
  | (apply Sp.RBinR.n <;> walk_at "sc")
  | (apply Sp.ROver.r <;> walk_at "sc")
  | (apply Sp.ROver.i <;> walk_at "sc")
  | (apply Sp.ROver.z <;> walk_at "sc")
  | (apply Sp.ROver.zi <;> walk_at "sc")
  | (apply Sp.ROver.n <;> walk_at "sc")
  | (apply Sp.RCmp.r <;> walk_at "sc")
  | (apply Sp.RCmp.i <;> walk_at "sc")
  | (apply Sp.RCmp.n <;> walk_at "sc")
  | (apply Sp.RBelow.r <;> walk_at "sc")
  | (apply Sp.RBelow.i <;> walk_at "sc")
  | (apply Sp.RBelow.n <;> walk_at "sc")
  | (apply Sp.RUnR.mk <;> walk_at "sc")
  | (apply Sp.REqR.r <;> walk_at "sc")
  | (apply Sp.REqR.i <;> walk_at "sc")
  | (apply Sp.REqR.n <;> walk_at "sc")
  | (apply Sp.RPropR.mk <;> walk_at "sc")
  | (apply Sp.RInitS.ok <;> walk_at "sc")
  | (apply Sp.RInitS.z <;> walk_at "sc")
  | (apply Sp.RInitS.s <;> walk_at "sc")
  | (apply Sp.RInitS.r <;> walk_at "sc")
  | (apply Sp.RNeed.ok <;> walk_at "sc")
  | (apply Sp.RNeed.no <;> walk_at "sc")
  | (apply Sp.RNeedK.ok <;> walk_at "sc")
  | (apply Sp.RNeedK.z <;> walk_at "sc")
  | (apply Sp.RCross.ok <;> walk_at "sc")
  | (apply Sp.RCross.one <;> walk_at "sc")
  | (apply Sp.RCross.oth <;> walk_at "sc")
  | (apply Sp.RAreN.ok <;> walk_at "sc")
  | (apply Sp.RAreN.one <;> walk_at "sc")
  | (apply Sp.RAreN.oth <;> walk_at "sc")
  | (apply Sp.RNeedN.ok <;> walk_at "sc")
  | (apply Sp.RNeedN.no <;> walk_at "sc")
  | (apply Sp.RNeedN.one <;> walk_at "sc")
  | (apply Sp.RNeedN.oth <;> walk_at "sc")
  | (apply Sp.RBetween.ok <;> walk_at "sc")
  | (apply Sp.RBetween.no <;> walk_at "sc")
  | (apply Sp.RBetween.one <;> walk_at "sc")
  | (apply Sp.RBetween.oth <;> walk_at "sc")
  | (apply Sp.RSummed.ok <;> walk_at "sc")
  | (apply Sp.RSummed.z <;> walk_at "sc")
  | (apply Sp.RBinS.ok <;> walk_at "sc")
  | (apply Sp.RBinS.z <;> walk_at "sc")
  | (apply Sp.RBinS.n <;> walk_at "sc")
  | (apply Sp.RMulS.ok <;> walk_at "sc")
  | (apply Sp.RMulS.z <;> walk_at "sc")
  | (apply Sp.RMulS.n <;> walk_at "sc")
  | (apply Sp.RNegS.mk <;> walk_at "sc")
  | (apply Sp.REqS.s <;> walk_at "sc")
  | (apply Sp.REqS.n <;> walk_at "sc")
  | (apply Sp.RIsUp.mk <;> walk_at "sc")
  | (apply Sp.RUpw.mk <;> walk_at "sc")
  | (apply Sp.ROneR.mk <;> walk_at "sc")
  | (apply Sp.RCorner.ok <;> walk_at "sc")
  | (apply Sp.RCorner.z <;> walk_at "sc")
  | (apply Sp.RStrS.mk <;> walk_at "sc")
  | (apply Sp.RTold.ok <;> walk_at "sc")
  | (apply Sp.RTold.no <;> walk_at "sc")
  | (apply Sp.RComm.mk <;> walk_at "sc")
  | (apply Sp.RNear.mk <;> walk_at "sc")
  | (apply Sp.ROne.mk <;> walk_at "sc")
  | (apply Sp.RTwo.mk <;> walk_at "sc")
  | fail)
local macro_rules | `(tactic| walk_at "nf") => `(tactic| first | exact (‹∀ t ∈ Sp.tsL, PySem.W.notFirst ‹PySem.W.Frag› (Sp.ca ‹PySem.W.Frag› Sp.Cn.Step) (Sp.tv ‹PySem.W.Frag› t) = true›) (Sp.Ty0.own Sp.Cn.Step) (by decide) | exact (‹∀ t ∈ Sp.tsL, PySem.W.notFirst ‹PySem.W.Frag› (Sp.ca ‹PySem.W.Frag› Sp.Cn.Step) (Sp.tv ‹PySem.W.Frag› t) = true›) Sp.Ty0.tuple (by decide) | fail)
local macro_rules | `(tactic| walk_at "pre") => `(tactic| first | rfl | exact ⟨_, _, rfl, by assumption⟩)
namespace Sp
open PySem PySem.Spec PyProof.Rows L2
open PySem.W (Frag)
section
variable {P : Program} {w : World} {K : PySem.W.Frag} {mg : Str → Option Value} {base : Heap} {f : Addr} {fd : FuncData} {T : List (Addr × Str)}
variable (h_gcd : mg "gcd" = some (.builtin "math.gcd")) {tk1 tk2 : Tok} (h_most : mg "MOST_DIGITS" = some (.int 60 tk1)) (h_digits : mg "DIGITS" = some (.str "0123456789" tk2)) (h_all : mg "all" = none)
variable (g_xBadRatio : GXN P w K mg base 1 "BadRatio" ["part"] (cX K "BadRatio"))
  (g_xBadStep : GXN P w K mg base 1 "BadStep" ["part"] (cX K "BadStep"))
  (g_xBadNumber : GXN P w K mg base 1 "BadNumber" ["part"] (cX K "BadNumber"))
  (g_xRound : GXN P w K mg base 1 "Round" ["part"] (cX K "Round"))
  (g_xNotNeighbours : GXN P w K mg base 1 "NotNeighbours" ["one", "other"] (cX K "NotNeighbours"))
  (g_xCommon : GXN P w K mg base 1 "Common" ["divisor"] (cX K "Common"))
  (g_xBadText : GXN P w K mg base 1 "BadText" ["line", "word"] (cX K "BadText"))
  (g_is_integer : GD P w K mg base (L2.CX P w) 1 "is_integer" ["value"] [] (spR K csL tsL 3900 RIsInt))
  (g_is_ratio : GD P w K mg base (L2.CX P w) 2 "is_ratio" ["value"] [] (spR K csL tsL 3900 RIsRat))
  (g_sign_of : GD P w K mg base (L2.CX P w) 1 "sign_of" ["number"] [] (spR K csL tsL 100000 RSign))
  (g_mRatio : GM P w K mg base (L2.CX P w) 3 "Ratio" (ca K .Ratio) ["self", "top", "bottom"] [] (spRI K csL tsL .Ratio 3900 RInitR)) (g_mRatio1 : GM P w K mg base (L2.CX P w) 3 "Ratio" (ca K .Ratio) ["self", "top", "bottom"] [.int 1] (spRI K csL tsL .Ratio 3900 RInitR))
  (g_Ratio_of : GS P w K mg base (L2.CX P w) 5 (ca K .Ratio) "of" (spR K csL tsL 3900 (ROf "BadRatio" "value")))
  (g_at_right : GD P w K mg base (L2.CX P w) 6 "at_right" ["value"] [] (spR K csL tsL 3900 (ROf "BadRatio" "other")))
  (g_Ratio_Add : GO P w K mg base (L2.CX P w) 7 (ca K .Ratio) .Add (spR K csL tsL 1900 (RBinR (· + ·))))
  (g_Ratio_Sub : GO P w K mg base (L2.CX P w) 7 (ca K .Ratio) .Sub (spR K csL tsL 1900 (RBinR (· - ·))))
  (g_Ratio_Mult : GO P w K mg base (L2.CX P w) 7 (ca K .Ratio) .Mult (spR K csL tsL 1900 (RBinR (· * ·))))
  (g_Ratio_over : GH P w K mg base (L2.CX P w) 7 (ca K .Ratio) "over" ["self", "other"] (spR K csL tsL 1900 ROver))
  (g_Ratio_USub : GN P w K mg base (L2.CX P w) 5 (ca K .Ratio) "__neg__" (spR K csL tsL 3900 (RUnR (fun q => -q))))
  (g_Ratio_abs : GN P w K mg base (L2.CX P w) 5 (ca K .Ratio) "__abs__" (spR K csL tsL 3900 (RUnR qabs)))
  (g_Ratio_eq : GN P w K mg base (L2.CX P w) 2 (ca K .Ratio) "__eq__" (spR K csL tsL 3900 REqR)) (g_Ratio_eq_ne : GNe P w K mg base (L2.CX P w) 2 (ca K .Ratio) (spR K csL tsL 3900 REqR)) (nf_Ratio : ∀ t ∈ tsL, PySem.W.notFirst K (ca K .Ratio) (tv K t) = true)
  (g_Ratio_sign : GP P w K mg base (L2.CX P w) 2 (ca K .Ratio) "sign" (spR K csL tsL 3900 (RPropR fun q => .int q.num.sign)))
  (g_Ratio_below : GP P w K mg base (L2.CX P w) 1 (ca K .Ratio) "below" (spR K csL tsL 3900 (RPropR fun q => .int q.floor)))
  (g_mStep : GM P w K mg base (L2.CX P w) 3 "Step" (ca K .Step) ["self", "studs", "rounds"] [] (spRI K csL tsL .Step 3900 RInitS))
  (g_need_step : GD P w K mg base (L2.CX P w) 3 "need_step" ["value", "part"] [] (spR K csL tsL 100000 (RNeed .Step "BadStep")))
  (g_need_studs : GD P w K mg base (L2.CX P w) 3 "need_studs" ["step", "part"] [] (spR K csL tsL 100000 RNeedK))
  (g_is_upward : GD P w K mg base (L2.CX P w) 1 "is_upward" ["step"] [] (spR K csL tsL 3900 RIsUp))
  (g_summed : GD P w K mg base (L2.CX P w) 5 "summed" ["studs", "rounds"] [] (spR K csL tsL 3900 RSummed))
  (g_Step_Add : GO P w K mg base (L2.CX P w) 6 (ca K .Step) .Add (spR K csL tsL 1900 (RBinS (· + ·))))
  (g_Step_Sub : GO P w K mg base (L2.CX P w) 6 (ca K .Step) .Sub (spR K csL tsL 1900 (RBinS (· - ·))))
  (g_Step_USub : GN P w K mg base (L2.CX P w) 5 (ca K .Step) "__neg__" (spR K csL tsL 3900 RNegS))
  (g_Step_Mult : GO P w K mg base (L2.CX P w) 5 (ca K .Step) .Mult (spR K csL tsL 1900 RMulS))
  (g_Step_eq : GN P w K mg base (L2.CX P w) 1 (ca K .Step) "__eq__" (spR K csL tsL 3900 REqS)) (g_Step_eq_ne : GNe P w K mg base (L2.CX P w) 1 (ca K .Step) (spR K csL tsL 3900 REqS)) (nf_Step : ∀ t ∈ tsL, PySem.W.notFirst K (ca K .Step) (tv K t) = true)
  (g_Step_upward : GP P w K mg base (L2.CX P w) 5 (ca K .Step) "upward" (spR K csL tsL 3900 RUpw))
  (g_Step_corner : GP P w K mg base (L2.CX P w) 5 (ca K .Step) "corner" (spR K csL tsL 3900 RCorner))
  (g_Step_one_round : GS0 P w K mg base (L2.CX P w) 5 (ca K .Step) "one_round" (spR K csL tsL 3900 ROneR))
  (g_cross : GD P w K mg base (L2.CX P w) 4 "cross" ["one", "other"] [] (spR K csL tsL 1900 RCross))
  (g_are_neighbours : GD P w K mg base (L2.CX P w) 5 "are_neighbours" ["one", "other"] [] (spR K csL tsL 1900 RAreN))
  (g_need_neighbours : GD P w K mg base (L2.CX P w) 6 "need_neighbours" ["one", "other"] [] (spR K csL tsL 1900 RNeedN))
  (g_between : GD P w K mg base (L2.CX P w) 7 "between" ["one", "other"] [] (spR K csL tsL 1900 RBetween))
  (g_integer_of : GD P w K mg base (L2.CX P w) 1 "integer_of" ["word"] [] (spR K csL tsL 100000 RIntOf))
  (g_mWords : GM P w K mg base (L2.CX P w) 1 "Words" (ca K .Words) ["self", "words", "done", "last"] [] (spInitW K))
  (g_Words_is_over : GH P w K mg base (L2.CX P w) 1 (ca K .Words) "is_over" ["self"] (spWp K RIsOver))
  (g_Words_take : GH P w K mg base (L2.CX P w) 3 (ca K .Words) "take" ["self"] (spW K RTake))
  (g_Words_refuse : GH P w K mg base (L2.CX P w) 3 (ca K .Words) "refuse" ["self"] (spW K RRefuse))
  (g_Words_integer : GH P w K mg base (L2.CX P w) 4 (ca K .Words) "integer" ["self"] (spW K RInteg))
  (g_Words_end : GH P w K mg base (L2.CX P w) 3 (ca K .Words) "end" ["self"] (spWp K REndW))
  (g_words_in : GD P w K mg base (L2.CX P w) 3 "words_in" ["text"] [] (spWords K csL tsL))
  (g_take_step : GD P w K mg base (L2.CX P w) 5 "take_step" ["words"] [] (spW K RTakeS))
  (g_read_whole : GD P w K mg base (L2.CX P w) 6 "read_whole" ["text", "take"] [] (spReadW K csL tsL (He.ga K "take_step") RTakeS))
  (g_Step_read : GC P w K mg base (L2.CX P w) 7 (ca K .Step) "read" (spReadC K csL tsL RTakeS))
  (g_Step_str : GN P w K mg base (L2.CX P w) 1 (ca K .Step) "__str__" (spR K csL tsL 3900 RStrS))
  (g_inverse : GD P w K mg base (L2.CX P w) 1 "inverse" ["number", "modulus"] [] (spInv K))
  (g_mate : GD P w K mg base (L2.CX P w) 5 "mate" ["step"] [] (spMate K csL tsL))
  (g_l_pail : GD P w K mg base (L2.CX P w) 1 "_law_pail" ["_law_script"] [] (spPail K))
  (g_l_dip : GD P w K mg base (L2.CX P w) 1 "_law_dip" ["_law_pail_here", "_law_many"] [] spDip)
  (g_l_number : GD P w K mg base (L2.CX P w) 2 "_law_number" ["_law_pail_here", "_law_many"] [] (spLP K csL tsL T 60 900000 3 (fun ds => ds = [.int 30]) (fun _ d => ∃ i : Int, d = .int i ∧ i.natAbs < 2 ^ 46)))
  (g_l_pair : GD P w K mg base (L2.CX P w) 3 "_law_pair" ["_law_pail_here"] [] (spLP K csL tsL T 60 800000 20 (fun ds => ds = []) (fun _ d => ∃ k j : Int, d = .tup [.int k, .int j] ∧ Pk 49 k j)))
  (g_l_common : GD P w K mg base (L2.CX P w) 1 "_law_common" ["_law_one", "_law_other"] [] (spR K csL tsL 60 RComm))
  (g_l_told : GD P w K mg base (L2.CX P w) 1 "_law_told" ["_law_step"] [] (spR K csL tsL 100000 RTold))
  (g_l_nearest : GD P w K mg base (L2.CX P w) 1 "_law_nearest" ["_law_pair_here"] [] (spR K csL tsL 60 RNear))
  (g_l_one_right : GD P w K mg base (L2.CX P w) 18 "_law_one_right" ["_law_pair_here"] [] (spL K csL tsL T 60 ROne))
  (g_l_two_right : GD P w K mg base (L2.CX P w) 18 "_law_two_right" ["_law_one", "_law_other"] [] (spL K csL tsL T 60 RTwo))
  (g_l_mate_right : GD P w K mg base (L2.CX P w) 18 "_law_mate_right" ["_law_pair_here"] [] (spL K csL tsL T 60 ROne))
  (g_l_refused_right : GD P w K mg base (L2.CX P w) 18 "_law_refused_right" ["_law_pail_here", "_law_pair_here"] [] (spLP K csL tsL T 60 700000 5 (fun ds => ∃ k j : Int, ds = [.tup [.int k, .int j]] ∧ Pk 52 k j) (fun _ d => d = .bl true)))
  (g_l_text_right : GD P w K mg base (L2.CX P w) 18 "_law_text_right" ["_law_pail_here", "_law_pair_here"] [] (spLP K csL tsL T 60 700000 10 (fun ds => ∃ k j : Int, ds = [.tup [.int k, .int j]] ∧ Pk 52 k j) (fun _ d => d = .bl true)))
variable (g_take_step_l : GL P w K mg base (L2.CX P w) 5 "take_step" (spW K RTakeS))
variable (g_mStep_krs : GMK P w K mg base (L2.CX P w) 3 "Step" (ca K .Step) ["rounds", "studs"] [1, 0] (spRI K csL tsL .Step 3900 RInitS))
  (g_cross_k : GDK P w K mg base (L2.CX P w) 4 "cross" ["other", "one"] 2 [1, 0] (spR K csL tsL 1900 RCross))

theorem sc__law_nearest : FnScope ["_law_pair_here", "_law_studs", "_law_rounds", "_law_found", "_law_size", "_law_here"] ["_law_pair_here"] (defScope (topS 51)) := ⟨rfl, rfl, rfl, by decide +kernel, rfl, by decide +kernel, by decide +kernel⟩
theorem ok__law_nearest (G : G0 K mg csL tsL) (F : FP K "_law_nearest" "_law_nearest" (topS 51) [] f fd) : FnOk P w K mg base (L2.CX P w) 1 f fd ["_law_pair_here"] (spR K csL tsL 60 RNear) := by
  have nd := sc__law_nearest.nd
  refine okR F sc__law_nearest (fun ds o r => by cases r <;> rfl) (fun cdv A outer s H ds o Q E hr z r q => ⟨_, pss_cons (ps_asg (pv 0) (pg_tup rfl (pgs_cons (pg_name (i := 1) nd rfl (Or.inl rfl)) (pgs_cons (pg_name (i := 2) nd rfl (Or.inl rfl)) (pgs_nil))))) (pss_cons (ps_set (i := 3) nd rfl (Or.inl rfl) (pe_lstD (pa_nil))) (pss_cons (ps_for (passes_of rfl) rfl (pi_range1 rfl G.nm.range (pa_cons (pe_op op_add (pe_callB call_abs rfl G.nm.abs (by decide +kernel) (pa_cons (pv 1) (pa_nil))) (pe_int)) (pa_nil))) (pg_name (i := 4) nd rfl (Or.inl rfl)) (pss_one (ps_for (passes_of rfl) rfl (pi_tup (pe_tupE (pa_cons (pv 4) (pa_cons (pe_un un_neg (pv 4)) (pa_nil))))) (pg_name (i := 5) nd rfl (Or.inl rfl)) (pss_cons (ps_if (PW.pt (pw_and (pt_cmpR (op_eqD hr.units) (pv 3) (pe_lstD (pa_nil)) (nomark _)) (pw_and (pt_cmpR op_eq (pv 1) (pe_int) (nomark _)) (pw_and1 (pt_cmpR op_eq (pe_op op_mulB (pv 5) (pv 2)) (pe_int) (nomark _)))))) (pss_one (ps_expr (pe_bm PySem.F.plainAttrs_list PySem.F.slot_list_append PySem.F.type_list_append mt_append (pv 3) (pa_cons (pe_tupE (pa_cons (pv 5) (pa_cons (pe_int) (pa_nil)))) (pa_nil))))) (pss_nil)) (pss_one (ps_if (PW.pt (pw_and (pt_cmpR (op_eqD hr.units) (pv 3) (pe_lstD (pa_nil)) (nomark _)) (pw_and (pt_cmpR op_ne (pv 1) (pe_int) (nomark _)) (pw_and1 (pt_cmpR op_eq (pe_op op_modN (pe_callTy call_int1i rfl G.nm.int (by decide +kernel) (pa_cons (pe_op op_sub (pe_op op_mulB (pv 5) (pv 2)) (pe_int)) (pa_nil))) (pv 1)) (pe_int) (nomark _)))))) (pss_one (ps_expr (pe_bm PySem.F.plainAttrs_list PySem.F.slot_list_append PySem.F.type_list_append mt_append (pv 3) (pa_cons (pe_tupE (pa_cons (pv 5) (pa_cons (pe_op op_fdivB (pe_op op_sub (pe_op op_mulB (pv 5) (pv 2)) (pe_int)) (pv 1)) (pa_nil)))) (pa_nil))))) (pss_nil))))))) (pss_one (ps_ret (pe_ix ix_list (pv 3) (pe_int) (fun _ _ => rfl)))))), ?_⟩)
  cases r with
  | @mk k j x y h l l2 =>
    walk_at "go0"
    walk_at "rdN"
    rename_i pp hE
    refine lstI (by decide) fun p hp => ?_
    have hpl : upd H p (.lst []) p = some (.lst []) := upd_same
    have sm : Same H (upd H p (.lst [])) := Same.new' hp
    walk_at "rd"
    refine for_range (lo := 0) (n := (((if k < 0 then -k else k) + 2)).toNat) (fun i σ Hh => Bx (∃ x4 x5, σ = [some (V.ref pp), some (V.int k), some (V.int j), some (V.ref p), x4, x5] ∧ Same H Hh ∧ ((Hh p = some (.lst []) ∧ i ≤ x.natAbs) ∨ (x.natAbs < i ∧ ∃ t, Hh p = some (.lst [.ref t]) ∧ Hh t = some (.tup [.int x, .int y]))))) ⟨⟨_, _, rfl, sm, .inl ⟨hpl, Nat.zero_le _⟩⟩⟩ (fun i σ Hh hi hP => ?_) (fun σ Hh hP => ?_)
    · obtain ⟨x4, x5, rfl, s1, hc⟩ := hP.out
      walk_at "rdN"
      refine tupI (show 2 ≤ sizeLine by decide) fun t0 ht0 => ?_
      have npt : p ≠ t0 := by
        rcases hc with ⟨e, _⟩ | ⟨_, t, e, _⟩ <;> exact ne_of_none e ht0
      refine ⟨_, rfl, ⟨_, SqT.of upd_same⟩, ?_⟩
      refine for_tup (K := K) (a := t0) (xs := [V.int (0 + (i : Int)), V.int (-(0 + (i : Int)))]) (fun m σ Hx => Bx (∃ x5, σ = [some (V.ref pp), some (V.int k), some (V.int j), some (V.ref p), some (V.int (0 + (i : Int))), x5] ∧ Same H Hx ∧ Hx t0 = some (.tup [V.int (0 + (i : Int)), V.int (-(0 + (i : Int)))]) ∧
        ((Hx p = some (.lst []) ∧ i ≤ x.natAbs ∧ (1 ≤ m → x ≠ i) ∧ (2 ≤ m → x ≠ -i)) ∨ ((∃ t, Hx p = some (.lst [.ref t]) ∧ Hx t = some (.tup [.int x, .int y])) ∧ (x.natAbs < i ∨ (1 ≤ m ∧ x = i) ∨ (2 ≤ m ∧ x = -i)))))) ?_ (fun m σ Hx _ hP => ?_) (fun m v σ Hx hm hP => ?_) (fun σ Hx hP => ?_)
      · refine ⟨⟨_, rfl, fun b o e => ?_, upd_same, ?_⟩⟩
        · rw [upd_ne (ne_of_none (s1 _ _ e) ht0)]
          exact s1 _ _ e
        · rw [upd_ne npt]
          rcases hc with ⟨e, l⟩ | ⟨l, t, e1, e2⟩
          · exact .inl ⟨e, l, fun z => absurd z (by decide), fun z => absurd z (by decide)⟩
          · refine .inr ⟨⟨t, e1, ?_⟩, .inl l⟩
            rw [upd_ne (ne_of_none e2 ht0)]
            exact e2
      · obtain ⟨x5, _, _, ht, _⟩ := hP.out
        exact SqT.of ht
      · obtain ⟨x5, rfl, s2, ht, hd⟩ := hP.out
        obtain ⟨u, rfl, hu⟩ : ∃ u : Int, v = .int u ∧ ((m = 0 ∧ u = i) ∨ (m = 1 ∧ u = -i)) := by
          match m, hm with
          | 0, hm => cases hm; exact ⟨_, rfl, .inl ⟨rfl, by omega⟩⟩
          | 1, hm => cases hm; exact ⟨_, rfl, .inr ⟨rfl, by omega⟩⟩
        have bu : Bi u 6 := ⟨by have := near_n h; rcases hd with ⟨_, z, _⟩ | ⟨_, _⟩ <;> (split at hi <;> omega)⟩
        have bj : Bi j 52 := ⟨l2⟩
        have hE0 := (Env.of (K := K) H).step s2
        have itp : IsV K Hx (.ref t0) (.tup [.int (0 + (i : Int)), .int (-(0 + (i : Int)))]) := .tup ht (.cons (.int _) (.cons (.int _) .nil))
        have b1 : Bi (1 : Int) 1 := inferInstance
        rcases hd with ⟨hl, g1, g2, g3⟩ | ⟨⟨t, f1, f2⟩, g⟩
        · have hE1 := (hE0.add itp).add (.lst hl .nil)
          by_cases hk : k = 0
          · subst hk
            have n0 := near_0 (here := u) h
            have hy : y = 0 := h.z rfl
            subst hy
            walk_at "rd"
            rename_i q1 H1 e1
            refine iteP (fun c1 => ?_) (fun c1 => ?_)
            · have c1 : u = x := n0.mp (by simpa using of_decide_eq_true c1)
              subst c1
              walk_at "rd"
              refine ⟨.inl ⟨rfl, _, SqL.of (rawL (e1.get (by walk_at "mem")))⟩, ?_⟩
              walk_at "rd"
              rename_i q2 H2 e2
              refine ⟨_, _, _, rfl, rfl, rawL (e2.get (by walk_at "mem")), by decide, ?_⟩
              have e3 := afterApp (t0 := t0) e2 hp (rawL (e2.get (by walk_at "mem"))) (e2.get List.mem_cons_self) (e2.get (by walk_at "mem"))
              walk_at "rd"
              rename_i q3 H3 e4
              exact ⟨⟨_, rfl, e4.gr, rawT2 (e4.get (by walk_at "mem")), .inr ⟨rawLT (e4.get (by walk_at "mem")), by omega⟩⟩⟩
            · have c1 : u ≠ x := fun z => c1 (decide_eq_true (congrArg V.int (n0.mpr z)))
              walk_at "rd"
              rename_i q3 H3 e4
              exact ⟨⟨_, rfl, e4.gr, rawT2 (e4.get (by walk_at "mem")), .inl ⟨rawL (e4.get (by walk_at "mem")), g1, by omega, by omega⟩⟩⟩
          · have k0 : decide (V.int k = V.int 0) = false := by simpa using hk
            have k1 : decide (V.int k ≠ V.int 0) = true := by simpa using hk
            have kd : CDivB (u * j - 1) k := ⟨hk, by omega⟩
            walk_at "rd"
            rename_i q1 H1 e1 q2 H2 e2
            have hz : u = x → (u * j - 1).fmod k = 0 ∧ (u * j - 1).fdiv k = y := fun z => by
              rw [z]
              exact ⟨(near_y h hk).2, (near_y h hk).1⟩
            have hn : (u * j - 1).fmod k = 0 → u = x := fun z => near_hit h hk (by omega) (by omega) ((u * j - 1).fdiv k) (by
              have := Int.mul_fdiv_add_fmod (u * j - 1) k
              rw [z, Int.add_zero, Int.mul_comm] at this
              exact this.symm)
            refine iteP (fun c1 => ?_) (fun c1 => ?_)
            · have c1 : u = x := hn (by simpa using of_decide_eq_true c1)
              have c2 := (hz c1).2
              walk_at "rd"
              refine ⟨.inl ⟨rfl, _, SqL.of (rawL (e2.get (by walk_at "mem")))⟩, ?_⟩
              walk_at "rd"
              rename_i q3 H3 e3
              refine ⟨_, _, _, rfl, rfl, rawL (e3.get (by walk_at "mem")), by decide, ?_⟩
              have e3' := e3.get List.mem_cons_self
              rw [c2, c1] at e3'
              have e4 := afterApp (t0 := t0) e3 hp (rawL (e3.get (by walk_at "mem"))) e3' (e3.get (by walk_at "mem"))
              exact ⟨⟨_, rfl, e4.gr, rawT2 (e4.get (by walk_at "mem")), .inr ⟨rawLT (e4.get (by walk_at "mem")), by omega⟩⟩⟩
            · have c1 : u ≠ x := fun z => c1 (decide_eq_true (congrArg V.int (hz z).1))
              walk_at "rd"
              exact ⟨⟨_, rfl, e2.gr, rawT2 (e2.get (by walk_at "mem")), .inl ⟨rawL (e2.get (by walk_at "mem")), g1, by omega, by omega⟩⟩⟩
        · have hE1 := (hE0.add itp).add (.lst f1 (.cons (.tup f2 (.cons (.int _) (.cons (.int _) .nil))) .nil))
          walk_at "rd"
          rename_i q1 H1 e1 q2 H2 e2
          exact ⟨⟨_, rfl, e2.gr, rawT2 (e2.get (by walk_at "mem")), .inr ⟨rawLT (e2.get (by walk_at "mem")), by omega⟩⟩⟩
      · obtain ⟨x5, rfl, s2, ht, hd⟩ := hP.out
        have hd : (Hx p = some (.lst []) ∧ i ≤ x.natAbs ∧ (1 ≤ 2 → x ≠ i) ∧ (2 ≤ 2 → x ≠ -i)) ∨ ((∃ t, Hx p = some (.lst [.ref t]) ∧ Hx t = some (.tup [.int x, .int y])) ∧ (x.natAbs < i ∨ (1 ≤ 2 ∧ x = i) ∨ (2 ≤ 2 ∧ x = -i))) := hd
        refine ⟨⟨_, _, rfl, s2, ?_⟩⟩
        rcases hd with ⟨hl, g1, g2, g3⟩ | ⟨⟨t, f1, f2⟩, g⟩
        · exact .inl ⟨hl, by have := g2 (by decide); have := g3 (by decide); omega⟩
        · exact .inr ⟨by omega, t, f1, f2⟩
    · obtain ⟨x4, x5, rfl, s1, hc⟩ := hP.out
      have hc : (Hh p = some (.lst []) ∧ _) ∨ _ := hc
      have nn := near_n h
      rcases hc with ⟨_, z⟩ | ⟨_, t, e1, e2⟩
      · exfalso
        split at z <;> omega
      · have hE1 := ((Env.of (K := K) H).step s1).add (.lst e1 (.cons (.tup e2 (.cons (.int _) (.cons (.int _) .nil))) .nil))
        walk_at "rd"
end
end Sp
end
section
set_option Elab.async false
set_option linter.all false
set_option exponentiation.threshold 5000
set_option maxRecDepth 100000
set_option maxHeartbeats 0
local macro_rules | `(tactic| walk_at "mem") => `(tactic| first | exact List.mem_cons_self | (refine List.mem_cons_of_mem _ ?_; walk_at "mem"))
local macro_rules | `(tactic| walk_at "isv") => `(tactic| first | exact Sp.IsV.int _ | exact Sp.IsV.str _ | exact Sp.IsV.bl _ | exact Sp.IsV.non | exact Sp.Env.get (by assumption) (by walk_at "mem") | assumption)
local macro_rules | `(tactic| walk_at "isvs") => `(tactic| first | exact Sp.IsVs.nil | (refine' Sp.IsVs.cons ?iv ?rs; (case iv => walk_at "isv"); (case rs => walk_at "isvs")))
local macro_rules | `(tactic| walk_at "isfs") => `(tactic| first | exact Sp.IsFs.nil | (refine' Sp.IsFs.cons ?iv ?rs; (case iv => walk_at "isv"); (case rs => walk_at "isfs")))
local macro_rules | `(tactic| walk_at "sz1") => `(tactic| first | exact trivial | exact Sp.biI _ | exact Sp.bqI _ | exact ⟨Sp.biI _, Sp.biI _⟩ | exact ⟨Sp.bqI _, Sp.bqI _⟩ | exact ⟨⟨Sp.biI _, Sp.biI _⟩, Sp.biI _, Sp.biI _⟩ | exact ⟨Sp.bqI _, Sp.bqI _, Sp.bqI _⟩ | assumption | exact Sp.SzD.mono (by assumption) (by decide))
local macro_rules | `(tactic| walk_at "okt") => `(tactic| first | rfl | assumption | decide)
local macro_rules | `(tactic| walk_at "dsok") => `(tactic| first | exact trivial | (refine And.intro (And.intro ?oa ?ob) ?rs; (case oa => walk_at "okt"); (case ob => walk_at "sz1"); (case rs => walk_at "dsok")))
local macro_rules | `(tactic| walk_at "sc") => `(tactic| first | rfl | assumption | decide | omega)
local macro_rules | `(tactic| walk_at "leaf") => `(tactic| first | rfl | assumption | exact True.intro | exact ⟨_, rfl⟩ | exact L2.upd_same | exact L2.ClsV.ty _ | exact L2.ClsV.own _ | decide | exact of_decide_eq_true rfl | exact Sp.cmI _ _ | exact Sp.cdI _ (by first | assumption | omega) | exact Sp.cmL (by decide) | exact Sp.cmR (by decide) | exact ⟨by decide, by decide, by decide⟩ | exact ⟨by decide, by decide⟩ | omega | fail)
local macro_rules | `(tactic| walk_at "cls") => `(tactic| first | exact Sp.ClsD.int | exact Sp.ClsD.bool | exact Sp.ClsD.str | exact Sp.ClsD.own _ | exact Sp.ClsD.tuple | exact Sp.ClsD.list)
local macro_rules | `(tactic| walk_at "args") => `(tactic| repeat (first
  | refine' Sp.aaInt ?_ | refine' Sp.aaBl ?_ | refine' Sp.aaStr ?_ | refine' Sp.aaNon ?_ | (refine' Sp.aaOwn (by assumption) (by rfl) ?_; intro _ _) | (refine' Sp.aaTup (by assumption) ?_; intro _ _) | (refine' Sp.aaAny (by assumption) ?_; intro _ _) | refine' Sp.aaNil ?_))
local macro_rules | `(tactic| walk_at "shp") => `(tactic| first | rfl | decide +kernel | (simp [PySem.SeqAt.shaped, PySem.PyData.canLay0, PySem.PyData.canLayAll0, PySem.PyData.depth, PySem.PyData.depthAll] <;> decide +kernel))
local macro_rules | `(tactic| walk_at "rd1") => `(tactic| first
  | apply Sp.exI
  | (refine And.intro ?lf ?_; (case lf => walk_at "leaf"))
  | (show @ite Prop (_ = true) _ _ _; first | refine' Sp.iteT (by first | assumption | rfl | exact Sp.nbT (by assumption) | exact Sp.nbF (by assumption)) ?_ | refine' Sp.iteF (by first | assumption | rfl | exact Sp.nbT (by assumption) | exact Sp.nbF (by assumption) | exact Sp.nbF (Sp.eqr (by walk_at "shp"))) ?_)
  | (refine' Sp.afInt (by assumption) ?_; intro _ _) | (refine' Sp.afBl (by assumption) ?_; intro _ _) | (refine' Sp.afStr (by assumption) ?_; intro _ _) | (refine' Sp.afNon (by assumption) ?_; intro _ _)
  | (refine' Sp.afOwn (by assumption) (by rfl) ?_; intro _ _ _) | (refine' Sp.afTup (by assumption) ?_; intro _ _ _) | (refine' Sp.afRef (by assumption) ?_; intro _ _ _)
  | refine' Sp.asInt ?_ | refine' Sp.asBl ?_ | refine' Sp.asStr ?_ | refine' Sp.asNon ?_
  | (refine' Sp.asOwn (by assumption) (by rfl) ?_; intro _ _) | (refine' Sp.asTup (by assumption) ?_; intro _ _) | (refine' Sp.asRef (by assumption) ?_; intro _ _)
  | refine' Sp.aaInt ?_ | refine' Sp.aaBl ?_ | refine' Sp.aaStr ?_ | refine' Sp.aaNon ?_ | (refine' Sp.aaOwn (by assumption) (by rfl) ?_; intro _ _) | (refine' Sp.aaTup (by assumption) ?_; intro _ _) | (refine' Sp.aaAny (by assumption) ?_; intro _ _) | refine' Sp.aaNil ?_
  | (refine' Sp.fnR ?i ?z ?r ?_; (case i => walk_at "isvs"); (case z => walk_at "dsok"); (case r => walk_at "rel"))
  | (refine' Sp.makeOk ?i ?z ?r ?o ?_; (case i => walk_at "isvs"); (case z => walk_at "dsok"); (case r => walk_at "rel"); (case o => rfl))
  | (refine' Sp.makeEr ?i ?z ?r ?_; (case i => walk_at "isvs"); (case z => walk_at "dsok"); (case r => walk_at "rel"))
  | (refine' Sp.isiD (by assumption) ?i ?c ?o ?t ?_; (case i => walk_at "isv"); (case c => walk_at "cls"); (case o => walk_at "okt"); (case t => decide))
  | (refine' Sp.fldD (by assumption) ?i ?o ?l ?c ?_; (case i => walk_at "isv"); (case o => rfl); (case l => rfl); (case c => decide))
  | (refine' Sp.fldRaw (by assumption) (by assumption) (by rfl) (by decide) (by decide) ?_)
  | (refine' Sp.methRaw (by assumption) (by rfl) ?_)
  | (refine' Sp.setRaw (by assumption) (by assumption) (by rfl) (by decide) (by decide) ?_)
  | (refine' Sp.strD ?i ?o ?_; (case i => walk_at "isv"); (case o => rfl))
  | (refine' Sp.methD ?i ?o ?l ?_; (case i => walk_at "isv"); (case o => rfl); (case l => rfl))
  | (refine' Sp.propD ?i ?o ?_; (case i => walk_at "isv"); (case o => rfl))
  | (refine' Sp.binD ?i ?o ?j ?e ?_; (case i => walk_at "isv"); (case o => rfl); (case j => walk_at "isv"); (case e => rfl))
  | (refine' Sp.unD ?i ?o ?_; (case i => walk_at "isv"); (case o => rfl))
  | (refine' Sp.absD ?i ?o ?_; (case i => walk_at "isv"); (case o => rfl))
  | (refine' Sp.eqOwnD (by assumption) ?i ?o ?j ?e ?n ?_; (case i => walk_at "isv"); (case o => rfl); (case j => walk_at "isv"); (case e => walk_at "okt"); (case n => walk_at "nf"))
  | (refine' Sp.neOwnD (by assumption) ?i ?o ?j ?e ?n ?_; (case i => walk_at "isv"); (case o => rfl); (case j => walk_at "isv"); (case e => walk_at "okt"); (case n => walk_at "nf"))
  | (refine' Sp.tupD (by assumption) ?i ?l ?_; (case i => walk_at "isvs"); (case l => rfl); intro _ _ _)
  | (refine' Sp.lstD (by assumption) ?i ?l ?_; (case i => walk_at "isvs"); (case l => rfl); intro _ _ _)
  | (refine' Sp.raiseD (by assumption) ?i ?e ?l ?_; (case i => walk_at "isvs"); (case e => rfl); (case l => rfl))
  | (refine' Sp.setD (by assumption) (by assumption) rfl rfl rfl (by decide) (by decide) ?_; intro _ _)
  | (refine' Sp.ixTD ?i ?e ?g ?_; (case i => walk_at "isv"); (case e => rfl); (case g => rfl))
  | (refine' Sp.ixLD ?i ?e ?g ?_; (case i => walk_at "isv"); (case e => rfl); (case g => rfl))
  | (refine' Sp.gTupD ?i ?e ?_; (case i => walk_at "isv"); (case e => rfl))
  | refine' Sp.lamR (by assumption) ?_
  | (refine' Sp.finD' (by assumption) (by assumption) ?i; (case i => walk_at "isv"))
  | refine' Sp.finE' (by assumption) (by assumption)
  | refine' Sp.finIE (by assumption) (by assumption) (by assumption)
  | (refine' Sp.dipD (by assumption) (by omega) ?m0 ?m1 ?n ?_; (case m0 => first | decide | omega); (case m1 => first | decide | omega); (case n => rfl); intro _ _ _ _ _)
  | (refine' Sp.lawL (by assumption) ?i ?z ?r ?_; (case i => walk_at "isvs"); (case z => walk_at "dsok"); (case r => walk_at "rel"); intro _ _ _)
  | (refine' Sp.lawP (by assumption) ?i ?z ?nd ?pr (by omega) ?nl ?_; (case i => walk_at "isvs"); (case z => walk_at "dsok"); (case nd => rfl); (case pr => walk_at "pre"); (case nl => rfl))
  | (refine' Sp.dctD (by assumption) ?_; intro _ _ _)
  | (refine' Sp.eqDD ?i ?j ?e ?f ?s ?t ?_; (case i => walk_at "isv"); (case j => walk_at "isv"); (case e => rfl); (case f => rfl); (case s => walk_at "shp"); (case t => walk_at "shp"))
  | (refine' Sp.neDD ?i ?j ?e ?f ?s ?t ?_; (case i => walk_at "isv"); (case j => walk_at "isv"); (case e => rfl); (case f => rfl); (case s => walk_at "shp"); (case t => walk_at "shp"))
  | (refine' Sp.readCO ?i ?ot ?r ?_; (case i => walk_at "isv"); (case ot => walk_at "okt"); (case r => first | assumption | exact Sp.rd_own (by assumption)))
  | (refine' Sp.finLB (by assumption) (by assumption) ?e; (case e => first | rfl | assumption | exact Sp.eqr (by walk_at "shp")))
  | refine' Sp.aeNa (by assumption) ?_
  | (refine' Sp.lamD (by assumption) ?_; intro _ _ _ _)
  | (refine' Sp.hokD (by assumption) ?i ?_; (case i => walk_at "isv"); intro _ _ _)
  | (refine' Sp.herP1 (by assumption) ?m ?l ?_; (case m => walk_at "mem"); (case l => rfl); intro _ _ _)
  | (refine' Sp.herP2 (by assumption) ?m ?l ?l2 ?_; (case m => walk_at "mem"); (case l => rfl); (case l2 => rfl); intro _ _ _)
  | (refine' Sp.finL (by assumption) (by assumption) ?i; (case i => walk_at "isv"))
  | fail)
local macro_rules | `(tactic| walk_at "rd1N") => `(tactic| first
  | apply Sp.exI
  | (refine And.intro ?lf ?_; (case lf => walk_at "leaf"))
  | (show @ite Prop (_ = true) _ _ _; first | refine' Sp.iteT (by first | assumption | rfl | exact Sp.nbT (by assumption) | exact Sp.nbF (by assumption)) ?_ | refine' Sp.iteF (by first | assumption | rfl | exact Sp.nbT (by assumption) | exact Sp.nbF (by assumption) | exact Sp.nbF (Sp.eqr (by walk_at "shp"))) ?_)
  | (refine' Sp.afInt (by assumption) ?_; intro _ _) | (refine' Sp.afBl (by assumption) ?_; intro _ _) | (refine' Sp.afStr (by assumption) ?_; intro _ _) | (refine' Sp.afNon (by assumption) ?_; intro _ _)
  | (refine' Sp.afOwn (by assumption) (by rfl) ?_; intro _ _ _) | (refine' Sp.afTup (by assumption) ?_; intro _ _ _) | (refine' Sp.afRef (by assumption) ?_; intro _ _ _)
  | refine' Sp.asInt ?_ | refine' Sp.asBl ?_ | refine' Sp.asStr ?_ | refine' Sp.asNon ?_
  | (refine' Sp.asOwn (by assumption) (by rfl) ?_; intro _ _) | (refine' Sp.asTup (by assumption) ?_; intro _ _) | (refine' Sp.asRef (by assumption) ?_; intro _ _)
  | refine' Sp.aaInt ?_ | refine' Sp.aaBl ?_ | refine' Sp.aaStr ?_ | refine' Sp.aaNon ?_ | (refine' Sp.aaOwn (by assumption) (by rfl) ?_; intro _ _) | (refine' Sp.aaTup (by assumption) ?_; intro _ _) | (refine' Sp.aaAny (by assumption) ?_; intro _ _) | refine' Sp.aaNil ?_
  | (refine' Sp.fnR ?i ?z ?r ?_; (case i => walk_at "isvs"); (case z => walk_at "dsok"); (case r => walk_at "rel"))
  | (refine' Sp.makeOk ?i ?z ?r ?o ?_; (case i => walk_at "isvs"); (case z => walk_at "dsok"); (case r => walk_at "rel"); (case o => rfl))
  | (refine' Sp.makeEr ?i ?z ?r ?_; (case i => walk_at "isvs"); (case z => walk_at "dsok"); (case r => walk_at "rel"))
  | (refine' Sp.isiD (by assumption) ?i ?c ?o ?t ?_; (case i => walk_at "isv"); (case c => walk_at "cls"); (case o => walk_at "okt"); (case t => decide))
  | (refine' Sp.fldD (by assumption) ?i ?o ?l ?c ?_; (case i => walk_at "isv"); (case o => rfl); (case l => rfl); (case c => decide))
  | (refine' Sp.fldRaw (by assumption) (by assumption) (by rfl) (by decide) (by decide) ?_)
  | (refine' Sp.methRaw (by assumption) (by rfl) ?_)
  | (refine' Sp.setRaw (by assumption) (by assumption) (by rfl) (by decide) (by decide) ?_)
  | (refine' Sp.strD ?i ?o ?_; (case i => walk_at "isv"); (case o => rfl))
  | (refine' Sp.methD ?i ?o ?l ?_; (case i => walk_at "isv"); (case o => rfl); (case l => rfl))
  | (refine' Sp.propD ?i ?o ?_; (case i => walk_at "isv"); (case o => rfl))
  | (refine' Sp.binD ?i ?o ?j ?e ?_; (case i => walk_at "isv"); (case o => rfl); (case j => walk_at "isv"); (case e => rfl))
  | (refine' Sp.unD ?i ?o ?_; (case i => walk_at "isv"); (case o => rfl))
  | (refine' Sp.absD ?i ?o ?_; (case i => walk_at "isv"); (case o => rfl))
  | (refine' Sp.eqOwnD (by assumption) ?i ?o ?j ?e ?n ?_; (case i => walk_at "isv"); (case o => rfl); (case j => walk_at "isv"); (case e => walk_at "okt"); (case n => walk_at "nf"))
  | (refine' Sp.neOwnD (by assumption) ?i ?o ?j ?e ?n ?_; (case i => walk_at "isv"); (case o => rfl); (case j => walk_at "isv"); (case e => walk_at "okt"); (case n => walk_at "nf"))
  | (refine' Sp.raiseD (by assumption) ?i ?e ?l ?_; (case i => walk_at "isvs"); (case e => rfl); (case l => rfl))
  | (refine' Sp.setD (by assumption) (by assumption) rfl rfl rfl (by decide) (by decide) ?_; intro _ _)
  | (refine' Sp.ixTD ?i ?e ?g ?_; (case i => walk_at "isv"); (case e => rfl); (case g => rfl))
  | (refine' Sp.ixLD ?i ?e ?g ?_; (case i => walk_at "isv"); (case e => rfl); (case g => rfl))
  | (refine' Sp.gTupD ?i ?e ?_; (case i => walk_at "isv"); (case e => rfl))
  | refine' Sp.lamR (by assumption) ?_
  | (refine' Sp.finD' (by assumption) (by assumption) ?i; (case i => walk_at "isv"))
  | refine' Sp.finE' (by assumption) (by assumption)
  | refine' Sp.finIE (by assumption) (by assumption) (by assumption)
  | (refine' Sp.dipD (by assumption) (by omega) ?m0 ?m1 ?n ?_; (case m0 => first | decide | omega); (case m1 => first | decide | omega); (case n => rfl); intro _ _ _ _ _)
  | (refine' Sp.lawL (by assumption) ?i ?z ?r ?_; (case i => walk_at "isvs"); (case z => walk_at "dsok"); (case r => walk_at "rel"); intro _ _ _)
  | (refine' Sp.lawP (by assumption) ?i ?z ?nd ?pr (by omega) ?nl ?_; (case i => walk_at "isvs"); (case z => walk_at "dsok"); (case nd => rfl); (case pr => walk_at "pre"); (case nl => rfl))
  | (refine' Sp.dctD (by assumption) ?_; intro _ _ _)
  | (refine' Sp.eqDD ?i ?j ?e ?f ?s ?t ?_; (case i => walk_at "isv"); (case j => walk_at "isv"); (case e => rfl); (case f => rfl); (case s => walk_at "shp"); (case t => walk_at "shp"))
  | (refine' Sp.neDD ?i ?j ?e ?f ?s ?t ?_; (case i => walk_at "isv"); (case j => walk_at "isv"); (case e => rfl); (case f => rfl); (case s => walk_at "shp"); (case t => walk_at "shp"))
  | (refine' Sp.lamD (by assumption) ?_; intro _ _ _ _)
  | (refine' Sp.hokD (by assumption) ?i ?_; (case i => walk_at "isv"); intro _ _ _)
  | (refine' Sp.herP1 (by assumption) ?m ?l ?_; (case m => walk_at "mem"); (case l => rfl); intro _ _ _)
  | (refine' Sp.herP2 (by assumption) ?m ?l ?l2 ?_; (case m => walk_at "mem"); (case l => rfl); (case l2 => rfl); intro _ _ _)
  | (refine' Sp.finL (by assumption) (by assumption) ?i; (case i => walk_at "isv"))
  | fail)
local macro_rules | `(tactic| walk_at "rdN") => `(tactic| repeat (walk_at "rd1N"))
local macro_rules | `(tactic| walk_at "rd") => `(tactic| repeat (walk_at "rd1"))
local macro_rules | `(tactic| walk_at "zs") => `(tactic| (refine' Sp.zsStart (by assumption) ?_; repeat (first | refine' Sp.zsNil ?_ | (refine' Sp.zsInt ?_; intro _) | (refine' Sp.zsRat ?_; intro _) | (refine' Sp.zsStep ?_; intro _ _) | (refine' Sp.zsStem ?_; intro _ _) | (refine' Sp.zsTable ?_; intro _ _ _ _) | (refine' Sp.zsAny ?_; intro _ _))))
local macro_rules | `(tactic| walk_at "go0") => `(tactic| (walk_at "zs"; (have := Sp.Env.of (K := ‹PySem.W.Frag›) ‹L2.Hp›); walk_at "args"))
local macro_rules | `(tactic| walk_at "go") => `(tactic| (walk_at "go0"; walk_at "rd"))
local macro_rules | `(tactic| walk_at "goI0") => `(tactic| (walk_at "zs"; (have := Sp.Env.ofI (K := ‹PySem.W.Frag›) (H := ‹L2.Hp›) (by assumption)); walk_at "args"))
local macro_rules | `(tactic| walk_at "goI") => `(tactic| (walk_at "goI0"; walk_at "rd"))
local macro_rules | `(tactic| walk_at "goL") => `(tactic| (walk_at "zs"; walk_at "args"; walk_at "rd"))
local macro_rules | `(tactic| walk_at "rel") => `(tactic| first
  | (apply Sp.RIsInt.mk <;> walk_at "sc")
  | (apply Sp.RIsRat.mk <;> walk_at "sc")
  | (apply Sp.RSign.mk <;> walk_at "sc")
  | (apply Sp.RInitR.one <;> walk_at "sc")
  | (apply Sp.RInitR.ok <;> walk_at "sc")
  | (apply Sp.RInitR.z <;> walk_at "sc")
  | (apply Sp.RInitR.t <;> walk_at "sc")
  | (apply Sp.RInitR.b <;> walk_at "sc")
  | (apply Sp.ROf.r <;> walk_at "sc")
  | (apply Sp.ROf.i <;> walk_at "sc")
  | (apply Sp.ROf.n <;> walk_at "sc")
  | (apply Sp.RBinR.r <;> walk_at "sc")
  | (apply Sp.RBinR.i <;> walk_at "sc")
  | (apply Sp.RBinR.n <;> walk_at "sc")
  | (apply Sp.ROver.r <;> walk_at "sc")
  | (apply Sp.ROver.i <;> walk_at "sc")
  | (apply Sp.ROver.z <;> walk_at "sc")
  | (apply Sp.ROver.zi <;> walk_at "sc")
  | (apply Sp.ROver.n <;> walk_at "sc")
  | (apply Sp.RCmp.r <;> walk_at "sc")
  | (apply Sp.RCmp.i <;> walk_at "sc")
  | (apply Sp.RCmp.n <;> walk_at "sc")
  | (apply Sp.RBelow.r <;> walk_at "sc")
  | (apply Sp.RBelow.i <;> walk_at "sc")
  | (apply Sp.RBelow.n <;> walk_at "sc")
  | (apply Sp.RUnR.mk <;> walk_at "sc")
  | (apply Sp.REqR.r <;> walk_at "sc")
  | (apply Sp.REqR.i <;> walk_at "sc")
  | (apply Sp.REqR.n <;> walk_at "sc")
  | (apply Sp.RPropR.mk <;> walk_at "sc")
  | (apply Sp.RInitS.ok <;> walk_at "sc")
  | (apply Sp.RInitS.z <;> walk_at "sc")
  | (apply Sp.RInitS.s <;> walk_at "sc")
  | (apply Sp.RInitS.r <;> walk_at "sc")
  | (apply Sp.RNeed.ok <;> walk_at "sc")
  | (apply Sp.RNeed.no <;> walk_at "sc")
  | (apply Sp.RNeedK.ok <;> walk_at "sc")
  | (apply Sp.RNeedK.z <;> walk_at "sc")
  | (apply Sp.RCross.ok <;> walk_at "sc")
  | (apply Sp.RCross.one <;> walk_at "sc")
  | (apply Sp.RCross.oth <;> walk_at "sc")
  | (apply Sp.RAreN.ok <;> walk_at "sc")
  | (apply Sp.RAreN.one <;> walk_at "sc")
  | (apply Sp.RAreN.oth <;> walk_at "sc")
  | (apply Sp.RNeedN.ok <;> walk_at "sc")
  | (apply Sp.RNeedN.no <;> walk_at "sc")
  | (apply Sp.RNeedN.one <;> walk_at "sc")
  | (apply Sp.RNeedN.oth <;> walk_at "sc")
  | (apply Sp.RBetween.ok <;> walk_at "sc")
  | (apply Sp.RBetween.no <;> walk_at "sc")
  | (apply Sp.RBetween.one <;> walk_at "sc")
  | (apply Sp.RBetween.oth <;> walk_at "sc")
  | (apply Sp.RSummed.ok <;> walk_at "sc")
  | (apply Sp.RSummed.z <;> walk_at "sc")
  | (apply Sp.RBinS.ok <;> walk_at "sc")
  | (apply Sp.RBinS.z <;> walk_at "sc")
  | (apply Sp.RBinS.n <;> walk_at "sc")
  | (apply Sp.RMulS.ok <;> walk_at "sc")
  | (apply Sp.RMulS.z <;> walk_at "sc")
  | (apply Sp.RMulS.n <;> walk_at "sc")
  | (apply Sp.RNegS.mk <;> walk_at "sc")
  | (apply Sp.REqS.s <;> walk_at "sc")
  | (apply Sp.REqS.n <;> walk_at "sc")
  | (apply Sp.RIsUp.mk <;> walk_at "sc")
  | (apply Sp.ROneR.mk <;> walk_at "sc")
  | (apply Sp.RCorner.ok <;> walk_at "sc")
  | (apply Sp.RCorner.z <;> walk_at "sc")
  | (apply Sp.RUpw_up <;> walk_at "sc")
  | (apply Sp.RUpw_dn <;> walk_at "sc")
  | (apply Sp.RStrS.mk <;> walk_at "sc")
  | (apply Sp.RTold.ok <;> walk_at "sc")
  | (apply Sp.RTold.no <;> walk_at "sc")
  | (apply Sp.RComm.mk <;> walk_at "sc")
  | (apply Sp.RNear.mk <;> walk_at "sc")
  | (apply Sp.ROne.mk <;> walk_at "sc")
  | (apply Sp.RTwo.mk <;> walk_at "sc")
  | fail)
local macro_rules | `(tactic| walk_at "nf") => `(tactic| first | exact (‹∀ t ∈ Sp.tsL, PySem.W.notFirst ‹PySem.W.Frag› (Sp.ca ‹PySem.W.Frag› Sp.Cn.Step) (Sp.tv ‹PySem.W.Frag› t) = true›) (Sp.Ty0.own Sp.Cn.Step) (by decide) | exact (‹∀ t ∈ Sp.tsL, PySem.W.notFirst ‹PySem.W.Frag› (Sp.ca ‹PySem.W.Frag› Sp.Cn.Step) (Sp.tv ‹PySem.W.Frag› t) = true›) Sp.Ty0.tuple (by decide) | fail)
local macro_rules | `(tactic| walk_at "pre") => `(tactic| first | rfl | exact ⟨_, _, rfl, by assumption⟩)
namespace Sp
open PySem PySem.Spec PyProof.Rows L2
open PySem.W (Frag)
section
variable {P : Program} {w : World} {K : PySem.W.Frag} {mg : Str → Option Value} {base : Heap} {f : Addr} {fd : FuncData} {T : List (Addr × Str)}
variable (h_gcd : mg "gcd" = some (.builtin "math.gcd")) {tk1 tk2 : Tok} (h_most : mg "MOST_DIGITS" = some (.int 60 tk1)) (h_digits : mg "DIGITS" = some (.str "0123456789" tk2)) (h_all : mg "all" = none)
variable (g_xBadRatio : GXN P w K mg base 1 "BadRatio" ["part"] (cX K "BadRatio"))
  (g_xBadStep : GXN P w K mg base 1 "BadStep" ["part"] (cX K "BadStep"))
  (g_xBadNumber : GXN P w K mg base 1 "BadNumber" ["part"] (cX K "BadNumber"))
  (g_xRound : GXN P w K mg base 1 "Round" ["part"] (cX K "Round"))
  (g_xNotNeighbours : GXN P w K mg base 1 "NotNeighbours" ["one", "other"] (cX K "NotNeighbours"))
  (g_xCommon : GXN P w K mg base 1 "Common" ["divisor"] (cX K "Common"))
  (g_xBadText : GXN P w K mg base 1 "BadText" ["line", "word"] (cX K "BadText"))
  (g_is_integer : GD P w K mg base (L2.CX P w) 1 "is_integer" ["value"] [] (spR K csL tsL 3900 RIsInt))
  (g_is_ratio : GD P w K mg base (L2.CX P w) 2 "is_ratio" ["value"] [] (spR K csL tsL 3900 RIsRat))
  (g_sign_of : GD P w K mg base (L2.CX P w) 1 "sign_of" ["number"] [] (spR K csL tsL 100000 RSign))
  (g_mRatio : GM P w K mg base (L2.CX P w) 3 "Ratio" (ca K .Ratio) ["self", "top", "bottom"] [] (spRI K csL tsL .Ratio 3900 RInitR)) (g_mRatio1 : GM P w K mg base (L2.CX P w) 3 "Ratio" (ca K .Ratio) ["self", "top", "bottom"] [.int 1] (spRI K csL tsL .Ratio 3900 RInitR))
  (g_Ratio_of : GS P w K mg base (L2.CX P w) 5 (ca K .Ratio) "of" (spR K csL tsL 3900 (ROf "BadRatio" "value")))
  (g_at_right : GD P w K mg base (L2.CX P w) 6 "at_right" ["value"] [] (spR K csL tsL 3900 (ROf "BadRatio" "other")))
  (g_Ratio_Add : GO P w K mg base (L2.CX P w) 7 (ca K .Ratio) .Add (spR K csL tsL 1900 (RBinR (· + ·))))
  (g_Ratio_Sub : GO P w K mg base (L2.CX P w) 7 (ca K .Ratio) .Sub (spR K csL tsL 1900 (RBinR (· - ·))))
  (g_Ratio_Mult : GO P w K mg base (L2.CX P w) 7 (ca K .Ratio) .Mult (spR K csL tsL 1900 (RBinR (· * ·))))
  (g_Ratio_over : GH P w K mg base (L2.CX P w) 7 (ca K .Ratio) "over" ["self", "other"] (spR K csL tsL 1900 ROver))
  (g_Ratio_USub : GN P w K mg base (L2.CX P w) 5 (ca K .Ratio) "__neg__" (spR K csL tsL 3900 (RUnR (fun q => -q))))
  (g_Ratio_abs : GN P w K mg base (L2.CX P w) 5 (ca K .Ratio) "__abs__" (spR K csL tsL 3900 (RUnR qabs)))
  (g_Ratio_eq : GN P w K mg base (L2.CX P w) 2 (ca K .Ratio) "__eq__" (spR K csL tsL 3900 REqR)) (g_Ratio_eq_ne : GNe P w K mg base (L2.CX P w) 2 (ca K .Ratio) (spR K csL tsL 3900 REqR)) (nf_Ratio : ∀ t ∈ tsL, PySem.W.notFirst K (ca K .Ratio) (tv K t) = true)
  (g_Ratio_sign : GP P w K mg base (L2.CX P w) 2 (ca K .Ratio) "sign" (spR K csL tsL 3900 (RPropR fun q => .int q.num.sign)))
  (g_Ratio_below : GP P w K mg base (L2.CX P w) 1 (ca K .Ratio) "below" (spR K csL tsL 3900 (RPropR fun q => .int q.floor)))
  (g_mStep : GM P w K mg base (L2.CX P w) 3 "Step" (ca K .Step) ["self", "studs", "rounds"] [] (spRI K csL tsL .Step 3900 RInitS))
  (g_need_step : GD P w K mg base (L2.CX P w) 3 "need_step" ["value", "part"] [] (spR K csL tsL 100000 (RNeed .Step "BadStep")))
  (g_need_studs : GD P w K mg base (L2.CX P w) 3 "need_studs" ["step", "part"] [] (spR K csL tsL 100000 RNeedK))
  (g_is_upward : GD P w K mg base (L2.CX P w) 1 "is_upward" ["step"] [] (spR K csL tsL 3900 RIsUp))
  (g_summed : GD P w K mg base (L2.CX P w) 5 "summed" ["studs", "rounds"] [] (spR K csL tsL 3900 RSummed))
  (g_Step_Add : GO P w K mg base (L2.CX P w) 6 (ca K .Step) .Add (spR K csL tsL 1900 (RBinS (· + ·))))
  (g_Step_Sub : GO P w K mg base (L2.CX P w) 6 (ca K .Step) .Sub (spR K csL tsL 1900 (RBinS (· - ·))))
  (g_Step_USub : GN P w K mg base (L2.CX P w) 5 (ca K .Step) "__neg__" (spR K csL tsL 3900 RNegS))
  (g_Step_Mult : GO P w K mg base (L2.CX P w) 5 (ca K .Step) .Mult (spR K csL tsL 1900 RMulS))
  (g_Step_eq : GN P w K mg base (L2.CX P w) 1 (ca K .Step) "__eq__" (spR K csL tsL 3900 REqS)) (g_Step_eq_ne : GNe P w K mg base (L2.CX P w) 1 (ca K .Step) (spR K csL tsL 3900 REqS)) (nf_Step : ∀ t ∈ tsL, PySem.W.notFirst K (ca K .Step) (tv K t) = true)
  (g_Step_upward : GP P w K mg base (L2.CX P w) 5 (ca K .Step) "upward" (spR K csL tsL 3900 RUpw))
  (g_Step_corner : GP P w K mg base (L2.CX P w) 5 (ca K .Step) "corner" (spR K csL tsL 3900 RCorner))
  (g_Step_one_round : GS0 P w K mg base (L2.CX P w) 5 (ca K .Step) "one_round" (spR K csL tsL 3900 ROneR))
  (g_cross : GD P w K mg base (L2.CX P w) 4 "cross" ["one", "other"] [] (spR K csL tsL 1900 RCross))
  (g_are_neighbours : GD P w K mg base (L2.CX P w) 5 "are_neighbours" ["one", "other"] [] (spR K csL tsL 1900 RAreN))
  (g_need_neighbours : GD P w K mg base (L2.CX P w) 6 "need_neighbours" ["one", "other"] [] (spR K csL tsL 1900 RNeedN))
  (g_between : GD P w K mg base (L2.CX P w) 7 "between" ["one", "other"] [] (spR K csL tsL 1900 RBetween))
  (g_integer_of : GD P w K mg base (L2.CX P w) 1 "integer_of" ["word"] [] (spR K csL tsL 100000 RIntOf))
  (g_mWords : GM P w K mg base (L2.CX P w) 1 "Words" (ca K .Words) ["self", "words", "done", "last"] [] (spInitW K))
  (g_Words_is_over : GH P w K mg base (L2.CX P w) 1 (ca K .Words) "is_over" ["self"] (spWp K RIsOver))
  (g_Words_take : GH P w K mg base (L2.CX P w) 3 (ca K .Words) "take" ["self"] (spW K RTake))
  (g_Words_refuse : GH P w K mg base (L2.CX P w) 3 (ca K .Words) "refuse" ["self"] (spW K RRefuse))
  (g_Words_integer : GH P w K mg base (L2.CX P w) 4 (ca K .Words) "integer" ["self"] (spW K RInteg))
  (g_Words_end : GH P w K mg base (L2.CX P w) 3 (ca K .Words) "end" ["self"] (spWp K REndW))
  (g_words_in : GD P w K mg base (L2.CX P w) 3 "words_in" ["text"] [] (spWords K csL tsL))
  (g_take_step : GD P w K mg base (L2.CX P w) 5 "take_step" ["words"] [] (spW K RTakeS))
  (g_read_whole : GD P w K mg base (L2.CX P w) 6 "read_whole" ["text", "take"] [] (spReadW K csL tsL (He.ga K "take_step") RTakeS))
  (g_Step_read : GC P w K mg base (L2.CX P w) 7 (ca K .Step) "read" (spReadC K csL tsL RTakeS))
  (g_Step_str : GN P w K mg base (L2.CX P w) 1 (ca K .Step) "__str__" (spR K csL tsL 3900 RStrS))
  (g_inverse : GD P w K mg base (L2.CX P w) 1 "inverse" ["number", "modulus"] [] (spInv K))
  (g_mate : GD P w K mg base (L2.CX P w) 5 "mate" ["step"] [] (spMate K csL tsL))
  (g_l_pail : GD P w K mg base (L2.CX P w) 1 "_law_pail" ["_law_script"] [] (spPail K))
  (g_l_dip : GD P w K mg base (L2.CX P w) 1 "_law_dip" ["_law_pail_here", "_law_many"] [] spDip)
  (g_l_number : GD P w K mg base (L2.CX P w) 2 "_law_number" ["_law_pail_here", "_law_many"] [] (spLP K csL tsL T 60 900000 3 (fun ds => ds = [.int 30]) (fun _ d => ∃ i : Int, d = .int i ∧ i.natAbs < 2 ^ 46)))
  (g_l_pair : GD P w K mg base (L2.CX P w) 3 "_law_pair" ["_law_pail_here"] [] (spLP K csL tsL T 60 800000 20 (fun ds => ds = []) (fun _ d => ∃ k j : Int, d = .tup [.int k, .int j] ∧ Pk 49 k j)))
  (g_l_common : GD P w K mg base (L2.CX P w) 1 "_law_common" ["_law_one", "_law_other"] [] (spR K csL tsL 60 RComm))
  (g_l_told : GD P w K mg base (L2.CX P w) 1 "_law_told" ["_law_step"] [] (spR K csL tsL 100000 RTold))
  (g_l_nearest : GD P w K mg base (L2.CX P w) 1 "_law_nearest" ["_law_pair_here"] [] (spR K csL tsL 60 RNear))
  (g_l_one_right : GD P w K mg base (L2.CX P w) 18 "_law_one_right" ["_law_pair_here"] [] (spL K csL tsL T 60 ROne))
  (g_l_two_right : GD P w K mg base (L2.CX P w) 18 "_law_two_right" ["_law_one", "_law_other"] [] (spL K csL tsL T 60 RTwo))
  (g_l_mate_right : GD P w K mg base (L2.CX P w) 18 "_law_mate_right" ["_law_pair_here"] [] (spL K csL tsL T 60 ROne))
  (g_l_refused_right : GD P w K mg base (L2.CX P w) 18 "_law_refused_right" ["_law_pail_here", "_law_pair_here"] [] (spLP K csL tsL T 60 700000 5 (fun ds => ∃ k j : Int, ds = [.tup [.int k, .int j]] ∧ Pk 52 k j) (fun _ d => d = .bl true)))
  (g_l_text_right : GD P w K mg base (L2.CX P w) 18 "_law_text_right" ["_law_pail_here", "_law_pair_here"] [] (spLP K csL tsL T 60 700000 10 (fun ds => ∃ k j : Int, ds = [.tup [.int k, .int j]] ∧ Pk 52 k j) (fun _ d => d = .bl true)))
variable (g_take_step_l : GL P w K mg base (L2.CX P w) 5 "take_step" (spW K RTakeS))
variable (g_mStep_krs : GMK P w K mg base (L2.CX P w) 3 "Step" (ca K .Step) ["rounds", "studs"] [1, 0] (spRI K csL tsL .Step 3900 RInitS))
  (g_cross_k : GDK P w K mg base (L2.CX P w) 4 "cross" ["other", "one"] 2 [1, 0] (spR K csL tsL 1900 RCross))

local macro_rules | `(tactic| walk_at "sub") => `(tactic| (refine Sp.Env.sub (by assumption) (fun _ hi => ?_); repeat (first | exact hi | refine List.mem_cons_of_mem _ ?_)))
theorem sc__law_one_right : FnScope ["_law_pair_here", "_law_studs", "_law_rounds", "_law_divisor", "_law_is_up", "_law_step"] ["_law_pair_here"] (defScope (topS 49)) := ⟨rfl, rfl, rfl, by decide +kernel, rfl, by decide +kernel, by decide +kernel⟩
include g_Step_USub g_Step_corner g_Step_eq g_Step_read g_Step_str g_Step_upward g_l_common g_l_told g_mStep g_mStep_krs nf_Step in
theorem ok__law_one_right (hNa : Na K (.ref (cX K "Round"))) {c Pt : Addr} (gEr : GE K mg) (gHd : GHd P w K mg base) (hTB : LamX.TabB base mg c Pt) (hmT : (Pt, ("_law_one_right" : Str) ++ ".<locals>." ++ "<lambda>") ∈ T) (huT : ∀ p ∈ T, p.1 = Pt → p.2 = ("_law_one_right" : Str) ++ ".<locals>." ++ "<lambda>") (hfc : fd.code = .ref c) (G : G0 K mg csL tsL) (F : FP K "_law_one_right" "_law_one_right" (topS 49) [] f fd) : FnOk P w K mg base (L2.CX P w) 18 f fd ["_law_pair_here"] (spL K csL tsL T 60 ROne) := by
  have nd := sc__law_one_right.nd
  refine okL F hfc sc__law_one_right (fun ds d r => by cases r <;> rfl) (fun A outer s H ds d Q E hr z r q hE => ⟨_, pss_cons (ps_asg (pv 0) (pg_tup rfl (pgs_cons (pg_name (i := 1) nd rfl (Or.inl rfl)) (pgs_cons (pg_name (i := 2) nd rfl (Or.inl rfl)) (pgs_nil))))) (pss_cons (ps_asg (pe_tupE (pa_cons (pe_makeD g_mStep (hr.mono (by decide)) rfl (pxE rfl rfl rfl rfl) (pa_cons (pv 1) (pa_cons (pv 2) (pa_nil)))) (pa_cons (pe_gd g_l_common (hr.mono (by decide)) rfl (pxE rfl rfl rfl rfl) (pa_cons (pv 1) (pa_cons (pv 2) (pa_nil)))) (pa_nil)))) (pg_tup rfl (pgs_cons (pg_name (i := 5) nd rfl (Or.inr rfl)) (pgs_cons (pg_name (i := 3) nd rfl (Or.inl rfl)) (pgs_nil))))) (pss_cons (ps_ifC (PW.pt (pw_or (pt_cmpR (op_neD hr.units) (pe_gd g_l_told (hr.mono (by decide)) rfl (pxE rfl rfl rfl rfl) (pa_cons (pv 5) (pa_nil))) (pv 0) (nomark _)) (pw_or (pt_cmpR op_ne (pe_callTy (call_strGo g_Step_str (hr.mono (by decide)) (pxE rfl rfl rfl rfl)) rfl G.nm.str (by decide +kernel) (pa_cons (pv 5) (pa_nil))) (pe_op op_add_str (pe_op op_add_str (pe_callTy call_str_int rfl G.nm.str (by decide +kernel) (pa_cons (pv 1) (pa_nil))) (pe_str)) (pe_callTy call_str_int rfl G.nm.str (by decide +kernel) (pa_cons (pv 2) (pa_nil)))) (nomark _)) (pw_or1 (pt_cmpR (op_neD hr.units) (pe_gd g_l_told (hr.mono (by decide)) rfl (pxE rfl rfl rfl rfl) (pa_cons (pe_gcD (pe_glob (v := .ref (ca K .Step)) rfl (G.mgc .Step (by decide)) rfl) g_Step_read (hr.mono (by decide)) (pxE rfl rfl rfl rfl) (pa_cons (pe_callTy (call_strGo g_Step_str (hr.mono (by decide)) (pxE rfl rfl rfl rfl)) rfl G.nm.str (by decide +kernel) (pa_cons (pv 5) (pa_nil))) (pa_nil))) (pa_nil))) (pv 0) (nomark _)))))) (pss_one (ps_ret (pe_bl))) (pss_nil)) (pss_cons (ps_ifC (PW.pt (pw_or (pt_cmpR op_ne (pe_fldD (pv 5) rfl) (pv 3) (nomark _)) (pw_or (pt_cmpR op_ne (pe_fldD (pv 5) rfl) (pe_cmpR op_eq (pv 1) (pe_int) (nomark _)) (nomark _)) (pw_or1 (pt_cmpR (op_neD hr.units) (pe_gd g_l_told (hr.mono (by decide)) rfl (pxE rfl rfl rfl rfl) (pa_cons (pe_un (un_go g_Step_USub (hr.mono (by decide)) (pxE rfl rfl rfl rfl)) (pv 5)) (pa_nil))) (pe_tupE (pa_cons (pe_un un_neg (pv 1)) (pa_cons (pe_un un_neg (pv 2)) (pa_nil)))) (nomark _)))))) (pss_one (ps_ret (pe_bl))) (pss_nil)) (pss_cons (ps_set (i := 4) nd rfl (Or.inl rfl) (pe_or (pe_cmpR op_gt (pv 1) (pe_int) (nomark _)) (pe_one (pe_and (pe_cmpR op_eq (pv 1) (pe_int) (nomark _)) (pe_one (pe_cmpR op_gt (pv 2) (pe_int) (nomark _))))))) (pss_cons (ps_ifC (PW.pt (pw_or (pt_cmpR (op_neD hr.units) (pe_gd g_l_told (hr.mono (by decide)) rfl (pxE rfl rfl rfl rfl) (pa_cons (pe_propX (pv 5) g_Step_upward (hr.mono (by decide)) (pxE rfl rfl rfl rfl) rfl) (pa_nil))) (pe_ifExp (pt_val (pv 4)) (pv 0) (pe_tupE (pa_cons (pe_un un_neg (pv 1)) (pa_cons (pe_un un_neg (pv 2)) (pa_nil))))) (nomark _)) (pw_or1 (pt_not (pt_cmpR (op_eqGo g_Step_eq (hr.mono (by decide)) (pxE rfl rfl rfl rfl)) (pe_makeK g_mStep_krs (hr.mono (by decide)) rfl (pxE rfl rfl rfl rfl) (pk_cons (pv 2) (pk_cons (pv 1) (pk_nil)))) (pv 5) (nomark _)))))) (pss_one (ps_ret (pe_bl))) (pss_nil)) (pss_cons (ps_ifC (pt_cmpR op_eq (pv 1) (pe_int) (nomark _)) (pss_one (ps_ret (pe_cmpR (op_eqD hr.units) (pe_heard (X := cxOf (L2.CX P w) P w K mg base _ _ _ f (.ref c) A outer s H E) (k := 14) gHd gEr rfl hTB rfl hmT huT (hr.mono (by decide)) (hr.mono (by decide)) (LamX.lamS_by (sc := defScope (topS 49)) (by decide +kernel)) rfl (fun _ _ _ _ _ => rfl) (fun Al ol sl Hl El fl cl hr => pe_propXK (X := LamX.lamCx (cxOf (L2.CX P w) P w K mg base _ _ _ f (.ref c) A outer s H E) Al ol sl Hl El _ fl cl) K rfl (pv 5) g_Step_corner (hr.mono (by decide)) (pxE rfl rfl rfl rfl) rfl)) (pe_tupE (pa_cons (pe_str) (pa_cons (pe_str) (pa_nil)))) (nomark _)))) (pss_nil)) (pss_one (ps_ret (pe_and (pe_cmpR op_eq (pe_op op_mulB (pe_fldD (pe_propX (pv 5) g_Step_corner (hr.mono (by decide)) (pxE rfl rfl rfl rfl) rfl) rfl) (pv 1)) (pe_op op_mulB (pv 2) (pe_fldD (pe_propX (pv 5) g_Step_corner (hr.mono (by decide)) (pxE rfl rfl rfl rfl) rfl) rfl)) (nomark _)) (pe_one (pe_cmpR op_eq (pe_fldD (pe_propX (pv 5) g_Step_corner (hr.mono (by decide)) (pxE rfl rfl rfl rfl) rfl) rfl) (pe_op op_fdivB (pe_callB call_abs rfl G.nm.abs (by decide +kernel) (pa_cons (pv 1) (pa_nil))) (pv 3)) (nomark _)))))))))))), ?_⟩)
  cases r with
  | @mk k j h =>
    have bk : Bi k 52 := ⟨h.k⟩
    have bj : Bi j 52 := ⟨h.j⟩
    have nz := h.nz
    have h60k := lt60 h.k
    have h60j := lt60 h.j
    have lk := log60 h60k
    have lj := log60 h60j
    have l1 := len_dS h60k
    have l2 := len_dS h60j
    have sl : 1000 ≤ sizeLine := by decide
    have f1 : (dS k).length + (Str.ofString " ").length ≤ sizeLine := by
      have e : (Str.ofString " ").length = 1 := rfl
      omega
    have f2 : (dS k ++ Str.ofString " ").length + (dS j).length ≤ sizeLine := by
      have e : (Str.ofString " ").length = 1 := rfl
      rw [lenApp]
      omega
    have fe : dS k ++ Str.ofString " " ++ dS j = dS k ++ (Str.ofString " " ++ dS j) := by
      apply TL.ext_tl
      simp only [TL.tl_append, List.append_assoc]
    have es : decide (V.str (dS k ++ (Str.ofString " " ++ dS j)) = V.str (dS k ++ Str.ofString " " ++ dS j)) = true := by
      rw [fe]
      simp
    have ee : PyData.eqv (.tuple [.int k, .int j]) (.tuple [.int k, .int j]) = true := eqr rfl
    have en : PyData.eqv (.tuple [.int (-k), .int (-j)]) (.tuple [.int (-k), .int (-j)]) = true := eqr rfl
    have eg : decide (V.int ((Nat.gcd k.natAbs j.natAbs : Nat) : Int) = V.int ((Nat.gcd k.natAbs j.natAbs : Nat) : Int)) = true := by simp
    have er : decide (V.bl (decide (k = 0)) = V.bl (decide (V.int k = V.int 0))) = true := by
      rw [vEq]
      simp
    have eS : (decide (k = k) && decide (j = j)) = true := by simp
    walk_at "goL"
    refine ifGo ?_
    walk_at "rd"
    refine ifGo ?_
    walk_at "rd"
    have bc : Bq (Rat.divInt j k) 52 ∨ k = 0 := by
      by_cases hk : k = 0
      · exact .inr hk
      · exact .inl ⟨sz_divInt hk h.j h.k⟩
    have fin1 : k ≠ 0 → decide (V.int ((Rat.divInt j k).num * k) = V.int (j * ((Rat.divInt j k).den : Nat))) = true := fun hk => by
      rw [corner_eq hk]
      simp
    have fin2 : k ≠ 0 → decide (V.int ((Rat.divInt j k).den : Nat) = V.int ((if k < 0 then -k else k).fdiv ((Nat.gcd k.natAbs j.natAbs : Nat) : Int))) = true := fun hk => by
      rw [corner_den hk]
      simp
    have bg : CDivB (if k < 0 then -k else k) ((Nat.gcd k.natAbs j.natAbs : Nat) : Int) ∨ k = 0 := by
      by_cases hk : k = 0
      · exact .inr hk
      · refine .inl ⟨fun z => hk ?_, ?_⟩
        · have := Nat.gcd_eq_zero_iff.mp (show Nat.gcd k.natAbs j.natAbs = 0 by omega)
          omega
        · have h1 := Nat.gcd_le_left j.natAbs (show 0 < k.natAbs by omega)
          have h2 := h.k
          exact nb_le (show (((Nat.gcd k.natAbs j.natAbs : Nat) : Int)).natAbs < 2 ^ 52 by omega)
    by_cases hk : k = 0
    · subst hk
      have d0 : decide (V.int 0 = V.int 0) = true := by simp
      have d1 : decide ((0 : Int) < 0) = false := by decide
      by_cases c2 : 0 < j
      · have d2 : decide (0 < j) = true := decide_eq_true c2
        have up : upS 0 j = true := by unfold upS; rw [d2]; rfl
        (walk_at "rd"; refine ifGo ?_; walk_at "rd"; refine ifGo ?_; walk_at "rd")
      · have d2 : decide (0 < j) = false := decide_eq_false c2
        have up : upS 0 j = false := by unfold upS; rw [d2]; rfl
        (walk_at "rd"; refine ifGo ?_; walk_at "rd"; refine ifGo ?_; walk_at "rd")
    · have d0 : decide (V.int k = V.int 0) = false := by rw [vEq]; exact decide_eq_false hk
      have d00 : decide (k = 0) = false := decide_eq_false hk
      have bc := bc.resolve_right hk
      have bg := bg.resolve_right hk
      have fin1 := fin1 hk
      have fin2 := fin2 hk
      by_cases c1 : 0 < k
      · have d1 : decide (0 < k) = true := decide_eq_true c1
        have up : upS k j = true := by unfold upS; rw [d1]; rfl
        (walk_at "rd"; refine ifGo ?_; walk_at "rd"; refine ifGo ?_; walk_at "rd")
      · have d1 : decide (0 < k) = false := decide_eq_false c1
        have up : upS k j = false := by unfold upS; rw [d1, d00]; rfl
        (walk_at "rd"; refine ifGo ?_; walk_at "rd"; refine ifGo ?_; walk_at "rd")
end
end Sp
end
section
set_option Elab.async false
set_option linter.all false
set_option exponentiation.threshold 5000
set_option maxRecDepth 100000
set_option maxHeartbeats 0
local macro_rules | `(tactic| walk_at "mem") => `(tactic| first | exact List.mem_cons_self | (refine List.mem_cons_of_mem _ ?_; walk_at "mem"))
local macro_rules | `(tactic| walk_at "isv") => `(tactic| first | exact Sp.IsV.int _ | exact Sp.IsV.str _ | exact Sp.IsV.bl _ | exact Sp.IsV.non | exact Sp.Env.get (by assumption) (by walk_at "mem") | assumption)
local macro_rules | `(tactic| walk_at "isvs") => `(tactic| first | exact Sp.IsVs.nil | (refine' Sp.IsVs.cons ?iv ?rs; (case iv => walk_at "isv"); (case rs => walk_at "isvs")))
local macro_rules | `(tactic| walk_at "isfs") => `(tactic| first | exact Sp.IsFs.nil | (refine' Sp.IsFs.cons ?iv ?rs; (case iv => walk_at "isv"); (case rs => walk_at "isfs")))
local macro_rules | `(tactic| walk_at "sz1") => `(tactic| first | exact trivial | exact Sp.biI _ | exact Sp.bqI _ | exact ⟨Sp.biI _, Sp.biI _⟩ | exact ⟨Sp.bqI _, Sp.bqI _⟩ | exact ⟨⟨Sp.biI _, Sp.biI _⟩, Sp.biI _, Sp.biI _⟩ | exact ⟨Sp.bqI _, Sp.bqI _, Sp.bqI _⟩ | assumption | exact Sp.SzD.mono (by assumption) (by decide))
local macro_rules | `(tactic| walk_at "okt") => `(tactic| first | rfl | assumption | decide)
local macro_rules | `(tactic| walk_at "dsok") => `(tactic| first | exact trivial | (refine And.intro (And.intro ?oa ?ob) ?rs; (case oa => walk_at "okt"); (case ob => walk_at "sz1"); (case rs => walk_at "dsok")))
local macro_rules | `(tactic| walk_at "sc") => `(tactic| first | rfl | assumption | decide | omega)
local macro_rules | `(tactic| walk_at "leaf") => `(tactic| first | rfl | assumption | exact True.intro | exact ⟨_, rfl⟩ | exact L2.upd_same | exact L2.ClsV.ty _ | exact L2.ClsV.own _ | decide | exact of_decide_eq_true rfl | exact Sp.cmI _ _ | exact Sp.cdI _ (by first | assumption | omega) | exact Sp.cmL (by decide) | exact Sp.cmR (by decide) | exact ⟨by decide, by decide, by decide⟩ | exact ⟨by decide, by decide⟩ | omega | fail)
local macro_rules | `(tactic| walk_at "cls") => `(tactic| first | exact Sp.ClsD.int | exact Sp.ClsD.bool | exact Sp.ClsD.str | exact Sp.ClsD.own _ | exact Sp.ClsD.tuple | exact Sp.ClsD.list)
local macro_rules | `(tactic| walk_at "args") => `(tactic| repeat (first
  | refine' Sp.aaInt ?_ | refine' Sp.aaBl ?_ | refine' Sp.aaStr ?_ | refine' Sp.aaNon ?_ | (refine' Sp.aaOwn (by assumption) (by rfl) ?_; intro _ _) | (refine' Sp.aaTup (by assumption) ?_; intro _ _) | (refine' Sp.aaAny (by assumption) ?_; intro _ _) | refine' Sp.aaNil ?_))
local macro_rules | `(tactic| walk_at "shp") => `(tactic| first | rfl | decide +kernel | (simp [PySem.SeqAt.shaped, PySem.PyData.canLay0, PySem.PyData.canLayAll0, PySem.PyData.depth, PySem.PyData.depthAll] <;> decide +kernel))
local macro_rules | `(tactic| walk_at "rd1") => `(tactic| first
  | apply Sp.exI
  | (refine And.intro ?lf ?_; (case lf => walk_at "leaf"))
  | (show @ite Prop (_ = true) _ _ _; first | refine' Sp.iteT (by first | assumption | rfl | exact Sp.nbT (by assumption) | exact Sp.nbF (by assumption)) ?_ | refine' Sp.iteF (by first | assumption | rfl | exact Sp.nbT (by assumption) | exact Sp.nbF (by assumption) | exact Sp.nbF (Sp.eqr (by walk_at "shp"))) ?_)
  | (refine' Sp.afInt (by assumption) ?_; intro _ _) | (refine' Sp.afBl (by assumption) ?_; intro _ _) | (refine' Sp.afStr (by assumption) ?_; intro _ _) | (refine' Sp.afNon (by assumption) ?_; intro _ _)
  | (refine' Sp.afOwn (by assumption) (by rfl) ?_; intro _ _ _) | (refine' Sp.afTup (by assumption) ?_; intro _ _ _) | (refine' Sp.afRef (by assumption) ?_; intro _ _ _)
  | refine' Sp.asInt ?_ | refine' Sp.asBl ?_ | refine' Sp.asStr ?_ | refine' Sp.asNon ?_
  | (refine' Sp.asOwn (by assumption) (by rfl) ?_; intro _ _) | (refine' Sp.asTup (by assumption) ?_; intro _ _) | (refine' Sp.asRef (by assumption) ?_; intro _ _)
  | refine' Sp.aaInt ?_ | refine' Sp.aaBl ?_ | refine' Sp.aaStr ?_ | refine' Sp.aaNon ?_ | (refine' Sp.aaOwn (by assumption) (by rfl) ?_; intro _ _) | (refine' Sp.aaTup (by assumption) ?_; intro _ _) | (refine' Sp.aaAny (by assumption) ?_; intro _ _) | refine' Sp.aaNil ?_
  | (refine' Sp.fnR ?i ?z ?r ?_; (case i => walk_at "isvs"); (case z => walk_at "dsok"); (case r => walk_at "rel"))
  | (refine' Sp.makeOk ?i ?z ?r ?o ?_; (case i => walk_at "isvs"); (case z => walk_at "dsok"); (case r => walk_at "rel"); (case o => rfl))
  | (refine' Sp.makeEr ?i ?z ?r ?_; (case i => walk_at "isvs"); (case z => walk_at "dsok"); (case r => walk_at "rel"))
  | (refine' Sp.isiD (by assumption) ?i ?c ?o ?t ?_; (case i => walk_at "isv"); (case c => walk_at "cls"); (case o => walk_at "okt"); (case t => decide))
  | (refine' Sp.fldD (by assumption) ?i ?o ?l ?c ?_; (case i => walk_at "isv"); (case o => rfl); (case l => rfl); (case c => decide))
  | (refine' Sp.fldRaw (by assumption) (by assumption) (by rfl) (by decide) (by decide) ?_)
  | (refine' Sp.methRaw (by assumption) (by rfl) ?_)
  | (refine' Sp.setRaw (by assumption) (by assumption) (by rfl) (by decide) (by decide) ?_)
  | (refine' Sp.strD ?i ?o ?_; (case i => walk_at "isv"); (case o => rfl))
  | (refine' Sp.methD ?i ?o ?l ?_; (case i => walk_at "isv"); (case o => rfl); (case l => rfl))
  | (refine' Sp.propD ?i ?o ?_; (case i => walk_at "isv"); (case o => rfl))
  | (refine' Sp.binD ?i ?o ?j ?e ?_; (case i => walk_at "isv"); (case o => rfl); (case j => walk_at "isv"); (case e => rfl))
  | (refine' Sp.unD ?i ?o ?_; (case i => walk_at "isv"); (case o => rfl))
  | (refine' Sp.absD ?i ?o ?_; (case i => walk_at "isv"); (case o => rfl))
  | (refine' Sp.eqOwnD (by assumption) ?i ?o ?j ?e ?n ?_; (case i => walk_at "isv"); (case o => rfl); (case j => walk_at "isv"); (case e => walk_at "okt"); (case n => walk_at "nf"))
  | (refine' Sp.neOwnD (by assumption) ?i ?o ?j ?e ?n ?_; (case i => walk_at "isv"); (case o => rfl); (case j => walk_at "isv"); (case e => walk_at "okt"); (case n => walk_at "nf"))
  | (refine' Sp.tupD (by assumption) ?i ?l ?_; (case i => walk_at "isvs"); (case l => rfl); intro _ _ _)
  | (refine' Sp.lstD (by assumption) ?i ?l ?_; (case i => walk_at "isvs"); (case l => rfl); intro _ _ _)
  | (refine' Sp.raiseD (by assumption) ?i ?e ?l ?_; (case i => walk_at "isvs"); (case e => rfl); (case l => rfl))
  | (refine' Sp.setD (by assumption) (by assumption) rfl rfl rfl (by decide) (by decide) ?_; intro _ _)
  | (refine' Sp.ixTD ?i ?e ?g ?_; (case i => walk_at "isv"); (case e => rfl); (case g => rfl))
  | (refine' Sp.ixLD ?i ?e ?g ?_; (case i => walk_at "isv"); (case e => rfl); (case g => rfl))
  | (refine' Sp.gTupD ?i ?e ?_; (case i => walk_at "isv"); (case e => rfl))
  | refine' Sp.lamR (by assumption) ?_
  | (refine' Sp.finD' (by assumption) (by assumption) ?i; (case i => walk_at "isv"))
  | refine' Sp.finE' (by assumption) (by assumption)
  | refine' Sp.finIE (by assumption) (by assumption) (by assumption)
  | (refine' Sp.dipD (by assumption) (by omega) ?m0 ?m1 ?n ?_; (case m0 => first | decide | omega); (case m1 => first | decide | omega); (case n => rfl); intro _ _ _ _ _)
  | (refine' Sp.lawL (by assumption) ?i ?z ?r ?_; (case i => walk_at "isvs"); (case z => walk_at "dsok"); (case r => walk_at "rel"); intro _ _ _)
  | (refine' Sp.lawP (by assumption) ?i ?z ?nd ?pr (by omega) ?nl ?_; (case i => walk_at "isvs"); (case z => walk_at "dsok"); (case nd => rfl); (case pr => walk_at "pre"); (case nl => rfl))
  | (refine' Sp.dctD (by assumption) ?_; intro _ _ _)
  | (refine' Sp.eqDD ?i ?j ?e ?f ?s ?t ?_; (case i => walk_at "isv"); (case j => walk_at "isv"); (case e => rfl); (case f => rfl); (case s => walk_at "shp"); (case t => walk_at "shp"))
  | (refine' Sp.neDD ?i ?j ?e ?f ?s ?t ?_; (case i => walk_at "isv"); (case j => walk_at "isv"); (case e => rfl); (case f => rfl); (case s => walk_at "shp"); (case t => walk_at "shp"))
  | (refine' Sp.readCO ?i ?ot ?r ?_; (case i => walk_at "isv"); (case ot => walk_at "okt"); (case r => first | assumption | exact Sp.rd_own (by assumption)))
  | (refine' Sp.finLB (by assumption) (by assumption) ?e; (case e => first | rfl | assumption | exact Sp.eqr (by walk_at "shp")))
  | refine' Sp.aeNa (by assumption) ?_
  | (refine' Sp.lamD (by assumption) ?_; intro _ _ _ _)
  | (refine' Sp.hokD (by assumption) ?i ?_; (case i => walk_at "isv"); intro _ _ _)
  | (refine' Sp.herP1 (by assumption) ?m ?l ?_; (case m => walk_at "mem"); (case l => rfl); intro _ _ _)
  | (refine' Sp.herP2 (by assumption) ?m ?l ?l2 ?_; (case m => walk_at "mem"); (case l => rfl); (case l2 => rfl); intro _ _ _)
  | (refine' Sp.finL (by assumption) (by assumption) ?i; (case i => walk_at "isv"))
  | fail)
local macro_rules | `(tactic| walk_at "rd1N") => `(tactic| first
  | apply Sp.exI
  | (refine And.intro ?lf ?_; (case lf => walk_at "leaf"))
  | (show @ite Prop (_ = true) _ _ _; first | refine' Sp.iteT (by first | assumption | rfl | exact Sp.nbT (by assumption) | exact Sp.nbF (by assumption)) ?_ | refine' Sp.iteF (by first | assumption | rfl | exact Sp.nbT (by assumption) | exact Sp.nbF (by assumption) | exact Sp.nbF (Sp.eqr (by walk_at "shp"))) ?_)
  | (refine' Sp.afInt (by assumption) ?_; intro _ _) | (refine' Sp.afBl (by assumption) ?_; intro _ _) | (refine' Sp.afStr (by assumption) ?_; intro _ _) | (refine' Sp.afNon (by assumption) ?_; intro _ _)
  | (refine' Sp.afOwn (by assumption) (by rfl) ?_; intro _ _ _) | (refine' Sp.afTup (by assumption) ?_; intro _ _ _) | (refine' Sp.afRef (by assumption) ?_; intro _ _ _)
  | refine' Sp.asInt ?_ | refine' Sp.asBl ?_ | refine' Sp.asStr ?_ | refine' Sp.asNon ?_
  | (refine' Sp.asOwn (by assumption) (by rfl) ?_; intro _ _) | (refine' Sp.asTup (by assumption) ?_; intro _ _) | (refine' Sp.asRef (by assumption) ?_; intro _ _)
  | refine' Sp.aaInt ?_ | refine' Sp.aaBl ?_ | refine' Sp.aaStr ?_ | refine' Sp.aaNon ?_ | (refine' Sp.aaOwn (by assumption) (by rfl) ?_; intro _ _) | (refine' Sp.aaTup (by assumption) ?_; intro _ _) | (refine' Sp.aaAny (by assumption) ?_; intro _ _) | refine' Sp.aaNil ?_
  | (refine' Sp.fnR ?i ?z ?r ?_; (case i => walk_at "isvs"); (case z => walk_at "dsok"); (case r => walk_at "rel"))
  | (refine' Sp.makeOk ?i ?z ?r ?o ?_; (case i => walk_at "isvs"); (case z => walk_at "dsok"); (case r => walk_at "rel"); (case o => rfl))
  | (refine' Sp.makeEr ?i ?z ?r ?_; (case i => walk_at "isvs"); (case z => walk_at "dsok"); (case r => walk_at "rel"))
  | (refine' Sp.isiD (by assumption) ?i ?c ?o ?t ?_; (case i => walk_at "isv"); (case c => walk_at "cls"); (case o => walk_at "okt"); (case t => decide))
  | (refine' Sp.fldD (by assumption) ?i ?o ?l ?c ?_; (case i => walk_at "isv"); (case o => rfl); (case l => rfl); (case c => decide))
  | (refine' Sp.fldRaw (by assumption) (by assumption) (by rfl) (by decide) (by decide) ?_)
  | (refine' Sp.methRaw (by assumption) (by rfl) ?_)
  | (refine' Sp.setRaw (by assumption) (by assumption) (by rfl) (by decide) (by decide) ?_)
  | (refine' Sp.strD ?i ?o ?_; (case i => walk_at "isv"); (case o => rfl))
  | (refine' Sp.methD ?i ?o ?l ?_; (case i => walk_at "isv"); (case o => rfl); (case l => rfl))
  | (refine' Sp.propD ?i ?o ?_; (case i => walk_at "isv"); (case o => rfl))
  | (refine' Sp.binD ?i ?o ?j ?e ?_; (case i => walk_at "isv"); (case o => rfl); (case j => walk_at "isv"); (case e => rfl))
  | (refine' Sp.unD ?i ?o ?_; (case i => walk_at "isv"); (case o => rfl))
  | (refine' Sp.absD ?i ?o ?_; (case i => walk_at "isv"); (case o => rfl))
  | (refine' Sp.eqOwnD (by assumption) ?i ?o ?j ?e ?n ?_; (case i => walk_at "isv"); (case o => rfl); (case j => walk_at "isv"); (case e => walk_at "okt"); (case n => walk_at "nf"))
  | (refine' Sp.neOwnD (by assumption) ?i ?o ?j ?e ?n ?_; (case i => walk_at "isv"); (case o => rfl); (case j => walk_at "isv"); (case e => walk_at "okt"); (case n => walk_at "nf"))
  | (refine' Sp.raiseD (by assumption) ?i ?e ?l ?_; (case i => walk_at "isvs"); (case e => rfl); (case l => rfl))
  | (refine' Sp.setD (by assumption) (by assumption) rfl rfl rfl (by decide) (by decide) ?_; intro _ _)
  | (refine' Sp.ixTD ?i ?e ?g ?_; (case i => walk_at "isv"); (case e => rfl); (case g => rfl))
  | (refine' Sp.ixLD ?i ?e ?g ?_; (case i => walk_at "isv"); (case e => rfl); (case g => rfl))
  | (refine' Sp.gTupD ?i ?e ?_; (case i => walk_at "isv"); (case e => rfl))
  | refine' Sp.lamR (by assumption) ?_
  | (refine' Sp.finD' (by assumption) (by assumption) ?i; (case i => walk_at "isv"))
  | refine' Sp.finE' (by assumption) (by assumption)
  | refine' Sp.finIE (by assumption) (by assumption) (by assumption)
  | (refine' Sp.dipD (by assumption) (by omega) ?m0 ?m1 ?n ?_; (case m0 => first | decide | omega); (case m1 => first | decide | omega); (case n => rfl); intro _ _ _ _ _)
  | (refine' Sp.lawL (by assumption) ?i ?z ?r ?_; (case i => walk_at "isvs"); (case z => walk_at "dsok"); (case r => walk_at "rel"); intro _ _ _)
  | (refine' Sp.lawP (by assumption) ?i ?z ?nd ?pr (by omega) ?nl ?_; (case i => walk_at "isvs"); (case z => walk_at "dsok"); (case nd => rfl); (case pr => walk_at "pre"); (case nl => rfl))
  | (refine' Sp.dctD (by assumption) ?_; intro _ _ _)
  | (refine' Sp.eqDD ?i ?j ?e ?f ?s ?t ?_; (case i => walk_at "isv"); (case j => walk_at "isv"); (case e => rfl); (case f => rfl); (case s => walk_at "shp"); (case t => walk_at "shp"))
  | (refine' Sp.neDD ?i ?j ?e ?f ?s ?t ?_; (case i => walk_at "isv"); (case j => walk_at "isv"); (case e => rfl); (case f => rfl); (case s => walk_at "shp"); (case t => walk_at "shp"))
  | (refine' Sp.lamD (by assumption) ?_; intro _ _ _ _)
  | (refine' Sp.hokD (by assumption) ?i ?_; (case i => walk_at "isv"); intro _ _ _)
  | (refine' Sp.herP1 (by assumption) ?m ?l ?_; (case m => walk_at "mem"); (case l => rfl); intro _ _ _)
  | (refine' Sp.herP2 (by assumption) ?m ?l ?l2 ?_; (case m => walk_at "mem"); (case l => rfl); (case l2 => rfl); intro _ _ _)
  | (refine' Sp.finL (by assumption) (by assumption) ?i; (case i => walk_at "isv"))
  | fail)
local macro_rules | `(tactic| walk_at "rdN") => `(tactic| repeat (walk_at "rd1N"))
local macro_rules | `(tactic| walk_at "rd") => `(tactic| repeat (walk_at "rd1"))
local macro_rules | `(tactic| walk_at "zs") => `(tactic| (refine' Sp.zsStart (by assumption) ?_; repeat (first | refine' Sp.zsNil ?_ | (refine' Sp.zsInt ?_; intro _) | (refine' Sp.zsRat ?_; intro _) | (refine' Sp.zsStep ?_; intro _ _) | (refine' Sp.zsStem ?_; intro _ _) | (refine' Sp.zsTable ?_; intro _ _ _ _) | (refine' Sp.zsAny ?_; intro _ _))))
local macro_rules | `(tactic| walk_at "go0") => `(tactic| (walk_at "zs"; (have := Sp.Env.of (K := ‹PySem.W.Frag›) ‹L2.Hp›); walk_at "args"))
local macro_rules | `(tactic| walk_at "go") => `(tactic| (walk_at "go0"; walk_at "rd"))
local macro_rules | `(tactic| walk_at "goI0") => `(tactic| (walk_at "zs"; (have := Sp.Env.ofI (K := ‹PySem.W.Frag›) (H := ‹L2.Hp›) (by assumption)); walk_at "args"))
local macro_rules | `(tactic| walk_at "goI") => `(tactic| (walk_at "goI0"; walk_at "rd"))
local macro_rules | `(tactic| walk_at "goL") => `(tactic| (walk_at "zs"; walk_at "args"; walk_at "rd"))
local macro_rules | `(tactic| walk_at "rel") => `(tactic| first
  | (apply Sp.RIsInt.mk <;> walk_at "sc")
  | (apply Sp.RIsRat.mk <;> walk_at "sc")
  | (apply Sp.RSign.mk <;> walk_at "sc")
  | (apply Sp.RInitR.one <;> walk_at "sc")
  | (apply Sp.RInitR.ok <;> walk_at "sc")
  | (apply Sp.RInitR.z <;> walk_at "sc")
  | (apply Sp.RInitR.t <;> walk_at "sc")
  | (apply Sp.RInitR.b <;> walk_at "sc")
  | (apply Sp.ROf.r <;> walk_at "sc")
  | (apply Sp.ROf.i <;> walk_at "sc")
  | (apply Sp.ROf.n <;> walk_at "sc")
  | (apply Sp.RBinR.r <;> walk_at "sc")
  | (apply Sp.RBinR.i <;> walk_at "sc")
  | (apply Sp.RBinR.n <;> walk_at "sc")
  | (apply Sp.ROver.r <;> walk_at "sc")
  | (apply Sp.ROver.i <;> walk_at "sc")
  | (apply Sp.ROver.z <;> walk_at "sc")
  | (apply Sp.ROver.zi <;> walk_at "sc")
  | (apply Sp.ROver.n <;> walk_at "sc")
  | (apply Sp.RCmp.r <;> walk_at "sc")
  | (apply Sp.RCmp.i <;> walk_at "sc")
  | (apply Sp.RCmp.n <;> walk_at "sc")
  | (apply Sp.RBelow.r <;> walk_at "sc")
  | (apply Sp.RBelow.i <;> walk_at "sc")
  | (apply Sp.RBelow.n <;> walk_at "sc")
  | (apply Sp.RUnR.mk <;> walk_at "sc")
  | (apply Sp.REqR.r <;> walk_at "sc")
  | (apply Sp.REqR.i <;> walk_at "sc")
  | (apply Sp.REqR.n <;> walk_at "sc")
  | (apply Sp.RPropR.mk <;> walk_at "sc")
  | (apply Sp.RInitS.ok <;> walk_at "sc")
  | (apply Sp.RInitS.z <;> walk_at "sc")
  | (apply Sp.RInitS.s <;> walk_at "sc")
  | (apply Sp.RInitS.r <;> walk_at "sc")
  | (apply Sp.RNeed.ok <;> walk_at "sc")
  | (apply Sp.RNeed.no <;> walk_at "sc")
  | (apply Sp.RNeedK.ok <;> walk_at "sc")
  | (apply Sp.RNeedK.z <;> walk_at "sc")
  | (apply Sp.RCross.ok <;> walk_at "sc")
  | (apply Sp.RCross.one <;> walk_at "sc")
  | (apply Sp.RCross.oth <;> walk_at "sc")
  | (apply Sp.RAreN.ok <;> walk_at "sc")
  | (apply Sp.RAreN.one <;> walk_at "sc")
  | (apply Sp.RAreN.oth <;> walk_at "sc")
  | (apply Sp.RNeedN.ok <;> walk_at "sc")
  | (apply Sp.RNeedN.no <;> walk_at "sc")
  | (apply Sp.RNeedN.one <;> walk_at "sc")
  | (apply Sp.RNeedN.oth <;> walk_at "sc")
  | (apply Sp.RBetween.ok <;> walk_at "sc")
  | (apply Sp.RBetween.no <;> walk_at "sc")
  | (apply Sp.RBetween.one <;> walk_at "sc")
  | (apply Sp.RBetween.oth <;> walk_at "sc")
  | (apply Sp.RSummed.ok <;> walk_at "sc")
  | (apply Sp.RSummed.z <;> walk_at "sc")
  | (apply Sp.RBinS.ok <;> walk_at "sc")
  | (apply Sp.RBinS.z <;> walk_at "sc")
  | (apply Sp.RBinS.n <;> walk_at "sc")
  | (apply Sp.RMulS.ok <;> walk_at "sc")
  | (apply Sp.RMulS.z <;> walk_at "sc")
  | (apply Sp.RMulS.n <;> walk_at "sc")
  | (apply Sp.RNegS.mk <;> walk_at "sc")
  | (apply Sp.REqS.s <;> walk_at "sc")
  | (apply Sp.REqS.n <;> walk_at "sc")
  | (apply Sp.RIsUp.mk <;> walk_at "sc")
  | (apply Sp.ROneR.mk <;> walk_at "sc")
  | (apply Sp.RCorner.ok <;> walk_at "sc")
  | (apply Sp.RCorner.z <;> walk_at "sc")
  | (apply Sp.RUpw_up <;> walk_at "sc")
  | (apply Sp.RUpw_dn <;> walk_at "sc")
  | (apply Sp.RStrS.mk <;> walk_at "sc")
  | (apply Sp.RTold.ok <;> walk_at "sc")
  | (apply Sp.RTold.no <;> walk_at "sc")
  | (apply Sp.RComm.mk <;> walk_at "sc")
  | (apply Sp.RNear.mk <;> walk_at "sc")
  | (apply Sp.ROne.mk <;> walk_at "sc")
  | (apply Sp.RTwo.mk <;> walk_at "sc")
  | fail)
local macro_rules | `(tactic| walk_at "nf") => `(tactic| first | exact (‹∀ t ∈ Sp.tsL, PySem.W.notFirst ‹PySem.W.Frag› (Sp.ca ‹PySem.W.Frag› Sp.Cn.Step) (Sp.tv ‹PySem.W.Frag› t) = true›) (Sp.Ty0.own Sp.Cn.Step) (by decide) | exact (‹∀ t ∈ Sp.tsL, PySem.W.notFirst ‹PySem.W.Frag› (Sp.ca ‹PySem.W.Frag› Sp.Cn.Step) (Sp.tv ‹PySem.W.Frag› t) = true›) Sp.Ty0.tuple (by decide) | fail)
local macro_rules | `(tactic| walk_at "pre") => `(tactic| first | rfl | exact ⟨_, _, rfl, by assumption⟩)
namespace Sp
open PySem PySem.Spec PyProof.Rows L2
open PySem.W (Frag)
section
variable {P : Program} {w : World} {K : PySem.W.Frag} {mg : Str → Option Value} {base : Heap} {f : Addr} {fd : FuncData} {T : List (Addr × Str)}
variable (h_gcd : mg "gcd" = some (.builtin "math.gcd")) {tk1 tk2 : Tok} (h_most : mg "MOST_DIGITS" = some (.int 60 tk1)) (h_digits : mg "DIGITS" = some (.str "0123456789" tk2)) (h_all : mg "all" = none)
variable (g_xBadRatio : GXN P w K mg base 1 "BadRatio" ["part"] (cX K "BadRatio"))
  (g_xBadStep : GXN P w K mg base 1 "BadStep" ["part"] (cX K "BadStep"))
  (g_xBadNumber : GXN P w K mg base 1 "BadNumber" ["part"] (cX K "BadNumber"))
  (g_xRound : GXN P w K mg base 1 "Round" ["part"] (cX K "Round"))
  (g_xNotNeighbours : GXN P w K mg base 1 "NotNeighbours" ["one", "other"] (cX K "NotNeighbours"))
  (g_xCommon : GXN P w K mg base 1 "Common" ["divisor"] (cX K "Common"))
  (g_xBadText : GXN P w K mg base 1 "BadText" ["line", "word"] (cX K "BadText"))
  (g_is_integer : GD P w K mg base (L2.CX P w) 1 "is_integer" ["value"] [] (spR K csL tsL 3900 RIsInt))
  (g_is_ratio : GD P w K mg base (L2.CX P w) 2 "is_ratio" ["value"] [] (spR K csL tsL 3900 RIsRat))
  (g_sign_of : GD P w K mg base (L2.CX P w) 1 "sign_of" ["number"] [] (spR K csL tsL 100000 RSign))
  (g_mRatio : GM P w K mg base (L2.CX P w) 3 "Ratio" (ca K .Ratio) ["self", "top", "bottom"] [] (spRI K csL tsL .Ratio 3900 RInitR)) (g_mRatio1 : GM P w K mg base (L2.CX P w) 3 "Ratio" (ca K .Ratio) ["self", "top", "bottom"] [.int 1] (spRI K csL tsL .Ratio 3900 RInitR))
  (g_Ratio_of : GS P w K mg base (L2.CX P w) 5 (ca K .Ratio) "of" (spR K csL tsL 3900 (ROf "BadRatio" "value")))
  (g_at_right : GD P w K mg base (L2.CX P w) 6 "at_right" ["value"] [] (spR K csL tsL 3900 (ROf "BadRatio" "other")))
  (g_Ratio_Add : GO P w K mg base (L2.CX P w) 7 (ca K .Ratio) .Add (spR K csL tsL 1900 (RBinR (· + ·))))
  (g_Ratio_Sub : GO P w K mg base (L2.CX P w) 7 (ca K .Ratio) .Sub (spR K csL tsL 1900 (RBinR (· - ·))))
  (g_Ratio_Mult : GO P w K mg base (L2.CX P w) 7 (ca K .Ratio) .Mult (spR K csL tsL 1900 (RBinR (· * ·))))
  (g_Ratio_over : GH P w K mg base (L2.CX P w) 7 (ca K .Ratio) "over" ["self", "other"] (spR K csL tsL 1900 ROver))
  (g_Ratio_USub : GN P w K mg base (L2.CX P w) 5 (ca K .Ratio) "__neg__" (spR K csL tsL 3900 (RUnR (fun q => -q))))
  (g_Ratio_abs : GN P w K mg base (L2.CX P w) 5 (ca K .Ratio) "__abs__" (spR K csL tsL 3900 (RUnR qabs)))
  (g_Ratio_eq : GN P w K mg base (L2.CX P w) 2 (ca K .Ratio) "__eq__" (spR K csL tsL 3900 REqR)) (g_Ratio_eq_ne : GNe P w K mg base (L2.CX P w) 2 (ca K .Ratio) (spR K csL tsL 3900 REqR)) (nf_Ratio : ∀ t ∈ tsL, PySem.W.notFirst K (ca K .Ratio) (tv K t) = true)
  (g_Ratio_sign : GP P w K mg base (L2.CX P w) 2 (ca K .Ratio) "sign" (spR K csL tsL 3900 (RPropR fun q => .int q.num.sign)))
  (g_Ratio_below : GP P w K mg base (L2.CX P w) 1 (ca K .Ratio) "below" (spR K csL tsL 3900 (RPropR fun q => .int q.floor)))
  (g_mStep : GM P w K mg base (L2.CX P w) 3 "Step" (ca K .Step) ["self", "studs", "rounds"] [] (spRI K csL tsL .Step 3900 RInitS))
  (g_need_step : GD P w K mg base (L2.CX P w) 3 "need_step" ["value", "part"] [] (spR K csL tsL 100000 (RNeed .Step "BadStep")))
  (g_need_studs : GD P w K mg base (L2.CX P w) 3 "need_studs" ["step", "part"] [] (spR K csL tsL 100000 RNeedK))
  (g_is_upward : GD P w K mg base (L2.CX P w) 1 "is_upward" ["step"] [] (spR K csL tsL 3900 RIsUp))
  (g_summed : GD P w K mg base (L2.CX P w) 5 "summed" ["studs", "rounds"] [] (spR K csL tsL 3900 RSummed))
  (g_Step_Add : GO P w K mg base (L2.CX P w) 6 (ca K .Step) .Add (spR K csL tsL 1900 (RBinS (· + ·))))
  (g_Step_Sub : GO P w K mg base (L2.CX P w) 6 (ca K .Step) .Sub (spR K csL tsL 1900 (RBinS (· - ·))))
  (g_Step_USub : GN P w K mg base (L2.CX P w) 5 (ca K .Step) "__neg__" (spR K csL tsL 3900 RNegS))
  (g_Step_Mult : GO P w K mg base (L2.CX P w) 5 (ca K .Step) .Mult (spR K csL tsL 1900 RMulS))
  (g_Step_eq : GN P w K mg base (L2.CX P w) 1 (ca K .Step) "__eq__" (spR K csL tsL 3900 REqS)) (g_Step_eq_ne : GNe P w K mg base (L2.CX P w) 1 (ca K .Step) (spR K csL tsL 3900 REqS)) (nf_Step : ∀ t ∈ tsL, PySem.W.notFirst K (ca K .Step) (tv K t) = true)
  (g_Step_upward : GP P w K mg base (L2.CX P w) 5 (ca K .Step) "upward" (spR K csL tsL 3900 RUpw))
  (g_Step_corner : GP P w K mg base (L2.CX P w) 5 (ca K .Step) "corner" (spR K csL tsL 3900 RCorner))
  (g_Step_one_round : GS0 P w K mg base (L2.CX P w) 5 (ca K .Step) "one_round" (spR K csL tsL 3900 ROneR))
  (g_cross : GD P w K mg base (L2.CX P w) 4 "cross" ["one", "other"] [] (spR K csL tsL 1900 RCross))
  (g_are_neighbours : GD P w K mg base (L2.CX P w) 5 "are_neighbours" ["one", "other"] [] (spR K csL tsL 1900 RAreN))
  (g_need_neighbours : GD P w K mg base (L2.CX P w) 6 "need_neighbours" ["one", "other"] [] (spR K csL tsL 1900 RNeedN))
  (g_between : GD P w K mg base (L2.CX P w) 7 "between" ["one", "other"] [] (spR K csL tsL 1900 RBetween))
  (g_integer_of : GD P w K mg base (L2.CX P w) 1 "integer_of" ["word"] [] (spR K csL tsL 100000 RIntOf))
  (g_mWords : GM P w K mg base (L2.CX P w) 1 "Words" (ca K .Words) ["self", "words", "done", "last"] [] (spInitW K))
  (g_Words_is_over : GH P w K mg base (L2.CX P w) 1 (ca K .Words) "is_over" ["self"] (spWp K RIsOver))
  (g_Words_take : GH P w K mg base (L2.CX P w) 3 (ca K .Words) "take" ["self"] (spW K RTake))
  (g_Words_refuse : GH P w K mg base (L2.CX P w) 3 (ca K .Words) "refuse" ["self"] (spW K RRefuse))
  (g_Words_integer : GH P w K mg base (L2.CX P w) 4 (ca K .Words) "integer" ["self"] (spW K RInteg))
  (g_Words_end : GH P w K mg base (L2.CX P w) 3 (ca K .Words) "end" ["self"] (spWp K REndW))
  (g_words_in : GD P w K mg base (L2.CX P w) 3 "words_in" ["text"] [] (spWords K csL tsL))
  (g_take_step : GD P w K mg base (L2.CX P w) 5 "take_step" ["words"] [] (spW K RTakeS))
  (g_read_whole : GD P w K mg base (L2.CX P w) 6 "read_whole" ["text", "take"] [] (spReadW K csL tsL (He.ga K "take_step") RTakeS))
  (g_Step_read : GC P w K mg base (L2.CX P w) 7 (ca K .Step) "read" (spReadC K csL tsL RTakeS))
  (g_Step_str : GN P w K mg base (L2.CX P w) 1 (ca K .Step) "__str__" (spR K csL tsL 3900 RStrS))
  (g_inverse : GD P w K mg base (L2.CX P w) 1 "inverse" ["number", "modulus"] [] (spInv K))
  (g_mate : GD P w K mg base (L2.CX P w) 5 "mate" ["step"] [] (spMate K csL tsL))
  (g_l_pail : GD P w K mg base (L2.CX P w) 1 "_law_pail" ["_law_script"] [] (spPail K))
  (g_l_dip : GD P w K mg base (L2.CX P w) 1 "_law_dip" ["_law_pail_here", "_law_many"] [] spDip)
  (g_l_number : GD P w K mg base (L2.CX P w) 2 "_law_number" ["_law_pail_here", "_law_many"] [] (spLP K csL tsL T 60 900000 3 (fun ds => ds = [.int 30]) (fun _ d => ∃ i : Int, d = .int i ∧ i.natAbs < 2 ^ 46)))
  (g_l_pair : GD P w K mg base (L2.CX P w) 3 "_law_pair" ["_law_pail_here"] [] (spLP K csL tsL T 60 800000 20 (fun ds => ds = []) (fun _ d => ∃ k j : Int, d = .tup [.int k, .int j] ∧ Pk 49 k j)))
  (g_l_common : GD P w K mg base (L2.CX P w) 1 "_law_common" ["_law_one", "_law_other"] [] (spR K csL tsL 60 RComm))
  (g_l_told : GD P w K mg base (L2.CX P w) 1 "_law_told" ["_law_step"] [] (spR K csL tsL 100000 RTold))
  (g_l_nearest : GD P w K mg base (L2.CX P w) 1 "_law_nearest" ["_law_pair_here"] [] (spR K csL tsL 60 RNear))
  (g_l_one_right : GD P w K mg base (L2.CX P w) 18 "_law_one_right" ["_law_pair_here"] [] (spL K csL tsL T 60 ROne))
  (g_l_two_right : GD P w K mg base (L2.CX P w) 18 "_law_two_right" ["_law_one", "_law_other"] [] (spL K csL tsL T 60 RTwo))
  (g_l_mate_right : GD P w K mg base (L2.CX P w) 18 "_law_mate_right" ["_law_pair_here"] [] (spL K csL tsL T 60 ROne))
  (g_l_refused_right : GD P w K mg base (L2.CX P w) 18 "_law_refused_right" ["_law_pail_here", "_law_pair_here"] [] (spLP K csL tsL T 60 700000 5 (fun ds => ∃ k j : Int, ds = [.tup [.int k, .int j]] ∧ Pk 52 k j) (fun _ d => d = .bl true)))
  (g_l_text_right : GD P w K mg base (L2.CX P w) 18 "_law_text_right" ["_law_pail_here", "_law_pair_here"] [] (spLP K csL tsL T 60 700000 10 (fun ds => ∃ k j : Int, ds = [.tup [.int k, .int j]] ∧ Pk 52 k j) (fun _ d => d = .bl true)))
variable (g_take_step_l : GL P w K mg base (L2.CX P w) 5 "take_step" (spW K RTakeS))
variable (g_mStep_krs : GMK P w K mg base (L2.CX P w) 3 "Step" (ca K .Step) ["rounds", "studs"] [1, 0] (spRI K csL tsL .Step 3900 RInitS))
  (g_cross_k : GDK P w K mg base (L2.CX P w) 4 "cross" ["other", "one"] 2 [1, 0] (spR K csL tsL 1900 RCross))

theorem mt_b' {k j a b : Int} (h : Mt k j a b) (l : k.natAbs < 2 ^ 52) (l2 : j.natAbs < 2 ^ 52) : a.natAbs < 2 ^ 53 ∧ b.natAbs < 2 ^ 106 := by
  have n := near_n h
  refine ⟨by omega, ?_⟩
  by_cases hk : k = 0
  · rw [h.z hk]
    decide
  · have c := h.cr
    have e : k * b = a * j - 1 := by omega
    have lo := h.lo hk
    have hi := h.hi hk
    have h1 : (a * j).natAbs < 2 ^ 104 := nb_mul (a := 52) (b := 52) (by omega) l2
    have h2 : (k * b).natAbs < 2 ^ 105 := by rw [e]; omega
    rw [Int.natAbs_mul] at h2
    have : 1 * b.natAbs ≤ k.natAbs * b.natAbs := Nat.mul_le_mul_right _ (by omega)
    omega
theorem sc__law_mate_right : FnScope ["_law_pair_here", "_law_divisor", "_law_heard_here", "_law_studs", "_law_rounds", "_law_step"] ["_law_pair_here"] (defScope (topS 52)) := ⟨rfl, rfl, rfl, by decide +kernel, rfl, by decide +kernel, by decide +kernel⟩
include g_l_common g_l_nearest g_l_told g_mStep g_mate nf_Step in
theorem ok__law_mate_right {c Pt : Addr} (gEr : GE K mg) (gHd : GHd P w K mg base) (hTB : LamX.TabB base mg c Pt) (hmT : (Pt, ("_law_mate_right" : Str) ++ ".<locals>." ++ "<lambda>") ∈ T) (huT : ∀ p ∈ T, p.1 = Pt → p.2 = ("_law_mate_right" : Str) ++ ".<locals>." ++ "<lambda>") (hfc : fd.code = .ref c) (G : G0 K mg csL tsL) (F : FP K "_law_mate_right" "_law_mate_right" (topS 52) [] f fd) : FnOk P w K mg base (L2.CX P w) 18 f fd ["_law_pair_here"] (spL K csL tsL T 60 ROne) := by
  have nd := sc__law_mate_right.nd
  refine okL F hfc sc__law_mate_right (fun ds d r => by cases r <;> rfl) (fun A outer s H ds d Q E hr z r q hE => ⟨_, pss_cons (ps_asg (pe_tupE (pa_cons (pe_makeD g_mStep (hr.mono (by decide)) rfl (pxE rfl rfl rfl rfl) (pa_cons (pe_ix ix_tup (pv 0) (pe_int) (fun _ _ => rfl)) (pa_cons (pe_ix ix_tup (pv 0) (pe_int) (fun _ _ => rfl)) (pa_nil)))) (pa_cons (pe_gd g_l_common (hr.mono (by decide)) rfl (pxE rfl rfl rfl rfl) (pa_cons (pe_ix ix_tup (pv 0) (pe_int) (fun _ _ => rfl)) (pa_cons (pe_ix ix_tup (pv 0) (pe_int) (fun _ _ => rfl)) (pa_nil)))) (pa_nil)))) (pg_tup rfl (pgs_cons (pg_name (i := 5) nd rfl (Or.inr rfl)) (pgs_cons (pg_name (i := 1) nd rfl (Or.inl rfl)) (pgs_nil))))) (pss_cons (ps_set (i := 2) nd rfl (Or.inl rfl) (pe_heard (X := cxOf (L2.CX P w) P w K mg base _ _ _ f (.ref c) A outer s H E) (k := 14) gHd gEr rfl hTB rfl hmT huT (hr.mono (by decide)) (hr.mono (by decide)) (LamX.lamS_by (sc := defScope (topS 52)) (by decide +kernel)) rfl (fun _ _ _ _ _ => rfl) (fun Al ol sl Hl El fl cl hr => pe_gd g_l_told (hr.mono (by decide)) rfl (pxE rfl rfl rfl rfl) (pa_cons (pe_gd g_mate (hr.mono (by decide)) rfl (pxE rfl rfl rfl rfl) (pa_cons (pv 5) (pa_nil))) (pa_nil))))) (pss_cons (ps_if (pt_cmpR op_gt (pv 1) (pe_int) (nomark _)) (pss_one (ps_ret (pe_cmpR (op_eqD hr.units) (pv 2) (pe_tupE (pa_cons (pe_str) (pa_cons (pv 1) (pa_nil)))) (nomark _)))) (pss_nil)) (pss_cons (ps_if (pt_cmpR op_lt (pe_callB call_abs rfl G.nm.abs (by decide +kernel) (pa_cons (pe_ix ix_tup (pv 0) (pe_int) (fun _ _ => rfl)) (pa_nil))) (pe_int) (nomark _)) (pss_one (ps_ret (pe_cmpR (op_eqD hr.units) (pv 2) (pe_tupE (pa_cons (pe_str) (pa_cons (pe_gd g_l_nearest (hr.mono (by decide)) rfl (pxE rfl rfl rfl rfl) (pa_cons (pv 0) (pa_nil))) (pa_nil)))) (nomark _)))) (pss_nil)) (pss_cons (ps_asg (pe_ix ix_tup (pv 2) (pe_int) (fun _ _ => rfl)) (pg_tup rfl (pgs_cons (pg_name (i := 3) nd rfl (Or.inl rfl)) (pgs_cons (pg_name (i := 4) nd rfl (Or.inl rfl)) (pgs_nil))))) (pss_one (ps_ret (pe_and (pe_cmpR op_eq (pe_op op_sub (pe_op op_mulB (pv 3) (pe_ix ix_tup (pv 0) (pe_int) (fun _ _ => rfl))) (pe_op op_mulB (pe_ix ix_tup (pv 0) (pe_int) (fun _ _ => rfl)) (pv 4))) (pe_int) (nomark _)) (pe_one (pe_cmpR op_le (pe_op op_mulB (pe_int) (pe_callB call_abs rfl G.nm.abs (by decide +kernel) (pa_cons (pv 3) (pa_nil)))) (pe_op op_add (pe_callB call_abs rfl G.nm.abs (by decide +kernel) (pa_cons (pe_ix ix_tup (pv 0) (pe_int) (fun _ _ => rfl)) (pa_nil))) (pe_int)) (nomark _)))))))))), ?_⟩)
  cases r with
  | @mk k j h =>
    have bk : Bi k 52 := ⟨h.k⟩
    have bj : Bi j 52 := ⟨h.j⟩
    have nz := h.nz
    have b31 : Bi (31 : Int) 5 := inferInstance
    walk_at "goL"
    rename_i R hR e1
    refine mateO (e1.get (by walk_at "mem")) rfl (.inl ⟨k, j, rfl, nz, nb_le h.k, nb_le h.j, fun g => ?_, fun g a b mt => ?_⟩)
    · have g1 : decide ((1 : Int) < ((Nat.gcd k.natAbs j.natAbs : Nat) : Int)) = true := decide_eq_true (by omega)
      walk_at "rd"
    · have g1 : decide ((1 : Int) < ((Nat.gcd k.natAbs j.natAbs : Nat) : Int)) = false := decide_eq_false (by omega)
      have l52 := h.j
      have ba : Bi a 53 := ⟨(mt_b' mt h.k h.j).1⟩
      have bb : Bi b 106 := ⟨(mt_b' mt h.k h.j).2⟩
      by_cases hs : k.natAbs < 31
      · have d1 : decide ((if k < 0 then -k else k) < 31) = true := decide_eq_true (by split <;> omega)
        walk_at "rd"
      · have d1 : decide ((if k < 0 then -k else k) < 31) = false := decide_eq_false (by split <;> omega)
        have hk : k ≠ 0 := by omega
        have e2 : decide (V.int (a * j - k * b) = V.int 1) = true := by rw [mt.cr]; simp
        have e3 : decide (2 * (if a < 0 then -a else a) ≤ (if k < 0 then -k else k) + 1) = true := decide_eq_true (by have := mt.lo hk; have := mt.hi hk; split <;> split <;> omega)
        walk_at "rd"
end
end Sp
end
section
set_option Elab.async false
set_option linter.all false
set_option exponentiation.threshold 5000
set_option maxRecDepth 100000
set_option maxHeartbeats 0
local macro_rules | `(tactic| walk_at "mem") => `(tactic| first | exact List.mem_cons_self | (refine List.mem_cons_of_mem _ ?_; walk_at "mem"))
local macro_rules | `(tactic| walk_at "isv") => `(tactic| first | exact Sp.IsV.int _ | exact Sp.IsV.str _ | exact Sp.IsV.bl _ | exact Sp.IsV.non | exact Sp.Env.get (by assumption) (by walk_at "mem") | assumption)
local macro_rules | `(tactic| walk_at "isvs") => `(tactic| first | exact Sp.IsVs.nil | (refine' Sp.IsVs.cons ?iv ?rs; (case iv => walk_at "isv"); (case rs => walk_at "isvs")))
local macro_rules | `(tactic| walk_at "isfs") => `(tactic| first | exact Sp.IsFs.nil | (refine' Sp.IsFs.cons ?iv ?rs; (case iv => walk_at "isv"); (case rs => walk_at "isfs")))
local macro_rules | `(tactic| walk_at "sz1") => `(tactic| first | exact trivial | exact Sp.biI _ | exact Sp.bqI _ | exact ⟨Sp.biI _, Sp.biI _⟩ | exact ⟨Sp.bqI _, Sp.bqI _⟩ | exact ⟨⟨Sp.biI _, Sp.biI _⟩, Sp.biI _, Sp.biI _⟩ | exact ⟨Sp.bqI _, Sp.bqI _, Sp.bqI _⟩ | assumption | exact Sp.SzD.mono (by assumption) (by decide))
local macro_rules | `(tactic| walk_at "okt") => `(tactic| first | rfl | assumption | decide)
local macro_rules | `(tactic| walk_at "dsok") => `(tactic| first | exact trivial | (refine And.intro (And.intro ?oa ?ob) ?rs; (case oa => walk_at "okt"); (case ob => walk_at "sz1"); (case rs => walk_at "dsok")))
local macro_rules | `(tactic| walk_at "sc") => `(tactic| first | rfl | assumption | decide | omega)
local macro_rules | `(tactic| walk_at "leaf") => `(tactic| first | rfl | assumption | exact True.intro | exact ⟨_, rfl⟩ | exact L2.upd_same | exact L2.ClsV.ty _ | exact L2.ClsV.own _ | decide | exact of_decide_eq_true rfl | exact Sp.cmI _ _ | exact Sp.cdI _ (by first | assumption | omega) | exact Sp.cmL (by decide) | exact Sp.cmR (by decide) | exact ⟨by decide, by decide, by decide⟩ | exact ⟨by decide, by decide⟩ | omega | fail)
local macro_rules | `(tactic| walk_at "cls") => `(tactic| first | exact Sp.ClsD.int | exact Sp.ClsD.bool | exact Sp.ClsD.str | exact Sp.ClsD.own _ | exact Sp.ClsD.tuple | exact Sp.ClsD.list)
local macro_rules | `(tactic| walk_at "args") => `(tactic| repeat (first
  | refine' Sp.aaInt ?_ | refine' Sp.aaBl ?_ | refine' Sp.aaStr ?_ | refine' Sp.aaNon ?_ | (refine' Sp.aaOwn (by assumption) (by rfl) ?_; intro _ _) | (refine' Sp.aaTup (by assumption) ?_; intro _ _) | (refine' Sp.aaAny (by assumption) ?_; intro _ _) | refine' Sp.aaNil ?_))
local macro_rules | `(tactic| walk_at "shp") => `(tactic| first | rfl | decide +kernel | (simp [PySem.SeqAt.shaped, PySem.PyData.canLay0, PySem.PyData.canLayAll0, PySem.PyData.depth, PySem.PyData.depthAll] <;> decide +kernel))
local macro_rules | `(tactic| walk_at "rd1") => `(tactic| first
  | apply Sp.exI
  | (refine And.intro ?lf ?_; (case lf => walk_at "leaf"))
  | (show @ite Prop (_ = true) _ _ _; first | refine' Sp.iteT (by first | assumption | rfl | exact Sp.nbT (by assumption) | exact Sp.nbF (by assumption)) ?_ | refine' Sp.iteF (by first | assumption | rfl | exact Sp.nbT (by assumption) | exact Sp.nbF (by assumption) | exact Sp.nbF (Sp.eqr (by walk_at "shp"))) ?_)
  | (refine' Sp.afInt (by assumption) ?_; intro _ _) | (refine' Sp.afBl (by assumption) ?_; intro _ _) | (refine' Sp.afStr (by assumption) ?_; intro _ _) | (refine' Sp.afNon (by assumption) ?_; intro _ _)
  | (refine' Sp.afOwn (by assumption) (by rfl) ?_; intro _ _ _) | (refine' Sp.afTup (by assumption) ?_; intro _ _ _) | (refine' Sp.afRef (by assumption) ?_; intro _ _ _)
  | refine' Sp.asInt ?_ | refine' Sp.asBl ?_ | refine' Sp.asStr ?_ | refine' Sp.asNon ?_
  | (refine' Sp.asOwn (by assumption) (by rfl) ?_; intro _ _) | (refine' Sp.asTup (by assumption) ?_; intro _ _) | (refine' Sp.asRef (by assumption) ?_; intro _ _)
  | refine' Sp.aaInt ?_ | refine' Sp.aaBl ?_ | refine' Sp.aaStr ?_ | refine' Sp.aaNon ?_ | (refine' Sp.aaOwn (by assumption) (by rfl) ?_; intro _ _) | (refine' Sp.aaTup (by assumption) ?_; intro _ _) | (refine' Sp.aaAny (by assumption) ?_; intro _ _) | refine' Sp.aaNil ?_
  | (refine' Sp.fnR ?i ?z ?r ?_; (case i => walk_at "isvs"); (case z => walk_at "dsok"); (case r => walk_at "rel"))
  | (refine' Sp.makeOk ?i ?z ?r ?o ?_; (case i => walk_at "isvs"); (case z => walk_at "dsok"); (case r => walk_at "rel"); (case o => rfl))
  | (refine' Sp.makeEr ?i ?z ?r ?_; (case i => walk_at "isvs"); (case z => walk_at "dsok"); (case r => walk_at "rel"))
  | (refine' Sp.isiD (by assumption) ?i ?c ?o ?t ?_; (case i => walk_at "isv"); (case c => walk_at "cls"); (case o => walk_at "okt"); (case t => decide))
  | (refine' Sp.fldD (by assumption) ?i ?o ?l ?c ?_; (case i => walk_at "isv"); (case o => rfl); (case l => rfl); (case c => decide))
  | (refine' Sp.fldRaw (by assumption) (by assumption) (by rfl) (by decide) (by decide) ?_)
  | (refine' Sp.methRaw (by assumption) (by rfl) ?_)
  | (refine' Sp.setRaw (by assumption) (by assumption) (by rfl) (by decide) (by decide) ?_)
  | (refine' Sp.strD ?i ?o ?_; (case i => walk_at "isv"); (case o => rfl))
  | (refine' Sp.methD ?i ?o ?l ?_; (case i => walk_at "isv"); (case o => rfl); (case l => rfl))
  | (refine' Sp.propD ?i ?o ?_; (case i => walk_at "isv"); (case o => rfl))
  | (refine' Sp.binD ?i ?o ?j ?e ?_; (case i => walk_at "isv"); (case o => rfl); (case j => walk_at "isv"); (case e => rfl))
  | (refine' Sp.unD ?i ?o ?_; (case i => walk_at "isv"); (case o => rfl))
  | (refine' Sp.absD ?i ?o ?_; (case i => walk_at "isv"); (case o => rfl))
  | (refine' Sp.eqOwnD (by assumption) ?i ?o ?j ?e ?n ?_; (case i => walk_at "isv"); (case o => rfl); (case j => walk_at "isv"); (case e => walk_at "okt"); (case n => walk_at "nf"))
  | (refine' Sp.neOwnD (by assumption) ?i ?o ?j ?e ?n ?_; (case i => walk_at "isv"); (case o => rfl); (case j => walk_at "isv"); (case e => walk_at "okt"); (case n => walk_at "nf"))
  | (refine' Sp.tupD (by assumption) ?i ?l ?_; (case i => walk_at "isvs"); (case l => rfl); intro _ _ _)
  | (refine' Sp.lstD (by assumption) ?i ?l ?_; (case i => walk_at "isvs"); (case l => rfl); intro _ _ _)
  | (refine' Sp.raiseD (by assumption) ?i ?e ?l ?_; (case i => walk_at "isvs"); (case e => rfl); (case l => rfl))
  | (refine' Sp.setD (by assumption) (by assumption) rfl rfl rfl (by decide) (by decide) ?_; intro _ _)
  | (refine' Sp.ixTD ?i ?e ?g ?_; (case i => walk_at "isv"); (case e => rfl); (case g => rfl))
  | (refine' Sp.ixLD ?i ?e ?g ?_; (case i => walk_at "isv"); (case e => rfl); (case g => rfl))
  | (refine' Sp.gTupD ?i ?e ?_; (case i => walk_at "isv"); (case e => rfl))
  | refine' Sp.lamR (by assumption) ?_
  | (refine' Sp.finD' (by assumption) (by assumption) ?i; (case i => walk_at "isv"))
  | refine' Sp.finE' (by assumption) (by assumption)
  | refine' Sp.finIE (by assumption) (by assumption) (by assumption)
  | (refine' Sp.dipD (by assumption) (by omega) ?m0 ?m1 ?n ?_; (case m0 => first | decide | omega); (case m1 => first | decide | omega); (case n => rfl); intro _ _ _ _ _)
  | (refine' Sp.lawL (by assumption) ?i ?z ?r ?_; (case i => walk_at "isvs"); (case z => walk_at "dsok"); (case r => walk_at "rel"); intro _ _ _)
  | (refine' Sp.lawP (by assumption) ?i ?z ?nd ?pr (by omega) ?nl ?_; (case i => walk_at "isvs"); (case z => walk_at "dsok"); (case nd => rfl); (case pr => walk_at "pre"); (case nl => rfl))
  | (refine' Sp.dctD (by assumption) ?_; intro _ _ _)
  | (refine' Sp.eqDD ?i ?j ?e ?f ?s ?t ?_; (case i => walk_at "isv"); (case j => walk_at "isv"); (case e => rfl); (case f => rfl); (case s => walk_at "shp"); (case t => walk_at "shp"))
  | (refine' Sp.neDD ?i ?j ?e ?f ?s ?t ?_; (case i => walk_at "isv"); (case j => walk_at "isv"); (case e => rfl); (case f => rfl); (case s => walk_at "shp"); (case t => walk_at "shp"))
  | (refine' Sp.readCO ?i ?ot ?r ?_; (case i => walk_at "isv"); (case ot => walk_at "okt"); (case r => first | assumption | exact Sp.rd_own (by assumption)))
  | (refine' Sp.finLB (by assumption) (by assumption) ?e; (case e => first | rfl | assumption | exact Sp.eqr (by walk_at "shp")))
  | refine' Sp.aeNa (by assumption) ?_
  | (refine' Sp.inTI ?i ?_; (case i => walk_at "isv"))
  | (refine' Sp.herN (by assumption) ?z1 ?z2 ?_; (case z1 => walk_at "sz1"); (case z2 => walk_at "sz1"); intro _ _ _)
  | (refine' Sp.lamD (by assumption) ?_; intro _ _ _ _)
  | (refine' Sp.hokD (by assumption) ?i ?_; (case i => walk_at "isv"); intro _ _ _)
  | (refine' Sp.herP1 (by assumption) ?m ?l ?_; (case m => walk_at "mem"); (case l => rfl); intro _ _ _)
  | (refine' Sp.herP2 (by assumption) ?m ?l ?l2 ?_; (case m => walk_at "mem"); (case l => rfl); (case l2 => rfl); intro _ _ _)
  | (refine' Sp.finL (by assumption) (by assumption) ?i; (case i => walk_at "isv"))
  | fail)
local macro_rules | `(tactic| walk_at "rd1N") => `(tactic| first
  | apply Sp.exI
  | (refine And.intro ?lf ?_; (case lf => walk_at "leaf"))
  | (show @ite Prop (_ = true) _ _ _; first | refine' Sp.iteT (by first | assumption | rfl | exact Sp.nbT (by assumption) | exact Sp.nbF (by assumption)) ?_ | refine' Sp.iteF (by first | assumption | rfl | exact Sp.nbT (by assumption) | exact Sp.nbF (by assumption) | exact Sp.nbF (Sp.eqr (by walk_at "shp"))) ?_)
  | (refine' Sp.afInt (by assumption) ?_; intro _ _) | (refine' Sp.afBl (by assumption) ?_; intro _ _) | (refine' Sp.afStr (by assumption) ?_; intro _ _) | (refine' Sp.afNon (by assumption) ?_; intro _ _)
  | (refine' Sp.afOwn (by assumption) (by rfl) ?_; intro _ _ _) | (refine' Sp.afTup (by assumption) ?_; intro _ _ _) | (refine' Sp.afRef (by assumption) ?_; intro _ _ _)
  | refine' Sp.asInt ?_ | refine' Sp.asBl ?_ | refine' Sp.asStr ?_ | refine' Sp.asNon ?_
  | (refine' Sp.asOwn (by assumption) (by rfl) ?_; intro _ _) | (refine' Sp.asTup (by assumption) ?_; intro _ _) | (refine' Sp.asRef (by assumption) ?_; intro _ _)
  | refine' Sp.aaInt ?_ | refine' Sp.aaBl ?_ | refine' Sp.aaStr ?_ | refine' Sp.aaNon ?_ | (refine' Sp.aaOwn (by assumption) (by rfl) ?_; intro _ _) | (refine' Sp.aaTup (by assumption) ?_; intro _ _) | (refine' Sp.aaAny (by assumption) ?_; intro _ _) | refine' Sp.aaNil ?_
  | (refine' Sp.fnR ?i ?z ?r ?_; (case i => walk_at "isvs"); (case z => walk_at "dsok"); (case r => walk_at "rel"))
  | (refine' Sp.makeOk ?i ?z ?r ?o ?_; (case i => walk_at "isvs"); (case z => walk_at "dsok"); (case r => walk_at "rel"); (case o => rfl))
  | (refine' Sp.makeEr ?i ?z ?r ?_; (case i => walk_at "isvs"); (case z => walk_at "dsok"); (case r => walk_at "rel"))
  | (refine' Sp.isiD (by assumption) ?i ?c ?o ?t ?_; (case i => walk_at "isv"); (case c => walk_at "cls"); (case o => walk_at "okt"); (case t => decide))
  | (refine' Sp.fldD (by assumption) ?i ?o ?l ?c ?_; (case i => walk_at "isv"); (case o => rfl); (case l => rfl); (case c => decide))
  | (refine' Sp.fldRaw (by assumption) (by assumption) (by rfl) (by decide) (by decide) ?_)
  | (refine' Sp.methRaw (by assumption) (by rfl) ?_)
  | (refine' Sp.setRaw (by assumption) (by assumption) (by rfl) (by decide) (by decide) ?_)
  | (refine' Sp.strD ?i ?o ?_; (case i => walk_at "isv"); (case o => rfl))
  | (refine' Sp.methD ?i ?o ?l ?_; (case i => walk_at "isv"); (case o => rfl); (case l => rfl))
  | (refine' Sp.propD ?i ?o ?_; (case i => walk_at "isv"); (case o => rfl))
  | (refine' Sp.binD ?i ?o ?j ?e ?_; (case i => walk_at "isv"); (case o => rfl); (case j => walk_at "isv"); (case e => rfl))
  | (refine' Sp.unD ?i ?o ?_; (case i => walk_at "isv"); (case o => rfl))
  | (refine' Sp.absD ?i ?o ?_; (case i => walk_at "isv"); (case o => rfl))
  | (refine' Sp.eqOwnD (by assumption) ?i ?o ?j ?e ?n ?_; (case i => walk_at "isv"); (case o => rfl); (case j => walk_at "isv"); (case e => walk_at "okt"); (case n => walk_at "nf"))
  | (refine' Sp.neOwnD (by assumption) ?i ?o ?j ?e ?n ?_; (case i => walk_at "isv"); (case o => rfl); (case j => walk_at "isv"); (case e => walk_at "okt"); (case n => walk_at "nf"))
  | (refine' Sp.raiseD (by assumption) ?i ?e ?l ?_; (case i => walk_at "isvs"); (case e => rfl); (case l => rfl))
  | (refine' Sp.setD (by assumption) (by assumption) rfl rfl rfl (by decide) (by decide) ?_; intro _ _)
  | (refine' Sp.ixTD ?i ?e ?g ?_; (case i => walk_at "isv"); (case e => rfl); (case g => rfl))
  | (refine' Sp.ixLD ?i ?e ?g ?_; (case i => walk_at "isv"); (case e => rfl); (case g => rfl))
  | (refine' Sp.gTupD ?i ?e ?_; (case i => walk_at "isv"); (case e => rfl))
  | refine' Sp.lamR (by assumption) ?_
  | (refine' Sp.finD' (by assumption) (by assumption) ?i; (case i => walk_at "isv"))
  | refine' Sp.finE' (by assumption) (by assumption)
  | refine' Sp.finIE (by assumption) (by assumption) (by assumption)
  | (refine' Sp.dipD (by assumption) (by omega) ?m0 ?m1 ?n ?_; (case m0 => first | decide | omega); (case m1 => first | decide | omega); (case n => rfl); intro _ _ _ _ _)
  | (refine' Sp.lawL (by assumption) ?i ?z ?r ?_; (case i => walk_at "isvs"); (case z => walk_at "dsok"); (case r => walk_at "rel"); intro _ _ _)
  | (refine' Sp.lawP (by assumption) ?i ?z ?nd ?pr (by omega) ?nl ?_; (case i => walk_at "isvs"); (case z => walk_at "dsok"); (case nd => rfl); (case pr => walk_at "pre"); (case nl => rfl))
  | (refine' Sp.dctD (by assumption) ?_; intro _ _ _)
  | (refine' Sp.eqDD ?i ?j ?e ?f ?s ?t ?_; (case i => walk_at "isv"); (case j => walk_at "isv"); (case e => rfl); (case f => rfl); (case s => walk_at "shp"); (case t => walk_at "shp"))
  | (refine' Sp.neDD ?i ?j ?e ?f ?s ?t ?_; (case i => walk_at "isv"); (case j => walk_at "isv"); (case e => rfl); (case f => rfl); (case s => walk_at "shp"); (case t => walk_at "shp"))
  | (refine' Sp.lamD (by assumption) ?_; intro _ _ _ _)
  | (refine' Sp.hokD (by assumption) ?i ?_; (case i => walk_at "isv"); intro _ _ _)
  | (refine' Sp.herP1 (by assumption) ?m ?l ?_; (case m => walk_at "mem"); (case l => rfl); intro _ _ _)
  | (refine' Sp.herP2 (by assumption) ?m ?l ?l2 ?_; (case m => walk_at "mem"); (case l => rfl); (case l2 => rfl); intro _ _ _)
  | (refine' Sp.finL (by assumption) (by assumption) ?i; (case i => walk_at "isv"))
  | fail)
local macro_rules | `(tactic| walk_at "rdN") => `(tactic| repeat (walk_at "rd1N"))
local macro_rules | `(tactic| walk_at "rd") => `(tactic| repeat (walk_at "rd1"))
local macro_rules | `(tactic| walk_at "zs") => `(tactic| (refine' Sp.zsStart (by assumption) ?_; repeat (first | refine' Sp.zsNil ?_ | (refine' Sp.zsInt ?_; intro _) | (refine' Sp.zsRat ?_; intro _) | (refine' Sp.zsStep ?_; intro _ _) | (refine' Sp.zsStem ?_; intro _ _) | (refine' Sp.zsTable ?_; intro _ _ _ _) | (refine' Sp.zsAny ?_; intro _ _))))
local macro_rules | `(tactic| walk_at "go0") => `(tactic| (walk_at "zs"; (have := Sp.Env.of (K := ‹PySem.W.Frag›) ‹L2.Hp›); walk_at "args"))
local macro_rules | `(tactic| walk_at "go") => `(tactic| (walk_at "go0"; walk_at "rd"))
local macro_rules | `(tactic| walk_at "goI0") => `(tactic| (walk_at "zs"; (have := Sp.Env.ofI (K := ‹PySem.W.Frag›) (H := ‹L2.Hp›) (by assumption)); walk_at "args"))
local macro_rules | `(tactic| walk_at "goI") => `(tactic| (walk_at "goI0"; walk_at "rd"))
local macro_rules | `(tactic| walk_at "goL") => `(tactic| (walk_at "zs"; walk_at "args"; walk_at "rd"))
local macro_rules | `(tactic| walk_at "rel") => `(tactic| first
  | (apply Sp.RIsInt.mk <;> walk_at "sc")
  | (apply Sp.RIsRat.mk <;> walk_at "sc")
  | (apply Sp.RSign.mk <;> walk_at "sc")
  | (apply Sp.RInitR.one <;> walk_at "sc")
  | (apply Sp.RInitR.ok <;> walk_at "sc")
  | (apply Sp.RInitR.z <;> walk_at "sc")
  | (apply Sp.RInitR.t <;> walk_at "sc")
  | (apply Sp.RInitR.b <;> walk_at "sc")
  | (apply Sp.ROf.r <;> walk_at "sc")
  | (apply Sp.ROf.i <;> walk_at "sc")
  | (apply Sp.ROf.n <;> walk_at "sc")
  | (apply Sp.RBinR.r <;> walk_at "sc")
  | (apply Sp.RBinR.i <;> walk_at "sc")
  | (apply Sp.RBinR.n <;> walk_at "sc")
  | (apply Sp.ROver.r <;> walk_at "sc")
  | (apply Sp.ROver.i <;> walk_at "sc")
  | (apply Sp.ROver.z <;> walk_at "sc")
  | (apply Sp.ROver.zi <;> walk_at "sc")
  | (apply Sp.ROver.n <;> walk_at "sc")
  | (apply Sp.RCmp.r <;> walk_at "sc")
  | (apply Sp.RCmp.i <;> walk_at "sc")
  | (apply Sp.RCmp.n <;> walk_at "sc")
  | (apply Sp.RBelow.r <;> walk_at "sc")
  | (apply Sp.RBelow.i <;> walk_at "sc")
  | (apply Sp.RBelow.n <;> walk_at "sc")
  | (apply Sp.RUnR.mk <;> walk_at "sc")
  | (apply Sp.REqR.r <;> walk_at "sc")
  | (apply Sp.REqR.i <;> walk_at "sc")
  | (apply Sp.REqR.n <;> walk_at "sc")
  | (apply Sp.RPropR.mk <;> walk_at "sc")
  | (apply Sp.RInitS.ok <;> walk_at "sc")
  | (apply Sp.RInitS.z <;> walk_at "sc")
  | (apply Sp.RInitS.s <;> walk_at "sc")
  | (apply Sp.RInitS.r <;> walk_at "sc")
  | (apply Sp.RNeed.ok <;> walk_at "sc")
  | (apply Sp.RNeed.no <;> walk_at "sc")
  | (apply Sp.RNeedK.ok <;> walk_at "sc")
  | (apply Sp.RNeedK.z <;> walk_at "sc")
  | (apply Sp.RCross.ok <;> walk_at "sc")
  | (apply Sp.RCross.one <;> walk_at "sc")
  | (apply Sp.RCross.oth <;> walk_at "sc")
  | (apply Sp.RAreN.ok <;> walk_at "sc")
  | (apply Sp.RAreN.one <;> walk_at "sc")
  | (apply Sp.RAreN.oth <;> walk_at "sc")
  | (apply Sp.RNeedN.ok <;> walk_at "sc")
  | (apply Sp.RNeedN.no <;> walk_at "sc")
  | (apply Sp.RNeedN.one <;> walk_at "sc")
  | (apply Sp.RNeedN.oth <;> walk_at "sc")
  | (apply Sp.RBetween.ok <;> walk_at "sc")
  | (apply Sp.RBetween.no <;> walk_at "sc")
  | (apply Sp.RBetween.one <;> walk_at "sc")
  | (apply Sp.RBetween.oth <;> walk_at "sc")
  | (apply Sp.RSummed.ok <;> walk_at "sc")
  | (apply Sp.RSummed.z <;> walk_at "sc")
  | (apply Sp.RBinS.ok <;> walk_at "sc")
  | (apply Sp.RBinS.z <;> walk_at "sc")
  | (apply Sp.RBinS.n <;> walk_at "sc")
  | (apply Sp.RMulS.ok <;> walk_at "sc")
  | (apply Sp.RMulS.z <;> walk_at "sc")
  | (apply Sp.RMulS.n <;> walk_at "sc")
  | (apply Sp.RNegS.mk <;> walk_at "sc")
  | (apply Sp.REqS.s <;> walk_at "sc")
  | (apply Sp.REqS.n <;> walk_at "sc")
  | (apply Sp.RIsUp.mk <;> walk_at "sc")
  | (apply Sp.ROneR.mk <;> walk_at "sc")
  | (apply Sp.RCorner.ok <;> walk_at "sc")
  | (apply Sp.RCorner.z <;> walk_at "sc")
  | (apply Sp.RUpw_up <;> walk_at "sc")
  | (apply Sp.RUpw_dn <;> walk_at "sc")
  | (apply Sp.RStrS.mk <;> walk_at "sc")
  | (apply Sp.RTold.ok <;> walk_at "sc")
  | (apply Sp.RTold.no <;> walk_at "sc")
  | (apply Sp.RComm.mk <;> walk_at "sc")
  | (apply Sp.RNear.mk <;> walk_at "sc")
  | (apply Sp.ROne.mk <;> walk_at "sc")
  | (apply Sp.RTwo.mk <;> walk_at "sc")
  | fail)
local macro_rules | `(tactic| walk_at "nf") => `(tactic| first | exact (‹∀ t ∈ Sp.tsL, PySem.W.notFirst ‹PySem.W.Frag› (Sp.ca ‹PySem.W.Frag› Sp.Cn.Step) (Sp.tv ‹PySem.W.Frag› t) = true›) (Sp.Ty0.own Sp.Cn.Step) (by decide) | exact (‹∀ t ∈ Sp.tsL, PySem.W.notFirst ‹PySem.W.Frag› (Sp.ca ‹PySem.W.Frag› Sp.Cn.Step) (Sp.tv ‹PySem.W.Frag› t) = true›) Sp.Ty0.tuple (by decide) | fail)
local macro_rules | `(tactic| walk_at "pre") => `(tactic| first | rfl | exact ⟨_, _, rfl, by assumption⟩)
namespace Sp
open PySem PySem.Spec PyProof.Rows L2
open PySem.W (Frag)
section
variable {P : Program} {w : World} {K : PySem.W.Frag} {mg : Str → Option Value} {base : Heap} {f : Addr} {fd : FuncData} {T : List (Addr × Str)}
variable (h_gcd : mg "gcd" = some (.builtin "math.gcd")) {tk1 tk2 : Tok} (h_most : mg "MOST_DIGITS" = some (.int 60 tk1)) (h_digits : mg "DIGITS" = some (.str "0123456789" tk2)) (h_all : mg "all" = none)
variable (g_xBadRatio : GXN P w K mg base 1 "BadRatio" ["part"] (cX K "BadRatio"))
  (g_xBadStep : GXN P w K mg base 1 "BadStep" ["part"] (cX K "BadStep"))
  (g_xBadNumber : GXN P w K mg base 1 "BadNumber" ["part"] (cX K "BadNumber"))
  (g_xRound : GXN P w K mg base 1 "Round" ["part"] (cX K "Round"))
  (g_xNotNeighbours : GXN P w K mg base 1 "NotNeighbours" ["one", "other"] (cX K "NotNeighbours"))
  (g_xCommon : GXN P w K mg base 1 "Common" ["divisor"] (cX K "Common"))
  (g_xBadText : GXN P w K mg base 1 "BadText" ["line", "word"] (cX K "BadText"))
  (g_is_integer : GD P w K mg base (L2.CX P w) 1 "is_integer" ["value"] [] (spR K csL tsL 3900 RIsInt))
  (g_is_ratio : GD P w K mg base (L2.CX P w) 2 "is_ratio" ["value"] [] (spR K csL tsL 3900 RIsRat))
  (g_sign_of : GD P w K mg base (L2.CX P w) 1 "sign_of" ["number"] [] (spR K csL tsL 100000 RSign))
  (g_mRatio : GM P w K mg base (L2.CX P w) 3 "Ratio" (ca K .Ratio) ["self", "top", "bottom"] [] (spRI K csL tsL .Ratio 3900 RInitR)) (g_mRatio1 : GM P w K mg base (L2.CX P w) 3 "Ratio" (ca K .Ratio) ["self", "top", "bottom"] [.int 1] (spRI K csL tsL .Ratio 3900 RInitR))
  (g_Ratio_of : GS P w K mg base (L2.CX P w) 5 (ca K .Ratio) "of" (spR K csL tsL 3900 (ROf "BadRatio" "value")))
  (g_at_right : GD P w K mg base (L2.CX P w) 6 "at_right" ["value"] [] (spR K csL tsL 3900 (ROf "BadRatio" "other")))
  (g_Ratio_Add : GO P w K mg base (L2.CX P w) 7 (ca K .Ratio) .Add (spR K csL tsL 1900 (RBinR (· + ·))))
  (g_Ratio_Sub : GO P w K mg base (L2.CX P w) 7 (ca K .Ratio) .Sub (spR K csL tsL 1900 (RBinR (· - ·))))
  (g_Ratio_Mult : GO P w K mg base (L2.CX P w) 7 (ca K .Ratio) .Mult (spR K csL tsL 1900 (RBinR (· * ·))))
  (g_Ratio_over : GH P w K mg base (L2.CX P w) 7 (ca K .Ratio) "over" ["self", "other"] (spR K csL tsL 1900 ROver))
  (g_Ratio_USub : GN P w K mg base (L2.CX P w) 5 (ca K .Ratio) "__neg__" (spR K csL tsL 3900 (RUnR (fun q => -q))))
  (g_Ratio_abs : GN P w K mg base (L2.CX P w) 5 (ca K .Ratio) "__abs__" (spR K csL tsL 3900 (RUnR qabs)))
  (g_Ratio_eq : GN P w K mg base (L2.CX P w) 2 (ca K .Ratio) "__eq__" (spR K csL tsL 3900 REqR)) (g_Ratio_eq_ne : GNe P w K mg base (L2.CX P w) 2 (ca K .Ratio) (spR K csL tsL 3900 REqR)) (nf_Ratio : ∀ t ∈ tsL, PySem.W.notFirst K (ca K .Ratio) (tv K t) = true)
  (g_Ratio_sign : GP P w K mg base (L2.CX P w) 2 (ca K .Ratio) "sign" (spR K csL tsL 3900 (RPropR fun q => .int q.num.sign)))
  (g_Ratio_below : GP P w K mg base (L2.CX P w) 1 (ca K .Ratio) "below" (spR K csL tsL 3900 (RPropR fun q => .int q.floor)))
  (g_mStep : GM P w K mg base (L2.CX P w) 3 "Step" (ca K .Step) ["self", "studs", "rounds"] [] (spRI K csL tsL .Step 3900 RInitS))
  (g_need_step : GD P w K mg base (L2.CX P w) 3 "need_step" ["value", "part"] [] (spR K csL tsL 100000 (RNeed .Step "BadStep")))
  (g_need_studs : GD P w K mg base (L2.CX P w) 3 "need_studs" ["step", "part"] [] (spR K csL tsL 100000 RNeedK))
  (g_is_upward : GD P w K mg base (L2.CX P w) 1 "is_upward" ["step"] [] (spR K csL tsL 3900 RIsUp))
  (g_summed : GD P w K mg base (L2.CX P w) 5 "summed" ["studs", "rounds"] [] (spR K csL tsL 3900 RSummed))
  (g_Step_Add : GO P w K mg base (L2.CX P w) 6 (ca K .Step) .Add (spR K csL tsL 1900 (RBinS (· + ·))))
  (g_Step_Sub : GO P w K mg base (L2.CX P w) 6 (ca K .Step) .Sub (spR K csL tsL 1900 (RBinS (· - ·))))
  (g_Step_USub : GN P w K mg base (L2.CX P w) 5 (ca K .Step) "__neg__" (spR K csL tsL 3900 RNegS))
  (g_Step_Mult : GO P w K mg base (L2.CX P w) 5 (ca K .Step) .Mult (spR K csL tsL 1900 RMulS))
  (g_Step_eq : GN P w K mg base (L2.CX P w) 1 (ca K .Step) "__eq__" (spR K csL tsL 3900 REqS)) (g_Step_eq_ne : GNe P w K mg base (L2.CX P w) 1 (ca K .Step) (spR K csL tsL 3900 REqS)) (nf_Step : ∀ t ∈ tsL, PySem.W.notFirst K (ca K .Step) (tv K t) = true)
  (g_Step_upward : GP P w K mg base (L2.CX P w) 5 (ca K .Step) "upward" (spR K csL tsL 3900 RUpw))
  (g_Step_corner : GP P w K mg base (L2.CX P w) 5 (ca K .Step) "corner" (spR K csL tsL 3900 RCorner))
  (g_Step_one_round : GS0 P w K mg base (L2.CX P w) 5 (ca K .Step) "one_round" (spR K csL tsL 3900 ROneR))
  (g_cross : GD P w K mg base (L2.CX P w) 4 "cross" ["one", "other"] [] (spR K csL tsL 1900 RCross))
  (g_are_neighbours : GD P w K mg base (L2.CX P w) 5 "are_neighbours" ["one", "other"] [] (spR K csL tsL 1900 RAreN))
  (g_need_neighbours : GD P w K mg base (L2.CX P w) 6 "need_neighbours" ["one", "other"] [] (spR K csL tsL 1900 RNeedN))
  (g_between : GD P w K mg base (L2.CX P w) 7 "between" ["one", "other"] [] (spR K csL tsL 1900 RBetween))
  (g_integer_of : GD P w K mg base (L2.CX P w) 1 "integer_of" ["word"] [] (spR K csL tsL 100000 RIntOf))
  (g_mWords : GM P w K mg base (L2.CX P w) 1 "Words" (ca K .Words) ["self", "words", "done", "last"] [] (spInitW K))
  (g_Words_is_over : GH P w K mg base (L2.CX P w) 1 (ca K .Words) "is_over" ["self"] (spWp K RIsOver))
  (g_Words_take : GH P w K mg base (L2.CX P w) 3 (ca K .Words) "take" ["self"] (spW K RTake))
  (g_Words_refuse : GH P w K mg base (L2.CX P w) 3 (ca K .Words) "refuse" ["self"] (spW K RRefuse))
  (g_Words_integer : GH P w K mg base (L2.CX P w) 4 (ca K .Words) "integer" ["self"] (spW K RInteg))
  (g_Words_end : GH P w K mg base (L2.CX P w) 3 (ca K .Words) "end" ["self"] (spWp K REndW))
  (g_words_in : GD P w K mg base (L2.CX P w) 3 "words_in" ["text"] [] (spWords K csL tsL))
  (g_take_step : GD P w K mg base (L2.CX P w) 5 "take_step" ["words"] [] (spW K RTakeS))
  (g_read_whole : GD P w K mg base (L2.CX P w) 6 "read_whole" ["text", "take"] [] (spReadW K csL tsL (He.ga K "take_step") RTakeS))
  (g_Step_read : GC P w K mg base (L2.CX P w) 7 (ca K .Step) "read" (spReadC K csL tsL RTakeS))
  (g_Step_str : GN P w K mg base (L2.CX P w) 1 (ca K .Step) "__str__" (spR K csL tsL 3900 RStrS))
  (g_inverse : GD P w K mg base (L2.CX P w) 1 "inverse" ["number", "modulus"] [] (spInv K))
  (g_mate : GD P w K mg base (L2.CX P w) 5 "mate" ["step"] [] (spMate K csL tsL))
  (g_l_pail : GD P w K mg base (L2.CX P w) 1 "_law_pail" ["_law_script"] [] (spPail K))
  (g_l_dip : GD P w K mg base (L2.CX P w) 1 "_law_dip" ["_law_pail_here", "_law_many"] [] spDip)
  (g_l_number : GD P w K mg base (L2.CX P w) 2 "_law_number" ["_law_pail_here", "_law_many"] [] (spLP K csL tsL T 60 900000 3 (fun ds => ds = [.int 30]) (fun _ d => ∃ i : Int, d = .int i ∧ i.natAbs < 2 ^ 46)))
  (g_l_pair : GD P w K mg base (L2.CX P w) 3 "_law_pair" ["_law_pail_here"] [] (spLP K csL tsL T 60 800000 20 (fun ds => ds = []) (fun _ d => ∃ k j : Int, d = .tup [.int k, .int j] ∧ Pk 49 k j)))
  (g_l_common : GD P w K mg base (L2.CX P w) 1 "_law_common" ["_law_one", "_law_other"] [] (spR K csL tsL 60 RComm))
  (g_l_told : GD P w K mg base (L2.CX P w) 1 "_law_told" ["_law_step"] [] (spR K csL tsL 100000 RTold))
  (g_l_nearest : GD P w K mg base (L2.CX P w) 1 "_law_nearest" ["_law_pair_here"] [] (spR K csL tsL 60 RNear))
  (g_l_one_right : GD P w K mg base (L2.CX P w) 18 "_law_one_right" ["_law_pair_here"] [] (spL K csL tsL T 60 ROne))
  (g_l_two_right : GD P w K mg base (L2.CX P w) 18 "_law_two_right" ["_law_one", "_law_other"] [] (spL K csL tsL T 60 RTwo))
  (g_l_mate_right : GD P w K mg base (L2.CX P w) 18 "_law_mate_right" ["_law_pair_here"] [] (spL K csL tsL T 60 ROne))
  (g_l_refused_right : GD P w K mg base (L2.CX P w) 18 "_law_refused_right" ["_law_pail_here", "_law_pair_here"] [] (spLP K csL tsL T 60 700000 5 (fun ds => ∃ k j : Int, ds = [.tup [.int k, .int j]] ∧ Pk 52 k j) (fun _ d => d = .bl true)))
  (g_l_text_right : GD P w K mg base (L2.CX P w) 18 "_law_text_right" ["_law_pail_here", "_law_pair_here"] [] (spLP K csL tsL T 60 700000 10 (fun ds => ∃ k j : Int, ds = [.tup [.int k, .int j]] ∧ Pk 52 k j) (fun _ d => d = .bl true)))
variable (g_take_step_l : GL P w K mg base (L2.CX P w) 5 "take_step" (spW K RTakeS))
variable (g_mStep_krs : GMK P w K mg base (L2.CX P w) 3 "Step" (ca K .Step) ["rounds", "studs"] [1, 0] (spRI K csL tsL .Step 3900 RInitS))
  (g_cross_k : GDK P w K mg base (L2.CX P w) 4 "cross" ["other", "one"] 2 [1, 0] (spR K csL tsL 1900 RCross))

local macro_rules | `(tactic| walk_at "sub") => `(tactic| (refine Sp.Env.sub (by assumption) (fun _ hi => ?_); repeat (first | exact hi | refine List.mem_cons_of_mem _ ?_)))
theorem sc__law_two_right : FnScope ["_law_one", "_law_other", "_law_due", "_law_heard_here", "_law_here", "_law_there"] ["_law_one", "_law_other"] (defScope (topS 50)) := ⟨rfl, rfl, rfl, by decide +kernel, rfl, by decide +kernel, by decide +kernel⟩
include g_Step_Add g_Step_Sub g_Step_eq g_are_neighbours g_between g_cross g_cross_k g_l_told g_mStep nf_Step in
theorem ok__law_two_right {c Pt : Addr} (gEr : GE K mg) (gHd : GHd P w K mg base) (hTB : LamX.TabB base mg c Pt) (hmT : (Pt, ("_law_two_right" : Str) ++ ".<locals>." ++ "<lambda>") ∈ T) (huT : ∀ p ∈ T, p.1 = Pt → p.2 = ("_law_two_right" : Str) ++ ".<locals>." ++ "<lambda>") (hfc : fd.code = .ref c) (G : G0 K mg csL tsL) (F : FP K "_law_two_right" "_law_two_right" (topS 50) [] f fd) : FnOk P w K mg base (L2.CX P w) 18 f fd ["_law_one", "_law_other"] (spL K csL tsL T 60 RTwo) := by
  have nd := sc__law_two_right.nd
  refine okL F hfc sc__law_two_right (fun ds d r => by cases r <;> rfl) (fun A outer s H ds d Q E hr z r q hE => ⟨_, pss_cons (ps_asg (pe_tupE (pa_cons (pe_makeD g_mStep (hr.mono (by decide)) rfl (pxE rfl rfl rfl rfl) (pa_cons (pe_ix ix_tup (pv 0) (pe_int) (fun _ _ => rfl)) (pa_cons (pe_ix ix_tup (pv 0) (pe_int) (fun _ _ => rfl)) (pa_nil)))) (pa_cons (pe_makeD g_mStep (hr.mono (by decide)) rfl (pxE rfl rfl rfl rfl) (pa_cons (pe_ix ix_tup (pv 1) (pe_int) (fun _ _ => rfl)) (pa_cons (pe_ix ix_tup (pv 1) (pe_int) (fun _ _ => rfl)) (pa_nil)))) (pa_nil)))) (pg_tup rfl (pgs_cons (pg_name (i := 4) nd rfl (Or.inr rfl)) (pgs_cons (pg_name (i := 5) nd rfl (Or.inr rfl)) (pgs_nil))))) (pss_cons (ps_set (i := 2) nd rfl (Or.inl rfl) (pe_tupE (pa_cons (pe_op op_add (pe_ix ix_tup (pv 0) (pe_int) (fun _ _ => rfl)) (pe_ix ix_tup (pv 1) (pe_int) (fun _ _ => rfl))) (pa_cons (pe_op op_add (pe_ix ix_tup (pv 0) (pe_int) (fun _ _ => rfl)) (pe_ix ix_tup (pv 1) (pe_int) (fun _ _ => rfl))) (pa_nil))))) (pss_cons (ps_ifC (pt_cmpR (op_neD hr.units) (pe_heard (X := cxOf (L2.CX P w) P w K mg base _ _ _ f (.ref c) A outer s H E) (k := 14) gHd gEr rfl hTB rfl hmT huT (hr.mono (by decide)) (hr.mono (by decide)) (LamX.lamS_by (sc := defScope (topS 50)) (by decide +kernel)) rfl (fun _ _ _ _ _ => rfl) (fun Al ol sl Hl El fl cl hr => pe_gd g_l_told (hr.mono (by decide)) rfl (pxE rfl rfl rfl rfl) (pa_cons (pe_op (op_go g_Step_Add (hr.mono (by decide)) (pxE rfl rfl rfl rfl)) (pv 4) (pv 5)) (pa_nil)))) (pe_ifExp (pt_cmpR (op_neD hr.units) (pv 2) (pe_tupE (pa_cons (pe_int) (pa_cons (pe_int) (pa_nil)))) (nomark _)) (pe_tupE (pa_cons (pe_str) (pa_cons (pv 2) (pa_nil)))) (pe_tupE (pa_cons (pe_str) (pa_cons (pe_str) (pa_nil))))) (nomark _)) (pss_one (ps_ret (pe_bl))) (pss_nil)) (pss_cons (ps_set (i := 2) nd rfl (Or.inl rfl) (pe_tupE (pa_cons (pe_op op_sub (pe_ix ix_tup (pv 0) (pe_int) (fun _ _ => rfl)) (pe_ix ix_tup (pv 1) (pe_int) (fun _ _ => rfl))) (pa_cons (pe_op op_sub (pe_ix ix_tup (pv 0) (pe_int) (fun _ _ => rfl)) (pe_ix ix_tup (pv 1) (pe_int) (fun _ _ => rfl))) (pa_nil))))) (pss_cons (ps_ifC (pt_cmpR (op_neD hr.units) (pe_heard (X := cxOf (L2.CX P w) P w K mg base _ _ _ f (.ref c) A outer s H E) (k := 14) gHd gEr rfl hTB rfl hmT huT (hr.mono (by decide)) (hr.mono (by decide)) (LamX.lamS_by (sc := defScope (topS 50)) (by decide +kernel)) rfl (fun _ _ _ _ _ => rfl) (fun Al ol sl Hl El fl cl hr => pe_gd g_l_told (hr.mono (by decide)) rfl (pxE rfl rfl rfl rfl) (pa_cons (pe_op (op_go g_Step_Sub (hr.mono (by decide)) (pxE rfl rfl rfl rfl)) (pv 4) (pv 5)) (pa_nil)))) (pe_ifExp (pt_cmpR (op_neD hr.units) (pv 2) (pe_tupE (pa_cons (pe_int) (pa_cons (pe_int) (pa_nil)))) (nomark _)) (pe_tupE (pa_cons (pe_str) (pa_cons (pv 2) (pa_nil)))) (pe_tupE (pa_cons (pe_str) (pa_cons (pe_str) (pa_nil))))) (nomark _)) (pss_one (ps_ret (pe_bl))) (pss_nil)) (pss_cons (ps_set (i := 2) nd rfl (Or.inl rfl) (pe_op op_sub (pe_op op_mulB (pe_ix ix_tup (pv 0) (pe_int) (fun _ _ => rfl)) (pe_ix ix_tup (pv 1) (pe_int) (fun _ _ => rfl))) (pe_op op_mulB (pe_ix ix_tup (pv 1) (pe_int) (fun _ _ => rfl)) (pe_ix ix_tup (pv 0) (pe_int) (fun _ _ => rfl))))) (pss_cons (ps_ifC (PW.pt (pw_or (pt_cmpR op_ne (pe_gd g_cross (hr.mono (by decide)) rfl (pxE rfl rfl rfl rfl) (pa_cons (pv 4) (pa_cons (pv 5) (pa_nil)))) (pv 2) (nomark _)) (pw_or (pt_cmpR op_ne (pe_gdk g_cross_k (hr.mono (by decide)) rfl (pxE rfl rfl rfl rfl) (pk_cons (pv 4) (pk_cons (pv 5) (pk_nil)))) (pe_un un_neg (pv 2)) (nomark _)) (pw_or1 (pt_cmpR op_ne (pe_gd g_are_neighbours (hr.mono (by decide)) rfl (pxE rfl rfl rfl rfl) (pa_cons (pv 4) (pa_cons (pv 5) (pa_nil)))) (pe_cmpR op_in_seq (pv 2) (pe_tupE (pa_cons (pe_int) (pa_cons (pe_un un_neg (pe_int)) (pa_nil)))) rfl) (nomark _)))))) (pss_one (ps_ret (pe_bl))) (pss_nil)) (pss_cons (ps_set (i := 3) nd rfl (Or.inl rfl) (pe_heard (X := cxOf (L2.CX P w) P w K mg base _ _ _ f (.ref c) A outer s H E) (k := 14) gHd gEr rfl hTB rfl hmT huT (hr.mono (by decide)) (hr.mono (by decide)) (LamX.lamS_by (sc := defScope (topS 50)) (by decide +kernel)) rfl (fun _ _ _ _ _ => rfl) (fun Al ol sl Hl El fl cl hr => pe_gd g_l_told (hr.mono (by decide)) rfl (pxE rfl rfl rfl rfl) (pa_cons (pe_gd g_between (hr.mono (by decide)) rfl (pxE rfl rfl rfl rfl) (pa_cons (pv 4) (pa_cons (pv 5) (pa_nil)))) (pa_nil))))) (pss_cons (ps_ifC (pt_cmpR (op_neD hr.units) (pv 3) (pe_ifExp (pt_cmpR op_in_seq (pv 2) (pe_tupE (pa_cons (pe_int) (pa_cons (pe_un un_neg (pe_int)) (pa_nil)))) rfl) (pe_tupE (pa_cons (pe_str) (pa_cons (pe_tupE (pa_cons (pe_op op_add (pe_ix ix_tup (pv 0) (pe_int) (fun _ _ => rfl)) (pe_ix ix_tup (pv 1) (pe_int) (fun _ _ => rfl))) (pa_cons (pe_op op_add (pe_ix ix_tup (pv 0) (pe_int) (fun _ _ => rfl)) (pe_ix ix_tup (pv 1) (pe_int) (fun _ _ => rfl))) (pa_nil)))) (pa_nil)))) (pe_tupE (pa_cons (pe_str) (pa_cons (pv 0) (pa_cons (pv 1) (pa_nil)))))) (nomark _)) (pss_one (ps_ret (pe_bl))) (pss_nil)) (pss_one (ps_ret (pe_and (pe_cmpR op_eq (pe_cmpR (op_eqGo g_Step_eq (hr.mono (by decide)) (pxE rfl rfl rfl rfl)) (pv 4) (pv 5) (nomark _)) (pe_cmpR (op_eqD hr.units) (pv 0) (pv 1) (nomark _)) (nomark _)) (pe_one (pe_cmpR op_is_bl (pe_cmpR (op_eqGo g_Step_eq (hr.mono (by decide)) (pxE rfl rfl rfl rfl)) (pv 4) (pv 0) (nomark _)) (pe_bl) (nomark _)))))))))))))), ?_⟩)
  cases r with
  | @mk k j l i h h2 =>
    have bk : Bi k 52 := ⟨h.k⟩
    have bj : Bi j 52 := ⟨h.j⟩
    have bl : Bi l 52 := ⟨h2.k⟩
    have bi : Bi i 52 := ⟨h2.j⟩
    have nz := h.nz
    have nz2 := h2.nz
    walk_at "goL"
    rename_i e1
    refine ifCut e1 (fun H1 e2 => ?_) fun N hN => ?_
    rotate_left
    · have t1 := eqv_int2 (k + l) (j + i) 0 0
      rw [← Bool.decide_and] at t1
      by_cases s1 : k + l = 0 ∧ j + i = 0
      · rw [decide_eq_true s1] at t1
        walk_at "rd"
        exact hN _ (by walk_at "sub")
      · rw [decide_eq_false s1] at t1
        walk_at "rd"
        exact hN _ (by walk_at "sub")
    clear e1
    walk_at "rd"
    rename_i e3
    clear e2
    refine ifCut e3 (fun H1 e4 => ?_) fun N hN => ?_
    rotate_left
    · have t1 := eqv_int2 (k - l) (j - i) 0 0
      rw [← Bool.decide_and] at t1
      by_cases s1 : k - l = 0 ∧ j - i = 0
      · rw [decide_eq_true s1] at t1
        walk_at "rd"
        exact hN _ (by walk_at "sub")
      · rw [decide_eq_false s1] at t1
        walk_at "rd"
        exact hN _ (by walk_at "sub")
    clear e3
    walk_at "rd"
    have x1 : decide (V.int (crs k j l i) = V.int (k * i - l * j)) = true := by simp [crs]
    have x2 : decide (V.int (crs l i k j) = V.int (-(k * i - l * j))) = true := by
      rw [show crs l i k j = -(k * i - l * j) by unfold crs; omega]
      simp
    have x3 := inV1 (crs k j l i) (k * i - l * j) rfl
    refine ifGo ?_
    walk_at "rd"
    have x4 := inV2 (crs k j l i) (k * i - l * j) rfl
    have x5 : decide (V.bl (decide (k = l) && decide (j = i)) = V.bl (PyData.eqv (.tuple [.int k, .int j]) (.tuple [.int l, .int i]))) = true := by
      rw [eqv_int2]
      simp
    by_cases s3 : (crs k j l i).natAbs = 1
    · rw [decide_eq_true s3] at x4
      walk_at "rd"
      refine ifGo ?_
      walk_at "rd"
    · rw [decide_eq_false s3] at x4
      walk_at "rd"
      refine ifGo ?_
      walk_at "rd"
end
end Sp
end
section
set_option Elab.async false
set_option linter.all false
set_option exponentiation.threshold 5000
set_option maxRecDepth 100000
set_option maxHeartbeats 0
local macro_rules | `(tactic| walk_at "mem") => `(tactic| first | exact List.mem_cons_self | (refine List.mem_cons_of_mem _ ?_; walk_at "mem"))
local macro_rules | `(tactic| walk_at "isv") => `(tactic| first | exact Sp.IsV.int _ | exact Sp.IsV.str _ | exact Sp.IsV.bl _ | exact Sp.IsV.non | exact Sp.Env.get (by assumption) (by walk_at "mem") | assumption)
local macro_rules | `(tactic| walk_at "isvs") => `(tactic| first | exact Sp.IsVs.nil | (refine' Sp.IsVs.cons ?iv ?rs; (case iv => walk_at "isv"); (case rs => walk_at "isvs")))
local macro_rules | `(tactic| walk_at "isfs") => `(tactic| first | exact Sp.IsFs.nil | (refine' Sp.IsFs.cons ?iv ?rs; (case iv => walk_at "isv"); (case rs => walk_at "isfs")))
local macro_rules | `(tactic| walk_at "sz1") => `(tactic| first | exact trivial | exact Sp.biI _ | exact Sp.bqI _ | exact ⟨Sp.biI _, Sp.biI _⟩ | exact ⟨Sp.bqI _, Sp.bqI _⟩ | exact ⟨⟨Sp.biI _, Sp.biI _⟩, Sp.biI _, Sp.biI _⟩ | exact ⟨Sp.bqI _, Sp.bqI _, Sp.bqI _⟩ | assumption | exact Sp.SzD.mono (by assumption) (by decide))
local macro_rules | `(tactic| walk_at "okt") => `(tactic| first | rfl | assumption | decide)
local macro_rules | `(tactic| walk_at "dsok") => `(tactic| first | exact trivial | (refine And.intro (And.intro ?oa ?ob) ?rs; (case oa => walk_at "okt"); (case ob => walk_at "sz1"); (case rs => walk_at "dsok")))
local macro_rules | `(tactic| walk_at "sc") => `(tactic| first | rfl | assumption | decide | omega)
local macro_rules | `(tactic| walk_at "leaf") => `(tactic| first | rfl | assumption | exact True.intro | exact ⟨_, rfl⟩ | exact L2.upd_same | exact L2.ClsV.ty _ | exact L2.ClsV.own _ | decide | exact of_decide_eq_true rfl | exact Sp.cmI _ _ | exact Sp.cdI _ (by first | assumption | omega) | exact Sp.cmL (by decide) | exact Sp.cmR (by decide) | exact ⟨by decide, by decide, by decide⟩ | exact ⟨by decide, by decide⟩ | omega | fail)
local macro_rules | `(tactic| walk_at "cls") => `(tactic| first | exact Sp.ClsD.int | exact Sp.ClsD.bool | exact Sp.ClsD.str | exact Sp.ClsD.own _ | exact Sp.ClsD.tuple | exact Sp.ClsD.list)
local macro_rules | `(tactic| walk_at "args") => `(tactic| repeat (first
  | refine' Sp.aaInt ?_ | refine' Sp.aaBl ?_ | refine' Sp.aaStr ?_ | refine' Sp.aaNon ?_ | (refine' Sp.aaOwn (by assumption) (by rfl) ?_; intro _ _) | (refine' Sp.aaTup (by assumption) ?_; intro _ _) | (refine' Sp.aaAny (by assumption) ?_; intro _ _) | refine' Sp.aaNil ?_))
local macro_rules | `(tactic| walk_at "shp") => `(tactic| first | rfl | decide +kernel | (simp [PySem.SeqAt.shaped, PySem.PyData.canLay0, PySem.PyData.canLayAll0, PySem.PyData.depth, PySem.PyData.depthAll] <;> decide +kernel))
local macro_rules | `(tactic| walk_at "rd1") => `(tactic| first
  | apply Sp.exI
  | (refine And.intro ?lf ?_; (case lf => walk_at "leaf"))
  | (show @ite Prop (_ = true) _ _ _; first | refine' Sp.iteT (by first | assumption | rfl | exact Sp.nbT (by assumption) | exact Sp.nbF (by assumption)) ?_ | refine' Sp.iteF (by first | assumption | rfl | exact Sp.nbT (by assumption) | exact Sp.nbF (by assumption) | exact Sp.nbF (Sp.eqr (by walk_at "shp"))) ?_)
  | (refine' Sp.afInt (by assumption) ?_; intro _ _) | (refine' Sp.afBl (by assumption) ?_; intro _ _) | (refine' Sp.afStr (by assumption) ?_; intro _ _) | (refine' Sp.afNon (by assumption) ?_; intro _ _)
  | (refine' Sp.afOwn (by assumption) (by rfl) ?_; intro _ _ _) | (refine' Sp.afTup (by assumption) ?_; intro _ _ _) | (refine' Sp.afRef (by assumption) ?_; intro _ _ _)
  | refine' Sp.asInt ?_ | refine' Sp.asBl ?_ | refine' Sp.asStr ?_ | refine' Sp.asNon ?_
  | (refine' Sp.asOwn (by assumption) (by rfl) ?_; intro _ _) | (refine' Sp.asTup (by assumption) ?_; intro _ _) | (refine' Sp.asRef (by assumption) ?_; intro _ _)
  | refine' Sp.aaInt ?_ | refine' Sp.aaBl ?_ | refine' Sp.aaStr ?_ | refine' Sp.aaNon ?_ | (refine' Sp.aaOwn (by assumption) (by rfl) ?_; intro _ _) | (refine' Sp.aaTup (by assumption) ?_; intro _ _) | (refine' Sp.aaAny (by assumption) ?_; intro _ _) | refine' Sp.aaNil ?_
  | (refine' Sp.fnR ?i ?z ?r ?_; (case i => walk_at "isvs"); (case z => walk_at "dsok"); (case r => walk_at "rel"))
  | (refine' Sp.makeOk ?i ?z ?r ?o ?_; (case i => walk_at "isvs"); (case z => walk_at "dsok"); (case r => walk_at "rel"); (case o => rfl))
  | (refine' Sp.makeEr ?i ?z ?r ?_; (case i => walk_at "isvs"); (case z => walk_at "dsok"); (case r => walk_at "rel"))
  | (refine' Sp.isiD (by assumption) ?i ?c ?o ?t ?_; (case i => walk_at "isv"); (case c => walk_at "cls"); (case o => walk_at "okt"); (case t => decide))
  | (refine' Sp.fldD (by assumption) ?i ?o ?l ?c ?_; (case i => walk_at "isv"); (case o => rfl); (case l => rfl); (case c => decide))
  | (refine' Sp.fldRaw (by assumption) (by assumption) (by rfl) (by decide) (by decide) ?_)
  | (refine' Sp.methRaw (by assumption) (by rfl) ?_)
  | (refine' Sp.setRaw (by assumption) (by assumption) (by rfl) (by decide) (by decide) ?_)
  | (refine' Sp.strD ?i ?o ?_; (case i => walk_at "isv"); (case o => rfl))
  | (refine' Sp.methD ?i ?o ?l ?_; (case i => walk_at "isv"); (case o => rfl); (case l => rfl))
  | (refine' Sp.propD ?i ?o ?_; (case i => walk_at "isv"); (case o => rfl))
  | (refine' Sp.binD ?i ?o ?j ?e ?_; (case i => walk_at "isv"); (case o => rfl); (case j => walk_at "isv"); (case e => rfl))
  | (refine' Sp.unD ?i ?o ?_; (case i => walk_at "isv"); (case o => rfl))
  | (refine' Sp.absD ?i ?o ?_; (case i => walk_at "isv"); (case o => rfl))
  | (refine' Sp.eqOwnD (by assumption) ?i ?o ?j ?e ?n ?_; (case i => walk_at "isv"); (case o => rfl); (case j => walk_at "isv"); (case e => walk_at "okt"); (case n => walk_at "nf"))
  | (refine' Sp.neOwnD (by assumption) ?i ?o ?j ?e ?n ?_; (case i => walk_at "isv"); (case o => rfl); (case j => walk_at "isv"); (case e => walk_at "okt"); (case n => walk_at "nf"))
  | (refine' Sp.tupD (by assumption) ?i ?l ?_; (case i => walk_at "isvs"); (case l => rfl); intro _ _ _)
  | (refine' Sp.lstD (by assumption) ?i ?l ?_; (case i => walk_at "isvs"); (case l => rfl); intro _ _ _)
  | (refine' Sp.raiseD (by assumption) ?i ?e ?l ?_; (case i => walk_at "isvs"); (case e => rfl); (case l => rfl))
  | (refine' Sp.setD (by assumption) (by assumption) rfl rfl rfl (by decide) (by decide) ?_; intro _ _)
  | (refine' Sp.ixTD ?i ?e ?g ?_; (case i => walk_at "isv"); (case e => rfl); (case g => rfl))
  | (refine' Sp.ixLD ?i ?e ?g ?_; (case i => walk_at "isv"); (case e => rfl); (case g => rfl))
  | (refine' Sp.gTupD ?i ?e ?_; (case i => walk_at "isv"); (case e => rfl))
  | refine' Sp.lamR (by assumption) ?_
  | (refine' Sp.finD' (by assumption) (by assumption) ?i; (case i => walk_at "isv"))
  | refine' Sp.finE' (by assumption) (by assumption)
  | refine' Sp.finIE (by assumption) (by assumption) (by assumption)
  | (refine' Sp.dipD (by assumption) (by omega) ?m0 ?m1 ?n ?_; (case m0 => first | decide | omega); (case m1 => first | decide | omega); (case n => rfl); intro _ _ _ _ _)
  | (refine' Sp.lawL (by assumption) ?i ?z ?r ?_; (case i => walk_at "isvs"); (case z => walk_at "dsok"); (case r => walk_at "rel"); intro _ _ _)
  | (refine' Sp.lawP (by assumption) ?i ?z ?nd ?pr (by omega) ?nl ?_; (case i => walk_at "isvs"); (case z => walk_at "dsok"); (case nd => rfl); (case pr => walk_at "pre"); (case nl => rfl))
  | (refine' Sp.dctD (by assumption) ?_; intro _ _ _)
  | (refine' Sp.eqDD ?i ?j ?e ?f ?s ?t ?_; (case i => walk_at "isv"); (case j => walk_at "isv"); (case e => rfl); (case f => rfl); (case s => walk_at "shp"); (case t => walk_at "shp"))
  | (refine' Sp.neDD ?i ?j ?e ?f ?s ?t ?_; (case i => walk_at "isv"); (case j => walk_at "isv"); (case e => rfl); (case f => rfl); (case s => walk_at "shp"); (case t => walk_at "shp"))
  | (refine' Sp.readCO ?i ?ot ?r ?_; (case i => walk_at "isv"); (case ot => walk_at "okt"); (case r => first | assumption | exact Sp.rd_own (by assumption)))
  | (refine' Sp.finLB (by assumption) (by assumption) ?e; (case e => first | rfl | assumption | exact Sp.eqr (by walk_at "shp")))
  | refine' Sp.aeNa (by assumption) ?_
  | (refine' Sp.inTI ?i ?_; (case i => walk_at "isv"))
  | (refine' Sp.herN (by assumption) ?z1 ?z2 ?_; (case z1 => walk_at "sz1"); (case z2 => walk_at "sz1"); intro _ _ _)
  | (refine' Sp.binXD (by assumption) ?i ?o ?j ?z ?T ?_; (case i => walk_at "isv"); (case o => rfl); (case j => walk_at "isv"); (case z => walk_at "okt"); (case T => assumption))
  | (refine' Sp.mateN ?i ?o (by assumption) ?z ?_; (case i => walk_at "isv"); (case o => walk_at "okt"); (case z => walk_at "sz1"))
  | (refine' Sp.catD (by assumption) ?i ?j ?l ?_; (case i => walk_at "isv"); (case j => walk_at "isv"); (case l => rfl); intro _ _ _)
  | (refine' Sp.lamD (by assumption) ?_; intro _ _ _ _)
  | (refine' Sp.hokD (by assumption) ?i ?_; (case i => walk_at "isv"); intro _ _ _)
  | (refine' Sp.herP1 (by assumption) ?m ?l ?_; (case m => walk_at "mem"); (case l => rfl); intro _ _ _)
  | (refine' Sp.herP2 (by assumption) ?m ?l ?l2 ?_; (case m => walk_at "mem"); (case l => rfl); (case l2 => rfl); intro _ _ _)
  | (refine' Sp.finL (by assumption) (by assumption) ?i; (case i => walk_at "isv"))
  | fail)
local macro_rules | `(tactic| walk_at "rd1N") => `(tactic| first
  | apply Sp.exI
  | (refine And.intro ?lf ?_; (case lf => walk_at "leaf"))
  | (show @ite Prop (_ = true) _ _ _; first | refine' Sp.iteT (by first | assumption | rfl | exact Sp.nbT (by assumption) | exact Sp.nbF (by assumption)) ?_ | refine' Sp.iteF (by first | assumption | rfl | exact Sp.nbT (by assumption) | exact Sp.nbF (by assumption) | exact Sp.nbF (Sp.eqr (by walk_at "shp"))) ?_)
  | (refine' Sp.afInt (by assumption) ?_; intro _ _) | (refine' Sp.afBl (by assumption) ?_; intro _ _) | (refine' Sp.afStr (by assumption) ?_; intro _ _) | (refine' Sp.afNon (by assumption) ?_; intro _ _)
  | (refine' Sp.afOwn (by assumption) (by rfl) ?_; intro _ _ _) | (refine' Sp.afTup (by assumption) ?_; intro _ _ _) | (refine' Sp.afRef (by assumption) ?_; intro _ _ _)
  | refine' Sp.asInt ?_ | refine' Sp.asBl ?_ | refine' Sp.asStr ?_ | refine' Sp.asNon ?_
  | (refine' Sp.asOwn (by assumption) (by rfl) ?_; intro _ _) | (refine' Sp.asTup (by assumption) ?_; intro _ _) | (refine' Sp.asRef (by assumption) ?_; intro _ _)
  | refine' Sp.aaInt ?_ | refine' Sp.aaBl ?_ | refine' Sp.aaStr ?_ | refine' Sp.aaNon ?_ | (refine' Sp.aaOwn (by assumption) (by rfl) ?_; intro _ _) | (refine' Sp.aaTup (by assumption) ?_; intro _ _) | (refine' Sp.aaAny (by assumption) ?_; intro _ _) | refine' Sp.aaNil ?_
  | (refine' Sp.fnR ?i ?z ?r ?_; (case i => walk_at "isvs"); (case z => walk_at "dsok"); (case r => walk_at "rel"))
  | (refine' Sp.makeOk ?i ?z ?r ?o ?_; (case i => walk_at "isvs"); (case z => walk_at "dsok"); (case r => walk_at "rel"); (case o => rfl))
  | (refine' Sp.makeEr ?i ?z ?r ?_; (case i => walk_at "isvs"); (case z => walk_at "dsok"); (case r => walk_at "rel"))
  | (refine' Sp.isiD (by assumption) ?i ?c ?o ?t ?_; (case i => walk_at "isv"); (case c => walk_at "cls"); (case o => walk_at "okt"); (case t => decide))
  | (refine' Sp.fldD (by assumption) ?i ?o ?l ?c ?_; (case i => walk_at "isv"); (case o => rfl); (case l => rfl); (case c => decide))
  | (refine' Sp.fldRaw (by assumption) (by assumption) (by rfl) (by decide) (by decide) ?_)
  | (refine' Sp.methRaw (by assumption) (by rfl) ?_)
  | (refine' Sp.setRaw (by assumption) (by assumption) (by rfl) (by decide) (by decide) ?_)
  | (refine' Sp.strD ?i ?o ?_; (case i => walk_at "isv"); (case o => rfl))
  | (refine' Sp.methD ?i ?o ?l ?_; (case i => walk_at "isv"); (case o => rfl); (case l => rfl))
  | (refine' Sp.propD ?i ?o ?_; (case i => walk_at "isv"); (case o => rfl))
  | (refine' Sp.binD ?i ?o ?j ?e ?_; (case i => walk_at "isv"); (case o => rfl); (case j => walk_at "isv"); (case e => rfl))
  | (refine' Sp.unD ?i ?o ?_; (case i => walk_at "isv"); (case o => rfl))
  | (refine' Sp.absD ?i ?o ?_; (case i => walk_at "isv"); (case o => rfl))
  | (refine' Sp.eqOwnD (by assumption) ?i ?o ?j ?e ?n ?_; (case i => walk_at "isv"); (case o => rfl); (case j => walk_at "isv"); (case e => walk_at "okt"); (case n => walk_at "nf"))
  | (refine' Sp.neOwnD (by assumption) ?i ?o ?j ?e ?n ?_; (case i => walk_at "isv"); (case o => rfl); (case j => walk_at "isv"); (case e => walk_at "okt"); (case n => walk_at "nf"))
  | (refine' Sp.raiseD (by assumption) ?i ?e ?l ?_; (case i => walk_at "isvs"); (case e => rfl); (case l => rfl))
  | (refine' Sp.setD (by assumption) (by assumption) rfl rfl rfl (by decide) (by decide) ?_; intro _ _)
  | (refine' Sp.ixTD ?i ?e ?g ?_; (case i => walk_at "isv"); (case e => rfl); (case g => rfl))
  | (refine' Sp.ixLD ?i ?e ?g ?_; (case i => walk_at "isv"); (case e => rfl); (case g => rfl))
  | (refine' Sp.gTupD ?i ?e ?_; (case i => walk_at "isv"); (case e => rfl))
  | refine' Sp.lamR (by assumption) ?_
  | (refine' Sp.finD' (by assumption) (by assumption) ?i; (case i => walk_at "isv"))
  | refine' Sp.finE' (by assumption) (by assumption)
  | refine' Sp.finIE (by assumption) (by assumption) (by assumption)
  | (refine' Sp.dipD (by assumption) (by omega) ?m0 ?m1 ?n ?_; (case m0 => first | decide | omega); (case m1 => first | decide | omega); (case n => rfl); intro _ _ _ _ _)
  | (refine' Sp.lawL (by assumption) ?i ?z ?r ?_; (case i => walk_at "isvs"); (case z => walk_at "dsok"); (case r => walk_at "rel"); intro _ _ _)
  | (refine' Sp.lawP (by assumption) ?i ?z ?nd ?pr (by omega) ?nl ?_; (case i => walk_at "isvs"); (case z => walk_at "dsok"); (case nd => rfl); (case pr => walk_at "pre"); (case nl => rfl))
  | (refine' Sp.dctD (by assumption) ?_; intro _ _ _)
  | (refine' Sp.eqDD ?i ?j ?e ?f ?s ?t ?_; (case i => walk_at "isv"); (case j => walk_at "isv"); (case e => rfl); (case f => rfl); (case s => walk_at "shp"); (case t => walk_at "shp"))
  | (refine' Sp.neDD ?i ?j ?e ?f ?s ?t ?_; (case i => walk_at "isv"); (case j => walk_at "isv"); (case e => rfl); (case f => rfl); (case s => walk_at "shp"); (case t => walk_at "shp"))
  | (refine' Sp.lamD (by assumption) ?_; intro _ _ _ _)
  | (refine' Sp.hokD (by assumption) ?i ?_; (case i => walk_at "isv"); intro _ _ _)
  | (refine' Sp.herP1 (by assumption) ?m ?l ?_; (case m => walk_at "mem"); (case l => rfl); intro _ _ _)
  | (refine' Sp.herP2 (by assumption) ?m ?l ?l2 ?_; (case m => walk_at "mem"); (case l => rfl); (case l2 => rfl); intro _ _ _)
  | (refine' Sp.finL (by assumption) (by assumption) ?i; (case i => walk_at "isv"))
  | fail)
local macro_rules | `(tactic| walk_at "rdN") => `(tactic| repeat (walk_at "rd1N"))
local macro_rules | `(tactic| walk_at "rd") => `(tactic| repeat (walk_at "rd1"))
local macro_rules | `(tactic| walk_at "zs") => `(tactic| (refine' Sp.zsStart (by assumption) ?_; repeat (first | refine' Sp.zsNil ?_ | (refine' Sp.zsInt ?_; intro _) | (refine' Sp.zsRat ?_; intro _) | (refine' Sp.zsStep ?_; intro _ _) | (refine' Sp.zsStem ?_; intro _ _) | (refine' Sp.zsTable ?_; intro _ _ _ _) | (refine' Sp.zsAny ?_; intro _ _))))
local macro_rules | `(tactic| walk_at "go0") => `(tactic| (walk_at "zs"; (have := Sp.Env.of (K := ‹PySem.W.Frag›) ‹L2.Hp›); walk_at "args"))
local macro_rules | `(tactic| walk_at "go") => `(tactic| (walk_at "go0"; walk_at "rd"))
local macro_rules | `(tactic| walk_at "goI0") => `(tactic| (walk_at "zs"; (have := Sp.Env.ofI (K := ‹PySem.W.Frag›) (H := ‹L2.Hp›) (by assumption)); walk_at "args"))
local macro_rules | `(tactic| walk_at "goI") => `(tactic| (walk_at "goI0"; walk_at "rd"))
local macro_rules | `(tactic| walk_at "goL") => `(tactic| (walk_at "zs"; walk_at "args"; walk_at "rd"))
local macro_rules | `(tactic| walk_at "rel") => `(tactic| first
  | (apply Sp.RIsInt.mk <;> walk_at "sc")
  | (apply Sp.RIsRat.mk <;> walk_at "sc")
  | (apply Sp.RSign.mk <;> walk_at "sc")
  | (apply Sp.RInitR.one <;> walk_at "sc")
  | (apply Sp.RInitR.ok <;> walk_at "sc")
  | (apply Sp.RInitR.z <;> walk_at "sc")
  | (apply Sp.RInitR.t <;> walk_at "sc")
  | (apply Sp.RInitR.b <;> walk_at "sc")
  | (apply Sp.ROf.r <;> walk_at "sc")
  | (apply Sp.ROf.i <;> walk_at "sc")
  | (apply Sp.ROf.n <;> walk_at "sc")
  | (apply Sp.RBinR.r <;> walk_at "sc")
  | (apply Sp.RBinR.i <;> walk_at "sc")
  | (apply Sp.RBinR.n <;> walk_at "sc")
  | (apply Sp.ROver.r <;> walk_at "sc")
  | (apply Sp.ROver.i <;> walk_at "sc")
  | (apply Sp.ROver.z <;> walk_at "sc")
  | (apply Sp.ROver.zi <;> walk_at "sc")
  | (apply Sp.ROver.n <;> walk_at "sc")
  | (apply Sp.RCmp.r <;> walk_at "sc")
  | (apply Sp.RCmp.i <;> walk_at "sc")
  | (apply Sp.RCmp.n <;> walk_at "sc")
  | (apply Sp.RBelow.r <;> walk_at "sc")
  | (apply Sp.RBelow.i <;> walk_at "sc")
  | (apply Sp.RBelow.n <;> walk_at "sc")
  | (apply Sp.RUnR.mk <;> walk_at "sc")
  | (apply Sp.REqR.r <;> walk_at "sc")
  | (apply Sp.REqR.i <;> walk_at "sc")
  | (apply Sp.REqR.n <;> walk_at "sc")
  | (apply Sp.RPropR.mk <;> walk_at "sc")
  | (apply Sp.RInitS.ok <;> walk_at "sc")
  | (apply Sp.RInitS.z <;> walk_at "sc")
  | (apply Sp.RInitS.s <;> walk_at "sc")
  | (apply Sp.RInitS.r <;> walk_at "sc")
  | (apply Sp.RNeed.ok <;> walk_at "sc")
  | (apply Sp.RNeed.no <;> walk_at "sc")
  | (apply Sp.RNeedK.ok <;> walk_at "sc")
  | (apply Sp.RNeedK.z <;> walk_at "sc")
  | (apply Sp.RCross.ok <;> walk_at "sc")
  | (apply Sp.RCross.one <;> walk_at "sc")
  | (apply Sp.RCross.oth <;> walk_at "sc")
  | (apply Sp.RAreN.ok <;> walk_at "sc")
  | (apply Sp.RAreN.one <;> walk_at "sc")
  | (apply Sp.RAreN.oth <;> walk_at "sc")
  | (apply Sp.RNeedN.ok <;> walk_at "sc")
  | (apply Sp.RNeedN.no <;> walk_at "sc")
  | (apply Sp.RNeedN.one <;> walk_at "sc")
  | (apply Sp.RNeedN.oth <;> walk_at "sc")
  | (apply Sp.RBetween.ok <;> walk_at "sc")
  | (apply Sp.RBetween.no <;> walk_at "sc")
  | (apply Sp.RBetween.one <;> walk_at "sc")
  | (apply Sp.RBetween.oth <;> walk_at "sc")
  | (apply Sp.RSummed.ok <;> walk_at "sc")
  | (apply Sp.RSummed.z <;> walk_at "sc")
  | (apply Sp.RBinS.ok <;> walk_at "sc")
  | (apply Sp.RBinS.z <;> walk_at "sc")
  | (apply Sp.RBinS.n <;> walk_at "sc")
  | (apply Sp.RMulS.ok <;> walk_at "sc")
  | (apply Sp.RMulS.z <;> walk_at "sc")
  | (apply Sp.RMulS.n <;> walk_at "sc")
  | (apply Sp.RNegS.mk <;> walk_at "sc")
  | (apply Sp.REqS.s <;> walk_at "sc")
  | (apply Sp.REqS.n <;> walk_at "sc")
  | (apply Sp.RIsUp.mk <;> walk_at "sc")
  | (apply Sp.ROneR.mk <;> walk_at "sc")
  | (apply Sp.RCorner.ok <;> walk_at "sc")
  | (apply Sp.RCorner.z <;> walk_at "sc")
  | (apply Sp.RUpw_up <;> walk_at "sc")
  | (apply Sp.RUpw_dn <;> walk_at "sc")
  | (apply Sp.RStrS.mk <;> walk_at "sc")
  | (apply Sp.RTold.ok <;> walk_at "sc")
  | (apply Sp.RTold.no <;> walk_at "sc")
  | (apply Sp.RComm.mk <;> walk_at "sc")
  | (apply Sp.RNear.mk <;> walk_at "sc")
  | (apply Sp.ROne.mk <;> walk_at "sc")
  | (apply Sp.RTwo.mk <;> walk_at "sc")
  | fail)
local macro_rules | `(tactic| walk_at "nf") => `(tactic| first | exact (‹∀ t ∈ Sp.tsL, PySem.W.notFirst ‹PySem.W.Frag› (Sp.ca ‹PySem.W.Frag› Sp.Cn.Step) (Sp.tv ‹PySem.W.Frag› t) = true›) (Sp.Ty0.own Sp.Cn.Step) (by decide) | exact (‹∀ t ∈ Sp.tsL, PySem.W.notFirst ‹PySem.W.Frag› (Sp.ca ‹PySem.W.Frag› Sp.Cn.Step) (Sp.tv ‹PySem.W.Frag› t) = true›) Sp.Ty0.tuple (by decide) | fail)
local macro_rules | `(tactic| walk_at "pre") => `(tactic| first | rfl | exact ⟨_, _, rfl, by assumption⟩)
namespace Sp
open PySem PySem.Spec PyProof.Rows L2
open PySem.W (Frag)
section
variable {P : Program} {w : World} {K : PySem.W.Frag} {mg : Str → Option Value} {base : Heap} {f : Addr} {fd : FuncData} {T : List (Addr × Str)}
variable (h_gcd : mg "gcd" = some (.builtin "math.gcd")) {tk1 tk2 : Tok} (h_most : mg "MOST_DIGITS" = some (.int 60 tk1)) (h_digits : mg "DIGITS" = some (.str "0123456789" tk2)) (h_all : mg "all" = none)
variable (g_xBadRatio : GXN P w K mg base 1 "BadRatio" ["part"] (cX K "BadRatio"))
  (g_xBadStep : GXN P w K mg base 1 "BadStep" ["part"] (cX K "BadStep"))
  (g_xBadNumber : GXN P w K mg base 1 "BadNumber" ["part"] (cX K "BadNumber"))
  (g_xRound : GXN P w K mg base 1 "Round" ["part"] (cX K "Round"))
  (g_xNotNeighbours : GXN P w K mg base 1 "NotNeighbours" ["one", "other"] (cX K "NotNeighbours"))
  (g_xCommon : GXN P w K mg base 1 "Common" ["divisor"] (cX K "Common"))
  (g_xBadText : GXN P w K mg base 1 "BadText" ["line", "word"] (cX K "BadText"))
  (g_is_integer : GD P w K mg base (L2.CX P w) 1 "is_integer" ["value"] [] (spR K csL tsL 3900 RIsInt))
  (g_is_ratio : GD P w K mg base (L2.CX P w) 2 "is_ratio" ["value"] [] (spR K csL tsL 3900 RIsRat))
  (g_sign_of : GD P w K mg base (L2.CX P w) 1 "sign_of" ["number"] [] (spR K csL tsL 100000 RSign))
  (g_mRatio : GM P w K mg base (L2.CX P w) 3 "Ratio" (ca K .Ratio) ["self", "top", "bottom"] [] (spRI K csL tsL .Ratio 3900 RInitR)) (g_mRatio1 : GM P w K mg base (L2.CX P w) 3 "Ratio" (ca K .Ratio) ["self", "top", "bottom"] [.int 1] (spRI K csL tsL .Ratio 3900 RInitR))
  (g_Ratio_of : GS P w K mg base (L2.CX P w) 5 (ca K .Ratio) "of" (spR K csL tsL 3900 (ROf "BadRatio" "value")))
  (g_at_right : GD P w K mg base (L2.CX P w) 6 "at_right" ["value"] [] (spR K csL tsL 3900 (ROf "BadRatio" "other")))
  (g_Ratio_Add : GO P w K mg base (L2.CX P w) 7 (ca K .Ratio) .Add (spR K csL tsL 1900 (RBinR (· + ·))))
  (g_Ratio_Sub : GO P w K mg base (L2.CX P w) 7 (ca K .Ratio) .Sub (spR K csL tsL 1900 (RBinR (· - ·))))
  (g_Ratio_Mult : GO P w K mg base (L2.CX P w) 7 (ca K .Ratio) .Mult (spR K csL tsL 1900 (RBinR (· * ·))))
  (g_Ratio_over : GH P w K mg base (L2.CX P w) 7 (ca K .Ratio) "over" ["self", "other"] (spR K csL tsL 1900 ROver))
  (g_Ratio_USub : GN P w K mg base (L2.CX P w) 5 (ca K .Ratio) "__neg__" (spR K csL tsL 3900 (RUnR (fun q => -q))))
  (g_Ratio_abs : GN P w K mg base (L2.CX P w) 5 (ca K .Ratio) "__abs__" (spR K csL tsL 3900 (RUnR qabs)))
  (g_Ratio_eq : GN P w K mg base (L2.CX P w) 2 (ca K .Ratio) "__eq__" (spR K csL tsL 3900 REqR)) (g_Ratio_eq_ne : GNe P w K mg base (L2.CX P w) 2 (ca K .Ratio) (spR K csL tsL 3900 REqR)) (nf_Ratio : ∀ t ∈ tsL, PySem.W.notFirst K (ca K .Ratio) (tv K t) = true)
  (g_Ratio_sign : GP P w K mg base (L2.CX P w) 2 (ca K .Ratio) "sign" (spR K csL tsL 3900 (RPropR fun q => .int q.num.sign)))
  (g_Ratio_below : GP P w K mg base (L2.CX P w) 1 (ca K .Ratio) "below" (spR K csL tsL 3900 (RPropR fun q => .int q.floor)))
  (g_mStep : GM P w K mg base (L2.CX P w) 3 "Step" (ca K .Step) ["self", "studs", "rounds"] [] (spRI K csL tsL .Step 3900 RInitS))
  (g_need_step : GD P w K mg base (L2.CX P w) 3 "need_step" ["value", "part"] [] (spR K csL tsL 100000 (RNeed .Step "BadStep")))
  (g_need_studs : GD P w K mg base (L2.CX P w) 3 "need_studs" ["step", "part"] [] (spR K csL tsL 100000 RNeedK))
  (g_is_upward : GD P w K mg base (L2.CX P w) 1 "is_upward" ["step"] [] (spR K csL tsL 3900 RIsUp))
  (g_summed : GD P w K mg base (L2.CX P w) 5 "summed" ["studs", "rounds"] [] (spR K csL tsL 3900 RSummed))
  (g_Step_Add : GO P w K mg base (L2.CX P w) 6 (ca K .Step) .Add (spR K csL tsL 1900 (RBinS (· + ·))))
  (g_Step_Sub : GO P w K mg base (L2.CX P w) 6 (ca K .Step) .Sub (spR K csL tsL 1900 (RBinS (· - ·))))
  (g_Step_USub : GN P w K mg base (L2.CX P w) 5 (ca K .Step) "__neg__" (spR K csL tsL 3900 RNegS))
  (g_Step_Mult : GO P w K mg base (L2.CX P w) 5 (ca K .Step) .Mult (spR K csL tsL 1900 RMulS))
  (g_Step_eq : GN P w K mg base (L2.CX P w) 1 (ca K .Step) "__eq__" (spR K csL tsL 3900 REqS)) (g_Step_eq_ne : GNe P w K mg base (L2.CX P w) 1 (ca K .Step) (spR K csL tsL 3900 REqS)) (nf_Step : ∀ t ∈ tsL, PySem.W.notFirst K (ca K .Step) (tv K t) = true)
  (g_Step_upward : GP P w K mg base (L2.CX P w) 5 (ca K .Step) "upward" (spR K csL tsL 3900 RUpw))
  (g_Step_corner : GP P w K mg base (L2.CX P w) 5 (ca K .Step) "corner" (spR K csL tsL 3900 RCorner))
  (g_Step_one_round : GS0 P w K mg base (L2.CX P w) 5 (ca K .Step) "one_round" (spR K csL tsL 3900 ROneR))
  (g_cross : GD P w K mg base (L2.CX P w) 4 "cross" ["one", "other"] [] (spR K csL tsL 1900 RCross))
  (g_are_neighbours : GD P w K mg base (L2.CX P w) 5 "are_neighbours" ["one", "other"] [] (spR K csL tsL 1900 RAreN))
  (g_need_neighbours : GD P w K mg base (L2.CX P w) 6 "need_neighbours" ["one", "other"] [] (spR K csL tsL 1900 RNeedN))
  (g_between : GD P w K mg base (L2.CX P w) 7 "between" ["one", "other"] [] (spR K csL tsL 1900 RBetween))
  (g_integer_of : GD P w K mg base (L2.CX P w) 1 "integer_of" ["word"] [] (spR K csL tsL 100000 RIntOf))
  (g_mWords : GM P w K mg base (L2.CX P w) 1 "Words" (ca K .Words) ["self", "words", "done", "last"] [] (spInitW K))
  (g_Words_is_over : GH P w K mg base (L2.CX P w) 1 (ca K .Words) "is_over" ["self"] (spWp K RIsOver))
  (g_Words_take : GH P w K mg base (L2.CX P w) 3 (ca K .Words) "take" ["self"] (spW K RTake))
  (g_Words_refuse : GH P w K mg base (L2.CX P w) 3 (ca K .Words) "refuse" ["self"] (spW K RRefuse))
  (g_Words_integer : GH P w K mg base (L2.CX P w) 4 (ca K .Words) "integer" ["self"] (spW K RInteg))
  (g_Words_end : GH P w K mg base (L2.CX P w) 3 (ca K .Words) "end" ["self"] (spWp K REndW))
  (g_words_in : GD P w K mg base (L2.CX P w) 3 "words_in" ["text"] [] (spWords K csL tsL))
  (g_take_step : GD P w K mg base (L2.CX P w) 5 "take_step" ["words"] [] (spW K RTakeS))
  (g_read_whole : GD P w K mg base (L2.CX P w) 6 "read_whole" ["text", "take"] [] (spReadW K csL tsL (He.ga K "take_step") RTakeS))
  (g_Step_read : GC P w K mg base (L2.CX P w) 7 (ca K .Step) "read" (spReadC K csL tsL RTakeS))
  (g_Step_str : GN P w K mg base (L2.CX P w) 1 (ca K .Step) "__str__" (spR K csL tsL 3900 RStrS))
  (g_inverse : GD P w K mg base (L2.CX P w) 1 "inverse" ["number", "modulus"] [] (spInv K))
  (g_mate : GD P w K mg base (L2.CX P w) 5 "mate" ["step"] [] (spMate K csL tsL))
  (g_l_pail : GD P w K mg base (L2.CX P w) 1 "_law_pail" ["_law_script"] [] (spPail K))
  (g_l_dip : GD P w K mg base (L2.CX P w) 1 "_law_dip" ["_law_pail_here", "_law_many"] [] spDip)
  (g_l_number : GD P w K mg base (L2.CX P w) 2 "_law_number" ["_law_pail_here", "_law_many"] [] (spLP K csL tsL T 60 900000 3 (fun ds => ds = [.int 30]) (fun _ d => ∃ i : Int, d = .int i ∧ i.natAbs < 2 ^ 46)))
  (g_l_pair : GD P w K mg base (L2.CX P w) 3 "_law_pair" ["_law_pail_here"] [] (spLP K csL tsL T 60 800000 20 (fun ds => ds = []) (fun _ d => ∃ k j : Int, d = .tup [.int k, .int j] ∧ Pk 49 k j)))
  (g_l_common : GD P w K mg base (L2.CX P w) 1 "_law_common" ["_law_one", "_law_other"] [] (spR K csL tsL 60 RComm))
  (g_l_told : GD P w K mg base (L2.CX P w) 1 "_law_told" ["_law_step"] [] (spR K csL tsL 100000 RTold))
  (g_l_nearest : GD P w K mg base (L2.CX P w) 1 "_law_nearest" ["_law_pair_here"] [] (spR K csL tsL 60 RNear))
  (g_l_one_right : GD P w K mg base (L2.CX P w) 18 "_law_one_right" ["_law_pair_here"] [] (spL K csL tsL T 60 ROne))
  (g_l_two_right : GD P w K mg base (L2.CX P w) 18 "_law_two_right" ["_law_one", "_law_other"] [] (spL K csL tsL T 60 RTwo))
  (g_l_mate_right : GD P w K mg base (L2.CX P w) 18 "_law_mate_right" ["_law_pair_here"] [] (spL K csL tsL T 60 ROne))
  (g_l_refused_right : GD P w K mg base (L2.CX P w) 18 "_law_refused_right" ["_law_pail_here", "_law_pair_here"] [] (spLP K csL tsL T 60 700000 5 (fun ds => ∃ k j : Int, ds = [.tup [.int k, .int j]] ∧ Pk 52 k j) (fun _ d => d = .bl true)))
  (g_l_text_right : GD P w K mg base (L2.CX P w) 18 "_law_text_right" ["_law_pail_here", "_law_pair_here"] [] (spLP K csL tsL T 60 700000 10 (fun ds => ∃ k j : Int, ds = [.tup [.int k, .int j]] ∧ Pk 52 k j) (fun _ d => d = .bl true)))
variable (g_take_step_l : GL P w K mg base (L2.CX P w) 5 "take_step" (spW K RTakeS))
variable (g_mStep_krs : GMK P w K mg base (L2.CX P w) 3 "Step" (ca K .Step) ["rounds", "studs"] [1, 0] (spRI K csL tsL .Step 3900 RInitS))
  (g_cross_k : GDK P w K mg base (L2.CX P w) 4 "cross" ["other", "one"] 2 [1, 0] (spR K csL tsL 1900 RCross))

structure Odd (d : Dt) : Prop where
  i : d.isI = false
  s : d.is .Step = false
  ok : okT csL tsL d = true
  z : SzD 1 d
  t : d.ty ∈ oddT
theorem sc__law_refused_right : FnScope ["_law_pail_here", "_law_pair_here", "_law_heard_here", "_law_odd", "_law_step", "_law_whole"] ["_law_pail_here", "_law_pair_here"] (defScope (topS 53)) := ⟨rfl, rfl, rfl, by decide +kernel, rfl, by decide +kernel, by decide +kernel⟩
include g_Step_Add g_Step_Mult g_Step_Sub g_are_neighbours g_between g_cross g_l_dip g_mRatio1 g_mStep g_mate nf_Step in
theorem ok__law_refused_right (hRa : ∀ t ∈ oddT, RiT K (ca K .Step) .Add (tv K t)) (hRs : ∀ t ∈ oddT, RiT K (ca K .Step) .Sub (tv K t)) (hRm : ∀ t ∈ oddT, RiT K (ca K .Step) .Mult (tv K t)) (hRr : RiT K (ca K .Step) .Mult (tv K (.own .Ratio))) {c Pt : Addr} (gEr : GE K mg) (gHd : GHd P w K mg base) (hTB : LamX.TabB base mg c Pt) (hmT : (Pt, ("_law_refused_right" : Str) ++ ".<locals>." ++ "<lambda>") ∈ T) (huT : ∀ p ∈ T, p.1 = Pt → p.2 = ("_law_refused_right" : Str) ++ ".<locals>." ++ "<lambda>") (hfc : fd.code = .ref c) (G : G0 K mg csL tsL) (F : FP K "_law_refused_right" "_law_refused_right" (topS 53) [] f fd) : FnOk P w K mg base (L2.CX P w) 18 f fd ["_law_pail_here", "_law_pair_here"] (spLP K csL tsL T 60 700000 5 (fun ds => ∃ k j : Int, ds = [.tup [.int k, .int j]] ∧ Pk 52 k j) (fun _ d => d = .bl true)) := by
  have nd := sc__law_refused_right.nd
  refine okP F hfc sc__law_refused_right (fun ds h => by obtain ⟨_, _, rfl, _⟩ := h; rfl) (fun A outer s H a c' m ds Q E hr z nds pr hm q hE => ⟨_, pss_cons (ps_asg (pe_tupE (pa_cons (pe_ix ix_tup (pe_tupE (pa_cons (pe_non) (pa_cons (pe_bl) (pa_cons (pe_str) (pa_cons (pe_lstD (pa_cons (pe_int) (pa_nil))) (pa_cons (pe_tupE (pa_cons (pe_int) (pa_cons (pe_int) (pa_nil)))) (pa_cons (pe_dnewK) (pa_nil)))))))) (pe_gd g_l_dip (hr.mono (by decide)) rfl (pxE rfl rfl rfl rfl) (pa_cons (pv 0) (pa_cons (pe_int) (pa_nil)))) (fun _ _ => rfl)) (pa_cons (pe_makeD g_mStep (hr.mono (by decide)) rfl (pxE rfl rfl rfl rfl) (pa_cons (pe_ix ix_tup (pv 1) (pe_int) (fun _ _ => rfl)) (pa_cons (pe_ix ix_tup (pv 1) (pe_int) (fun _ _ => rfl)) (pa_nil)))) (pa_nil)))) (pg_tup rfl (pgs_cons (pg_name (i := 3) nd rfl (Or.inr rfl)) (pgs_cons (pg_name (i := 4) nd rfl (Or.inr rfl)) (pgs_nil))))) (pss_cons (ps_set (i := 2) nd rfl (Or.inl rfl) (pe_lstD (pa_cons (pe_heard (X := cxOf (L2.CX P w) P w K mg base _ _ _ f (.ref c) A outer s H E) (k := 14) gHd gEr rfl hTB rfl hmT huT (hr.mono (by decide)) (hr.mono (by decide)) (LamX.lamS_by (sc := defScope (topS 53)) (by decide +kernel)) rfl (fun _ _ _ _ _ => rfl) (fun Al ol sl Hl El fl cl hr => pe_makeD g_mStep (hr.mono (by decide)) rfl (pxE rfl rfl rfl rfl) (pa_cons (pv 3) (pa_cons (pv 3) (pa_nil))))) (pa_cons (pe_heard (X := cxOf (L2.CX P w) P w K mg base _ _ _ f (.ref c) A outer s H E) (k := 14) gHd gEr rfl hTB rfl hmT huT (hr.mono (by decide)) (hr.mono (by decide)) (LamX.lamS_by (sc := defScope (topS 53)) (by decide +kernel)) rfl (fun _ _ _ _ _ => rfl) (fun Al ol sl Hl El fl cl hr => pe_makeD g_mStep (hr.mono (by decide)) rfl (pxE rfl rfl rfl rfl) (pa_cons (pe_int) (pa_cons (pv 3) (pa_nil))))) (pa_cons (pe_heard (X := cxOf (L2.CX P w) P w K mg base _ _ _ f (.ref c) A outer s H E) (k := 14) gHd gEr rfl hTB rfl hmT huT (hr.mono (by decide)) (hr.mono (by decide)) (LamX.lamS_by (sc := defScope (topS 53)) (by decide +kernel)) rfl (fun _ _ _ _ _ => rfl) (fun Al ol sl Hl El fl cl hr => pe_makeD g_mStep (hr.mono (by decide)) rfl (pxE rfl rfl rfl rfl) (pa_cons (pe_int) (pa_cons (pe_int) (pa_nil))))) (pa_nil)))))) (pss_cons (ps_if (pt_cmpR (op_neD hr.units) (pv 2) (pe_lstD (pa_cons (pe_tupE (pa_cons (pe_str) (pa_cons (pe_str) (pa_nil)))) (pa_cons (pe_tupE (pa_cons (pe_str) (pa_cons (pe_str) (pa_nil)))) (pa_cons (pe_tupE (pa_cons (pe_str) (pa_cons (pe_str) (pa_nil)))) (pa_nil))))) (nomark _)) (pss_one (ps_ret (pe_bl))) (pss_nil)) (pss_cons (ps_set (i := 2) nd rfl (Or.inl rfl) (pe_lstD (pa_cons (pe_heard (X := cxOf (L2.CX P w) P w K mg base _ _ _ f (.ref c) A outer s H E) (k := 14) gHd gEr rfl hTB rfl hmT huT (hr.mono (by decide)) (hr.mono (by decide)) (LamX.lamS_by (sc := defScope (topS 53)) (by decide +kernel)) rfl (fun _ _ _ _ _ => rfl) (fun Al ol sl Hl El fl cl hr => pe_op (op_goXK (X := LamX.lamCx (cxOf (L2.CX P w) P w K mg base _ _ _ f (.ref c) A outer s H E) Al ol sl Hl El _ fl cl) K rfl g_Step_Add (hr.mono (by decide)) (pxE rfl rfl rfl rfl)) (pv 4) (pv 3))) (pa_cons (pe_heard (X := cxOf (L2.CX P w) P w K mg base _ _ _ f (.ref c) A outer s H E) (k := 14) gHd gEr rfl hTB rfl hmT huT (hr.mono (by decide)) (hr.mono (by decide)) (LamX.lamS_by (sc := defScope (topS 53)) (by decide +kernel)) rfl (fun _ _ _ _ _ => rfl) (fun Al ol sl Hl El fl cl hr => pe_op (op_goXK (X := LamX.lamCx (cxOf (L2.CX P w) P w K mg base _ _ _ f (.ref c) A outer s H E) Al ol sl Hl El _ fl cl) K rfl g_Step_Sub (hr.mono (by decide)) (pxE rfl rfl rfl rfl)) (pv 4) (pv 3))) (pa_cons (pe_heard (X := cxOf (L2.CX P w) P w K mg base _ _ _ f (.ref c) A outer s H E) (k := 14) gHd gEr rfl hTB rfl hmT huT (hr.mono (by decide)) (hr.mono (by decide)) (LamX.lamS_by (sc := defScope (topS 53)) (by decide +kernel)) rfl (fun _ _ _ _ _ => rfl) (fun Al ol sl Hl El fl cl hr => pe_op (op_goXK (X := LamX.lamCx (cxOf (L2.CX P w) P w K mg base _ _ _ f (.ref c) A outer s H E) Al ol sl Hl El _ fl cl) K rfl g_Step_Mult (hr.mono (by decide)) (pxE rfl rfl rfl rfl)) (pv 4) (pv 3))) (pa_cons (pe_heard (X := cxOf (L2.CX P w) P w K mg base _ _ _ f (.ref c) A outer s H E) (k := 14) gHd gEr rfl hTB rfl hmT huT (hr.mono (by decide)) (hr.mono (by decide)) (LamX.lamS_by (sc := defScope (topS 53)) (by decide +kernel)) rfl (fun _ _ _ _ _ => rfl) (fun Al ol sl Hl El fl cl hr => pe_op (op_go g_Step_Mult (hr.mono (by decide)) (pxE rfl rfl rfl rfl)) (pv 4) (pe_int))) (pa_nil))))))) (pss_cons (ps_if (pt_cmpR (op_neD hr.units) (pv 2) (pe_lstD (pa_cons (pe_tupE (pa_cons (pe_str) (pa_cons (pe_str) (pa_nil)))) (pa_cons (pe_tupE (pa_cons (pe_str) (pa_cons (pe_str) (pa_nil)))) (pa_cons (pe_tupE (pa_cons (pe_str) (pa_cons (pe_str) (pa_nil)))) (pa_cons (pe_tupE (pa_cons (pe_str) (pa_cons (pe_str) (pa_nil)))) (pa_nil)))))) (nomark _)) (pss_one (ps_ret (pe_bl))) (pss_nil)) (pss_cons (ps_set (i := 5) nd rfl (Or.inr rfl) (pe_makeD g_mRatio1 (hr.mono (by decide)) rfl (pxE rfl rfl rfl rfl) (pa_cons (pe_op op_add (pe_int) (pe_callB call_abs rfl G.nm.abs (by decide +kernel) (pa_cons (pe_ix ix_tup (pv 1) (pe_int) (fun _ _ => rfl)) (pa_nil)))) (pa_nil)))) (pss_cons (ps_set (i := 2) nd rfl (Or.inl rfl) (pe_lstD (pa_cons (pe_heard (X := cxOf (L2.CX P w) P w K mg base _ _ _ f (.ref c) A outer s H E) (k := 14) gHd gEr rfl hTB rfl hmT huT (hr.mono (by decide)) (hr.mono (by decide)) (LamX.lamS_by (sc := defScope (topS 53)) (by decide +kernel)) rfl (fun _ _ _ _ _ => rfl) (fun Al ol sl Hl El fl cl hr => pe_op (op_goXK (X := LamX.lamCx (cxOf (L2.CX P w) P w K mg base _ _ _ f (.ref c) A outer s H E) Al ol sl Hl El _ fl cl) K rfl g_Step_Mult (hr.mono (by decide)) (pxE rfl rfl rfl rfl)) (pv 4) (pv 5))) (pa_cons (pe_heard (X := cxOf (L2.CX P w) P w K mg base _ _ _ f (.ref c) A outer s H E) (k := 14) gHd gEr rfl hTB rfl hmT huT (hr.mono (by decide)) (hr.mono (by decide)) (LamX.lamS_by (sc := defScope (topS 53)) (by decide +kernel)) rfl (fun _ _ _ _ _ => rfl) (fun Al ol sl Hl El fl cl hr => pe_makeD g_mStep (hr.mono (by decide)) rfl (pxE rfl rfl rfl rfl) (pa_cons (pv 5) (pa_cons (pe_int) (pa_nil))))) (pa_cons (pe_heard (X := cxOf (L2.CX P w) P w K mg base _ _ _ f (.ref c) A outer s H E) (k := 14) gHd gEr rfl hTB rfl hmT huT (hr.mono (by decide)) (hr.mono (by decide)) (LamX.lamS_by (sc := defScope (topS 53)) (by decide +kernel)) rfl (fun _ _ _ _ _ => rfl) (fun Al ol sl Hl El fl cl hr => pe_makeD g_mStep (hr.mono (by decide)) rfl (pxE rfl rfl rfl rfl) (pa_cons (pe_int) (pa_cons (pv 5) (pa_nil))))) (pa_nil)))))) (pss_cons (ps_if (pt_cmpR (op_neD hr.units) (pv 2) (pe_lstD (pa_cons (pe_tupE (pa_cons (pe_str) (pa_cons (pe_str) (pa_nil)))) (pa_cons (pe_tupE (pa_cons (pe_str) (pa_cons (pe_str) (pa_nil)))) (pa_cons (pe_tupE (pa_cons (pe_str) (pa_cons (pe_str) (pa_nil)))) (pa_nil))))) (nomark _)) (pss_one (ps_ret (pe_bl))) (pss_nil)) (pss_cons (ps_set (i := 2) nd rfl (Or.inl rfl) (pe_lstD (pa_cons (pe_heard (X := cxOf (L2.CX P w) P w K mg base _ _ _ f (.ref c) A outer s H E) (k := 14) gHd gEr rfl hTB rfl hmT huT (hr.mono (by decide)) (hr.mono (by decide)) (LamX.lamS_by (sc := defScope (topS 53)) (by decide +kernel)) rfl (fun _ _ _ _ _ => rfl) (fun Al ol sl Hl El fl cl hr => pe_gd g_cross (hr.mono (by decide)) rfl (pxE rfl rfl rfl rfl) (pa_cons (pv 3) (pa_cons (pv 3) (pa_nil))))) (pa_cons (pe_heard (X := cxOf (L2.CX P w) P w K mg base _ _ _ f (.ref c) A outer s H E) (k := 14) gHd gEr rfl hTB rfl hmT huT (hr.mono (by decide)) (hr.mono (by decide)) (LamX.lamS_by (sc := defScope (topS 53)) (by decide +kernel)) rfl (fun _ _ _ _ _ => rfl) (fun Al ol sl Hl El fl cl hr => pe_gd g_cross (hr.mono (by decide)) rfl (pxE rfl rfl rfl rfl) (pa_cons (pv 4) (pa_cons (pv 3) (pa_nil))))) (pa_cons (pe_heard (X := cxOf (L2.CX P w) P w K mg base _ _ _ f (.ref c) A outer s H E) (k := 14) gHd gEr rfl hTB rfl hmT huT (hr.mono (by decide)) (hr.mono (by decide)) (LamX.lamS_by (sc := defScope (topS 53)) (by decide +kernel)) rfl (fun _ _ _ _ _ => rfl) (fun Al ol sl Hl El fl cl hr => pe_gd g_are_neighbours (hr.mono (by decide)) rfl (pxE rfl rfl rfl rfl) (pa_cons (pv 3) (pa_cons (pv 4) (pa_nil))))) (pa_nil)))))) (pss_cons (ps_if (pt_cmpR (op_neD hr.units) (pv 2) (pe_lstD (pa_cons (pe_tupE (pa_cons (pe_str) (pa_cons (pe_str) (pa_nil)))) (pa_cons (pe_tupE (pa_cons (pe_str) (pa_cons (pe_str) (pa_nil)))) (pa_cons (pe_tupE (pa_cons (pe_str) (pa_cons (pe_str) (pa_nil)))) (pa_nil))))) (nomark _)) (pss_one (ps_ret (pe_bl))) (pss_nil)) (pss_cons (ps_set (i := 2) nd rfl (Or.inl rfl) (pe_lstD (pa_cons (pe_heard (X := cxOf (L2.CX P w) P w K mg base _ _ _ f (.ref c) A outer s H E) (k := 14) gHd gEr rfl hTB rfl hmT huT (hr.mono (by decide)) (hr.mono (by decide)) (LamX.lamS_by (sc := defScope (topS 53)) (by decide +kernel)) rfl (fun _ _ _ _ _ => rfl) (fun Al ol sl Hl El fl cl hr => pe_gd g_mate (hr.mono (by decide)) rfl (pxE rfl rfl rfl rfl) (pa_cons (pv 3) (pa_nil)))) (pa_cons (pe_heard (X := cxOf (L2.CX P w) P w K mg base _ _ _ f (.ref c) A outer s H E) (k := 14) gHd gEr rfl hTB rfl hmT huT (hr.mono (by decide)) (hr.mono (by decide)) (LamX.lamS_by (sc := defScope (topS 53)) (by decide +kernel)) rfl (fun _ _ _ _ _ => rfl) (fun Al ol sl Hl El fl cl hr => pe_gd g_between (hr.mono (by decide)) rfl (pxE rfl rfl rfl rfl) (pa_cons (pv 3) (pa_cons (pv 3) (pa_nil))))) (pa_cons (pe_heard (X := cxOf (L2.CX P w) P w K mg base _ _ _ f (.ref c) A outer s H E) (k := 14) gHd gEr rfl hTB rfl hmT huT (hr.mono (by decide)) (hr.mono (by decide)) (LamX.lamS_by (sc := defScope (topS 53)) (by decide +kernel)) rfl (fun _ _ _ _ _ => rfl) (fun Al ol sl Hl El fl cl hr => pe_gd g_between (hr.mono (by decide)) rfl (pxE rfl rfl rfl rfl) (pa_cons (pv 4) (pa_cons (pv 3) (pa_nil))))) (pa_nil)))))) (pss_one (ps_ret (pe_cmpR (op_eqD hr.units) (pv 2) (pe_lstD (pa_cons (pe_tupE (pa_cons (pe_str) (pa_cons (pe_str) (pa_nil)))) (pa_cons (pe_tupE (pa_cons (pe_str) (pa_cons (pe_str) (pa_nil)))) (pa_cons (pe_tupE (pa_cons (pe_str) (pa_cons (pe_str) (pa_nil)))) (pa_nil))))) (nomark _)))))))))))))), ?_⟩)
  obtain ⟨k, j, rfl, p⟩ := pr
  have bk : Bi k 52 := ⟨p.k⟩
  have bj : Bi j 52 := ⟨p.j⟩
  have nz := p.nz
  walk_at "goL"
  rename_i d H1 d0 d1 e1
  refine ixTAny (e1.get (by walk_at "mem")) d0 (by show d < 6; omega) fun v od hm iv => ?_
  have hod : Odd od := by
    simp only [List.mem_cons, List.not_mem_nil, or_false] at hm
    rcases hm with rfl | rfl | rfl | rfl | rfl | rfl
    all_goals exact ⟨rfl, rfl, rfl, trivial, by decide⟩
  have e2 := e1.add iv
  have oi := hod.i
  have os := hod.s
  have oo := hod.ok
  have oz := hod.z
  have ra := hRa _ hod.t
  have rs := hRs _ hod.t
  have rm := hRm _ hod.t
  clear hRa hRs hRm e1 hm hod
  walk_at "rd"
  refine finP q (by assumption) (by omega) ?_ (.bl _)
  exact congrArg Dt.bl (eqr (by walk_at "shp"))
end
end Sp
end
section
set_option Elab.async false
set_option linter.all false
set_option exponentiation.threshold 5000
set_option maxRecDepth 100000
set_option maxHeartbeats 0
local macro_rules | `(tactic| walk_at "mem") => `(tactic| first | exact List.mem_cons_self | (refine List.mem_cons_of_mem _ ?_; walk_at "mem"))
local macro_rules | `(tactic| walk_at "isv") => `(tactic| first | exact Sp.IsV.int _ | exact Sp.IsV.str _ | exact Sp.IsV.bl _ | exact Sp.IsV.non | exact Sp.Env.get (by assumption) (by walk_at "mem") | assumption)
local macro_rules | `(tactic| walk_at "isvs") => `(tactic| first | exact Sp.IsVs.nil | (refine' Sp.IsVs.cons ?iv ?rs; (case iv => walk_at "isv"); (case rs => walk_at "isvs")))
local macro_rules | `(tactic| walk_at "isfs") => `(tactic| first | exact Sp.IsFs.nil | (refine' Sp.IsFs.cons ?iv ?rs; (case iv => walk_at "isv"); (case rs => walk_at "isfs")))
local macro_rules | `(tactic| walk_at "sz1") => `(tactic| first | exact trivial | exact Sp.biI _ | exact Sp.bqI _ | exact ⟨Sp.biI _, Sp.biI _⟩ | exact ⟨Sp.bqI _, Sp.bqI _⟩ | exact ⟨⟨Sp.biI _, Sp.biI _⟩, Sp.biI _, Sp.biI _⟩ | exact ⟨Sp.bqI _, Sp.bqI _, Sp.bqI _⟩ | assumption | exact Sp.SzD.mono (by assumption) (by decide))
local macro_rules | `(tactic| walk_at "okt") => `(tactic| first | rfl | assumption | decide)
local macro_rules | `(tactic| walk_at "dsok") => `(tactic| first | exact trivial | (refine And.intro (And.intro ?oa ?ob) ?rs; (case oa => walk_at "okt"); (case ob => walk_at "sz1"); (case rs => walk_at "dsok")))
local macro_rules | `(tactic| walk_at "sc") => `(tactic| first | rfl | assumption | decide | omega)
local macro_rules | `(tactic| walk_at "leaf") => `(tactic| first | rfl | assumption | exact True.intro | exact ⟨_, rfl⟩ | exact L2.upd_same | exact L2.ClsV.ty _ | exact L2.ClsV.own _ | decide | exact of_decide_eq_true rfl | exact Sp.cmI _ _ | exact Sp.cdI _ (by first | assumption | omega) | exact Sp.cmL (by decide) | exact Sp.cmR (by decide) | exact ⟨by decide, by decide, by decide⟩ | exact ⟨by decide, by decide⟩ | omega | fail)
local macro_rules | `(tactic| walk_at "cls") => `(tactic| first | exact Sp.ClsD.int | exact Sp.ClsD.bool | exact Sp.ClsD.str | exact Sp.ClsD.own _ | exact Sp.ClsD.tuple | exact Sp.ClsD.list)
local macro_rules | `(tactic| walk_at "args") => `(tactic| repeat (first
  | refine' Sp.aaInt ?_ | refine' Sp.aaBl ?_ | refine' Sp.aaStr ?_ | refine' Sp.aaNon ?_ | (refine' Sp.aaOwn (by assumption) (by rfl) ?_; intro _ _) | (refine' Sp.aaTup (by assumption) ?_; intro _ _) | (refine' Sp.aaAny (by assumption) ?_; intro _ _) | refine' Sp.aaNil ?_))
local macro_rules | `(tactic| walk_at "shp") => `(tactic| first | rfl | decide +kernel | (simp [PySem.SeqAt.shaped, PySem.PyData.canLay0, PySem.PyData.canLayAll0, PySem.PyData.depth, PySem.PyData.depthAll] <;> decide +kernel))
local macro_rules | `(tactic| walk_at "rd1") => `(tactic| first
  | apply Sp.exI
  | (refine And.intro ?lf ?_; (case lf => walk_at "leaf"))
  | (show @ite Prop (_ = true) _ _ _; first | refine' Sp.iteT (by first | assumption | rfl | exact Sp.nbT (by assumption) | exact Sp.nbF (by assumption)) ?_ | refine' Sp.iteF (by first | assumption | rfl | exact Sp.nbT (by assumption) | exact Sp.nbF (by assumption) | exact Sp.nbF (Sp.eqr (by walk_at "shp"))) ?_)
  | (refine' Sp.afInt (by assumption) ?_; intro _ _) | (refine' Sp.afBl (by assumption) ?_; intro _ _) | (refine' Sp.afStr (by assumption) ?_; intro _ _) | (refine' Sp.afNon (by assumption) ?_; intro _ _)
  | (refine' Sp.afOwn (by assumption) (by rfl) ?_; intro _ _ _) | (refine' Sp.afTup (by assumption) ?_; intro _ _ _) | (refine' Sp.afRef (by assumption) ?_; intro _ _ _)
  | refine' Sp.asInt ?_ | refine' Sp.asBl ?_ | refine' Sp.asStr ?_ | refine' Sp.asNon ?_
  | (refine' Sp.asOwn (by assumption) (by rfl) ?_; intro _ _) | (refine' Sp.asTup (by assumption) ?_; intro _ _) | (refine' Sp.asRef (by assumption) ?_; intro _ _)
  | refine' Sp.aaInt ?_ | refine' Sp.aaBl ?_ | refine' Sp.aaStr ?_ | refine' Sp.aaNon ?_ | (refine' Sp.aaOwn (by assumption) (by rfl) ?_; intro _ _) | (refine' Sp.aaTup (by assumption) ?_; intro _ _) | (refine' Sp.aaAny (by assumption) ?_; intro _ _) | refine' Sp.aaNil ?_
  | (refine' Sp.fnR ?i ?z ?r ?_; (case i => walk_at "isvs"); (case z => walk_at "dsok"); (case r => walk_at "rel"))
  | (refine' Sp.makeOk ?i ?z ?r ?o ?_; (case i => walk_at "isvs"); (case z => walk_at "dsok"); (case r => walk_at "rel"); (case o => rfl))
  | (refine' Sp.makeEr ?i ?z ?r ?_; (case i => walk_at "isvs"); (case z => walk_at "dsok"); (case r => walk_at "rel"))
  | (refine' Sp.isiD (by assumption) ?i ?c ?o ?t ?_; (case i => walk_at "isv"); (case c => walk_at "cls"); (case o => walk_at "okt"); (case t => decide))
  | (refine' Sp.fldD (by assumption) ?i ?o ?l ?c ?_; (case i => walk_at "isv"); (case o => rfl); (case l => rfl); (case c => decide))
  | (refine' Sp.fldRaw (by assumption) (by assumption) (by rfl) (by decide) (by decide) ?_)
  | (refine' Sp.methRaw (by assumption) (by rfl) ?_)
  | (refine' Sp.setRaw (by assumption) (by assumption) (by rfl) (by decide) (by decide) ?_)
  | (refine' Sp.strD ?i ?o ?_; (case i => walk_at "isv"); (case o => rfl))
  | (refine' Sp.methD ?i ?o ?l ?_; (case i => walk_at "isv"); (case o => rfl); (case l => rfl))
  | (refine' Sp.propD ?i ?o ?_; (case i => walk_at "isv"); (case o => rfl))
  | (refine' Sp.binD ?i ?o ?j ?e ?_; (case i => walk_at "isv"); (case o => rfl); (case j => walk_at "isv"); (case e => rfl))
  | (refine' Sp.unD ?i ?o ?_; (case i => walk_at "isv"); (case o => rfl))
  | (refine' Sp.absD ?i ?o ?_; (case i => walk_at "isv"); (case o => rfl))
  | (refine' Sp.eqOwnD (by assumption) ?i ?o ?j ?e ?n ?_; (case i => walk_at "isv"); (case o => rfl); (case j => walk_at "isv"); (case e => walk_at "okt"); (case n => walk_at "nf"))
  | (refine' Sp.neOwnD (by assumption) ?i ?o ?j ?e ?n ?_; (case i => walk_at "isv"); (case o => rfl); (case j => walk_at "isv"); (case e => walk_at "okt"); (case n => walk_at "nf"))
  | (refine' Sp.tupD (by assumption) ?i ?l ?_; (case i => walk_at "isvs"); (case l => rfl); intro _ _ _)
  | (refine' Sp.lstD (by assumption) ?i ?l ?_; (case i => walk_at "isvs"); (case l => rfl); intro _ _ _)
  | (refine' Sp.raiseD (by assumption) ?i ?e ?l ?_; (case i => walk_at "isvs"); (case e => rfl); (case l => rfl))
  | (refine' Sp.setD (by assumption) (by assumption) rfl rfl rfl (by decide) (by decide) ?_; intro _ _)
  | (refine' Sp.ixTD ?i ?e ?g ?_; (case i => walk_at "isv"); (case e => rfl); (case g => rfl))
  | (refine' Sp.ixLD ?i ?e ?g ?_; (case i => walk_at "isv"); (case e => rfl); (case g => rfl))
  | (refine' Sp.gTupD ?i ?e ?_; (case i => walk_at "isv"); (case e => rfl))
  | refine' Sp.lamR (by assumption) ?_
  | (refine' Sp.finD' (by assumption) (by assumption) ?i; (case i => walk_at "isv"))
  | refine' Sp.finE' (by assumption) (by assumption)
  | refine' Sp.finIE (by assumption) (by assumption) (by assumption)
  | (refine' Sp.dipD (by assumption) (by omega) ?m0 ?m1 ?n ?_; (case m0 => first | decide | omega); (case m1 => first | decide | omega); (case n => rfl); intro _ _ _ _ _)
  | (refine' Sp.lawL (by assumption) ?i ?z ?r ?_; (case i => walk_at "isvs"); (case z => walk_at "dsok"); (case r => walk_at "rel"); intro _ _ _)
  | (refine' Sp.lawP (by assumption) ?i ?z ?nd ?pr (by omega) ?nl ?_; (case i => walk_at "isvs"); (case z => walk_at "dsok"); (case nd => rfl); (case pr => walk_at "pre"); (case nl => rfl))
  | (refine' Sp.dctD (by assumption) ?_; intro _ _ _)
  | (refine' Sp.eqDD ?i ?j ?e ?f ?s ?t ?_; (case i => walk_at "isv"); (case j => walk_at "isv"); (case e => rfl); (case f => rfl); (case s => walk_at "shp"); (case t => walk_at "shp"))
  | (refine' Sp.neDD ?i ?j ?e ?f ?s ?t ?_; (case i => walk_at "isv"); (case j => walk_at "isv"); (case e => rfl); (case f => rfl); (case s => walk_at "shp"); (case t => walk_at "shp"))
  | (refine' Sp.readCO ?i ?ot ?r ?_; (case i => walk_at "isv"); (case ot => walk_at "okt"); (case r => first | assumption | exact Sp.rd_own (by assumption)))
  | (refine' Sp.finLB (by assumption) (by assumption) ?e; (case e => first | rfl | assumption | exact Sp.eqr (by walk_at "shp")))
  | refine' Sp.aeNa (by assumption) ?_
  | (refine' Sp.joinR ?i ?s ?b ?_; (case i => walk_at "isv"); (case s => rfl); (case b => assumption))
  | (refine' Sp.repSD (by assumption) ?_)
  | (refine' Sp.binXD (by assumption) ?i ?o ?j ?z ?T ?_; (case i => walk_at "isv"); (case o => rfl); (case j => walk_at "isv"); (case z => walk_at "okt"); (case T => assumption))
  | (refine' Sp.mateN ?i ?o (by assumption) ?z ?_; (case i => walk_at "isv"); (case o => walk_at "okt"); (case z => walk_at "sz1"))
  | (refine' Sp.catD (by assumption) ?i ?j ?l ?_; (case i => walk_at "isv"); (case j => walk_at "isv"); (case l => rfl); intro _ _ _)
  | (refine' Sp.lamD (by assumption) ?_; intro _ _ _ _)
  | (refine' Sp.hokD (by assumption) ?i ?_; (case i => walk_at "isv"); intro _ _ _)
  | (refine' Sp.herP1 (by assumption) ?m ?l ?_; (case m => walk_at "mem"); (case l => rfl); intro _ _ _)
  | (refine' Sp.herP2 (by assumption) ?m ?l ?l2 ?_; (case m => walk_at "mem"); (case l => rfl); (case l2 => rfl); intro _ _ _)
  | (refine' Sp.finL (by assumption) (by assumption) ?i; (case i => walk_at "isv"))
  | fail)
local macro_rules | `(tactic| walk_at "rd1N") => `(tactic| first
  | apply Sp.exI
  | (refine And.intro ?lf ?_; (case lf => walk_at "leaf"))
  | (show @ite Prop (_ = true) _ _ _; first | refine' Sp.iteT (by first | assumption | rfl | exact Sp.nbT (by assumption) | exact Sp.nbF (by assumption)) ?_ | refine' Sp.iteF (by first | assumption | rfl | exact Sp.nbT (by assumption) | exact Sp.nbF (by assumption) | exact Sp.nbF (Sp.eqr (by walk_at "shp"))) ?_)
  | (refine' Sp.afInt (by assumption) ?_; intro _ _) | (refine' Sp.afBl (by assumption) ?_; intro _ _) | (refine' Sp.afStr (by assumption) ?_; intro _ _) | (refine' Sp.afNon (by assumption) ?_; intro _ _)
  | (refine' Sp.afOwn (by assumption) (by rfl) ?_; intro _ _ _) | (refine' Sp.afTup (by assumption) ?_; intro _ _ _) | (refine' Sp.afRef (by assumption) ?_; intro _ _ _)
  | refine' Sp.asInt ?_ | refine' Sp.asBl ?_ | refine' Sp.asStr ?_ | refine' Sp.asNon ?_
  | (refine' Sp.asOwn (by assumption) (by rfl) ?_; intro _ _) | (refine' Sp.asTup (by assumption) ?_; intro _ _) | (refine' Sp.asRef (by assumption) ?_; intro _ _)
  | refine' Sp.aaInt ?_ | refine' Sp.aaBl ?_ | refine' Sp.aaStr ?_ | refine' Sp.aaNon ?_ | (refine' Sp.aaOwn (by assumption) (by rfl) ?_; intro _ _) | (refine' Sp.aaTup (by assumption) ?_; intro _ _) | (refine' Sp.aaAny (by assumption) ?_; intro _ _) | refine' Sp.aaNil ?_
  | (refine' Sp.fnR ?i ?z ?r ?_; (case i => walk_at "isvs"); (case z => walk_at "dsok"); (case r => walk_at "rel"))
  | (refine' Sp.makeOk ?i ?z ?r ?o ?_; (case i => walk_at "isvs"); (case z => walk_at "dsok"); (case r => walk_at "rel"); (case o => rfl))
  | (refine' Sp.makeEr ?i ?z ?r ?_; (case i => walk_at "isvs"); (case z => walk_at "dsok"); (case r => walk_at "rel"))
  | (refine' Sp.isiD (by assumption) ?i ?c ?o ?t ?_; (case i => walk_at "isv"); (case c => walk_at "cls"); (case o => walk_at "okt"); (case t => decide))
  | (refine' Sp.fldD (by assumption) ?i ?o ?l ?c ?_; (case i => walk_at "isv"); (case o => rfl); (case l => rfl); (case c => decide))
  | (refine' Sp.fldRaw (by assumption) (by assumption) (by rfl) (by decide) (by decide) ?_)
  | (refine' Sp.methRaw (by assumption) (by rfl) ?_)
  | (refine' Sp.setRaw (by assumption) (by assumption) (by rfl) (by decide) (by decide) ?_)
  | (refine' Sp.strD ?i ?o ?_; (case i => walk_at "isv"); (case o => rfl))
  | (refine' Sp.methD ?i ?o ?l ?_; (case i => walk_at "isv"); (case o => rfl); (case l => rfl))
  | (refine' Sp.propD ?i ?o ?_; (case i => walk_at "isv"); (case o => rfl))
  | (refine' Sp.binD ?i ?o ?j ?e ?_; (case i => walk_at "isv"); (case o => rfl); (case j => walk_at "isv"); (case e => rfl))
  | (refine' Sp.unD ?i ?o ?_; (case i => walk_at "isv"); (case o => rfl))
  | (refine' Sp.absD ?i ?o ?_; (case i => walk_at "isv"); (case o => rfl))
  | (refine' Sp.eqOwnD (by assumption) ?i ?o ?j ?e ?n ?_; (case i => walk_at "isv"); (case o => rfl); (case j => walk_at "isv"); (case e => walk_at "okt"); (case n => walk_at "nf"))
  | (refine' Sp.neOwnD (by assumption) ?i ?o ?j ?e ?n ?_; (case i => walk_at "isv"); (case o => rfl); (case j => walk_at "isv"); (case e => walk_at "okt"); (case n => walk_at "nf"))
  | (refine' Sp.raiseD (by assumption) ?i ?e ?l ?_; (case i => walk_at "isvs"); (case e => rfl); (case l => rfl))
  | (refine' Sp.setD (by assumption) (by assumption) rfl rfl rfl (by decide) (by decide) ?_; intro _ _)
  | (refine' Sp.ixTD ?i ?e ?g ?_; (case i => walk_at "isv"); (case e => rfl); (case g => rfl))
  | (refine' Sp.ixLD ?i ?e ?g ?_; (case i => walk_at "isv"); (case e => rfl); (case g => rfl))
  | (refine' Sp.gTupD ?i ?e ?_; (case i => walk_at "isv"); (case e => rfl))
  | refine' Sp.lamR (by assumption) ?_
  | (refine' Sp.finD' (by assumption) (by assumption) ?i; (case i => walk_at "isv"))
  | refine' Sp.finE' (by assumption) (by assumption)
  | refine' Sp.finIE (by assumption) (by assumption) (by assumption)
  | (refine' Sp.dipD (by assumption) (by omega) ?m0 ?m1 ?n ?_; (case m0 => first | decide | omega); (case m1 => first | decide | omega); (case n => rfl); intro _ _ _ _ _)
  | (refine' Sp.lawL (by assumption) ?i ?z ?r ?_; (case i => walk_at "isvs"); (case z => walk_at "dsok"); (case r => walk_at "rel"); intro _ _ _)
  | (refine' Sp.lawP (by assumption) ?i ?z ?nd ?pr (by omega) ?nl ?_; (case i => walk_at "isvs"); (case z => walk_at "dsok"); (case nd => rfl); (case pr => walk_at "pre"); (case nl => rfl))
  | (refine' Sp.dctD (by assumption) ?_; intro _ _ _)
  | (refine' Sp.eqDD ?i ?j ?e ?f ?s ?t ?_; (case i => walk_at "isv"); (case j => walk_at "isv"); (case e => rfl); (case f => rfl); (case s => walk_at "shp"); (case t => walk_at "shp"))
  | (refine' Sp.neDD ?i ?j ?e ?f ?s ?t ?_; (case i => walk_at "isv"); (case j => walk_at "isv"); (case e => rfl); (case f => rfl); (case s => walk_at "shp"); (case t => walk_at "shp"))
  | (refine' Sp.lamD (by assumption) ?_; intro _ _ _ _)
  | (refine' Sp.hokD (by assumption) ?i ?_; (case i => walk_at "isv"); intro _ _ _)
  | (refine' Sp.herP1 (by assumption) ?m ?l ?_; (case m => walk_at "mem"); (case l => rfl); intro _ _ _)
  | (refine' Sp.herP2 (by assumption) ?m ?l ?l2 ?_; (case m => walk_at "mem"); (case l => rfl); (case l2 => rfl); intro _ _ _)
  | (refine' Sp.finL (by assumption) (by assumption) ?i; (case i => walk_at "isv"))
  | fail)
local macro_rules | `(tactic| walk_at "rdN") => `(tactic| repeat (walk_at "rd1N"))
local macro_rules | `(tactic| walk_at "rd") => `(tactic| repeat (walk_at "rd1"))
local macro_rules | `(tactic| walk_at "zs") => `(tactic| (refine' Sp.zsStart (by assumption) ?_; repeat (first | refine' Sp.zsNil ?_ | (refine' Sp.zsInt ?_; intro _) | (refine' Sp.zsRat ?_; intro _) | (refine' Sp.zsStep ?_; intro _ _) | (refine' Sp.zsStem ?_; intro _ _) | (refine' Sp.zsTable ?_; intro _ _ _ _) | (refine' Sp.zsAny ?_; intro _ _))))
local macro_rules | `(tactic| walk_at "go0") => `(tactic| (walk_at "zs"; (have := Sp.Env.of (K := ‹PySem.W.Frag›) ‹L2.Hp›); walk_at "args"))
local macro_rules | `(tactic| walk_at "go") => `(tactic| (walk_at "go0"; walk_at "rd"))
local macro_rules | `(tactic| walk_at "goI0") => `(tactic| (walk_at "zs"; (have := Sp.Env.ofI (K := ‹PySem.W.Frag›) (H := ‹L2.Hp›) (by assumption)); walk_at "args"))
local macro_rules | `(tactic| walk_at "goI") => `(tactic| (walk_at "goI0"; walk_at "rd"))
local macro_rules | `(tactic| walk_at "goL") => `(tactic| (walk_at "zs"; walk_at "args"; walk_at "rd"))
local macro_rules | `(tactic| walk_at "rel") => `(tactic| first
  | (apply Sp.RIsInt.mk <;> walk_at "sc")
  | (apply Sp.RIsRat.mk <;> walk_at "sc")
  | (apply Sp.RSign.mk <;> walk_at "sc")
  | (apply Sp.RInitR.one <;> walk_at "sc")
  | (apply Sp.RInitR.ok <;> walk_at "sc")
  | (apply Sp.RInitR.z <;> walk_at "sc")
  | (apply Sp.RInitR.t <;> walk_at "sc")
  | (apply Sp.RInitR.b <;> walk_at "sc")
  | (apply Sp.ROf.r <;> walk_at "sc")
  | (apply Sp.ROf.i <;> walk_at "sc")
  | (apply Sp.ROf.n <;> walk_at "sc")
  | (apply Sp.RBinR.r <;> walk_at "sc")
  | (apply Sp.RBinR.i <;> walk_at "sc")
  | (apply Sp.RBinR.n <;> walk_at "sc")
  | (apply Sp.ROver.r <;> walk_at "sc")
  | (apply Sp.ROver.i <;> walk_at "sc")
  | (apply Sp.ROver.z <;> walk_at "sc")
  | (apply Sp.ROver.zi <;> walk_at "sc")
  | (apply Sp.ROver.n <;> walk_at "sc")
  | (apply Sp.RCmp.r <;> walk_at "sc")
  | (apply Sp.RCmp.i <;> walk_at "sc")
  | (apply Sp.RCmp.n <;> walk_at "sc")
  | (apply Sp.RBelow.r <;> walk_at "sc")
  | (apply Sp.RBelow.i <;> walk_at "sc")
  | (apply Sp.RBelow.n <;> walk_at "sc")
  | (apply Sp.RUnR.mk <;> walk_at "sc")
  | (apply Sp.REqR.r <;> walk_at "sc")
  | (apply Sp.REqR.i <;> walk_at "sc")
  | (apply Sp.REqR.n <;> walk_at "sc")
  | (apply Sp.RPropR.mk <;> walk_at "sc")
  | (apply Sp.RInitS.ok <;> walk_at "sc")
  | (apply Sp.RInitS.z <;> walk_at "sc")
  | (apply Sp.RInitS.s <;> walk_at "sc")
  | (apply Sp.RInitS.r <;> walk_at "sc")
  | (apply Sp.RNeed.ok <;> walk_at "sc")
  | (apply Sp.RNeed.no <;> walk_at "sc")
  | (apply Sp.RNeedK.ok <;> walk_at "sc")
  | (apply Sp.RNeedK.z <;> walk_at "sc")
  | (apply Sp.RCross.ok <;> walk_at "sc")
  | (apply Sp.RCross.one <;> walk_at "sc")
  | (apply Sp.RCross.oth <;> walk_at "sc")
  | (apply Sp.RAreN.ok <;> walk_at "sc")
  | (apply Sp.RAreN.one <;> walk_at "sc")
  | (apply Sp.RAreN.oth <;> walk_at "sc")
  | (apply Sp.RNeedN.ok <;> walk_at "sc")
  | (apply Sp.RNeedN.no <;> walk_at "sc")
  | (apply Sp.RNeedN.one <;> walk_at "sc")
  | (apply Sp.RNeedN.oth <;> walk_at "sc")
  | (apply Sp.RBetween.ok <;> walk_at "sc")
  | (apply Sp.RBetween.no <;> walk_at "sc")
  | (apply Sp.RBetween.one <;> walk_at "sc")
  | (apply Sp.RBetween.oth <;> walk_at "sc")
  | (apply Sp.RSummed.ok <;> walk_at "sc")
  | (apply Sp.RSummed.z <;> walk_at "sc")
  | (apply Sp.RBinS.ok <;> walk_at "sc")
  | (apply Sp.RBinS.z <;> walk_at "sc")
  | (apply Sp.RBinS.n <;> walk_at "sc")
  | (apply Sp.RMulS.ok <;> walk_at "sc")
  | (apply Sp.RMulS.z <;> walk_at "sc")
  | (apply Sp.RMulS.n <;> walk_at "sc")
  | (apply Sp.RNegS.mk <;> walk_at "sc")
  | (apply Sp.REqS.s <;> walk_at "sc")
  | (apply Sp.REqS.n <;> walk_at "sc")
  | (apply Sp.RIsUp.mk <;> walk_at "sc")
  | (apply Sp.ROneR.mk <;> walk_at "sc")
  | (apply Sp.RCorner.ok <;> walk_at "sc")
  | (apply Sp.RCorner.z <;> walk_at "sc")
  | (apply Sp.RUpw_up <;> walk_at "sc")
  | (apply Sp.RUpw_dn <;> walk_at "sc")
  | (apply Sp.RStrS.mk <;> walk_at "sc")
  | (apply Sp.RTold.ok <;> walk_at "sc")
  | (apply Sp.RTold.no <;> walk_at "sc")
  | (apply Sp.RComm.mk <;> walk_at "sc")
  | (apply Sp.RNear.mk <;> walk_at "sc")
  | (apply Sp.ROne.mk <;> walk_at "sc")
  | (apply Sp.RTwo.mk <;> walk_at "sc")
  | fail)
local macro_rules | `(tactic| walk_at "nf") => `(tactic| first | exact (‹∀ t ∈ Sp.tsL, PySem.W.notFirst ‹PySem.W.Frag› (Sp.ca ‹PySem.W.Frag› Sp.Cn.Step) (Sp.tv ‹PySem.W.Frag› t) = true›) (Sp.Ty0.own Sp.Cn.Step) (by decide) | exact (‹∀ t ∈ Sp.tsL, PySem.W.notFirst ‹PySem.W.Frag› (Sp.ca ‹PySem.W.Frag› Sp.Cn.Step) (Sp.tv ‹PySem.W.Frag› t) = true›) Sp.Ty0.tuple (by decide) | fail)
local macro_rules | `(tactic| walk_at "pre") => `(tactic| first | rfl | exact ⟨_, _, rfl, by assumption⟩)
namespace Sp
open PySem PySem.Spec PyProof.Rows L2
open PySem.W (Frag)
section
variable {P : Program} {w : World} {K : PySem.W.Frag} {mg : Str → Option Value} {base : Heap} {f : Addr} {fd : FuncData} {T : List (Addr × Str)}
variable (h_gcd : mg "gcd" = some (.builtin "math.gcd")) {tk1 tk2 : Tok} (h_most : mg "MOST_DIGITS" = some (.int 60 tk1)) (h_digits : mg "DIGITS" = some (.str "0123456789" tk2)) (h_all : mg "all" = none)
variable (g_xBadRatio : GXN P w K mg base 1 "BadRatio" ["part"] (cX K "BadRatio"))
  (g_xBadStep : GXN P w K mg base 1 "BadStep" ["part"] (cX K "BadStep"))
  (g_xBadNumber : GXN P w K mg base 1 "BadNumber" ["part"] (cX K "BadNumber"))
  (g_xRound : GXN P w K mg base 1 "Round" ["part"] (cX K "Round"))
  (g_xNotNeighbours : GXN P w K mg base 1 "NotNeighbours" ["one", "other"] (cX K "NotNeighbours"))
  (g_xCommon : GXN P w K mg base 1 "Common" ["divisor"] (cX K "Common"))
  (g_xBadText : GXN P w K mg base 1 "BadText" ["line", "word"] (cX K "BadText"))
  (g_is_integer : GD P w K mg base (L2.CX P w) 1 "is_integer" ["value"] [] (spR K csL tsL 3900 RIsInt))
  (g_is_ratio : GD P w K mg base (L2.CX P w) 2 "is_ratio" ["value"] [] (spR K csL tsL 3900 RIsRat))
  (g_sign_of : GD P w K mg base (L2.CX P w) 1 "sign_of" ["number"] [] (spR K csL tsL 100000 RSign))
  (g_mRatio : GM P w K mg base (L2.CX P w) 3 "Ratio" (ca K .Ratio) ["self", "top", "bottom"] [] (spRI K csL tsL .Ratio 3900 RInitR)) (g_mRatio1 : GM P w K mg base (L2.CX P w) 3 "Ratio" (ca K .Ratio) ["self", "top", "bottom"] [.int 1] (spRI K csL tsL .Ratio 3900 RInitR))
  (g_Ratio_of : GS P w K mg base (L2.CX P w) 5 (ca K .Ratio) "of" (spR K csL tsL 3900 (ROf "BadRatio" "value")))
  (g_at_right : GD P w K mg base (L2.CX P w) 6 "at_right" ["value"] [] (spR K csL tsL 3900 (ROf "BadRatio" "other")))
  (g_Ratio_Add : GO P w K mg base (L2.CX P w) 7 (ca K .Ratio) .Add (spR K csL tsL 1900 (RBinR (· + ·))))
  (g_Ratio_Sub : GO P w K mg base (L2.CX P w) 7 (ca K .Ratio) .Sub (spR K csL tsL 1900 (RBinR (· - ·))))
  (g_Ratio_Mult : GO P w K mg base (L2.CX P w) 7 (ca K .Ratio) .Mult (spR K csL tsL 1900 (RBinR (· * ·))))
  (g_Ratio_over : GH P w K mg base (L2.CX P w) 7 (ca K .Ratio) "over" ["self", "other"] (spR K csL tsL 1900 ROver))
  (g_Ratio_USub : GN P w K mg base (L2.CX P w) 5 (ca K .Ratio) "__neg__" (spR K csL tsL 3900 (RUnR (fun q => -q))))
  (g_Ratio_abs : GN P w K mg base (L2.CX P w) 5 (ca K .Ratio) "__abs__" (spR K csL tsL 3900 (RUnR qabs)))
  (g_Ratio_eq : GN P w K mg base (L2.CX P w) 2 (ca K .Ratio) "__eq__" (spR K csL tsL 3900 REqR)) (g_Ratio_eq_ne : GNe P w K mg base (L2.CX P w) 2 (ca K .Ratio) (spR K csL tsL 3900 REqR)) (nf_Ratio : ∀ t ∈ tsL, PySem.W.notFirst K (ca K .Ratio) (tv K t) = true)
  (g_Ratio_sign : GP P w K mg base (L2.CX P w) 2 (ca K .Ratio) "sign" (spR K csL tsL 3900 (RPropR fun q => .int q.num.sign)))
  (g_Ratio_below : GP P w K mg base (L2.CX P w) 1 (ca K .Ratio) "below" (spR K csL tsL 3900 (RPropR fun q => .int q.floor)))
  (g_mStep : GM P w K mg base (L2.CX P w) 3 "Step" (ca K .Step) ["self", "studs", "rounds"] [] (spRI K csL tsL .Step 3900 RInitS))
  (g_need_step : GD P w K mg base (L2.CX P w) 3 "need_step" ["value", "part"] [] (spR K csL tsL 100000 (RNeed .Step "BadStep")))
  (g_need_studs : GD P w K mg base (L2.CX P w) 3 "need_studs" ["step", "part"] [] (spR K csL tsL 100000 RNeedK))
  (g_is_upward : GD P w K mg base (L2.CX P w) 1 "is_upward" ["step"] [] (spR K csL tsL 3900 RIsUp))
  (g_summed : GD P w K mg base (L2.CX P w) 5 "summed" ["studs", "rounds"] [] (spR K csL tsL 3900 RSummed))
  (g_Step_Add : GO P w K mg base (L2.CX P w) 6 (ca K .Step) .Add (spR K csL tsL 1900 (RBinS (· + ·))))
  (g_Step_Sub : GO P w K mg base (L2.CX P w) 6 (ca K .Step) .Sub (spR K csL tsL 1900 (RBinS (· - ·))))
  (g_Step_USub : GN P w K mg base (L2.CX P w) 5 (ca K .Step) "__neg__" (spR K csL tsL 3900 RNegS))
  (g_Step_Mult : GO P w K mg base (L2.CX P w) 5 (ca K .Step) .Mult (spR K csL tsL 1900 RMulS))
  (g_Step_eq : GN P w K mg base (L2.CX P w) 1 (ca K .Step) "__eq__" (spR K csL tsL 3900 REqS)) (g_Step_eq_ne : GNe P w K mg base (L2.CX P w) 1 (ca K .Step) (spR K csL tsL 3900 REqS)) (nf_Step : ∀ t ∈ tsL, PySem.W.notFirst K (ca K .Step) (tv K t) = true)
  (g_Step_upward : GP P w K mg base (L2.CX P w) 5 (ca K .Step) "upward" (spR K csL tsL 3900 RUpw))
  (g_Step_corner : GP P w K mg base (L2.CX P w) 5 (ca K .Step) "corner" (spR K csL tsL 3900 RCorner))
  (g_Step_one_round : GS0 P w K mg base (L2.CX P w) 5 (ca K .Step) "one_round" (spR K csL tsL 3900 ROneR))
  (g_cross : GD P w K mg base (L2.CX P w) 4 "cross" ["one", "other"] [] (spR K csL tsL 1900 RCross))
  (g_are_neighbours : GD P w K mg base (L2.CX P w) 5 "are_neighbours" ["one", "other"] [] (spR K csL tsL 1900 RAreN))
  (g_need_neighbours : GD P w K mg base (L2.CX P w) 6 "need_neighbours" ["one", "other"] [] (spR K csL tsL 1900 RNeedN))
  (g_between : GD P w K mg base (L2.CX P w) 7 "between" ["one", "other"] [] (spR K csL tsL 1900 RBetween))
  (g_integer_of : GD P w K mg base (L2.CX P w) 1 "integer_of" ["word"] [] (spR K csL tsL 100000 RIntOf))
  (g_mWords : GM P w K mg base (L2.CX P w) 1 "Words" (ca K .Words) ["self", "words", "done", "last"] [] (spInitW K))
  (g_Words_is_over : GH P w K mg base (L2.CX P w) 1 (ca K .Words) "is_over" ["self"] (spWp K RIsOver))
  (g_Words_take : GH P w K mg base (L2.CX P w) 3 (ca K .Words) "take" ["self"] (spW K RTake))
  (g_Words_refuse : GH P w K mg base (L2.CX P w) 3 (ca K .Words) "refuse" ["self"] (spW K RRefuse))
  (g_Words_integer : GH P w K mg base (L2.CX P w) 4 (ca K .Words) "integer" ["self"] (spW K RInteg))
  (g_Words_end : GH P w K mg base (L2.CX P w) 3 (ca K .Words) "end" ["self"] (spWp K REndW))
  (g_words_in : GD P w K mg base (L2.CX P w) 3 "words_in" ["text"] [] (spWords K csL tsL))
  (g_take_step : GD P w K mg base (L2.CX P w) 5 "take_step" ["words"] [] (spW K RTakeS))
  (g_read_whole : GD P w K mg base (L2.CX P w) 6 "read_whole" ["text", "take"] [] (spReadW K csL tsL (He.ga K "take_step") RTakeS))
  (g_Step_read : GC P w K mg base (L2.CX P w) 7 (ca K .Step) "read" (spReadC K csL tsL RTakeS))
  (g_Step_str : GN P w K mg base (L2.CX P w) 1 (ca K .Step) "__str__" (spR K csL tsL 3900 RStrS))
  (g_inverse : GD P w K mg base (L2.CX P w) 1 "inverse" ["number", "modulus"] [] (spInv K))
  (g_mate : GD P w K mg base (L2.CX P w) 5 "mate" ["step"] [] (spMate K csL tsL))
  (g_l_pail : GD P w K mg base (L2.CX P w) 1 "_law_pail" ["_law_script"] [] (spPail K))
  (g_l_dip : GD P w K mg base (L2.CX P w) 1 "_law_dip" ["_law_pail_here", "_law_many"] [] spDip)
  (g_l_number : GD P w K mg base (L2.CX P w) 2 "_law_number" ["_law_pail_here", "_law_many"] [] (spLP K csL tsL T 60 900000 3 (fun ds => ds = [.int 30]) (fun _ d => ∃ i : Int, d = .int i ∧ i.natAbs < 2 ^ 46)))
  (g_l_pair : GD P w K mg base (L2.CX P w) 3 "_law_pair" ["_law_pail_here"] [] (spLP K csL tsL T 60 800000 20 (fun ds => ds = []) (fun _ d => ∃ k j : Int, d = .tup [.int k, .int j] ∧ Pk 49 k j)))
  (g_l_common : GD P w K mg base (L2.CX P w) 1 "_law_common" ["_law_one", "_law_other"] [] (spR K csL tsL 60 RComm))
  (g_l_told : GD P w K mg base (L2.CX P w) 1 "_law_told" ["_law_step"] [] (spR K csL tsL 100000 RTold))
  (g_l_nearest : GD P w K mg base (L2.CX P w) 1 "_law_nearest" ["_law_pair_here"] [] (spR K csL tsL 60 RNear))
  (g_l_one_right : GD P w K mg base (L2.CX P w) 18 "_law_one_right" ["_law_pair_here"] [] (spL K csL tsL T 60 ROne))
  (g_l_two_right : GD P w K mg base (L2.CX P w) 18 "_law_two_right" ["_law_one", "_law_other"] [] (spL K csL tsL T 60 RTwo))
  (g_l_mate_right : GD P w K mg base (L2.CX P w) 18 "_law_mate_right" ["_law_pair_here"] [] (spL K csL tsL T 60 ROne))
  (g_l_refused_right : GD P w K mg base (L2.CX P w) 18 "_law_refused_right" ["_law_pail_here", "_law_pair_here"] [] (spLP K csL tsL T 60 700000 5 (fun ds => ∃ k j : Int, ds = [.tup [.int k, .int j]] ∧ Pk 52 k j) (fun _ d => d = .bl true)))
  (g_l_text_right : GD P w K mg base (L2.CX P w) 18 "_law_text_right" ["_law_pail_here", "_law_pair_here"] [] (spLP K csL tsL T 60 700000 10 (fun ds => ∃ k j : Int, ds = [.tup [.int k, .int j]] ∧ Pk 52 k j) (fun _ d => d = .bl true)))
variable (g_take_step_l : GL P w K mg base (L2.CX P w) 5 "take_step" (spW K RTakeS))
variable (g_mStep_krs : GMK P w K mg base (L2.CX P w) 3 "Step" (ca K .Step) ["rounds", "studs"] [1, 0] (spRI K csL tsL .Step 3900 RInitS))
  (g_cross_k : GDK P w K mg base (L2.CX P w) 4 "cross" ["other", "one"] 2 [1, 0] (spR K csL tsL 1900 RCross))

theorem sc__law_text_right : FnScope ["_law_pail_here", "_law_pair_here", "_law_at", "_law_way", "_law_odd", "_law_words"] ["_law_pail_here", "_law_pair_here"] (defScope (topS 54)) := ⟨rfl, rfl, rfl, by decide +kernel, rfl, by decide +kernel, by decide +kernel⟩
include g_Step_read g_l_dip in
theorem ok__law_text_right {c Pt : Addr} (gEr : GE K mg) (gHd : GHd P w K mg base) (hTB : LamX.TabB base mg c Pt) (hmT : (Pt, ("_law_text_right" : Str) ++ ".<locals>." ++ "<lambda>") ∈ T) (huT : ∀ p ∈ T, p.1 = Pt → p.2 = ("_law_text_right" : Str) ++ ".<locals>." ++ "<lambda>") (hfc : fd.code = .ref c) (G : G0 K mg csL tsL) (F : FP K "_law_text_right" "_law_text_right" (topS 54) [] f fd) : FnOk P w K mg base (L2.CX P w) 18 f fd ["_law_pail_here", "_law_pair_here"] (spLP K csL tsL T 60 700000 10 (fun ds => ∃ k j : Int, ds = [.tup [.int k, .int j]] ∧ Pk 52 k j) (fun _ d => d = .bl true)) := by
  have nd := sc__law_text_right.nd
  refine okP F hfc sc__law_text_right (fun ds h => by obtain ⟨_, _, rfl, _⟩ := h; rfl) (fun A outer s H a c' m ds Q E hr z nds pr hm q hE => ⟨_, pss_cons (ps_asg (pe_tupE (pa_cons (pe_lstD (pa_cons (pe_callTy call_str_int rfl G.nm.str (by decide +kernel) (pa_cons (pe_ix ix_tup (pv 1) (pe_int) (fun _ _ => rfl)) (pa_nil))) (pa_cons (pe_callTy call_str_int rfl G.nm.str (by decide +kernel) (pa_cons (pe_ix ix_tup (pv 1) (pe_int) (fun _ _ => rfl)) (pa_nil))) (pa_nil)))) (pa_cons (pe_gd g_l_dip (hr.mono (by decide)) rfl (pxE rfl rfl rfl rfl) (pa_cons (pv 0) (pa_cons (pe_int) (pa_nil)))) (pa_cons (pe_gd g_l_dip (hr.mono (by decide)) rfl (pxE rfl rfl rfl rfl) (pa_cons (pv 0) (pa_cons (pe_int) (pa_nil)))) (pa_nil))))) (pg_tup rfl (pgs_cons (pg_name (i := 5) nd rfl (Or.inr rfl)) (pgs_cons (pg_name (i := 2) nd rfl (Or.inl rfl)) (pgs_cons (pg_name (i := 3) nd rfl (Or.inl rfl)) (pgs_nil)))))) (pss_cons (ps_if (pt_cmpR op_eq (pv 3) (pe_int) (nomark _)) (pss_one (ps_ret (pe_cmpR (op_eqD hr.units) (pe_heard (X := cxOf (L2.CX P w) P w K mg base _ _ _ f (.ref c) A outer s H E) (k := 14) gHd gEr rfl hTB rfl hmT huT (hr.mono (by decide)) (hr.mono (by decide)) (LamX.lamS_by (sc := defScope (topS 54)) (by decide +kernel)) rfl (fun _ _ _ _ _ => rfl) (fun Al ol sl Hl El fl cl hr => pe_gcD (pe_glob (v := .ref (ca K .Step)) rfl (G.mgc .Step (by decide)) rfl) g_Step_read (hr.mono (by decide)) (pxE rfl rfl rfl rfl) (pa_cons (pe_ix (ix_listK (X := LamX.lamCx (cxOf (L2.CX P w) P w K mg base _ _ _ f (.ref c) A outer s H E) Al ol sl Hl El _ fl cl) K rfl) (pv 5) (pe_int) (fun _ _ => rfl)) (pa_nil)))) (pe_tupE (pa_cons (pe_str) (pa_cons (pe_int) (pa_cons (pe_int) (pa_nil))))) (nomark _)))) (pss_nil)) (pss_cons (ps_if (pt_cmpR op_eq (pv 3) (pe_int) (nomark _)) (pss_one (ps_ret (pe_cmpR (op_eqD hr.units) (pe_heard (X := cxOf (L2.CX P w) P w K mg base _ _ _ f (.ref c) A outer s H E) (k := 14) gHd gEr rfl hTB rfl hmT huT (hr.mono (by decide)) (hr.mono (by decide)) (LamX.lamS_by (sc := defScope (topS 54)) (by decide +kernel)) rfl (fun _ _ _ _ _ => rfl) (fun Al ol sl Hl El fl cl hr => pe_gcD (pe_glob (v := .ref (ca K .Step)) rfl (G.mgc .Step (by decide)) rfl) g_Step_read (hr.mono (by decide)) (pxE rfl rfl rfl rfl) (pa_cons (pe_joinK (X := LamX.lamCx (cxOf (L2.CX P w) P w K mg base _ _ _ f (.ref c) A outer s H E) Al ol sl Hl El _ fl cl) K rfl (pe_str) (pe_op op_cat (pv 5) (pe_lstD (pa_cons (pe_str) (pa_nil))))) (pa_nil)))) (pe_tupE (pa_cons (pe_str) (pa_cons (pe_int) (pa_cons (pe_int) (pa_nil))))) (nomark _)))) (pss_nil)) (pss_cons (ps_if (pt_cmpR op_eq (pv 3) (pe_int) (nomark _)) (pss_cons (ps_set (i := 4) nd rfl (Or.inr rfl) (pe_ix ix_tup (pe_tupE (pa_cons (pe_non) (pa_cons (pe_int) (pa_cons (pv 5) (pa_cons (pv 1) (pa_cons (pe_bl) (pa_nil))))))) (pe_gd g_l_dip (hr.mono (by decide)) rfl (pxE rfl rfl rfl rfl) (pa_cons (pv 0) (pa_cons (pe_int) (pa_nil)))) (fun _ _ => rfl))) (pss_one (ps_ret (pe_cmpR (op_eqD hr.units) (pe_heard (X := cxOf (L2.CX P w) P w K mg base _ _ _ f (.ref c) A outer s H E) (k := 14) gHd gEr rfl hTB rfl hmT huT (hr.mono (by decide)) (hr.mono (by decide)) (LamX.lamS_by (sc := defScope (topS 54)) (by decide +kernel)) rfl (fun _ _ _ _ _ => rfl) (fun Al ol sl Hl El fl cl hr => pe_gcD (pe_glob (v := .ref (ca K .Step)) rfl (G.mgc .Step (by decide)) rfl) g_Step_read (hr.mono (by decide)) (pxE rfl rfl rfl rfl) (pa_cons (pv 4) (pa_nil)))) (pe_tupE (pa_cons (pe_str) (pa_cons (pe_int) (pa_cons (pe_int) (pa_nil))))) (nomark _))))) (pss_nil)) (pss_cons (ps_if (pt_cmpR op_eq (pv 3) (pe_int) (nomark _)) (pss_one (ps_ret (pe_cmpR (op_eqD hr.units) (pe_heard (X := cxOf (L2.CX P w) P w K mg base _ _ _ f (.ref c) A outer s H E) (k := 14) gHd gEr rfl hTB rfl hmT huT (hr.mono (by decide)) (hr.mono (by decide)) (LamX.lamS_by (sc := defScope (topS 54)) (by decide +kernel)) rfl (fun _ _ _ _ _ => rfl) (fun Al ol sl Hl El fl cl hr => pe_gcD (pe_glob (v := .ref (ca K .Step)) rfl (G.mgc .Step (by decide)) rfl) g_Step_read (hr.mono (by decide)) (pxE rfl rfl rfl rfl) (pa_cons (pe_str) (pa_nil)))) (pe_tupE (pa_cons (pe_str) (pa_cons (pe_int) (pa_cons (pe_int) (pa_nil))))) (nomark _)))) (pss_nil)) (pss_cons (ps_asg (pe_ix ix_tup (pe_tupE (pa_cons (pe_str) (pa_cons (pe_str) (pa_cons (pe_str) (pa_cons (pe_str) (pa_cons (pe_str) (pa_cons (pe_str) (pa_cons (pe_str) (pa_cons (pe_str) (pa_cons (pe_str) (pa_cons (pe_op op_repS (pe_str) (pe_int)) (pa_cons (pe_op op_add_str (pe_str) (pe_op op_repS (pe_str) (pe_int))) (pa_nil))))))))))))) (pe_gd g_l_dip (hr.mono (by decide)) rfl (pxE rfl rfl rfl rfl) (pa_cons (pv 0) (pa_cons (pe_int) (pa_nil)))) (fun _ _ => rfl)) (pg_sub (pv 5) (pv 2) set_list)) (pss_one (ps_ret (pe_cmpR (op_eqD hr.units) (pe_heard (X := cxOf (L2.CX P w) P w K mg base _ _ _ f (.ref c) A outer s H E) (k := 14) gHd gEr rfl hTB rfl hmT huT (hr.mono (by decide)) (hr.mono (by decide)) (LamX.lamS_by (sc := defScope (topS 54)) (by decide +kernel)) rfl (fun _ _ _ _ _ => rfl) (fun Al ol sl Hl El fl cl hr => pe_gcD (pe_glob (v := .ref (ca K .Step)) rfl (G.mgc .Step (by decide)) rfl) g_Step_read (hr.mono (by decide)) (pxE rfl rfl rfl rfl) (pa_cons (pe_joinK (X := LamX.lamCx (cxOf (L2.CX P w) P w K mg base _ _ _ f (.ref c) A outer s H E) Al ol sl Hl El _ fl cl) K rfl (pe_str) (pv 5)) (pa_nil)))) (pe_tupE (pa_cons (pe_str) (pa_cons (pe_int) (pa_cons (pv 2) (pa_nil))))) (nomark _))))))))), ?_⟩)
  obtain ⟨k, j, rfl, p⟩ := pr
  have bk : Bi k 52 := ⟨p.k⟩
  have bj : Bi j 52 := ⟨p.j⟩
  have nz := p.nz
  have lk := log60 (lt60 p.k)
  have lj := log60 (lt60 p.j)
  have r1 := rd_one p.k
  have r3 := rd_three p
  have r0 := rd_zero
  have jb := joinB3 p
  have rb := repB9
  walk_at "zs"
  walk_at "args"
  walk_at "rdN"
  rename_i pp e1
  refine lstI (show 2 ≤ sizeLine by decide) fun pw hpw => ?_
  have fr := e1.freshP hpw
  have e2 := (e1.step (Same.new' hpw)).add (v := .ref pw) (d := .lst [.str (dS k), .str (dS j)]) (.lst upd_same (.cons (.str _) (.cons (.str _) .nil)))
  clear e1 hpw hE
  walk_at "rdN"
  rename_i d1 H1 a0 a1 e3 d2 H2 b0 b1 e4
  refine tupI (show 3 ≤ sizeLine by decide) fun pt hpt => gTupRaw (SqT.of upd_same) rfl ?_
  have e5 := e4.step (Same.new' (o := .tup [.ref pw, .int d1, .int d2]) hpt)
  clear e2 e3 e4 hpt
  walk_at "rd"
  refine iteP (fun h => ?_) (fun h => ?_)
  · walk_at "rd"
    refine finP q (by assumption) (by omega) ?_ (.bl _)
    exact congrArg Dt.bl (eqr (by walk_at "shp"))
  walk_at "rd"
  refine iteP (fun h => ?_) (fun h => ?_)
  · walk_at "rd"
    refine finP q (by assumption) (by omega) ?_ (.bl _)
    exact congrArg Dt.bl (eqr (by walk_at "shp"))
  walk_at "rd"
  refine iteP (fun h => ?_) (fun h => ?_)
  · walk_at "rd"
    rename_i pq H3 e6 d3 H4 c0 c1 e7
    refine ixTAny (e7.get (by walk_at "mem")) c0 (by show d3 < 5; omega) fun v od hmm iv => ?_
    have hod : decide (od.ty = .str) = false ∧ okT csL tsL od = true := by
      simp only [List.mem_cons, List.not_mem_nil, or_false] at hmm
      rcases hmm with rfl | rfl | rfl | rfl | rfl
      all_goals exact ⟨rfl, rfl⟩
    have rr : RReadBy RTakeS [od] (errT 0) := .no hod.1
    have oo := hod.2
    have e8 := e7.add iv
    clear e5 e6 e7 hmm hod
    walk_at "rd"
    refine finP q (by assumption) (by omega) ?_ (.bl _)
    exact congrArg Dt.bl (eqr (by walk_at "shp"))
  walk_at "rd"
  refine iteP (fun h => ?_) (fun h => ?_)
  · walk_at "rd"
    refine finP q (by assumption) (by omega) ?_ (.bl _)
    exact congrArg Dt.bl (eqr (by walk_at "shp"))
  walk_at "rd"
  rename_i pq H3 e6 d3 H4 c0 c1 e7
  refine ixTAny (l := badL.map Dt.str) (e7.get (by walk_at "mem")) c0 (by show d3 < 11; omega) fun v od hmm iv => ?_
  obtain ⟨w, hw, rfl⟩ := List.mem_map.mp hmm
  obtain rfl : v = .str w := by
    cases iv with
    | str => rfl
    | own o _ _ => cases o
  obtain ⟨w1, w2, w3⟩ := bad_ok w hw
  obtain ⟨p', vs, ep, hp, ivs⟩ := (e7.get (v := .ref pw) (d := .lst [.str (dS k), .str (dS j)]) (by walk_at "mem")).lstE
  cases ep
  obtain rfl : vs = [.str (dS k), .str (dS j)] := strsE (ws := [dS k, dS j]) ivs
  have lk1 := len_dS (lt60 p.k)
  have lj1 := len_dS (lt60 p.j)
  rcases (show d1 = 0 ∨ d1 = 1 by omega) with rfl | rfl
  · have e8 := e7.lset (ys := [.str w, .str (dS j)]) (ds := [.str w, .str (dS j)]) fr hp [] (fun e i => by cases i) (.cons (.str _) (.cons (.str _) .nil)) rfl
    have rr := rd_bad0 p.j w1 w2 w3
    have jb2 := joinB2 (a := w) (b := dS j) w3 (by omega)
    clear e5 e6 e7 hmm hw
    refine ⟨_, rfl, _, rfl, pw, _, 0, 0, rfl, rfl, hp, rfl, ?_⟩
    walk_at "rd"
    refine finP q (by assumption) (by omega) ?_ (.bl _)
    exact congrArg Dt.bl (eqr (by walk_at "shp"))
  · have e8 := e7.lset (ys := [.str (dS k), .str w]) (ds := [.str (dS k), .str w]) fr hp [] (fun e i => by cases i) (.cons (.str _) (.cons (.str _) .nil)) rfl
    have rr := rd_bad1 p.k w1 w2 w3
    have jb2 := joinB2 (a := dS k) (b := w) (by omega) w3
    clear e5 e6 e7 hmm hw
    refine ⟨_, rfl, _, rfl, pw, _, 1, 1, rfl, rfl, hp, rfl, ?_⟩
    walk_at "rd"
    refine finP q (by assumption) (by omega) ?_ (.bl _)
    exact congrArg Dt.bl (eqr (by walk_at "shp"))
end
end Sp
end
section
set_option Elab.async false
set_option linter.all false
set_option exponentiation.threshold 5000
set_option maxRecDepth 100000
set_option maxHeartbeats 0
local macro_rules | `(tactic| walk_at "mem") => `(tactic| first | exact List.mem_cons_self | (refine List.mem_cons_of_mem _ ?_; walk_at "mem"))
local macro_rules | `(tactic| walk_at "isv") => `(tactic| first | exact Sp.IsV.int _ | exact Sp.IsV.str _ | exact Sp.IsV.bl _ | exact Sp.IsV.non | exact Sp.Env.get (by assumption) (by walk_at "mem") | assumption)
local macro_rules | `(tactic| walk_at "isvs") => `(tactic| first | exact Sp.IsVs.nil | (refine' Sp.IsVs.cons ?iv ?rs; (case iv => walk_at "isv"); (case rs => walk_at "isvs")))
local macro_rules | `(tactic| walk_at "isfs") => `(tactic| first | exact Sp.IsFs.nil | (refine' Sp.IsFs.cons ?iv ?rs; (case iv => walk_at "isv"); (case rs => walk_at "isfs")))
local macro_rules | `(tactic| walk_at "sz1") => `(tactic| first | exact trivial | exact Sp.biI _ | exact Sp.bqI _ | exact ⟨Sp.biI _, Sp.biI _⟩ | exact ⟨Sp.bqI _, Sp.bqI _⟩ | exact ⟨⟨Sp.biI _, Sp.biI _⟩, Sp.biI _, Sp.biI _⟩ | exact ⟨Sp.bqI _, Sp.bqI _, Sp.bqI _⟩ | assumption | exact Sp.SzD.mono (by assumption) (by decide))
local macro_rules | `(tactic| walk_at "okt") => `(tactic| first | rfl | assumption | decide)
local macro_rules | `(tactic| walk_at "dsok") => `(tactic| first | exact trivial | (refine And.intro (And.intro ?oa ?ob) ?rs; (case oa => walk_at "okt"); (case ob => walk_at "sz1"); (case rs => walk_at "dsok")))
local macro_rules | `(tactic| walk_at "sc") => `(tactic| first | rfl | assumption | decide | omega)
local macro_rules | `(tactic| walk_at "leaf") => `(tactic| first | rfl | assumption | exact Sp.tyVL (by walk_at "isv") | exact True.intro | exact ⟨_, rfl⟩ | exact L2.upd_same | exact L2.ClsV.ty _ | exact L2.ClsV.own _ | decide | exact of_decide_eq_true rfl | exact Sp.cmI _ _ | exact Sp.cdI _ (by first | assumption | omega) | exact Sp.cmL (by decide) | exact Sp.cmR (by decide) | exact ⟨by decide, by decide, by decide⟩ | exact ⟨by decide, by decide⟩ | omega | fail)
local macro_rules | `(tactic| walk_at "cls") => `(tactic| first | exact Sp.ClsD.int | exact Sp.ClsD.bool | exact Sp.ClsD.str | exact Sp.ClsD.own _ | exact Sp.ClsD.tuple | exact Sp.ClsD.list)
local macro_rules | `(tactic| walk_at "args") => `(tactic| repeat (first
  | refine' Sp.aaInt ?_ | refine' Sp.aaBl ?_ | refine' Sp.aaStr ?_ | refine' Sp.aaNon ?_ | (refine' Sp.aaOwn (by assumption) (by rfl) ?_; intro _ _) | (refine' Sp.aaTup (by assumption) ?_; intro _ _) | (refine' Sp.aaAny (by assumption) ?_; intro _ _) | refine' Sp.aaNil ?_))
local macro_rules | `(tactic| walk_at "shp") => `(tactic| first | rfl | decide +kernel | (simp [PySem.SeqAt.shaped, PySem.PyData.canLay0, PySem.PyData.canLayAll0, PySem.PyData.depth, PySem.PyData.depthAll] <;> decide +kernel))
local macro_rules | `(tactic| walk_at "rd1") => `(tactic| first
  | apply Sp.exI
  | (refine And.intro ?lf ?_; (case lf => walk_at "leaf"))
  | (show @ite Prop (_ = true) _ _ _; first | refine' Sp.iteT (by first | assumption | rfl | exact Sp.nbT (by assumption) | exact Sp.nbF (by assumption)) ?_ | refine' Sp.iteF (by first | assumption | rfl | exact Sp.nbT (by assumption) | exact Sp.nbF (by assumption) | exact Sp.nbF (Sp.eqr (by walk_at "shp"))) ?_)
  | (refine' Sp.afInt (by assumption) ?_; intro _ _) | (refine' Sp.afBl (by assumption) ?_; intro _ _) | (refine' Sp.afStr (by assumption) ?_; intro _ _) | (refine' Sp.afNon (by assumption) ?_; intro _ _)
  | (refine' Sp.afOwn (by assumption) (by rfl) ?_; intro _ _ _) | (refine' Sp.afTup (by assumption) ?_; intro _ _ _) | (refine' Sp.afRef (by assumption) ?_; intro _ _ _)
  | refine' Sp.asInt ?_ | refine' Sp.asBl ?_ | refine' Sp.asStr ?_ | refine' Sp.asNon ?_
  | (refine' Sp.asOwn (by assumption) (by rfl) ?_; intro _ _) | (refine' Sp.asTup (by assumption) ?_; intro _ _) | (refine' Sp.asRef (by assumption) ?_; intro _ _)
  | refine' Sp.aaInt ?_ | refine' Sp.aaBl ?_ | refine' Sp.aaStr ?_ | refine' Sp.aaNon ?_ | (refine' Sp.aaOwn (by assumption) (by rfl) ?_; intro _ _) | (refine' Sp.aaTup (by assumption) ?_; intro _ _) | (refine' Sp.aaAny (by assumption) ?_; intro _ _) | refine' Sp.aaNil ?_
  | (refine' Sp.fnR ?i ?z ?r ?_; (case i => walk_at "isvs"); (case z => walk_at "dsok"); (case r => walk_at "rel"))
  | (refine' Sp.makeOk ?i ?z ?r ?o ?_; (case i => walk_at "isvs"); (case z => walk_at "dsok"); (case r => walk_at "rel"); (case o => rfl))
  | (refine' Sp.makeEr ?i ?z ?r ?_; (case i => walk_at "isvs"); (case z => walk_at "dsok"); (case r => walk_at "rel"))
  | (refine' Sp.isiD (by assumption) ?i ?c ?o ?t ?_; (case i => walk_at "isv"); (case c => walk_at "cls"); (case o => walk_at "okt"); (case t => decide))
  | (refine' Sp.fldD (by assumption) ?i ?o ?l ?c ?_; (case i => walk_at "isv"); (case o => rfl); (case l => rfl); (case c => decide))
  | (refine' Sp.fldRaw (by assumption) (by assumption) (by rfl) (by decide) (by decide) ?_)
  | (refine' Sp.methRaw (by assumption) (by rfl) ?_)
  | (refine' Sp.setRaw (by assumption) (by assumption) (by rfl) (by decide) (by decide) ?_)
  | (refine' Sp.strD ?i ?o ?_; (case i => walk_at "isv"); (case o => rfl))
  | (refine' Sp.methD ?i ?o ?l ?_; (case i => walk_at "isv"); (case o => rfl); (case l => rfl))
  | (refine' Sp.propD ?i ?o ?_; (case i => walk_at "isv"); (case o => rfl))
  | (refine' Sp.binD ?i ?o ?j ?e ?_; (case i => walk_at "isv"); (case o => rfl); (case j => walk_at "isv"); (case e => rfl))
  | (refine' Sp.unD ?i ?o ?_; (case i => walk_at "isv"); (case o => rfl))
  | (refine' Sp.absD ?i ?o ?_; (case i => walk_at "isv"); (case o => rfl))
  | (refine' Sp.eqOwnD (by assumption) ?i ?o ?j ?e ?n ?_; (case i => walk_at "isv"); (case o => rfl); (case j => walk_at "isv"); (case e => walk_at "okt"); (case n => walk_at "nf"))
  | (refine' Sp.neOwnD (by assumption) ?i ?o ?j ?e ?n ?_; (case i => walk_at "isv"); (case o => rfl); (case j => walk_at "isv"); (case e => walk_at "okt"); (case n => walk_at "nf"))
  | (refine' Sp.tupD (by assumption) ?i ?l ?_; (case i => walk_at "isvs"); (case l => rfl); intro _ _ _)
  | (refine' Sp.lstD (by assumption) ?i ?l ?_; (case i => walk_at "isvs"); (case l => rfl); intro _ _ _)
  | (refine' Sp.raiseD (by assumption) ?i ?e ?l ?_; (case i => walk_at "isvs"); (case e => rfl); (case l => rfl))
  | (refine' Sp.setD (by assumption) (by assumption) rfl rfl rfl (by decide) (by decide) ?_; intro _ _)
  | (refine' Sp.ixTD ?i ?e ?g ?_; (case i => walk_at "isv"); (case e => rfl); (case g => rfl))
  | (refine' Sp.ixLD ?i ?e ?g ?_; (case i => walk_at "isv"); (case e => rfl); (case g => rfl))
  | (refine' Sp.gTupD ?i ?e ?_; (case i => walk_at "isv"); (case e => rfl))
  | refine' Sp.lamR (by assumption) ?_
  | (refine' Sp.finD' (by assumption) (by assumption) ?i; (case i => walk_at "isv"))
  | refine' Sp.finE' (by assumption) (by assumption)
  | refine' Sp.finIE (by assumption) (by assumption) (by assumption)
  | (refine' Sp.dipD (by assumption) (by omega) ?m0 ?m1 ?n ?_; (case m0 => first | decide | omega); (case m1 => first | decide | omega); (case n => first | rfl | assumption); intro _ _ _ _ _)
  | (refine' Sp.lawLB (by assumption) ?i ?z ?r ?_; (case i => walk_at "isvs"); (case z => walk_at "dsok"); (case r => walk_at "rel"); intro _ _)
  | (refine' Sp.lawL (by assumption) ?i ?z ?r ?_; (case i => walk_at "isvs"); (case z => walk_at "dsok"); (case r => walk_at "rel"); intro _ _ _)
  | (refine' Sp.lawP (by assumption) ?i ?z ?nd ?pr (by omega) ?nl ?_; (case i => walk_at "isvs"); (case z => walk_at "dsok"); (case nd => rfl); (case pr => walk_at "pre"); (case nl => first | rfl | assumption))
  | (refine' Sp.dctD (by assumption) ?_; intro _ _ _)
  | (refine' Sp.eqDD ?i ?j ?e ?f ?s ?t ?_; (case i => walk_at "isv"); (case j => walk_at "isv"); (case e => rfl); (case f => rfl); (case s => walk_at "shp"); (case t => walk_at "shp"))
  | (refine' Sp.neDD ?i ?j ?e ?f ?s ?t ?_; (case i => walk_at "isv"); (case j => walk_at "isv"); (case e => rfl); (case f => rfl); (case s => walk_at "shp"); (case t => walk_at "shp"))
  | (refine' Sp.readCO ?i ?ot ?r ?_; (case i => walk_at "isv"); (case ot => walk_at "okt"); (case r => first | assumption | exact Sp.rd_own (by assumption)))
  | (refine' Sp.finLB (by assumption) (by assumption) ?e; (case e => first | rfl | assumption | exact Sp.eqr (by walk_at "shp")))
  | refine' Sp.aeNa (by assumption) ?_
  | (refine' Sp.lawLB (by assumption) ?i ?z ?r ?_; (case i => walk_at "isvs"); (case z => walk_at "dsok"); (case r => walk_at "rel"); intro _ _)
  | refine' Sp.enumI ?_
  | (refine' Sp.enumD ?i ?_; (case i => walk_at "isv"); intro _ _ _)
  | (refine' Sp.appL (by assumption) (by assumption) ?i ?j ?nl ?nd ?hl ?_; (case i => walk_at "isv"); (case j => walk_at "isv"); (case nl => first | rfl | assumption); (case nd => rfl); (case hl => rfl); intro _ _)
  | (refine' Sp.binXD (by assumption) ?i ?o ?j ?z ?T ?_; (case i => walk_at "isv"); (case o => rfl); (case j => walk_at "isv"); (case z => walk_at "okt"); (case T => assumption))
  | (refine' Sp.mateN ?i ?o (by assumption) ?z ?_; (case i => walk_at "isv"); (case o => walk_at "okt"); (case z => walk_at "sz1"))
  | (refine' Sp.catD (by assumption) ?i ?j ?l ?_; (case i => walk_at "isv"); (case j => walk_at "isv"); (case l => rfl); intro _ _ _)
  | (refine' Sp.lamD (by assumption) ?_; intro _ _ _ _)
  | (refine' Sp.hokD (by assumption) ?i ?_; (case i => walk_at "isv"); intro _ _ _)
  | (refine' Sp.herP1 (by assumption) ?m ?l ?_; (case m => walk_at "mem"); (case l => rfl); intro _ _ _)
  | (refine' Sp.herP2 (by assumption) ?m ?l ?l2 ?_; (case m => walk_at "mem"); (case l => rfl); (case l2 => rfl); intro _ _ _)
  | (refine' Sp.finL (by assumption) (by assumption) ?i; (case i => walk_at "isv"))
  | fail)
local macro_rules | `(tactic| walk_at "rd1N") => `(tactic| first
  | apply Sp.exI
  | (refine And.intro ?lf ?_; (case lf => walk_at "leaf"))
  | (show @ite Prop (_ = true) _ _ _; first | refine' Sp.iteT (by first | assumption | rfl | exact Sp.nbT (by assumption) | exact Sp.nbF (by assumption)) ?_ | refine' Sp.iteF (by first | assumption | rfl | exact Sp.nbT (by assumption) | exact Sp.nbF (by assumption) | exact Sp.nbF (Sp.eqr (by walk_at "shp"))) ?_)
  | (refine' Sp.afInt (by assumption) ?_; intro _ _) | (refine' Sp.afBl (by assumption) ?_; intro _ _) | (refine' Sp.afStr (by assumption) ?_; intro _ _) | (refine' Sp.afNon (by assumption) ?_; intro _ _)
  | (refine' Sp.afOwn (by assumption) (by rfl) ?_; intro _ _ _) | (refine' Sp.afTup (by assumption) ?_; intro _ _ _) | (refine' Sp.afRef (by assumption) ?_; intro _ _ _)
  | refine' Sp.asInt ?_ | refine' Sp.asBl ?_ | refine' Sp.asStr ?_ | refine' Sp.asNon ?_
  | (refine' Sp.asOwn (by assumption) (by rfl) ?_; intro _ _) | (refine' Sp.asTup (by assumption) ?_; intro _ _) | (refine' Sp.asRef (by assumption) ?_; intro _ _)
  | refine' Sp.aaInt ?_ | refine' Sp.aaBl ?_ | refine' Sp.aaStr ?_ | refine' Sp.aaNon ?_ | (refine' Sp.aaOwn (by assumption) (by rfl) ?_; intro _ _) | (refine' Sp.aaTup (by assumption) ?_; intro _ _) | (refine' Sp.aaAny (by assumption) ?_; intro _ _) | refine' Sp.aaNil ?_
  | (refine' Sp.fnR ?i ?z ?r ?_; (case i => walk_at "isvs"); (case z => walk_at "dsok"); (case r => walk_at "rel"))
  | (refine' Sp.makeOk ?i ?z ?r ?o ?_; (case i => walk_at "isvs"); (case z => walk_at "dsok"); (case r => walk_at "rel"); (case o => rfl))
  | (refine' Sp.makeEr ?i ?z ?r ?_; (case i => walk_at "isvs"); (case z => walk_at "dsok"); (case r => walk_at "rel"))
  | (refine' Sp.isiD (by assumption) ?i ?c ?o ?t ?_; (case i => walk_at "isv"); (case c => walk_at "cls"); (case o => walk_at "okt"); (case t => decide))
  | (refine' Sp.fldD (by assumption) ?i ?o ?l ?c ?_; (case i => walk_at "isv"); (case o => rfl); (case l => rfl); (case c => decide))
  | (refine' Sp.fldRaw (by assumption) (by assumption) (by rfl) (by decide) (by decide) ?_)
  | (refine' Sp.methRaw (by assumption) (by rfl) ?_)
  | (refine' Sp.setRaw (by assumption) (by assumption) (by rfl) (by decide) (by decide) ?_)
  | (refine' Sp.strD ?i ?o ?_; (case i => walk_at "isv"); (case o => rfl))
  | (refine' Sp.methD ?i ?o ?l ?_; (case i => walk_at "isv"); (case o => rfl); (case l => rfl))
  | (refine' Sp.propD ?i ?o ?_; (case i => walk_at "isv"); (case o => rfl))
  | (refine' Sp.binD ?i ?o ?j ?e ?_; (case i => walk_at "isv"); (case o => rfl); (case j => walk_at "isv"); (case e => rfl))
  | (refine' Sp.unD ?i ?o ?_; (case i => walk_at "isv"); (case o => rfl))
  | (refine' Sp.absD ?i ?o ?_; (case i => walk_at "isv"); (case o => rfl))
  | (refine' Sp.eqOwnD (by assumption) ?i ?o ?j ?e ?n ?_; (case i => walk_at "isv"); (case o => rfl); (case j => walk_at "isv"); (case e => walk_at "okt"); (case n => walk_at "nf"))
  | (refine' Sp.neOwnD (by assumption) ?i ?o ?j ?e ?n ?_; (case i => walk_at "isv"); (case o => rfl); (case j => walk_at "isv"); (case e => walk_at "okt"); (case n => walk_at "nf"))
  | (refine' Sp.raiseD (by assumption) ?i ?e ?l ?_; (case i => walk_at "isvs"); (case e => rfl); (case l => rfl))
  | (refine' Sp.setD (by assumption) (by assumption) rfl rfl rfl (by decide) (by decide) ?_; intro _ _)
  | (refine' Sp.ixTD ?i ?e ?g ?_; (case i => walk_at "isv"); (case e => rfl); (case g => rfl))
  | (refine' Sp.ixLD ?i ?e ?g ?_; (case i => walk_at "isv"); (case e => rfl); (case g => rfl))
  | (refine' Sp.gTupD ?i ?e ?_; (case i => walk_at "isv"); (case e => rfl))
  | refine' Sp.lamR (by assumption) ?_
  | (refine' Sp.finD' (by assumption) (by assumption) ?i; (case i => walk_at "isv"))
  | refine' Sp.finE' (by assumption) (by assumption)
  | refine' Sp.finIE (by assumption) (by assumption) (by assumption)
  | (refine' Sp.dipD (by assumption) (by omega) ?m0 ?m1 ?n ?_; (case m0 => first | decide | omega); (case m1 => first | decide | omega); (case n => first | rfl | assumption); intro _ _ _ _ _)
  | (refine' Sp.lawLB (by assumption) ?i ?z ?r ?_; (case i => walk_at "isvs"); (case z => walk_at "dsok"); (case r => walk_at "rel"); intro _ _)
  | (refine' Sp.lawL (by assumption) ?i ?z ?r ?_; (case i => walk_at "isvs"); (case z => walk_at "dsok"); (case r => walk_at "rel"); intro _ _ _)
  | (refine' Sp.lawP (by assumption) ?i ?z ?nd ?pr (by omega) ?nl ?_; (case i => walk_at "isvs"); (case z => walk_at "dsok"); (case nd => rfl); (case pr => walk_at "pre"); (case nl => first | rfl | assumption))
  | (refine' Sp.dctD (by assumption) ?_; intro _ _ _)
  | (refine' Sp.eqDD ?i ?j ?e ?f ?s ?t ?_; (case i => walk_at "isv"); (case j => walk_at "isv"); (case e => rfl); (case f => rfl); (case s => walk_at "shp"); (case t => walk_at "shp"))
  | (refine' Sp.neDD ?i ?j ?e ?f ?s ?t ?_; (case i => walk_at "isv"); (case j => walk_at "isv"); (case e => rfl); (case f => rfl); (case s => walk_at "shp"); (case t => walk_at "shp"))
  | (refine' Sp.lamD (by assumption) ?_; intro _ _ _ _)
  | (refine' Sp.hokD (by assumption) ?i ?_; (case i => walk_at "isv"); intro _ _ _)
  | (refine' Sp.herP1 (by assumption) ?m ?l ?_; (case m => walk_at "mem"); (case l => rfl); intro _ _ _)
  | (refine' Sp.herP2 (by assumption) ?m ?l ?l2 ?_; (case m => walk_at "mem"); (case l => rfl); (case l2 => rfl); intro _ _ _)
  | (refine' Sp.finL (by assumption) (by assumption) ?i; (case i => walk_at "isv"))
  | fail)
local macro_rules | `(tactic| walk_at "rdN") => `(tactic| repeat (walk_at "rd1N"))
local macro_rules | `(tactic| walk_at "rd") => `(tactic| repeat (walk_at "rd1"))
local macro_rules | `(tactic| walk_at "zs") => `(tactic| (refine' Sp.zsStart (by assumption) ?_; repeat (first | refine' Sp.zsNil ?_ | (refine' Sp.zsInt ?_; intro _) | (refine' Sp.zsRat ?_; intro _) | (refine' Sp.zsStep ?_; intro _ _) | (refine' Sp.zsStem ?_; intro _ _) | (refine' Sp.zsTable ?_; intro _ _ _ _) | (refine' Sp.zsAny ?_; intro _ _))))
local macro_rules | `(tactic| walk_at "go0") => `(tactic| (walk_at "zs"; (have := Sp.Env.of (K := ‹PySem.W.Frag›) ‹L2.Hp›); walk_at "args"))
local macro_rules | `(tactic| walk_at "go") => `(tactic| (walk_at "go0"; walk_at "rd"))
local macro_rules | `(tactic| walk_at "goI0") => `(tactic| (walk_at "zs"; (have := Sp.Env.ofI (K := ‹PySem.W.Frag›) (H := ‹L2.Hp›) (by assumption)); walk_at "args"))
local macro_rules | `(tactic| walk_at "goI") => `(tactic| (walk_at "goI0"; walk_at "rd"))
local macro_rules | `(tactic| walk_at "goL") => `(tactic| (walk_at "zs"; walk_at "args"; walk_at "rd"))
local macro_rules | `(tactic| walk_at "rel") => `(tactic| first
  | (apply Sp.RIsInt.mk <;> walk_at "sc")
  | (apply Sp.RIsRat.mk <;> walk_at "sc")
  | (apply Sp.RSign.mk <;> walk_at "sc")
  | (apply Sp.RInitR.one <;> walk_at "sc")
  | (apply Sp.RInitR.ok <;> walk_at "sc")
  | (apply Sp.RInitR.z <;> walk_at "sc")
  | (apply Sp.RInitR.t <;> walk_at "sc")
  | (apply Sp.RInitR.b <;> walk_at "sc")
  | (apply Sp.ROf.r <;> walk_at "sc")
  | (apply Sp.ROf.i <;> walk_at "sc")
  | (apply Sp.ROf.n <;> walk_at "sc")
  | (apply Sp.RBinR.r <;> walk_at "sc")
  | (apply Sp.RBinR.i <;> walk_at "sc")
  | (apply Sp.RBinR.n <;> walk_at "sc")
  | (apply Sp.ROver.r <;> walk_at "sc")
  | (apply Sp.ROver.i <;> walk_at "sc")
  | (apply Sp.ROver.z <;> walk_at "sc")
  | (apply Sp.ROver.zi <;> walk_at "sc")
  | (apply Sp.ROver.n <;> walk_at "sc")
  | (apply Sp.RCmp.r <;> walk_at "sc")
  | (apply Sp.RCmp.i <;> walk_at "sc")
  | (apply Sp.RCmp.n <;> walk_at "sc")
  | (apply Sp.RBelow.r <;> walk_at "sc")
  | (apply Sp.RBelow.i <;> walk_at "sc")
  | (apply Sp.RBelow.n <;> walk_at "sc")
  | (apply Sp.RUnR.mk <;> walk_at "sc")
  | (apply Sp.REqR.r <;> walk_at "sc")
  | (apply Sp.REqR.i <;> walk_at "sc")
  | (apply Sp.REqR.n <;> walk_at "sc")
  | (apply Sp.RPropR.mk <;> walk_at "sc")
  | (apply Sp.RInitS.ok <;> walk_at "sc")
  | (apply Sp.RInitS.z <;> walk_at "sc")
  | (apply Sp.RInitS.s <;> walk_at "sc")
  | (apply Sp.RInitS.r <;> walk_at "sc")
  | (apply Sp.RNeed.ok <;> walk_at "sc")
  | (apply Sp.RNeed.no <;> walk_at "sc")
  | (apply Sp.RNeedK.ok <;> walk_at "sc")
  | (apply Sp.RNeedK.z <;> walk_at "sc")
  | (apply Sp.RCross.ok <;> walk_at "sc")
  | (apply Sp.RCross.one <;> walk_at "sc")
  | (apply Sp.RCross.oth <;> walk_at "sc")
  | (apply Sp.RAreN.ok <;> walk_at "sc")
  | (apply Sp.RAreN.one <;> walk_at "sc")
  | (apply Sp.RAreN.oth <;> walk_at "sc")
  | (apply Sp.RNeedN.ok <;> walk_at "sc")
  | (apply Sp.RNeedN.no <;> walk_at "sc")
  | (apply Sp.RNeedN.one <;> walk_at "sc")
  | (apply Sp.RNeedN.oth <;> walk_at "sc")
  | (apply Sp.RBetween.ok <;> walk_at "sc")
  | (apply Sp.RBetween.no <;> walk_at "sc")
  | (apply Sp.RBetween.one <;> walk_at "sc")
  | (apply Sp.RBetween.oth <;> walk_at "sc")
  | (apply Sp.RSummed.ok <;> walk_at "sc")
  | (apply Sp.RSummed.z <;> walk_at "sc")
  | (apply Sp.RBinS.ok <;> walk_at "sc")
  | (apply Sp.RBinS.z <;> walk_at "sc")
  | (apply Sp.RBinS.n <;> walk_at "sc")
  | (apply Sp.RMulS.ok <;> walk_at "sc")
  | (apply Sp.RMulS.z <;> walk_at "sc")
  | (apply Sp.RMulS.n <;> walk_at "sc")
  | (apply Sp.RNegS.mk <;> walk_at "sc")
  | (apply Sp.REqS.s <;> walk_at "sc")
  | (apply Sp.REqS.n <;> walk_at "sc")
  | (apply Sp.RIsUp.mk <;> walk_at "sc")
  | (apply Sp.ROneR.mk <;> walk_at "sc")
  | (apply Sp.RCorner.ok <;> walk_at "sc")
  | (apply Sp.RCorner.z <;> walk_at "sc")
  | (apply Sp.RUpw_up <;> walk_at "sc")
  | (apply Sp.RUpw_dn <;> walk_at "sc")
  | (apply Sp.RStrS.mk <;> walk_at "sc")
  | (apply Sp.RTold.ok <;> walk_at "sc")
  | (apply Sp.RTold.no <;> walk_at "sc")
  | (apply Sp.RComm.mk <;> walk_at "sc")
  | (apply Sp.RNear.mk <;> walk_at "sc")
  | (apply Sp.ROne.mk <;> walk_at "sc")
  | (apply Sp.RTwo.mk <;> walk_at "sc")
  | fail)
local macro_rules | `(tactic| walk_at "nf") => `(tactic| first | exact (‹∀ t ∈ Sp.tsL, PySem.W.notFirst ‹PySem.W.Frag› (Sp.ca ‹PySem.W.Frag› Sp.Cn.Step) (Sp.tv ‹PySem.W.Frag› t) = true›) (Sp.Ty0.own Sp.Cn.Step) (by decide) | exact (‹∀ t ∈ Sp.tsL, PySem.W.notFirst ‹PySem.W.Frag› (Sp.ca ‹PySem.W.Frag› Sp.Cn.Step) (Sp.tv ‹PySem.W.Frag› t) = true›) Sp.Ty0.tuple (by decide) | fail)
local macro_rules | `(tactic| walk_at "pre") => `(tactic| first | rfl | exact ⟨_, _, rfl, by assumption⟩)
namespace Sp
open PySem PySem.Spec PyProof.Rows L2
open PySem.W (Frag)
section
variable {P : Program} {w : World} {K : PySem.W.Frag} {mg : Str → Option Value} {base : Heap} {f : Addr} {fd : FuncData} {T : List (Addr × Str)}
variable (h_gcd : mg "gcd" = some (.builtin "math.gcd")) {tk1 tk2 : Tok} (h_most : mg "MOST_DIGITS" = some (.int 60 tk1)) (h_digits : mg "DIGITS" = some (.str "0123456789" tk2)) (h_all : mg "all" = none)
variable (g_xBadRatio : GXN P w K mg base 1 "BadRatio" ["part"] (cX K "BadRatio"))
  (g_xBadStep : GXN P w K mg base 1 "BadStep" ["part"] (cX K "BadStep"))
  (g_xBadNumber : GXN P w K mg base 1 "BadNumber" ["part"] (cX K "BadNumber"))
  (g_xRound : GXN P w K mg base 1 "Round" ["part"] (cX K "Round"))
  (g_xNotNeighbours : GXN P w K mg base 1 "NotNeighbours" ["one", "other"] (cX K "NotNeighbours"))
  (g_xCommon : GXN P w K mg base 1 "Common" ["divisor"] (cX K "Common"))
  (g_xBadText : GXN P w K mg base 1 "BadText" ["line", "word"] (cX K "BadText"))
  (g_is_integer : GD P w K mg base (L2.CX P w) 1 "is_integer" ["value"] [] (spR K csL tsL 3900 RIsInt))
  (g_is_ratio : GD P w K mg base (L2.CX P w) 2 "is_ratio" ["value"] [] (spR K csL tsL 3900 RIsRat))
  (g_sign_of : GD P w K mg base (L2.CX P w) 1 "sign_of" ["number"] [] (spR K csL tsL 100000 RSign))
  (g_mRatio : GM P w K mg base (L2.CX P w) 3 "Ratio" (ca K .Ratio) ["self", "top", "bottom"] [] (spRI K csL tsL .Ratio 3900 RInitR)) (g_mRatio1 : GM P w K mg base (L2.CX P w) 3 "Ratio" (ca K .Ratio) ["self", "top", "bottom"] [.int 1] (spRI K csL tsL .Ratio 3900 RInitR))
  (g_Ratio_of : GS P w K mg base (L2.CX P w) 5 (ca K .Ratio) "of" (spR K csL tsL 3900 (ROf "BadRatio" "value")))
  (g_at_right : GD P w K mg base (L2.CX P w) 6 "at_right" ["value"] [] (spR K csL tsL 3900 (ROf "BadRatio" "other")))
  (g_Ratio_Add : GO P w K mg base (L2.CX P w) 7 (ca K .Ratio) .Add (spR K csL tsL 1900 (RBinR (· + ·))))
  (g_Ratio_Sub : GO P w K mg base (L2.CX P w) 7 (ca K .Ratio) .Sub (spR K csL tsL 1900 (RBinR (· - ·))))
  (g_Ratio_Mult : GO P w K mg base (L2.CX P w) 7 (ca K .Ratio) .Mult (spR K csL tsL 1900 (RBinR (· * ·))))
  (g_Ratio_over : GH P w K mg base (L2.CX P w) 7 (ca K .Ratio) "over" ["self", "other"] (spR K csL tsL 1900 ROver))
  (g_Ratio_USub : GN P w K mg base (L2.CX P w) 5 (ca K .Ratio) "__neg__" (spR K csL tsL 3900 (RUnR (fun q => -q))))
  (g_Ratio_abs : GN P w K mg base (L2.CX P w) 5 (ca K .Ratio) "__abs__" (spR K csL tsL 3900 (RUnR qabs)))
  (g_Ratio_eq : GN P w K mg base (L2.CX P w) 2 (ca K .Ratio) "__eq__" (spR K csL tsL 3900 REqR)) (g_Ratio_eq_ne : GNe P w K mg base (L2.CX P w) 2 (ca K .Ratio) (spR K csL tsL 3900 REqR)) (nf_Ratio : ∀ t ∈ tsL, PySem.W.notFirst K (ca K .Ratio) (tv K t) = true)
  (g_Ratio_sign : GP P w K mg base (L2.CX P w) 2 (ca K .Ratio) "sign" (spR K csL tsL 3900 (RPropR fun q => .int q.num.sign)))
  (g_Ratio_below : GP P w K mg base (L2.CX P w) 1 (ca K .Ratio) "below" (spR K csL tsL 3900 (RPropR fun q => .int q.floor)))
  (g_mStep : GM P w K mg base (L2.CX P w) 3 "Step" (ca K .Step) ["self", "studs", "rounds"] [] (spRI K csL tsL .Step 3900 RInitS))
  (g_need_step : GD P w K mg base (L2.CX P w) 3 "need_step" ["value", "part"] [] (spR K csL tsL 100000 (RNeed .Step "BadStep")))
  (g_need_studs : GD P w K mg base (L2.CX P w) 3 "need_studs" ["step", "part"] [] (spR K csL tsL 100000 RNeedK))
  (g_is_upward : GD P w K mg base (L2.CX P w) 1 "is_upward" ["step"] [] (spR K csL tsL 3900 RIsUp))
  (g_summed : GD P w K mg base (L2.CX P w) 5 "summed" ["studs", "rounds"] [] (spR K csL tsL 3900 RSummed))
  (g_Step_Add : GO P w K mg base (L2.CX P w) 6 (ca K .Step) .Add (spR K csL tsL 1900 (RBinS (· + ·))))
  (g_Step_Sub : GO P w K mg base (L2.CX P w) 6 (ca K .Step) .Sub (spR K csL tsL 1900 (RBinS (· - ·))))
  (g_Step_USub : GN P w K mg base (L2.CX P w) 5 (ca K .Step) "__neg__" (spR K csL tsL 3900 RNegS))
  (g_Step_Mult : GO P w K mg base (L2.CX P w) 5 (ca K .Step) .Mult (spR K csL tsL 1900 RMulS))
  (g_Step_eq : GN P w K mg base (L2.CX P w) 1 (ca K .Step) "__eq__" (spR K csL tsL 3900 REqS)) (g_Step_eq_ne : GNe P w K mg base (L2.CX P w) 1 (ca K .Step) (spR K csL tsL 3900 REqS)) (nf_Step : ∀ t ∈ tsL, PySem.W.notFirst K (ca K .Step) (tv K t) = true)
  (g_Step_upward : GP P w K mg base (L2.CX P w) 5 (ca K .Step) "upward" (spR K csL tsL 3900 RUpw))
  (g_Step_corner : GP P w K mg base (L2.CX P w) 5 (ca K .Step) "corner" (spR K csL tsL 3900 RCorner))
  (g_Step_one_round : GS0 P w K mg base (L2.CX P w) 5 (ca K .Step) "one_round" (spR K csL tsL 3900 ROneR))
  (g_cross : GD P w K mg base (L2.CX P w) 4 "cross" ["one", "other"] [] (spR K csL tsL 1900 RCross))
  (g_are_neighbours : GD P w K mg base (L2.CX P w) 5 "are_neighbours" ["one", "other"] [] (spR K csL tsL 1900 RAreN))
  (g_need_neighbours : GD P w K mg base (L2.CX P w) 6 "need_neighbours" ["one", "other"] [] (spR K csL tsL 1900 RNeedN))
  (g_between : GD P w K mg base (L2.CX P w) 7 "between" ["one", "other"] [] (spR K csL tsL 1900 RBetween))
  (g_integer_of : GD P w K mg base (L2.CX P w) 1 "integer_of" ["word"] [] (spR K csL tsL 100000 RIntOf))
  (g_mWords : GM P w K mg base (L2.CX P w) 1 "Words" (ca K .Words) ["self", "words", "done", "last"] [] (spInitW K))
  (g_Words_is_over : GH P w K mg base (L2.CX P w) 1 (ca K .Words) "is_over" ["self"] (spWp K RIsOver))
  (g_Words_take : GH P w K mg base (L2.CX P w) 3 (ca K .Words) "take" ["self"] (spW K RTake))
  (g_Words_refuse : GH P w K mg base (L2.CX P w) 3 (ca K .Words) "refuse" ["self"] (spW K RRefuse))
  (g_Words_integer : GH P w K mg base (L2.CX P w) 4 (ca K .Words) "integer" ["self"] (spW K RInteg))
  (g_Words_end : GH P w K mg base (L2.CX P w) 3 (ca K .Words) "end" ["self"] (spWp K REndW))
  (g_words_in : GD P w K mg base (L2.CX P w) 3 "words_in" ["text"] [] (spWords K csL tsL))
  (g_take_step : GD P w K mg base (L2.CX P w) 5 "take_step" ["words"] [] (spW K RTakeS))
  (g_read_whole : GD P w K mg base (L2.CX P w) 6 "read_whole" ["text", "take"] [] (spReadW K csL tsL (He.ga K "take_step") RTakeS))
  (g_Step_read : GC P w K mg base (L2.CX P w) 7 (ca K .Step) "read" (spReadC K csL tsL RTakeS))
  (g_Step_str : GN P w K mg base (L2.CX P w) 1 (ca K .Step) "__str__" (spR K csL tsL 3900 RStrS))
  (g_inverse : GD P w K mg base (L2.CX P w) 1 "inverse" ["number", "modulus"] [] (spInv K))
  (g_mate : GD P w K mg base (L2.CX P w) 5 "mate" ["step"] [] (spMate K csL tsL))
  (g_l_pail : GD P w K mg base (L2.CX P w) 1 "_law_pail" ["_law_script"] [] (spPail K))
  (g_l_dip : GD P w K mg base (L2.CX P w) 1 "_law_dip" ["_law_pail_here", "_law_many"] [] spDip)
  (g_l_number : GD P w K mg base (L2.CX P w) 2 "_law_number" ["_law_pail_here", "_law_many"] [] (spLP K csL tsL T 60 900000 3 (fun ds => ds = [.int 30]) (fun _ d => ∃ i : Int, d = .int i ∧ i.natAbs < 2 ^ 46)))
  (g_l_pair : GD P w K mg base (L2.CX P w) 3 "_law_pair" ["_law_pail_here"] [] (spLP K csL tsL T 60 800000 20 (fun ds => ds = []) (fun _ d => ∃ k j : Int, d = .tup [.int k, .int j] ∧ Pk 49 k j)))
  (g_l_common : GD P w K mg base (L2.CX P w) 1 "_law_common" ["_law_one", "_law_other"] [] (spR K csL tsL 60 RComm))
  (g_l_told : GD P w K mg base (L2.CX P w) 1 "_law_told" ["_law_step"] [] (spR K csL tsL 100000 RTold))
  (g_l_nearest : GD P w K mg base (L2.CX P w) 1 "_law_nearest" ["_law_pair_here"] [] (spR K csL tsL 60 RNear))
  (g_l_one_right : GD P w K mg base (L2.CX P w) 18 "_law_one_right" ["_law_pair_here"] [] (spL K csL tsL T 60 ROne))
  (g_l_two_right : GD P w K mg base (L2.CX P w) 18 "_law_two_right" ["_law_one", "_law_other"] [] (spL K csL tsL T 60 RTwo))
  (g_l_mate_right : GD P w K mg base (L2.CX P w) 18 "_law_mate_right" ["_law_pair_here"] [] (spL K csL tsL T 60 ROne))
  (g_l_refused_right : GD P w K mg base (L2.CX P w) 18 "_law_refused_right" ["_law_pail_here", "_law_pair_here"] [] (spLP K csL tsL T 60 700000 5 (fun ds => ∃ k j : Int, ds = [.tup [.int k, .int j]] ∧ Pk 52 k j) (fun _ d => d = .bl true)))
  (g_l_text_right : GD P w K mg base (L2.CX P w) 18 "_law_text_right" ["_law_pail_here", "_law_pair_here"] [] (spLP K csL tsL T 60 700000 10 (fun ds => ∃ k j : Int, ds = [.tup [.int k, .int j]] ∧ Pk 52 k j) (fun _ d => d = .bl true)))
  (g_law : GD P w K mg base (L2.CX P w) 19 "law" ["_law_script"] [] (spLaw K T))
variable (g_take_step_l : GL P w K mg base (L2.CX P w) 5 "take_step" (spW K RTakeS))
variable (g_mStep_krs : GMK P w K mg base (L2.CX P w) 3 "Step" (ca K .Step) ["rounds", "studs"] [1, 0] (spRI K csL tsL .Step 3900 RInitS))
  (g_cross_k : GDK P w K mg base (L2.CX P w) 4 "cross" ["other", "one"] 2 [1, 0] (spR K csL tsL 1900 RCross))

theorem sc_law : FnScope ["_law_script", "_law_pail_here", "_law_pairs", "_law_times", "_law_studs", "_law_rounds", "_law_near", "_law_at", "_law_one", "_law_turn"] ["_law_script"] (defScope (topS 55)) := ⟨rfl, rfl, rfl, by decide +kernel, rfl, by decide +kernel, by decide +kernel⟩
include g_Step_Mult g_Step_one_round g_l_common g_l_dip g_l_mate_right g_l_one_right g_l_pail g_l_pair g_l_refused_right g_l_text_right g_l_told g_l_two_right g_mStep g_mate in
theorem ok_law (G : G0 K mg csL tsL) (F : FP K "law" "law" (topS 55) [] f fd) : FnOk P w K mg base (L2.CX P w) 19 f fd ["_law_script"] (spLaw K T) := by
  have nd := sc_law.nd
  refine F.ok sc_law (fun vs H Q E h => by obtain ⟨_, _, rfl, _⟩ := h; rfl) (fun cdv A outer s H vs Q E hr h => ⟨_, pss_cons (ps_set (i := 1) nd rfl (Or.inr rfl) (pe_gd g_l_pail (hr.mono (by decide)) rfl (pxE rfl rfl rfl rfl) (pa_cons (pv 0) (pa_nil)))) (pss_cons (ps_setLc (i := 2) (own := [("_law_turn", 9)]) (g := gName 9) (tt := tYes) rfl nd rfl rfl (sw_true rfl rfl rfl rfl) (pi_range1 rfl G.nm.range (pa_cons (pe_int) (pa_nil))) (blkOk_by (N := ["_law_script", "_law_pail_here", "_law_pairs", "_law_times", "_law_studs", "_law_rounds", "_law_near", "_law_at", "_law_one", "_law_turn"]) (sc := defScope (topS 55)) (by decide +kernel)) (fun _ _ _ _ _ => pg_name (i := 9) nd rfl (Or.inl rfl)) (fun _ _ _ _ _ => pts_nil) (fun _ _ _ _ _ => pe_gd g_l_pair (hr.mono (by decide)) rfl pxF (pa_cons (pv 1) (pa_nil)))) (pss_cons (ps_set (i := 3) nd rfl (Or.inl rfl) (pe_op op_sub (pe_gd g_l_dip (hr.mono (by decide)) rfl (pxE rfl rfl rfl rfl) (pa_cons (pv 1) (pa_cons (pe_int) (pa_nil)))) (pe_int))) (pss_cons (ps_expr (pe_bm PySem.F.plainAttrs_list PySem.F.slot_list_append PySem.F.type_list_append mt_append (pv 2) (pa_cons (pe_ifExp (pt_cmpR op_ne (pv 3) (pe_int) (nomark _)) (pe_tupE (pa_cons (pe_op op_mulB (pe_ix ix_tup (pe_ix ix_list (pv 2) (pe_int) (fun _ _ => rfl)) (pe_int) (fun _ _ => rfl)) (pv 3)) (pa_cons (pe_op op_mulB (pe_ix ix_tup (pe_ix ix_list (pv 2) (pe_int) (fun _ _ => rfl)) (pe_int) (fun _ _ => rfl)) (pv 3)) (pa_nil)))) (pe_tupE (pa_cons (pe_int) (pa_cons (pe_gd g_l_dip (hr.mono (by decide)) rfl (pxE rfl rfl rfl rfl) (pa_cons (pv 1) (pa_cons (pe_int) (pa_nil)))) (pa_nil))))) (pa_nil)))) (pss_cons (ps_if (PW.pt (pw_and (pt_cmpR op_ne (pv 3) (pe_int) (nomark _)) (pw_and1 (pt_cmpR (op_neD hr.units) (pe_gd g_l_told (hr.mono (by decide)) rfl (pxE rfl rfl rfl rfl) (pa_cons (pe_op (op_go g_Step_Mult (hr.mono (by decide)) (pxE rfl rfl rfl rfl)) (pe_makeD g_mStep (hr.mono (by decide)) rfl (pxE rfl rfl rfl rfl) (pa_cons (pe_ix ix_tup (pe_ix ix_list (pv 2) (pe_int) (fun _ _ => rfl)) (pe_int) (fun _ _ => rfl)) (pa_cons (pe_ix ix_tup (pe_ix ix_list (pv 2) (pe_int) (fun _ _ => rfl)) (pe_int) (fun _ _ => rfl)) (pa_nil)))) (pv 3)) (pa_nil))) (pe_ix ix_list (pv 2) (pe_int) (fun _ _ => rfl)) (nomark _))))) (pss_one (ps_ret (pe_bl))) (pss_nil)) (pss_cons (ps_if (pt_cmpR (op_neD hr.units) (pe_gd g_l_told (hr.mono (by decide)) rfl (pxE rfl rfl rfl rfl) (pa_cons (pe_gs0 (pe_glob (v := .ref (ca K .Step)) rfl (G.mgc .Step (by decide)) rfl) g_Step_one_round (hr.mono (by decide)) (pxE rfl rfl rfl rfl)) (pa_nil))) (pe_tupE (pa_cons (pe_int) (pa_cons (pe_int) (pa_nil)))) (nomark _)) (pss_one (ps_ret (pe_bl))) (pss_nil)) (pss_cons (ps_asg (pe_ix ix_list (pv 2) (pe_int) (fun _ _ => rfl)) (pg_tup rfl (pgs_cons (pg_name (i := 4) nd rfl (Or.inl rfl)) (pgs_cons (pg_name (i := 5) nd rfl (Or.inl rfl)) (pgs_nil))))) (pss_cons (ps_set (i := 6) nd rfl (Or.inl rfl) (pe_gd g_mate (hr.mono (by decide)) rfl (pxE rfl rfl rfl rfl) (pa_cons (pe_makeD g_mStep (hr.mono (by decide)) rfl (pxE rfl rfl rfl rfl) (pa_cons (pe_op op_fdivB (pv 4) (pe_gd g_l_common (hr.mono (by decide)) rfl (pxE rfl rfl rfl rfl) (pa_cons (pv 4) (pa_cons (pv 5) (pa_nil))))) (pa_cons (pe_op op_fdivB (pv 5) (pe_gd g_l_common (hr.mono (by decide)) rfl (pxE rfl rfl rfl rfl) (pa_cons (pv 4) (pa_cons (pv 5) (pa_nil))))) (pa_nil)))) (pa_nil)))) (pss_cons (ps_expr (pe_bm PySem.F.plainAttrs_list PySem.F.slot_list_append PySem.F.type_list_append mt_append (pv 2) (pa_cons (pe_tupE (pa_cons (pe_fldD (pv 6) rfl) (pa_cons (pe_fldD (pv 6) rfl) (pa_nil)))) (pa_nil)))) (pss_cons (ps_expr (pe_bm PySem.F.plainAttrs_list PySem.F.slot_list_append PySem.F.type_list_append mt_append (pv 2) (pa_cons (pe_tupE (pa_cons (pe_op op_fdivB (pv 4) (pe_gd g_l_common (hr.mono (by decide)) rfl (pxE rfl rfl rfl rfl) (pa_cons (pv 4) (pa_cons (pv 5) (pa_nil))))) (pa_cons (pe_op op_fdivB (pv 5) (pe_gd g_l_common (hr.mono (by decide)) rfl (pxE rfl rfl rfl rfl) (pa_cons (pv 4) (pa_cons (pv 5) (pa_nil))))) (pa_nil)))) (pa_nil)))) (pss_cons (ps_for (passes_of rfl) rfl (pi_enum rfl G.nm.enumerate (pa_cons (pv 2) pa_nil)) (pg_tup rfl (pgs_cons (pg_name (i := 7) nd rfl (Or.inl rfl)) (pgs_cons (pg_name (i := 8) nd rfl (Or.inl rfl)) (pgs_nil)))) (pss_one (ps_if (PW.pt (pw_or (pt_not (pt_val (pe_gd g_l_one_right (hr.mono (by decide)) rfl (pxE rfl rfl rfl rfl) (pa_cons (pv 8) (pa_nil))))) (pw_or (pt_not (pt_val (pe_gd g_l_mate_right (hr.mono (by decide)) rfl (pxE rfl rfl rfl rfl) (pa_cons (pv 8) (pa_nil))))) (pw_or1 (pt_not (pt_val (pe_gd g_l_two_right (hr.mono (by decide)) rfl (pxE rfl rfl rfl rfl) (pa_cons (pv 8) (pa_cons (pe_ix ix_list (pv 2) (pe_op op_sub (pv 7) (pe_int)) (fun _ _ => rfl)) (pa_nil)))))))))) (pss_one (ps_ret (pe_bl))) (pss_nil)))) (pss_one (ps_ret (pe_and (pe_gd g_l_refused_right (hr.mono (by decide)) rfl (pxE rfl rfl rfl rfl) (pa_cons (pv 1) (pa_cons (pe_ix ix_list (pv 2) (pe_int) (fun _ _ => rfl)) (pa_nil)))) (pe_one (pe_gd g_l_text_right (hr.mono (by decide)) rfl (pxE rfl rfl rfl rfl) (pa_cons (pv 1) (pa_cons (pe_ix ix_list (pv 2) (pe_int) (fun _ _ => rfl)) (pa_nil)))))))))))))))))), ?_⟩)
  obtain ⟨sa, ns, rfl, hS, hT, q⟩ := h
  walk_at "rd"
  intro a H1 s1 _ hp
  obtain ⟨c, p1⟩ := hp
  have e0 : Env K (.law T (some (a, c, 0))) H1 H1 [] := Env.ofP (hT.ext s1) p1
  clear hT hS s1 p1
  walk_at "rd"
  intro D hD
  have fr := e0.freshP hD
  refine lc_range (lo := 0) (n := 3) (fun i Hh => Bx (∃ ds, Env K (.law T (some (a, c, 20 * i))) H1 Hh [(.ref D, .lst ds)] ∧ ds.length = i ∧ ∀ d ∈ ds, ∃ k j, d = .tup [.int k, .int j] ∧ Pk 49 k j)) ⟨⟨[], (e0.step (Same.new' hD)).add (.lst upd_same .nil), rfl, fun d i => by cases i⟩⟩ (fun i Hh hi hP => ?_) (fun Hh hP => ?_)
  · obtain ⟨ds, e1, hl, hds⟩ := hP.out
    have nol : noLs ds = true := tups_noL hds
    have nop : noPs [.lst ds] = true := tups_noP hds
    walk_at "rd"
    intro v H2 d r e2
    obtain ⟨k, j, rfl, pk⟩ := r
    obtain ⟨p', vs, ep, hp, ivs⟩ := (e2.get (v := .ref D) (d := .lst ds) (by walk_at "mem")).lstE
    cases ep
    have sl : 3 < sizeLine := by decide
    refine ⟨vs, hp, by rw [ivs.length, hl]; omega, ⟨ds ++ [.tup [.int k, .int j]], ?_, by rw [List.length_append, hl]; rfl, fun d i => ?_⟩⟩
    · have hds' : ∀ d ∈ ds ++ [Dt.tup [.int k, .int j]], ∃ k j, d = .tup [.int k, .int j] ∧ Pk 49 k j := fun d i => by
        rcases List.mem_append.mp i with i | i
        · exact hds d i
        · rw [List.mem_singleton.mp i]
          exact ⟨_, _, rfl, pk⟩
      have e3 := e2.lset fr hp [] (fun e i => by cases i) (ivs.app (.cons (e2.get List.mem_cons_self) .nil)) (tups_noL hds')
      exact e3
    · rcases List.mem_append.mp i with i | i
      · exact hds d i
      · rw [List.mem_singleton.mp i]
        exact ⟨_, _, rfl, pk⟩
  · obtain ⟨ds, e1, hl, hds⟩ := hP.out
    match ds, hl with
    | [d1, d2, d3], _ =>
      obtain ⟨k1, j1, rfl, q1⟩ := hds _ List.mem_cons_self
      obtain ⟨k2, j2, rfl, q2⟩ := hds _ (List.mem_cons_of_mem _ List.mem_cons_self)
      obtain ⟨k3, j3, rfl, q3⟩ := hds _ (List.mem_cons_of_mem _ (List.mem_cons_of_mem _ List.mem_cons_self))
      clear hds
      walk_at "rd"
      rename_i d H3 d0 d8 e2
      have bt : Bi (d - 4) 4 := ⟨by omega⟩
      have b1 : Bi k1 49 := ⟨q1.k⟩
      have b2 : Bi j1 49 := ⟨q1.j⟩
      obtain ⟨g, u, v, hg, hu, hv, puv, guv, g0, gl⟩ := quo q2
      have bg : Bi g 49 := ⟨gl⟩
      have b3 : Bi k2 49 := ⟨q2.k⟩
      have b4 : Bi j2 49 := ⟨q2.j⟩
      have b5 : Bi u 49 := ⟨puv.k⟩
      have b6 : Bi v 49 := ⟨puv.j⟩
      rw [← hg] at hu hv
      have bu : Bi (k2.fdiv g) 49 := by rw [hu]; exact b5
      have bv : Bi (j2.fdiv g) 49 := by rw [hv]; exact b6
      have nzuv : ¬ (k2.fdiv g = 0 ∧ j2.fdiv g = 0) := by rw [hu, hv]; exact puv.nz
      have pq : Pk 49 (k2.fdiv g) (j2.fdiv g) := by rw [hu, hv]; exact puv
      have gq : Nat.gcd (k2.fdiv g).natAbs (j2.fdiv g).natAbs = 1 := by rw [hu, hv]; exact guv
      clear hu hv puv guv b5 b6
      subst hg
      by_cases ht : d - 4 = 0
      case' pos =>
        have t0 : decide (V.int (d - 4) = V.int 0) = true := decide_eq_true (by rw [ht])
        have t1 : decide (V.int (d - 4) ≠ V.int 0) = false := by simpa using ht
        have nz1 := q1.nz
        have p4 : ∀ i : Int, 0 ≤ i → i < 9 → Pk 52 1 i := fun i i0 i9 => ⟨fun z => by have := z.1; omega, by decide, by omega⟩
      case' neg =>
        have t0 : decide (V.int (d - 4) = V.int 0) = false := by simpa using ht
        have t1 : decide (V.int (d - 4) ≠ V.int 0) = true := by simpa using ht
        have nz4 : ¬ (k1 * (d - 4) = 0 ∧ j1 * (d - 4) = 0) := fun z => q1.nz ⟨(Int.mul_eq_zero.mp z.1).resolve_right ht, (Int.mul_eq_zero.mp z.2).resolve_right ht⟩
        have nz1 := q1.nz
        have p4 : Pk 52 (k1 * (d - 4)) (j1 * (d - 4)) := by
          have h1 := q1.k
          have h2 := q1.j
          have h3 : (d - 4).natAbs < 2 ^ 3 := by omega
          exact ⟨nz4, nb_mul (a := 49) (b := 3) h1 h3, nb_mul (a := 49) (b := 3) h2 h3⟩
      all_goals
        walk_at "rd"
        rename_i e9
        refine mateO (e9.get (by walk_at "mem")) rfl (.inl ⟨_, _, rfl, nzuv, nb_le pq.k, nb_le pq.j, fun gg => absurd gg (by rw [gq]; decide), fun _ x y mt => ?_⟩)
        have pxy := mt_pk mt pq
        clear e2 e1
        walk_at "rd"
        rename_i e10 vs hpD ivs0
        obtain ⟨ds, e12, A6, hl6⟩ : ∃ ds, Env K (.law T (some (a, c, 100))) H1 _ [(.ref D, .lst ds)] ∧ (∀ d ∈ ds, ∃ k j, d = .tup [.int k, .int j] ∧ Pk 52 k j) ∧ ds.length = 6 := ⟨_, e10.up (by omega), allApp (allApp (allApp (fun d i => by
          rcases List.mem_cons.mp i with rfl | i
          · exact ⟨_, _, rfl, q1.mono (by decide)⟩
          rcases List.mem_cons.mp i with rfl | i
          · exact ⟨_, _, rfl, q2.mono (by decide)⟩
          rw [List.mem_singleton.mp i]
          exact ⟨_, _, rfl, q3.mono (by decide)⟩) ⟨_, _, rfl, by first | exact p4 | exact p4 _ (by assumption) (by assumption)⟩) ⟨_, _, rfl, pxy⟩) ⟨_, _, rfl, pq.mono (by decide)⟩, rfl⟩
        obtain ⟨p', vs', ep, hpD', ivs⟩ := (e12.get (v := .ref D) (by walk_at "mem")).lstE
        cases ep
        rw [hpD] at hpD'
        cases hpD'
        have hvs := ivs.length.trans hl6
        have e13 := e12.rebase
        clear ivs0
        clear e9 e10 e12 pxy p4 q1 q2 q3 t0 t1 bg bu bv nzuv pq gq mt
        refine for_enum (xs := vs) (fun i σ Hh => Bx (σ.length = 10 ∧ σ[1]? = some (some (V.ref a)) ∧ σ[2]? = some (some (V.ref D)) ∧ Env K (.law T (some (a, c, 100))) _ Hh [(.ref D, .lst ds)])) ⟨⟨rfl, rfl, rfl, e13⟩⟩ (fun i σ Hh _ hP => SqL.of (hP.out.2.2.2.gr D _ (fun q z => by cases z; exact fr.a) (fun ps z => by cases z) hpD)) (fun i x σ Hh T' hx hP hT' => ?_) (fun σ Hh hP => ?_)
        · obtain ⟨hs, h1, h2, e1⟩ := hP.out
          have hD2 := e1.gr D _ (fun q z => by cases z; exact fr.a) (fun ps z => by cases z) hpD
          match σ, hs, h1, h2 with
          | [y0, y1, y2, y3, y4, y5, y6, y7, y8, y9], _, h1, h2 =>
            obtain rfl : y1 = some (V.ref a) := Option.some.inj h1
            obtain rfl : y2 = some (V.ref D) := Option.some.inj h2
            obtain ⟨p2, vs2, ep2, hp2, iv2⟩ := (e1.get (v := .ref D) (by walk_at "mem")).lstE
            cases ep2
            rw [hD2] at hp2
            cases hp2
            have hi : i < 6 := by
              have := (List.getElem?_eq_some_iff.mp hx).1
              omega
            obtain ⟨x', hx', ix⟩ := iv2.get (List.getElem?_eq_getElem (show i < ds.length by omega))
            rw [hx] at hx'
            cases hx'
            obtain ⟨k, j, ed, pk⟩ := A6 _ (List.getElem_mem (show i < ds.length by omega))
            rw [ed] at ix
            have pk52 : Pk 52 k j := pk
            have e2 := ((e1.step (Same.new' (o := .tup [.int (i : Nat), x]) hT')).add (ix.same (Same.new' hT'))).add (v := .ref T') (d := .tup [.int (i : Nat), .tup [.int k, .int j]]) (.tup upd_same (.cons (.int _) (.cons (ix.same (Same.new' hT')) .nil)))
            clear e1 ix iv2 hx ivs h1 h2
            walk_at "rd"
            rename_i e3
            refine ixLAny (e3.get (v := .ref D) (d := .lst ds) (by walk_at "mem")) (by omega) (by omega) fun v d hd iv => ?_
            obtain ⟨l, m, rfl, pl⟩ := A6 d hd
            have e4 := e3.add iv
            clear e3 e2
            walk_at "rd"
            rename_i e5
            exact ⟨⟨rfl, rfl, rfl, ⟨e5.gr, e5.at_, fun e i => by
              rw [List.mem_singleton.mp i]
              exact e5.get (by walk_at "mem")⟩⟩⟩
        · obtain ⟨hs, h1, h2, e1⟩ := hP.out
          have hD2 := e1.gr D _ (fun q z => by cases z; exact fr.a) (fun ps z => by cases z) hpD
          match σ, hs, h1, h2 with
          | [y0, y1, y2, y3, y4, y5, y6, y7, y8, y9], _, h1, h2 =>
            obtain rfl : y1 = some (V.ref a) := Option.some.inj h1
            obtain rfl : y2 = some (V.ref D) := Option.some.inj h2
            walk_at "rd"
            refine ixLAny (e1.get (v := .ref D) (d := .lst ds) (by walk_at "mem")) (by omega) (by omega) fun v d hd iv => ?_
            obtain ⟨l, m, rfl, pl⟩ := A6 d hd
            have e2 := e1.add iv
            have nd1 : noPs [.tup [.int l, .int m], .lst ds] = true := tups_noP A6
            clear e1
            walk_at "rd"
            intro v1 H5 d1 r1 e5
            subst r1
            obtain rfl := (e5.get List.mem_cons_self).blE
            refine ⟨true, rfl, ?_⟩
            rw [if_pos rfl]
            walk_at "rd"
            refine ixLAny (e5.get (v := .ref D) (d := .lst ds) (by walk_at "mem")) (by omega) (by omega) fun v3 d3 hd3 iv3 => ?_
            obtain ⟨l3, m3, rfl, pl3⟩ := A6 d3 hd3
            have e6 := e5.add iv3
            have nd2 : noPs [.tup [.int l3, .int m3], .bl true, .tup [.int l, .int m], .lst ds] = true := tups_noP A6
            clear e5 e2
            walk_at "rd"
            intro v4 H7 d4 r4 e7
            subst r4
            obtain rfl := (e7.get List.mem_cons_self).blE
            exact q _
end
end Sp
end
section
set_option Elab.async false
set_option linter.all false
set_option maxRecDepth 100000
set_option maxHeartbeats 0
namespace Sp
open PySem PySem.Spec PyProof.Rows L2
open PySem.W (Frag)
theorem sc_xBadRatio : FnScope ["self", "part"] ["self", "part"] (defScope (inClass (topS 4) 0)) := ⟨rfl, rfl, rfl, by decide +kernel, rfl, by decide +kernel, by decide +kernel⟩
theorem sc_xBadStep : FnScope ["self", "part"] ["self", "part"] (defScope (inClass (topS 5) 0)) := ⟨rfl, rfl, rfl, by decide +kernel, rfl, by decide +kernel, by decide +kernel⟩
theorem sc_xBadNumber : FnScope ["self", "part"] ["self", "part"] (defScope (inClass (topS 6) 0)) := ⟨rfl, rfl, rfl, by decide +kernel, rfl, by decide +kernel, by decide +kernel⟩
theorem sc_xRound : FnScope ["self", "part"] ["self", "part"] (defScope (inClass (topS 7) 0)) := ⟨rfl, rfl, rfl, by decide +kernel, rfl, by decide +kernel, by decide +kernel⟩
theorem sc_xNotNeighbours : FnScope ["self", "one", "other"] ["self", "one", "other"] (defScope (inClass (topS 8) 0)) := ⟨rfl, rfl, rfl, by decide +kernel, rfl, by decide +kernel, by decide +kernel⟩
theorem sc_xCommon : FnScope ["self", "divisor"] ["self", "divisor"] (defScope (inClass (topS 9) 0)) := ⟨rfl, rfl, rfl, by decide +kernel, rfl, by decide +kernel, by decide +kernel⟩
theorem sc_xBadText : FnScope ["self", "line", "word"] ["self", "line", "word"] (defScope (inClass (topS 10) 0)) := ⟨rfl, rfl, rfl, by decide +kernel, rfl, by decide +kernel, by decide +kernel⟩
def TT (K : Frag) : List (Addr × Str) := tfL.map fun d => ((He.cT K d).2, (d.1 : Str) ++ ".<locals>." ++ "<lambda>")
theorem tmem {K : Frag} (x : Str) (h : (x, none) ∈ tfL) : He.cT K (x, none) ∈ tfL.map (He.cT K) := List.mem_map.mpr ⟨_, h, rfl⟩
theorem tmem2 {K : Frag} (x : Str) (h : (x, none) ∈ tfL) : ((He.cT K (x, none)).2, x ++ ".<locals>." ++ "<lambda>") ∈ TT K := List.mem_map.mpr ⟨_, h, rfl⟩
theorem law_ok {P : Program} {w : World} {K : Frag} {mg : Str → Option Value} {base h : Heap} (c : SaysB h K) (KB : K.In base) (NB : base.Ns mainGlobals mg) (AP : apB K = true)
    (TB : ∀ p ∈ tfL.map (He.cT K), LamX.TabB base mg p.1 p.2) {fd_law : FuncData} (F_law : FP K "law" "law" (topS 55) [] (He.ga K "law") fd_law) : FnOk P w K mg base (L2.CX P w) 19 (He.ga K "law") fd_law ["_law_script"] (spLaw K (TT K)) := by
  have fx : ∀ (i : Nat) (f : Frag → Bool), exL[i]? = some f → f K = true := fun i f h => c.ex f (List.mem_of_getElem? h)
  have gl : ∀ x : Str, x ∈ glL → mg x = some (.ref (He.ga K x)) := fun x hx => He.glo_ok KB NB (c.gl x hx)
  have fn : ∀ (i : Nat) (d : He5.DefA), fnL[i]? = some d → ∃ fd, FunD K d.name d.qual d.params d.body d.scope (d.dvs K) (d.kws K) (d.at_ K) fd := fun i d h => (c.fn d (List.mem_of_getElem? h)).elim fun h1 h2 => He5.DefA.funD h2 h1
  have nmf : Nm mg := ⟨He.free_ok KB NB (fx 0 _ rfl), He.free_ok KB NB (fx 1 _ rfl), He.free_ok KB NB (fx 2 _ rfl), He.free_ok KB NB (fx 3 _ rfl), He.free_ok KB NB (fx 4 _ rfl), He.free_ok KB NB (fx 5 _ rfl), He.free_ok KB NB (fx 6 _ rfl), He.free_ok KB NB (fx 7 _ rfl), He.free_ok KB NB (fx 8 _ rfl), He.free_ok KB NB (fx 9 _ rfl)⟩
  have hcs : csB K csL = true := fx 12 _ rfl
  have G0 : G0 K mg csL tsL := ⟨nmf, fun c hc => cfB_ok (List.all_eq_true.mp hcs c hc), fun c hc => He.glo_ok KB NB (cfB_glo (List.all_eq_true.mp hcs c hc)), kitB_ok (fx 13 _ rfl)⟩
  have hu : ∀ x : Str, (x, none) ∈ tfL → ∀ p ∈ TT K, p.1 = (He.cT K (x, none)).2 → p.2 = x ++ ".<locals>." ++ "<lambda>" := fun x hx p hp e => by
    obtain ⟨d, hd, rfl⟩ := List.mem_map.mp hp
    have := of_decide_eq_true (List.all_eq_true.mp (List.all_eq_true.mp AP d hd) _ hx) e
    rw [this]
  obtain ⟨fd_xBadRatio, F_xBadRatio⟩ := fn 0 _ rfl
  have F_xBadRatio : FP K "__init__" "BadRatio.__init__" (inClass (topS 4) 0) [] (He.ma K (He.ga K "BadRatio") "__init__") fd_xBadRatio := F_xBadRatio
  have b_xBadRatio := FunD.bindsN (ps := ["self", "part"]) F_xBadRatio fun _ _ _ _ _ _ us hl => match us, hl with | [_, _], _ => rfl
  have X_BadRatio : XnF K "BadRatio" ["part"] := xnB_ok (fx 15 _ rfl)
  have g_xBadRatio : GXN P w K mg base 1 "BadRatio" ["part"] (cX K "BadRatio") := ⟨X_BadRatio.oex, He.glo_ok KB NB X_BadRatio.glo, _, _, _, X_BadRatio.ini, X_BadRatio.ty, ok_e1 (P := P) (w := w) (mg := mg) (base := base) F_xBadRatio sc_xBadRatio X_BadRatio.oex (X_BadRatio.no "part" (by decide)) (fun _ _ _ _ _ _ => pss_one (ps_ost (pv 0) (pv 1))), b_xBadRatio⟩
  obtain ⟨fd_xBadStep, F_xBadStep⟩ := fn 1 _ rfl
  have F_xBadStep : FP K "__init__" "BadStep.__init__" (inClass (topS 5) 0) [] (He.ma K (He.ga K "BadStep") "__init__") fd_xBadStep := F_xBadStep
  have b_xBadStep := FunD.bindsN (ps := ["self", "part"]) F_xBadStep fun _ _ _ _ _ _ us hl => match us, hl with | [_, _], _ => rfl
  have X_BadStep : XnF K "BadStep" ["part"] := xnB_ok (fx 16 _ rfl)
  have g_xBadStep : GXN P w K mg base 1 "BadStep" ["part"] (cX K "BadStep") := ⟨X_BadStep.oex, He.glo_ok KB NB X_BadStep.glo, _, _, _, X_BadStep.ini, X_BadStep.ty, ok_e1 (P := P) (w := w) (mg := mg) (base := base) F_xBadStep sc_xBadStep X_BadStep.oex (X_BadStep.no "part" (by decide)) (fun _ _ _ _ _ _ => pss_one (ps_ost (pv 0) (pv 1))), b_xBadStep⟩
  obtain ⟨fd_xBadNumber, F_xBadNumber⟩ := fn 2 _ rfl
  have F_xBadNumber : FP K "__init__" "BadNumber.__init__" (inClass (topS 6) 0) [] (He.ma K (He.ga K "BadNumber") "__init__") fd_xBadNumber := F_xBadNumber
  have b_xBadNumber := FunD.bindsN (ps := ["self", "part"]) F_xBadNumber fun _ _ _ _ _ _ us hl => match us, hl with | [_, _], _ => rfl
  have X_BadNumber : XnF K "BadNumber" ["part"] := xnB_ok (fx 17 _ rfl)
  have g_xBadNumber : GXN P w K mg base 1 "BadNumber" ["part"] (cX K "BadNumber") := ⟨X_BadNumber.oex, He.glo_ok KB NB X_BadNumber.glo, _, _, _, X_BadNumber.ini, X_BadNumber.ty, ok_e1 (P := P) (w := w) (mg := mg) (base := base) F_xBadNumber sc_xBadNumber X_BadNumber.oex (X_BadNumber.no "part" (by decide)) (fun _ _ _ _ _ _ => pss_one (ps_ost (pv 0) (pv 1))), b_xBadNumber⟩
  obtain ⟨fd_xRound, F_xRound⟩ := fn 3 _ rfl
  have F_xRound : FP K "__init__" "Round.__init__" (inClass (topS 7) 0) [] (He.ma K (He.ga K "Round") "__init__") fd_xRound := F_xRound
  have b_xRound := FunD.bindsN (ps := ["self", "part"]) F_xRound fun _ _ _ _ _ _ us hl => match us, hl with | [_, _], _ => rfl
  have X_Round : XnF K "Round" ["part"] := xnB_ok (fx 18 _ rfl)
  have g_xRound : GXN P w K mg base 1 "Round" ["part"] (cX K "Round") := ⟨X_Round.oex, He.glo_ok KB NB X_Round.glo, _, _, _, X_Round.ini, X_Round.ty, ok_e1 (P := P) (w := w) (mg := mg) (base := base) F_xRound sc_xRound X_Round.oex (X_Round.no "part" (by decide)) (fun _ _ _ _ _ _ => pss_one (ps_ost (pv 0) (pv 1))), b_xRound⟩
  obtain ⟨fd_xNotNeighbours, F_xNotNeighbours⟩ := fn 4 _ rfl
  have F_xNotNeighbours : FP K "__init__" "NotNeighbours.__init__" (inClass (topS 8) 0) [] (He.ma K (He.ga K "NotNeighbours") "__init__") fd_xNotNeighbours := F_xNotNeighbours
  have b_xNotNeighbours := FunD.bindsN (ps := ["self", "one", "other"]) F_xNotNeighbours fun _ _ _ _ _ _ us hl => match us, hl with | [_, _, _], _ => rfl
  have X_NotNeighbours : XnF K "NotNeighbours" ["one", "other"] := xnB_ok (fx 19 _ rfl)
  have g_xNotNeighbours : GXN P w K mg base 1 "NotNeighbours" ["one", "other"] (cX K "NotNeighbours") := ⟨X_NotNeighbours.oex, He.glo_ok KB NB X_NotNeighbours.glo, _, _, _, X_NotNeighbours.ini, X_NotNeighbours.ty, ok_e2 (P := P) (w := w) (mg := mg) (base := base) F_xNotNeighbours sc_xNotNeighbours X_NotNeighbours.oex (X_NotNeighbours.no "one" (by decide)) (X_NotNeighbours.no "other" (by decide)) (fun _ _ _ _ _ _ => pss_cons (ps_ost (pv 0) (pv 1)) (pss_one (ps_ost (pv 0) (pv 2)))), b_xNotNeighbours⟩
  obtain ⟨fd_xCommon, F_xCommon⟩ := fn 5 _ rfl
  have F_xCommon : FP K "__init__" "Common.__init__" (inClass (topS 9) 0) [] (He.ma K (He.ga K "Common") "__init__") fd_xCommon := F_xCommon
  have b_xCommon := FunD.bindsN (ps := ["self", "divisor"]) F_xCommon fun _ _ _ _ _ _ us hl => match us, hl with | [_, _], _ => rfl
  have X_Common : XnF K "Common" ["divisor"] := xnB_ok (fx 20 _ rfl)
  have g_xCommon : GXN P w K mg base 1 "Common" ["divisor"] (cX K "Common") := ⟨X_Common.oex, He.glo_ok KB NB X_Common.glo, _, _, _, X_Common.ini, X_Common.ty, ok_e1 (P := P) (w := w) (mg := mg) (base := base) F_xCommon sc_xCommon X_Common.oex (X_Common.no "divisor" (by decide)) (fun _ _ _ _ _ _ => pss_one (ps_ost (pv 0) (pv 1))), b_xCommon⟩
  obtain ⟨fd_xBadText, F_xBadText⟩ := fn 6 _ rfl
  have F_xBadText : FP K "__init__" "BadText.__init__" (inClass (topS 10) 0) [] (He.ma K (He.ga K "BadText") "__init__") fd_xBadText := F_xBadText
  have b_xBadText := FunD.bindsN (ps := ["self", "line", "word"]) F_xBadText fun _ _ _ _ _ _ us hl => match us, hl with | [_, _, _], _ => rfl
  have X_BadText : XnF K "BadText" ["line", "word"] := xnB_ok (fx 21 _ rfl)
  have g_xBadText : GXN P w K mg base 1 "BadText" ["line", "word"] (cX K "BadText") := ⟨X_BadText.oex, He.glo_ok KB NB X_BadText.glo, _, _, _, X_BadText.ini, X_BadText.ty, ok_e2 (P := P) (w := w) (mg := mg) (base := base) F_xBadText sc_xBadText X_BadText.oex (X_BadText.no "line" (by decide)) (X_BadText.no "word" (by decide)) (fun _ _ _ _ _ _ => pss_cons (ps_ost (pv 0) (pv 1)) (pss_one (ps_ost (pv 0) (pv 2)))), b_xBadText⟩
  have h_gcd : mg "gcd" = some (.builtin "math.gcd") := PySem.W.mg_of KB NB (of_decide_eq_true (fx 11 _ rfl))
  obtain ⟨tk1, h_most⟩ := He.int_ok KB NB (fx 22 _ rfl)
  obtain ⟨tk2, h_digits⟩ := He.str_ok KB NB (fx 23 _ rfl)
  have h_all : mg "all" = none := He.free_ok KB NB (fx 10 _ rfl)
  have gE : GE K mg := ⟨fun x hx y hy => of_decide_eq_true (List.all_eq_true.mp (List.all_eq_true.mp (show geB K = true from fx 24 _ rfl) x hx) y hy), fun x hx => xfB_ok (List.all_eq_true.mp (show gfB K = true from fx 25 _ rfl) x hx), fun e he => of_decide_eq_true (List.all_eq_true.mp (show gnB K = true from fx 26 _ rfl) e he), fun x hx => He.glo_ok KB NB (List.all_eq_true.mp (show ggB K = true from fx 27 _ rfl) x hx)⟩
  have hNa : Na K (.ref (cX K "Round")) := of_decide_eq_true (p := PySem.W.subIn K (.ref (cX K "Round")) (.type "AttributeError") = some false) (fx 28 _ rfl)
  have hRa : ∀ t ∈ oddT, RiT K (ca K .Step) .Add (tv K t) := ritB_ok (fx 29 _ rfl)
  have hRs : ∀ t ∈ oddT, RiT K (ca K .Step) .Sub (tv K t) := ritB_ok (fx 30 _ rfl)
  have hRm : ∀ t ∈ oddT, RiT K (ca K .Step) .Mult (tv K t) := ritB_ok (fx 31 _ rfl)
  have hRr : RiT K (ca K .Step) .Mult (tv K (.own .Ratio)) := rioB_ok (fx 32 _ rfl)
  obtain ⟨fd_is_integer, F_is_integer⟩ := fn 7 _ rfl
  have F_is_integer : FP K "is_integer" "is_integer" (topS 13) [] (He.ga K "is_integer") fd_is_integer := F_is_integer
  have b_is_integer := FunD.bindsN (ps := ["value"]) F_is_integer fun _ _ _ _ _ _ us hl => match us, hl with | [_], _ => rfl
  have o_is_integer := ok_is_integer (P := P) (w := w) (base := base) G0 F_is_integer
  have g_is_integer : GD P w K mg base (L2.CX P w) 1 "is_integer" ["value"] [] (spR K csL tsL 3900 RIsInt) := ⟨_, _, [], o_is_integer, gl "is_integer" (by decide +kernel), F_is_integer.kp, b_is_integer, .nil⟩
  obtain ⟨fd_sign_of, F_sign_of⟩ := fn 8 _ rfl
  have F_sign_of : FP K "sign_of" "sign_of" (topS 22) [] (He.ga K "sign_of") fd_sign_of := F_sign_of
  have b_sign_of := FunD.bindsN (ps := ["number"]) F_sign_of fun _ _ _ _ _ _ us hl => match us, hl with | [_], _ => rfl
  have o_sign_of := ok_sign_of (P := P) (w := w) (base := base) G0 F_sign_of
  have g_sign_of : GD P w K mg base (L2.CX P w) 1 "sign_of" ["number"] [] (spR K csL tsL 100000 RSign) := ⟨_, _, [], o_sign_of, gl "sign_of" (by decide +kernel), F_sign_of.kp, b_sign_of, .nil⟩
  obtain ⟨fd_is_upward, F_is_upward⟩ := fn 9 _ rfl
  have F_is_upward : FP K "is_upward" "is_upward" (topS 30) [] (He.ga K "is_upward") fd_is_upward := F_is_upward
  have b_is_upward := FunD.bindsN (ps := ["step"]) F_is_upward fun _ _ _ _ _ _ us hl => match us, hl with | [_], _ => rfl
  have o_is_upward := ok_is_upward (P := P) (w := w) (base := base) G0 F_is_upward
  have g_is_upward : GD P w K mg base (L2.CX P w) 1 "is_upward" ["step"] [] (spR K csL tsL 3900 RIsUp) := ⟨_, _, [], o_is_upward, gl "is_upward" (by decide +kernel), F_is_upward.kp, b_is_upward, .nil⟩
  obtain ⟨fd_Step_eq, F_Step_eq⟩ := fn 10 _ rfl
  have F_Step_eq : FP K "__eq__" "Step.__eq__" (inClass (topS 28) 8) [] (He.ma K (He.ga K "Step") "__eq__") fd_Step_eq := F_Step_eq
  have b_Step_eq := FunD.bindsN (ps := ["self", "other"]) F_Step_eq fun _ _ _ _ _ _ us hl => match us, hl with | [_, _], _ => rfl
  have o_Step_eq := ok_Step_eq (P := P) (w := w) (base := base) G0 F_Step_eq
  have g_Step_eq : GN P w K mg base (L2.CX P w) 1 (ca K .Step) "__eq__" (spR K csL tsL 3900 REqS) := ⟨_, _, _, (nm_ok (fx 33 _ rfl)).1, (nm_ok (fx 33 _ rfl)).2, o_Step_eq, b_Step_eq⟩
  have g_Step_eq_ne : GNe P w K mg base (L2.CX P w) 1 (ca K .Step) (spR K csL tsL 3900 REqS) := ⟨of_decide_eq_true (fx 34 _ rfl), (G0.cf .Step (by decide)).hm, g_Step_eq⟩
  have nf_Step : ∀ t ∈ tsL, PySem.W.notFirst K (ca K .Step) (tv K t) = true := nfB_ok (fx 35 _ rfl)
  obtain ⟨fd_integer_of, F_integer_of⟩ := fn 11 _ rfl
  have F_integer_of : FP K "integer_of" "integer_of" (topS 16) [] (He.ga K "integer_of") fd_integer_of := F_integer_of
  have b_integer_of := FunD.bindsN (ps := ["word"]) F_integer_of fun _ _ _ _ _ _ us hl => match us, hl with | [_], _ => rfl
  have o_integer_of := ok_integer_of (h_all := h_all) (h_digits := h_digits) (h_most := h_most) (P := P) (w := w) (base := base) G0 F_integer_of
  have g_integer_of : GD P w K mg base (L2.CX P w) 1 "integer_of" ["word"] [] (spR K csL tsL 100000 RIntOf) := ⟨_, _, [], o_integer_of, gl "integer_of" (by decide +kernel), F_integer_of.kp, b_integer_of, .nil⟩
  obtain ⟨fd_Words_init, F_Words_init⟩ := fn 12 _ rfl
  have F_Words_init : FP K "__init__" "Words.__init__" (inClass (topS 17) 0) [] (He.ma K (He.ga K "Words") "__init__") fd_Words_init := F_Words_init
  have b_Words_init := FunD.bindsN (ps := ["self", "words", "done", "last"]) F_Words_init fun _ _ _ _ _ _ us hl => match us, hl with | [_, _, _, _], _ => rfl
  have o_Words_init := ok_Words_init (P := P) (w := w) (base := base) G0 F_Words_init
  have g_mWords : GM P w K mg base (L2.CX P w) 1 "Words" (ca K .Words) ["self", "words", "done", "last"] [] (spInitW K) := ⟨_, _, [], o_Words_init, He.mkr_ok (fx 36 _ rfl), G0.mgc .Words (by decide), b_Words_init, .nil⟩
  obtain ⟨fd_Words_is_over, F_Words_is_over⟩ := fn 13 _ rfl
  have F_Words_is_over : FP K "is_over" "Words.is_over" (inClass (topS 17) 1) [] (He.ma K (He.ga K "Words") "is_over") fd_Words_is_over := F_Words_is_over
  have b_Words_is_over := FunD.bindsN (ps := ["self"]) F_Words_is_over fun _ _ _ _ _ _ us hl => match us, hl with | [_], _ => rfl
  have o_Words_is_over := ok_Words_is_over (P := P) (w := w) (base := base) G0 F_Words_is_over
  have g_Words_is_over : GH P w K mg base (L2.CX P w) 1 (ca K .Words) "is_over" ["self"] (spWp K RIsOver) := ⟨_, _, o_Words_is_over, metB_ok (fx 37 _ rfl), b_Words_is_over⟩
  obtain ⟨fd_Step_str, F_Step_str⟩ := fn 14 _ rfl
  have F_Step_str : FP K "__str__" "Step.__str__" (inClass (topS 28) 9) [] (He.ma K (He.ga K "Step") "__str__") fd_Step_str := F_Step_str
  have b_Step_str := FunD.bindsN (ps := ["self"]) F_Step_str fun _ _ _ _ _ _ us hl => match us, hl with | [_], _ => rfl
  have o_Step_str := ok_Step_str (P := P) (w := w) (base := base) G0 F_Step_str
  have g_Step_str : GN P w K mg base (L2.CX P w) 1 (ca K .Step) "__str__" (spR K csL tsL 3900 RStrS) := ⟨_, _, _, (nm_ok (fx 38 _ rfl)).1, (nm_ok (fx 38 _ rfl)).2, o_Step_str, b_Step_str⟩
  obtain ⟨fd_inverse, F_inverse⟩ := fn 15 _ rfl
  have F_inverse : FP K "inverse" "inverse" (topS 40) [] (He.ga K "inverse") fd_inverse := F_inverse
  have b_inverse := FunD.bindsN (ps := ["number", "modulus"]) F_inverse fun _ _ _ _ _ _ us hl => match us, hl with | [_, _], _ => rfl
  have o_inverse := ok_inverse (P := P) (w := w) (base := base) G0 F_inverse
  have g_inverse : GD P w K mg base (L2.CX P w) 1 "inverse" ["number", "modulus"] [] (spInv K) := ⟨_, _, [], o_inverse, gl "inverse" (by decide +kernel), F_inverse.kp, b_inverse, .nil⟩
  obtain ⟨fd_l_pail, F_l_pail⟩ := fn 16 _ rfl
  have F_l_pail : FP K "_law_pail" "_law_pail" (topS 42) [] (He.ga K "_law_pail") fd_l_pail := F_l_pail
  have b_l_pail := FunD.bindsN (ps := ["_law_script"]) F_l_pail fun _ _ _ _ _ _ us hl => match us, hl with | [_], _ => rfl
  have o_l_pail := ok__law_pail (P := P) (w := w) (base := base) G0 F_l_pail
  have g_l_pail : GD P w K mg base (L2.CX P w) 1 "_law_pail" ["_law_script"] [] (spPail K) := ⟨_, _, [], o_l_pail, gl "_law_pail" (by decide +kernel), F_l_pail.kp, b_l_pail, .nil⟩
  obtain ⟨fd_l_dip, F_l_dip⟩ := fn 17 _ rfl
  have F_l_dip : FP K "_law_dip" "_law_dip" (topS 43) [] (He.ga K "_law_dip") fd_l_dip := F_l_dip
  have b_l_dip := FunD.bindsN (ps := ["_law_pail_here", "_law_many"]) F_l_dip fun _ _ _ _ _ _ us hl => match us, hl with | [_, _], _ => rfl
  have o_l_dip := ok__law_dip (P := P) (w := w) (base := base) G0 F_l_dip
  have g_l_dip : GD P w K mg base (L2.CX P w) 1 "_law_dip" ["_law_pail_here", "_law_many"] [] spDip := ⟨_, _, [], o_l_dip, gl "_law_dip" (by decide +kernel), F_l_dip.kp, b_l_dip, .nil⟩
  obtain ⟨fd_l_common, F_l_common⟩ := fn 18 _ rfl
  have F_l_common : FP K "_law_common" "_law_common" (topS 46) [] (He.ga K "_law_common") fd_l_common := F_l_common
  have b_l_common := FunD.bindsN (ps := ["_law_one", "_law_other"]) F_l_common fun _ _ _ _ _ _ us hl => match us, hl with | [_, _], _ => rfl
  have o_l_common := ok__law_common (P := P) (w := w) (base := base) G0 F_l_common
  have g_l_common : GD P w K mg base (L2.CX P w) 1 "_law_common" ["_law_one", "_law_other"] [] (spR K csL tsL 60 RComm) := ⟨_, _, [], o_l_common, gl "_law_common" (by decide +kernel), F_l_common.kp, b_l_common, .nil⟩
  obtain ⟨fd_l_told, F_l_told⟩ := fn 19 _ rfl
  have F_l_told : FP K "_law_told" "_law_told" (topS 47) [] (He.ga K "_law_told") fd_l_told := F_l_told
  have b_l_told := FunD.bindsN (ps := ["_law_step"]) F_l_told fun _ _ _ _ _ _ us hl => match us, hl with | [_], _ => rfl
  have o_l_told := ok__law_told (P := P) (w := w) (base := base) G0 F_l_told
  have g_l_told : GD P w K mg base (L2.CX P w) 1 "_law_told" ["_law_step"] [] (spR K csL tsL 100000 RTold) := ⟨_, _, [], o_l_told, gl "_law_told" (by decide +kernel), F_l_told.kp, b_l_told, .nil⟩
  obtain ⟨fd_l_nearest, F_l_nearest⟩ := fn 20 _ rfl
  have F_l_nearest : FP K "_law_nearest" "_law_nearest" (topS 51) [] (He.ga K "_law_nearest") fd_l_nearest := F_l_nearest
  have b_l_nearest := FunD.bindsN (ps := ["_law_pair_here"]) F_l_nearest fun _ _ _ _ _ _ us hl => match us, hl with | [_], _ => rfl
  have o_l_nearest := ok__law_nearest (P := P) (w := w) (base := base) G0 F_l_nearest
  have g_l_nearest : GD P w K mg base (L2.CX P w) 1 "_law_nearest" ["_law_pair_here"] [] (spR K csL tsL 60 RNear) := ⟨_, _, [], o_l_nearest, gl "_law_nearest" (by decide +kernel), F_l_nearest.kp, b_l_nearest, .nil⟩
  obtain ⟨fd_is_ratio, F_is_ratio⟩ := fn 21 _ rfl
  have F_is_ratio : FP K "is_ratio" "is_ratio" (topS 23) [] (He.ga K "is_ratio") fd_is_ratio := F_is_ratio
  have b_is_ratio := FunD.bindsN (ps := ["value"]) F_is_ratio fun _ _ _ _ _ _ us hl => match us, hl with | [_], _ => rfl
  have o_is_ratio := ok_is_ratio (g_is_integer := g_is_integer) (P := P) (w := w) (base := base) G0 F_is_ratio
  have g_is_ratio : GD P w K mg base (L2.CX P w) 2 "is_ratio" ["value"] [] (spR K csL tsL 3900 RIsRat) := ⟨_, _, [], o_is_ratio, gl "is_ratio" (by decide +kernel), F_is_ratio.kp, b_is_ratio, .nil⟩
  obtain ⟨fd_l_number, F_l_number⟩ := fn 22 _ rfl
  have F_l_number : FP K "_law_number" "_law_number" (topS 44) [] (He.ga K "_law_number") fd_l_number := F_l_number
  have b_l_number := FunD.bindsN (ps := ["_law_pail_here", "_law_many"]) F_l_number fun _ _ _ _ _ _ us hl => match us, hl with | [_, _], _ => rfl
  have o_l_number := ok__law_number (g_l_dip := g_l_dip) (T := TT K) (P := P) (w := w) (base := base) G0 F_l_number
  have g_l_number : GD P w K mg base (L2.CX P w) 2 "_law_number" ["_law_pail_here", "_law_many"] [] (spLP K csL tsL (TT K) 60 900000 3 (fun ds => ds = [.int 30]) (fun _ d => ∃ i : Int, d = .int i ∧ i.natAbs < 2 ^ 46)) := ⟨_, _, [], o_l_number, gl "_law_number" (by decide +kernel), F_l_number.kp, b_l_number, .nil⟩
  obtain ⟨fd_Ratio_init, F_Ratio_init⟩ := fn 23 _ rfl
  have F_Ratio_init : FP K "__init__" "Ratio.__init__" (inClass (topS 21) 0) [.int 1] (He.ma K (He.ga K "Ratio") "__init__") fd_Ratio_init := F_Ratio_init
  have o_Ratio_init := ok_Ratio_init (g_is_integer := g_is_integer) (g_xBadRatio := g_xBadRatio) (h_gcd := h_gcd) (P := P) (w := w) (base := base) G0 F_Ratio_init
  obtain ⟨ds3, v3, b3⟩ := FunD.binds1 (ps := ["self", "top", "bottom"]) F_Ratio_init 3 1 (by simp) rfl fun T kV doc pm an cdv ct us its hu hi => match us, its, hu, hi with | [_, _, _], [_], _, _ => ⟨_, rfl, rfl⟩
  obtain ⟨ds2, v2, b2⟩ := FunD.binds1 (ps := ["self", "top", "bottom"]) F_Ratio_init 2 0 (by simp) rfl fun T kV doc pm an cdv ct us its hu hi => match us, its, hu, hi with | [_, _], [_], _, _ => ⟨_, rfl, rfl⟩
  have g_mRatio : GM P w K mg base (L2.CX P w) 3 "Ratio" (ca K .Ratio) ["self", "top", "bottom"] [] (spRI K csL tsL .Ratio 3900 RInitR) := ⟨_, _, ds3, o_Ratio_init, He.mkr_ok (fx 39 _ rfl), G0.mgc .Ratio (by decide), b3, v3⟩
  have g_mRatio1 : GM P w K mg base (L2.CX P w) 3 "Ratio" (ca K .Ratio) ["self", "top", "bottom"] [.int 1] (spRI K csL tsL .Ratio 3900 RInitR) := ⟨_, _, ds2, o_Ratio_init, He.mkr_ok (fx 39 _ rfl), G0.mgc .Ratio (by decide), b2, v2⟩
  obtain ⟨fd_Step_init, F_Step_init⟩ := fn 24 _ rfl
  have F_Step_init : FP K "__init__" "Step.__init__" (inClass (topS 28) 0) [] (He.ma K (He.ga K "Step") "__init__") fd_Step_init := F_Step_init
  have b_Step_init := FunD.bindsN (ps := ["self", "studs", "rounds"]) F_Step_init fun _ _ _ _ _ _ us hl => match us, hl with | [_, _, _], _ => rfl
  have o_Step_init := ok_Step_init (g_is_integer := g_is_integer) (g_xBadStep := g_xBadStep) (h_gcd := h_gcd) (P := P) (w := w) (base := base) G0 F_Step_init
  have g_mStep : GM P w K mg base (L2.CX P w) 3 "Step" (ca K .Step) ["self", "studs", "rounds"] [] (spRI K csL tsL .Step 3900 RInitS) := ⟨_, _, [], o_Step_init, He.mkr_ok (fx 40 _ rfl), G0.mgc .Step (by decide), b_Step_init, .nil⟩
  have g_mStep_krs : GMK P w K mg base (L2.CX P w) 3 "Step" (ca K .Step) ["rounds", "studs"] [1, 0] (spRI K csL tsL .Step 3900 RInitS) := ⟨_, _, _, o_Step_init, He.mkr_ok (fx 40 _ rfl), G0.mgc .Step (by decide), pk_2 F_Step_init (fun _ _ _ _ _ _ _ _ _ => rfl)⟩
  obtain ⟨fd_need_step, F_need_step⟩ := fn 25 _ rfl
  have F_need_step : FP K "need_step" "need_step" (topS 31) [] (He.ga K "need_step") fd_need_step := F_need_step
  have b_need_step := FunD.bindsN (ps := ["value", "part"]) F_need_step fun _ _ _ _ _ _ us hl => match us, hl with | [_, _], _ => rfl
  have o_need_step := ok_need_step (g_xBadStep := g_xBadStep) (P := P) (w := w) (base := base) G0 F_need_step
  have g_need_step : GD P w K mg base (L2.CX P w) 3 "need_step" ["value", "part"] [] (spR K csL tsL 100000 (RNeed .Step "BadStep")) := ⟨_, _, [], o_need_step, gl "need_step" (by decide +kernel), F_need_step.kp, b_need_step, .nil⟩
  obtain ⟨fd_need_studs, F_need_studs⟩ := fn 26 _ rfl
  have F_need_studs : FP K "need_studs" "need_studs" (topS 32) [] (He.ga K "need_studs") fd_need_studs := F_need_studs
  have b_need_studs := FunD.bindsN (ps := ["step", "part"]) F_need_studs fun _ _ _ _ _ _ us hl => match us, hl with | [_, _], _ => rfl
  have o_need_studs := ok_need_studs (g_xRound := g_xRound) (P := P) (w := w) (base := base) G0 F_need_studs
  have g_need_studs : GD P w K mg base (L2.CX P w) 3 "need_studs" ["step", "part"] [] (spR K csL tsL 100000 RNeedK) := ⟨_, _, [], o_need_studs, gl "need_studs" (by decide +kernel), F_need_studs.kp, b_need_studs, .nil⟩
  obtain ⟨fd_Words_take, F_Words_take⟩ := fn 27 _ rfl
  have F_Words_take : FP K "take" "Words.take" (inClass (topS 17) 5) [] (He.ma K (He.ga K "Words") "take") fd_Words_take := F_Words_take
  have b_Words_take := FunD.bindsN (ps := ["self"]) F_Words_take fun _ _ _ _ _ _ us hl => match us, hl with | [_], _ => rfl
  have o_Words_take := ok_Words_take (g_Words_is_over := g_Words_is_over) (g_xBadText := g_xBadText) (P := P) (w := w) (base := base) G0 F_Words_take
  have g_Words_take : GH P w K mg base (L2.CX P w) 3 (ca K .Words) "take" ["self"] (spW K RTake) := ⟨_, _, o_Words_take, metB_ok (fx 41 _ rfl), b_Words_take⟩
  obtain ⟨fd_Words_refuse, F_Words_refuse⟩ := fn 28 _ rfl
  have F_Words_refuse : FP K "refuse" "Words.refuse" (inClass (topS 17) 6) [] (He.ma K (He.ga K "Words") "refuse") fd_Words_refuse := F_Words_refuse
  have b_Words_refuse := FunD.bindsN (ps := ["self"]) F_Words_refuse fun _ _ _ _ _ _ us hl => match us, hl with | [_], _ => rfl
  have o_Words_refuse := ok_Words_refuse (g_xBadText := g_xBadText) (P := P) (w := w) (base := base) G0 F_Words_refuse
  have g_Words_refuse : GH P w K mg base (L2.CX P w) 3 (ca K .Words) "refuse" ["self"] (spW K RRefuse) := ⟨_, _, o_Words_refuse, metB_ok (fx 42 _ rfl), b_Words_refuse⟩
  obtain ⟨fd_Words_end, F_Words_end⟩ := fn 29 _ rfl
  have F_Words_end : FP K "end" "Words.end" (inClass (topS 17) 8) [] (He.ma K (He.ga K "Words") "end") fd_Words_end := F_Words_end
  have b_Words_end := FunD.bindsN (ps := ["self"]) F_Words_end fun _ _ _ _ _ _ us hl => match us, hl with | [_], _ => rfl
  have o_Words_end := ok_Words_end (g_Words_is_over := g_Words_is_over) (g_xBadText := g_xBadText) (P := P) (w := w) (base := base) G0 F_Words_end
  have g_Words_end : GH P w K mg base (L2.CX P w) 3 (ca K .Words) "end" ["self"] (spWp K REndW) := ⟨_, _, o_Words_end, metB_ok (fx 43 _ rfl), b_Words_end⟩
  obtain ⟨fd_words_in, F_words_in⟩ := fn 30 _ rfl
  have F_words_in : FP K "words_in" "words_in" (topS 18) [] (He.ga K "words_in") fd_words_in := F_words_in
  have b_words_in := FunD.bindsN (ps := ["text"]) F_words_in fun _ _ _ _ _ _ us hl => match us, hl with | [_], _ => rfl
  have o_words_in := ok_words_in (g_mWords := g_mWords) (g_xBadText := g_xBadText) (P := P) (w := w) (base := base) G0 F_words_in
  have g_words_in : GD P w K mg base (L2.CX P w) 3 "words_in" ["text"] [] (spWords K csL tsL) := ⟨_, _, [], o_words_in, gl "words_in" (by decide +kernel), F_words_in.kp, b_words_in, .nil⟩
  obtain ⟨fd_l_pair, F_l_pair⟩ := fn 31 _ rfl
  have F_l_pair : FP K "_law_pair" "_law_pair" (topS 45) [] (He.ga K "_law_pair") fd_l_pair := F_l_pair
  have b_l_pair := FunD.bindsN (ps := ["_law_pail_here"]) F_l_pair fun _ _ _ _ _ _ us hl => match us, hl with | [_], _ => rfl
  have o_l_pair := ok__law_pair (g_l_dip := g_l_dip) (g_l_number := g_l_number) (T := TT K) (P := P) (w := w) (base := base) G0 F_l_pair
  have g_l_pair : GD P w K mg base (L2.CX P w) 3 "_law_pair" ["_law_pail_here"] [] (spLP K csL tsL (TT K) 60 800000 20 (fun ds => ds = []) (fun _ d => ∃ k j : Int, d = .tup [.int k, .int j] ∧ Pk 49 k j)) := ⟨_, _, [], o_l_pair, gl "_law_pair" (by decide +kernel), F_l_pair.kp, b_l_pair, .nil⟩
  obtain ⟨fd_cross, F_cross⟩ := fn 32 _ rfl
  have F_cross : FP K "cross" "cross" (topS 35) [] (He.ga K "cross") fd_cross := F_cross
  have b_cross := FunD.bindsN (ps := ["one", "other"]) F_cross fun _ _ _ _ _ _ us hl => match us, hl with | [_, _], _ => rfl
  have o_cross := ok_cross (g_need_step := g_need_step) (P := P) (w := w) (base := base) G0 F_cross
  have g_cross : GD P w K mg base (L2.CX P w) 4 "cross" ["one", "other"] [] (spR K csL tsL 1900 RCross) := ⟨_, _, [], o_cross, gl "cross" (by decide +kernel), F_cross.kp, b_cross, .nil⟩
  have g_cross_k : GDK P w K mg base (L2.CX P w) 4 "cross" ["other", "one"] 2 [1, 0] (spR K csL tsL 1900 RCross) := ⟨_, _, ["one", "other"], o_cross, gl "cross" (by decide +kernel), F_cross.kp, gk_2 F_cross rfl (fun _ _ _ _ _ _ _ _ => rfl)⟩
  obtain ⟨fd_Words_integer, F_Words_integer⟩ := fn 33 _ rfl
  have F_Words_integer : FP K "integer" "Words.integer" (inClass (topS 17) 7) [] (He.ma K (He.ga K "Words") "integer") fd_Words_integer := F_Words_integer
  have b_Words_integer := FunD.bindsN (ps := ["self"]) F_Words_integer fun _ _ _ _ _ _ us hl => match us, hl with | [_], _ => rfl
  have o_Words_integer := ok_Words_integer (g_Words_refuse := g_Words_refuse) (g_Words_take := g_Words_take) (g_integer_of := g_integer_of) (P := P) (w := w) (base := base) G0 F_Words_integer
  have g_Words_integer : GH P w K mg base (L2.CX P w) 4 (ca K .Words) "integer" ["self"] (spW K RInteg) := ⟨_, _, o_Words_integer, metB_ok (fx 44 _ rfl), b_Words_integer⟩
  obtain ⟨fd_Ratio_of, F_Ratio_of⟩ := fn 34 _ rfl
  have F_Ratio_of : FP K "of" "Ratio.of" (inClass (topS 21) 17) [] (He5.wf K (He.ga K "Ratio") "staticmethod" "of") fd_Ratio_of := F_Ratio_of
  have b_Ratio_of := FunD.bindsN (ps := ["value"]) F_Ratio_of fun _ _ _ _ _ _ us hl => match us, hl with | [_], _ => rfl
  have o_Ratio_of := ok_Ratio_of (g_is_ratio := g_is_ratio) (g_mRatio1 := g_mRatio1) (g_xBadRatio := g_xBadRatio) (P := P) (w := w) (base := base) G0 F_Ratio_of
  have g_Ratio_of : GS P w K mg base (L2.CX P w) 5 (ca K .Ratio) "of" (spR K csL tsL 3900 (ROf "BadRatio" "value")) := ⟨_, _, _, _, _, smB_ok (fx 45 _ rfl), o_Ratio_of, b_Ratio_of⟩
  obtain ⟨fd_summed, F_summed⟩ := fn 35 _ rfl
  have F_summed : FP K "summed" "summed" (topS 29) [] (He.ga K "summed") fd_summed := F_summed
  have b_summed := FunD.bindsN (ps := ["studs", "rounds"]) F_summed fun _ _ _ _ _ _ us hl => match us, hl with | [_, _], _ => rfl
  have o_summed := ok_summed (g_mStep := g_mStep) (g_xBadStep := g_xBadStep) (P := P) (w := w) (base := base) G0 F_summed
  have g_summed : GD P w K mg base (L2.CX P w) 5 "summed" ["studs", "rounds"] [] (spR K csL tsL 3900 RSummed) := ⟨_, _, [], o_summed, gl "summed" (by decide +kernel), F_summed.kp, b_summed, .nil⟩
  obtain ⟨fd_Step_neg, F_Step_neg⟩ := fn 36 _ rfl
  have F_Step_neg : FP K "__neg__" "Step.__neg__" (inClass (topS 28) 6) [] (He.ma K (He.ga K "Step") "__neg__") fd_Step_neg := F_Step_neg
  have b_Step_neg := FunD.bindsN (ps := ["self"]) F_Step_neg fun _ _ _ _ _ _ us hl => match us, hl with | [_], _ => rfl
  have o_Step_neg := ok_Step_neg (g_mStep := g_mStep) (P := P) (w := w) (base := base) G0 F_Step_neg
  have g_Step_USub : GN P w K mg base (L2.CX P w) 5 (ca K .Step) "__neg__" (spR K csL tsL 3900 RNegS) := ⟨_, _, _, (nm_ok (fx 46 _ rfl)).1, (nm_ok (fx 46 _ rfl)).2, o_Step_neg, b_Step_neg⟩
  obtain ⟨fd_Step_mul, F_Step_mul⟩ := fn 37 _ rfl
  have F_Step_mul : FP K "__mul__" "Step.__mul__" (inClass (topS 28) 7) [] (He.ma K (He.ga K "Step") "__mul__") fd_Step_mul := F_Step_mul
  have b_Step_mul := FunD.bindsN (ps := ["self", "other"]) F_Step_mul fun _ _ _ _ _ _ us hl => match us, hl with | [_, _], _ => rfl
  have o_Step_mul := ok_Step_mul (g_is_integer := g_is_integer) (g_mStep := g_mStep) (g_xBadNumber := g_xBadNumber) (P := P) (w := w) (base := base) G0 F_Step_mul
  have g_Step_Mult : GO P w K mg base (L2.CX P w) 5 (ca K .Step) .Mult (spR K csL tsL 1900 RMulS) := ⟨_, _, _, opB_ok (fx 47 _ rfl), o_Step_mul, b_Step_mul⟩
  obtain ⟨fd_Step_upward, F_Step_upward⟩ := fn 38 _ rfl
  have F_Step_upward : FP K "upward" "Step.upward" (inClass (topS 28) 1) [] (He5.wf K (He.ga K "Step") "property" "upward") fd_Step_upward := F_Step_upward
  have b_Step_upward := FunD.bindsN (ps := ["self"]) F_Step_upward fun _ _ _ _ _ _ us hl => match us, hl with | [_], _ => rfl
  have o_Step_upward := ok_Step_upward (g_is_upward := g_is_upward) (g_mStep := g_mStep) (P := P) (w := w) (base := base) G0 F_Step_upward
  have g_Step_upward : GP P w K mg base (L2.CX P w) 5 (ca K .Step) "upward" (spR K csL tsL 3900 RUpw) := ⟨(G0.cf .Step (by decide)).cl, _, _, _, _, propB_ok (fx 48 _ rfl), o_Step_upward, b_Step_upward⟩
  obtain ⟨fd_Step_corner, F_Step_corner⟩ := fn 39 _ rfl
  have F_Step_corner : FP K "corner" "Step.corner" (inClass (topS 28) 2) [] (He5.wf K (He.ga K "Step") "property" "corner") fd_Step_corner := F_Step_corner
  have b_Step_corner := FunD.bindsN (ps := ["self"]) F_Step_corner fun _ _ _ _ _ _ us hl => match us, hl with | [_], _ => rfl
  have o_Step_corner := ok_Step_corner (g_mRatio := g_mRatio) (g_need_studs := g_need_studs) (P := P) (w := w) (base := base) G0 F_Step_corner
  have g_Step_corner : GP P w K mg base (L2.CX P w) 5 (ca K .Step) "corner" (spR K csL tsL 3900 RCorner) := ⟨(G0.cf .Step (by decide)).cl, _, _, _, _, propB_ok (fx 49 _ rfl), o_Step_corner, b_Step_corner⟩
  obtain ⟨fd_Step_one_round, F_Step_one_round⟩ := fn 40 _ rfl
  have F_Step_one_round : FP K "one_round" "Step.one_round" (inClass (topS 28) 3) [] (He5.wf K (He.ga K "Step") "staticmethod" "one_round") fd_Step_one_round := F_Step_one_round
  have b_Step_one_round := FunD.bindsN (ps := []) F_Step_one_round fun _ _ _ _ _ _ us hl => match us, hl with | [], _ => rfl
  have o_Step_one_round := ok_Step_one_round (g_mStep := g_mStep) (P := P) (w := w) (base := base) G0 F_Step_one_round
  have g_Step_one_round : GS0 P w K mg base (L2.CX P w) 5 (ca K .Step) "one_round" (spR K csL tsL 3900 ROneR) := ⟨⟨_, _, _, _, _, smB_ok (fx 50 _ rfl), o_Step_one_round, b_Step_one_round⟩⟩
  obtain ⟨fd_are_neighbours, F_are_neighbours⟩ := fn 41 _ rfl
  have F_are_neighbours : FP K "are_neighbours" "are_neighbours" (topS 36) [] (He.ga K "are_neighbours") fd_are_neighbours := F_are_neighbours
  have b_are_neighbours := FunD.bindsN (ps := ["one", "other"]) F_are_neighbours fun _ _ _ _ _ _ us hl => match us, hl with | [_, _], _ => rfl
  have o_are_neighbours := ok_are_neighbours (g_cross := g_cross) (P := P) (w := w) (base := base) G0 F_are_neighbours
  have g_are_neighbours : GD P w K mg base (L2.CX P w) 5 "are_neighbours" ["one", "other"] [] (spR K csL tsL 1900 RAreN) := ⟨_, _, [], o_are_neighbours, gl "are_neighbours" (by decide +kernel), F_are_neighbours.kp, b_are_neighbours, .nil⟩
  obtain ⟨fd_take_step, F_take_step⟩ := fn 42 _ rfl
  have F_take_step : FP K "take_step" "take_step" (topS 33) [] (He.ga K "take_step") fd_take_step := F_take_step
  have b_take_step := FunD.bindsN (ps := ["words"]) F_take_step fun _ _ _ _ _ _ us hl => match us, hl with | [_], _ => rfl
  have o_take_step := ok_take_step (g_Words_integer := g_Words_integer) (g_Words_refuse := g_Words_refuse) (g_mStep := g_mStep) (P := P) (w := w) (base := base) G0 F_take_step
  have g_take_step : GD P w K mg base (L2.CX P w) 5 "take_step" ["words"] [] (spW K RTakeS) := ⟨_, _, [], o_take_step, gl "take_step" (by decide +kernel), F_take_step.kp, b_take_step, .nil⟩
  have g_take_step_l : GL P w K mg base (L2.CX P w) 5 "take_step" (spW K RTakeS) := ⟨gl "take_step" (by decide +kernel), F_take_step.kp, _, _, o_take_step, b_take_step⟩
  obtain ⟨fd_mate, F_mate⟩ := fn 43 _ rfl
  have F_mate : FP K "mate" "mate" (topS 39) [] (He.ga K "mate") fd_mate := F_mate
  have b_mate := FunD.bindsN (ps := ["step"]) F_mate fun _ _ _ _ _ _ us hl => match us, hl with | [_], _ => rfl
  have o_mate := ok_mate (g_inverse := g_inverse) (g_mStep := g_mStep) (g_need_step := g_need_step) (g_xCommon := g_xCommon) (P := P) (w := w) (base := base) G0 F_mate
  have g_mate : GD P w K mg base (L2.CX P w) 5 "mate" ["step"] [] (spMate K csL tsL) := ⟨_, _, [], o_mate, gl "mate" (by decide +kernel), F_mate.kp, b_mate, .nil⟩
  obtain ⟨fd_at_right, F_at_right⟩ := fn 44 _ rfl
  have F_at_right : FP K "at_right" "at_right" (topS 24) [] (He.ga K "at_right") fd_at_right := F_at_right
  have b_at_right := FunD.bindsN (ps := ["value"]) F_at_right fun _ _ _ _ _ _ us hl => match us, hl with | [_], _ => rfl
  have o_at_right := ok_at_right (g_Ratio_of := g_Ratio_of) (g_is_ratio := g_is_ratio) (g_xBadRatio := g_xBadRatio) (P := P) (w := w) (base := base) G0 F_at_right
  have g_at_right : GD P w K mg base (L2.CX P w) 6 "at_right" ["value"] [] (spR K csL tsL 3900 (ROf "BadRatio" "other")) := ⟨_, _, [], o_at_right, gl "at_right" (by decide +kernel), F_at_right.kp, b_at_right, .nil⟩
  obtain ⟨fd_Step_add, F_Step_add⟩ := fn 45 _ rfl
  have F_Step_add : FP K "__add__" "Step.__add__" (inClass (topS 28) 4) [] (He.ma K (He.ga K "Step") "__add__") fd_Step_add := F_Step_add
  have b_Step_add := FunD.bindsN (ps := ["self", "other"]) F_Step_add fun _ _ _ _ _ _ us hl => match us, hl with | [_, _], _ => rfl
  have o_Step_add := ok_Step_add (g_need_step := g_need_step) (g_summed := g_summed) (P := P) (w := w) (base := base) G0 F_Step_add
  have g_Step_Add : GO P w K mg base (L2.CX P w) 6 (ca K .Step) .Add (spR K csL tsL 1900 (RBinS (· + ·))) := ⟨_, _, _, opB_ok (fx 51 _ rfl), o_Step_add, b_Step_add⟩
  obtain ⟨fd_Step_sub, F_Step_sub⟩ := fn 46 _ rfl
  have F_Step_sub : FP K "__sub__" "Step.__sub__" (inClass (topS 28) 5) [] (He.ma K (He.ga K "Step") "__sub__") fd_Step_sub := F_Step_sub
  have b_Step_sub := FunD.bindsN (ps := ["self", "other"]) F_Step_sub fun _ _ _ _ _ _ us hl => match us, hl with | [_, _], _ => rfl
  have o_Step_sub := ok_Step_sub (g_need_step := g_need_step) (g_summed := g_summed) (P := P) (w := w) (base := base) G0 F_Step_sub
  have g_Step_Sub : GO P w K mg base (L2.CX P w) 6 (ca K .Step) .Sub (spR K csL tsL 1900 (RBinS (· - ·))) := ⟨_, _, _, opB_ok (fx 52 _ rfl), o_Step_sub, b_Step_sub⟩
  obtain ⟨fd_need_neighbours, F_need_neighbours⟩ := fn 47 _ rfl
  have F_need_neighbours : FP K "need_neighbours" "need_neighbours" (topS 37) [] (He.ga K "need_neighbours") fd_need_neighbours := F_need_neighbours
  have b_need_neighbours := FunD.bindsN (ps := ["one", "other"]) F_need_neighbours fun _ _ _ _ _ _ us hl => match us, hl with | [_, _], _ => rfl
  have o_need_neighbours := ok_need_neighbours (g_are_neighbours := g_are_neighbours) (g_xNotNeighbours := g_xNotNeighbours) (P := P) (w := w) (base := base) G0 F_need_neighbours
  have g_need_neighbours : GD P w K mg base (L2.CX P w) 6 "need_neighbours" ["one", "other"] [] (spR K csL tsL 1900 RNeedN) := ⟨_, _, [], o_need_neighbours, gl "need_neighbours" (by decide +kernel), F_need_neighbours.kp, b_need_neighbours, .nil⟩
  obtain ⟨fd_read_whole, F_read_whole⟩ := fn 48 _ rfl
  have F_read_whole : FP K "read_whole" "read_whole" (topS 19) [] (He.ga K "read_whole") fd_read_whole := F_read_whole
  have b_read_whole := FunD.bindsN (ps := ["text", "take"]) F_read_whole fun _ _ _ _ _ _ us hl => match us, hl with | [_, _], _ => rfl
  have o_read_whole := ok_read_whole (g_Words_end := g_Words_end) (g_take_step_l := g_take_step_l) (g_words_in := g_words_in) (P := P) (w := w) (base := base) G0 F_read_whole
  have g_read_whole : GD P w K mg base (L2.CX P w) 6 "read_whole" ["text", "take"] [] (spReadW K csL tsL (He.ga K "take_step") RTakeS) := ⟨_, _, [], o_read_whole, gl "read_whole" (by decide +kernel), F_read_whole.kp, b_read_whole, .nil⟩
  obtain ⟨fd_Ratio_add, F_Ratio_add⟩ := fn 49 _ rfl
  have F_Ratio_add : FP K "__add__" "Ratio.__add__" (inClass (topS 21) 4) [] (He.ma K (He.ga K "Ratio") "__add__") fd_Ratio_add := F_Ratio_add
  have b_Ratio_add := FunD.bindsN (ps := ["self", "other"]) F_Ratio_add fun _ _ _ _ _ _ us hl => match us, hl with | [_, _], _ => rfl
  have o_Ratio_add := ok_Ratio_add (g_at_right := g_at_right) (g_mRatio := g_mRatio) (P := P) (w := w) (base := base) G0 F_Ratio_add
  have g_Ratio_Add : GO P w K mg base (L2.CX P w) 7 (ca K .Ratio) .Add (spR K csL tsL 1900 (RBinR (· + ·))) := ⟨_, _, _, opB_ok (fx 53 _ rfl), o_Ratio_add, b_Ratio_add⟩
  obtain ⟨fd_between, F_between⟩ := fn 50 _ rfl
  have F_between : FP K "between" "between" (topS 38) [] (He.ga K "between") fd_between := F_between
  have b_between := FunD.bindsN (ps := ["one", "other"]) F_between fun _ _ _ _ _ _ us hl => match us, hl with | [_, _], _ => rfl
  have o_between := ok_between (g_Step_Add := g_Step_Add) (g_need_neighbours := g_need_neighbours) (P := P) (w := w) (base := base) G0 F_between
  have g_between : GD P w K mg base (L2.CX P w) 7 "between" ["one", "other"] [] (spR K csL tsL 1900 RBetween) := ⟨_, _, [], o_between, gl "between" (by decide +kernel), F_between.kp, b_between, .nil⟩
  obtain ⟨fd_Step_read, F_Step_read⟩ := fn 51 _ rfl
  have F_Step_read : FP K "read" "Step.read" (inClass (topS 28) 10) [] (He5.wf K (He.ga K "Step") "classmethod" "read") fd_Step_read := F_Step_read
  have b_Step_read := FunD.bindsN (ps := ["cls", "text"]) F_Step_read fun _ _ _ _ _ _ us hl => match us, hl with | [_, _], _ => rfl
  have o_Step_read := ok_Step_read (g_read_whole := g_read_whole) (g_take_step_l := g_take_step_l) (P := P) (w := w) (base := base) G0 F_Step_read
  have g_Step_read : GC P w K mg base (L2.CX P w) 7 (ca K .Step) "read" (spReadC K csL tsL RTakeS) := ⟨_, _, _, _, _, (cmB_ok (fx 54 _ rfl)).1, (cmB_ok (fx 54 _ rfl)).2, o_Step_read, b_Step_read⟩
  obtain ⟨fd_l_heard, F_l_heard⟩ := fn 52 _ rfl
  have F_l_heard : FP K "_law_heard" "_law_heard" (topS 48) [] (He.ga K "_law_heard") fd_l_heard := F_l_heard
  have gHd : GHd P w K mg base := GHd.of ⟨_, _, _, okq_told G0 F_l_told, gl "_law_told" (by decide +kernel), F_l_told.kp, b_l_told⟩ F_l_heard (gl "_law_heard" (by decide +kernel))
  obtain ⟨fd_l_one_right, F_l_one_right⟩ := fn 53 _ rfl
  have F_l_one_right : FP K "_law_one_right" "_law_one_right" (topS 49) [] (He.ga K "_law_one_right") fd_l_one_right := F_l_one_right
  have b_l_one_right := FunD.bindsN (ps := ["_law_pair_here"]) F_l_one_right fun _ _ _ _ _ _ us hl => match us, hl with | [_], _ => rfl
  have c_l_one_right : fd_l_one_right.code = .ref (He.cT K ("_law_one_right", none)).1 := code_of F_l_one_right
  have o_l_one_right := ok__law_one_right (g_Step_USub := g_Step_USub) (g_Step_corner := g_Step_corner) (g_Step_eq := g_Step_eq) (g_Step_read := g_Step_read) (g_Step_str := g_Step_str) (g_Step_upward := g_Step_upward) (g_l_common := g_l_common) (g_l_told := g_l_told) (g_mStep := g_mStep) (g_mStep_krs := g_mStep_krs) (nf_Step := nf_Step) (T := TT K) hNa gE gHd (TB _ (tmem "_law_one_right" (by decide))) (tmem2 "_law_one_right" (by decide)) (fun p hp e => hu "_law_one_right" (by decide) p hp e) c_l_one_right (P := P) (w := w) (base := base) G0 F_l_one_right
  have g_l_one_right : GD P w K mg base (L2.CX P w) 18 "_law_one_right" ["_law_pair_here"] [] (spL K csL tsL (TT K) 60 ROne) := ⟨_, _, [], o_l_one_right, gl "_law_one_right" (by decide +kernel), F_l_one_right.kp, b_l_one_right, .nil⟩
  obtain ⟨fd_l_two_right, F_l_two_right⟩ := fn 54 _ rfl
  have F_l_two_right : FP K "_law_two_right" "_law_two_right" (topS 50) [] (He.ga K "_law_two_right") fd_l_two_right := F_l_two_right
  have b_l_two_right := FunD.bindsN (ps := ["_law_one", "_law_other"]) F_l_two_right fun _ _ _ _ _ _ us hl => match us, hl with | [_, _], _ => rfl
  have c_l_two_right : fd_l_two_right.code = .ref (He.cT K ("_law_two_right", none)).1 := code_of F_l_two_right
  have o_l_two_right := ok__law_two_right (g_Step_Add := g_Step_Add) (g_Step_Sub := g_Step_Sub) (g_Step_eq := g_Step_eq) (g_are_neighbours := g_are_neighbours) (g_between := g_between) (g_cross := g_cross) (g_cross_k := g_cross_k) (g_l_told := g_l_told) (g_mStep := g_mStep) (nf_Step := nf_Step) (T := TT K) gE gHd (TB _ (tmem "_law_two_right" (by decide))) (tmem2 "_law_two_right" (by decide)) (fun p hp e => hu "_law_two_right" (by decide) p hp e) c_l_two_right (P := P) (w := w) (base := base) G0 F_l_two_right
  have g_l_two_right : GD P w K mg base (L2.CX P w) 18 "_law_two_right" ["_law_one", "_law_other"] [] (spL K csL tsL (TT K) 60 RTwo) := ⟨_, _, [], o_l_two_right, gl "_law_two_right" (by decide +kernel), F_l_two_right.kp, b_l_two_right, .nil⟩
  obtain ⟨fd_l_mate_right, F_l_mate_right⟩ := fn 55 _ rfl
  have F_l_mate_right : FP K "_law_mate_right" "_law_mate_right" (topS 52) [] (He.ga K "_law_mate_right") fd_l_mate_right := F_l_mate_right
  have b_l_mate_right := FunD.bindsN (ps := ["_law_pair_here"]) F_l_mate_right fun _ _ _ _ _ _ us hl => match us, hl with | [_], _ => rfl
  have c_l_mate_right : fd_l_mate_right.code = .ref (He.cT K ("_law_mate_right", none)).1 := code_of F_l_mate_right
  have o_l_mate_right := ok__law_mate_right (g_l_common := g_l_common) (g_l_nearest := g_l_nearest) (g_l_told := g_l_told) (g_mStep := g_mStep) (g_mate := g_mate) (nf_Step := nf_Step) (T := TT K) gE gHd (TB _ (tmem "_law_mate_right" (by decide))) (tmem2 "_law_mate_right" (by decide)) (fun p hp e => hu "_law_mate_right" (by decide) p hp e) c_l_mate_right (P := P) (w := w) (base := base) G0 F_l_mate_right
  have g_l_mate_right : GD P w K mg base (L2.CX P w) 18 "_law_mate_right" ["_law_pair_here"] [] (spL K csL tsL (TT K) 60 ROne) := ⟨_, _, [], o_l_mate_right, gl "_law_mate_right" (by decide +kernel), F_l_mate_right.kp, b_l_mate_right, .nil⟩
  obtain ⟨fd_l_refused_right, F_l_refused_right⟩ := fn 56 _ rfl
  have F_l_refused_right : FP K "_law_refused_right" "_law_refused_right" (topS 53) [] (He.ga K "_law_refused_right") fd_l_refused_right := F_l_refused_right
  have b_l_refused_right := FunD.bindsN (ps := ["_law_pail_here", "_law_pair_here"]) F_l_refused_right fun _ _ _ _ _ _ us hl => match us, hl with | [_, _], _ => rfl
  have c_l_refused_right : fd_l_refused_right.code = .ref (He.cT K ("_law_refused_right", none)).1 := code_of F_l_refused_right
  have o_l_refused_right := ok__law_refused_right (g_Step_Add := g_Step_Add) (g_Step_Mult := g_Step_Mult) (g_Step_Sub := g_Step_Sub) (g_are_neighbours := g_are_neighbours) (g_between := g_between) (g_cross := g_cross) (g_l_dip := g_l_dip) (g_mRatio1 := g_mRatio1) (g_mStep := g_mStep) (g_mate := g_mate) (nf_Step := nf_Step) (T := TT K) hRa hRs hRm hRr gE gHd (TB _ (tmem "_law_refused_right" (by decide))) (tmem2 "_law_refused_right" (by decide)) (fun p hp e => hu "_law_refused_right" (by decide) p hp e) c_l_refused_right (P := P) (w := w) (base := base) G0 F_l_refused_right
  have g_l_refused_right : GD P w K mg base (L2.CX P w) 18 "_law_refused_right" ["_law_pail_here", "_law_pair_here"] [] (spLP K csL tsL (TT K) 60 700000 5 (fun ds => ∃ k j : Int, ds = [.tup [.int k, .int j]] ∧ Pk 52 k j) (fun _ d => d = .bl true)) := ⟨_, _, [], o_l_refused_right, gl "_law_refused_right" (by decide +kernel), F_l_refused_right.kp, b_l_refused_right, .nil⟩
  obtain ⟨fd_l_text_right, F_l_text_right⟩ := fn 57 _ rfl
  have F_l_text_right : FP K "_law_text_right" "_law_text_right" (topS 54) [] (He.ga K "_law_text_right") fd_l_text_right := F_l_text_right
  have b_l_text_right := FunD.bindsN (ps := ["_law_pail_here", "_law_pair_here"]) F_l_text_right fun _ _ _ _ _ _ us hl => match us, hl with | [_, _], _ => rfl
  have c_l_text_right : fd_l_text_right.code = .ref (He.cT K ("_law_text_right", none)).1 := code_of F_l_text_right
  have o_l_text_right := ok__law_text_right (g_Step_read := g_Step_read) (g_l_dip := g_l_dip) (T := TT K) gE gHd (TB _ (tmem "_law_text_right" (by decide))) (tmem2 "_law_text_right" (by decide)) (fun p hp e => hu "_law_text_right" (by decide) p hp e) c_l_text_right (P := P) (w := w) (base := base) G0 F_l_text_right
  have g_l_text_right : GD P w K mg base (L2.CX P w) 18 "_law_text_right" ["_law_pail_here", "_law_pair_here"] [] (spLP K csL tsL (TT K) 60 700000 10 (fun ds => ∃ k j : Int, ds = [.tup [.int k, .int j]] ∧ Pk 52 k j) (fun _ d => d = .bl true)) := ⟨_, _, [], o_l_text_right, gl "_law_text_right" (by decide +kernel), F_l_text_right.kp, b_l_text_right, .nil⟩
  exact ok_law (g_Step_Mult := g_Step_Mult) (g_Step_one_round := g_Step_one_round) (g_l_common := g_l_common) (g_l_dip := g_l_dip) (g_l_mate_right := g_l_mate_right) (g_l_one_right := g_l_one_right) (g_l_pail := g_l_pail) (g_l_pair := g_l_pair) (g_l_refused_right := g_l_refused_right) (g_l_text_right := g_l_text_right) (g_l_told := g_l_told) (g_l_two_right := g_l_two_right) (g_mStep := g_mStep) (g_mate := g_mate) (T := TT K) (P := P) (w := w) (base := base) G0 F_law
end Sp
end
set_option Elab.async false
set_option linter.all false
set_option maxRecDepth 100000
set_option maxHeartbeats 0
namespace Sp
open PySem PySem.Spec PyProof.Rows L2
open PySem.W (Frag)
abbrev lw : PySem.W.OpenLaw := PySem.Challenge.rw_spiralsays_k05_steps_added_and_their_mat
theorem law_at {w : World} {mg : Str → Option Value} {fa : Addr} {h : Heap} (Y : ∃ K : Frag, K.In h ∧ SaysB h K) (G : h.Ns mainGlobals mg) (hfa : mg "law" = some (.ref fa)) :
    ∃ K : Frag, K.In h ∧ LamX.LawAtS lw w K (L2.CX lw.prog w) 19 63 "_law_script" mg fa h := by
  obtain ⟨K, KX, c⟩ := Y
  have e := hfa.symm.trans (He.glo_ok KX G (c.gl "law" (by decide +kernel)))
  cases e
  obtain ⟨fd, F⟩ := (c.fn _ (List.mem_of_getElem? (show fnL[58]? = some _ from rfl))).elim fun h1 h2 => He5.DefA.funD h2 h1
  have F : FP K "law" "law" (topS 55) [] (He.ga K "law") fd := F
  have b := FunD.bindsA (ps := ["_law_script"]) F fun _ _ _ _ _ _ us hl => match us, hl with | [_], _ => rfl
  have AP : apB K = true := c.ex apB (List.mem_of_getElem? (show exL[14]? = some _ from rfl))
  refine ⟨K, KX, fd, tfL.map (He.cT K), spLaw K (TT K), fun p hp => ?_, fun p hp => ?_, fun p hp => ?_, fun s v => b s [v] rfl, fun H a ns hl _ hH hS => ⟨a, ns, rfl, hS, fun p hp => ?_, fun _ => rfl⟩, fun base KB NB TB => law_ok c KB NB AP TB F⟩
  · obtain ⟨q, hq, rfl⟩ := List.mem_map.mp hp
    exact c.empty q hq
  · obtain ⟨q, hq, rfl⟩ := List.mem_map.mp hp
    exact c.out q hq
  · obtain ⟨q, hq, rfl⟩ := List.mem_map.mp hp
    exact PySem.W.codeHd_of_K KX (c.hd q hq)
  · obtain ⟨d, hd, rfl⟩ := List.mem_map.mp hp
    exact LamX.TabS.nil (hH _ (List.mem_map.mpr ⟨d, hd, rfl⟩))
end Sp
open PySem PySem.W PySem.Calls PyProof.Rows
theorem PySem.Challenge.cw_spiralsays_k05_steps_added_and_their_mat_holds : PySem.Challenge.rw_spiralsays_k05_steps_added_and_their_mat.Holds := by
  w_on; o_law
  refine HandSHeadRun.head_imp (r := Sp.Rw) (q := Sp.qv) (H := Sp.hk) (ob := Sp.ob) (M := 30000) (loose := Sp.names) (d := HandSHeadRun.topDef Sp.Rw.prog 55) (kwd := []) Sp.ob_eq Sp.run (by kernel_rfl) (by kernel_rfl) (by kernel_rfl) (by rfl) (by first | assumption | decide +kernel) (by decide +kernel) ⟨rfl, rfl, rfl, rfl, rfl, by decide +kernel⟩ ?hw ?hc
  case hw => w_witness2
  case hc =>
    refine LamX.walk_ofTsE (l := Sp.lw) (n := 63) (k := 19) (x := "_law_script") (CX := fun w => L2.CX Sp.lw.prog w) rfl (by decide) (by kernel_rfl) ⟨rfl, by decide, by decide⟩ ?F (fun w H s e s' z => ?C)
    case C =>
      obtain ⟨_, _, _, _, _, _, _, _, _, _, _, _, z⟩ := z
      exact z
    case F =>
      intro w mg fa h Y G hmg0
      have hmg : mg ("law" : PySem.Str) = some (.ref fa) := by
        have e : (HandSHeadRun.topDef Sp.Rw.prog 55).name = ("law" : PySem.Str) := by kernel_rfl
        rw [← e]
        exact hmg0
      exact Sp.law_at Y G hmg
