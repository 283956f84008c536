import PyProof.Rows.All
import Wide.All
import OpenK.AllK
import Wide.FinOn
import KE.KOpsOwn
import HandS.ForMost
import HandS.Exc
import HandS.ExcInit
import HandS.ExcField
import HandS.TryMany
import HandS.Property
import HandS.ClsMeth
import HandS.SlotsOwn
import HandS.IsInst
import HandS.Gcd
import HandS.Wide
import HandS.WordsExc
import HandS.Evl
import HandS.CallSlots
import HandS.Lambda
import HandS.EndTab
import HandS.Defaults
import HandS.TupLe
import HandS.Style
import KE.KFmtOwn
import PyProof.InstEq
import HandS.Dict
import HandS.Iter
import HandS.CallLocal
import HandS.Text
import HandS.StrMore
import HandS.FStr
import HandS.HeadHook4
import HandS.HeadWalk
import HandS.Head4
import HandS.HeadNt
import HandS.Head0
import HandS.Head1
import HandS.Head2
import HandS.Head3
import HandS.MakeKw
import HandS.AnyAll
import KE.KCallOwn
import HandS.Comp
import KE.IntTextLaws
import PyProof.Rows.StrDigitsNeg
import HandS.HotCalls
import PyProof.Rows.StrSplitJoin
import PyProof.Rows.StrItems
import PyProof.StrOps2
import HandS.Walk
import HandS.Zip
import HandS.Rev
import KE.GoesMore
import KE.KTupSum
import PyProof.Draws
import PyProof.EnumMake
import HandS.TupAny
import PySem.Challenge.RW_spiralsays_k42_roads_that_part
section
set_option Elab.async false
set_option linter.all false
set_option maxRecDepth 100000
set_option maxHeartbeats 4000000
namespace Sp
open PySem PySem.Spec PyProof.Rows L2
/-! ### operators of an own class -/
/-- what of the text the class at C must have for the operator's name, its def at g -/
structure OpC (K : PySem.W.Frag) (C : Addr) (m r : Str) (g : Addr) : Prop where
  first : PySem.W.selfFirst K C = true
  at_ : PySem.W.findIn K (.ref C) m = some (some (.ref g))
  fn : PySem.W.isFn K (.ref g) = true
  rev : PySem.W.findIn K (.ref C) r = some none
  int1 : ∃ fo, PySem.W.findIn K (.type "int") m = some fo
  int2 : ∃ ro, PySem.W.findIn K (.type "int") r = some ro
  sub : PySem.W.subIn K (.type "int") (.ref C) = some false
structure rBin (C : Addr) (sp : Sp) (E : XK) (x : V) (y : V) (H : Hp) (Q : VK) : Prop where
  un : ∃ a dx fs, x = .ref a ∧ H a = some (.ins C dx fs) ∧
  ((∃ b dy gs, y = .ref b ∧ H b = some (.ins C dy gs)) ∨ ∃ i, y = .int i) ∧ sp [x, y] H Q E
section
variable {X : Cx} {CX : CXT} {k : Nat} {C g : Addr} {fd : FuncData} {ps : List Str} {sp : Sp} {E : XK} {op : Operator}
theorem run_dun {pins : List (Addr × Obj)} {σ : L2.St} {H : Hp} {s : Shared} {Q : VK} {us : List Value} {vs : List V} (F : FnOk X.prog X.w X.K X.mg X.base CX k g fd ps sp) (hr : Room k X.A) (hb : Binds X.K fd ps []) (hx : Passes CX X E)
    (I : Inv X pins σ H s) (r : Vals vs us) (h : sp vs H Q E) : wpAny (model X.prog X.w) X.A (call (.ref g) us) (PySem.W.CmpBack (EP X pins σ Q)) X.xe s := by
  refine wpAny_mono (run_fn (dvs := []) (ds := []) F hr hb .nil hx I r (by rw [List.append_nil]; exact h)) (fun v s' z => ?_) fun _ _ x => x
  obtain ⟨z', H', I', rz, qz⟩ := z
  exact SlX.cmpback rz ⟨z', H', I', rz, qz⟩
/-- x op y by the class's own def -/
theorem op_bin (O : OpC X.K C (PySem.dunder op.info.2) (PySem.dunderR op.info.2) g) (F : FnOk X.prog X.w X.K X.mg X.base CX k g fd ps sp) (hr : Room k X.A) (hb : Binds X.K fd ps []) (hx : Passes CX X E) :
    OpR X (binaryOp op) (rBin C sp E) := by
  intro pins s σ H x y v u Q I rx ry h
  obtain ⟨a, dx, fs, rfl, ha, hy, q⟩ := h
  cases (show v = Value.ref a from rx)
  obtain ⟨mA, J, _⟩ := ins_get I.hok ha
  obtain ⟨od, J, _⟩ := J.look
  obtain ⟨m, hF⟩ := I.fr
  rcases hy with ⟨b, dy, gs, rfl, hb'⟩ | ⟨i, rfl⟩
  · cases (show u = Value.ref b from ry)
    obtain ⟨mB, J', _⟩ := ins_get I.hok hb'
    obtain ⟨od', J', _⟩ := J'.look
    exact PySem.W.binop_K hF I.ok.mod.kin J J'.type O.first O.at_ O.fn (run_dun (us := [.ref a, .ref b]) (vs := [.ref a, .ref b]) F hr hb hx I (.cons rfl (.cons rfl .nil)) q)
  · obtain ⟨fo, h1⟩ := O.int1
    obtain ⟨ro, h2⟩ := O.int2
    obtain ⟨t, rfl⟩ := ry
    exact PySem.W.ksp_binT hF I.ok.mod.kin J rfl O.first O.at_ O.fn O.rev (.inl rfl) h1 h2 O.sub (run_dun (us := [.ref a, .int i t]) (vs := [.ref a, .int i]) F hr hb hx I (.cons rfl (.cons ⟨t, rfl⟩ .nil)) q)
/-- -x by the class's own def -/
structure rUn (C : Addr) (sp : Sp) (E : XK) (x : V) (H : Hp) (Q : VK) : Prop where
  un : ∃ a dx fs, x = .ref a ∧ H a = some (.ins C dx fs) ∧ sp [x] H Q E
theorem un_own (hs : PySem.W.findIn X.K (.ref C) "__neg__" = some (some (.ref g))) (hf : PySem.W.isFn X.K (.ref g) = true) (F : FnOk X.prog X.w X.K X.mg X.base CX k g fd ps sp) (hr : Room k X.A) (hb : Binds X.K fd ps []) (hx : Passes CX X E) :
    UnR X (unaryOp .USub) (rUn C sp E) := by
  intro pins s σ H x v Q I rx h
  obtain ⟨a, dx, fs, rfl, ha, q⟩ := h
  cases (show v = Value.ref a from rx)
  obtain ⟨mA, J, _⟩ := ins_get I.hok ha
  obtain ⟨od, J, _⟩ := J.look
  obtain ⟨m, hF⟩ := I.fr
  refine PySem.W.ksp_neg hF I.ok.mod.kin J hs hf ?_
  exact run_fn (dvs := []) (ds := []) (us := [.ref a]) (vs := [.ref a]) F hr hb .nil hx I (.cons rfl .nil) (by rw [List.append_nil]; exact q)
/-- x == y, x of the class at C with an own __eq__; y an instance of C, or a flat value whose type is no class below C -/
structure rEqOwn (K : PySem.W.Frag) (C : Addr) (sp : Sp) (E : XK) (x : V) (y : V) (H : Hp) (Q : VK) : Prop where
  un : ∃ a dx fs t, x = .ref a ∧ H a = some (.ins C dx fs) ∧ TyX K H y t ∧ PySem.W.notFirst K C t = true ∧ sp [x, y] H Q E
theorem ty_looks {pins : List (Addr × Obj)} {σ : L2.St} {H : Hp} {s : Shared} {y : V} {u t : Value} (I : Inv X pins σ H s) (ry : RelV y u) (ty : TyX X.K H y t) : PySem.W.Looks (model X.prog X.w) s.heap (typeOf u) t := by
  obtain ⟨P, Z, p, _⟩ := kit_of I ry ty
  exact Z.ty _ _ I.kIn p

theorem op_eqOwn (hs : PySem.W.findIn X.K (.ref C) "__eq__" = some (some (.ref g))) (hf : PySem.W.isFn X.K (.ref g) = true) (F : FnOk X.prog X.w X.K X.mg X.base CX k g fd ps sp) (hr : Room k X.A) (hb : Binds X.K fd ps []) (hx : Passes CX X E) :
    OpR X (compareOp .Eq) (rEqOwn X.K C sp E) := by
  intro pins s σ H x y v u Q I rx ry h
  obtain ⟨a, dx, fs, t, rfl, ha, ty, hn, q⟩ := h
  cases (show v = Value.ref a from rx)
  obtain ⟨mA, J, _⟩ := ins_get I.hok ha
  obtain ⟨od, J, _⟩ := J.look
  obtain ⟨m, hF⟩ := I.fr
  show wpAny (model X.prog X.w) X.A (richCompare .Eq (.ref a) u) (EP X pins σ Q) X.xe s
  exact PySem.W.cmp_K (op := .Eq) (tb := t) hr.units0 hF I.ok.mod.kin J (ty_looks I ry ty) hn hs hf (run_dun (us := [.ref a, u]) (vs := [.ref a, y]) F hr hb hx I (.cons rfl (.cons ry .nil)) q)
/-- abs(x) by the class's own def -/
structure rAbsOwn (C : Addr) (sp : Sp) (E : XK) (xs : List V) (H : Hp) (Q : VK) : Prop where
  un : ∃ a dx fs, xs = [.ref a] ∧ H a = some (.ins C dx fs) ∧ sp [.ref a] H Q E
theorem entry_abs : entryFor table "abs" = some Builtin.«abs» := entryFor_of_tree (by kernel_rfl)
/-- staticmethod: its record at p, its def at g -/
structure SMet (K : PySem.W.Frag) (C : Addr) (mc : Value) (m : Str) (p g : Addr) : Prop where
  rd : PySem.W.readsIn K C mc = true
  ga : PySem.W.specialIn K (.ref C) "__getattribute__" = some (some (.builtin "type.__getattribute__"))
  at_ : PySem.W.findCls K (.ref C) mc m = some (.get (.builtin "staticmethod.__get__") (.ref p) .none (.ref C))
  rc : ∃ rest, PySem.W.recIn K p "staticmethod" = some (.ref g :: rest)
  kp : PySem.W.keepIn K (.ref g) = true
def tSMeth (C : Addr) (sp : Sp) (E : XK) (ta : TE) (t : TA) : TE := fun σ H Q => ta σ H fun x H1 => x = .ref C ∧ t σ H1 fun vs H2 => sp vs H2 Q E
variable {o e : Expr} {es : List Expr} {m : Str} {apos pos : Pos} {ta : TE} {t : TA} {pl : Sem Bool} {mc : Value} {p : Addr}
theorem pe_smeth (he : PE X o ta) (c : SMet X.K C mc m p g) (F : FnOk X.prog X.w X.K X.mg X.base CX k g fd ps sp) (hr : Room k X.A) (hb : Binds X.K fd ps []) (hx : Passes CX X E) (ha : PA X (e :: es) t)
    (hst : starEach (e :: es) X.env = (false, eval e X.env) :: starEach es X.env := by rfl) (hpl : (backTo pos (starEach es X.env)).any (·.1) = false := by rfl)
    (ht : eval (.Call (.Attribute o m apos) (e :: es) [] pos) X.env = (do
      let ov ← eval o X.env
      standAt apos.atName
      let (f, first) ← holding [ov] (getMethod ov m pl)
      callWith pos f first (backTo pos (starEach (e :: es) X.env)) (backToKw pos (keywordEach [] X.env))) := by rfl) :
    PE X (.Call (.Attribute o m apos) (e :: es) [] pos) (tSMeth C sp E ta t) := by
  refine ⟨fun pins s σ H Q I h => ?_⟩
  refine PySem.W.methodCall_KW (pl := pl) (thn (he.run pins s σ H _ I h) fun u s1 ⟨x, H1, I1, rx, ex, q⟩ => ?_) ht
  subst ex
  obtain rfl : u = Value.ref C := rx
  obtain ⟨rest, hp⟩ := c.rc
  refine PySem.W.method_cls I1.kIn c.ga (PySem.W.cls_bind I1.kIn c.rd c.at_ (wpAny_call (PySem.W.sm_get (s := { s1 with toks := s1.toks + 1 }) I1.kIn hp (PySem.W.handed_on rfl ?_))))
  have I2 := I1.tok (s1.toks + 1)
  refine PySem.W.callWith_K (h₀ := X.base) I.ok.mod.kin c.kp (thn (ha.run pos pins _ σ H1 _ I2 q) fun us s3 ⟨vs, H2, I3, r, q2⟩ => ⟨I3.kIn, ?_⟩) hst hpl
  exact run_fn (dvs := []) (ds := []) F hr hb .nil hx I3 r (by rw [List.append_nil]; exact q2)
end
/-! ### numbers -/
def CDivB (_ j : Int) : Prop := j ≠ 0 ∧ j.natAbs < 2 ^ 4000
def CMulB (i j : Int) : Prop := i.natAbs < 2 ^ 4000 ∧ j.natAbs < 2 ^ 4000
section
variable {X : Cx}
theorem lg {x : Int} (h : x.natAbs < 2 ^ 4000) : x.natAbs.log2 < 4000 := PySem.Flt.log2_lt_of (by decide) h
theorem op_fdivB : OpR X (binaryOp .FloorDiv) (rI CDivB fun i j => .int (i.fdiv j)) := opI fun i j _ _ _ _ _ hc q =>
  floordiv_int hc.1 q (.inl (PyProof.noPylong_of_log2 (Nat.lt_of_lt_of_le (lg hc.2) (by decide))))
theorem op_mulB : OpR X (binaryOp .Mult) (rI CMulB fun i j => .int (i * j)) := opI fun _ _ _ _ _ _ _ hc q => mul_int q (CMulW.ok (show _ + _ < 1000000 by have := lg hc.1; have := lg hc.2; omega))
end

section
variable {X : Cx} {CX : CXT} {k : Nat} {C g : Addr} {fd : FuncData} {ps ks : List Str} {sp : Sp} {E : XK}
theorem run_in1 {pins : List (Addr × Obj)} {σ : L2.St} {H : Hp} {s : Shared} {Q : VK} {us : List Value} {vs : List V} (F : FnOk X.prog X.w X.K X.mg X.base CX k g fd ps sp) (hr : Room (k + 1) X.A) (hb : Binds X.K fd ps []) (hx : Passes CX X E)
    (I : Inv X pins σ H s) (r : Vals vs us) (h : sp vs H Q E) : wpAny (model X.prog X.w) X.A.in1 (call (.ref g) us) (EP X pins σ Q) X.xe s := by
  have hl : (us ++ []).length = ps.length := by
    rw [List.append_nil, ← r.length]
    exact F.len _ _ _ _ h
  have hb' := hb s us I.kIn hl
  rw [List.append_nil] at hb'
  refine wpAny_call (codeAny_mono (F.run X.A.in1 X.stack s H ⟨us, []⟩ us vs Q E hr.in1 I.env0.in1 hb' r h) fun r s' hq => ?_)
  cases r with
  | error e => exact hx pins σ H s e s' I hq
  | ok fl =>
    cases fl with
    | ret u => exact I.after hq
    | next => exact False.elim hq
    | brk => exact False.elim hq
    | cont => exact False.elim hq
theorem call_absOwn (hs : PySem.W.findIn X.K (.ref C) "__abs__" = some (some (.ref g))) (hf : PySem.W.isFn X.K (.ref g) = true) (F : FnOk X.prog X.w X.K X.mg X.base CX k g fd ps sp) (hr : Room (k + 1) X.A) (hb : Binds X.K fd ps []) (hx : Passes CX X E) :
    CallR X (.builtin "abs") (rAbsOwn C sp E) := by
  intro pins s σ H xs us Q I r h
  obtain ⟨a, dx, fs, rfl, ha, q⟩ := h
  obtain ⟨u, rfl, ru⟩ := vals1 r
  cases (show u = Value.ref a from ru)
  obtain ⟨mA, J, _⟩ := ins_get I.hok ha
  obtain ⟨od, J, _⟩ := J.look
  refine PySem.Calls.call_function_entry kind_abs plain_abs PyProof.Rows.entry_abs (args_abs _) ?_
  unfold Builtin.«abs»
  refine wpAny_bind (m := oneArg "abs" _) (wpAny_pure ?_)
  refine wpAny_bind (m := callSpecial? (.ref a) (Str.ofString "__abs__")) (PySem.W.special_fn I.kIn J hs (beq_iff_eq.mp hf) (wpAny_mono (run_in1 (us := [.ref a]) (vs := [.ref a]) F hr hb hx I (.cons rfl .nil) q) (fun v s' z => ?_) fun _ _ x => x))
  exact wpAny_pure ⟨_, rfl, z⟩
/-! ### a def's name in a call -/
/-- the module's name x is a def that keeps sp; dvs fill up -/
structure GD (P : Program) (w : World) (K : PySem.W.Frag) (mg : Str → Option Value) (base : Heap) (CX : CXT) (k : Nat) (x : Str) (ps : List Str) (dvs : List V) (sp : Sp) : Prop where
  ex : ∃ (f : Addr) (fd : FuncData) (ds : List Value), FnOk P w K mg base CX k f fd ps sp ∧ mg x = some (.ref f) ∧ PySem.W.keepIn K (.ref f) = true ∧ Binds K fd ps ds ∧ Vals dvs ds
theorem pe_gd {dvs : List V} {x : Str} {p pos : Pos} {e : Expr} {es : List Expr} {t : TA} (G : GD X.prog X.w X.K X.mg X.base CX k x ps dvs sp) (hr : Room k X.A) (hg : Gl X x) (hx : Passes CX X E)
    (ha : PA X (e :: es) t) (hdb : (x == ("__debug__" : Str)) = false := by decide) (he : starEach (e :: es) X.env = (false, eval e X.env) :: starEach es X.env := by rfl) (hpl : (backTo pos (starEach es X.env)).any (·.1) = false := by rfl) :
    PE X (.Call (.Name x p) (e :: es) [] pos) (tCall sp dvs E t) := by
  obtain ⟨f, fd, ds, F, h1, h2, h3, h4⟩ := G.ex
  exact pe_call F hr hg h1 h2 h3 h4 hx ha hdb he hpl
/-- the same for any caller's slots -/
theorem pe_gdS {dvs : List V} {x : Str} {p pos : Pos} {e : Expr} {es : List Expr} {t : TA} {E : L2.St → XK} (G : GD X.prog X.w X.K X.mg X.base CX k x ps dvs sp) (hr : Room k X.A) (hg : Gl X x) (hx : ∀ σ, PassesAt CX X σ (E σ))
    (ha : PA X (e :: es) t) (hdb : (x == ("__debug__" : Str)) = false := by decide) (he : starEach (e :: es) X.env = (false, eval e X.env) :: starEach es X.env := by rfl) (hpl : (backTo pos (starEach es X.env)).any (·.1) = false := by rfl) :
    PE X (.Call (.Name x p) (e :: es) [] pos) (tCallSD sp dvs E t) := by
  obtain ⟨f, fd, ds, F, h1, h2, h3, h4⟩ := G.ex
  exact pe_callSD F hr hg h1 h2 h3 h4 hx ha hdb he hpl
/-- a class that is made by its __init__ -/
structure GM (P : Program) (w : World) (K : PySem.W.Frag) (mg : Str → Option Value) (base : Heap) (CX : CXT) (k : Nat) (x : Str) (C : Addr) (ps : List Str) (dvs : List V) (sp : Sp) : Prop where
  ex : ∃ (f : Addr) (fd : FuncData) (ds : List Value), FnOk P w K mg base CX k f fd ps sp ∧ Mk K C f ∧ mg x = some (.ref C) ∧ Binds K fd ps ds ∧ Vals dvs ds
theorem pe_gm {dvs : List V} {x : Str} {p pos : Pos} {e : Expr} {es : List Expr} {t : TA} (G : GM X.prog X.w X.K X.mg X.base CX k x C ps dvs sp) (hr : Room (k + 1) X.A) (hg : Gl X x) (hx : Passes CX X E)
    (ha : PA X (e :: es) t) (hdb : (x == ("__debug__" : Str)) = false := by decide) (he : starEach (e :: es) X.env = (false, eval e X.env) :: starEach es X.env := by rfl) (hpl : (backTo pos (starEach es X.env)).any (·.1) = false := by rfl) :
    PE X (.Call (.Name x p) (e :: es) [] pos) (tMake C sp dvs E t) := by
  obtain ⟨f, fd, ds, F, M, h1, h3, h4⟩ := G.ex
  exact pe_make M F hr hg h1 h3 h4 hx ha hdb he hpl
/-- a method of the class at C -/
structure GH (P : Program) (w : World) (K : PySem.W.Frag) (mg : Str → Option Value) (base : Heap) (CX : CXT) (k : Nat) (C : Addr) (m : Str) (ps : List Str) (sp : Sp) : Prop where
  ex : ∃ (f : Addr) (fd : FuncData), FnOk P w K mg base CX k f fd ps sp ∧ Meth K C m f ∧ Binds K fd ps []
theorem pe_gh {o e : Expr} {es : List Expr} {m : Str} {apos pos : Pos} {ta : TE} {t : TA} {pl : Sem Bool} (he : PE X o ta) (c : Cls X.K C) (G : GH X.prog X.w X.K X.mg X.base CX k C m ps sp) (hr : Room k X.A) (hx : Passes CX X E) (ha : PA X (e :: es) t)
    (hst : starEach (e :: es) X.env = (false, eval e X.env) :: starEach es X.env := by rfl) (hpl : (backTo pos (starEach es X.env)).any (·.1) = false := by rfl)
    (ht : eval (.Call (.Attribute o m apos) (e :: es) [] pos) X.env = (do
      let ov ← eval o X.env
      standAt apos.atName
      let (f, first) ← holding [ov] (getMethod ov m pl)
      callWith pos f first (backTo pos (starEach (e :: es) X.env)) (backToKw pos (keywordEach [] X.env))) := by rfl) :
    PE X (.Call (.Attribute o m apos) (e :: es) [] pos) (tMeth C m sp [] E ta t) := by
  obtain ⟨f, fd, F, M, hb⟩ := G.ex
  exact pe_meth he c M F hr hb .nil hx ha hst hpl ht
end

/-! ### an error of one field -/
def spI1 (C : Addr) (f : Str) : Sp := fun vs H Q _ => ∃ a v, vs = [.ref a, v] ∧ H a = some (exo a C none) ∧ ∀ dx, H dx = none → dx ≠ a → Q .non (upd (upd H dx (exd dx [(f, v)])) a (exo a C (some dx)))
/-- the error's class x, at C, its field f -/
structure GX (P : Program) (w : World) (K : PySem.W.Frag) (mg : Str → Option Value) (base : Heap) (k : Nat) (x f : Str) (C : Addr) : Prop where
  T : OexC K C
  hm : mg x = some (.ref C)
  ex : ∃ (fI : Addr) (fd : FuncData), PySem.W.findIn K (.ref C) "__init__" = some (some (.ref fI)) ∧ PySem.W.typeIn K (.ref fI) = some (.type "function") ∧ FnOk P w K mg base (L2.CX P w) k fI fd ["self", f] (spI1 C f) ∧ Binds K fd ["self", f] []
section
variable {X : Cx} {k : Nat} {x f : Str} {C : Addr} {e : Expr} {ta : TA} {p pos pos2 : Pos}
theorem pmk1 (G : GX X.prog X.w X.K X.mg X.base k x f C) (hr : Room (k + 1) X.A) (hg : Gl X x) (ha : PA X [e] ta) (hdb : (x == ("__debug__" : Str)) = false := by decide)
    (he : starEach (e :: []) X.env = (false, eval e X.env) :: starEach [] X.env := by rfl) (hpl : (backTo pos (starEach [] X.env)).any (·.1) = false := by rfl) : PMk X (.Call (.Name x p) [e] [] pos) (tMkO C (spI1 C f) [] ta) := by
  obtain ⟨fI, fd, h1, h2, h3, h4⟩ := G.ex
  exact pmk_oex G.T h1 h2 h3 hr h4 .nil passL hg G.hm ha hdb he hpl
/-- what such a raise asks behind its argument v, at H1 -/
theorem mk1 {v : V} {H1 : Hp} {Q : XK} (h : ∀ d H2, Same H1 H2 → H1 d = none → H2 d = some (.xd [(f, v)]) → Q (.ref C) (some d) H2) :
    ([v] : List V).length ≤ 1000 ∧ ∀ a, H1 a = none → spI1 C f (.ref a :: ([v] ++ [])) (upd H1 a (exo a C none))
      (fun u H2 => u = .non ∧ ∃ (d : Addr) (fs : List (Str × V)), H2 a = some (exo a C (some d)) ∧ H2 d = some (exd d fs) ∧ H1 d = none ∧ Q (.ref C) (some d) (upd (del H2 a) d (.xd fs))) (fun _ _ _ => False) := by
  refine ⟨by simp, fun a na => ⟨a, v, rfl, upd_same, fun dx nd ne => ⟨rfl, dx, [(f, v)], upd_same, ?_, ?_, h _ _ (fun b o hb => ?_) ?_ upd_same⟩⟩⟩
  · rw [upd_ne ne, upd_same]
  · rw [upd_ne ne] at nd
    exact nd
  · have nb : b ≠ a := ne_of_none hb na
    have nd' : H1 dx = none := by
      rw [upd_ne ne] at nd
      exact nd
    rw [upd_ne (ne_of_none hb nd'), del_ne nb, upd_ne nb, upd_ne (ne_of_none hb nd'), upd_ne nb]
    exact hb
  · rw [upd_ne ne] at nd
    exact nd
end
/-! ### several clauses with names -/
def wManyA (K : PySem.W.Frag) (Wout : WX) (D : Ends) : List (Value × Nat × (Addr → Value → Option Addr → TS)) → WX
  | [] => Wout
  | (c, i, ts) :: r => fun cls d σ H => ∃ b, PySem.W.exmOne K cls c = some b ∧
      (b = true → ∀ a, H a = none → ts a cls d { nx := fun σ' H' => D.nx (σ'.set i none) H', rt := D.rt, bk := fun σ' H' => D.bk (σ'.set i none) H', ct := fun σ' H' => D.ct (σ'.set i none) H' } (σ.set i (some (.ref a))) H) ∧
      (b = false → wManyA K Wout D r cls d σ H)
inductive HdsA (X : Cx) : List ExceptHandler → List (Value × Nat × (Addr → Value → Option Addr → TS)) → Prop
  | nil : HdsA X [] []
  | cons {x n : Str} {c : Value} {i : Nat} {ts : Addr → Value → Option Addr → TS} {b₀ : Stmt} {suite : List Stmt} {np pos' : Pos} {hds : List ExceptHandler} {l : List (Value × Nat × (Addr → Value → Option Addr → TS))} (hc : Names X x c)
      (hi : X.N[i]? = some n) (hln : X.env.kindOf n = some .local)
      (hsu : ∀ (a : Addr) (oe : Obj) (cls : Value) (d : Option Addr) (pn : List (Addr × Obj)), Zc cls d oe → (∃ vs, oe.data = .fields vs) → PSs (X.suite a ((a, oe) :: pn)) (b₀ :: suite) (ts a cls d)) (r : HdsA X hds l) :
      HdsA X (.ExceptHandler (some (.Name x np)) (some n) (b₀ :: suite) pos' :: hds) ((c, i, ts) :: l)
section
variable {X : Cx} {body : List Stmt} {h₀ : ExceptHandler} {hds : List ExceptHandler} {l : List (Value × Nat × (Addr → Value → Option Addr → TS))} {pos : Pos} {tb : WX → TS} {Wout : WX}
theorem ps_try_manyA (hs : X.stack = X.env :: X.outer) (hf : X.env.frame = some X.env.locals) (hN : X.N.Nodup) (tk : Takes X Wout)
    (hb : ∀ (W : WX) (pn : List (Addr × Obj)) (xe : Value → Shared → Prop), Takes (X.tr pn xe) W → PassesOwn (model X.prog X.w) X.A X.env xe → PSs (X.tr pn xe) body (tb W))
    (hh : HdsA X (h₀ :: hds) l) : PS X (.Try body (h₀ :: hds) [] [] pos) (fun D σ H => tb (wManyA X.K Wout D l) D σ H) := by
  refine ⟨fun pins s σ H D I h => ?_⟩
  have ok := I.ok
  have hfr : X.A.frames = some (X.env :: X.outer) := by rw [ok.frames, hs]
  refine wpAny_Try_except ?_
  refine wpAny_mono ((hb (wManyA X.K Wout D l) (X.pn ++ pins) (fun e s₁ => wpAny (model X.prog X.w) X.A (noteFrame e X.env) (fun _ s₂ => wpAny (model X.prog X.w) X.A (setFlight e none) (fun _ s₃ =>
    wpAny (model X.prog X.w) X.A (handleBy e X.env (h₀ :: hds)) (SP X pins D) X.xe s₃) X.xe s₂) X.xe s₁) (fun u s' xx => ?_) PassesOwn.looking).run [] s σ H D (I.toTry _) h) (fun f s1 hsp => ?_) (fun e s1 he => he)
  · obtain ⟨a, B, sI, pins', σ', H', cls, d, rfl, J', nb, up, sky, na, os, ag, w⟩ := xx
    have J : Inv X pins σ' H' sI := J'.ofTry ok
    have sky' : Sky B (X.env :: X.outer) a (Zc cls d) X.env.locals s'.heap := by rw [← hs]; exact sky
    show wpAny (model X.prog X.w) X.A (noteFrame (.ref a) X.env) _ _ _
    refine Sky.land Zc.steady hfr hf sky' fun h3 fl3 up3 => ?_
    have J3 : Inv X pins σ' H' { s' with heap := h3 } := J.landed nb fl3.1 (up.trans up3) os ag
    obtain ⟨oe3, vs3, he3, hz3, hd3⟩ := fl3.there
    have notFr : ∀ {h : Heap} {o : Obj} {vs : Array Value}, h.FunFrames B (X.env :: X.outer) → h.get? a = some o → o.data = .fields vs → a ∉ frs (X.env :: X.outer) := fun {h o vs} ff e dd hm => by
      obtain ⟨_, o', e', hnf⟩ := ff.mem hm
      rw [e] at e'; cases e'
      exact hnf _ dd
    have nfr := notFr fl3.2.2.1 he3 hd3
    have nL : a ≠ X.env.locals := fun z => nfr (List.mem_filterMap.mpr ⟨X.env, List.mem_cons_self, by rw [hf, z]⟩)
    have nF : a ∉ X.fs := fun hm => by
      obtain ⟨e, he, q⟩ := List.mem_filterMap.mp hm
      exact nfr (List.mem_filterMap.mpr ⟨e, List.mem_cons_of_mem _ he, q⟩)
    have S3 := J3.suite he3 hd3 na nL nF
    have go : ∀ {hds' : List ExceptHandler} {l' : List (Value × Nat × (Addr → Value → Option Addr → TS))}, HdsA X hds' l' → wManyA X.K Wout D l' cls d σ' H' →
        wpAny (model X.prog X.w) X.A (handleBy (.ref a) X.env hds') (SP X pins D) X.xe { s' with heap := h3 } := by
      intro hds' l' hk
      induction hk with
      | nil =>
        intro w
        refine wpAny_handleBy_nil ?_
        obtain ⟨k1, k2, k3, oe, vs, T, oT, ts', he, hz, hd, h1, hr⟩ := id fl3
        unfold PySem.passOn
        refine wpAny_bind (wpAny_field he hd h1 ?_)
        rw [if_neg (show ¬ ((Value.ref T == Value.none) = true) from by simp)]
        have fin : wpAny (model X.prog X.w) X.A (setFlight (.ref a) X.env.frame) (fun _ s4 => wpAny (model X.prog X.w) X.A (throw (.ref a) : Sem Flow) (SP X pins D) X.xe s4) X.xe { s' with heap := h3 } := by
          rw [hf]
          refine HandSPX.setFlight_upZ fl3 fun h4 hh4 up4 => wpAny_throw (tk _ _ ?_)
          exact ⟨a, B, sI, pins, σ', H', cls, d, rfl, J, nb, (up.trans up3).trans up4, .inr (.inr (by rw [hs]; exact hh4)), na, os, ag, w⟩
        first
          | exact wpAny_bind (wpAny_pure (wpAny_bind fin))
          | exact wpAny_bind fin
      | @cons x n c i ts b₀ suite np pos' hds2 l2 hc hi hln hsu r ih =>
        intro w
        have hloc : Loc X.env.scope n := .inl hln
        obtain ⟨b, hb1, hyes, hno⟩ := w
        refine wpAny_handleBy_cons (codeAny_handlers_test ?_) (by intro q; cases q)
        have LT : PySem.W.Looks (model X.prog X.w) h3 (typeOf (.ref a)) cls := fun A Q E s k q => wpAny_typeOf_ref (k _ _ he3) (by rw [hz3.1]; exact q)
        have LM := PySem.W.exm_one (M := model X.prog X.w) (J3.kIn) LT hb1
        have test : ∀ {Q : Value → Shared → Prop} {E : Value → Shared → Prop}, Q c { s' with heap := h3 } → wpAny (model X.prog X.w) (X.A.mark (some (.ref a))) (eval (.Name x np) X.env) Q E { s' with heap := h3 } := fun {Q E} q => by
          obtain ⟨hg, hdbg, hm | ⟨hm, hv, hnn⟩⟩ := hc
          · exact ld_glob (X := X.suite a ((a, oe3) :: (X.pn ++ pins))) S3 hg hm q hdbg
          · exact ld_blt (X := X.suite a ((a, oe3) :: (X.pn ++ pins))) S3 hg hm hv q hnn hdbg
        refine test (LM.here ?_)
        cases b with
        | true =>
          refine codeAny_handlers_suite_as ?_
          refine HandSPX.lands_againZ fl3 fun h4 fl4 up4 => ?_
          have J4 : Inv X pins σ' H' { s' with heap := h4 } := J.landed nb fl4.1 ((up.trans up3).trans up4) os ag
          obtain ⟨oe4, vs4, he4, hz4, hd4⟩ := fl4.there
          have S4 := J4.suite he4 hd4 na nL nF
          refine store_ok (X := X.suite a ((a, oe4) :: (X.pn ++ pins))) (v := .ref a) S4 hN hi hloc rfl (fun s5 S5 => ?_) (.inr hln)
          refine wpAny_mono ((hsu a oe4 cls d (X.pn ++ pins) hz4 ⟨_, hd4⟩).run [] s5 _ H' _ S5 (hyes rfl a na)) (fun f s6 hsp => ?_) (fun _ _ z => False.elim z)
          have end_ : ∀ {σ6 : L2.St} {H6 : Hp} {Q : Shared → Prop}, Inv (X.suite a ((a, oe4) :: (X.pn ++ pins))) [] σ6 H6 s6 → (∀ s7, Inv X pins (σ6.set i none) H6 s7 → Q s7) →
              wpAny (model X.prog X.w) X.A (do bindName X.env n .none; unbindBehindTheSuite X.env n pos') (fun _ s7 => Q s7) X.xe s6 := fun {σ6 H6 Q} S6 hq => gone_ok (S6.unsuite ok) hN hi hln hq
          cases f with
          | next =>
            obtain ⟨σ6, H6, S6, q6⟩ := hsp
            exact end_ S6 fun s7 J7 => ⟨_, _, J7, q6⟩
          | brk =>
            obtain ⟨σ6, H6, S6, q6⟩ := hsp
            exact end_ S6 fun s7 J7 => ⟨_, _, J7, q6⟩
          | cont =>
            obtain ⟨σ6, H6, S6, q6⟩ := hsp
            exact end_ S6 fun s7 J7 => ⟨_, _, J7, q6⟩
          | ret u =>
            obtain ⟨v6, σ6, H6, S6, r6, q6⟩ := hsp
            exact end_ S6 fun s7 J7 => ⟨_, _, _, J7, r6, q6⟩
        | false =>
          show wpAny _ X.A (handleBy (.ref a) X.env hds2) _ _ _
          exact ih (hno rfl)
    exact go hh w
  · cases f with
    | next =>
      obtain ⟨σ', H', J', q⟩ := hsp
      exact wpAny_execs_nil ⟨σ', H', J'.ofTry ok, q⟩
    | brk =>
      obtain ⟨σ', H', J', q⟩ := hsp
      exact ⟨σ', H', J'.ofTry ok, q⟩
    | cont =>
      obtain ⟨σ', H', J', q⟩ := hsp
      exact ⟨σ', H', J'.ofTry ok, q⟩
    | ret u =>
      obtain ⟨v, σ', H', J', r, q⟩ := hsp
      exact ⟨v, σ', H', J'.ofTry ok, r, q⟩
end

/-! ### shapes -/
theorem pxE {X : Cx} {E : XK} {E₁ : Value → Shared → Prop} (hs : X.stack = X.env :: X.outer) (hf : X.env.frame = some X.env.locals) (hex : X.ex = [])
    (hx : X.xe = fun e s' => wpAny (model X.prog X.w) X.A (leaving X.env e) (fun _ s'' => L2.CX X.prog X.w X.outer X.H_0 X.s_0 E e s'') E₁ s') : Passes (L2.CX X.prog X.w) X E :=
  passes_call (takes_of hs hf hex hx) (fun _ _ _ _ h => h)
/-- an operator -/
structure GO (P : Program) (w : World) (K : PySem.W.Frag) (mg : Str → Option Value) (base : Heap) (CX : CXT) (k : Nat) (C : Addr) (op : Operator) (sp : Sp) : Prop where
  ex : ∃ (g : Addr) (fd : FuncData) (ps : List Str), OpC K C (PySem.dunder op.info.2) (PySem.dunderR op.info.2) g ∧ FnOk P w K mg base CX k g fd ps sp ∧ Binds K fd ps []
/-- a special method that is found by its name -/
structure GN (P : Program) (w : World) (K : PySem.W.Frag) (mg : Str → Option Value) (base : Heap) (CX : CXT) (k : Nat) (C : Addr) (m : Str) (sp : Sp) : Prop where
  ex : ∃ (g : Addr) (fd : FuncData) (ps : List Str), PySem.W.findIn K (.ref C) m = some (some (.ref g)) ∧ PySem.W.isFn K (.ref g) = true ∧ FnOk P w K mg base CX k g fd ps sp ∧ Binds K fd ps []
/-- a property -/
structure GP (P : Program) (w : World) (K : PySem.W.Frag) (mg : Str → Option Value) (base : Heap) (CX : CXT) (k : Nat) (C : Addr) (f : Str) (sp : Sp) : Prop where
  c : Cls K C
  ex : ∃ (p g : Addr) (fd : FuncData) (ps : List Str), PropOf K C f p g ∧ FnOk P w K mg base CX k g fd ps sp ∧ Binds K fd ps []
/-- a static method -/
structure GS (P : Program) (w : World) (K : PySem.W.Frag) (mg : Str → Option Value) (base : Heap) (CX : CXT) (k : Nat) (C : Addr) (m : Str) (sp : Sp) : Prop where
  ex : ∃ (mc : Value) (p g : Addr) (fd : FuncData) (ps : List Str), SMet K C mc m p g ∧ FnOk P w K mg base CX k g fd ps sp ∧ Binds K fd ps []
/-- free names -/
structure Nm (mg : Str → Option Value) : Prop where
  isinstance : mg "isinstance" = none
  int : mg "int" = none
  bool : mg "bool" = none
  str : mg "str" = none
  abs : mg "abs" = none
  len : mg "len" = none
  range : mg "range" = none
  enumerate : mg "enumerate" = none
  list : mg "list" = none
  tuple : mg "tuple" = none
section
variable {X : Cx} {CX : CXT} {k : Nat} {C : Addr} {sp : Sp} {E : XK} {op : Operator} {o e : Expr} {es : List Expr} {m f : Str} {apos pos : Pos} {ta : TE} {t : TA} {pl : Sem Bool}
theorem op_go (G : GO X.prog X.w X.K X.mg X.base CX k C op sp) (hr : Room k X.A) (hx : Passes CX X E) : OpR X (binaryOp op) (rBin C sp E) := by
  obtain ⟨g, fd, ps, O, F, hb⟩ := G.ex
  exact op_bin O F hr hb hx
theorem op_eqGo (G : GN X.prog X.w X.K X.mg X.base CX k C "__eq__" sp) (hr : Room k X.A) (hx : Passes CX X E) : OpR X (compareOp .Eq) (rEqOwn X.K C sp E) := by
  obtain ⟨g, fd, ps, h1, h2, F, hb⟩ := G.ex
  exact op_eqOwn h1 h2 F hr hb hx
theorem call_absGo (G : GN X.prog X.w X.K X.mg X.base CX k C "__abs__" sp) (hr : Room (k + 1) X.A) (hx : Passes CX X E) : CallR X (.builtin "abs") (rAbsOwn C sp E) := by
  obtain ⟨g, fd, ps, h1, h2, F, hb⟩ := G.ex
  exact call_absOwn h1 h2 F hr hb hx
theorem un_go (G : GN X.prog X.w X.K X.mg X.base CX k C "__neg__" sp) (hr : Room k X.A) (hx : Passes CX X E) : UnR X (unaryOp .USub) (rUn C sp E) := by
  obtain ⟨g, fd, ps, h1, h2, F, hb⟩ := G.ex
  exact un_own h1 h2 F hr hb hx
theorem passN {X : Cx} : Passes (L2.CX X.prog X.w) X.nox E0 := passL (X := X.nox)
theorem pe_gp (he : PE X o ta) (G : GP X.prog X.w X.K X.mg X.base (L2.CX X.prog X.w) k C f sp) (hr : Room (k + 1) X.A) (hab : attributeBase o f X.env (eval o X.env) = eval o X.env) :
    PE X (.Attribute o f pos) (tProp C sp [] E0 ta) := by
  obtain ⟨p, g, fd, ps, hp, F, hb⟩ := G.ex
  exact pe_prop (ds := []) he G.c hp F hr hb .nil passN hab
theorem pe_gs (he : PE X o ta) (G : GS X.prog X.w X.K X.mg X.base CX k C m sp) (hr : Room k X.A) (hx : Passes CX X E) (ha : PA X (e :: es) t)
    (hst : starEach (e :: es) X.env = (false, eval e X.env) :: starEach es X.env := by rfl) (hpl : (backTo pos (starEach es X.env)).any (·.1) = false := by rfl)
    (ht : eval (.Call (.Attribute o m apos) (e :: es) [] pos) X.env = (do
      let ov ← eval o X.env
      standAt apos.atName
      let (f, first) ← holding [ov] (getMethod ov m pl)
      callWith pos f first (backTo pos (starEach (e :: es) X.env)) (backToKw pos (keywordEach [] X.env))) := by rfl) :
    PE X (.Call (.Attribute o m apos) (e :: es) [] pos) (tSMeth C sp E ta t) := by
  obtain ⟨mc, p, g, fd, ps, S, F, hb⟩ := G.ex
  exact pe_smeth he S F hr hb hx ha hst hpl ht
end
section
variable {X : Cx}
theorem call_int1i : CallR X (.type "int") (fun xs H Q => ∃ i, xs = [.int i] ∧ Q (.int i) H) := fun pins s σ H xs us Q I r h => call_int1 pins s σ H xs us Q I r (.inl h)
theorem call_int1b : CallR X (.type "int") (fun xs H Q => ∃ k, xs = [.bl k] ∧ Q (.int (if k then 1 else 0)) H) := fun pins s σ H xs us Q I r h => call_int1 pins s σ H xs us Q I r (.inr h)
end
theorem cmL {i j : Int} (h : -(2 ^ 64) < i ∧ i < 2 ^ 64) : CMul i j := .inl h
theorem cmR {i j : Int} (h : -(2 ^ 64) < j ∧ j < 2 ^ 64) : CMul i j := .inr h
end Sp
end
section
set_option Elab.async false
set_option linter.all false
set_option maxRecDepth 100000
set_option maxHeartbeats 4000000
namespace Sp
open PySem PySem.Spec PyProof.Rows L2
section
variable {X : Cx}
/-- xs[i] as it is read ahead of xs[i] op= e -/
theorem get_list : PGet X (rIxL X.K) := by
  intro pins s σ H x y v u Q I rx ry h
  obtain ⟨p, xs, i, z, rfl, rfl, hq, he, q⟩ := h
  cases rx
  obtain ⟨t, rfl⟩ := ry
  obtain ⟨its, r, pl, hz⟩ := I.list hq
  obtain ⟨j, h1, h2, h3, h4, h5⟩ := atI_get he
  obtain ⟨w, ew, rw'⟩ := r.get h2
  have hl := r.length
  have hn := line63
  have fin : EP X pins σ Q w s := ⟨z, H, I, rw', q⟩
  by_cases h0 : 0 ≤ i
  · have hj : i.toNat = j := by
      rw [seqIndex_of h0 h5] at h1
      exact Option.some.inj h1
    exact wpAny_getItem_list pl.isList h0 (by omega) (by rw [hj]; simpa using ew) fin
  · have hj : (i + (its.toArray.size : Int)).toNat = j := by
      rw [seqIndex_neg (by omega) h4] at h1
      rw [List.size_toArray, ← hl]
      exact Option.some.inj h1
    exact wpAny_getItem_list_neg pl.isList (by omega) (by rw [List.size_toArray] <;> omega) (by omega) (by rw [hj]; simpa using ew) fin
end
/-! ### f(k = v, ..) -/
section
variable {X : Cx} {CX : CXT} {k : Nat} {f : Addr} {fd : FuncData} {ps ks : List Str} {sp : Sp} {E : XK} {g : List Value → List Value → List Value} {gV : List V → List V → List V}
theorem pe_callK0 {x : Str} {p pos : Pos} {kws : List Keyword} {tk : TA} (F : FnOk X.prog X.w X.K X.mg X.base CX k f fd ps sp) (hr : Room k X.A) (hg : Gl X x) (hm : X.mg x = some (.ref f)) (hk : PySem.W.keepIn X.K (.ref f) = true) (hb : KBinds X.K fd ps ks g gV) (hx : Passes CX X E)
    (hkw : PK X kws tk) (hall : (backToKw pos (keywordEach kws X.env)).all (·.1.isSome) = true := by rfl) (hks : (backToKw pos (keywordEach kws X.env)).filterMap (·.1) = ks := by rfl)
    (hdb : (x == ("__debug__" : Str)) = false := by decide) (hpl : ((backTo pos (starEach [] X.env)).any (·.1) || (backToKw pos (keywordEach kws X.env)).any (·.1.isNone)) = false := by rfl) :
    PE X (.Call (.Name x p) [] kws pos) (fun σ H Q => tk σ H fun zs H2 => sp (gV [] zs) H2 Q E) := by
  refine ⟨fun pins s σ H Q I h => ?_⟩
  refine wpAny_Call_Name_kw (ld_glob I hg hm ?_ hdb)
  refine PySem.W.callWith_KW0 (first := []) (h₀ := X.base) I.ok.mod.kin hk hall (thn (hkw.run pos pins _ σ H _ I h) fun ws s2 ⟨zs, H2, I2, rz, q2⟩ => ⟨I2.kIn, ?_⟩) hpl
  rw [hks]
  exact run_fnk (us := []) (vs := []) F hr hb hx I2 .nil rz q2
/-- the keywords' values stand for the parameters by pick -/
def gk (n : Nat) (pick : List Nat) {α : Type} (us ws : List α) : List α := if us.length = 0 ∧ ws.length = n then pick.filterMap fun i => ws[i]? else []
theorem vals_pick {vs : List V} {us : List Value} (r : Vals vs us) : ∀ l : List Nat, Vals (l.filterMap fun i => vs[i]?) (l.filterMap fun i => us[i]?)
  | [] => .nil
  | i :: l => by
    have hl := r.length
    by_cases h : i < vs.length
    · obtain ⟨w, e, rw'⟩ := r.get (List.getElem?_eq_getElem h)
      rw [List.filterMap_cons, List.filterMap_cons, e, List.getElem?_eq_getElem h]
      exact .cons rw' (vals_pick r l)
    · rw [List.filterMap_cons, List.filterMap_cons, List.getElem?_eq_none (by omega), List.getElem?_eq_none (by omega)]
      exact vals_pick r l
theorem gk_rel {n : Nat} {pick : List Nat} {vs : List V} {us : List Value} {zs : List V} {ws : List Value} (r : Vals vs us) (q : Vals zs ws) : Vals (gk n pick vs zs) (gk n pick us ws) := by
  unfold gk
  rw [r.length, q.length]
  split
  · exact vals_pick q pick
  · exact .nil
structure GDK (P : Program) (w : World) (K : PySem.W.Frag) (mg : Str → Option Value) (base : Heap) (CX : CXT) (k : Nat) (x : Str) (ks : List Str) (n : Nat) (pick : List Nat) (sp : Sp) : Prop where
  ex : ∃ (f : Addr) (fd : FuncData) (ps : List Str), FnOk P w K mg base CX k f fd ps sp ∧ mg x = some (.ref f) ∧ PySem.W.keepIn K (.ref f) = true ∧ KBinds K fd ps ks (gk n pick) (gk n pick)
theorem pe_gdk {x : Str} {p pos : Pos} {kws : List Keyword} {tk : TA} {n : Nat} {pick : List Nat} (G : GDK X.prog X.w X.K X.mg X.base CX k x ks n pick sp) (hr : Room k X.A) (hg : Gl X x) (hx : Passes CX X E)
    (hkw : PK X kws tk) (hall : (backToKw pos (keywordEach kws X.env)).all (·.1.isSome) = true := by rfl) (hks : (backToKw pos (keywordEach kws X.env)).filterMap (·.1) = ks := by rfl)
    (hdb : (x == ("__debug__" : Str)) = false := by decide) (hpl : ((backTo pos (starEach [] X.env)).any (·.1) || (backToKw pos (keywordEach kws X.env)).any (·.1.isNone)) = false := by rfl) :
    PE X (.Call (.Name x p) [] kws pos) (fun σ H Q => tk σ H fun zs H2 => sp (gk n pick [] zs) H2 Q E) := by
  obtain ⟨f, fd, ps, F, hm, hk, hb⟩ := G.ex
  exact pe_callK0 F hr hg hm hk hb hx hkw hall hks hdb hpl
end
section
variable {K : PySem.W.Frag} {f : Addr} {fd : FuncData} {x qual : Str} {params : Arguments} {body : List Stmt} {scope : Scope} {ps : List Str}
theorem gk_1 {k1 : Str} (F : FunD K x qual params body scope [] [] f fd) (hl : ps.length = 1)
    (h : ∀ (kV doc pm : Value) (an : Option Addr) (cdv ct u : Value), bindArgs (PySem.W.fnOf x qual params body scope .none kV doc pm an cdv ct) ⟨[], [(k1, u)]⟩ = pure (ps.zip [u])) : KBinds K fd ps [k1] (gk 1 [0]) (gk 1 [0]) := by
  refine ⟨fun s us ws hK hlen => ?_, fun {vs us zs ws} r q => gk_rel r q⟩
  obtain ⟨oc, od, dV, kV, doc, pm, an, cdv, ct, osl, rfl, lk, hcd, hD, hKw⟩ := F.ex
  rw [hl] at hlen
  unfold gk at hlen ⊢
  by_cases hc : us.length = 0 ∧ ws.length = 1
  · rw [if_pos hc]
    match us, ws, hc with
    | [], [u], _ =>
      rcases hD with ⟨_, rfl⟩ | ⟨e, _⟩
      · exact .of_eq (h kV doc pm an cdv ct u)
      · exact absurd rfl e
  · rw [if_neg hc] at hlen
    cases hlen
theorem gk_2 {k1 k2 : Str} {i j : Nat} (F : FunD K x qual params body scope [] [] f fd) (hl : ps.length = 2)
    (h : ∀ (kV doc pm : Value) (an : Option Addr) (cdv ct u v : Value), bindArgs (PySem.W.fnOf x qual params body scope .none kV doc pm an cdv ct) ⟨[], [(k1, u), (k2, v)]⟩ = pure (ps.zip ([i, j].filterMap fun i => [u, v][i]?))) : KBinds K fd ps [k1, k2] (gk 2 [i, j]) (gk 2 [i, j]) := by
  refine ⟨fun s us ws hK hlen => ?_, fun {vs us zs ws} r q => gk_rel r q⟩
  obtain ⟨oc, od, dV, kV, doc, pm, an, cdv, ct, osl, rfl, lk, hcd, hD, hKw⟩ := F.ex
  rw [hl] at hlen
  unfold gk at hlen ⊢
  by_cases hc : us.length = 0 ∧ ws.length = 2
  · rw [if_pos hc]
    match us, ws, hc with
    | [], [u, v], _ =>
      rcases hD with ⟨_, rfl⟩ | ⟨e, _⟩
      · exact .of_eq (h kV doc pm an cdv ct u v)
      · exact absurd rfl e
  · rw [if_neg hc] at hlen
    cases hlen
end
theorem mono_ne {i : Nat} {v : V} : ∀ (σ : L2.St) (H : Hp) (Q Q' : Bool → Hp → Prop), (∀ (b : Bool) (H1 : Hp), Q b H1 → Q' b H1) → tTest (tOp rNe (tVar i) (tC v)) σ H Q → tTest (tOp rNe (tVar i) (tC v)) σ H Q' := by
  rintro σ H Q Q' hq ⟨x, e, sc, k, hk, h⟩
  exact ⟨x, e, sc, k, hk, hq _ _ h⟩
theorem ixN_zero (n : Nat) : ixN (n + 1) 0 = some 0 := by
  unfold ixN
  rw [if_pos (by decide), if_pos (by omega)]
  rfl
theorem ixN_last (n : Nat) : ixN (n + 1) (-1) = some n := by
  unfold ixN
  rw [if_neg (by decide), if_pos (by omega)]
  congr 1
  omega
theorem eqv_ints : ∀ a b : List Int, PyData.eqv (.list (a.map PyData.int)) (.list (b.map PyData.int)) = decide (a = b)
  | [], [] => rfl
  | [], _ :: _ => rfl
  | _ :: _, [] => rfl
  | x :: a, y :: b => by
    have h := eqv_ints a b
    show ((x == y) && PyData.eqv (.list (a.map PyData.int)) (.list (b.map PyData.int))) = _
    rw [h]
    by_cases e : x = y <;> by_cases e' : a = b <;> simp [e, e']
theorem eqv_intsT (a b : List Int) : PyData.eqv (.tuple (a.map PyData.int)) (.tuple (b.map PyData.int)) = decide (a = b) := eqv_ints a b
theorem for_enum {K : PySem.W.Frag} {a : Addr} {xs : List V} {g : TG} {tb : TS} {D : Ends} {σ : L2.St} {H : Hp} (Pv : Nat → L2.St → Hp → Prop) (h0 : Pv 0 σ H) (hl : ∀ i σ H, i ≤ xs.length → Pv i σ H → SqL K H a xs)
    (hs : ∀ i x σ H T, xs[i]? = some x → Pv i σ H → H T = none → g (.ref T) σ (upd H T (.tup [.int (i : Nat), x])) fun σ2 H2 => tb { D with nx := Pv (i + 1), ct := Pv (i + 1), bk := D.nx } σ2 H2) (hd : ∀ σ H, Pv xs.length σ H → D.nx σ H) :
    ∃ W : Nat → Nat → L2.St → Hp → Prop, (∃ m, W 0 m σ H) ∧ ∀ i m σ H, W i m σ H →
      ((Ite K a).stop i H ∧ D.nx σ H) ∨ ((Ite K a).go i H ∧ ∃ N : L2.St → Hp → Prop, (∀ σ' H', N σ' H' → ∃ m', m' < m ∧ W (i + 1) m' σ' H') ∧ ∀ x H', (Ite K a).yld i H x H' → g x σ H' fun σ2 H2 => tb { D with nx := N, ct := N, bk := D.nx } σ2 H2) := by
  refine ⟨fun i m σ H => m = xs.length - i ∧ i ≤ xs.length ∧ Pv i σ H, ⟨xs.length, by simp, Nat.zero_le _, h0⟩, ?_⟩
  rintro i m σ H ⟨rfl, hi, p⟩
  have q := hl i σ H hi p
  by_cases hlt : i < xs.length
  · refine .inr ⟨⟨xs, xs[i], q, by simp [hlt]⟩, Pv (i + 1), fun σ' H' p' => ⟨xs.length - (i + 1), by omega, rfl, hlt, p'⟩, fun x H' y => ?_⟩
    obtain ⟨T, z, rfl, hT, rfl, hz⟩ := y
    exact hs i z σ H T (hz xs q) p hT
  · have e : i = xs.length := by omega
    subst e
    exact .inl ⟨⟨xs, q, Nat.le_refl _⟩, hd σ H p⟩
theorem in3 (i : Nat) (h : i < 5) : inV (V.int (i : Int)) [.int 0, .int 2, .int 4] = decide (i % 2 = 0) := by
  match i, h with
  | 0, _ => rfl
  | 1, _ => rfl
  | 2, _ => rfl
  | 3, _ => rfl
  | 4, _ => rfl
theorem dp_bls {K : PySem.W.Frag} {H : Hp} (bs : List Bool) : DpAll K H (bs.map V.bl) (bs.map PyData.bool) := by
  induction bs with
  | nil => exact .nil
  | cons c cs ih => exact .cons (.bl c) ih
theorem shaped_bls (bs : List Bool) : SeqAt.shaped (.list (bs.map PyData.bool)) = true := by
  induction bs with
  | nil => rfl
  | cons c cs ih => exact ih
theorem eqr {d : PyData} (h : SeqAt.shaped d = true) : PyData.eqv d d = true := SeqAt.eqv_refl d (SeqAt.canLay_of_shaped h)
/-- a word at which the reading stops -/
structure Bx (p : Prop) : Prop where
  out : p
theorem in11 (x : Int) : inV (V.int x) [.int 1, .int (-1)] = decide (x.natAbs = 1) := by
  show ((decide ((1 : Int) = x)) || ((decide ((-1 : Int) = x)) || false)) = _
  rw [Bool.or_false]
  by_cases h : x = 1
  · subst h
    rfl
  · by_cases h' : x = -1
    · subst h'
      rfl
    · rw [decide_eq_false (fun e => h e.symm), decide_eq_false (fun e => h' e.symm), decide_eq_false (by omega)]
      rfl
end Sp
end
section
set_option Elab.async false
set_option linter.all false
set_option maxRecDepth 100000
set_option maxHeartbeats 4000000
namespace Sp
open PySem PySem.Spec PyProof.Rows L2
section
variable {prog : Program} {w : World} {M : Model} {A : Around} {E : Value → Shared → Prop} {s : Shared} {K : PySem.W.Frag} {x C f : Addr} {ox : Obj} {od : Option Obj} {name : Str} {id : String}
theorem ifBound_B {args : List Value} {Q : Option Value → Shared → Prop} (X : K.In s.heap) (I : PySem.W.InstAt s.heap x ox C od) (hs : PySem.W.findIn K (.ref C) name = some (some (.builtin id)))
    (hb : ∀ self, bindSpecial (.builtin id) self = pure (.builtin id, [self])) (h : wpAny M A (call (.builtin id) (.ref x :: args)) (fun v => Q (some v)) E s) : wpAny M A (callSpecialIfBound? (.ref x) name args) Q E s := by
  simp only [callSpecialIfBound?, bindSpecialIfBound?]
  refine wpAny_holding (wpAny_bind (wpAny_bind (wpAny_bind (I.type.here ((PySem.W.looks_findIn X hs).here ?_)))))
  refine wpAny_bind (wpAny_askSetting (wpAny_ite ?_))
  have fin : wpAny M A (call (.builtin id) ([.ref x] ++ args) >>= fun v => pure (some v)) Q E s := wpAny_bind (wpAny_mono h (fun v s' h' => wpAny_pure h') fun _ _ h' => h')
  split
  · exact wpAny_bind ((PySem.W.Looks.of_pure (hb _)).here (wpAny_pure (by exact fin)))
  · exact wpAny_tryCatch (wpAny_bind ((PySem.W.Looks.of_pure (hb _)).here (wpAny_pure (by exact fin))))
end
/-- x != y by the class's own __eq__ -/
structure rNeOwn (K : PySem.W.Frag) (C : Addr) (sp : Sp) (E : XK) (x : V) (y : V) (H : Hp) (Q : VK) : Prop where
  un : ∃ a dx fs t, x = .ref a ∧ H a = some (.ins C dx fs) ∧ TyX K H y t ∧ PySem.W.notFirst K C t = true ∧ sp [x, y] H (fun v H' => ∃ b, v = .bl b ∧ Q (.bl (!b)) H') E
section
variable {X : Cx} {CX : CXT} {k : Nat} {C g : Addr} {fd : FuncData} {ps : List Str} {sp : Sp} {E : XK}
open Builtin in
theorem op_neOwn (hn : PySem.W.findIn X.K (.ref C) "__ne__" = some (some (.builtin "object.__ne__"))) (hmo : PySem.W.mroIn X.K C (.type "object") = some true) (hs : PySem.W.findIn X.K (.ref C) "__eq__" = some (some (.ref g))) (hf : PySem.W.isFn X.K (.ref g) = true)
    (F : FnOk X.prog X.w X.K X.mg X.base CX k g fd ps sp) (hr : Room (k + 1) X.A) (hb : Binds X.K fd ps []) (hx : Passes CX X E) : OpR X (compareOp .NotEq) (rNeOwn X.K C sp E) := by
  intro pins s σ H x y v u Q I rx ry h
  obtain ⟨a, dx, fs, t, rfl, ha, ty, hnf, q⟩ := h
  cases (show v = Value.ref a from rx)
  obtain ⟨mA, J, _⟩ := ins_get I.hok ha
  obtain ⟨od, J, _⟩ := J.look
  have X0 : X.K.In s.heap := I.kIn
  have one : wpAny (model X.prog X.w) X.A (tryCompare (.ref a) "__ne__" u) (fun r s' => ∃ v, r = some v ∧ EP X pins σ Q v s') X.xe s := by
    unfold tryCompare
    refine wpAny_bind (ifBound_B X0 J hn PySem.F.cmp_object.ne.bind ?_)
    refine wpAny_call (codeAny_call_builtin PySem.F.cmp_object.ne.plain PySem.F.cmpEntry_ne (PySem.W.check_slot (i := "object.__ne__") (owner := "object") (n := "__ne__") PySem.F.cmpKind_ne PySem.F.cmpSplit_ne (J.type.andThen (PySem.W.looks_mroIn X0 hmo)) (PySem.F.cmpArgs_ne _ _) ?_))
    unfold Builtin.«object.__ne__»
    refine wpAny_bind (m := slotArgs "__ne__" 1 _) (wpAny_pure ?_)
    refine wpAny_bind (m := cRoomFor _ _) (wpAny_cRoomFor hr.in1.units0 ?_)
    refine wpAny_bind (m := callSpecialIfBound? (.ref a) (Str.ofString "__eq__") _) (PySem.W.ifBound_K X0 J hs hf (wpAny_mono (run_in1 (us := [.ref a, u]) (vs := [.ref a, y]) F hr hb hx I (.cons rfl (.cons ry .nil)) q) (fun v s' z => ?_) fun _ _ e => e))
    obtain ⟨v', H', I', rv, b, rfl, qb⟩ := z
    cases (show v = Value.bool b from rv)
    refine wpAny_bind (m := truthy (.bool b)) (wpAny_truthy_bool ?_)
    exact wpAny_pure (wpAny_pure ⟨_, rfl, .bl (!b), H', I', rfl, qb⟩)
  show wpAny (model X.prog X.w) X.A (richCompare .NotEq (.ref a) u) (EP X pins σ Q) X.xe s
  unfold richCompare
  simp only [oneThing_ref]
  refine wpAny_holding (wpAny_bind (wpAny_cRoomFor hr.units0 ?_))
  refine wpAny_bind (J.type.here (wpAny_bind ((ty_looks I ry ty).here ?_)))
  split
  · rename_i q
    have e : PySem.W.subIn X.K t (.ref C) = some false := by
      rcases Bool.or_eq_true_iff.mp hnf with e | e
      · rw [beq_iff_eq.mp e] at q; simp at q
      · exact beq_iff_eq.mp e
    refine wpAny_bind ((PySem.W.looks_subIn X0 e).here ?_)
    simp only [Bool.false_eq_true, if_false]
    refine wpAny_bind (wpAny_mono one (fun r s' z => ?_) fun _ _ e => e)
    obtain ⟨v, rfl, hq⟩ := z
    exact wpAny_pure hq
  · refine wpAny_bind (wpAny_pure ?_)
    simp only [Bool.false_eq_true, if_false]
    refine wpAny_bind (wpAny_mono one (fun r s' z => ?_) fun _ _ e => e)
    obtain ⟨v, rfl, hq⟩ := z
    exact wpAny_pure hq
end
/-! ### a, b, .. = a list -/
section
variable {prog : Program} {w : World} {A : Around} {E : Value → Shared → Prop} {s : Shared}
theorem draw_lst {it t : Addr} {items : Array Value} (hne : t ≠ it) : ∀ (n i : Nat) (s : Shared) (Q : List Value → Shared → Prop), s.heap.IsListIter it t i → s.heap.IsList t items → i + n ≤ items.size →
    (∀ h' : Heap, h'.IsListIter it t (i + n) → Heap.SameBut it s.heap h' → Q ((items.toList.drop i).take n) { s with heap := h' }) → wpAny (model prog w) A (draw (.ref it) n) Q E s
  | 0, i, s, Q, hit, _, _, hQ => by
    show wpAny _ _ (pure []) Q E s
    exact wpAny_pure (by simpa using hQ s.heap hit (Heap.SameBut.refl ..))
  | n + 1, i, s, Q, hit, ht, hle, hQ => by
    have hlt : i < items.size := by omega
    show wpAny _ _ (pyNext (.ref it) >>= _) Q E s
    refine wpAny_bind (wpAny_pyNext_list_item hit ht (x := items[i]) (by simp [hlt]) fun h₁ hit₁ hs₁ => ?_)
    refine wpAny_bind (wpAny_holding (draw_lst hne n (i + 1) _ _ hit₁ (ht.extBut hs₁.extBut hne) (by omega) fun h₂ hit₂ hs₂ => wpAny_pure ?_))
    have hd : items.toList.drop i = items[i] :: items.toList.drop (i + 1) := by simp [List.drop_eq_getElem_cons, hlt]
    have := hQ h₂ (by rw [show i + (n + 1) = i + 1 + n by omega]; exact hit₂) (hs₁.trans hs₂)
    rw [hd, List.take_succ_cons] at this
    exact this
theorem unpackItems_lst {t : Addr} {items : Array Value} {Q : List Value → Shared → Prop} (hh : A.handled = none) (ht : s.heap.IsList t items)
    (hQ : ∀ h', Heap.ExtBut s.heap.objs.size s.heap h' → Q items.toList { s with heap := h' }) : wpAny (model prog w) A (unpackItems (.ref t) items.size none) Q E s := by
  have hlt : t ≠ s.heap.objs.size := by obtain ⟨o, ho, _⟩ := ht; exact Nat.ne_of_lt (Heap.lt_size ho)
  unfold unpackItems
  refine wpAny_bind ?_
  · unfold notIterableAtAll
    refine wpAny_bind (wpAny_specialOf ht.typeIs slot_list_iter.lookup ?_)
    refine wpAny_pure ?_
    simp only [Bool.false_eq_true, if_false]
    refine wpAny_bind (wpAny_holding (wpAny_pyIter_list ht ?_))
    refine wpAny_bind (wpAny_holding (draw_lst hlt items.size 0 _ _ ⟨_, Heap.get?_push_size _ rfl, rfl, rfl⟩ (ht.push _) (by omega) fun h₁ hit₁ hs₁ => ?_))
    have hall : List.take items.size (List.drop 0 items.toList) = items.toList := by
      rw [List.drop_zero]; exact List.take_of_length_le (by simp)
    rw [hall]
    rw [if_neg (by simp)]
    have ht₁ : h₁.IsList t items := (ht.push _).extBut hs₁.extBut hlt
    refine wpAny_bind (wpAny_holding (wpAny_pyNext_list_end hh hit₁ ht₁ (by simp) fun h₂ he₂ => ?_))
    simp only [Option.isSome_none, Bool.false_eq_true, if_false]
    refine wpAny_pure (hQ h₂ fun b o hb e => he₂ b o hb (hs₁.extBut b o hb (Heap.get?_push_of_some _ e)))
theorem assign_Tuple_lst {env : Env} {elts : List Expr} {x1} {pos : Pos} {t : Addr} {items : Array Value} {Q : Unit → Shared → Prop} (hh : A.handled = none) (ht : s.heap.IsList t items)
    (hn : (assignEach elts env).length = items.size) (hstar : (assignEach elts env).findIdx? (·.1) = none)
    (h : ∀ h', Heap.ExtBut s.heap.objs.size s.heap h' → wpAny (model prog w) A (assignInOrder ((assignEach elts env).map (·.2)) items.toList) Q E { s with heap := h' }) :
    wpAny (model prog w) A (assign (.Tuple elts x1 pos) env (.ref t)) Q E s := by
  rw [assign_Tuple]
  refine wpAny_bind (wpAny_standAt ?_)
  unfold unpack
  rw [hn, hstar]
  exact wpAny_bind (wpAny_holding (unpackItems_lst hh ht h))
end
def gTupL (K : PySem.W.Frag) (n : Nat) (t : TGs) : TG := fun v σ H Q => ∃ a xs, v = .ref a ∧ SqL K H a xs ∧ xs.length = n ∧ t xs σ H Q
section
variable {X : Cx}
theorem pg_tupL {es : List Expr} {k : Nat} {t : TGs} {n : Nat} {pos : Pos} (hc : X.calm = true) (h : PGs X es t)
    (hn : (assignEach es X.env).length = n := by rfl) (hst : (assignEach es X.env).findIdx? (·.1) = none := by rfl) : PG X (.Tuple es k pos) (gTupL X.K n t) := by
  refine ⟨fun pins s σ H v u Q I r hw => ?_⟩
  obtain ⟨a, xs, e1, hq, hl, hw⟩ := hw
  subst e1
  cases r
  obtain ⟨its, rv, ht, hz⟩ := I.list hq
  refine assign_Tuple_lst (I.ok.hd hc) ht.isList (by simp [hn, ← hl, rv.length]) hst fun h' hx => ?_
  have I1 : Inv X pins σ H { s with heap := h' } := I.kept (t' := s.toks) fun b o e => hx b o (Nat.ne_of_lt (Heap.lt_size e)) e
  exact h.run pins _ σ H xs _ Q I1 (by simpa using rv) hw
/-- x is True, of a number or None -/
theorem op_isTrue : OpR X (compareOp .Is) (fun x y H Q => y = .bl true ∧ (x = .non ∨ ∃ i, x = .int i) ∧ Q (.bl false) H) := by
  intro pins s σ H x y v u Q I rx ry h
  obtain ⟨rfl, h, q⟩ := h
  cases (show u = Value.bool true from ry)
  rcases h with rfl | ⟨i, rfl⟩
  · cases (show v = Value.none from rx)
    exact wpAny_is_other rfl (fun z => by cases z) ⟨.bl false, H, I, rfl, q⟩
  · obtain ⟨t, rfl⟩ := rx
    exact wpAny_is_other rfl (fun z => by cases z) ⟨.bl false, H, I, rfl, q⟩
end
/-! ### f(e, .., k = v, ..) -/
def gmix (a b : Nat) {α : Type} (us ws : List α) : List α := if us.length = a ∧ ws.length = b then us ++ ws else []
theorem vals_app {vs zs : List V} {us ws : List Value} (r : Vals vs us) (q : Vals zs ws) : Vals (vs ++ zs) (us ++ ws) := by
  induction r with
  | nil => exact q
  | cons h _ ih => exact .cons h ih
theorem gmix_rel {a b : Nat} {vs : List V} {us : List Value} {zs : List V} {ws : List Value} (r : Vals vs us) (q : Vals zs ws) : Vals (gmix a b vs zs) (gmix a b us ws) := by
  unfold gmix
  rw [r.length, q.length]
  split
  · exact vals_app r q
  · exact .nil
structure GDM (P : Program) (w : World) (K : PySem.W.Frag) (mg : Str → Option Value) (base : Heap) (CX : CXT) (k : Nat) (x : Str) (ks : List Str) (a b : Nat) (sp : Sp) : Prop where
  ex : ∃ (f : Addr) (fd : FuncData) (ps : List Str), FnOk P w K mg base CX k f fd ps sp ∧ mg x = some (.ref f) ∧ PySem.W.keepIn K (.ref f) = true ∧ KBinds K fd ps ks (gmix a b) (gmix a b)
section
variable {X : Cx} {CX : CXT} {k : Nat} {sp : Sp} {E : XK}
theorem pe_gdm {x : Str} {p pos : Pos} {e : Expr} {es : List Expr} {kws : List Keyword} {t tk : TA} {ks : List Str} {a b : Nat} (G : GDM X.prog X.w X.K X.mg X.base CX k x ks a b sp) (hr : Room k X.A) (hg : Gl X x) (hx : Passes CX X E)
    (ha : PA X (e :: es) t) (hkw : PK X kws tk) (hall : (backToKw pos (keywordEach kws X.env)).all (·.1.isSome) = true := by rfl) (hks : (backToKw pos (keywordEach kws X.env)).filterMap (·.1) = ks := by rfl)
    (hdb : (x == ("__debug__" : Str)) = false := by decide) (he : starEach (e :: es) X.env = (false, eval e X.env) :: starEach es X.env := by rfl)
    (hpl : ((backTo pos (starEach (e :: es) X.env)).any (·.1) || (backToKw pos (keywordEach kws X.env)).any (·.1.isNone)) = false := by rfl) :
    PE X (.Call (.Name x p) (e :: es) kws pos) (tCallK sp (gmix a b) E t tk) := by
  obtain ⟨f, fd, ps, F, hm, hk, hb⟩ := G.ex
  exact pe_callK F hr hg hm hk hb hx ha hkw hall hks hdb he hpl
end
section
variable {K : PySem.W.Frag} {f : Addr} {fd : FuncData} {x qual : Str} {params : Arguments} {body : List Stmt} {scope : Scope} {ps : List Str}
theorem gm_22 {k1 k2 : Str} (F : FunD K x qual params body scope [] [] f fd) (hl : ps.length = 4)
    (h : ∀ (kV doc pm : Value) (an : Option Addr) (cdv ct a b u v : Value), bindArgs (PySem.W.fnOf x qual params body scope .none kV doc pm an cdv ct) ⟨[a, b], [(k1, u), (k2, v)]⟩ = pure (ps.zip [a, b, u, v])) : KBinds K fd ps [k1, k2] (gmix 2 2) (gmix 2 2) := by
  refine ⟨fun s us ws hK hlen => ?_, fun {vs us zs ws} r q => gmix_rel r q⟩
  obtain ⟨oc, od, dV, kV, doc, pm, an, cdv, ct, osl, rfl, lk, hcd, hD, hKw⟩ := F.ex
  rw [hl] at hlen
  unfold gmix at hlen ⊢
  by_cases hc : us.length = 2 ∧ ws.length = 2
  · rw [if_pos hc]
    match us, ws, hc with
    | [a, b], [u, v], _ =>
      rcases hD with ⟨_, rfl⟩ | ⟨e, _⟩
      · exact .of_eq (h kV doc pm an cdv ct a b u v)
      · exact absurd rfl e
  · rw [if_neg hc] at hlen
    cases hlen
theorem gk_4 {k1 k2 k3 k4 : Str} (F : FunD K x qual params body scope [] [] f fd) (hl : ps.length = 4)
    (h : ∀ (kV doc pm : Value) (an : Option Addr) (cdv ct a b u v : Value), bindArgs (PySem.W.fnOf x qual params body scope .none kV doc pm an cdv ct) ⟨[], [(k1, a), (k2, b), (k3, u), (k4, v)]⟩ = pure (ps.zip [a, b, u, v])) : KBinds K fd ps [k1, k2, k3, k4] (gk 4 [0, 1, 2, 3]) (gk 4 [0, 1, 2, 3]) := by
  refine ⟨fun s us ws hK hlen => ?_, fun {vs us zs ws} r q => gk_rel r q⟩
  obtain ⟨oc, od, dV, kV, doc, pm, an, cdv, ct, osl, rfl, lk, hcd, hD, hKw⟩ := F.ex
  rw [hl] at hlen
  unfold gk at hlen ⊢
  by_cases hc : us.length = 0 ∧ ws.length = 4
  · rw [if_pos hc]
    match us, ws, hc with
    | [], [a, b, u, v], _ =>
      rcases hD with ⟨_, rfl⟩ | ⟨e, _⟩
      · exact .of_eq (h kV doc pm an cdv ct a b u v)
      · exact absurd rfl e
  · rw [if_neg hc] at hlen
    cases hlen
end
/-- != by __eq__ -/
structure GNe (P : Program) (w : World) (K : PySem.W.Frag) (mg : Str → Option Value) (base : Heap) (CX : CXT) (k : Nat) (C : Addr) (sp : Sp) : Prop where
  ne : PySem.W.findIn K (.ref C) "__ne__" = some (some (.builtin "object.__ne__"))
  mo : PySem.W.mroIn K C (.type "object") = some true
  eq : GN P w K mg base CX k C "__eq__" sp
theorem op_neGo {X : Cx} {CX : CXT} {k : Nat} {C : Addr} {sp : Sp} {E : XK} (G : GNe X.prog X.w X.K X.mg X.base CX k C sp) (hr : Room (k + 1) X.A) (hx : Passes CX X E) : OpR X (compareOp .NotEq) (rNeOwn X.K C sp E) := by
  obtain ⟨g, fd, ps, h1, h2, F, hb⟩ := G.eq.ex
  exact op_neOwn G.ne G.mo h1 h2 F hr hb hx
theorem mono_I0 {i : Nat} {v : V} {f : Int → Int → V} : ∀ (σ : L2.St) (H : Hp) (Q Q' : Bool → Hp → Prop), (∀ (b : Bool) (H1 : Hp), Q b H1 → Q' b H1) → tTest (tOp (rI0 f) (tVar i) (tC v)) σ H Q → tTest (tOp (rI0 f) (tVar i) (tC v)) σ H Q' := by
  rintro σ H Q Q' hq ⟨x, e, i, j, e1, e2, k, hk, h⟩
  exact ⟨x, e, i, j, e1, e2, k, hk, hq _ _ h⟩
theorem mono_gt : True := trivial
end Sp
end
section
set_option linter.all false
namespace Sp
/-! ### ratios as Lean's own -/
def Sz (q : Rat) (n : Nat) : Prop := q.num.natAbs < 2 ^ n ∧ q.den < 2 ^ n
theorem dvd_g1 (a b : Int) : ((Nat.gcd a.natAbs b.natAbs : Nat) : Int) ∣ a := Int.gcd_dvd_left (a := a) (b := b)
theorem dvd_g2 (a b : Int) : ((Nat.gcd a.natAbs b.natAbs : Nat) : Int) ∣ b := Int.gcd_dvd_right (a := a) (b := b)
/-- the divisor that Ratio's __init__ takes -/
def comm (a b : Int) : Int := if 0 < b then ((Nat.gcd a.natAbs b.natAbs : Nat) : Int) else -((Nat.gcd a.natAbs b.natAbs : Nat) : Int)
theorem comm_ne {a b : Int} (h : b ≠ 0) : comm a b ≠ 0 := by
  unfold comm
  have : Nat.gcd a.natAbs b.natAbs ≠ 0 := by
    intro z
    have := (Nat.gcd_eq_zero_iff.mp z).2
    omega
  split <;> omega
theorem comm_le {a b : Int} (h : b ≠ 0) : (comm a b).natAbs ≤ b.natAbs := by
  have := Nat.gcd_le_right a.natAbs (show 0 < b.natAbs by omega)
  unfold comm
  split <;> omega
theorem comm_num {a b : Int} (h : b ≠ 0) : a.fdiv (comm a b) = (Rat.divInt a b).num := by
  rw [Rat.num_divInt]
  have hg : (b.gcd a : Nat) = Nat.gcd a.natAbs b.natAbs := by rw [Int.gcd, Nat.gcd_comm]
  rw [hg]
  have d := dvd_g1 a b
  unfold comm
  split
  · rename_i hb
    rw [Int.sign_eq_one_of_pos hb, Int.one_mul, Int.fdiv_eq_ediv_of_dvd d]
  · rw [Int.sign_eq_neg_one_of_neg (by omega), Int.fdiv_eq_ediv_of_dvd (Int.neg_dvd.mpr d), Int.ediv_neg]
    rw [show (-1 : Int) * a = -a by omega, Int.neg_ediv_of_dvd d]
theorem comm_den {a b : Int} (h : b ≠ 0) : b.fdiv (comm a b) = (Rat.divInt a b).den := by
  rw [Rat.den_divInt, if_neg h]
  have hg : (b.gcd a : Nat) = Nat.gcd a.natAbs b.natAbs := by rw [Int.gcd, Nat.gcd_comm]
  rw [hg]
  have d := dvd_g2 a b
  unfold comm
  split
  · rename_i hb
    rw [Int.fdiv_eq_ediv_of_dvd d]
    have : b = (b.natAbs : Int) := by omega
    generalize Nat.gcd a.natAbs b.natAbs = g
    rw [Int.natCast_ediv, ← this]
  · rename_i hb
    rw [Int.fdiv_eq_ediv_of_dvd (Int.neg_dvd.mpr d), Int.ediv_neg, ← Int.neg_ediv_of_dvd d]
    have : -b = (b.natAbs : Int) := by omega
    rw [this, Int.natCast_ediv]
theorem sz_divInt {a b : Int} {n : Nat} (h : b ≠ 0) (ha : a.natAbs < 2 ^ n) (hb : b.natAbs < 2 ^ n) : Sz (Rat.divInt a b) n := by
  refine ⟨?_, ?_⟩
  · rw [Rat.num_divInt]
    have : (b.sign * a / ((b.gcd a : Nat) : Int)).natAbs ≤ (b.sign * a).natAbs := Int.natAbs_ediv_le_natAbs _ _
    have h2 : (b.sign * a).natAbs = a.natAbs := by rw [Int.natAbs_mul, Int.natAbs_sign, if_neg h]; omega
    omega
  · rw [Rat.den_divInt, if_neg h]
    have := Nat.div_le_self b.natAbs (b.gcd a)
    omega
theorem nb_mul {x y : Int} {a b : Nat} (hx : x.natAbs < 2 ^ a) (hy : y.natAbs < 2 ^ b) : (x * y).natAbs < 2 ^ (a + b) := by
  rw [Int.natAbs_mul, Nat.pow_add]
  exact Nat.mul_lt_mul'' hx hy
theorem nb_add {x y : Int} {a b n : Nat} (hx : x.natAbs < 2 ^ a) (hy : y.natAbs < 2 ^ b) (ha : a + 1 ≤ n := by omega) (hb : b + 1 ≤ n := by omega) : (x + y).natAbs < 2 ^ n := by
  have h1 : 2 ^ a ≤ 2 ^ (n - 1) := Nat.pow_le_pow_right (by decide) (by omega)
  have h2 : 2 ^ b ≤ 2 ^ (n - 1) := Nat.pow_le_pow_right (by decide) (by omega)
  have h3 : 2 ^ n = 2 ^ (n - 1) + 2 ^ (n - 1) := by
    obtain ⟨m, rfl⟩ : ∃ m, n = m + 1 := ⟨n - 1, by omega⟩
    rw [Nat.add_sub_cancel, Nat.pow_succ]
    omega
  omega
theorem nb_neg {x : Int} {a : Nat} (hx : x.natAbs < 2 ^ a) : (-x).natAbs < 2 ^ a := by omega
theorem nb_sub {x y : Int} {a b n : Nat} (hx : x.natAbs < 2 ^ a) (hy : y.natAbs < 2 ^ b) (ha : a + 1 ≤ n := by omega) (hb : b + 1 ≤ n := by omega) : (x - y).natAbs < 2 ^ n := by
  rw [Int.sub_eq_add_neg]
  exact nb_add hx (nb_neg hy) ha hb
theorem nb_le {x : Int} {a n : Nat} (hx : x.natAbs < 2 ^ a) (h : a ≤ n := by omega) : x.natAbs < 2 ^ n := Nat.lt_of_lt_of_le hx (Nat.pow_le_pow_right (by decide) h)
theorem Sz.mono {q : Rat} {m n : Nat} (h : Sz q m) (l : m ≤ n := by omega) : Sz q n := ⟨nb_le h.1 l, Nat.lt_of_lt_of_le h.2 (Nat.pow_le_pow_right (by decide) l)⟩
theorem Sz.d {q : Rat} {n : Nat} (h : Sz q n) : ((q.den : Nat) : Int).natAbs < 2 ^ n := by have := h.2; omega
theorem den_ne (q : Rat) : ((q.den : Nat) : Int) ≠ 0 := by have := q.den_nz; omega
theorem add_eq (p q : Rat) : Rat.divInt (p.num * q.den + q.num * p.den) (p.den * q.den) = p + q := by
  rw [← Rat.divInt_add_divInt _ _ (den_ne p) (den_ne q), Rat.num_divInt_den, Rat.num_divInt_den]
theorem sub_eq (p q : Rat) : Rat.divInt (p.num * q.den - q.num * p.den) (p.den * q.den) = p - q := by
  rw [← Rat.divInt_sub_divInt _ _ (den_ne p) (den_ne q), Rat.num_divInt_den, Rat.num_divInt_den]
theorem mul_eq (p q : Rat) : Rat.divInt (p.num * q.num) (p.den * q.den) = p * q := by
  rw [← Rat.divInt_mul_divInt, Rat.num_divInt_den, Rat.num_divInt_den]
theorem dd_ne (p q : Rat) : ((p.den : Nat) : Int) * ((q.den : Nat) : Int) ≠ 0 := Int.mul_ne_zero (den_ne p) (den_ne q)
theorem sz_add {p q : Rat} {m n k : Nat} (hp : Sz p m) (hq : Sz q n) (h : m + n + 1 ≤ k := by omega) : Sz (p + q) k := by
  rw [← add_eq]
  exact sz_divInt (dd_ne p q) (nb_add (nb_mul hp.1 hq.d) (nb_mul hq.1 hp.d)) (nb_le (nb_mul hp.d hq.d))
theorem sz_sub {p q : Rat} {m n k : Nat} (hp : Sz p m) (hq : Sz q n) (h : m + n + 1 ≤ k := by omega) : Sz (p - q) k := by
  rw [← sub_eq]
  exact sz_divInt (dd_ne p q) (nb_sub (nb_mul hp.1 hq.d) (nb_mul hq.1 hp.d)) (nb_le (nb_mul hp.d hq.d))
theorem sz_mul {p q : Rat} {m n k : Nat} (hp : Sz p m) (hq : Sz q n) (h : m + n ≤ k := by omega) : Sz (p * q) k := by
  rw [← mul_eq]
  exact sz_divInt (dd_ne p q) (nb_le (nb_mul hp.1 hq.1)) (nb_le (nb_mul hp.d hq.d))
theorem sz_int {i : Int} {n : Nat} (h : i.natAbs < 2 ^ n) (h0 : 1 ≤ n := by omega) : Sz (i : Rat) n := by
  refine ⟨by rw [Rat.num_intCast]; exact h, ?_⟩
  rw [Rat.den_intCast]
  exact Nat.lt_of_lt_of_le (by decide : 1 < 2 ^ 1) (Nat.pow_le_pow_right (by decide) h0)
theorem divInt_one (i : Int) : Rat.divInt i 1 = (i : Rat) := by
  rw [Rat.divInt_eq_div]
  show (i : Rat) / ((1 : Int) : Rat) = i
  rw [Rat.intCast_one]
  grind
/-- what a ratio that stands for a / b says -/
theorem is_pair {q : Rat} {a b : Int} (h : b ≠ 0) (e : q = Rat.divInt a b) : q.num * b = a * q.den := by
  have : Rat.divInt q.num q.den = Rat.divInt a b := by rw [Rat.num_divInt_den, e]
  exact (Rat.divInt_eq_divInt_iff (den_ne q) h).mp this
theorem div_eq {a b : Int} : Rat.divInt a b = (a : Rat) / (b : Rat) := Rat.divInt_eq_div a b
theorem below_eq (p q : Rat) : decide ((p.num * q.den - q.num * p.den).sign < 0) = decide (p < q) := by
  rw [decide_eq_decide, Rat.lt_iff, Int.sign_neg_iff]
  omega
def qabs (q : Rat) : Rat := if q < 0 then -q else q
theorem num_neg (q : Rat) : q.num < 0 ↔ q < 0 := by
  rw [Rat.lt_iff]
  simp
theorem qabs_eq (q : Rat) : Rat.divInt (if q.num < 0 then -q.num else q.num) q.den = qabs q := by
  unfold qabs
  by_cases h : q < 0
  · rw [if_pos h, if_pos ((num_neg q).mpr h), ← Rat.neg_divInt, Rat.num_divInt_den]
  · rw [if_neg h, if_neg (fun z => h ((num_neg q).mp z)), Rat.num_divInt_den]
theorem req (p q : Rat) : p = q ↔ p.num = q.num ∧ ((p.den : Nat) : Int) = ((q.den : Nat) : Int) := by
  constructor
  · intro h
    subst h
    exact ⟨rfl, rfl⟩
  · intro ⟨a, b⟩
    exact Rat.ext a (by omega)
theorem num_pos {q : Rat} : 0 < q.num ↔ 0 < q := by
  rw [Rat.lt_iff]
  simp
theorem sz_abs {q : Rat} {n : Nat} (h : Sz q n) : Sz (qabs q) n := by
  rw [← qabs_eq]
  refine sz_divInt (den_ne q) ?_ h.d
  have := h.1
  split <;> omega
end Sp
end
section
set_option Elab.async false
set_option linter.all false
set_option maxRecDepth 100000
set_option maxHeartbeats 4000000
namespace Sp
open PySem PySem.Spec PyProof.Rows L2
open PySem.W (Frag)
/-! ### what may be weakened -/
def monoE (te : TE) : TE := fun σ H Q => ∃ R : VK, te σ H R ∧ ∀ v H', R v H' → Q v H'
def monoA (t : TA) : TA := fun σ H Q => ∃ R : List V → Hp → Prop, t σ H R ∧ ∀ v H', R v H' → Q v H'
theorem PE.mono {X : Cx} {e : Expr} {te : TE} (h : PE X e te) : PE X e (monoE te) := ⟨fun pins s σ H Q I ⟨R, z, w⟩ => wpAny_mono (h.run pins s σ H R I z) (fun u s1 ⟨v, H1, I1, r, q⟩ => ⟨v, H1, I1, r, w _ _ q⟩) (fun _ _ e => e)⟩
theorem PA.mono {X : Cx} {es : List Expr} {t : TA} (h : PA X es t) : PA X es (monoA t) := ⟨fun pos pins s σ H Q I ⟨R, z, w⟩ => wpAny_mono (h.run pos pins s σ H R I z) (fun u s1 ⟨v, H1, I1, r, q⟩ => ⟨v, H1, I1, r, w _ _ q⟩) (fun _ _ e => e)⟩
/-! ### the library's readings, closed -/
structure rIsi (K : Frag) (xs : List V) (H : Hp) (Q : VK) : Prop where
  un : L2.rIsi K xs H Q
structure rIxL (K : Frag) (x y : V) (H : Hp) (Q : VK) : Prop where
  un : L2.rIxL K x y H Q
structure rIxT (K : Frag) (x y : V) (H : Hp) (Q : VK) : Prop where
  un : L2.rIxT K x y H Q
structure rEqD (K : Frag) (x y : V) (H : Hp) (Q : VK) : Prop where
  un : L2.rEqD K x y H Q
structure rNeD (K : Frag) (x y : V) (H : Hp) (Q : VK) : Prop where
  un : L2.rNeD K x y H Q
structure rIn (K : Frag) (neg : Bool) (x y : V) (H : Hp) (Q : VK) : Prop where
  un : L2.rIn K neg x y H Q
structure rCat (x y : V) (H : Hp) (Q : VK) : Prop where
  un : L2.rCat x y H Q
structure rAppend (x : V) (vs : List V) (H : Hp) (Q : VK) : Prop where
  un : L2.rAppend x vs H Q
structure tDNewK (σ : L2.St) (H : Hp) (Q : VK) : Prop where
  un : L2.tDNewK σ H Q
structure gTup (K : Frag) (n : Nat) (t : TGs) (v : V) (σ : L2.St) (H : Hp) (Q : L2.St → Hp → Prop) : Prop where
  un : L2.gTup K n t v σ H Q
structure EnumD (K : Frag) (vs : List V) (H : Hp) (R : It → Hp → Prop) : Prop where
  un : ∃ a xs, vs = [.ref a] ∧ SqL K H a xs ∧ R (Ite K a) H
structure iEnum (K : Frag) (ta : TA) (σ : L2.St) (H : Hp) (R : It → Hp → Prop) : Prop where
  un : ta σ H fun vs H1 => EnumD K vs H1 R
structure tLam (T : List (Addr × Str)) (TT : (XK → Hp → VK → Prop) → Hp → VK → Prop) (t : XK → TE) (σ : L2.St) (H : Hp) (Q : VK) : Prop where
  un : LamX.tLam T TT t σ H Q
section
variable {X : Cx}
theorem call_isi : CallR X (.builtin "isinstance") (rIsi X.K) := fun pins s σ H xs us Q I r h => L2.call_isi pins s σ H xs us Q I r h.un
theorem ix_list : IxR X (rIxL X.K) := fun a b pins s σ H x y v u Q I rx ry h z => L2.ix_list a b pins s σ H x y v u Q I rx ry h.un z
theorem ix_tup : IxR X (rIxT X.K) := fun a b pins s σ H x y v u Q I rx ry h z => L2.ix_tup a b pins s σ H x y v u Q I rx ry h.un z
theorem op_eqD (hu : X.A.units + 64 < cLine) : OpR X (compareOp .Eq) (rEqD X.K) := fun pins s σ H x y v u Q I rx ry h => L2.op_eqD hu pins s σ H x y v u Q I rx ry h.un
theorem op_neD (hu : X.A.units + 64 < cLine) : OpR X (compareOp .NotEq) (rNeD X.K) := fun pins s σ H x y v u Q I rx ry h => L2.op_neD hu pins s σ H x y v u Q I rx ry h.un
theorem op_in_seq : OpR X (compareOp .In) (rIn X.K false) := fun pins s σ H x y v u Q I rx ry h => L2.op_in_seq pins s σ H x y v u Q I rx ry h.un
theorem op_cat : OpR X (binaryOp .Add) rCat := fun pins s σ H x y v u Q I rx ry h => L2.op_cat pins s σ H x y v u Q I rx ry h.un
theorem mt_append : MtM X "list.append" rAppend := fun pins s σ H x xs v us Q I rx rv h => L2.mt_append pins s σ H x xs v us Q I rx rv h.un
theorem pe_dnewK {pos : Pos} : PE X (.Dict [] [] pos) tDNewK := ⟨fun pins s σ H Q I h => L2.pe_dnewK.run pins s σ H Q I h.un⟩
theorem pg_tup {es : List Expr} {k : Nat} {t : TGs} {n : Nat} {pos : Pos} (hc : X.calm = true) (h : PGs X es t)
    (hn : (assignEach es X.env).length = n := by rfl) (hst : (assignEach es X.env).findIdx? (·.1) = none := by rfl) : PG X (.Tuple es k pos) (gTup X.K n t) :=
  ⟨fun pins s σ H v u Q I r hw => (L2.pg_tup hc h hn hst).run pins s σ H v u Q I r hw.un⟩
theorem pi_enum {e : Expr} {ta : TA} {p pos tpos : Pos} {elts : List Expr} {kk : Nat} (hg : Gl X "enumerate") (hm : X.mg "enumerate" = none) (ha : PA X [e] ta) (hs : starEach [e] X.env = [(false, eval e X.env)] := by rfl) :
    PI X (.Tuple elts kk tpos) (.Call (.Name "enumerate" p) [e] [] pos) (iEnum X.K ta) := ⟨fun pins s σ H R I h => (L2.pi_enum hg hm (PA.mono ha) hs).run pins s σ H R I ⟨_, h.un, fun _ _ y => y.un⟩⟩
end
end Sp
end
section
set_option Elab.async false
set_option linter.all false
set_option exponentiation.threshold 5000
set_option maxRecDepth 100000
set_option maxHeartbeats 4000000
namespace Sp
open PySem PySem.Spec PyProof.Rows L2
open PySem.W (Frag)
/-! ### small logic -/
theorem iteP {c A B : Prop} {d : Decidable c} (h1 : c → A) (h2 : ¬ c → B) : @ite Prop c d A B := by
  by_cases h : c
  · rw [if_pos h]
    exact h1 h
  · rw [if_neg h]
    exact h2 h
theorem iteT {b : Bool} {A B : Prop} {d : Decidable (b = true)} (e : b = true) (h : A) : @ite Prop (b = true) d A B := by rw [if_pos e]; exact h
theorem iteF {b : Bool} {A B : Prop} {d : Decidable (b = true)} (e : b = false) (h : B) : @ite Prop (b = true) d A B := by rw [if_neg (by rw [e]; simp)]; exact h
/-- what the reading may leave open (no loop's invariant) -/
class Good (α : Type) : Prop where
  ok : True
instance : Good Nat := ⟨trivial⟩
instance : Good Int := ⟨trivial⟩
instance : Good V := ⟨trivial⟩
instance : Good Bool := ⟨trivial⟩
instance : Good Str := ⟨trivial⟩
instance : Good String := ⟨trivial⟩
instance : Good Value := ⟨trivial⟩
instance : Good Rat := ⟨trivial⟩
instance : Good PyData := ⟨trivial⟩
instance : Good HO := ⟨trivial⟩
instance : Good Obj := ⟨trivial⟩
instance {α : Type} : Good (List α) := ⟨trivial⟩
instance {α : Type} : Good (Option α) := ⟨trivial⟩
theorem exI {α : Type} [Good α] {p : α → Prop} (w : α) (h : p w) : ∃ x, p x := ⟨w, h⟩
/-! ### data -/
inductive Cn where
  | Ratio | Step | Stem | Table | Words | Row | Told | Book | Net | Road
  deriving DecidableEq
def Cn.str : Cn → Str
  | .Ratio => "Ratio" | .Step => "Step" | .Stem => "Stem" | .Table => "Table" | .Words => "Words" | .Row => "Row" | .Told => "Told" | .Book => "Book" | .Net => "Net" | .Road => "Road"
def Cn.flds : Cn → List Str
  | .Ratio => ["top", "bottom"] | .Step => ["studs", "rounds", "divisor", "is_round"] | .Stem => ["turn", "squared", "rise"] | .Table => ["stud", "around"]
  | .Words => ["words", "done", "last"] | .Row => ["a", "b", "c"] | .Told => ["kind", "row"] | .Book => ["told"] | .Net => ["low", "high", "third", "steps"] | .Road => ["whole", "runs", "kind", "letters"]
abbrev ca (K : Frag) (c : Cn) : Addr := He.ga K c.str
abbrev cX (K : Frag) (x : Str) : Addr := He.ga K x
inductive Dt where
  | non | bl (b : Bool) | int (i : Int) | str (x : Str) | tup (l : List Dt) | lst (l : List Dt) | dct
  | rat (q : Rat) | step (k j : Int) | stem (D F : Rat) | table (a b c d : Int) | row (a b c : Rat) | told (k : Str) (a b c : Rat) | book (l : List Dt) | obj (c : Cn) (l : List Dt)
def Dt.own : Dt → Option (Cn × List (Str × Dt))
  | .rat q => some (.Ratio, [("top", .int q.num), ("bottom", .int (q.den : Nat))])
  | .step k j => some (.Step, [("studs", .int k), ("rounds", .int j), ("divisor", .int ((Nat.gcd k.natAbs j.natAbs : Nat) : Int)), ("is_round", .bl (decide (k = 0)))])
  | .stem D F => some (.Stem, [("turn", .rat D), ("squared", .rat F), ("rise", .rat (F - D * D))])
  | .table a b c d => some (.Table, [("stud", .step a b), ("around", .step c d)])
  | .row a b c => some (.Row, [("a", .rat a), ("b", .rat b), ("c", .rat c)])
  | .told k a b c => some (.Told, [("kind", .str k), ("row", .row a b c)])
  | .book l => some (.Book, [("told", .tup l)])
  | .obj c l => if l.length = c.flds.length then some (c, c.flds.zip l) else none
  | _ => none
def Cn.all : List Cn := [.Ratio, .Step, .Stem, .Table, .Words, .Row, .Told, .Book, .Net, .Road]
theorem Cn.mem (c : Cn) : c ∈ Cn.all := by cases c <;> decide
theorem Dt.obj_own {c c' : Cn} {l : List Dt} {fs : List (Str × Dt)} (h : (Dt.obj c l).own = some (c', fs)) : l.length = c.flds.length ∧ c' = c ∧ fs = c.flds.zip l := by
  have h : (if l.length = c.flds.length then some (c, c.flds.zip l) else none) = some (c', fs) := h
  by_cases e : l.length = c.flds.length
  · rw [if_pos e] at h
    cases h
    exact ⟨e, rfl, rfl⟩
  · rw [if_neg e] at h
    cases h
theorem Dt.own_flds {d : Dt} {c : Cn} {fs : List (Str × Dt)} (h : d.own = some (c, fs)) : fs.map (·.1) = c.flds := by
  cases d <;> (first | (cases h; done) | (cases h; rfl) | (obtain ⟨e, rfl, rfl⟩ := Dt.obj_own h; exact List.map_fst_zip (Nat.le_of_eq e.symm)))
mutual
inductive IsV (K : Frag) (H : Hp) : V → Dt → Prop
  | non : IsV K H .non .non
  | bl (b : Bool) : IsV K H (.bl b) (.bl b)
  | int (i : Int) : IsV K H (.int i) (.int i)
  | str (x : Str) : IsV K H (.str x) (.str x)
  | tup {p : Addr} {vs : List V} {ds : List Dt} : H p = some (.tup vs) → IsVs K H vs ds → IsV K H (.ref p) (.tup ds)
  | lst {p : Addr} {vs : List V} {ds : List Dt} : H p = some (.lst vs) → IsVs K H vs ds → IsV K H (.ref p) (.lst ds)
  | dct {p : Addr} : H p = some (.dK []) → IsV K H (.ref p) .dct
  | own {p dx : Addr} {gs : List (Str × V)} {d : Dt} {c : Cn} {fs : List (Str × Dt)} : d.own = some (c, fs) → H p = some (.ins (ca K c) dx gs) → IsFs K H gs fs → IsV K H (.ref p) d
inductive IsVs (K : Frag) (H : Hp) : List V → List Dt → Prop
  | nil : IsVs K H [] []
  | cons {v : V} {d : Dt} {vs : List V} {ds : List Dt} : IsV K H v d → IsVs K H vs ds → IsVs K H (v :: vs) (d :: ds)
inductive IsFs (K : Frag) (H : Hp) : List (Str × V) → List (Str × Dt) → Prop
  | nil : IsFs K H [] []
  | cons {f : Str} {v : V} {d : Dt} {gs : List (Str × V)} {fs : List (Str × Dt)} : IsV K H v d → IsFs K H gs fs → IsFs K H ((f, v) :: gs) ((f, d) :: fs)
end
section
variable {K : Frag} {H H' : Hp}
/-- what keeps an object: no table -/
def ExtA (m : Option Addr) (H H' : Hp) : Prop := ∀ b o, m ≠ some b → (∀ ps, o ≠ .tbl ps) → H b = some o → H' b = some o
mutual
def noL : Dt → Bool
  | .tup l => noLs l
  | .book l => noLs l
  | .obj _ l => noLs l
  | .lst _ => false
  | .dct => false
  | _ => true
def noLs : List Dt → Bool
  | [] => true
  | d :: l => noL d && noLs l
end
def noFs : List (Str × Dt) → Bool
  | [] => true
  | d :: l => noL d.2 && noFs l
theorem zip_noL : ∀ {fl : List Str} {l : List Dt}, noLs l = true → noFs (fl.zip l) = true
  | [], _, _ => rfl
  | _ :: _, [], _ => rfl
  | _ :: fl, d :: l, h => by
    obtain ⟨a, b⟩ := Bool.and_eq_true_iff.mp h
    exact Bool.and_eq_true_iff.mpr ⟨a, zip_noL b⟩
theorem own_noL {d : Dt} {c : Cn} {fs : List (Str × Dt)} (h : d.own = some (c, fs)) (n : noL d = true) : noFs fs = true := by
  cases d <;> (first | (cases h; done) | (cases h; first | rfl | (simpa [noFs, noL] using n)) | (obtain ⟨e, rfl, rfl⟩ := Dt.obj_own h; exact zip_noL n))
mutual
theorem IsV.ext (e : ∀ b o, (∀ ps, o ≠ .tbl ps) → H b = some o → H' b = some o) : ∀ {v : V} {d : Dt}, IsV K H v d → IsV K H' v d
  | _, _, .non => .non
  | _, _, .bl b => .bl b
  | _, _, .int b => .int b
  | _, _, .str b => .str b
  | _, _, .tup h r => .tup (e _ _ (fun _ z => by cases z) h) (IsVs.ext e r)
  | _, _, .lst h r => .lst (e _ _ (fun _ z => by cases z) h) (IsVs.ext e r)
  | _, _, .dct h => .dct (e _ _ (fun _ z => by cases z) h)
  | _, _, .own o h r => .own o (e _ _ (fun _ z => by cases z) h) (IsFs.ext e r)
theorem IsVs.ext (e : ∀ b o, (∀ ps, o ≠ .tbl ps) → H b = some o → H' b = some o) : ∀ {v : List V} {d : List Dt}, IsVs K H v d → IsVs K H' v d
  | _, _, .nil => .nil
  | _, _, .cons a b => .cons (IsV.ext e a) (IsVs.ext e b)
theorem IsFs.ext (e : ∀ b o, (∀ ps, o ≠ .tbl ps) → H b = some o → H' b = some o) : ∀ {v : List (Str × V)} {d : List (Str × Dt)}, IsFs K H v d → IsFs K H' v d
  | _, _, .nil => .nil
  | _, _, .cons a b => .cons (IsV.ext e a) (IsFs.ext e b)
end
/-- past a change of one list, or of a thing that is new -/
def Sbl (a : Addr) (H H' : Hp) : Prop := ∀ b o, b ≠ a → (∀ ps, o ≠ .tbl ps) → H b = some o → H' b = some o
mutual
theorem IsV.sb {a : Addr} {xs : List V} (ha : H a = some (.lst xs)) (e : Sbl a H H') : ∀ {v : V} {d : Dt}, IsV K H v d → noL d = true → IsV K H' v d
  | _, _, .non, _ => .non
  | _, _, .bl b, _ => .bl b
  | _, _, .int b, _ => .int b
  | _, _, .str b, _ => .str b
  | _, _, .tup h r, n => .tup (e _ _ (fun z => by rw [z, ha] at h; cases h) (fun _ z => by cases z) h) (IsVs.sb ha e r n)
  | _, _, .lst h r, n => by cases n
  | _, _, .dct h, n => by cases n
  | _, _, .own o h r, n => .own o (e _ _ (fun z => by rw [z, ha] at h; cases h) (fun _ z => by cases z) h) (IsFs.sb ha e r (own_noL o n))
theorem IsVs.sb {a : Addr} {xs : List V} (ha : H a = some (.lst xs)) (e : Sbl a H H') : ∀ {v : List V} {d : List Dt}, IsVs K H v d → noLs d = true → IsVs K H' v d
  | _, _, .nil, _ => .nil
  | _, _, .cons a b, n => .cons (IsV.sb ha e a (Bool.and_eq_true_iff.mp n).1) (IsVs.sb ha e b (Bool.and_eq_true_iff.mp n).2)
theorem IsFs.sb {a : Addr} {xs : List V} (ha : H a = some (.lst xs)) (e : Sbl a H H') : ∀ {v : List (Str × V)} {d : List (Str × Dt)}, IsFs K H v d → noFs d = true → IsFs K H' v d
  | _, _, .nil, _ => .nil
  | _, _, .cons a b, n => .cons (IsV.sb ha e a (Bool.and_eq_true_iff.mp n).1) (IsFs.sb ha e b (Bool.and_eq_true_iff.mp n).2)
end
/-- past a change of what was not there -/
theorem IsV.same {v : V} {d : Dt} (h : IsV K H v d) (s : Same H H') : IsV K H' v d := h.ext fun b o _ e => s b o e
theorem IsVs.same {v : List V} {d : List Dt} (h : IsVs K H v d) (s : Same H H') : IsVs K H' v d := h.ext fun b o _ e => s b o e
theorem IsFs.same {v : List (Str × V)} {d : List (Str × Dt)} (h : IsFs K H v d) (s : Same H H') : IsFs K H' v d := h.ext fun b o _ e => s b o e
theorem IsVs.length : ∀ {v : List V} {d : List Dt}, IsVs K H v d → v.length = d.length
  | _, _, .nil => rfl
  | _, _, .cons _ b => by rw [List.length_cons, List.length_cons, b.length]
theorem IsVs.get : ∀ {v : List V} {d : List Dt} {i : Nat} {x : Dt}, IsVs K H v d → d[i]? = some x → ∃ y, v[i]? = some y ∧ IsV K H y x
  | _, _, i, x, .nil, e => by simp at e
  | _, _, 0, x, .cons a _, e => by simp at e; subst e; exact ⟨_, rfl, a⟩
  | _, _, i + 1, x, .cons _ b, e => by
    obtain ⟨y, h1, h2⟩ := IsVs.get (i := i) b (by simpa using e)
    exact ⟨y, by simpa using h1, h2⟩
theorem lkp {α : Type} (f g : Str) (y : α) (fs : List (Str × α)) : ((f, y) :: fs).lookup g = if g = f then some y else fs.lookup g := by
  by_cases h : g = f
  · subst h
    simp [List.lookup]
  · have e : (g == f) = false := by simpa using h
    rw [if_neg h]
    simp [List.lookup, e]
theorem IsFs.get : ∀ {v : List (Str × V)} {d : List (Str × Dt)} {f : Str} {x : Dt}, IsFs K H v d → d.lookup f = some x → ∃ y, v.lookup f = some y ∧ IsV K H y x
  | _, _, f, x, .nil, e => by simp at e
  | _, _, f, x, .cons (f := g) a b, e => by
    rw [lkp] at e
    rw [lkp]
    by_cases h : f = g
    · rw [if_pos h] at e ⊢
      cases e
      exact ⟨_, rfl, a⟩
    · rw [if_neg h] at e ⊢
      exact IsFs.get b e
theorem IsFs.none : ∀ {v : List (Str × V)} {d : List (Str × Dt)} {f : Str}, IsFs K H v d → d.lookup f = none → v.lookup f = none
  | _, _, f, .nil, e => rfl
  | _, _, f, .cons (f := g) a b, e => by
    rw [lkp] at e
    rw [lkp]
    by_cases h : f = g
    · rw [if_pos h] at e
      cases e
    · rw [if_neg h] at e ⊢
      exact IsFs.none b e
end
/-! ### types -/
inductive Ty0 where
  | int | bool | none | str | tuple | list | dict | own (c : Cn)
  deriving DecidableEq
def tv (K : Frag) : Ty0 → Value
  | .int => .type "int" | .bool => .type "bool" | .none => .type "NoneType" | .str => .type "str" | .tuple => .type "tuple" | .list => .type "list" | .dict => .type "dict" | .own c => .ref (ca K c)
def sub0 : Ty0 → Ty0 → Bool
  | .bool, .int => true
  | a, b => decide (a = b)
def Dt.ty : Dt → Ty0
  | .non => .none | .bl _ => .bool | .int _ => .int | .str _ => .str | .tup _ => .tuple | .lst _ => .list | .dct => .dict
  | .rat _ => .own .Ratio | .step _ _ => .own .Step | .stem _ _ => .own .Stem | .table _ _ _ _ => .own .Table | .row _ _ _ => .own .Row | .told _ _ _ _ => .own .Told | .book _ => .own .Book | .obj c _ => .own c
theorem Dt.own_ty {d : Dt} {c : Cn} {fs : List (Str × Dt)} (h : d.own = some (c, fs)) : d.ty = .own c := by
  cases d <;> (first | (cases h; done) | (cases h; rfl) | (obtain ⟨e, rfl, rfl⟩ := Dt.obj_own h; rfl))
/-- an own class whose instances have the attributes fl -/
structure CF (K : Frag) (C : Addr) (fl : List Str) : Prop where
  cl : Cls K C
  ha : PySem.W.findIn K (.ref C) "__class__" = some (some (.builtin "object.__class__"))
  hn : PySem.W.specialIn K (.builtin "object.__class__") "__get__" = some (some (.builtin "getset_descriptor.__get__"))
  htk : PySem.W.takesIn K (.builtin "object.__class__") = some true
  hm : PySem.W.mroIn K C (.type "object") = some true
  no : ∀ f ∈ fl, NoAttr K C f
/-- what all leans on of the text: the own classes cs, the types ts -/
structure G0 (K : Frag) (mg : Str → Option Value) (cs : List Cn) (ts : List Ty0) : Prop where
  nm : Nm mg
  cf : ∀ c ∈ cs, CF K (ca K c) c.flds
  mgc : ∀ c ∈ cs, mg c.str = some (.ref (ca K c))
  kit : ∀ t ∈ ts, ∀ u ∈ ts, PySem.W.kitOne K (tv K t) (tv K u) = some (sub0 t u)
section
variable {K : Frag} {mg : Str → Option Value} {cs : List Cn} {ts : List Ty0} {H : Hp}
theorem G0.ty (G : G0 K mg cs ts) {v : V} {d : Dt} (h : IsV K H v d) (hc : ∀ c fs, d.own = some (c, fs) → c ∈ cs) : TyX K H v (tv K d.ty) := by
  cases h with
  | non => exact .base .non
  | bl b => exact .base (.bl b)
  | int i => exact .base (.int i)
  | str x => exact .base (.str x)
  | tup h _ => exact .base (.tup h)
  | lst h _ => exact .base (.lst h)
  | dct h => exact .base (.dK h)
  | own o h _ =>
    have c := G.cf _ (hc _ _ o)
    rw [Dt.own_ty o]
    exact .base (.ins h c.cl c.ha c.hn c.htk c.hm)
inductive ClsD (K : Frag) : V → Ty0 → Prop
  | int : ClsD K (.ty "int") .int
  | bool : ClsD K (.ty "bool") .bool
  | str : ClsD K (.ty "str") .str
  | tuple : ClsD K (.ty "tuple") .tuple
  | list : ClsD K (.ty "list") .list
  | own (c : Cn) : ClsD K (.ref (ca K c)) (.own c)
theorem ClsD.v {v : V} {t : Ty0} (h : ClsD K v t) : ClsV v (tv K t) := by
  cases h with
  | int => exact .ty _
  | bool => exact .ty _
  | str => exact .ty _
  | tuple => exact .ty _
  | list => exact .ty _
  | own c => exact .own _
/-- the classes of a data value are known -/
def okT (cs : List Cn) (ts : List Ty0) (d : Dt) : Bool := (match d.own with | some (c, _) => decide (c ∈ cs) | none => true) && decide (d.ty ∈ ts)
theorem isiD (G : G0 K mg cs ts) {x c : V} {d : Dt} {t : Ty0} {Q : VK} (h : IsV K H x d) (k : ClsD K c t) (o : okT cs ts d = true) (ht : t ∈ ts) (q : Q (.bl (sub0 d.ty t)) H) : rIsi K [x, c] H Q := by
  obtain ⟨o1, o2⟩ := Bool.and_eq_true_iff.mp o
  refine ⟨x, c, _, _, _, rfl, k.v, G.ty h (fun c fs e => ?_), G.kit _ (of_decide_eq_true o2) _ ht, q⟩
  rw [e] at o1
  exact of_decide_eq_true o1
end
/-! ### outcomes -/
inductive Out where
  | ok (d : Dt)
  | err (x : Str) (fs : List (Str × Dt))
/-- the error of the class x -/
structure AftE (K : Frag) (H : Hp) (x : Str) (fs : List (Str × Dt)) (E : XK) : Prop where
  un : ∀ (dd : Addr) (H' : Hp) (gs : List (Str × V)), Same H H' → H dd = none → H' dd = some (.xd gs) → IsFs K H' gs fs → E (.ref (cX K x)) (some dd) H'
structure AftD (K : Frag) (H : Hp) (d : Dt) (Q : VK) : Prop where
  un : ∀ v H', Same H H' → IsV K H' v d → Q v H'
structure AftS (K : Frag) (H : Hp) (d : Dt) (P : V → Prop) : Prop where
  un : ∀ v, IsV K H v d → P v
def Aft (K : Frag) (H : Hp) (o : Out) (Q : VK) (E : XK) : Prop := match o with
  | .ok d => AftD K H d Q
  | .err x fs => AftE K H x fs E
theorem none_same {H H' : Hp} {a : Addr} (s : Same H H') (n : H' a = none) : H a = none := by
  cases e : H a with
  | none => rfl
  | some o => rw [s _ _ e] at n; cases n
theorem Aft.same {K : Frag} {H H' : Hp} {o : Out} {Q : VK} {E : XK} (h : Aft K H o Q E) (s : Same H H') : Aft K H' o Q E := by
  cases o with
  | ok d => exact .mk fun v H2 s2 i => h.un v H2 (s.trans s2) i
  | err x fs => exact .mk fun dd H2 gs s2 n e i => h.un dd H2 gs (s.trans s2) (none_same s n) e i
/-! ### sizes -/
structure Li (i : Int) (n : Nat) : Prop where
  lt : i.natAbs < 2 ^ n
structure Lq (q : Rat) (n : Nat) : Prop where
  sz : Sz q n
theorem Li.mono {i : Int} {n m : Nat} (h : Li i n) (l : n ≤ m) : Li i m := ⟨nb_le h.lt l⟩
theorem Lq.mono {i : Rat} {n m : Nat} (h : Lq i n) (l : n ≤ m) : Lq i m := ⟨h.sz.mono l⟩
def SzD (n : Nat) : Dt → Prop
  | .int i => Li i n
  | .rat q => Lq q n
  | .step k j => Li k n ∧ Li j n
  | .stem D F => Lq D n ∧ Lq F n
  | .table a b c d => (Li a n ∧ Li b n) ∧ (Li c n ∧ Li d n)
  | .row a b c => Lq a n ∧ Lq b n ∧ Lq c n
  | .told _ a b c => Lq a n ∧ Lq b n ∧ Lq c n
  | _ => True
def SzL (n : Nat) : List Dt → Prop
  | [] => True
  | d :: l => SzD n d ∧ SzL n l
class Bi (i : Int) (n : outParam Nat) : Prop where
  lt : i.natAbs < 2 ^ n
class Bq (q : Rat) (n : outParam Nat) : Prop where
  sz : Sz q n
theorem biI {i : Int} {m : Nat} (n : Nat) [h : Bi i n] (l : n ≤ m := by decide) : Li i m := ⟨nb_le h.lt l⟩
theorem biL {i : Int} {m : Nat} (n : Nat) [h : Bi i n] (l : n ≤ m := by decide) : i.natAbs < 2 ^ m := nb_le h.lt l
theorem cmI {i j : Int} (a b : Nat) [h : Bi i a] [g : Bi j b] (l : a ≤ 4000 := by decide) (k : b ≤ 4000 := by decide) : CMulB i j := ⟨nb_le h.lt l, nb_le g.lt k⟩
theorem cdI {i j : Int} (b : Nat) [g : Bi j b] (h : j ≠ 0) (k : b ≤ 4000 := by decide) : CDivB i j := ⟨h, nb_le g.lt k⟩
theorem bqI {q : Rat} {m : Nat} (n : Nat) [h : Bq q n] (l : n ≤ m := by decide) : Lq q m := ⟨h.sz.mono l⟩
theorem bqL {q : Rat} {m : Nat} (n : Nat) [h : Bq q n] (l : n ≤ m := by decide) : Sz q m := h.sz.mono l
def blen (n : Nat) : Nat := if n < 2 ^ 4 then 4 else if n < 2 ^ 16 then 16 else if n < 2 ^ 32 then 32 else if n < 2 ^ 64 then 64 else n.log2 + 1
theorem blen_lt (n : Nat) : n < 2 ^ blen n := by
  unfold blen
  split
  · assumption
  · split
    · assumption
    · split
      · assumption
      · split
        · assumption
        · exact Nat.lt_log2_self
instance : Bi (0 : Int) 1 := ⟨by decide⟩
instance : Bi (1 : Int) 1 := ⟨by decide⟩
instance : Bi (2 : Int) 2 := ⟨by decide⟩
instance : Bi (3 : Int) 2 := ⟨by decide⟩
instance : Bi (4 : Int) 3 := ⟨by decide⟩
instance : Bi (5 : Int) 3 := ⟨by decide⟩
instance : Bi (6 : Int) 3 := ⟨by decide⟩
instance : Bi (7 : Int) 3 := ⟨by decide⟩
instance : Bi (8 : Int) 4 := ⟨by decide⟩
instance : Bi (9 : Int) 4 := ⟨by decide⟩
instance : Bi (10 : Int) 4 := ⟨by decide⟩
instance : Bi (11 : Int) 4 := ⟨by decide⟩
instance : Bi (12 : Int) 4 := ⟨by decide⟩
instance : Bi (13 : Int) 4 := ⟨by decide⟩
instance : Bi (14 : Int) 4 := ⟨by decide⟩
instance : Bi (15 : Int) 4 := ⟨by decide⟩
instance : Bi (16 : Int) 5 := ⟨by decide⟩
instance : Bi (17 : Int) 5 := ⟨by decide⟩
instance : Bi (18 : Int) 5 := ⟨by decide⟩
instance : Bi (19 : Int) 5 := ⟨by decide⟩
instance : Bi (20 : Int) 5 := ⟨by decide⟩
instance : Bi (21 : Int) 5 := ⟨by decide⟩
instance : Bi (22 : Int) 5 := ⟨by decide⟩
instance : Bi (23 : Int) 5 := ⟨by decide⟩
instance : Bi (24 : Int) 5 := ⟨by decide⟩
instance : Bi (25 : Int) 5 := ⟨by decide⟩
instance : Bi (26 : Int) 5 := ⟨by decide⟩
instance : Bi (27 : Int) 5 := ⟨by decide⟩
instance : Bi (28 : Int) 5 := ⟨by decide⟩
instance : Bi (29 : Int) 5 := ⟨by decide⟩
instance : Bi (30 : Int) 5 := ⟨by decide⟩
instance : Bi (31 : Int) 5 := ⟨by decide⟩
instance : Bi (32 : Int) 6 := ⟨by decide⟩
instance : Bi (33 : Int) 6 := ⟨by decide⟩
instance : Bi (34 : Int) 6 := ⟨by decide⟩
instance : Bi (35 : Int) 6 := ⟨by decide⟩
instance : Bi (36 : Int) 6 := ⟨by decide⟩
instance : Bi (37 : Int) 6 := ⟨by decide⟩
instance : Bi (38 : Int) 6 := ⟨by decide⟩
instance : Bi (39 : Int) 6 := ⟨by decide⟩
instance : Bi (40 : Int) 6 := ⟨by decide⟩
instance : Bi (41 : Int) 6 := ⟨by decide⟩
instance : Bi (42 : Int) 6 := ⟨by decide⟩
instance : Bi (43 : Int) 6 := ⟨by decide⟩
instance : Bi (44 : Int) 6 := ⟨by decide⟩
instance : Bi (45 : Int) 6 := ⟨by decide⟩
instance : Bi (46 : Int) 6 := ⟨by decide⟩
instance : Bi (47 : Int) 6 := ⟨by decide⟩
instance : Bi (48 : Int) 6 := ⟨by decide⟩
instance : Bi (49 : Int) 6 := ⟨by decide⟩
instance : Bi (50 : Int) 6 := ⟨by decide⟩
instance : Bi (51 : Int) 6 := ⟨by decide⟩
instance : Bi (52 : Int) 6 := ⟨by decide⟩
instance : Bi (53 : Int) 6 := ⟨by decide⟩
instance : Bi (54 : Int) 6 := ⟨by decide⟩
instance : Bi (55 : Int) 6 := ⟨by decide⟩
instance : Bi (56 : Int) 6 := ⟨by decide⟩
instance : Bi (57 : Int) 6 := ⟨by decide⟩
instance : Bi (58 : Int) 6 := ⟨by decide⟩
instance : Bi (59 : Int) 6 := ⟨by decide⟩
instance : Bi (60 : Int) 6 := ⟨by decide⟩
instance : Bi (61 : Int) 6 := ⟨by decide⟩
instance : Bi (62 : Int) 6 := ⟨by decide⟩
instance : Bi (63 : Int) 6 := ⟨by decide⟩
instance : Bi (64 : Int) 7 := ⟨by decide⟩
instance : Bi (65 : Int) 7 := ⟨by decide⟩
instance : Bi (100 : Int) 7 := ⟨by decide⟩
instance : Bi (1000 : Int) 10 := ⟨by decide⟩
instance : Bi (1471 : Int) 11 := ⟨by decide⟩
instance : Bi (3259 : Int) 12 := ⟨by decide⟩
instance {x y : Int} {a b : Nat} [h1 : Bi x a] [h2 : Bi y b] : Bi (x * y) (a + b) := ⟨nb_mul h1.lt h2.lt⟩
instance {x y : Int} {a b : Nat} [h1 : Bi x a] [h2 : Bi y b] : Bi (x + y) (max a b + 1) := ⟨nb_add h1.lt h2.lt⟩
instance {x y : Int} {a b : Nat} [h1 : Bi x a] [h2 : Bi y b] : Bi (x - y) (max a b + 1) := ⟨nb_sub h1.lt h2.lt⟩
instance {x : Int} {a : Nat} [h1 : Bi x a] : Bi (-x) a := ⟨nb_neg h1.lt⟩
instance {q : Rat} {a : Nat} [h : Bq q a] : Bi q.num a := ⟨h.sz.1⟩
instance {q : Rat} {a : Nat} [h : Bq q a] : Bi ((q.den : Nat) : Int) a := ⟨h.sz.d⟩
instance {x : Int} {a : Nat} [h : Bi x a] : Bq (x : Rat) (a + 1) := ⟨sz_int (nb_le h.lt)⟩
instance {p q : Rat} {a b : Nat} [h1 : Bq p a] [h2 : Bq q b] : Bq (p * q) (a + b) := ⟨sz_mul h1.sz h2.sz⟩
instance {p q : Rat} {a b : Nat} [h1 : Bq p a] [h2 : Bq q b] : Bq (p + q) (a + b + 1) := ⟨sz_add h1.sz h2.sz⟩
instance {p q : Rat} {a b : Nat} [h1 : Bq p a] [h2 : Bq q b] : Bq (p - q) (a + b + 1) := ⟨sz_sub h1.sz h2.sz⟩
theorem sz_neg {q : Rat} {n : Nat} (h : Sz q n) : Sz (-q) n := ⟨by rw [Rat.neg_num]; exact nb_neg h.1, h.2⟩
instance {q : Rat} {a : Nat} [h : Bq q a] : Bq (-q) a := ⟨sz_neg h.sz⟩
instance {q : Rat} {a : Nat} [h : Bq q a] : Bq (qabs q) a := ⟨sz_abs h.sz⟩
instance {x : Int} {a : Nat} [h : Bi x a] : Bi (if x < 0 then -x else x) a := ⟨by have := h.lt; split <;> omega⟩
/-! ### promises -/
def spD (K : Frag) (n : Nat) (f : List Dt → Out) : Sp := fun vs H Q E => ∃ ds, IsVs K H vs ds ∧ SzL n ds ∧ Aft K H (f ds) Q E
/-- the promise of an __init__: what it leaves -/
def spI (K : Frag) (c : Cn) (n : Nat) (f : List Dt → Out) : Sp := fun vs H Q E => ∃ (a dx : Addr) (args : List V) (ds : List Dt), vs = .ref a :: args ∧ H a = some (.ins (ca K c) dx []) ∧ IsVs K H args ds ∧ SzL n ds ∧ match f ds with
  | .ok d => ∃ fs, d.own = some (c, fs) ∧ ∀ H' gs, (∀ b o, b ≠ a → H b = some o → H' b = some o) → H' a = some (.ins (ca K c) dx gs) → IsFs K H' gs fs → Q .non H'
  | .err x fs => AftE K H x fs E
/-! ### a list of cells, read by digits -/
def Pail (H : Hp) (a c : Addr) (N : Nat) : Prop := ∃ (cs : List Int) (n g : Int), H a = some (.lst [.ref c, .int n, .int g]) ∧ H c = some (.lst (cs.map V.int)) ∧ 0 ≤ n ∧ n ≤ N ∧ 0 ≤ g
theorem Pail.mono {H : Hp} {a c : Addr} {N M : Nat} (h : Pail H a c N) (l : N ≤ M := by omega) : Pail H a c M := let ⟨cs, n, g, h1, h2, h3, h4, h5⟩ := h; ⟨cs, n, g, h1, h2, h3, by omega, h5⟩
theorem Pail.lst {H : Hp} {a c : Addr} {N : Nat} (h : Pail H a c N) : ∃ xs, H a = some (.lst xs) := let ⟨_, _, _, h, _⟩ := h; ⟨_, h⟩
theorem Pail.ext {H H' : Hp} {a c : Addr} {N : Nat} (h : Pail H a c N) (e : ∀ b o, (∀ ps, o ≠ .tbl ps) → H b = some o → H' b = some o) : Pail H' a c N := let ⟨cs, n, g, h1, h2, h3, h4, h5⟩ := h; ⟨cs, n, g, e _ _ (fun _ z => by cases z) h1, e _ _ (fun _ z => by cases z) h2, h3, h4, h5⟩
/-! ### the ledger -/
/-- what a body may change: nothing that stood | the new instance | the pail and tables -/
inductive Md where
  | fn
  | ini (a C dx : Addr) (gs : List (Str × V))
  | law (T : List (Addr × Str)) (p : Option (Addr × Addr × Nat))
def Md.rel : Md → Hp → Hp → Prop
  | .fn => Same
  | .ini a _ _ _ => fun H H' => ∀ b o, b ≠ a → H b = some o → H' b = some o
  | .law _ p => fun H H' => ∀ b o, (∀ q, p = some q → b ≠ q.1) → (∀ ps, o ≠ .tbl ps) → H b = some o → H' b = some o
def Md.at_ : Md → Hp → Prop
  | .fn => fun _ => True
  | .ini a C dx gs => fun H => H a = some (.ins C dx gs)
  | .law T p => fun H => LamX.Tabs T H ∧ ∀ q, p = some q → Pail H q.1 q.2.1 q.2.2
structure Env (K : Frag) (m : Md) (H0 H : Hp) (L : List (V × Dt)) : Prop where
  gr : m.rel H0 H
  at_ : m.at_ H
  all : ∀ e ∈ L, IsV K H e.1 e.2
section
variable {K : Frag} {m : Md} {H0 H H' : Hp} {L : List (V × Dt)} {v : V} {d : Dt} {Q : VK} {P : V → Prop} {E : XK}
theorem Env.get (h : Env K m H0 H L) (i : (v, d) ∈ L) : IsV K H v d := h.all _ i
theorem Md.step (s : Same H H') (r : m.rel H0 H) : m.rel H0 H' := by
  cases m with
  | fn => exact r.trans s
  | ini a C dx gs => exact fun b o n e => s _ _ (r b o n e)
  | law T p => exact fun b o n t e => s _ _ (r b o n t e)
theorem Md.stay (s : Same H H') (r : m.at_ H) : m.at_ H' := by
  cases m with
  | fn => exact trivial
  | ini a C dx gs => exact s _ _ r
  | law T p => exact ⟨r.1.ext s, fun q e => (r.2 q e).ext fun b o _ e => s b o e⟩
theorem Env.step (h : Env K m H0 H L) (s : Same H H') : Env K m H0 H' L := ⟨Md.step s h.gr, Md.stay s h.at_, fun e i => (h.all e i).same s⟩
theorem Env.add (h : Env K m H0 H L) (i : IsV K H v d) : Env K m H0 H ((v, d) :: L) := ⟨h.gr, h.at_, fun e j => by
  rcases List.mem_cons.mp j with rfl | j
  · exact i
  · exact h.all e j⟩
theorem Env.of (H : Hp) : Env K .fn H H [] := ⟨fun _ _ h => h, trivial, fun _ i => by cases i⟩
theorem Env.ofI {a C dx : Addr} {gs : List (Str × V)} (h : H a = some (.ins C dx gs)) : Env K (.ini a C dx gs) H H [] := ⟨fun _ _ _ h => h, h, fun _ i => by cases i⟩
/-- no class has just these attributes -/
def noCls (l : List Str) : Bool := Cn.all.all fun c => decide (c.flds ≠ l)
theorem IsFs.names {gs : List (Str × V)} {fs : List (Str × Dt)} : IsFs K H gs fs → gs.map (·.1) = fs.map (·.1) := by
  intro i
  induction gs generalizing fs with
  | nil => cases i; rfl
  | cons g gs ih =>
    cases i with
    | cons a b => rw [List.map_cons, List.map_cons, ih b]
mutual
theorem IsV.ini {a C dx : Addr} {gs : List (Str × V)} (ha : H a = some (.ins C dx gs)) (hn : noCls (gs.map (·.1)) = true) (e : ∀ b o, b ≠ a → H b = some o → H' b = some o) : ∀ {v : V} {d : Dt}, IsV K H v d → IsV K H' v d
  | _, _, .non => .non
  | _, _, .bl b => .bl b
  | _, _, .int b => .int b
  | _, _, .str b => .str b
  | _, _, .tup h r => .tup (e _ _ (fun z => by rw [z, ha] at h; cases h) h) (IsVs.ini ha hn e r)
  | _, _, .lst h r => .lst (e _ _ (fun z => by rw [z, ha] at h; cases h) h) (IsVs.ini ha hn e r)
  | _, _, .dct h => .dct (e _ _ (fun z => by rw [z, ha] at h; cases h) h)
  | _, _, .own (c := c) o h r => .own o (e _ _ (fun z => by
      rw [z, ha] at h
      cases h
      have := List.all_eq_true.mp hn c c.mem
      rw [r.names, Dt.own_flds o] at this
      exact of_decide_eq_true this rfl) h) (IsFs.ini ha hn e r)
theorem IsVs.ini {a C dx : Addr} {gs : List (Str × V)} (ha : H a = some (.ins C dx gs)) (hn : noCls (gs.map (·.1)) = true) (e : ∀ b o, b ≠ a → H b = some o → H' b = some o) : ∀ {v : List V} {d : List Dt}, IsVs K H v d → IsVs K H' v d
  | _, _, .nil => .nil
  | _, _, .cons a b => .cons (IsV.ini ha hn e a) (IsVs.ini ha hn e b)
theorem IsFs.ini {a C dx : Addr} {gs : List (Str × V)} (ha : H a = some (.ins C dx gs)) (hn : noCls (gs.map (·.1)) = true) (e : ∀ b o, b ≠ a → H b = some o → H' b = some o) : ∀ {v : List (Str × V)} {d : List (Str × Dt)}, IsFs K H v d → IsFs K H' v d
  | _, _, .nil => .nil
  | _, _, .cons a b => .cons (IsV.ini ha hn e a) (IsFs.ini ha hn e b)
end
theorem Env.set {a C dx : Addr} {gs gs' : List (Str × V)} (h : Env K (.ini a C dx gs) H0 H L) (hn : noCls (gs.map (·.1)) = true) : Env K (.ini a C dx gs') H0 (upd H a (.ins C dx gs')) L :=
  ⟨fun b o n e => by rw [upd_ne n]; exact h.gr b o n e, upd_same, fun e i => IsV.ini h.at_ hn (fun b o n e => by rw [upd_ne n]; exact e) (h.all e i)⟩
theorem afInt {i : Int} (h : Env K m H0 H L) (k : ∀ H', Env K m H0 H' L → Q (.int i) H') : AftD K H (.int i) Q := .mk fun v H' s j => by cases j with
  | int => exact k H' (h.step s)
  | own o _ _ => cases o
theorem afBl {i : Bool} (h : Env K m H0 H L) (k : ∀ H', Env K m H0 H' L → Q (.bl i) H') : AftD K H (.bl i) Q := .mk fun v H' s j => by cases j with
  | bl => exact k H' (h.step s)
  | own o _ _ => cases o
theorem afStr {i : Str} (h : Env K m H0 H L) (k : ∀ H', Env K m H0 H' L → Q (.str i) H') : AftD K H (.str i) Q := .mk fun v H' s j => by cases j with
  | str => exact k H' (h.step s)
  | own o _ _ => cases o
theorem afNon (h : Env K m H0 H L) (k : ∀ H', Env K m H0 H' L → Q .non H') : AftD K H .non Q := .mk fun v H' s j => by cases j with
  | non => exact k H' (h.step s)
  | own o _ _ => cases o
theorem afRef (h : Env K m H0 H L) (k : ∀ v H', Env K m H0 H' ((v, d) :: L) → Q v H') : AftD K H d Q := .mk fun v H' s j => k v H' ((h.step s).add j)
theorem asInt {i : Int} (k : P (.int i)) : AftS K H (.int i) P := .mk fun v j => by cases j with
  | int => exact k
  | own o _ _ => cases o
theorem asBl {i : Bool} (k : P (.bl i)) : AftS K H (.bl i) P := .mk fun v j => by cases j with
  | bl => exact k
  | own o _ _ => cases o
theorem asStr {i : Str} (k : P (.str i)) : AftS K H (.str i) P := .mk fun v j => by cases j with
  | str => exact k
  | own o _ _ => cases o
theorem asNon (k : P .non) : AftS K H .non P := .mk fun v j => by cases j with
  | non => exact k
  | own o _ _ => cases o
theorem asRef (h : Env K m H0 H L) (k : ∀ v, Env K m H0 H ((v, d) :: L) → P v) : AftS K H d P := .mk fun v j => k v (h.add j)
end
theorem nbT {b : Bool} (h : b = false) : (!b) = true := by rw [h]; rfl
theorem nbF {b : Bool} (h : b = true) : (!b) = false := by rw [h]; rfl
theorem SzD.mono {n m : Nat} {d : Dt} (h : SzD n d) (l : n ≤ m) : SzD m d := by
  cases d <;> (first | exact trivial | exact Li.mono h l | exact Lq.mono h l | exact ⟨Li.mono h.1 l, Li.mono h.2 l⟩ | exact ⟨Lq.mono h.1 l, Lq.mono h.2 l⟩ | exact ⟨⟨Li.mono h.1.1 l, Li.mono h.1.2 l⟩, Li.mono h.2.1 l, Li.mono h.2.2 l⟩ | exact ⟨Lq.mono h.1 l, Lq.mono h.2.1 l, Lq.mono h.2.2 l⟩)
end Sp
end
section
set_option Elab.async false
set_option linter.all false
namespace Sp
open PySem PySem.Spec PyProof.Rows L2
def topS (i : Nat) : Stmt := PySem.Challenge.pw_spiralsays_k42_roads_that_part.main.body.getD i (.Pass ⟨0, 0, 0, 0⟩)
abbrev csL : List Cn := [.Ratio, .Step, .Net, .Road]
abbrev tsL : List Ty0 := [.int, .bool, .none, .str, .tuple, .list, .own .Ratio, .own .Step, .own .Net, .own .Road]
end Sp
end
section
set_option Elab.async false
set_option linter.all false
set_option maxRecDepth 100000
set_option maxHeartbeats 0
namespace Sp
open PySem PySem.Spec PyProof.Rows L2
open PySem.W (Frag)
def oexB (K : Frag) (C : Addr) : Bool := (match K.lookup C with
  | some ⟨.type "type", _, .cls cd, sl⟩ => (match cd.mro, sl.toList with
    | .ref C' :: bm, [_, _, _, _, some (.builtin n), _] => C' == C && (n == "ValueError.__new__" && (!cd.hasDel && (cd.hasDict && PySem.HandSPX.refsVE bm)))
    | _, _ => false)
  | _ => false) && (decide (PySem.W.findIn K (.ref C) "__setattr__" = some (some (.builtin "object.__setattr__"))) && (decide (PySem.W.subIn K (.ref C) (.type "BaseException") = some true) && (decide (PySem.W.typeIn K (.ref C) = some (.type "type")) && PySem.W.keepIn K (.ref C))))
def cfB (K : Frag) (x : Str) (fl : List Str) : Bool := (He.Fa.cls x).ok K && (decide (PySem.W.findIn K (.ref (He.ga K x)) "__class__" = some (some (.builtin "object.__class__"))) && (decide (PySem.W.specialIn K (.builtin "object.__class__") "__get__" = some (some (.builtin "getset_descriptor.__get__"))) &&
  (decide (PySem.W.takesIn K (.builtin "object.__class__") = some true) && (decide (PySem.W.mroIn K (He.ga K x) (.type "object") = some true) && ((He.Fa.glo x).ok K && (fl.all fun f => (He.Fa.noat x f).ok K))))))
def csB (K : Frag) (cs : List Cn) : Bool := cs.all fun c => cfB K c.str c.flds
def kitB (K : Frag) (ts : List Ty0) : Bool := ts.all fun t => ts.all fun u => decide (PySem.W.kitOne K (tv K t) (tv K u) = some (sub0 t u))
def opB (K : Frag) (C : Addr) (m r : Str) : Bool := PySem.W.selfFirst K C && (decide (PySem.W.findIn K (.ref C) m = some (some (.ref (He.ma K C m)))) && (PySem.W.isFn K (.ref (He.ma K C m)) && (decide (PySem.W.findIn K (.ref C) r = some none) &&
  ((PySem.W.findIn K (.type "int") m).isSome && ((PySem.W.findIn K (.type "int") r).isSome && decide (PySem.W.subIn K (.type "int") (.ref C) = some false))))))
def nmB (K : Frag) (C : Addr) (m : Str) : Bool := decide (PySem.W.findIn K (.ref C) m = some (some (.ref (He.ma K C m)))) && PySem.W.isFn K (.ref (He.ma K C m))
def metB (K : Frag) (C : Addr) (m : Str) : Bool := nmB K C m && PySem.W.keepIn K (.ref (He.ma K C m))
def propB (K : Frag) (C : Addr) (m : Str) : Bool := decide (PySem.W.findIn K (.ref C) m = some (some (.ref (He.ma K C m)))) && (decide (PySem.W.specialIn K (.ref (He.ma K C m)) "__get__" = some (some (.builtin "property.__get__"))) && (decide (PySem.W.takesIn K (.ref (He.ma K C m)) = some true) && (match PySem.W.recIn K (He.ma K C m) "property" with
  | some (.ref _ :: _) => true
  | _ => false)))
def smB (K : Frag) (C : Addr) (m : Str) : Bool := PySem.W.readsIn K C (.type "type") && (decide (PySem.W.specialIn K (.ref C) "__getattribute__" = some (some (.builtin "type.__getattribute__"))) && (He5.wrapB K C "staticmethod" "staticmethod.__get__" m && PySem.W.keepIn K (.ref (He5.wf K C "staticmethod" m))))
def cmB (K : Frag) (C : Addr) (m : Str) : Bool := PySem.W.readsIn K C (.type "type") && (decide (PySem.W.specialIn K (.ref C) "__getattribute__" = some (some (.builtin "type.__getattribute__"))) && (He5.wrapB K C "classmethod" "classmethod.__get__" m && PySem.W.fnIn K (He5.wf K C "classmethod" m)))
def xnB (K : Frag) (x : Str) (fl : List Str) : Bool := oexB K (He.ga K x) && ((He.Fa.glo x).ok K && (decide (PySem.W.findIn K (.ref (He.ga K x)) "__init__" = some (some (.ref (He.ma K (He.ga K x) "__init__")))) && (decide (PySem.W.typeIn K (.ref (He.ma K (He.ga K x) "__init__")) = some (.type "function")) && (fl.all fun f => (He.Fa.noat x f).ok K))))
def nfB (K : Frag) (C : Addr) (ts : List Ty0) : Bool := ts.all fun t => PySem.W.notFirst K C (tv K t)
def tyS : Ty0 → Option String
  | .int => some "int" | .bool => some "bool" | .none => some "NoneType" | .str => some "str" | .tuple => some "tuple" | .list => some "list" | .dict => some "dict" | .own _ => none
def ritB (K : Frag) (C : Addr) (op : Operator) (ts : List Ty0) : Bool := ts.all fun t => match tyS t with
  | some T => (PySem.W.findIn K (.type T) (PySem.dunder op.info.2)).isSome && ((PySem.W.findIn K (.type T) (dunderR op.info.2)).isSome && decide (PySem.W.subIn K (.type T) (.ref C) = some false))
  | none => false
def rioB (K : Frag) (C D : Addr) (op : Operator) : Bool := decide (C ≠ D) && (PySem.W.selfFirst K D && (decide (PySem.W.findIn K (.ref D) (PySem.dunder op.info.2) = some (some (.ref (He.ma K D (PySem.dunder op.info.2))))) && (decide (PySem.W.findIn K (.ref D) (dunderR op.info.2) = some none) && decide (PySem.W.subIn K (.ref D) (.ref C) = some false))))
/-- a value of the written part that is known -/
def relB : V → Value → Bool
  | .str s, .str x _ => decide (s = x)
  | .int i, .int j _ => decide (i = j)
  | _, _ => false
def relsB : List V → List Value → Bool
  | [], [] => true
  | v :: vs, u :: us => relB v u && relsB vs us
  | _, _ => false
/-- a tuple of the written part -/
def wtB (K : Frag) (a : Addr) (ws : List V) : Bool := match K.lookup a with
  | some ⟨.type c, _, .seq its _, _⟩ => decide (c = "tuple") && (decide (its.size ≤ sizeLine) && relsB ws its.toList)
  | _ => false
end Sp
end
section
set_option Elab.async false
set_option linter.all false
set_option maxRecDepth 100000
set_option maxHeartbeats 0
namespace Sp
open PySem PySem.Spec PyProof.Rows L2
open PySem.W (Frag)
def tfL : List He.Defn := [("law", none)]
/-- the tables are apart -/
def apB (K : Frag) : Bool := tfL.all fun d => tfL.all fun e => decide ((He.cT K d).2 = (He.cT K e).2 → d = e)
def errsK : List Str := ["BadRoad"]
def errFK : List (Str × Str) := [("BadRoad", "part")]
def geB (K : Frag) : Bool := errsK.all fun x => errsK.all fun y => decide (PySem.W.exmOne K (.ref (cX K x)) (.ref (cX K y)) = some (decide (x = y)))
def gfB (K : Frag) : Bool := errsK.all fun x => xfB K (cX K x)
def gnB (K : Frag) : Bool := errFK.all fun e => decide (PySem.W.findIn K (.ref (cX K e.1)) e.2 = some none)
def ggB (K : Frag) : Bool := errsK.all fun x => (He.Fa.glo x).ok K
def exL : List (Frag → Bool) := [
  fun K => (He.Fa.free "isinstance").ok K,
  fun K => (He.Fa.free "int").ok K,
  fun K => (He.Fa.free "bool").ok K,
  fun K => (He.Fa.free "str").ok K,
  fun K => (He.Fa.free "abs").ok K,
  fun K => (He.Fa.free "len").ok K,
  fun K => (He.Fa.free "range").ok K,
  fun K => (He.Fa.free "enumerate").ok K,
  fun K => (He.Fa.free "list").ok K,
  fun K => (He.Fa.free "tuple").ok K,
  fun K => (He.Fa.free "all").ok K,
  fun K => decide (PySem.W.nsIn K mainGlobals "gcd" = some (some (.builtin "math.gcd"))),
  fun K => csB K csL,
  fun K => kitB K tsL,
  fun K => apB K,
  fun K => xnB K "BadRatio" ["part"],
  fun K => xnB K "BadStep" ["part"],
  fun K => xnB K "BadNet" ["part"],
  fun K => xnB K "BadRoad" ["part"],
  fun K => xnB K "BadNumber" ["part"],
  fun K => xnB K "Round" ["part"],
  fun K => xnB K "NotNeighbours" ["one", "other"],
  fun K => xnB K "Unlike" ["what"],
  fun K => xnB K "TooMany" ["what", "most"],
  fun K => (He.Fa.free "zip").ok K,
  fun K => (He.Fa.free "sum").ok K,
  fun K => (He.Fa.free "min").ok K,
  fun K => geB K,
  fun K => gfB K,
  fun K => gnB K,
  fun K => ggB K,
  fun K => (He.Fa.int "MOST_RUNS" 60).ok K,
  fun K => wtB K (He.ga K "KINDS") [.str "edge", .str "first", .str "open", .str "ended"],
  fun K => wtB K (He.ga K "WITHOUT_RUNS") [.str "edge", .str "first"],
  fun K => propB K (He.ga K "Ratio") "below",
  fun K => propB K (He.ga K "Ratio") "is_whole",
  fun K => nmB K (He.ga K "Road") "__eq__",
  fun K => decide (PySem.W.findIn K (.ref (He.ga K "Road")) "__ne__" = some (some (.builtin "object.__ne__"))),
  fun K => nfB K (ca K .Road) tsL,
  fun K => (He.Fa.mkr "Ratio").ok K,
  fun K => (He.Fa.mkr "Step").ok K,
  fun K => (He.Fa.mkr "Road").ok K,
  fun K => smB K (He.ga K "Ratio") "of",
  fun K => opB K (He.ga K "Step") "__mul__" "__rmul__",
  fun K => propB K (He.ga K "Step") "corner",
  fun K => smB K (He.ga K "Step") "one_round",
  fun K => opB K (He.ga K "Step") "__add__" "__radd__",
  fun K => metB K (He.ga K "Ratio") "compared",
  fun K => (He.Fa.mkr "Net").ok K,
  fun K => metB K (He.ga K "Ratio") "is_below",
  fun K => smB K (He.ga K "Net") "first"]
end Sp
end
section
set_option Elab.async false
set_option linter.all false
set_option maxRecDepth 100000
set_option maxHeartbeats 0
namespace Sp
open PySem PySem.Spec PyProof.Rows L2
open PySem.W (Frag)
def fnL : List He5.DefA := [
  ⟨fun K => He.ma K (He.ga K "BadRatio") "__init__", "__init__", "BadRatio.__init__", defArgs (inClass (topS 4) 0), defBody (inClass (topS 4) 0), defScope (inClass (topS 4) 0), [], []⟩,
  ⟨fun K => He.ma K (He.ga K "BadStep") "__init__", "__init__", "BadStep.__init__", defArgs (inClass (topS 5) 0), defBody (inClass (topS 5) 0), defScope (inClass (topS 5) 0), [], []⟩,
  ⟨fun K => He.ma K (He.ga K "BadNet") "__init__", "__init__", "BadNet.__init__", defArgs (inClass (topS 6) 0), defBody (inClass (topS 6) 0), defScope (inClass (topS 6) 0), [], []⟩,
  ⟨fun K => He.ma K (He.ga K "BadRoad") "__init__", "__init__", "BadRoad.__init__", defArgs (inClass (topS 7) 0), defBody (inClass (topS 7) 0), defScope (inClass (topS 7) 0), [], []⟩,
  ⟨fun K => He.ma K (He.ga K "BadNumber") "__init__", "__init__", "BadNumber.__init__", defArgs (inClass (topS 8) 0), defBody (inClass (topS 8) 0), defScope (inClass (topS 8) 0), [], []⟩,
  ⟨fun K => He.ma K (He.ga K "Round") "__init__", "__init__", "Round.__init__", defArgs (inClass (topS 9) 0), defBody (inClass (topS 9) 0), defScope (inClass (topS 9) 0), [], []⟩,
  ⟨fun K => He.ma K (He.ga K "NotNeighbours") "__init__", "__init__", "NotNeighbours.__init__", defArgs (inClass (topS 10) 0), defBody (inClass (topS 10) 0), defScope (inClass (topS 10) 0), [], []⟩,
  ⟨fun K => He.ma K (He.ga K "Unlike") "__init__", "__init__", "Unlike.__init__", defArgs (inClass (topS 11) 0), defBody (inClass (topS 11) 0), defScope (inClass (topS 11) 0), [], []⟩,
  ⟨fun K => He.ma K (He.ga K "TooMany") "__init__", "__init__", "TooMany.__init__", defArgs (inClass (topS 12) 0), defBody (inClass (topS 12) 0), defScope (inClass (topS 12) 0), [], []⟩,
  ⟨fun K => He.ga K "_law_heard", "_law_heard", "_law_heard", defArgs (topS 81), defBody (topS 81), defScope (topS 81), [], []⟩,
  ⟨fun K => He.ga K "is_integer", "is_integer", "is_integer", defArgs (topS 16), defBody (topS 16), defScope (topS 16), [], []⟩,
  ⟨fun K => He.ga K "sign_of", "sign_of", "sign_of", defArgs (topS 27), defBody (topS 27), defScope (topS 27), [], []⟩,
  ⟨fun K => He5.wf K (He.ga K "Ratio") "property" "below", "below", "Ratio.below", defArgs (inClass (topS 26) 3), defBody (inClass (topS 26) 3), defScope (inClass (topS 26) 3), [], []⟩,
  ⟨fun K => He.ga K "is_upward", "is_upward", "is_upward", defArgs (topS 36), defBody (topS 36), defScope (topS 36), [], []⟩,
  ⟨fun K => He5.wf K (He.ga K "Ratio") "property" "is_whole", "is_whole", "Ratio.is_whole", defArgs (inClass (topS 26) 2), defBody (inClass (topS 26) 2), defScope (inClass (topS 26) 2), [], []⟩,
  ⟨fun K => He.ga K "is_list", "is_list", "is_list", defArgs (topS 17), defBody (topS 17), defScope (topS 17), [], []⟩,
  ⟨fun K => He.ma K (He.ga K "Road") "__eq__", "__eq__", "Road.__eq__", defArgs (inClass (topS 55) 1), defBody (inClass (topS 55) 1), defScope (inClass (topS 55) 1), [], []⟩,
  ⟨fun K => He.ga K "begin_alike", "begin_alike", "begin_alike", defArgs (topS 49), defBody (topS 49), defScope (topS 49), [], []⟩,
  ⟨fun K => He.ga K "_law_pail", "_law_pail", "_law_pail", defArgs (topS 66), defBody (topS 66), defScope (topS 66), [], []⟩,
  ⟨fun K => He.ga K "_law_dip", "_law_dip", "_law_dip", defArgs (topS 67), defBody (topS 67), defScope (topS 67), [], []⟩,
  ⟨fun K => He.ga K "_law_less", "_law_less", "_law_less", defArgs (topS 70), defBody (topS 70), defScope (topS 70), [], []⟩,
  ⟨fun K => He.ga K "_law_ends", "_law_ends", "_law_ends", defArgs (topS 69), defBody (topS 69), defScope (topS 69), [], []⟩,
  ⟨fun K => He.ga K "_law_told", "_law_told", "_law_told", defArgs (topS 78), defBody (topS 78), defScope (topS 78), [], []⟩,
  ⟨fun K => He.ga K "is_ratio", "is_ratio", "is_ratio", defArgs (topS 28), defBody (topS 28), defScope (topS 28), [], []⟩,
  ⟨fun K => He.ga K "are_runs", "are_runs", "are_runs", defArgs (topS 56), defBody (topS 56), defScope (topS 56), [], []⟩,
  ⟨fun K => He.ga K "is_begin", "is_begin", "is_begin", defArgs (topS 50), defBody (topS 50), defScope (topS 50), [], []⟩,
  ⟨fun K => He.ga K "_law_middle", "_law_middle", "_law_middle", defArgs (topS 71), defBody (topS 71), defScope (topS 71), [], []⟩,
  ⟨fun K => He.ga K "_law_runs", "_law_runs", "_law_runs", defArgs (topS 68), defBody (topS 68), defScope (topS 68), [], []⟩,
  ⟨fun K => He.ga K "_law_kin", "_law_kin", "_law_kin", defArgs (topS 77), defBody (topS 77), defScope (topS 77), [], []⟩,
  ⟨fun K => He.ma K (He.ga K "Ratio") "__init__", "__init__", "Ratio.__init__", defArgs (inClass (topS 26) 0), defBody (inClass (topS 26) 0), defScope (inClass (topS 26) 0), [.int 1], []⟩,
  ⟨fun K => He.ma K (He.ga K "Step") "__init__", "__init__", "Step.__init__", defArgs (inClass (topS 34) 0), defBody (inClass (topS 34) 0), defScope (inClass (topS 34) 0), [], []⟩,
  ⟨fun K => He.ga K "need_step", "need_step", "need_step", defArgs (topS 37), defBody (topS 37), defScope (topS 37), [], []⟩,
  ⟨fun K => He.ga K "need_studs", "need_studs", "need_studs", defArgs (topS 38), defBody (topS 38), defScope (topS 38), [], []⟩,
  ⟨fun K => He.ga K "need_integer", "need_integer", "need_integer", defArgs (topS 18), defBody (topS 18), defScope (topS 18), [], []⟩,
  ⟨fun K => He.ga K "need_road", "need_road", "need_road", defArgs (topS 58), defBody (topS 58), defScope (topS 58), [], []⟩,
  ⟨fun K => He.ma K (He.ga K "Road") "__init__", "__init__", "Road.__init__", defArgs (inClass (topS 55) 0), defBody (inClass (topS 55) 0), defScope (inClass (topS 55) 0), [], []⟩,
  ⟨fun K => He.ga K "_law_within", "_law_within", "_law_within", defArgs (topS 72), defBody (topS 72), defScope (topS 72), [], []⟩,
  ⟨fun K => He.ga K "_law_side", "_law_side", "_law_side", defArgs (topS 74), defBody (topS 74), defScope (topS 74), [], []⟩,
  ⟨fun K => He.ga K "_law_road", "_law_road", "_law_road", defArgs (topS 76), defBody (topS 76), defScope (topS 76), [], []⟩,
  ⟨fun K => He.ga K "cross", "cross", "cross", defArgs (topS 41), defBody (topS 41), defScope (topS 41), [], []⟩,
  ⟨fun K => He.ga K "is_ahead", "is_ahead", "is_ahead", defArgs (topS 62), defBody (topS 62), defScope (topS 62), [], []⟩,
  ⟨fun K => He.ga K "_law_ahead", "_law_ahead", "_law_ahead", defArgs (topS 73), defBody (topS 73), defScope (topS 73), [], []⟩,
  ⟨fun K => He5.wf K (He.ga K "Ratio") "staticmethod" "of", "of", "Ratio.of", defArgs (inClass (topS 26) 17), defBody (inClass (topS 26) 17), defScope (inClass (topS 26) 17), [], []⟩,
  ⟨fun K => He.ga K "summed", "summed", "summed", defArgs (topS 35), defBody (topS 35), defScope (topS 35), [], []⟩,
  ⟨fun K => He.ma K (He.ga K "Step") "__mul__", "__mul__", "Step.__mul__", defArgs (inClass (topS 34) 7), defBody (inClass (topS 34) 7), defScope (inClass (topS 34) 7), [], []⟩,
  ⟨fun K => He5.wf K (He.ga K "Step") "property" "corner", "corner", "Step.corner", defArgs (inClass (topS 34) 2), defBody (inClass (topS 34) 2), defScope (inClass (topS 34) 2), [], []⟩,
  ⟨fun K => He5.wf K (He.ga K "Step") "staticmethod" "one_round", "one_round", "Step.one_round", defArgs (inClass (topS 34) 3), defBody (inClass (topS 34) 3), defScope (inClass (topS 34) 3), [], []⟩,
  ⟨fun K => He.ga K "common", "common", "common", defArgs (topS 63), defBody (topS 63), defScope (topS 63), [], []⟩,
  ⟨fun K => He.ga K "_law_last_right", "_law_last_right", "_law_last_right", defArgs (topS 75), defBody (topS 75), defScope (topS 75), [], []⟩,
  ⟨fun K => He.ga K "at_right", "at_right", "at_right", defArgs (topS 29), defBody (topS 29), defScope (topS 29), [], []⟩,
  ⟨fun K => He.ma K (He.ga K "Step") "__add__", "__add__", "Step.__add__", defArgs (inClass (topS 34) 4), defBody (inClass (topS 34) 4), defScope (inClass (topS 34) 4), [], []⟩,
  ⟨fun K => He.ga K "need_ratio", "need_ratio", "need_ratio", defArgs (topS 30), defBody (topS 30), defScope (topS 30), [], []⟩,
  ⟨fun K => He.ma K (He.ga K "Ratio") "compared", "compared", "Ratio.compared", defArgs (inClass (topS 26) 8), defBody (inClass (topS 26) 8), defScope (inClass (topS 26) 8), [], []⟩,
  ⟨fun K => He.ma K (He.ga K "Net") "__init__", "__init__", "Net.__init__", defArgs (inClass (topS 45) 0), defBody (inClass (topS 45) 0), defScope (inClass (topS 45) 0), [], []⟩,
  ⟨fun K => He.ga K "runs_of", "runs_of", "runs_of", defArgs (topS 43), defBody (topS 43), defScope (topS 43), [], []⟩,
  ⟨fun K => He.ma K (He.ga K "Ratio") "is_below", "is_below", "Ratio.is_below", defArgs (inClass (topS 26) 9), defBody (inClass (topS 26) 9), defScope (inClass (topS 26) 9), [], []⟩,
  ⟨fun K => He.ga K "road_of", "road_of", "road_of", defArgs (topS 59), defBody (topS 59), defScope (topS 59), [], []⟩,
  ⟨fun K => He5.wf K (He.ga K "Net") "staticmethod" "first", "first", "Net.first", defArgs (inClass (topS 45) 5), defBody (inClass (topS 45) 5), defScope (inClass (topS 45) 5), [], []⟩,
  ⟨fun K => He.ga K "net_of_letters", "net_of_letters", "net_of_letters", defArgs (topS 48), defBody (topS 48), defScope (topS 48), [], []⟩,
  ⟨fun K => He.ga K "net_at", "net_at", "net_at", defArgs (topS 60), defBody (topS 60), defScope (topS 60), [], []⟩,
  ⟨fun K => He.ga K "turns_of", "turns_of", "turns_of", defArgs (topS 61), defBody (topS 61), defScope (topS 61), [], []⟩,
  ⟨fun K => He.ga K "_law_pair_right", "_law_pair_right", "_law_pair_right", defArgs (topS 79), defBody (topS 79), defScope (topS 79), [], []⟩,
  ⟨fun K => He.ga K "_law_parts_right", "_law_parts_right", "_law_parts_right", defArgs (topS 80), defBody (topS 80), defScope (topS 80), [], []⟩,
  ⟨fun K => He.ga K "law", "law", "law", defArgs (topS 82), defBody (topS 82), defScope (topS 82), [], []⟩]
def glL : List Str := (["KINDS", "WITHOUT_RUNS", "_law_heard", "is_integer", "sign_of", "is_upward", "is_list", "begin_alike", "_law_pail", "_law_dip", "_law_less", "_law_ends"] : List Str) ++ (["_law_told", "is_ratio", "are_runs", "is_begin", "_law_middle", "_law_runs", "_law_kin", "need_step", "need_studs", "need_integer", "need_road", "_law_within"] : List Str) ++ (["_law_side", "_law_road", "cross", "is_ahead", "_law_ahead", "summed", "common", "_law_last_right", "at_right", "need_ratio", "runs_of", "road_of"] : List Str) ++ (["net_of_letters", "net_at", "turns_of", "_law_pair_right", "_law_parts_right", "law"] : List Str)
/-- the addresses that stand behind the names, in the heap that the top leaves -/
def asL : List Addr := ([3, 6, 4, 49, 59, 79, 98, 117, 136, 155, 174, 193, 212, 231, 250, 259, 266, 273, 278, 351, 362, 369, 515, 526, 533, 540, 547, 554, 561, 656, 667, 674, 681, 688, 695, 702, 709, 799, 810, 817] : List Addr) ++ ([824, 831, 832, 833, 874, 883, 888, 895, 902, 909, 916, 923, 930, 937, 942, 949, 956, 963, 970, 977, 984, 991, 998, 1005, 1012, 1019, 1026, 1033, 1040, 1047, 1054, 0, 48, 58, 78, 97, 116, 135, 154, 173] : List Addr) ++ ([192, 211, 230, 249, 258, 265, 272, 277, 350, 361, 368, 514, 525, 532, 539, 546, 553, 560, 655, 666, 673, 680, 687, 694, 701, 708, 798, 809, 816, 823, 830, 873, 882, 887, 894, 901, 908, 915, 922, 929] : List Addr) ++ ([936, 941, 948, 955, 962, 969, 976, 983, 990, 997, 1004, 1011, 1018, 1025, 1032, 1039, 1046, 1053, 43, 44, 45, 46, 47, 57, 60, 76, 77, 95, 96, 114, 115, 133, 134, 152, 153, 171, 172, 190, 191, 209] : List Addr) ++ ([210, 228, 229, 247, 248, 253, 254, 255, 256, 257, 260, 261, 262, 263, 264, 267, 268, 269, 270, 271, 274, 275, 276, 292, 299, 306, 313, 320, 327, 334, 341, 348, 349, 352, 353, 356, 357, 358, 359, 360] : List Addr) ++ ([363, 364, 365, 366, 367, 384, 392, 400, 408, 415, 422, 429, 436, 443, 450, 457, 464, 471, 478, 485, 492, 501, 511, 513, 516, 517, 520, 521, 522, 523, 524, 527, 528, 529, 530, 531, 534, 535, 536, 537] : List Addr) ++ ([538, 541, 542, 543, 544, 545, 548, 549, 550, 551, 552, 555, 556, 557, 558, 559, 575, 583, 591, 600, 608, 615, 622, 629, 636, 643, 652, 654, 657, 658, 661, 662, 663, 664, 665, 668, 669, 670, 671, 672] : List Addr) ++ ([675, 676, 677, 678, 679, 682, 683, 684, 685, 686, 689, 690, 691, 692, 693, 696, 697, 698, 699, 700, 703, 704, 705, 706, 707, 723, 731, 739, 747, 755, 764, 772, 779, 786, 795, 797, 800, 801, 804, 805] : List Addr) ++ ([806, 807, 808, 811, 812, 813, 814, 815, 818, 819, 820, 821, 822, 825, 826, 827, 828, 829, 847, 854, 861, 870, 872, 875, 876, 879, 880, 881, 884, 885, 886, 889, 890, 891, 892, 893, 896, 897, 898, 899] : List Addr) ++ ([900, 903, 904, 905, 906, 907, 910, 911, 912, 913, 914, 917, 918, 919, 920, 921, 924, 925, 926, 927, 928, 931, 932, 933, 934, 935, 938, 939, 940, 943, 944, 945, 946, 947, 950, 951, 952, 953, 954, 957] : List Addr) ++ ([958, 959, 960, 961, 964, 965, 966, 967, 968, 971, 972, 973, 974, 975, 978, 979, 980, 981, 982, 985, 986, 987, 988, 989, 992, 993, 994, 995, 996, 999, 1000, 1001, 1002, 1003, 1006, 1007, 1008, 1009, 1010, 1013] : List Addr) ++ ([1014, 1015, 1016, 1017, 1020, 1021, 1022, 1023, 1024, 1027, 1028, 1029, 1030, 1031, 1034, 1035, 1036, 1037, 1038, 1041, 1042, 1043, 1044, 1045, 1048, 1049, 1050, 1051, 1052, 75, 94, 113, 132, 151, 170, 189, 208, 227, 246, 291] : List Addr) ++ ([298, 305, 312, 319, 326, 333, 340, 347, 383, 377, 391, 399, 407, 414, 421, 428, 435, 442, 449, 456, 463, 470, 477, 484, 491, 499, 500, 509, 510, 574, 582, 590, 598, 599, 607, 614, 621, 628, 635, 642] : List Addr) ++ ([650, 651, 722, 730, 738, 746, 754, 762, 763, 771, 778, 785, 793, 794, 846, 853, 860, 868, 869, 70, 71, 72, 73, 74, 89, 90, 91, 92, 93, 108, 109, 110, 111, 112, 127, 128, 129, 130, 131, 146] : List Addr) ++ ([147, 148, 149, 150, 165, 166, 167, 168, 169, 184, 185, 186, 187, 188, 203, 204, 205, 206, 207, 222, 223, 224, 225, 226, 241, 242, 243, 244, 245, 286, 287, 288, 289, 290, 293, 294, 295, 296, 297, 300] : List Addr) ++ ([301, 302, 303, 304, 307, 308, 309, 310, 311, 314, 315, 316, 317, 318, 321, 322, 323, 324, 325, 328, 329, 330, 331, 332, 335, 336, 337, 338, 339, 342, 343, 344, 345, 346, 378, 379, 380, 381, 382, 390] : List Addr) ++ ([398, 406, 409, 410, 411, 412, 413, 416, 417, 418, 419, 420, 423, 424, 425, 426, 427, 430, 431, 432, 433, 434, 437, 438, 439, 440, 441, 444, 445, 446, 447, 448, 451, 452, 453, 454, 455, 458, 459, 460] : List Addr) ++ ([461, 462, 465, 466, 467, 468, 469, 472, 473, 474, 475, 476, 479, 480, 481, 482, 483, 486, 487, 488, 489, 490, 498, 502, 508, 512, 569, 570, 571, 572, 573, 581, 589, 597, 601, 602, 603, 604, 605, 606] : List Addr) ++ ([609, 610, 611, 612, 613, 616, 617, 618, 619, 620, 623, 624, 625, 626, 627, 630, 631, 632, 633, 634, 637, 638, 639, 640, 641, 649, 653, 717, 718, 719, 720, 721, 729, 737, 745, 753, 761, 765, 766, 767] : List Addr) ++ ([768, 769, 770, 773, 774, 775, 776, 777, 780, 781, 782, 783, 784, 792, 796, 841, 842, 843, 844, 845, 848, 849, 850, 851, 852, 855, 856, 857, 858, 859, 867, 871, 2] : List Addr)
def kB (g : Addr → Option Obj) (_ : Nat) : Frag := He.frT g asL
def bB (g : Addr → Option Obj) (K : Frag) : Bool := (exL.all fun f => f K) && ((glL.all fun x => (He.Fa.glo x).ok K) && ((fnL.all fun d => d.ok K) && He.tabsB g tfL K))
def obsB (n : Nat) (g : Addr → Option Obj) : He.AlD := (bB g (kB g n), fnL.map fun d => He5.fnA (kB g n) (d.at_ (kB g n)))
def valB : He.AlD := (true, fnL.map He5.DefA.val)
structure SaysB (h : Heap) (K : Frag) : Prop where
  ex : ∀ f ∈ exL, f K = true
  gl : ∀ x ∈ glL, (He.Fa.glo x).ok K = true
  fn : ∀ d ∈ fnL, d.ok K = true ∧ He5.fnA K (d.at_ K) = d.val
  hd : ∀ p ∈ tfL, PySem.W.codeHdIn K (He.cT K p).1 (He.cT K p).2 = true
  out : ∀ p ∈ tfL, K.lookup (He.cT K p).2 = none
  empty : ∀ p ∈ tfL, h.get? (He.cT K p).2 = some { cls := .none, data := .fields #[] }
theorem map_eq {α β : Type} {f g : α → β} : ∀ {l : List α}, l.map f = l.map g → ∀ x ∈ l, f x = g x
  | [], _, x, h => by cases h
  | y :: l, e, x, h => by
    rw [List.map_cons, List.map_cons] at e
    injection e with e1 e2
    rcases List.mem_cons.mp h with rfl | h
    · exact e1
    · exact map_eq e2 x h
theorem saysB_of {n : Nat} {h : Heap} (e : obsB n h.get? = valB) : SaysB h (kB h.get? n) := by
  have e1 : bB h.get? (kB h.get? n) = true := congrArg (fun z : He.AlD => z.1) e
  have e2 : fnL.map (fun d => He5.fnA (kB h.get? n) (d.at_ (kB h.get? n))) = fnL.map He5.DefA.val := congrArg (fun z : He.AlD => z.2) e
  obtain ⟨h1, e1⟩ := He.ba e1
  obtain ⟨h2, e1⟩ := He.ba e1
  obtain ⟨h3, h4⟩ := He.ba e1
  have key : ∀ p ∈ tfL, PySem.W.codeHdIn (kB h.get? n) (He.cT (kB h.get? n) p).1 (He.cT (kB h.get? n) p).2 = true ∧ ∃ o, h.get? (He.cT (kB h.get? n) p).2 = some o ∧ He.emptyTab o = true := fun p hp => by
    obtain ⟨h5, h6⟩ := He.ba (List.all_eq_true.mp h4 p hp)
    refine ⟨h5, ?_⟩
    cases q : h.get? (He.cT (kB h.get? n) p).2 with
    | none =>
      rw [q] at h6
      cases h6
    | some o =>
      rw [q] at h6
      exact ⟨o, rfl, h6⟩
  exact ⟨fun f hf => List.all_eq_true.mp h1 f hf, fun x hx => List.all_eq_true.mp h2 x hx, fun d hd => ⟨List.all_eq_true.mp h3 d hd, map_eq e2 d hd⟩, fun p hp => (key p hp).1, fun p hp => by
    obtain ⟨_, o, q, z⟩ := key p hp
    exact He.frT_none q z, fun p hp => by
    obtain ⟨_, o, q, z⟩ := key p hp
    rw [q, He.emptyTab_eq z]⟩
def hookB (n : Nat) : PySem.W.Hook where
  α := He.AlD
  obs := fun s => obsB n s.heap.get?
  val := fun _ => valB
  says := fun _ h => ∃ K : Frag, K.In h ∧ SaysB h K
  of := fun _ _ e => ⟨_, He.frT_in, saysB_of e⟩
  keeps := fun _ _ _ ⟨K, hK, c⟩ k => ⟨K, PySem.W.Frag.In.keeps hK k, ⟨c.ex, c.gl, c.fn, c.hd, c.out, fun p hp => k _ _ (c.empty p hp)⟩⟩
theorem obsB_eq {n : Nat} {g : Addr → Option Obj} {s : Shared} (h : ∀ a, g a = s.heap.get? a) : obsB n g = (hookB n).obs s := by
  have e : g = s.heap.get? := funext h
  rw [e] <;> rfl
abbrev Rw : PySem.W.OpenRow := PySem.W.OpenLaw.row PySem.Challenge.rw_spiralsays_k42_roads_that_part
abbrev qv : Program := PySem.W.view Rw.prog [0, 82]
def names : List Str := (["_wall", "__name__", "SpiralError", "BadRatio", "BadStep", "BadNet", "BadRoad", "BadNumber", "Round", "NotNeighbours", "Unlike", "TooMany"] : List Str) ++ (["BadText", "DIGITS", "is_integer", "is_list", "need_integer", "MOST_DIGITS", "integer_of", "Words", "words_in", "read_whole", "Ratio", "sign_of"] : List Str) ++ (["is_ratio", "at_right", "need_ratio", "ratio_of", "take_ratio", "Step", "summed", "is_upward", "need_step", "need_studs", "take_step", "cross"] : List Str) ++ (["runs_of", "Net", "take_net", "net_of_letters", "begin_alike", "is_begin", "MOST_RUNS", "KINDS", "WITHOUT_RUNS", "Road", "are_runs", "words_of_road"] : List Str) ++ (["need_road", "road_of", "net_at", "turns_of", "is_ahead", "common", "take_road", "_law_pail", "_law_dip", "_law_runs", "_law_ends", "_law_less"] : List Str) ++ (["_law_middle", "_law_within", "_law_ahead", "_law_side", "_law_last_right", "_law_road", "_law_kin", "_law_told", "_law_pair_right", "_law_parts_right", "_law_heard"] : List Str)
abbrev hk : PySem.W.Hook := hookB 5
def ob (s : PySem.W.SharedT) : He.AlD := obsB 5 (HandSHeadRun.getT s)
theorem ob_eq (s : PySem.W.SharedT) : ob s = hk.obs s.abs := obsB_eq (HandSHeadRun.getT_eq s)
end Sp
end
section
set_option Elab.async false
set_option linter.all false
set_option maxRecDepth 100000
set_option maxHeartbeats 0
namespace Sp
open PySem PySem.Spec PyProof.Rows L2 HandSHeadRun PySem.W PySem.Calls
theorem runA1 (w : World) : (wholeF (fun p => stepQ (denQ tabQ) p w) fenceQ 30000 Rw.prog).map (fun x => looksF Rw.prog x.1.heap x.2.abs) = some true := by
  kernel_rfl
theorem runA2 (w : World) : (wholeF (fun p => stepQ (denQ tabQ) p w) fenceQ 30000 Rw.prog).map (fun x => seenQ qv names (importedModules Rw.prog.main.body) (fun s => xlAt qv [] s && recOk Rw.toRowW.records s) x.2.abs) = some (openGood qv names) := by
  kernel_rfl
theorem joinA {A B C : Type} {o : Option A} {f : A → B} {g : A → C} {b : B} {c : C} (a : o.map (fun x => f x) = some b) (e : o.map (fun x => g x) = some c) : o.map (fun x => (f x, g x)) = some (b, c) := by
  cases o with
  | none => cases a
  | some x =>
    have a1 : f x = b := Option.some.inj a
    have e1 : g x = c := Option.some.inj e
    show some (f x, g x) = some (b, c)
    rw [a1, e1]
theorem runA (w : World) : (wholeF (fun p => stepQ (denQ tabQ) p w) fenceQ 30000 Rw.prog).map (fun x => (looksF Rw.prog x.1.heap x.2.abs, seenQ qv names (importedModules Rw.prog.main.body) (fun s => xlAt qv [] s && recOk Rw.toRowW.records s) x.2.abs)) = some (true, openGood qv names) := joinA (runA1 w) (runA2 w)
theorem runB (w : World) : (wholeF (fun p => stepQ (denQ tabQ) p w) fenceQ 30000 Rw.prog).map (fun x => ob x.2) = some valB := by
  kernel_rfl
theorem joinO3 {A B C D : Type} {o : Option A} {f : A → B} {g : A → C} {h : A → D} {b : B} {c : C} {d : D} (a : o.map (fun x => (f x, g x)) = some (b, c)) (e : o.map (fun x => h x) = some d) : o.map (fun x => (f x, g x, h x)) = some (b, c, d) := by
  cases o with
  | none => cases a
  | some x =>
    have a1 : (f x, g x) = (b, c) := Option.some.inj a
    have e1 : h x = d := Option.some.inj e
    injection a1 with a2 a3
    show some (f x, g x, h x) = some (b, c, d)
    rw [a2, a3, e1]
theorem run (w : World) : RunEqI Rw qv hk ob 30000 names w := by
  delta HandSHeadRun.RunEqI
  exact joinO3 (runA w) (runB w)
end Sp
end
section
set_option Elab.async false
set_option linter.all false
set_option maxRecDepth 100000
set_option maxHeartbeats 0
namespace Sp
open PySem PySem.Spec PyProof.Rows L2
open PySem.W (Frag)
abbrev lw : PySem.W.OpenLaw := PySem.Challenge.rw_spiralsays_k42_roads_that_part
end Sp
open PySem PySem.W PySem.Calls PyProof.Rows PySem.Spec
open PySem.W (Frag)
theorem Sp.fin (LA : ∀ {w : World} {mg : Str → Option Value} {fa : Addr} {h : Heap}, (∃ K : Frag, K.In h ∧ Sp.SaysB h K) → (h.Ns mainGlobals mg) → (mg "law" = some (.ref fa)) → ∃ K : Frag, K.In h ∧ LamX.LawAtS Sp.lw w K (L2.CX Sp.lw.prog w) 19 63 "_law_script" mg fa h) : PySem.Challenge.rw_spiralsays_k42_roads_that_part.Holds := by
  w_on; o_law
  refine HandSHeadRun.head_imp (r := Sp.Rw) (q := Sp.qv) (H := Sp.hk) (ob := Sp.ob) (M := 30000) (loose := Sp.names) (d := HandSHeadRun.topDef Sp.Rw.prog 82) (kwd := []) Sp.ob_eq Sp.run (by kernel_rfl) (by kernel_rfl) (by kernel_rfl) (by rfl) (by first | assumption | decide +kernel) (by decide +kernel) ⟨rfl, rfl, rfl, rfl, rfl, by decide +kernel⟩ ?hw ?hc
  case hw => w_witness2
  case hc =>
    refine LamX.walk_ofTsE (l := Sp.lw) (n := 63) (k := 19) (x := "_law_script") (CX := fun w => L2.CX Sp.lw.prog w) rfl (by decide) (by kernel_rfl) ⟨rfl, by decide, by decide⟩ ?F (fun w H s e s' z => ?C)
    case C =>
      obtain ⟨_, _, _, _, _, _, _, _, _, _, _, _, z⟩ := z
      exact z
    case F =>
      intro w mg fa h Y G hmg0
      have hmg : mg ("law" : PySem.Str) = some (.ref fa) := by
        have e : (HandSHeadRun.topDef Sp.Rw.prog 82).name = ("law" : PySem.Str) := by kernel_rfl
        rw [← e]
        exact hmg0
      exact LA Y G hmg
end
section
set_option Elab.async false
set_option linter.all false
set_option exponentiation.threshold 5000
set_option maxRecDepth 100000
set_option maxHeartbeats 4000000
namespace Sp
open PySem PySem.Spec PyProof.Rows L2
open PySem.W (Frag)
theorem lk_mem {α : Type} {f : Str} {y : α} : ∀ {fs : List (Str × α)}, fs.lookup f = some y → f ∈ fs.map (·.1)
  | [], l => by cases l
  | (g, z) :: fs, l => by
    rw [lkp] at l
    by_cases e : f = g
    · rw [e]
      exact List.mem_cons_self ..
    · rw [if_neg e] at l
      exact List.mem_cons_of_mem _ (lk_mem l)
/-! ### promises by relations -/
section
variable (K : Frag) (cs : List Cn) (ts : List Ty0)
def DOk (n : Nat) (d : Dt) : Prop := okT cs ts d = true ∧ SzD n d
def DsOk (n : Nat) : List Dt → Prop
  | [] => True
  | d :: l => DOk cs ts n d ∧ DsOk n l
/-- a def: of data, what comes of it -/
structure spR (n : Nat) (R : List Dt → Out → Prop) (vs : List V) (H : Hp) (Q : VK) (E : XK) : Prop where
  un : ∃ ds o, IsVs K H vs ds ∧ DsOk cs ts n ds ∧ R ds o ∧ Aft K H o Q E
/-- an __init__ -/
structure spRI (c : Cn) (n : Nat) (R : List Dt → Out → Prop) (vs : List V) (H : Hp) (Q : VK) (E : XK) : Prop where
  un : ∃ (a dx : Addr) (args : List V) (ds : List Dt) (o : Out), vs = .ref a :: args ∧ H a = some (.ins (ca K c) dx []) ∧ IsVs K H args ds ∧ DsOk cs ts n ds ∧ R ds o ∧ match o with
  | .ok d => ∃ fs, d.own = some (c, fs) ∧ ∀ H' gs, (∀ b o, b ≠ a → H b = some o → H' b = some o) → H' a = some (.ins (ca K c) dx gs) → IsFs K H' gs fs → Q .non H'
  | .err x fs => AftE K H x fs E
end
theorem DsOk.mono {cs : List Cn} {ts : List Ty0} {n m : Nat} (l : n ≤ m) : ∀ {ds : List Dt}, DsOk cs ts n ds → DsOk cs ts m ds
  | [], _ => trivial
  | d :: ds, h => ⟨⟨h.1.1, h.1.2.mono l⟩, DsOk.mono l h.2⟩
section
variable {K : Frag} {m : Md} {H0 H H' : Hp} {L : List (V × Dt)} {v : V} {d d' : Dt} {vs : List V} {ds : List Dt} {o : Out} {R : List Dt → Out → Prop} {Q : VK} {E : XK} {cs : List Cn} {ts : List Ty0} {n : Nat} {c : Cn} {fs : List (Str × Dt)} {x : Str}
theorem fnR (i : IsVs K H vs ds) (z : DsOk cs ts n ds) (r : R ds o) (k : Aft K H o Q E) : spR K cs ts n R vs H Q E := ⟨ds, o, i, z, r, k⟩
theorem finD (q : Aft K H0 (.ok d) Q E) (h : Env K .fn H0 H L) (i : IsV K H v d) : Q v H := q.un v H h.gr i
theorem finDE (q : Aft K H0 (.ok d) Q E) (h : Env K .fn H0 H L) (i : IsV K H v d') (e : d' = d) : Q v H := q.un v H h.gr (e ▸ i)
theorem finE (q : Aft K H0 (.err x fs) Q E) (h : Env K .fn H0 H L) : AftE K H x fs E := Aft.same (o := .err x fs) (Q := Q) q h.gr
theorem finA (q : Aft K H0 o Q E) (h : Env K .fn H0 H L) : Aft K H o Q E := Aft.same q h.gr
/-! the arguments -/
structure AftA (K : Frag) (H : Hp) (ds : List Dt) (P : List V → Prop) : Prop where
  un : ∀ vs, IsVs K H vs ds → P vs
variable {P : List V → Prop}
theorem aaNil (k : P []) : AftA K H [] P := .mk fun vs i => by cases i; exact k
theorem aaInt {i : Int} (k : AftA K H ds (fun vs => P (.int i :: vs))) : AftA K H (.int i :: ds) P := .mk fun vs j => by
  cases j with
  | cons a b => cases a with
    | int => exact k.un _ b
    | own o _ _ => cases o
theorem aaBl {i : Bool} (k : AftA K H ds (fun vs => P (.bl i :: vs))) : AftA K H (.bl i :: ds) P := .mk fun vs j => by
  cases j with
  | cons a b => cases a with
    | bl => exact k.un _ b
    | own o _ _ => cases o
theorem aaStr {i : Str} (k : AftA K H ds (fun vs => P (.str i :: vs))) : AftA K H (.str i :: ds) P := .mk fun vs j => by
  cases j with
  | cons a b => cases a with
    | str => exact k.un _ b
    | own o _ _ => cases o
theorem aaNon (k : AftA K H ds (fun vs => P (.non :: vs))) : AftA K H (.non :: ds) P := .mk fun vs j => by
  cases j with
  | cons a b => cases a with
    | non => exact k.un _ b
    | own o _ _ => cases o
theorem aaOwn (h : Env K m H0 H L) (o : d.own = some (c, fs)) (k : ∀ p, Env K m H0 H ((.ref p, d) :: L) → AftA K H ds (fun vs => P (.ref p :: vs))) : AftA K H (d :: ds) P := .mk fun vs j => by
  cases j with
  | cons a b => cases a with
    | own o1 h1 i1 => exact (k _ (h.add (.own o1 h1 i1))).un _ b
    | _ => cases o
theorem aaTup {l : List Dt} (h : Env K m H0 H L) (k : ∀ p, Env K m H0 H ((.ref p, .tup l) :: L) → AftA K H ds (fun vs => P (.ref p :: vs))) : AftA K H (.tup l :: ds) P := .mk fun vs j => by
  cases j with
  | cons a b => cases a with
    | tup h1 i1 => exact (k _ (h.add (.tup h1 i1))).un _ b
    | own o _ _ => cases o
theorem aaAny (h : Env K m H0 H L) (k : ∀ v, Env K m H0 H ((v, d) :: L) → AftA K H ds (fun vs => P (v :: vs))) : AftA K H (d :: ds) P := .mk fun vs j => by
  cases j with
  | cons a b => exact (k _ (h.add a)).un _ b
theorem afOwn (h : Env K m H0 H L) (o : d.own = some (c, fs)) (k : ∀ p H', Env K m H0 H' ((.ref p, d) :: L) → Q (.ref p) H') : AftD K H d Q := .mk fun v H' s j => by
  have h' := (h.step s).add j
  cases j with
  | own o1 h1 i1 => exact k _ H' h'
  | _ => cases o
theorem afTup {l : List Dt} (h : Env K m H0 H L) (k : ∀ p H', Env K m H0 H' ((.ref p, .tup l) :: L) → Q (.ref p) H') : AftD K H (.tup l) Q := .mk fun v H' s j => by
  have h' := (h.step s).add j
  cases j with
  | tup h1 i1 => exact k _ H' h'
  | own o _ _ => cases o
variable {P1 : V → Prop}
theorem asOwn (h : Env K m H0 H L) (o : d.own = some (c, fs)) (k : ∀ p, Env K m H0 H ((.ref p, d) :: L) → P1 (.ref p)) : AftS K H d P1 := .mk fun v j => by
  have h' := h.add j
  cases j with
  | own o1 h1 i1 => exact k _ h'
  | _ => cases o
theorem asTup {l : List Dt} (h : Env K m H0 H L) (k : ∀ p, Env K m H0 H ((.ref p, .tup l) :: L) → P1 (.ref p)) : AftS K H (.tup l) P1 := .mk fun v j => by
  have h' := h.add j
  cases j with
  | tup h1 i1 => exact k _ h'
  | own o _ _ => cases o
end
/-! ### readings by name, and what they ask of data -/
structure TupD (xs : List V) (H : Hp) (Q : VK) : Prop where
  un : xs.length ≤ sizeLine ∧ ∀ p, H p = none → Q (.ref p) (upd H p (.tup xs))
structure LstD (xs : List V) (H : Hp) (Q : VK) : Prop where
  un : xs.length ≤ sizeLine ∧ ∀ p, H p = none → Q (.ref p) (upd H p (.lst xs))
structure FldD (K : Frag) (f : Str) (x : V) (H : Hp) (Q : VK) : Prop where
  un : ∃ a C dx fs v, x = .ref a ∧ H a = some (.ins C dx fs) ∧ Cls K C ∧ NoAttr K C f ∧ fs.lookup f = some v ∧ Q v H
structure MethD (C : Addr) (m : Str) (x : V) (H : Hp) (P : Prop) : Prop where
  un : ∃ a dx fs, x = .ref a ∧ H a = some (.ins C dx fs) ∧ fs.lookup m = none ∧ P
structure PropD (C : Addr) (x : V) (H : Hp) (sp : Sp) (Q : VK) (E : XK) : Prop where
  un : ∃ a dx fs, x = .ref a ∧ H a = some (.ins C dx fs) ∧ sp [.ref a] H Q E
structure MakeD (C : Addr) (sp : Sp) (vs : List V) (H : Hp) (Q : VK) (E : XK) : Prop where
  un : ∀ x dx, H x = none → H dx = none → dx ≠ x → sp (.ref x :: vs) (upd (upd H dx (.own x)) x (.ins C dx [])) (fun v H2 => v = .non ∧ Q (.ref x) H2) E
def tTupD (t : TA) : TE := fun σ H Q => t σ H fun xs H1 => TupD xs H1 Q
def tLstD (t : TA) : TE := fun σ H Q => t σ H fun xs H1 => LstD xs H1 Q
def tFldD (K : Frag) (f : Str) (ta : TE) : TE := fun σ H Q => ta σ H fun x H1 => FldD K f x H1 Q
def tMethD (C : Addr) (m : Str) (sp : Sp) (E : XK) (ta : TE) (t : TA) : TE := fun σ H Q => ta σ H fun x H1 => MethD C m x H1 (t σ H1 fun vs H2 => sp (x :: (vs ++ [])) H2 Q E)
def tPropD (C : Addr) (sp : Sp) (E : XK) (ta : TE) : TE := fun σ H Q => ta σ H fun x H1 => PropD C x H1 sp Q E
def tMakeD (C : Addr) (sp : Sp) (dvs : List V) (E : XK) (t : TA) : TE := fun σ H Q => t σ H fun vs H1 => MakeD C sp (vs ++ dvs) H1 Q E
section
variable {X : Cx} {CX : CXT} {k : Nat} {C : Addr} {sp : Sp} {E : XK} {op : Operator} {o e : Expr} {es : List Expr} {m f x : Str} {apos p pos : Pos} {ta : TE} {t : TA} {pl : Sem Bool} {dvs : List V} {ps : List Str}
theorem pe_tupD (h : PA X es t) {x1 : Nat} : PE X (.Tuple es x1 pos) (tTupD t) := ⟨fun pins s σ H Q I z => (pe_tup (PA.mono h)).run pins s σ H Q I ⟨_, z, fun _ _ y => y.un⟩⟩
theorem pe_lstD (h : PA X es t) : PE X (.List es pos) (tLstD t) := ⟨fun pins s σ H Q I z => (pe_lst (PA.mono h)).run pins s σ H Q I ⟨_, z, fun _ _ y => y.un⟩⟩
theorem pe_fldD (he : PE X e ta) (hb : attributeBase e f X.env (eval e X.env) = eval e X.env) : PE X (.Attribute e f pos) (tFldD X.K f ta) := ⟨fun pins s σ H Q I z => (pe_fld (PE.mono he) hb).run pins s σ H Q I ⟨_, z, fun _ _ y => y.un⟩⟩
theorem pe_methD (he : PE X o ta) (c : Cls X.K C) (G : GH X.prog X.w X.K X.mg X.base CX k C m ps sp) (hr : Room k X.A) (hx : Passes CX X E) (ha : PA X (e :: es) t)
    (hst : starEach (e :: es) X.env = (false, eval e X.env) :: starEach es X.env := by rfl) (hpl : (backTo pos (starEach es X.env)).any (·.1) = false := by rfl)
    (ht : eval (.Call (.Attribute o m apos) (e :: es) [] pos) X.env = (do
      let ov ← eval o X.env
      standAt apos.atName
      let (f, first) ← holding [ov] (getMethod ov m pl)
      callWith pos f first (backTo pos (starEach (e :: es) X.env)) (backToKw pos (keywordEach [] X.env))) := by rfl) :
    PE X (.Call (.Attribute o m apos) (e :: es) [] pos) (tMethD C m sp E ta t) := ⟨fun pins s σ H Q I z => (pe_gh (PE.mono he) c G hr hx ha hst hpl ht).run pins s σ H Q I ⟨_, z, fun _ _ y => y.un⟩⟩
theorem pe_methD0 (he : PE X o ta) (c : Cls X.K C) (G : GH X.prog X.w X.K X.mg X.base CX k C m ps sp) (hr : Room k X.A) (hx : Passes CX X E)
    (ht : eval (.Call (.Attribute o m apos) [] [] pos) X.env = (do
      let ov ← eval o X.env
      standAt apos.atName
      let (f, first) ← holding [ov] (getMethod ov m pl)
      callWith pos f first (backTo pos (starEach [] X.env)) (backToKw pos (keywordEach [] X.env))) := by rfl) :
    PE X (.Call (.Attribute o m apos) [] [] pos) (tMethD C m sp E ta tNil) := by
  obtain ⟨f, fd, F, M, hb⟩ := G.ex
  exact ⟨fun pins s σ H Q I z => (pe_meth0 (PE.mono he) c M F hr hb .nil hx ht).run pins s σ H Q I ⟨_, z, fun _ _ y => y.un⟩⟩
theorem pe_propD (he : PE X o ta) (G : GP X.prog X.w X.K X.mg X.base (L2.CX X.prog X.w) k C f sp) (hr : Room (k + 1) X.A) (hx : Passes (L2.CX X.prog X.w) X.nox E) (hab : attributeBase o f X.env (eval o X.env) = eval o X.env) :
    PE X (.Attribute o f pos) (tPropD C sp E ta) := by
  obtain ⟨p, g, fd, ps, hp, F, hb⟩ := G.ex
  exact ⟨fun pins s σ H Q I z => (pe_prop (ds := []) (PE.mono he) G.c hp F hr hb .nil hx hab).run pins s σ H Q I ⟨_, z, fun _ _ y => y.un⟩⟩
theorem pe_makeD (G : GM X.prog X.w X.K X.mg X.base CX k x C ps dvs sp) (hr : Room (k + 1) X.A) (hg : Gl X x) (hx : Passes CX X E)
    (ha : PA X (e :: es) t) (hdb : (x == ("__debug__" : Str)) = false := by decide) (he : starEach (e :: es) X.env = (false, eval e X.env) :: starEach es X.env := by rfl) (hpl : (backTo pos (starEach es X.env)).any (·.1) = false := by rfl) :
    PE X (.Call (.Name x p) (e :: es) [] pos) (tMakeD C sp dvs E t) := ⟨fun pins s σ H Q I z => (pe_gm G hr hg hx (PA.mono ha) hdb he hpl).run pins s σ H Q I ⟨_, z, fun _ _ y => y.un⟩⟩
end
section
variable {K : Frag} {mg : Str → Option Value} {m : Md} {H0 H H' : Hp} {L : List (V × Dt)} {v x y : V} {d d' d1 d2 : Dt} {vs : List V} {ds : List Dt} {o : Out} {R : List Dt → Out → Prop} {Q : VK} {E : XK} {cs : List Cn} {ts : List Ty0} {n : Nat} {c : Cn} {fs : List (Str × Dt)} {f : Str} {P : Prop}
theorem Same.new' {p : Addr} {o : HO} (h : H p = none) : Same H (upd H p o) := fun b u e => by rw [upd_ne (ne_of_none e h)]; exact e
theorem tupD (h : Env K m H0 H L) (i : IsVs K H vs ds) (hl : Nat.ble vs.length 1000 = true) (k : ∀ p H', Env K m H0 H' ((.ref p, .tup ds) :: L) → Q (.ref p) H') : TupD vs H Q :=
  ⟨Nat.le_trans (Nat.le_of_ble_eq_true hl) (by decide), fun p n => k p _ ((h.step (Same.new' n)).add (.tup upd_same (i.same (Same.new' n))))⟩
theorem lstD (h : Env K m H0 H L) (i : IsVs K H vs ds) (hl : Nat.ble vs.length 1000 = true) (k : ∀ p H', Env K m H0 H' ((.ref p, .lst ds) :: L) → Q (.ref p) H') : LstD vs H Q :=
  ⟨Nat.le_trans (Nat.le_of_ble_eq_true hl) (by decide), fun p n => k p _ ((h.step (Same.new' n)).add (.lst upd_same (i.same (Same.new' n))))⟩
theorem IsV.out (h : IsV K H v d) (o : d.own = some (c, fs)) : ∃ p dx gs, v = .ref p ∧ H p = some (.ins (ca K c) dx gs) ∧ IsFs K H gs fs := by
  cases h with
  | own o1 h1 i1 =>
    rw [o] at o1
    cases o1
    exact ⟨_, _, _, rfl, h1, i1⟩
  | _ => cases o
theorem fldD (G : G0 K mg cs ts) (h : IsV K H x d) (o : d.own = some (c, fs)) (l : fs.lookup f = some d') (hc : c ∈ cs) (k : AftS K H d' fun v => Q v H) : FldD K f x H Q := by
  obtain ⟨p, dx, gs, rfl, hp, ifs⟩ := h.out o
  obtain ⟨v, hv, iv⟩ := ifs.get l
  have cf := G.cf c hc
  refine ⟨p, _, dx, gs, v, rfl, hp, cf.cl, cf.no f ?_, hv, k.un v iv⟩
  rw [← Dt.own_flds o]
  exact lk_mem l
theorem methD {m' : Str} (h : IsV K H x d) (o : d.own = some (c, fs)) (l : fs.lookup m' = none) (k : P) : MethD (ca K c) m' x H P := by
  obtain ⟨p, dx, gs, rfl, hp, ifs⟩ := h.out o
  exact ⟨p, dx, gs, rfl, hp, ifs.none l, k⟩
theorem propD {sp : Sp} (h : IsV K H x d) (o : d.own = some (c, fs)) (k : sp [x] H Q E) : PropD (ca K c) x H sp Q E := by
  obtain ⟨p, dx, gs, rfl, hp, ifs⟩ := h.out o
  exact ⟨p, dx, gs, rfl, hp, k⟩
theorem makeD (i : IsVs K H vs ds) (z : DsOk cs ts n ds) (r : R ds o) (k : match o with | .ok d => (∃ fs, d.own = some (c, fs)) ∧ AftD K H d Q | .err x fs => AftE K H x fs E) : MakeD (ca K c) (spRI K cs ts c n R) vs H Q E := by
  refine .mk fun x dx nx nd ne => ?_
  have s : Same H (upd (upd H dx (.own x)) x (.ins (ca K c) dx [])) := fun b o e => by rw [upd_ne (ne_of_none e nx), upd_ne (ne_of_none e nd)]; exact e
  refine ⟨x, dx, vs, ds, o, rfl, upd_same, i.same s, z, r, ?_⟩
  cases o with
  | ok d =>
    obtain ⟨⟨fs, e⟩, k⟩ := k
    exact ⟨fs, e, fun H' gs k1 h1 i1 => ⟨rfl, k.un _ H' (fun b o e => k1 b o (ne_of_none e nx) (s b o e)) (.own e h1 i1)⟩⟩
  | err x fs => exact Aft.same (o := .err x fs) (Q := Q) k s
theorem makeOk (i : IsVs K H vs ds) (z : DsOk cs ts n ds) (r : R ds (.ok d)) (e : d.own = some (c, fs)) (k : AftD K H d Q) : MakeD (ca K c) (spRI K cs ts c n R) vs H Q E := makeD i z r ⟨⟨_, e⟩, k⟩
theorem makeEr {x : Str} {fs : List (Str × Dt)} (i : IsVs K H vs ds) (z : DsOk cs ts n ds) (r : R ds (.err x fs)) (k : AftE K H x fs E) : MakeD (ca K c) (spRI K cs ts c n R) vs H Q E := makeD i z r k
/-- an operator of an own class, the right one an own one of the class or an int -/
theorem binD {sp : Sp} (h : IsV K H x d1) (o : d1.own = some (c, fs)) (h2 : IsV K H y d2) (e : (match d2 with | .int _ => true | d => match d.own with | some (c', _) => decide (c' = c) | none => false) = true) (k : sp [x, y] H Q E) : rBin (ca K c) sp E x y H Q := by
  obtain ⟨p, dx, gs, rfl, hp, ifs⟩ := h.out o
  refine ⟨p, dx, gs, rfl, hp, ?_, k⟩
  cases d2 with
  | int i =>
    cases h2 with
    | int => exact .inr ⟨_, rfl⟩
    | own o _ _ => cases o
  | obj c2 l2 =>
    have e0 : (match (Dt.obj c2 l2).own with | some (c', _) => decide (c' = c) | none => false) = true := e
    clear e
    cases q : (Dt.obj c2 l2).own with
    | none =>
      rw [q] at e0
      exact absurd e0 Bool.false_ne_true
    | some z =>
      obtain ⟨c', fs'⟩ := z
      rw [q] at e0
      obtain ⟨p2, dx2, gs2, rfl, hp2, _⟩ := h2.out q
      have e' : c' = c := of_decide_eq_true (show decide (c' = c) = true from e0)
      subst e'
      exact .inl ⟨p2, dx2, _, rfl, hp2⟩
  | _ =>
    first
      | (cases e; done)
      | (obtain ⟨p2, dx2, gs2, rfl, hp2, _⟩ := h2.out rfl
         have e' := of_decide_eq_true e
         subst e'
         exact .inl ⟨p2, dx2, _, rfl, hp2⟩)
theorem unD {sp : Sp} (h : IsV K H x d1) (o : d1.own = some (c, fs)) (k : sp [x] H Q E) : rUn (ca K c) sp E x H Q := by
  obtain ⟨p, dx, gs, rfl, hp, ifs⟩ := h.out o
  exact ⟨p, dx, gs, rfl, hp, k⟩
theorem absD {sp : Sp} (h : IsV K H x d1) (o : d1.own = some (c, fs)) (k : sp [x] H Q E) : rAbsOwn (ca K c) sp E [x] H Q := by
  obtain ⟨p, dx, gs, rfl, hp, ifs⟩ := h.out o
  exact ⟨p, dx, gs, rfl, hp, k⟩
/-- == by an own __eq__ -/
theorem eqOwnD {sp : Sp} (G : G0 K mg cs ts) (h : IsV K H x d1) (o : d1.own = some (c, fs)) (h2 : IsV K H y d2) (z : okT cs ts d2 = true) (nf : PySem.W.notFirst K (ca K c) (tv K d2.ty) = true) (k : sp [x, y] H Q E) : rEqOwn K (ca K c) sp E x y H Q := by
  obtain ⟨p, dx, gs, rfl, hp, ifs⟩ := h.out o
  refine ⟨p, dx, gs, _, rfl, hp, G.ty h2 (fun c fs e => ?_), nf, k⟩
  have z := (Bool.and_eq_true_iff.mp z).1
  rw [e] at z
  exact of_decide_eq_true z
theorem neOwnD {sp : Sp} (G : G0 K mg cs ts) (h : IsV K H x d1) (o : d1.own = some (c, fs)) (h2 : IsV K H y d2) (z : okT cs ts d2 = true) (nf : PySem.W.notFirst K (ca K c) (tv K d2.ty) = true) (k : sp [x, y] H (fun v H' => ∃ b, v = .bl b ∧ Q (.bl (!b)) H') E) : rNeOwn K (ca K c) sp E x y H Q := by
  obtain ⟨p, dx, gs, rfl, hp, ifs⟩ := h.out o
  refine ⟨p, dx, gs, _, rfl, hp, G.ty h2 (fun c fs e => ?_), nf, k⟩
  have z := (Bool.and_eq_true_iff.mp z).1
  rw [e] at z
  exact of_decide_eq_true z
/-! plain data -/
mutual
def Dt.py : Dt → Option PyData
  | .non => some .none
  | .bl b => some (.bool b)
  | .int i => some (.int i)
  | .str x => some (.str x)
  | .tup l => (Dt.pys l).map .tuple
  | .lst l => (Dt.pys l).map .list
  | _ => none
def Dt.pys : List Dt → Option (List PyData)
  | [] => some []
  | d :: l => match Dt.py d, Dt.pys l with
    | some a, some b => some (a :: b)
    | _, _ => none
end
mutual
theorem IsV.dp : ∀ {v : V} {d : Dt} {p : PyData}, IsV K H v d → d.py = some p → Dp K H v p
  | _, _, _, .non, e => by cases e; exact .non
  | _, _, _, .bl b, e => by cases e; exact .bl b
  | _, _, _, .int i, e => by cases e; exact .int i
  | _, _, _, .str x, e => by cases e; exact .str x
  | _, _, p, .tup (ds := l) h r, e => by
    unfold Dt.py at e
    obtain ⟨q, eq, rfl⟩ := Option.map_eq_some_iff.mp e
    exact .tup (SqT.of h) (IsVs.dp r eq)
  | _, _, p, .lst (ds := l) h r, e => by
    unfold Dt.py at e
    obtain ⟨q, eq, rfl⟩ := Option.map_eq_some_iff.mp e
    exact .lst (SqL.of h) (IsVs.dp r eq)
  | _, _, p, .dct h, e => by cases e
  | _, d, p, .own o h r, e => by cases d <;> (first | (cases o; done) | (cases e; done))
theorem IsVs.dp : ∀ {v : List V} {d : List Dt} {p : List PyData}, IsVs K H v d → Dt.pys d = some p → DpAll K H v p
  | _, _, _, .nil, e => by cases e; exact .nil
  | _, _, p, .cons (d := d) (ds := l) a b, e => by
    unfold Dt.pys at e
    cases e1 : d.py with
    | none => rw [e1] at e; cases e
    | some q1 =>
      cases e2 : Dt.pys l with
      | none => rw [e1, e2] at e; cases e
      | some q2 =>
        rw [e1, e2] at e
        cases e
        exact .cons (IsV.dp a e1) (IsVs.dp b e2)
end
theorem eqDD {p1 p2 : PyData} (h1 : IsV K H x d1) (h2 : IsV K H y d2) (e1 : d1.py = some p1) (e2 : d2.py = some p2) (s1 : SeqAt.shaped p1 = true) (s2 : SeqAt.shaped p2 = true) (k : Q (.bl (PyData.eqv p1 p2)) H) : rEqD K x y H Q :=
  ⟨p1, p2, h1.dp e1, h2.dp e2, s1, s2, k⟩
theorem neDD {p1 p2 : PyData} (h1 : IsV K H x d1) (h2 : IsV K H y d2) (e1 : d1.py = some p1) (e2 : d2.py = some p2) (s1 : SeqAt.shaped p1 = true) (s2 : SeqAt.shaped p2 = true) (k : Q (.bl (!PyData.eqv p1 p2)) H) : rNeD K x y H Q :=
  ⟨p1, p2, h1.dp e1, h2.dp e2, s1, s2, k⟩
theorem ixTD {l : List Dt} {i : Int} {j : Nat} (h : IsV K H x (.tup l)) (e : i = j) (g : l[j]? = some d) (k : AftS K H d fun v => Q v H) : rIxT K x (.int i) H Q := by
  cases h with
  | tup h r =>
    obtain ⟨v, e1, iv⟩ := r.get g
    subst e
    exact ⟨_, _, _, v, rfl, rfl, SqT.of h, atI_nat e1, k.un v iv⟩
  | own o _ _ => cases o
theorem ixLD {l : List Dt} {i : Int} {j : Nat} (h : IsV K H x (.lst l)) (e : i = j) (g : l[j]? = some d) (k : AftS K H d fun v => Q v H) : rIxL K x (.int i) H Q := by
  cases h with
  | lst h r =>
    obtain ⟨v, e1, iv⟩ := r.get g
    subst e
    exact ⟨_, _, _, v, rfl, rfl, SqL.of h, atI_nat e1, k.un v iv⟩
  | own o _ _ => cases o
theorem gTupD {l : List Dt} {t : TGs} {σ : L2.St} {Q : L2.St → Hp → Prop} {m' : Nat} (h : IsV K H x (.tup l)) (e : l.length = m') (k : AftA K H l fun xs => t xs σ H Q) : gTup K m' t x σ H Q := by
  cases h with
  | tup h r => exact ⟨_, _, rfl, SqT.of h, by rw [← e, r.length], k.un _ r⟩
  | own o _ _ => cases o
end
/-! ### a def keeps its promise -/
section
variable {P : Program} {w : World} {K : Frag} {mg : Str → Option Value} {base : Heap} {x qual : Str} {params : Arguments} {body : List Stmt} {scope : Scope} {dvs : List V} {kws : List (Str × V)} {f : Addr} {fd : FuncData} {CX : CXT} {N ps : List Str} {k n : Nat} {cs : List Cn} {ts : List Ty0} {R : List Dt → Out → Prop} {c : Cn}
theorem okR (F : FunD K x qual params body scope dvs kws f fd) (S : FnScope N ps scope) (hl : ∀ ds o, R ds o → ds.length = ps.length)
    (hb : ∀ (cdv : Value) (A : Around) (outer : List PySem.Env) (s : Shared) (H : Hp) (ds : List Dt) (o : Out) (Q : VK) (E : XK), Room k (A.deeper (envOfC qual scope s.heap.objs.size f cdv)) → DsOk cs ts n ds → R ds o → Aft K H o Q E →
      ∃ t, PSs (cxOf CX P w K mg base N qual scope f cdv A outer s H E) body t ∧ AftA K H ds fun vs => t { nx := fun _ H' => Q .non H', rt := Q } (L2.start N vs) H) : FnOk P w K mg base CX (k + 1) f fd ps (spR K cs ts n R) :=
  F.ok S (fun vs H Q E ⟨ds, o, i, _, r, _⟩ => by rw [i.length]; exact hl _ _ r) fun cdv A outer s H vs Q E hr ⟨ds, o, i, z, r, q⟩ => let ⟨t, h1, h2⟩ := hb cdv A outer s H ds o Q E hr z r q; ⟨t, h1, h2.un vs i⟩
def FinI (K : Frag) (H : Hp) (a dx : Addr) (c : Cn) (o : Out) (Q : VK) (E : XK) : Prop := match o with
  | .ok d => ∃ fs, d.own = some (c, fs) ∧ ∀ H' gs, (∀ b o, b ≠ a → H b = some o → H' b = some o) → H' a = some (.ins (ca K c) dx gs) → IsFs K H' gs fs → Q .non H'
  | .err x fs => AftE K H x fs E
theorem okI (F : FunD K x qual params body scope dvs kws f fd) (S : FnScope N ps scope) (hl : ∀ ds o, R ds o → ds.length + 1 = ps.length)
    (hb : ∀ (cdv : Value) (A : Around) (outer : List PySem.Env) (s : Shared) (H : Hp) (a dx : Addr) (ds : List Dt) (o : Out) (Q : VK) (E : XK), Room k (A.deeper (envOfC qual scope s.heap.objs.size f cdv)) → H a = some (.ins (ca K c) dx []) → DsOk cs ts n ds → R ds o → FinI K H a dx c o Q E →
      ∃ t, PSs (cxOf CX P w K mg base N qual scope f cdv A outer s H E) body t ∧ AftA K H ds fun vs => t { nx := fun _ H' => Q .non H', rt := Q } (L2.start N (.ref a :: vs)) H) : FnOk P w K mg base CX (k + 1) f fd ps (spRI K cs ts c n R) :=
  F.ok S (fun vs H Q E ⟨a, dx, args, ds, o, e, _, i, _, r, _⟩ => by rw [e, List.length_cons, i.length]; exact hl _ _ r) fun cdv A outer s H vs Q E hr ⟨a, dx, args, ds, o, e, ha, i, z, r, q⟩ => let ⟨t, h1, h2⟩ := hb cdv A outer s H a dx ds o Q E hr ha z r q; ⟨t, h1, by subst e; exact h2.un args i⟩
end
section
variable {K : Frag} {mg : Str → Option Value} {H0 H : Hp} {L : List (V × Dt)} {d : Dt} {Q : VK} {E : XK} {a dx : Addr} {c : Cn} {gs : List (Str × V)} {fs : List (Str × Dt)} {x : Str} {cs : List Cn} {ts : List Ty0}
theorem finI (q : FinI K H0 a dx c (.ok d) Q E) (h : Env K (.ini a (ca K c) dx gs) H0 H L) (o : d.own = some (c, fs)) (i : IsFs K H gs fs) : Q .non H := by
  obtain ⟨fs', e, q⟩ := q
  rw [o] at e
  cases e
  exact q H gs h.gr h.at_ i
theorem finIE (q : FinI K H0 a dx c (.err x fs) Q E) (ha : H0 a = some (.ins (ca K c) dx [])) (h : Env K (.ini a (ca K c) dx []) H0 H L) : AftE K H x fs E := Aft.same (o := .err x fs) (Q := Q) q fun b o e => by
  by_cases z : b = a
  · subst z
    rw [ha] at e
    cases e
    exact h.at_
  · exact h.gr b o z e
end
end Sp
end
section
set_option Elab.async false
set_option linter.all false
set_option exponentiation.threshold 5000
set_option maxRecDepth 100000
set_option maxHeartbeats 4000000
namespace Sp
open PySem PySem.Spec PyProof.Rows L2
open PySem.W (Frag)
/-! ### what the program's defs do -/
def Dt.isI (d : Dt) : Bool := decide (d.ty = .int)
def Dt.isR (d : Dt) : Bool := decide (d.ty = .own .Ratio) || decide (d.ty = .int)
def Dt.is (c : Cn) (d : Dt) : Bool := decide (d.ty = .own c)
abbrev part (x : Str) : List (Str × Dt) := [("part", .str x)]
inductive RIsInt : List Dt → Out → Prop
  | mk {d : Dt} : RIsInt [d] (.ok (.bl d.isI))
inductive RIsRat : List Dt → Out → Prop
  | mk {d : Dt} : RIsRat [d] (.ok (.bl d.isR))
inductive RSign : List Dt → Out → Prop
  | mk {n : Int} : RSign [.int n] (.ok (.int n.sign))
inductive RInitR : List Dt → Out → Prop
  | one {t : Int} : RInitR [.int t, .int 1] (.ok (.rat (t : Rat)))
  | ok {t b : Int} (h : b ≠ 0) : RInitR [.int t, .int b] (.ok (.rat (Rat.divInt t b)))
  | z {t : Int} : RInitR [.int t, .int 0] (.err "BadRatio" (part "bottom"))
  | t {d e : Dt} (h : d.isI = false) : RInitR [d, e] (.err "BadRatio" (part "top"))
  | b {t : Int} {e : Dt} (h : e.isI = false) : RInitR [.int t, e] (.err "BadRatio" (part "bottom"))
/-- a number as a ratio, or the error -/
inductive ROf (x y : Str) : List Dt → Out → Prop
  | r {q : Rat} : ROf x y [.rat q] (.ok (.rat q))
  | i {i : Int} : ROf x y [.int i] (.ok (.rat (i : Rat)))
  | n {d : Dt} (h : d.isR = false) : ROf x y [d] (.err x (part y))
inductive RBinR (fn : Rat → Rat → Rat) : List Dt → Out → Prop
  | r {p q : Rat} : RBinR fn [.rat p, .rat q] (.ok (.rat (fn p q)))
  | i {p : Rat} {i : Int} : RBinR fn [.rat p, .int i] (.ok (.rat (fn p (i : Rat))))
  | n {p : Rat} {d : Dt} (h : d.isR = false) : RBinR fn [.rat p, d] (.err "BadRatio" (part "other"))
inductive ROver : List Dt → Out → Prop
  | r {p q : Rat} (h : q ≠ 0) : ROver [.rat p, .rat q] (.ok (.rat (p / q)))
  | i {p : Rat} {i : Int} (h : i ≠ 0) : ROver [.rat p, .int i] (.ok (.rat (p / (i : Rat))))
  | z {p : Rat} : ROver [.rat p, .rat 0] (.err "BadRatio" (part "zero"))
  | zi {p : Rat} : ROver [.rat p, .int 0] (.err "BadRatio" (part "zero"))
  | n {p : Rat} {d : Dt} (h : d.isR = false) : ROver [.rat p, d] (.err "BadRatio" (part "other"))
def cmpR (p q : Rat) : Int := (p.num * q.den - q.num * p.den).sign
inductive RCmp : List Dt → Out → Prop
  | r {p q : Rat} : RCmp [.rat p, .rat q] (.ok (.int (cmpR p q)))
  | i {p : Rat} {i : Int} : RCmp [.rat p, .int i] (.ok (.int (cmpR p (i : Rat))))
  | n {p : Rat} {d : Dt} (h : d.isR = false) : RCmp [.rat p, d] (.err "BadRatio" (part "other"))
inductive RBelow : List Dt → Out → Prop
  | r {p q : Rat} : RBelow [.rat p, .rat q] (.ok (.bl (decide (p < q))))
  | i {p : Rat} {i : Int} : RBelow [.rat p, .int i] (.ok (.bl (decide (p < (i : Rat)))))
  | n {p : Rat} {d : Dt} (h : d.isR = false) : RBelow [.rat p, d] (.err "BadRatio" (part "other"))
inductive RUnR (fn : Rat → Rat) : List Dt → Out → Prop
  | mk {p : Rat} : RUnR fn [.rat p] (.ok (.rat (fn p)))
inductive REqR : List Dt → Out → Prop
  | r {p q : Rat} : REqR [.rat p, .rat q] (.ok (.bl (decide (p = q))))
  | i {p : Rat} {i : Int} : REqR [.rat p, .int i] (.ok (.bl (decide (p = (i : Rat)))))
  | n {p : Rat} {d : Dt} (h : d.isR = false) : REqR [.rat p, d] (.ok (.bl false))
inductive RPropR (fn : Rat → Dt) : List Dt → Out → Prop
  | mk {p : Rat} : RPropR fn [.rat p] (.ok (fn p))
/-! steps -/
inductive RInitS : List Dt → Out → Prop
  | ok {k j : Int} (h : ¬ (k = 0 ∧ j = 0)) : RInitS [.int k, .int j] (.ok (.step k j))
  | z : RInitS [.int 0, .int 0] (.err "BadStep" (part "step"))
  | s {d e : Dt} (h : d.isI = false) : RInitS [d, e] (.err "BadStep" (part "studs"))
  | r {k : Int} {e : Dt} (h : e.isI = false) : RInitS [.int k, e] (.err "BadStep" (part "rounds"))
/-- an instance of the class is due -/
inductive RNeed (c : Cn) (x : Str) : List Dt → Out → Prop
  | ok {d p : Dt} (h : d.is c = true) : RNeed c x [d, p] (.ok .non)
  | no {d p : Dt} (h : d.is c = false) : RNeed c x [d, p] (.err x [("part", p)])
inductive RNeedK : List Dt → Out → Prop
  | ok {k j : Int} {p : Dt} (h : k ≠ 0) : RNeedK [.step k j, p] (.ok .non)
  | z {j : Int} {p : Dt} : RNeedK [.step 0 j, p] (.err "Round" [("part", p)])
def crs (k j l i : Int) : Int := k * i - l * j
inductive RCross : List Dt → Out → Prop
  | ok {k j l i : Int} : RCross [.step k j, .step l i] (.ok (.int (crs k j l i)))
  | one {d e : Dt} (h : d.is .Step = false) : RCross [d, e] (.err "BadStep" (part "one"))
  | oth {k j : Int} {e : Dt} (h : e.is .Step = false) : RCross [.step k j, e] (.err "BadStep" (part "other"))
inductive RAreN : List Dt → Out → Prop
  | ok {k j l i : Int} : RAreN [.step k j, .step l i] (.ok (.bl (decide ((crs k j l i).natAbs = 1))))
  | one {d e : Dt} (h : d.is .Step = false) : RAreN [d, e] (.err "BadStep" (part "one"))
  | oth {k j : Int} {e : Dt} (h : e.is .Step = false) : RAreN [.step k j, e] (.err "BadStep" (part "other"))
inductive RNeedN : List Dt → Out → Prop
  | ok {k j l i : Int} (h : (crs k j l i).natAbs = 1) : RNeedN [.step k j, .step l i] (.ok .non)
  | no {k j l i : Int} (h : (crs k j l i).natAbs ≠ 1) : RNeedN [.step k j, .step l i] (.err "NotNeighbours" [("other", .step l i), ("one", .step k j)])
  | one {d e : Dt} (h : d.is .Step = false) : RNeedN [d, e] (.err "BadStep" (part "one"))
  | oth {k j : Int} {e : Dt} (h : e.is .Step = false) : RNeedN [.step k j, e] (.err "BadStep" (part "other"))
inductive RBetween : List Dt → Out → Prop
  | ok {k j l i : Int} (h : (crs k j l i).natAbs = 1) : RBetween [.step k j, .step l i] (.ok (.step (k + l) (j + i)))
  | no {k j l i : Int} (h : (crs k j l i).natAbs ≠ 1) : RBetween [.step k j, .step l i] (.err "NotNeighbours" [("other", .step l i), ("one", .step k j)])
  | one {d e : Dt} (h : d.is .Step = false) : RBetween [d, e] (.err "BadStep" (part "one"))
  | oth {k j : Int} {e : Dt} (h : e.is .Step = false) : RBetween [.step k j, e] (.err "BadStep" (part "other"))
inductive RSummed : List Dt → Out → Prop
  | ok {k j : Int} (h : ¬ (k = 0 ∧ j = 0)) : RSummed [.int k, .int j] (.ok (.step k j))
  | z {k j : Int} (h : k = 0 ∧ j = 0) : RSummed [.int k, .int j] (.err "BadStep" (part "sum"))
inductive RBinS (fn : Int → Int → Int) : List Dt → Out → Prop
  | ok {k j l i : Int} (h : ¬ (fn k l = 0 ∧ fn j i = 0)) : RBinS fn [.step k j, .step l i] (.ok (.step (fn k l) (fn j i)))
  | z {k j l i : Int} (h : fn k l = 0 ∧ fn j i = 0) : RBinS fn [.step k j, .step l i] (.err "BadStep" (part "sum"))
  | n {k j : Int} {d : Dt} (h : d.is .Step = false) : RBinS fn [.step k j, d] (.err "BadStep" (part "other"))
inductive RMulS : List Dt → Out → Prop
  | ok {k j m : Int} (h : m ≠ 0) (h2 : ¬ (k = 0 ∧ j = 0)) : RMulS [.step k j, .int m] (.ok (.step (k * m) (j * m)))
  | z {k j : Int} : RMulS [.step k j, .int 0] (.err "BadNumber" (part "times"))
  | n {k j : Int} {d : Dt} (h : d.isI = false) : RMulS [.step k j, d] (.err "BadNumber" (part "times"))
inductive RNegS : List Dt → Out → Prop
  | mk {k j : Int} (h : ¬ (k = 0 ∧ j = 0)) : RNegS [.step k j] (.ok (.step (-k) (-j)))
inductive REqS : List Dt → Out → Prop
  | s {k j l i : Int} : REqS [.step k j, .step l i] (.ok (.bl (decide (k = l) && decide (j = i))))
  | n {k j : Int} {d : Dt} (h : d.is .Step = false) : REqS [.step k j, d] (.ok (.bl false))
def upS (k j : Int) : Bool := decide (0 < k) || (decide (k = 0) && decide (0 < j))
inductive RIsUp : List Dt → Out → Prop
  | mk {k j : Int} : RIsUp [.step k j] (.ok (.bl (upS k j)))
inductive RUpw : List Dt → Out → Prop
  | mk {k j : Int} (h : ¬ (k = 0 ∧ j = 0)) : RUpw [.step k j] (.ok (if upS k j then .step k j else .step (-k) (-j)))
inductive ROneR : List Dt → Out → Prop
  | mk : ROneR [] (.ok (.step 0 1))
inductive RCorner : List Dt → Out → Prop
  | ok {k j : Int} (h : k ≠ 0) : RCorner [.step k j] (.ok (.rat (Rat.divInt j k)))
  | z {j : Int} : RCorner [.step 0 j] (.err "Round" (part "step"))
/-! the mate -/
structure spInv (K : Frag) (vs : List V) (H : Hp) (Q : VK) (z_3 : XK) : Prop where
  un : ∃ (n m : Int), vs = [.int n, .int m] ∧ 1 ≤ m ∧ m.natAbs < 2 ^ 1900 ∧ Nat.gcd n.natAbs m.natAbs = 1 ∧ ∀ s H', Same H H' → 0 ≤ s → s < m → (∃ k, n * s - 1 = k * m) → Q (.int s) H'
structure Mt (k j a b : Int) : Prop where
  cr : a * j - k * b = 1
  z : k = 0 → b = 0
  lo : k ≠ 0 → -((k.natAbs : Nat) : Int) < 2 * a
  hi : k ≠ 0 → 2 * a ≤ (k.natAbs : Nat)
structure spMate (K : Frag) (cs : List Cn) (ts : List Ty0) (vs : List V) (H : Hp) (Q : VK) (E : XK) : Prop where
  un : ∃ v d, vs = [v] ∧ IsV K H v d ∧ okT cs ts d = true ∧
  ((∃ k j, d = .step k j ∧ ¬ (k = 0 ∧ j = 0) ∧ k.natAbs < 2 ^ 900 ∧ j.natAbs < 2 ^ 900 ∧ (1 < Nat.gcd k.natAbs j.natAbs → AftE K H "Common" [("divisor", .int ((Nat.gcd k.natAbs j.natAbs : Nat) : Int))] E) ∧
      (Nat.gcd k.natAbs j.natAbs = 1 → ∀ a b, Mt k j a b → AftD K H (.step a b) Q)) ∨
   (d.is .Step = false ∧ SzD 100000 d ∧ AftE K H "BadStep" (part "step") E))
theorem mateI {K : Frag} {cs : List Cn} {ts : List Ty0} {vs : List V} {H : Hp} {Q : VK} {E : XK} (h : spMate K cs ts vs H Q E) : ∃ v d, vs = [v] ∧ IsV K H v d ∧ okT cs ts d = true ∧
  ((∃ k j, d = .step k j ∧ ¬ (k = 0 ∧ j = 0) ∧ k.natAbs < 2 ^ 900 ∧ j.natAbs < 2 ^ 900 ∧ (1 < Nat.gcd k.natAbs j.natAbs → AftE K H "Common" [("divisor", .int ((Nat.gcd k.natAbs j.natAbs : Nat) : Int))] E) ∧
      (Nat.gcd k.natAbs j.natAbs = 1 → ∀ a b, Mt k j a b → AftD K H (.step a b) Q)) ∨
   (d.is .Step = false ∧ SzD 100000 d ∧ AftE K H "BadStep" (part "step") E)) := h.un
theorem mateO {K : Frag} {cs : List Cn} {ts : List Ty0} {v : V} {d : Dt} {H : Hp} {Q : VK} {E : XK} (i : IsV K H v d) (o : okT cs ts d = true) (h :
  ((∃ k j, d = .step k j ∧ ¬ (k = 0 ∧ j = 0) ∧ k.natAbs < 2 ^ 900 ∧ j.natAbs < 2 ^ 900 ∧ (1 < Nat.gcd k.natAbs j.natAbs → AftE K H "Common" [("divisor", .int ((Nat.gcd k.natAbs j.natAbs : Nat) : Int))] E) ∧
      (Nat.gcd k.natAbs j.natAbs = 1 → ∀ a b, Mt k j a b → AftD K H (.step a b) Q)) ∨
   (d.is .Step = false ∧ SzD 100000 d ∧ AftE K H "BadStep" (part "step") E))) : spMate K cs ts [v] H Q E := ⟨v, d, rfl, i, o, h⟩
/-- from the inverse to the mate -/
theorem mt_of {k j s kk a : Int} (hk : k ≠ 0) (s0 : 0 ≤ s) (s1 : s < ((k.natAbs : Nat) : Int)) (e : j * s - 1 = kk * ((k.natAbs : Nat) : Int)) (ha : a = if 2 * s > ((k.natAbs : Nat) : Int) then s - ((k.natAbs : Nat) : Int) else s) : Mt k j a ((a * j - 1).fdiv k) := by
  obtain ⟨c, ec⟩ : ∃ c, a * j - 1 = c * k := by
    have hs : ((k.natAbs : Nat) : Int) = k ∨ ((k.natAbs : Nat) : Int) = -k := by omega
    rw [ha]
    split
    · rcases hs with h | h
      · exact ⟨kk - j, by rw [h] at e ⊢; grind⟩
      · exact ⟨-kk + j, by rw [h] at e ⊢; grind⟩
    · rcases hs with h | h
      · exact ⟨kk, by rw [h] at e; grind⟩
      · exact ⟨-kk, by rw [h] at e; grind⟩
  have ef : (a * j - 1).fdiv k = c := by
    rw [ec, Int.mul_fdiv_cancel _ hk]
  refine ⟨by rw [ef]; grind, fun z => absurd z hk, fun _ => ?_, fun _ => ?_⟩
  · rw [ha]
    split <;> omega
  · rw [ha]
    split <;> omega
theorem invI {K : Frag} {vs : List V} {H : Hp} {Q : VK} {E : XK} (h : spInv K vs H Q E) : ∃ (n m : Int), vs = [.int n, .int m] ∧ 1 ≤ m ∧ m.natAbs < 2 ^ 1900 ∧ Nat.gcd n.natAbs m.natAbs = 1 ∧ ∀ s H', Same H H' → 0 ≤ s → s < m → (∃ k, n * s - 1 = k * m) → Q (.int s) H' := h.un
theorem invO {K : Frag} {n m : Int} {H : Hp} {Q : VK} {E : XK} (h1 : 1 ≤ m) (h2 : m.natAbs < 2 ^ 1900) (h3 : Nat.gcd n.natAbs m.natAbs = 1) (h : ∀ s H', Same H H' → 0 ≤ s → s < m → (∃ k, n * s - 1 = k * m) → Q (.int s) H') : spInv K [.int n, .int m] H Q E := ⟨n, m, rfl, h1, h2, h3, h⟩
end Sp
end
section
set_option Elab.async false
set_option linter.all false
set_option exponentiation.threshold 5000
set_option maxRecDepth 100000
set_option maxHeartbeats 4000000
namespace Sp
open PySem PySem.Spec PyProof.Rows L2
open PySem.W (Frag)
abbrev FP (K : Frag) (x q : Str) (st : Stmt) (dvs : List V) (f : Addr) (fd : FuncData) : Prop := FunD K x q (defArgs st) (defBody st) (defScope st) dvs [] f fd
/-! ### errors of any fields -/
def spE (C : Addr) (fl : List Str) : Sp := fun vs H Q _ => ∃ a args, vs = .ref a :: args ∧ args.length = fl.length ∧ H a = some (exo a C none) ∧ ∀ dx H', H dx = none → dx ≠ a → (∀ b, H' b = upd (upd H dx (exd dx (fl.zip args).reverse)) a (exo a C (some dx)) b) → Q .non H'
structure GXN (P : Program) (w : World) (K : Frag) (mg : Str → Option Value) (base : Heap) (k : Nat) (x : Str) (fl : List Str) (C : Addr) : Prop where
  T : OexC K C
  hm : mg x = some (.ref C)
  ex : ∃ (fI : Addr) (fd : FuncData) (ps : List Str), PySem.W.findIn K (.ref C) "__init__" = some (some (.ref fI)) ∧ PySem.W.typeIn K (.ref fI) = some (.type "function") ∧ FnOk P w K mg base (L2.CX P w) k fI fd ps (spE C fl) ∧ Binds K fd ps []
structure RaiseD (C : Addr) (fl : List Str) (vs : List V) (H : Hp) (Q : XK) : Prop where
  un : vs.length ≤ 1000 ∧ ∀ a, H a = none → spE C fl (.ref a :: (vs ++ [])) (upd H a (exo a C none)) (fun v H2 => v = .non ∧ ∃ (d : Addr) (fs : List (Str × V)), H2 a = some (exo a C (some d)) ∧ H2 d = some (exd d fs) ∧ H d = none ∧ Q (.ref C) (some d) (upd (del H2 a) d (.xd fs))) (fun _ _ _ => False)
section
variable {X : Cx} {k : Nat} {x : Str} {fl : List Str} {C : Addr} {e : Expr} {es : List Expr} {ta : TA} {p pos : Pos}
theorem pmkD (G : GXN X.prog X.w X.K X.mg X.base k x fl C) (hr : Room (k + 1) X.A) (hg : Gl X x) (ha : PA X (e :: es) ta) (hdb : (x == ("__debug__" : Str)) = false := by decide)
    (he : starEach (e :: es) X.env = (false, eval e X.env) :: starEach es X.env := by rfl) (hpl : (backTo pos (starEach es X.env)).any (·.1) = false := by rfl) : PMk X (.Call (.Name x p) (e :: es) [] pos) (fun σ H Q => ta σ H fun vs H1 => RaiseD C fl vs H1 Q) := by
  obtain ⟨fI, fd, ps, h1, h2, h3, h4⟩ := G.ex
  exact fun pins s σ H Q I z => (pmk_oex G.T h1 h2 h3 hr h4 .nil passL hg G.hm (PA.mono ha) hdb he hpl) pins s σ H Q I ⟨_, z, fun _ _ y => y.un⟩
end
section
variable {K : Frag} {m : Md} {H0 H : Hp} {L : List (V × Dt)} {vs : List V} {ds : List Dt} {x : Str} {fl : List Str} {E : XK}
theorem IsVs.zipF (i : IsVs K H vs ds) : ∀ {fl : List Str} {gs : List (Str × V)} {fs : List (Str × Dt)}, IsFs K H gs fs → IsFs K H ((fl.zip vs).reverse ++ gs) ((fl.zip ds).reverse ++ fs) := by
  intro fl
  induction fl generalizing vs ds with
  | nil => intro gs fs j; exact j
  | cons f fl ih =>
    intro gs fs j
    cases i with
    | nil => exact j
    | cons a b =>
      rw [List.zip_cons_cons, List.zip_cons_cons, List.reverse_cons, List.reverse_cons, List.append_assoc, List.append_assoc]
      exact ih b (.cons a j)
theorem raiseD (h : Env K m H0 H L) (i : IsVs K H vs ds) (hl : ds.length = fl.length) (hs : Nat.ble ds.length 1000 = true) (k : AftE K H x (fl.zip ds).reverse E) : RaiseD (cX K x) fl vs H E := by
  refine ⟨by rw [i.length]; exact Nat.le_of_ble_eq_true hs, fun a na => ⟨a, vs, by rw [List.append_nil], by rw [i.length]; exact hl, upd_same, fun dx H2 nd ne hh => ?_⟩⟩
  have nd' : H dx = none := by rw [upd_ne ne] at nd; exact nd
  have e1 : H2 a = some (exo a (cX K x) (some dx)) := by rw [hh, upd_same]
  have e2 : H2 dx = some (exd dx (fl.zip vs).reverse) := by rw [hh, upd_ne ne, upd_same]
  refine ⟨rfl, dx, _, e1, e2, nd', ?_⟩
  have s : Same H (upd (del H2 a) dx (.xd (fl.zip vs).reverse)) := fun b o hb => by
    have nb : b ≠ a := ne_of_none hb na
    have nb' : b ≠ dx := ne_of_none hb nd'
    rw [upd_ne nb', del_ne nb, hh, upd_ne nb, upd_ne nb', upd_ne nb]
    exact hb
  refine k.un dx _ _ s nd' upd_same ?_
  have := (i.same s).zipF (fl := fl) (gs := []) (fs := []) .nil
  rw [List.append_nil, List.append_nil] at this
  exact this
end
/-! their __init__ -/
section
variable {P : Program} {w : World} {K : Frag} {mg : Str → Option Value} {base : Heap} {f : Addr} {fd : FuncData} {params : Arguments} {scope : Scope} {qual : Str} {p1 p2 : Str} {C : Addr}
theorem ok_e1 {body : List Stmt} (F : FunD K "__init__" qual params body scope [] [] f fd) (S : FnScope ["self", p1] ["self", p1] scope) (T : OexC K C) (hno : PySem.W.findIn K (.ref C) p1 = some none)
    (hb : ∀ cdv A outer s H E, PSs (cxOf (L2.CX P w) P w K mg base ["self", p1] qual scope f cdv A outer s H E) body (tOst K p1 (tVar 0) (tVar 1))) : FnOk P w K mg base (L2.CX P w) 1 f fd ["self", p1] (spE C [p1]) := by
  refine F.ok S (fun vs H Q E h => by obtain ⟨_, args, rfl, h, _⟩ := h; rw [List.length_cons, h] <;> rfl) (fun cdv A outer s H vs Q E hr h => ⟨_, hb cdv A outer s H E, ?_⟩)
  obtain ⟨a, args, rfl, hl, ha, q⟩ := h
  match args, hl with
  | [v], _ =>
    exact ⟨_, rfl, _, rfl, a, C, rfl, T, hno, .inl ⟨ha, fun dx n ne => q dx _ n ne fun b => rfl⟩⟩
theorem ok_e2 {body : List Stmt} (F : FunD K "__init__" qual params body scope [] [] f fd) (S : FnScope ["self", p1, p2] ["self", p1, p2] scope) (T : OexC K C) (hno : PySem.W.findIn K (.ref C) p1 = some none) (hno2 : PySem.W.findIn K (.ref C) p2 = some none)
    (hb : ∀ cdv A outer s H E, PSs (cxOf (L2.CX P w) P w K mg base ["self", p1, p2] qual scope f cdv A outer s H E) body (tSeq (tOst K p1 (tVar 0) (tVar 1)) (tOst K p2 (tVar 0) (tVar 2)))) : FnOk P w K mg base (L2.CX P w) 1 f fd ["self", p1, p2] (spE C [p1, p2]) := by
  refine F.ok S (fun vs H Q E h => by obtain ⟨_, args, rfl, h, _⟩ := h; rw [List.length_cons, h] <;> rfl) (fun cdv A outer s H vs Q E hr h => ⟨_, hb cdv A outer s H E, ?_⟩)
  obtain ⟨a, args, rfl, hl, ha, q⟩ := h
  match args, hl with
  | [v, u], _ =>
    refine ⟨_, rfl, _, rfl, a, C, rfl, T, hno, .inl ⟨ha, fun dx n ne => ?_⟩⟩
    refine ⟨_, rfl, _, rfl, a, C, rfl, T, hno2, .inr ⟨dx, [(p1, v)], upd_same, by rw [upd_ne ne, upd_same], by simp, ?_⟩⟩
    refine q dx _ n ne fun b => ?_
    by_cases hb : b = dx
    · subst hb
      rw [upd_same, upd_ne ne, upd_same]
      rfl
    · rw [upd_ne hb]
      by_cases hb' : b = a
      · subst hb'
        rw [upd_same, upd_same]
      · rw [upd_ne hb', upd_ne hb', upd_ne hb, upd_ne hb]
end
/-! ### self.f = e in an __init__ -/
structure SetD (K : Frag) (f : Str) (x y : V) (H : Hp) (P : Hp → Prop) : Prop where
  un : ∃ a C dx fs, x = .ref a ∧ H a = some (.ins C dx fs) ∧ Cls K C ∧ NoAttr K C f ∧ fs.length < 1000 ∧ P (upd H a (.ins C dx (putF f y fs)))
def sFldD (K : Frag) (ta tv : TE) (f : Str) : TS := fun D σ H => tv σ H fun y H1 => ta σ H1 fun x H2 => SetD K f x y H2 (D.nx σ)
theorem ps_fldD {X : Cx} {o value : Expr} {f : Str} {pos pos' : Pos} {ta tv : TE} (ha : PE X o ta) (hv : PE X value tv) (hs : swapsWith value (some (.Attribute o f pos')) pos.line X.env = pure false) : PS X (.Assign [.Attribute o f pos'] value pos) (sFldD X.K ta tv f) := ⟨fun pins s σ H D I z => (ps_fld (PE.mono ha) (PE.mono hv) hs).run pins s σ H D I ⟨_, z, fun _ _ z1 => ⟨_, z1, fun _ _ z2 => z2.un⟩⟩⟩
theorem setD {K : Frag} {mg : Str → Option Value} {cs : List Cn} {ts : List Ty0} {H0 H : Hp} {L : List (V × Dt)} {a dx : Addr} {c : Cn} {gs gs' : List (Str × V)} {f : Str} {y : V} {P : Hp → Prop} (G : G0 K mg cs ts) (h : Env K (.ini a (ca K c) dx gs) H0 H L)
    (hp : putF f y gs = gs') (hn : noCls (gs.map (·.1)) = true) (hl : Nat.blt gs.length 1000 = true) (hc : c ∈ cs) (hf : f ∈ c.flds) (k : ∀ H', Env K (.ini a (ca K c) dx gs') H0 H' L → P H') : SetD K f (.ref a) y H P := by
  subst hp
  have cf := G.cf c hc
  exact ⟨a, _, dx, gs, rfl, h.at_, cf.cl, cf.no f hf, Nat.le_of_ble_eq_true hl, k _ (h.set hn)⟩
/-! ### further calls -/
section
variable {X : Cx} {CX : CXT} {k : Nat} {C : Addr} {sp : Sp} {E : XK} {o e : Expr} {es : List Expr} {m f x : Str} {apos p pos : Pos} {ta : TE} {t : TA} {pl : Sem Bool} {ps : List Str}
/-- the class is no AttributeError -/
def Na (K : Frag) (c : Value) : Prop := PySem.W.subIn K c (.type "AttributeError") = some false
theorem cx_in {pins : List (Addr × Obj)} {σ : L2.St} {H : Hp} {s s' : Shared} {u : Value} (I : Inv X pins σ H s) (c : L2.CX X.prog X.w X.stack H s E u s') : X.K.In s'.heap ∧ ∃ a oe cls d H', u = .ref a ∧ s'.heap.get? a = some oe ∧ oe.cls = cls ∧ E cls d H' := by
  obtain ⟨a, B, H', cls, d, rfl, ⟨st, _, _, oe, vs, _, _, _, he, hz, _⟩, _, ub, _, _, _, q⟩ := c
  refine ⟨fun b o hb => st b o ?_, a, oe, cls, d, H', rfl, he, hz.1, q⟩
  have hb' := I.ok.mod.kin b o hb
  obtain ⟨h1, h2⟩ := I.bs b o hb'
  refine ub.keep b o h1 h2 fun z => ?_
  rcases List.mem_cons.mp (I.stkSub b z) with e | e
  · have h1 := Heap.lt_size hb'
    have h2 := I.ok.bsz
    have h3 := I.ok.above
    exact absurd (Nat.lt_of_lt_of_le h1 (Nat.le_trans h2 h3)) (by rw [e]; exact Nat.lt_irrefl _)
  · exact I.ok.nofr hb' e
theorem note_none {s : Shared} {A : Around} {a : Addr} {oe : Obj} {o n cls : Value} {Q : Unit → Shared → Prop} {E0 : Value → Shared → Prop} (hK : X.K.In s.heap) (he : s.heap.get? a = some oe) (hc : oe.cls = cls) (na : Na X.K cls) (q : Q () s) : wpAny (model X.prog X.w) A (noteIf true o n (.ref a)) Q E0 s := by
  have LT : PySem.W.Looks (model X.prog X.w) s.heap (typeOf (.ref a)) cls := fun A Q E s k q => wpAny_typeOf_ref (k _ _ he) (by rw [hc]; exact q)
  have LI : PySem.W.Looks (model X.prog X.w) s.heap (isInstance (.ref a) (.type "AttributeError")) false := LT.andThen (PySem.W.looks_subIn hK na)
  show wpAny _ A (noteAttr (.ref a) o n) Q E0 s
  unfold noteAttr
  refine wpAny_bind (m := lacksNameAndObj (.ref a)) ?_
  unfold lacksNameAndObj
  refine wpAny_bind (LI.here ?_)
  exact wpAny_pure (wpAny_pure q)
/-- a property that may raise -/
theorem getpropX {pins : List (Addr × Obj)} {σ : L2.St} {H : Hp} {s : Shared} {Q : VK} {b : Bool} {a dx g : Addr} {fs : List (Str × V)} {fd : FuncData} {p : Addr} (I : Inv X pins σ H s) (ea : H a = some (.ins C dx fs)) (c : Cls X.K C) (hp : PropOf X.K C f p g)
    (F : FnOk X.prog X.w X.K X.mg X.base (L2.CX X.prog X.w) k g fd ps sp) (hr : Room (k + 1) X.A) (hb : Binds X.K fd ps []) (hx : Passes (L2.CX X.prog X.w) X E) (h : sp [.ref a] H Q (fun c d H' => Na X.K c ∧ E c d H')) : wpAny (model X.prog X.w) X.A (getAttr (.ref a) f b) (EP X pins σ Q) X.xe s := by
  obtain ⟨mA, O, _⟩ := ins_get I.hok ea
  obtain ⟨od, J, _⟩ := O.look
  obtain ⟨rest, hrec⟩ := hp.rec_
  obtain ⟨cd, hcd, _⟩ := PySem.W.any_some c.hd
  have hc : (PySem.W.clsIn X.K C).isSome = true := by rw [hcd]; exact rfl
  have I1 := I.tok (s.toks + 1)
  refine PySem.W.get_bind I.kIn J (PySem.W.plainGet_of (c.get f)).1 (PySem.W.findObj_data hc hp.at_ hp.get hp.tak) (PySem.W.plainGet_of (c.get f)).2 (wpAny_call (PySem.W.prop_get (s := { s with toks := s.toks + 1 }) I.kIn hrec ?_))
  have hl : ([Value.ref a] ++ []).length = ps.length := F.len _ _ _ _ h
  refine codeAny_mono (F.run X.A.in1 X.stack _ H ⟨[.ref a], []⟩ [.ref a] [.ref a] Q _ hr.in1 I1.env0.in1 (hb _ [.ref a] I1.kIn hl) (.cons rfl .nil) h) fun r s' hq => ?_
  match r, hq with
  | .error er, hq =>
    obtain ⟨hK, a', oe, cls, d, H', rfl, he, hcl, na, _⟩ := cx_in I1 hq
    refine note_none hK he hcl na ?_
    obtain ⟨x1, x2, x3, x4, x5, y1, y2, y3, y4, y5, y6, y7, y8⟩ := hq
    exact hx pins σ H { s with toks := s.toks + 1 } _ s' I1 ⟨x1, x2, x3, x4, x5, y1, y2, y3, y4, y5, y6, y7, y8.2⟩
  | .ok (.ret u), hq =>
    obtain ⟨v, H', I3, rv, q3⟩ := I1.after hq
    show wpAny _ _ (handedOut u) _ _ _
    rw [PySem.W.handedOut_of (handed_of rv)]
    exact wpAny_pure ⟨v, H', I3, rv, q3⟩
  | .ok .next, hq => exact hq.elim
  | .ok .brk, hq => exact hq.elim
  | .ok .cont, hq => exact hq.elim
theorem pe_propX (he : PE X o ta) (G : GP X.prog X.w X.K X.mg X.base (L2.CX X.prog X.w) k C f sp) (hr : Room (k + 1) X.A) (hx : Passes (L2.CX X.prog X.w) X E) (hab : attributeBase o f X.env (eval o X.env) = eval o X.env) : PE X (.Attribute o f pos) (tPropD C sp (fun c d H' => Na X.K c ∧ E c d H') ta) := by
  obtain ⟨p, g, fd, ps, hp, F, hb⟩ := G.ex
  refine ⟨fun pins s σ H Q I h => attr_of hab (thn (he.run pins s σ H _ I h) fun u s1 hh => ?_)⟩
  obtain ⟨x, H1, I1, rx, a, dx, fs, ex, ea, q⟩ := hh
  subst ex
  cases (show u = Value.ref a from rx)
  exact getpropX I1 ea G.c hp F hr hb hx q
theorem aeNa {K : Frag} {H : Hp} {x : Str} {fs : List (Str × Dt)} {E : XK} (na : Na K (.ref (cX K x))) (h : AftE K H x fs E) : AftE K H x fs (fun c d H' => Na K c ∧ E c d H') := .mk fun dd H' gs s n e i => ⟨na, h.un dd H' gs s n e i⟩
/-- a static method without arguments -/
structure GS0 (P : Program) (w : World) (K : Frag) (mg : Str → Option Value) (base : Heap) (CX : CXT) (k : Nat) (C : Addr) (m : Str) (sp : Sp) : Prop where
  ex : GS P w K mg base CX k C m sp
theorem pe_gs0 (he : PE X o ta) (G : GS0 X.prog X.w X.K X.mg X.base CX k C m sp) (hr : Room k X.A) (hx : Passes CX X E)
    (ht : eval (.Call (.Attribute o m apos) [] [] pos) X.env = (do
      let ov ← eval o X.env
      standAt apos.atName
      let (f, first) ← holding [ov] (getMethod ov m pl)
      callWith pos f first (backTo pos (starEach [] X.env)) (backToKw pos (keywordEach [] X.env))) := by rfl) :
    PE X (.Call (.Attribute o m apos) [] [] pos) (fun σ H Q => ta σ H fun x H1 => x = .ref C ∧ sp [] H1 Q E) := by
  obtain ⟨mc, p, g, fd, ps, c, F, hb⟩ := G.ex.ex
  obtain ⟨rest, hp⟩ := c.rc
  refine ⟨fun pins s σ H Q I h => PySem.W.methodCall_KW (pl := pl) (thn (he.run pins s σ H _ I h) fun u s1 hh => ?_) ht⟩
  obtain ⟨x, H1, I1, rx, ex, q⟩ := hh
  subst ex
  cases (show u = Value.ref C from rx)
  refine PySem.W.method_cls I1.kIn c.ga (PySem.W.cls_bind I1.kIn c.rd c.at_ (wpAny_call (PySem.W.sm_get (s := { s1 with toks := s1.toks + 1 }) I1.kIn hp (PySem.W.handed_on rfl ?_))))
  have I2 := I1.tok (s1.toks + 1)
  exact PySem.W.callWith_K0 (first := []) I2.kIn c.kp (run_fn (dvs := []) (ds := []) F hr hb .nil hx I2 .nil q)
end
/-! ### the sizes of the arguments -/
section
variable {cs : List Cn} {ts : List Ty0} {n : Nat} {l : List Dt} {G : Prop}
theorem zsStart (h : DsOk cs ts n l) (k : DsOk cs ts n l → G) : G := k h
theorem zsNil (k : G) : DsOk cs ts n [] → G := fun _ => k
theorem zsInt {i : Int} (k : Bi i n → DsOk cs ts n l → G) : DsOk cs ts n (.int i :: l) → G := fun h => k ⟨h.1.2.lt⟩ h.2
theorem zsRat {q : Rat} (k : Bq q n → DsOk cs ts n l → G) : DsOk cs ts n (.rat q :: l) → G := fun h => k ⟨h.1.2.sz⟩ h.2
theorem zsStep {a b : Int} (k : Bi a n → Bi b n → DsOk cs ts n l → G) : DsOk cs ts n (.step a b :: l) → G := fun h => k ⟨h.1.2.1.1⟩ ⟨h.1.2.2.1⟩ h.2
theorem zsStem {D F : Rat} (k : Bq D n → Bq F n → DsOk cs ts n l → G) : DsOk cs ts n (.stem D F :: l) → G := fun h => k ⟨h.1.2.1.1⟩ ⟨h.1.2.2.1⟩ h.2
theorem zsTable {a b c d : Int} (k : Bi a n → Bi b n → Bi c n → Bi d n → DsOk cs ts n l → G) : DsOk cs ts n (.table a b c d :: l) → G := fun h => k ⟨h.1.2.1.1.1⟩ ⟨h.1.2.1.2.1⟩ ⟨h.1.2.2.1.1⟩ ⟨h.1.2.2.2.1⟩ h.2
theorem zsAny {d : Dt} (k : okT cs ts d = true → SzD n d → DsOk cs ts n l → G) : DsOk cs ts n (d :: l) → G := fun h => k h.1.1 h.1.2 h.2
end
theorem isI_eq (d : Dt) : (sub0 d.ty .int && !sub0 d.ty .bool) = d.isI := by
  unfold Dt.isI
  cases d.ty <;> rfl
theorem isR_eq (d : Dt) : (sub0 d.ty (.own .Ratio) || d.isI) = d.isR := by
  unfold Dt.isR Dt.isI
  cases d.ty <;> (first | rfl | (rename_i c; cases c <;> rfl))
theorem is_eq (c : Cn) (d : Dt) : sub0 d.ty (.own c) = d.is c := by
  unfold Dt.is
  cases d.ty <;> rfl
theorem finB {K : Frag} {H0 H : Hp} {L : List (V × Dt)} {b b' : Bool} {Q : VK} {E : XK} (q : Aft K H0 (.ok (.bl b)) Q E) (h : Env K .fn H0 H L) (e : b' = b) : Q (.bl b') H := q.un _ H h.gr (e ▸ .bl _)
theorem finN {K : Frag} {H0 H : Hp} {L : List (V × Dt)} {b b' : Int} {Q : VK} {E : XK} (q : Aft K H0 (.ok (.int b)) Q E) (h : Env K .fn H0 H L) (e : b' = b) : Q (.int b') H := q.un _ H h.gr (e ▸ .int _)
theorem and_false_of {a b : Bool} (h : a = false) : (a && b) = false := by rw [h]; rfl
theorem absOne (x : Int) : decide (V.int (if x < 0 then -x else x) = V.int 1) = decide (x.natAbs = 1) := decide_eq_decide.mpr (by rw [V.int.injEq]; split <;> omega)
theorem vEq (a b : Int) : decide (V.int a = V.int b) = decide (a = b) := decide_eq_decide.mpr (by rw [V.int.injEq])
theorem crs_nz {k j l i : Int} (h : (crs k j l i).natAbs = 1) : ¬ (k + l = 0 ∧ j + i = 0) := fun ⟨a, b⟩ => by
  have e1 : l = -k := by omega
  have e2 : i = -j := by omega
  subst e1 e2
  unfold crs at h
  rw [show k * -j - -k * j = 0 by grind] at h
  cases h
end Sp
end
section
set_option Elab.async false
set_option linter.all false
set_option exponentiation.threshold 5000
set_option maxRecDepth 100000
set_option maxHeartbeats 4000000
namespace Sp
open PySem PySem.Spec PyProof.Rows L2 TL
open PySem.W (Frag)
/-! ### numbers as texts -/
def dS (i : Int) : Str := Str.ofString (toString i)
theorem tl_dS (i : Int) : tl (dS i) = if i < 0 then 45 :: numL i.natAbs else numL i.natAbs := by
  unfold dS
  by_cases h : i < 0
  · rw [if_pos h, tl_ofString, toString_neg h, String.toList_append, List.map_append, show (0 - i) = ((i.natAbs : Nat) : Int) by omega, ← tl_num, tl_ofString]
    rfl
  · rw [if_neg h, ← tl_num, show ((i.natAbs : Nat) : Int) = i by omega]
def digs : List Nat → List Nat
  | 45 :: r => r
  | l => l
def isDig (c : Nat) : Bool := decide (48 ≤ c) && decide (c ≤ 57)
def okD (l : List Nat) : Bool := decide (1 ≤ (digs l).length) && (decide ((digs l).length ≤ 60) && (digs l).all isDig)
def intW (w : Str) : Option Int := if okD (tl w) = true then (match intText? w with | some n => if dS n = w then some n else none | none => none) else none
theorem allDig {l : List Nat} (h : l.all isDig = true) : NumText.AllDigits l := fun c hc => by
  have := List.all_eq_true.mp h c hc
  have := Bool.and_eq_true_iff.mp this
  exact ⟨of_decide_eq_true this.1, of_decide_eq_true this.2⟩
theorem digAll {l : List Nat} (h : NumText.AllDigits l) : l.all isDig = true := List.all_eq_true.mpr fun c hc => Bool.and_eq_true_iff.mpr ⟨decide_eq_true (h c hc).1, decide_eq_true (h c hc).2⟩
theorem digs_of (l : List Nat) : (∃ r, l = 45 :: r ∧ digs l = r) ∨ ((∀ r, l ≠ 45 :: r) ∧ digs l = l) := by
  unfold digs
  split
  · exact .inl ⟨_, rfl, rfl⟩
  · rename_i h
    exact .inr ⟨fun r e => h r e, rfl⟩
theorem intText_ok {w : Str} (h : okD (tl w) = true) : ∃ n, intText? w = some n := by
  unfold okD at h
  obtain ⟨h1, h⟩ := Bool.and_eq_true_iff.mp h
  obtain ⟨h2, h3⟩ := Bool.and_eq_true_iff.mp h
  have h1 := of_decide_eq_true h1
  have h2 := of_decide_eq_true h2
  have h3 := allDig h3
  rcases digs_of (tl w) with ⟨r, e, er⟩ | ⟨_, er⟩
  · rw [er] at h1 h2 h3
    refine ⟨_, intText_neg (cs := r) e h3 (fun z => by rw [z] at h1; cases h1) ?_⟩
    rw [len_tl, e, List.length_cons]
    omega
  · rw [er] at h1 h2 h3
    refine ⟨_, intText_digits h3 (fun z => ?_) ?_⟩
    · have : tl w = [] := z
      rw [this] at h1
      cases h1
    · rw [len_tl]
      omega
theorem digs_num (n : Nat) : digs (numL n) = numL n := by
  rcases digs_of (numL n) with ⟨r, e, _⟩ | ⟨_, er⟩
  · have := numL_digits n 45 (by rw [e]; exact List.mem_cons_self)
    omega
  · exact er
theorem digs_dS (i : Int) : digs (tl (dS i)) = numL i.natAbs := by
  rw [tl_dS]
  split
  · rfl
  · exact digs_num _
theorem len_num {i : Int} (h : i.natAbs < 10 ^ 60) : 1 ≤ (numL i.natAbs).length ∧ (numL i.natAbs).length ≤ 60 := by
  refine ⟨?_, numL_len (by decide) h⟩
  cases e : numL i.natAbs with
  | nil => exact absurd e (numL_ne _)
  | cons a l => simp
theorem okD_dS {i : Int} (h : i.natAbs < 10 ^ 60) : okD (tl (dS i)) = true := by
  unfold okD
  rw [digs_dS]
  obtain ⟨a, b⟩ := len_num h
  rw [decide_eq_true a, decide_eq_true b, digAll (numL_digits _)]
  rfl
theorem intText_dS {i : Int} (h : i.natAbs < 10 ^ 60) : intText? (dS i) = some i := by
  obtain ⟨a, b⟩ := len_num h
  have e := tl_dS i
  by_cases hi : i < 0
  · rw [if_pos hi] at e
    rw [intText_neg (cs := numL i.natAbs) e (numL_digits _) (numL_ne _) (by rw [len_tl, e, List.length_cons]; omega), numL_val]
    congr 1
    omega
  · rw [if_neg hi] at e
    rw [intText_digits (x := dS i) (by rw [show (dS i).cps.toList = numL i.natAbs from e]; exact numL_digits _) (by rw [show (dS i).cps.toList = numL i.natAbs from e]; exact numL_ne _) (by rw [len_tl, e]; omega),
      show (dS i).cps.toList = numL i.natAbs from e, numL_val]
    congr 1
    omega
theorem intW_dS {i : Int} (h : i.natAbs < 10 ^ 60) : intW (dS i) = some i := by
  unfold intW
  rw [if_pos (okD_dS h), intText_dS h]
  exact if_pos rfl
theorem intW_some {w : Str} {i : Int} (h : intW w = some i) : w = dS i ∧ i.natAbs < 10 ^ 60 := by
  unfold intW at h
  split at h
  · rename_i hk
    split at h
    · rename_i n hn
      split at h
      · rename_i e
        cases h
        refine ⟨e.symm, ?_⟩
        rw [← e] at hk
        unfold okD at hk
        rw [digs_dS] at hk
        have h2 := of_decide_eq_true (Bool.and_eq_true_iff.mp (Bool.and_eq_true_iff.mp hk).2).1
        have hv := numL_val i.natAbs
        have : ∀ (l : List Nat) (a k : Nat), NumText.AllDigits l → a < 10 ^ k → l.foldl (fun acc c => acc * 10 + (c - 48)) a < 10 ^ (k + l.length) := by
          intro l
          induction l with
          | nil => intro a k _ h; exact h
          | cons c l ih =>
            intro a k hd h
            have hc := hd c List.mem_cons_self
            have := ih (a * 10 + (c - 48)) (k + 1) (fun d hd' => hd d (List.mem_cons_of_mem _ hd')) (by rw [Nat.pow_succ]; omega)
            rw [List.length_cons, show k + (l.length + 1) = k + 1 + l.length by omega]
            exact this
        have := this (numL i.natAbs) 0 0 (numL_digits _) (by decide)
        unfold NumText.digitsVal at hv
        rw [hv, Nat.zero_add] at this
        exact Nat.lt_of_lt_of_le this (Nat.pow_le_pow_right (by decide) h2)
      · cases h
    · cases h
  · cases h
theorem dS_free {i : Int} {s : Nat} (h : (s < 48 ∨ 57 < s)) (h2 : s ≠ 45) : s ∉ tl (dS i) := by
  rw [tl_dS]
  split
  · intro m
    rcases List.mem_cons.mp m with e | m
    · exact h2 e
    · exact numL_free h m
  · exact numL_free h
theorem len_dS {i : Int} (h : i.natAbs < 10 ^ 60) : (dS i).length ≤ 61 := by
  obtain ⟨a, b⟩ := len_num h
  rw [len_tl, tl_dS]
  split
  · rw [List.length_cons]
    omega
  · omega
theorem tl_rp (w : Str) : tl (Txt.removeprefix w "-") = digs (tl w) := by
  unfold Txt.removeprefix
  rw [PySem.StrLaws.subAt_eq]
  have hl : w.length = (tl w).length := len_tl w
  rcases digs_of (tl w) with ⟨r, e, er⟩ | ⟨hn, er⟩
  · rw [er]
    have e' : w.cps.toList = 45 :: r := e
    rw [e', List.drop_zero, if_pos (show ((45 :: r).take ("-" : Str).length == ("-" : Str).cps.toList) = true from rfl)]
    show tl (if (w.length - 1 == w.length) = true then w else PySem.Builtin.Str.strSub w 1 w.length) = r
    rw [if_neg (by rw [hl, e, List.length_cons]; simp)]
    show (w.cps.extract 1 w.length).toList = r
    rw [Array.toList_extract, e', List.extract_eq_drop_take, hl, e]
    simp
  · rw [er]
    have : ((w.cps.toList.drop 0).take ("-" : Str).length == ("-" : Str).cps.toList) = false := by
      rw [List.drop_zero]
      show (List.take 1 (tl w) == [45]) = false
      cases hw : tl w with
      | nil => rfl
      | cons c r =>
        rw [List.take_succ_cons, List.take_zero]
        have : c ≠ 45 := fun z => hn r (by rw [hw, z])
        simp [this]
    rw [this]
    rfl
/-! ### what reads texts -/
abbrev errT (k : Int) : Out := .err "BadText" [("word", .int k), ("line", .int 0)]
inductive RIntOf : List Dt → Out → Prop
  | some {w : Str} {n : Int} (h : intW w = some n) (l : w.length ≤ 100000) : RIntOf [.str w] (.ok (.int n))
  | none {w : Str} (h : intW w = none) (l : w.length ≤ 100000) : RIntOf [.str w] (.ok .non)
/-- the words of a text -/
def WA (K : Frag) (H : Hp) (p l : Addr) (ws : List Str) (k : Nat) : Prop := ∃ dx, H p = some (.ins (ca K .Words) dx [("words", .ref l), ("done", .int k), ("last", .int (ws.length : Nat))]) ∧ H l = some (.lst (ws.map V.str)) ∧ ws.length ≤ 100000 ∧ ∀ w ∈ ws, w.length ≤ 100000
/-- all but the object at p stays -/
def Wr (p : Addr) (H H' : Hp) : Prop := ∀ b o, b ≠ p → H b = some o → H' b = some o
theorem Wr.trans {p : Addr} {H H1 H2 : Hp} (x : Wr p H H1) (y : Wr p H1 H2) : Wr p H H2 := fun b o n e => y b o n (x b o n e)
theorem Same.wr {p : Addr} {H H' : Hp} (x : Same H H') : Wr p H H' := fun b o _ e => x b o e
theorem WA.same {K : Frag} {H H' : Hp} {p l : Addr} {ws : List Str} {k : Nat} (h : WA K H p l ws k) (s : Same H H') : WA K H' p l ws k := let ⟨dx, a, b, c⟩ := h; ⟨dx, s _ _ a, s _ _ b, c⟩
def AftW (K : Frag) (H : Hp) (p l : Addr) (ws : List Str) (o : Out) (k' : Nat) (Q : VK) (E : XK) : Prop := match o with
  | .ok d => ∀ v H', Wr p H H' → WA K H' p l ws k' → IsV K H' v d → Q v H'
  | .err x fs => ∀ (dd : Addr) (H' : Hp) (gs : List (Str × V)), Wr p H H' → H dd = none → H' dd = some (.xd gs) → IsFs K H' gs fs → E (.ref (cX K x)) (some dd) H'
/-- a def that takes of the words -/
structure spW (K : Frag) (R : List Str → Nat → Out → Nat → Prop) (vs : List V) (H : Hp) (Q : VK) (E : XK) : Prop where
  un : ∃ p l ws k o k', vs = [.ref p] ∧ WA K H p l ws k ∧ R ws k o k' ∧ AftW K H p l ws o k' Q E
/-- .. that looks alone -/
structure spWp (K : Frag) (R : List Str → Nat → Out → Prop) (vs : List V) (H : Hp) (Q : VK) (E : XK) : Prop where
  un : ∃ p l ws k o, vs = [.ref p] ∧ WA K H p l ws k ∧ R ws k o ∧ Aft K H o Q E
inductive RIsOver : List Str → Nat → Out → Prop
  | mk {ws : List Str} {k : Nat} : RIsOver ws k (.ok (.bl (decide (k = ws.length))))
inductive RTake : List Str → Nat → Out → Nat → Prop
  | ok {ws : List Str} {k : Nat} {w : Str} (h : ws[k]? = some w) : RTake ws k (.ok (.str w)) (k + 1)
  | over {ws : List Str} : RTake ws ws.length (errT (ws.length : Nat)) ws.length
inductive RRefuse : List Str → Nat → Out → Nat → Prop
  | mk {ws : List Str} {k : Nat} : RRefuse ws (k + 1) (errT (k : Nat)) (k + 1)
def rdI (ws : List Str) (k : Nat) : Option Int := match ws[k]? with
  | some w => intW w
  | none => none
inductive RInteg : List Str → Nat → Out → Nat → Prop
  | ok {ws : List Str} {k : Nat} {n : Int} (h : rdI ws k = some n) : RInteg ws k (.ok (.int n)) (k + 1)
  | no {ws : List Str} {k : Nat} (l : k ≤ ws.length) (h : rdI ws k = none) : RInteg ws k (errT (k : Nat)) k
inductive REndW : List Str → Nat → Out → Prop
  | ok {ws : List Str} : REndW ws ws.length (.ok .non)
  | no {ws : List Str} {k : Nat} (h : k ≠ ws.length) : REndW ws k (errT (k : Nat))
inductive RTakeS : List Str → Nat → Out → Nat → Prop
  | ok {ws : List Str} {k : Nat} {a b : Int} (h : rdI ws k = some a) (h2 : rdI ws (k + 1) = some b) (nz : ¬ (a = 0 ∧ b = 0)) : RTakeS ws k (.ok (.step a b)) (k + 2)
  | e1 {ws : List Str} {k : Nat} (l : k ≤ ws.length) (h : rdI ws k = none) : RTakeS ws k (errT (k : Nat)) k
  | e2 {ws : List Str} {k : Nat} {a : Int} (h : rdI ws k = some a) (h2 : rdI ws (k + 1) = none) : RTakeS ws k (errT ((k + 1 : Nat) : Int)) k
  | z {ws : List Str} {k : Nat} (h : rdI ws k = some 0) (h2 : rdI ws (k + 1) = some 0) : RTakeS ws k (errT ((k + 1 : Nat) : Int)) k
theorem rdI_lt {ws : List Str} {k : Nat} {n : Int} (h : rdI ws k = some n) : k < ws.length := by
  unfold rdI at h
  by_cases z : k < ws.length
  · exact z
  · rw [List.getElem?_eq_none (by omega)] at h
    cases h
/-! their __init__, the text's words, the reading of a whole text -/
def spInitW (K : Frag) : Sp := fun vs H Q _ => ∃ (a dx : Addr) (x y z : V), vs = [.ref a, x, y, z] ∧ H a = some (.ins (ca K .Words) dx []) ∧ ∀ H', Wr a H H' → H' a = some (.ins (ca K .Words) dx [("words", x), ("done", y), ("last", z)]) → Q .non H'
def wsOf (x : Str) : List Str := Txt.split x " "
/-- a text that may be read -/
structure TOk (x : Str) : Prop where
  l : x.length ≤ 100000
  n : (wsOf x).length ≤ 100000
  w : ∀ w ∈ wsOf x, w.length ≤ 100000
structure spWords (K : Frag) (cs : List Cn) (ts : List Ty0) (vs : List V) (H : Hp) (Q : VK) (E : XK) : Prop where
  un : ∃ v d, vs = [v] ∧ IsV K H v d ∧ okT cs ts d = true ∧
  ((∃ x, d = .str x ∧ TOk x ∧ ∀ p l H', Same H H' → H p = none → WA K H' p l (wsOf x) 0 → Q (.ref p) H') ∨ (decide (d.ty = .str) = false ∧ AftE K H "BadText" [("word", .int 0), ("line", .int 0)] E))
/-- what a whole text says, by a taker -/
inductive RReadBy (R : List Str → Nat → Out → Nat → Prop) : List Dt → Out → Prop
  | ok {x : Str} {d : Dt} (t : TOk x) (r : R (wsOf x) 0 (.ok d) (wsOf x).length) : RReadBy R [.str x] (.ok d)
  | err {x y : Str} {fs : List (Str × Dt)} {k : Nat} (t : TOk x) (r : R (wsOf x) 0 (.err y fs) k) : RReadBy R [.str x] (.err y fs)
  | more {x : Str} {d : Dt} {k : Nat} (t : TOk x) (r : R (wsOf x) 0 (.ok d) k) (h : k ≠ (wsOf x).length) : RReadBy R [.str x] (errT (k : Nat))
  | no {d : Dt} (h : decide (d.ty = .str) = false) : RReadBy R [d] (errT 0)
structure spReadW (K : Frag) (cs : List Cn) (ts : List Ty0) (f : Addr) (R : List Str → Nat → Out → Nat → Prop) (vs : List V) (H : Hp) (Q : VK) (E : XK) : Prop where
  un : ∃ v d o, vs = [v, .ref f] ∧ IsV K H v d ∧ okT cs ts d = true ∧ RReadBy R [d] o ∧ Aft K H o Q E
structure spReadC (K : Frag) (cs : List Cn) (ts : List Ty0) (R : List Str → Nat → Out → Nat → Prop) (vs : List V) (H : Hp) (Q : VK) (E : XK) : Prop where
  un : ∃ C v d o, vs = [C, v] ∧ IsV K H v d ∧ okT cs ts d = true ∧ RReadBy R [d] o ∧ Aft K H o Q E
inductive RStrS : List Dt → Out → Prop
  | mk {k j : Int} (h : k.natAbs < 10 ^ 60) (h2 : j.natAbs < 10 ^ 60) : RStrS [.step k j] (.ok (.str (dS k ++ (Str.ofString " " ++ dS j))))
theorem log60 {x : Int} (h : x.natAbs < 10 ^ 60) : x.natAbs.log2 < 1920 := PySem.Flt.log2_lt_of (by decide) (Nat.lt_of_lt_of_le h (by decide))
end Sp
end
section
set_option Elab.async false
set_option linter.all false
set_option exponentiation.threshold 5000
set_option maxRecDepth 100000
set_option maxHeartbeats 4000000
namespace Sp
open PySem PySem.Spec PyProof.Rows L2
open PySem.W (Frag)
/-! ### str(x) of an own instance -/
structure rStrOwn (C : Addr) (sp : Sp) (E : XK) (xs : List V) (H : Hp) (Q : VK) : Prop where
  un : ∃ a dx fs, xs = [.ref a] ∧ H a = some (.ins C dx fs) ∧ sp [.ref a] H (fun v H' => (∃ y, v = .str y) ∧ Q v H') E
section
variable {X : Cx} {CX : CXT} {k : Nat} {C g : Addr} {fd : FuncData} {ps ks : List Str} {sp : Sp} {E : XK}
theorem run_in2 {pins : List (Addr × Obj)} {σ : L2.St} {H : Hp} {s : Shared} {Q : VK} {us : List Value} {vs : List V} (F : FnOk X.prog X.w X.K X.mg X.base CX k g fd ps sp) (hr : Room (k + 2) X.A) (hb : Binds X.K fd ps []) (hx : Passes CX X E)
    (I : Inv X pins σ H s) (r : Vals vs us) (h : sp vs H Q E) : wpAny (model X.prog X.w) X.A.in1.in1 (call (.ref g) us) (EP X pins σ Q) X.xe s := by
  have hl : us.length = ps.length := by rw [← r.length]; exact F.len _ _ _ _ h
  have hb' := hb s us I.kIn (by rw [List.append_nil]; exact hl)
  rw [List.append_nil] at hb'
  have hr1 : Room (k + 1) X.A.in1 := Room.in1 (k := k + 1) hr
  refine wpAny_call (codeAny_mono (F.run X.A.in1.in1 X.stack s H ⟨us, []⟩ us vs Q E hr1.in1 I.env0.in1.in1 hb' r h) fun r s' hq => ?_)
  match r, hq with
  | .error e, hq => exact hx pins σ H s e s' I hq
  | .ok (.ret u), hq => exact I.after hq
  | .ok .next, hq => exact hq.elim
  | .ok .brk, hq => exact hq.elim
  | .ok .cont, hq => exact hq.elim
theorem call_strGo {C : Addr} (G : GN X.prog X.w X.K X.mg X.base CX k C "__str__" sp) (hr : Room (k + 2) X.A) (hx : Passes CX X E) : CallR X (.type "str") (rStrOwn C sp E) := by
  obtain ⟨g, fd, ps, hs, hf, F, hb⟩ := G.ex
  intro pins s σ H xs us Q I r h
  obtain ⟨a, dx, fs, rfl, ha, q⟩ := h
  obtain ⟨u, rfl, ru⟩ := vals1 r
  cases (show u = Value.ref a from ru)
  obtain ⟨mA, J, _⟩ := ins_get I.hok ha
  obtain ⟨od, J, _⟩ := J.look
  refine PySem.W.kso_call (hr.in1.in1).units0 I.kIn J hs hf (wpAny_mono (run_in2 (us := [.ref a]) (vs := [.ref a]) F hr hb hx I (.cons rfl .nil) q) (fun v s' z => ?_) fun _ _ e => e)
  obtain ⟨v', H', I', rv, ⟨y, rfl⟩, qq⟩ := z
  obtain ⟨t, rfl⟩ := rv
  exact ⟨.str y, H', I', ⟨t, rfl⟩, qq⟩
end
theorem strD {K : Frag} {H : Hp} {x : V} {d : Dt} {c : Cn} {fs : List (Str × Dt)} {sp : Sp} {Q : VK} {E : XK} (h : IsV K H x d) (o : d.own = some (c, fs)) (k : sp [x] H (fun v H' => (∃ y, v = .str y) ∧ Q v H') E) : rStrOwn (ca K c) sp E [x] H Q := by
  obtain ⟨p, dx, gs, rfl, hp, _⟩ := h.out o
  exact ⟨p, dx, gs, rfl, hp, k⟩
/-! ### an operator of an own class, whatever stands at the right -/
section
open PySem.W
variable {prog : Program} {w : World} {M : Model} {A : Around} {E : Value → Shared → Prop} {s : Shared} {K : Frag} {x C L f : Addr} {h₀ : Heap} {m : Str → Option Value} {ox : Obj} {od : Option Obj} {nm : String}
/-- what of the text a value's type t must have -/
structure RiT (K : Frag) (C : Addr) (op : Operator) (t : Value) : Prop where
  ne : (Value.ref C == t) = false
  ex : ∃ ro nb fb, (∀ (M : Model) (h : Heap), K.In h → Looks M h (fillsNumberSlot t op.info.2) fb) ∧ findIn K t (dunderR op.info.2) = some ro ∧ ∀ (M : Model) (h : Heap), K.In h → Looks M h (numberSlotInPython t op.info.2) nb
  sub : subIn K t (.ref C) = some false
theorem bin_any {op : Operator} {b t : Value} {rc : Option Value} {Q : Value → Shared → Prop} (X : K.In s.heap) (I : InstAt s.heap x ox C od) (Lt : Looks (model prog w) s.heap (typeOf b) t) (hc : selfFirst K C = true)
    (hs : findIn K (.ref C) (PySem.dunder op.info.2) = some (some (.ref f))) (hf : isFn K (.ref f) = true) (hr : findIn K (.ref C) (dunderR op.info.2) = some rc) (hp : rc = none ∨ ∃ g : Addr, rc = some (.ref g)) (T : RiT K C op t)
    (h : wpAny (model prog w) A (call (.ref f) [.ref x, b]) (PySem.W.CmpBack Q) E s) : wpAny (model prog w) A (binaryOp op (.ref x) b) Q E s := by
  obtain ⟨ro, nb, fb, h1, h2, hn⟩ := T.ex
  obtain ⟨cd, rest, hcd, hm⟩ := ksp_first hc
  have hne := T.ne
  have hsub := T.sub
  rcases hi : op.info with ⟨sym, nm'⟩
  rw [hi] at hs hr h1 h2 hn
  dsimp only at hs hr h1 h2 hn
  have one := ksp_try X I hs hf h
  obtain ⟨hh, g, d, tt, os⟩ := s
  have A1 : Looks (model prog w) hh (typeOf (.ref x)) (.ref C) := I.type
  have A2 : Looks (model prog w) hh (typeOf b) t := Lt
  have A3 : Looks (model prog w) hh (fillsNumberSlot (.ref C) nm') true := fills_K X hcd hm hs
  have A4 : Looks (model prog w) hh (fillsNumberSlot t nm') fb := h1 _ _ X
  have A5 : Looks (model prog w) hh (isSubtype t (.ref C)) false := looks_subIn X hsub
  have A6 : Looks (model prog w) hh (numberSlotInPython (.ref C) nm') true := ksp_inPy X hs hr hp
  have A7 : Looks (model prog w) hh (numberSlotInPython t nm') nb := hn _ _ X
  have A8 : Looks (model prog w) hh (typeLookup t (dunderR nm')) ro := looks_findIn X h2
  simp only [binaryOp, hi]
  refine wpAny_holding (wpAny_bind ?_)
  unfold binaryOp1
  refine wpAny_bind (A1.at (wpAny_bind (A2.at (wpAny_bind (A3.at ?_)))))
  simp only [hne, Bool.false_eq_true, if_false]
  cases fb <;> cases nb <;>
  · ksp_lk
    refine wpAny_mono one (fun r s' hr' => ?_) fun _ _ e => e
    obtain ⟨v, rfl, hq⟩ := hr'
    ksp_lk
    exact hq
end
theorem RiT.ty {K : Frag} {C : Addr} {op : Operator} {T : String} (h1 : ∃ fo, PySem.W.findIn K (.type T) (PySem.dunder op.info.2) = some fo) (h2 : ∃ ro, PySem.W.findIn K (.type T) (dunderR op.info.2) = some ro) (h3 : PySem.W.subIn K (.type T) (.ref C) = some false) : RiT K C op (.type T) := by
  obtain ⟨fo, h1⟩ := h1
  obtain ⟨ro, h2⟩ := h2
  exact ⟨Bool.eq_false_iff.mpr (fun q => by cases (beq_iff_eq.mp q)), ⟨ro, false, _, fun M h X => PySem.W.ksp_fillsT X h1 h2, h2, fun M h _ => PySem.W.Looks.of_pure rfl⟩, h3⟩
theorem RiT.own {K : Frag} {C D g : Addr} {op : Operator} {rc : Option Value} (hn : C ≠ D) (hc : PySem.W.selfFirst K D = true) (hs : PySem.W.findIn K (.ref D) (PySem.dunder op.info.2) = some (some (.ref g))) (hr : PySem.W.findIn K (.ref D) (dunderR op.info.2) = some rc) (hp : rc = none ∨ ∃ g : Addr, rc = some (.ref g)) (h3 : PySem.W.subIn K (.ref D) (.ref C) = some false) : RiT K C op (.ref D) := by
  obtain ⟨cd, rest, hcd, hm⟩ := PySem.W.ksp_first hc
  exact ⟨(by rw [beq_eq_false_iff_ne]; intro q; injection q with q; exact hn q), ⟨rc, true, true, fun M h X => PySem.W.fills_K X hcd hm hs, hr, fun M h X => PySem.W.ksp_inPy X hs hr hp⟩, h3⟩
structure rBinX (K : Frag) (C : Addr) (op : Operator) (sp : Sp) (E : XK) (x : V) (y : V) (H : Hp) (Q : VK) : Prop where
  un : ∃ a dx fs, x = .ref a ∧ H a = some (.ins C dx fs) ∧ (∃ t, TyX K H y t ∧ RiT K C op t) ∧ sp [x, y] H Q E
section
variable {X : Cx} {CX : CXT} {k : Nat} {C g : Addr} {fd : FuncData} {ps ks : List Str} {sp : Sp} {E : XK} {op : Operator}
theorem op_goX (G : GO X.prog X.w X.K X.mg X.base CX k C op sp) (hr : Room k X.A) (hx : Passes CX X E) : OpR X (binaryOp op) (rBinX X.K C op sp E) := by
  obtain ⟨g, fd, ps, O, F, hb⟩ := G.ex
  intro pins s σ H x y v u Q I rx ry h
  obtain ⟨a, dx, fs, rfl, ha, ⟨t, ty, T⟩, q⟩ := h
  cases (show v = Value.ref a from rx)
  obtain ⟨mA, J, _⟩ := ins_get I.hok ha
  obtain ⟨od, J, _⟩ := J.look
  exact bin_any I.kIn J (ty_looks I ry ty) O.first O.at_ O.fn O.rev (.inl rfl) T (run_dun (us := [.ref a, u]) (vs := [.ref a, y]) F hr hb hx I (.cons rfl (.cons ry .nil)) q)
end
theorem binXD {K : Frag} {mg : Str → Option Value} {cs : List Cn} {ts : List Ty0} {H : Hp} {x y : V} {d1 d2 : Dt} {c : Cn} {fs : List (Str × Dt)} {op : Operator} {sp : Sp} {Q : VK} {E : XK} (G : G0 K mg cs ts) (h : IsV K H x d1) (o : d1.own = some (c, fs)) (h2 : IsV K H y d2) (z : okT cs ts d2 = true) (T : RiT K (ca K c) op (tv K d2.ty)) (k : sp [x, y] H Q E) : rBinX K (ca K c) op sp E x y H Q := by
  obtain ⟨p, dx, gs, rfl, hp, ifs⟩ := h.out o
  refine ⟨p, dx, gs, rfl, hp, ⟨_, G.ty h2 (fun c fs e => ?_), T⟩, k⟩
  have z := (Bool.and_eq_true_iff.mp z).1
  rw [e] at z
  exact of_decide_eq_true z
/-! ### C(k = v, ..) -/
def pk {α : Type} (n : Nat) (pick : List Nat) (us ws : List α) : List α := if us.length = 1 ∧ ws.length = n then us ++ pick.filterMap fun i => ws[i]? else []
theorem pk_rel {n : Nat} {pick : List Nat} {vs : List V} {us : List Value} {zs : List V} {ws : List Value} (r : Vals vs us) (q : Vals zs ws) : Vals (pk n pick vs zs) (pk n pick us ws) := by
  unfold pk
  rw [r.length, q.length]
  split
  · exact vals_app r (vals_pick q pick)
  · exact .nil
structure GMK (P : Program) (w : World) (K : Frag) (mg : Str → Option Value) (base : Heap) (CX : CXT) (k : Nat) (x : Str) (C : Addr) (ks : List Str) (pick : List Nat) (sp : Sp) : Prop where
  ex : ∃ (f : Addr) (fd : FuncData) (ps : List Str), FnOk P w K mg base CX k f fd ps sp ∧ Mk K C f ∧ mg x = some (.ref C) ∧ KBn K fd ps 1 ks (pk ks.length pick) (pk ks.length pick)
section
variable {X : Cx} {CX : CXT} {k : Nat} {C : Addr} {sp : Sp} {E : XK} {ks : List Str} {pick : List Nat} {x : Str} {p pos : Pos} {kws : List Keyword} {tk : TA}
theorem pe_makeK (G : GMK X.prog X.w X.K X.mg X.base CX k x C ks pick sp) (hr : Room (k + 1) X.A) (hg : Gl X x) (hx : Passes CX X E) (hkw : PK X kws tk)
    (hall : (backToKw pos (keywordEach kws X.env)).all (·.1.isSome) = true := by rfl) (hks : (backToKw pos (keywordEach kws X.env)).filterMap (·.1) = ks := by rfl)
    (hdb : (x == ("__debug__" : Str)) = false := by decide) (hpl : ((backTo pos (starEach [] X.env)).any (·.1) || (backToKw pos (keywordEach kws X.env)).any (·.1.isNone)) = false := by rfl) :
    PE X (.Call (.Name x p) [] kws pos) (fun σ H Q => tk σ H fun zs H2 => zs.length = ks.length ∧ MakeD C sp (pick.filterMap fun i => zs[i]?) H2 Q E) := by
  obtain ⟨f, fd, ps, F, M, hm, hb⟩ := G.ex
  refine ⟨fun pins s σ H Q I h => wpAny_Call_Name_kw (ld_glob I hg hm ?_ hdb)⟩
  refine PySem.W.callWith_KW0 (first := []) (h₀ := X.base) I.ok.mod.kin M.kp hall (thn (hkw.run pos pins _ σ H _ I h) fun ws s2 ⟨zs, H2, I2, rz, l2, q2⟩ => ⟨I2.kIn, ?_⟩) hpl
  rw [hks]
  refine run_makeN (us := []) (vs := []) (n := 0) M F hr hb hx I2 .nil rz rfl l2 fun y dx a b c => ?_
  have e : pk ks.length pick [V.ref y] zs = V.ref y :: pick.filterMap fun i => zs[i]? := by
    unfold pk
    rw [if_pos ⟨rfl, l2⟩]
    rfl
  rw [e]
  exact q2.un y dx a b c
end
section
variable {K : Frag} {f : Addr} {fd : FuncData} {x qual : Str} {params : Arguments} {body : List Stmt} {scope : Scope} {ps : List Str}
theorem pk_2 {k1 k2 : Str} {i j : Nat} (F : FunD K x qual params body scope [] [] f fd)
    (h : ∀ (kV doc pm : Value) (an : Option Addr) (cdv ct a u v : Value), bindArgs (PySem.W.fnOf x qual params body scope .none kV doc pm an cdv ct) ⟨[a], [(k1, u), (k2, v)]⟩ = pure (ps.zip (a :: [i, j].filterMap fun i => [u, v][i]?))) : KBn K fd ps 1 [k1, k2] (pk 2 [i, j]) (pk 2 [i, j]) := by
  obtain ⟨oc, od, dV, kV, doc, pm, an, cdv, ct, osl, rfl, lk, hcd, hD, hKw⟩ := F.ex
  refine ⟨fun s us ws hK l1 l2 => ?_, fun r q => pk_rel r q⟩
  match us, ws, l1, l2 with
  | [a], [u, v], _, _ =>
    rcases hD with ⟨_, rfl⟩ | ⟨e, _⟩
    · exact .of_eq (h kV doc pm an cdv ct a u v)
    · exact absurd rfl e
end
/-! ### a class method -/
structure GC (P : Program) (w : World) (K : Frag) (mg : Str → Option Value) (base : Heap) (CX : CXT) (k : Nat) (C : Addr) (m : Str) (sp : Sp) : Prop where
  ex : ∃ (mc : Value) (p g : Addr) (fd : FuncData) (ps : List Str), ClX.CRead K C mc ∧ ClX.CMet K C mc m p g ∧ FnOk P w K mg base CX k g fd ps sp ∧ Binds K fd ps []
section
variable {X : Cx} {CX : CXT} {k : Nat} {C : Addr} {sp : Sp} {E : XK} {o e : Expr} {es : List Expr} {m : Str} {apos pos : Pos} {ta : TE} {t : TA} {pl : Sem Bool}
theorem pe_gcD (he : PE X o ta) (G : GC X.prog X.w X.K X.mg X.base CX k C m sp) (hr : Room k X.A) (hx : Passes CX X E) (ha : PA X (e :: es) t)
    (hst : starEach (e :: es) X.env = (false, eval e X.env) :: starEach es X.env := by rfl) (hpl : (backTo pos (starEach es X.env)).any (·.1) = false := by rfl)
    (ht : eval (.Call (.Attribute o m apos) (e :: es) [] pos) X.env = (do
      let ov ← eval o X.env
      standAt apos.atName
      let (f, first) ← holding [ov] (getMethod ov m pl)
      callWith pos f first (backTo pos (starEach (e :: es) X.env)) (backToKw pos (keywordEach [] X.env))) := by rfl) :
    PE X (.Call (.Attribute o m apos) (e :: es) [] pos) (fun σ H Q => ta σ H fun x H1 => x = .ref C ∧ t σ H1 fun vs H2 => sp ((.ref C :: vs) ++ []) H2 Q E) := by
  obtain ⟨mc, p, g, fd, ps, r, c, F, hb⟩ := G.ex
  exact ClX.pe_cmeth he r c (F.raw hb .nil) hr hx ha hst hpl ht
/-- a def at its own address -/
structure GL (P : Program) (w : World) (K : Frag) (mg : Str → Option Value) (base : Heap) (CX : CXT) (k : Nat) (x : Str) (sp : Sp) : Prop where
  hm : mg x = some (.ref (He.ga K x))
  kp : PySem.W.keepIn K (.ref (He.ga K x)) = true
  ex : ∃ (fd : FuncData) (ps : List Str), FnOk P w K mg base CX k (He.ga K x) fd ps sp ∧ Binds K fd ps []
theorem pe_glD {x y : Str} {i : Nat} {p : Pos} (G : GL X.prog X.w X.K X.mg X.base CX k y sp) (hr : Room k X.A) (hN : X.N[i]? = some x) (hv : Vis X.env.scope x) (hx : Passes CX X E) (ha : PA X (e :: es) t)
    (hdb : (x == ("__debug__" : Str)) = false := by decide) (hcd : (x == ("__classdict__" : Str)) = false := by decide)
    (he : starEach (e :: es) X.env = (false, eval e X.env) :: starEach es X.env := by rfl) (hpl : (backTo pos (starEach es X.env)).any (·.1) = false := by rfl) :
    PE X (.Call (.Name x p) (e :: es) [] pos) (tCallL i (He.ga X.K y) sp [] E t) := by
  obtain ⟨fd, ps, F, hb⟩ := G.ex
  exact pe_callL F hr hN hv G.kp hb .nil hx ha hdb hcd he hpl
end
/-! ### the words' object by hand -/
section
variable {K : Frag} {mg : Str → Option Value} {cs : List Cn} {ts : List Ty0} {H : Hp} {p C dx : Addr} {fs : List (Str × V)} {f : Str} {v : V} {Q : VK} {c : Cn} {P : Prop}
theorem fldRaw (G : G0 K mg cs ts) (h : H p = some (.ins (ca K c) dx fs)) (l : fs.lookup f = some v) (hc : c ∈ cs) (hf : f ∈ c.flds) (q : Q v H) : FldD K f (.ref p) H Q := ⟨p, _, dx, fs, v, rfl, h, (G.cf c hc).cl, (G.cf c hc).no f hf, l, q⟩
theorem methRaw {m : Str} (h : H p = some (.ins C dx fs)) (l : fs.lookup m = none) (q : P) : MethD C m (.ref p) H P := ⟨p, dx, fs, rfl, h, l, q⟩
theorem setRaw {P : Hp → Prop} {y : V} (G : G0 K mg cs ts) (h : H p = some (.ins (ca K c) dx fs)) (hl : Nat.blt fs.length 1000 = true) (hc : c ∈ cs) (hf : f ∈ c.flds) (q : P (upd H p (.ins (ca K c) dx (putF f y fs)))) : SetD K f (.ref p) y H P := ⟨p, _, dx, fs, rfl, h, (G.cf c hc).cl, (G.cf c hc).no f hf, Nat.le_of_ble_eq_true hl, q⟩
end
section
variable {K : Frag} {H : Hp} {p l : Addr} {ws : List Str} {k k' : Nat} {o : Out} {Q : VK} {E : XK} {R : List Str → Nat → Out → Nat → Prop}
theorem wR (h : WA K H p l ws k) (r : R ws k o k') (a : AftW K H p l ws o k' Q E) : spW K R [.ref p] H Q E := ⟨p, l, ws, k, o, k', rfl, h, r, a⟩
theorem awInt {n : Int} (q : ∀ H', Wr p H H' → WA K H' p l ws k' → Q (.int n) H') : AftW K H p l ws (.ok (.int n)) k' Q E := fun v H' s w i => by
  cases i with
  | int => exact q H' s w
  | own o _ _ => cases o
theorem awStr {n : Str} (q : ∀ H', Wr p H H' → WA K H' p l ws k' → Q (.str n) H') : AftW K H p l ws (.ok (.str n)) k' Q E := fun v H' s w i => by
  cases i with
  | str => exact q H' s w
  | own o _ _ => cases o
theorem awBl {n : Bool} (q : ∀ H', Wr p H H' → WA K H' p l ws k' → Q (.bl n) H') : AftW K H p l ws (.ok (.bl n)) k' Q E := fun v H' s w i => by
  cases i with
  | bl => exact q H' s w
  | own o _ _ => cases o
theorem awNon (q : ∀ H', Wr p H H' → WA K H' p l ws k' → Q .non H') : AftW K H p l ws (.ok .non) k' Q E := fun v H' s w i => by
  cases i with
  | non => exact q H' s w
  | own o _ _ => cases o
theorem awSame {H1 : Hp} (a : AftW K H p l ws o k' Q E) (s : Wr p H H1) (n : ∀ b, H1 b = none → H b = none) : AftW K H1 p l ws o k' Q E := by
  cases o with
  | ok d => exact fun v H' s' w i => a v H' (s.trans s') w i
  | err x fs => exact fun dd H' gs s' n' e i => a dd H' gs (s.trans s') (n _ n') e i
theorem wrNone {H1 : Hp} (h : WA K H p l ws k) (h1 : WA K H1 p l ws k') (s : Wr p H H1) : ∀ b, H1 b = none → H b = none := fun b n => by
  cases e : H b with
  | none => rfl
  | some o =>
    by_cases z : b = p
    · obtain ⟨dx, h1, _⟩ := h1
      rw [z, h1] at n
      cases n
    · rw [s b o z e] at n
      cases n
/-- the error as it is raised -/
theorem awErr {x : Str} {fs : List (Str × Dt)} {H1 : Hp} (a : AftW K H p l ws (.err x fs) k' Q E) (s : Wr p H H1) (n : ∀ b, H1 b = none → H b = none) : AftE K H1 x fs E := .mk fun dd H' gs s' n' e i => a dd H' gs (s.trans (Same.wr s')) (n _ n') e i
end
theorem wI {K : Frag} {R : List Str → Nat → Out → Nat → Prop} {vs : List V} {H : Hp} {Q : VK} {E : XK} (h : spW K R vs H Q E) : ∃ p l ws k o k', vs = [.ref p] ∧ WA K H p l ws k ∧ R ws k o k' ∧ AftW K H p l ws o k' Q E := h.un
theorem lc_str {x : Str} {g : TG} {tt : TT} {te : TE} {vs : List Nat} {σ : L2.St} {H1 : Hp} {D : Addr} {Qd : Hp → Prop} (Pv : Nat → Hp → Prop) (h0 : Pv 0 (upd H1 D (.lst [])))
    (hs : ∀ i c H, (TL.tl x)[i]? = some c → Pv i H → g (.str ⟨#[c]⟩) (wipe σ vs) H fun σ2 H2 => wipe σ2 vs = wipe σ vs ∧ tt σ2 H2 fun b H3 =>
      if b = true then te σ2 H3 fun y H4 => ∃ acc, H4 D = some (.lst acc) ∧ acc.length < sizeLine ∧ Pv (i + 1) (upd H4 D (.lst (acc ++ [y]))) else Pv (i + 1) H3) (hd : ∀ H, Pv (TL.tl x).length H → Qd H) :
    ∃ W : Nat → Nat → Hp → Prop, (∃ m, W 0 m (upd H1 D (.lst []))) ∧ ∀ i m H, W i m H →
      ((Its x).stop i H ∧ Qd H) ∨ ((Its x).go i H ∧ ∃ Nx : Hp → Prop, (∀ H', Nx H' → ∃ m', m' < m ∧ W (i + 1) m' H') ∧ ∀ v H', (Its x).yld i H v H' → g v (wipe σ vs) H' fun σ2 H2 => wipe σ2 vs = wipe σ vs ∧ tt σ2 H2 fun b H3 =>
        if b = true then te σ2 H3 fun y H4 => ∃ acc, H4 D = some (.lst acc) ∧ acc.length < sizeLine ∧ Nx (upd H4 D (.lst (acc ++ [y]))) else Nx H3) := by
  have sz : x.cps.size = (TL.tl x).length := by simp [TL.tl]
  refine ⟨fun i m H => m = (TL.tl x).length - i ∧ i ≤ (TL.tl x).length ∧ Pv i H, ⟨_, rfl, Nat.zero_le _, h0⟩, ?_⟩
  rintro i m H ⟨rfl, hi, p⟩
  by_cases hlt : i < (TL.tl x).length
  · refine .inr ⟨by show i < x.cps.size; omega, Pv (i + 1), fun H' p' => ⟨(TL.tl x).length - (i + 1), by omega, rfl, hlt, p'⟩, fun v H' y => ?_⟩
    obtain ⟨e, c, hc, ev⟩ := y
    subst e ev
    exact hs i c _ (by rw [← hc]; simp [TL.tl]) p
  · obtain rfl : i = (TL.tl x).length := by omega
    exact .inl ⟨by show x.cps.size ≤ (TL.tl x).length; omega, hd H p⟩
theorem digMem (c : Nat) : decide (c ∈ ("0123456789" : Str).cps.toList) = isDig c := by
  rw [show ("0123456789" : Str).cps.toList = [48, 49, 50, 51, 52, 53, 54, 55, 56, 57] from by decide +kernel]
  unfold isDig
  rw [← Bool.decide_and]
  refine decide_eq_decide.mpr ⟨fun h => ?_, fun h => ?_⟩
  · simp only [List.mem_cons, List.not_mem_nil, or_false] at h
    omega
  · simp only [List.mem_cons, List.not_mem_nil, or_false]
    omega
theorem digs_le (l : List Nat) : (digs l).length ≤ l.length := by
  rcases digs_of l with ⟨r, e, er⟩ | ⟨_, er⟩
  · rw [er, e, List.length_cons]
    omega
  · rw [er]
    exact Nat.le_refl _
theorem okD_eq {w : Str} : okD (TL.tl w) = (decide (1 ≤ (Txt.removeprefix w "-").length) && (decide ((Txt.removeprefix w "-").length ≤ 60) && ((TL.tl (Txt.removeprefix w "-")).map isDig).all id)) := by
  unfold okD
  rw [TL.len_tl, tl_rp, List.all_map]
  rfl
theorem ixLRaw {K : Frag} {H : Hp} {p : Addr} {xs : List V} {i : Int} {v : V} {Q : VK} (h : SqL K H p xs) (g : atI xs i = some v) (q : Q v H) : rIxL K (.ref p) (.int i) H Q := ⟨p, xs, i, v, rfl, rfl, h, g, q⟩
theorem ixTRaw {K : Frag} {H : Hp} {p : Addr} {xs : List V} {i : Int} {v : V} {Q : VK} (h : SqT K H p xs) (g : atI xs i = some v) (q : Q v H) : rIxT K (.ref p) (.int i) H Q := ⟨p, xs, i, v, rfl, rfl, h, g, q⟩
theorem intW_no {w : Str} (h : okD (TL.tl w) = false) : intW w = none := by
  unfold intW
  rw [if_neg (by rw [h]; simp)]
theorem intW_yes {w : Str} {n : Int} (h : okD (TL.tl w) = true) (e : intText? w = some n) : intW w = if dS n = w then some n else none := by
  unfold intW
  rw [if_pos h, e]
theorem intText_small {w : Str} {n : Int} (h : okD (TL.tl w) = true) (e : intText? w = some n) : w.length ≤ 640 ∧ n.natAbs.log2 < 1920 := by
  have fold : ∀ (l : List Nat) (a k : Nat), NumText.AllDigits l → a < 10 ^ k → l.foldl (fun acc c => acc * 10 + (c - 48)) a < 10 ^ (k + l.length) := by
    intro l
    induction l with
    | nil => intro a k _ h; exact h
    | cons c l ih =>
      intro a k hd h
      have hc := hd c List.mem_cons_self
      have := ih (a * 10 + (c - 48)) (k + 1) (fun d hd' => hd d (List.mem_cons_of_mem _ hd')) (by rw [Nat.pow_succ]; omega)
      rw [List.length_cons, show k + (l.length + 1) = k + 1 + l.length by omega]
      exact this
  have fin : ∀ l : List Nat, NumText.AllDigits l → l.length ≤ 60 → NumText.digitsVal l < 10 ^ 60 := fun l h1 h2 => by
    have := fold l 0 0 h1 (by decide)
    unfold NumText.digitsVal
    rw [Nat.zero_add] at this
    exact Nat.lt_of_lt_of_le this (Nat.pow_le_pow_right (by decide) h2)
  unfold okD at h
  obtain ⟨h1, h⟩ := Bool.and_eq_true_iff.mp h
  obtain ⟨h2, h3⟩ := Bool.and_eq_true_iff.mp h
  have h1 := of_decide_eq_true h1
  have h2 := of_decide_eq_true h2
  have h3 := allDig h3
  rcases digs_of (TL.tl w) with ⟨r, ew, er⟩ | ⟨_, er⟩
  · rw [er] at h1 h2 h3
    have l : w.length ≤ 640 := by
      rw [TL.len_tl, ew, List.length_cons]
      omega
    refine ⟨l, ?_⟩
    rw [intText_neg (cs := r) ew h3 (fun z => by rw [z] at h1; cases h1) (by omega)] at e
    cases e
    have := fin r h3 h2
    exact log60 (by omega)
  · rw [er] at h1 h2 h3
    have l : w.length ≤ 640 := by
      rw [TL.len_tl]
      omega
    refine ⟨l, ?_⟩
    rw [intText_digits (x := w) h3 (fun z => by have : TL.tl w = [] := z; rw [this] at h1; cases h1) (by omega)] at e
    cases e
    have : NumText.digitsVal w.cps.toList < 10 ^ 60 := fin _ h3 h2
    exact log60 (by omega)
theorem vEqS (a b : Str) : decide (V.str a = V.str b) = decide (a = b) := decide_eq_decide.mpr (by rw [V.str.injEq])
theorem rdI_lt60 {ws : List Str} {k : Nat} {n : Int} (h : rdI ws k = some n) : n.natAbs < 10 ^ 60 := by
  unfold rdI at h
  split at h
  · exact (intW_some h).2
  · cases h
theorem bi60 {n : Int} (h : n.natAbs < 10 ^ 60) : Bi n 200 := ⟨Nat.lt_of_lt_of_le h (by decide)⟩
theorem wordsI {K : Frag} {cs : List Cn} {ts : List Ty0} {vs : List V} {H : Hp} {Q : VK} {E : XK} (h : spWords K cs ts vs H Q E) : ∃ v d, vs = [v] ∧ IsV K H v d ∧ okT cs ts d = true ∧
  ((∃ x, d = .str x ∧ TOk x ∧ ∀ p l H', Same H H' → H p = none → WA K H' p l (wsOf x) 0 → Q (.ref p) H') ∨ (decide (d.ty = .str) = false ∧ AftE K H "BadText" [("word", .int 0), ("line", .int 0)] E)) := h.un
theorem wordsO {K : Frag} {cs : List Cn} {ts : List Ty0} {v : V} {d : Dt} {H : Hp} {Q : VK} {E : XK} (i : IsV K H v d) (o : okT cs ts d = true) (h : (∃ x, d = .str x ∧ TOk x ∧ ∀ p l H', Same H H' → H p = none → WA K H' p l (wsOf x) 0 → Q (.ref p) H') ∨ (decide (d.ty = .str) = false ∧ AftE K H "BadText" [("word", .int 0), ("line", .int 0)] E)) : spWords K cs ts [v] H Q E := ⟨v, d, rfl, i, o, h⟩
theorem readWI {K : Frag} {cs : List Cn} {ts : List Ty0} {f : Addr} {R : List Str → Nat → Out → Nat → Prop} {vs : List V} {H : Hp} {Q : VK} {E : XK} (h : spReadW K cs ts f R vs H Q E) : ∃ v d o, vs = [v, .ref f] ∧ IsV K H v d ∧ okT cs ts d = true ∧ RReadBy R [d] o ∧ Aft K H o Q E := h.un
theorem readWO {K : Frag} {cs : List Cn} {ts : List Ty0} {f : Addr} {R : List Str → Nat → Out → Nat → Prop} {v : V} {d : Dt} {o : Out} {H : Hp} {Q : VK} {E : XK} (i : IsV K H v d) (ot : okT cs ts d = true) (r : RReadBy R [d] o) (q : Aft K H o Q E) : spReadW K cs ts f R [v, .ref f] H Q E := ⟨v, d, o, rfl, i, ot, r, q⟩
theorem readCI {K : Frag} {cs : List Cn} {ts : List Ty0} {R : List Str → Nat → Out → Nat → Prop} {vs : List V} {H : Hp} {Q : VK} {E : XK} (h : spReadC K cs ts R vs H Q E) : ∃ C v d o, vs = [C, v] ∧ IsV K H v d ∧ okT cs ts d = true ∧ RReadBy R [d] o ∧ Aft K H o Q E := h.un
theorem readCO {K : Frag} {cs : List Cn} {ts : List Ty0} {R : List Str → Nat → Out → Nat → Prop} {C v : V} {d : Dt} {o : Out} {H : Hp} {Q : VK} {E : XK} (i : IsV K H v d) (ot : okT cs ts d = true) (r : RReadBy R [d] o) (q : Aft K H o Q E) : spReadC K cs ts R [C, v] H Q E := ⟨C, v, d, o, rfl, i, ot, r, q⟩
theorem wpI {K : Frag} {R : List Str → Nat → Out → Prop} {vs : List V} {H : Hp} {Q : VK} {E : XK} (h : spWp K R vs H Q E) : ∃ p l ws k o, vs = [.ref p] ∧ WA K H p l ws k ∧ R ws k o ∧ Aft K H o Q E := h.un
theorem wpO {K : Frag} {R : List Str → Nat → Out → Prop} {p l : Addr} {ws : List Str} {k : Nat} {o : Out} {H : Hp} {Q : VK} {E : XK} (h : WA K H p l ws k) (r : R ws k o) (q : Aft K H o Q E) : spWp K R [.ref p] H Q E := ⟨p, l, ws, k, o, rfl, h, r, q⟩
theorem finE' {K : Frag} {H0 H : Hp} {L : List (V × Dt)} {x : Str} {fs : List (Str × Dt)} {E : XK} (q : AftE K H0 x fs E) (h : Env K .fn H0 H L) : AftE K H x fs E := .mk fun dd H' gs s n e i => q.un dd H' gs (h.gr.trans s) (none_same h.gr n) e i
theorem WA.upd {K : Frag} {H : Hp} {p l dx : Addr} {ws : List Str} {k k' : Nat} (h : WA K H p l ws k) (g : H p = some (.ins (ca K .Words) dx [("words", .ref l), ("done", .int k), ("last", .int (ws.length : Nat))])) : WA K (upd H p (.ins (ca K .Words) dx [("words", .ref l), ("done", .int k'), ("last", .int (ws.length : Nat))])) p l ws k' := by
  obtain ⟨_, _, h2, h3⟩ := h
  refine ⟨dx, upd_same, ?_, h3⟩
  rw [upd_ne (fun z => by rw [z, g] at h2; cases h2)]
  exact h2
theorem Wr.upd {H : Hp} {p : Addr} {o : HO} : Wr p H (L2.upd H p o) := fun b u n e => by rw [upd_ne n]; exact e
theorem Wr.same {H H1 H2 : Hp} {p : Addr} (n : H p = none) (s : Same H H1) (w : Wr p H1 H2) : Same H H2 := fun b o e => w b o (ne_of_none e n) (s b o e)
theorem makeRaw {C : Addr} {sp : Sp} {vs : List V} {H : Hp} {Q : VK} {E : XK} (h : ∀ x dx, H x = none → H dx = none → dx ≠ x → sp (.ref x :: vs) (upd (upd H dx (.own x)) x (.ins C dx [])) (fun v H2 => v = .non ∧ Q (.ref x) H2) E) : MakeD C sp vs H Q E := ⟨h⟩
theorem aftOk {K : Frag} {H0 H : Hp} {d : Dt} {v : V} {Q : VK} {E : XK} (q : Aft K H0 (.ok d) Q E) (s : Same H0 H) (i : IsV K H v d) : Q v H := q.un v H s i
theorem aftEr {K : Frag} {H0 H : Hp} {x : Str} {fs : List (Str × Dt)} {gs : List (Str × V)} {dd : Addr} {Q : VK} {E : XK} (q : Aft K H0 (.err x fs) Q E) (s : Same H0 H) (n : H0 dd = none) (e : H dd = some (.xd gs)) (i : IsFs K H gs fs) : E (.ref (cX K x)) (some dd) H := q.un dd H gs s n e i
theorem aftEE {K : Frag} {H0 H : Hp} {x : Str} {fs : List (Str × Dt)} {Q : VK} {E : XK} (q : Aft K H0 (.err x fs) Q E) (s : Same H0 H) : AftE K H x fs E := .mk fun dd H' gs s' n e i => q.un dd H' gs (s.trans s') (none_same s n) e i
theorem same_mk {H : Hp} {x dx C : Addr} {o : HO} (nx : H x = none) (nd : H dx = none) : Same H (upd (upd H dx (.own x)) x o) := fun b o e => by rw [upd_ne (ne_of_none e nx), upd_ne (ne_of_none e nd)]; exact e
theorem emptyApp (x : Str) : Str.empty ++ x = x := by
  apply TL.ext_tl
  rw [TL.tl_append]
  rfl
theorem lenApp (x y : Str) : (x ++ y).length = x.length + y.length := by
  rw [TL.len_tl, TL.tl_append, List.length_append, ← TL.len_tl, ← TL.len_tl]
theorem finD' {K : Frag} {H0 H : Hp} {L : List (V × Dt)} {v : V} {d : Dt} {Q : VK} (q : AftD K H0 d Q) (h : Env K .fn H0 H L) (i : IsV K H v d) : Q v H := q.un v H h.gr i
end Sp
end
section
set_option Elab.async false
set_option linter.all false
set_option exponentiation.threshold 5000
set_option maxRecDepth 100000
set_option maxHeartbeats 4000000
namespace Sp
open PySem PySem.Spec PyProof.Rows L2
open PySem.W (Frag)
/-! ### a quiet def, called while an exception is handled -/
abbrev cxQ (P : Program) (w : World) (K : Frag) (mg : Str → Option Value) (base : Heap) (N : List Str) (qual : Str) (scope : Scope) (f : Addr) (cd : Value) (A : Around) (outer : List PySem.Env) (s : Shared) (H : Hp) (E : XK) : Cx :=
  { cxOf C8.CX0 P w K mg base N qual scope f cd A outer s H E with calm := false }
structure FnQ (P : Program) (w : World) (K : Frag) (mg : Str → Option Value) (base : Heap) (k : Nat) (f : Addr) (fd : FuncData) (ps : List Str) (sp : Sp) : Prop where
  len : ∀ vs H Q E, sp vs H Q E → vs.length = ps.length
  run : ∀ (A : Around) (outer : List PySem.Env) (s : Shared) (H : Hp) (args : Args) (us : List Value) (vs : List V) (Q : VK) (E : XK), L2H.RoomH k A → Env0 P w K mg base A outer s H → BindsTo s fd args (ps.zip us) → Vals vs us → sp vs H Q E →
    codeAny (model P w) A (.call (.ref f) args) (CR C8.CX0 outer P w H s Q E) s
section
variable {P : Program} {w : World} {K : Frag} {mg : Str → Option Value} {base : Heap}
theorem inv_startQ {N ps : List Str} {qual : Str} {scope : Scope} {f : Addr} {cd : Value} {A : Around} {outer : List PySem.Env} {s s1 : Shared} {H : Hp} {E : XK} {us : List Value} {vs : List V}
    (S : FnScope N ps scope) (e0 : Env0 P w K mg base A outer s H) (hl : vs.length = ps.length) (r : Vals vs us)
    (x : InCallC s s.heap.objs.size (bindL (envOfC qual scope s.heap.objs.size f cd).kindOf (ps.zip us) fun _ => none) (cellsFrom (s.heap.objs.size + 1) scope.names []) (bindC (envOfC qual scope s.heap.objs.size f cd).kindOf (ps.zip us) fun _ => none) s1) :
    Inv (cxQ P w K mg base N qual scope f cd A outer s H E) [] (L2.start N vs) H s1 := by
  have hpl : ps.length ≤ N.length := by have := congrArg List.length S.pre; rw [List.length_take] at this; omega
  obtain ⟨h1, tk, rfl, hk⟩ := x.done
  have noA : ∀ b : Addr, b ∉ (cxQ P w K mg base N qual scope f cd A outer s H E).ex := fun b z => absurd (show b ∈ ([] : List Addr) from z) (by simp)
  refine ⟨⟨e0.mod, S.kind, rfl, rfl, Nat.le_refl _, fun y z c h1 h2 => ?_, fun y hy => ?_, fun y c _ h => ?_, (fun z => Bool.noConfusion (show false = true from z)), Around.frames_deeper e0.frames, .inr ⟨rfl, rfl⟩, fun b z => absurd z (noA b), e0.bs, e0.bsz, fun b _ _ => noA b, fun b z => absurd z (noA b), e0.funs, e0.frf⟩,
    rfl, e0.bare, Un.kept hk, ⟨_, x.toInCall.ns, fun i y v h1 h2 h3 => ?_⟩, fun y c h => ⟨_, x.cell y c h⟩, e0.hok.fresh (Nat.le_refl _), fun y c h => ?_, fun p hp => absurd (show p ∈ ([] : List (Addr × Obj)) from hp) (by simp), e0.hok.kept hk, ?_⟩
  · exact name_of_addr x.apart (PySem.mem_of_lookup h1) (PySem.mem_of_lookup h2)
  · have hy : scope.names.lookup y = some .cell ∨ scope.names.lookup y = some .free := hy
    rcases hy with hy | hy
    · exact cell_has hy
    · exact absurd rfl (S.nofree _ (PySem.mem_of_lookup hy))
  · exact Nat.le_of_lt (x.above y c (PySem.mem_of_lookup h))
  · have hi : i < vs.length := by
      unfold L2.start at h2
      by_cases hi : i < vs.length
      · exact hi
      · rw [List.getElem?_append_right (by simpa using hi)] at h2
        rw [List.getElem?_replicate] at h2
        split at h2 <;> cases h2
    have ha : vs[i]? = some v := by
      unfold L2.start at h2
      rw [List.getElem?_append_left (by simpa using hi), List.getElem?_map] at h2
      cases e : vs[i]? with
      | none => rw [e] at h2; cases h2
      | some a => rw [e] at h2; cases h2; rfl
    obtain ⟨u, hu, rv⟩ := r.get ha
    have hp : ps[i]? = some y := by
      rw [← S.pre, List.getElem?_take_of_lt (by omega)]; exact h1
    have ndP : ps.Nodup := by rw [← S.pre]; exact S.nd.sublist (List.take_sublist _ _)
    refine ⟨u, rv, ?_⟩
    rcases S.par y (List.mem_of_getElem? hp) with k | k
    · exact .inl ⟨k, bindL_get ndP hp hu k⟩
    · obtain ⟨c, e⟩ := cell_has (n := s.heap.objs.size + 1) k
      refine .inr ⟨.inl k, c, e, ?_⟩
      have q := x.cell y c e
      rw [bindC_get ndP hp hu (by show scope.names.lookup y ≠ _; rw [k]; decide)] at q
      exact q
  · exact e0.hok.fresh (Nat.le_of_lt (x.above y c (PySem.mem_of_lookup h)))
  · unfold L2.start
    show _ = N.length
    rw [List.length_append, List.length_map, List.length_replicate]
    omega
theorem FunD.okQ {x qual : Str} {params : Arguments} {body : List Stmt} {scope : Scope} {f : Addr} {fd : FuncData} {N ps : List Str} {k : Nat} {sp : Sp} (F : FunD K x qual params body scope [] [] f fd) (S : FnScope N ps scope)
    (len : ∀ vs H Q E, sp vs H Q E → vs.length = ps.length)
    (hbody : ∀ (cdv : Value) (A : Around) (outer : List PySem.Env) (s : Shared) (H : Hp) (vs : List V) (Q : VK) (E : XK), sp vs H Q E →
      ∃ t, PSs (cxQ P w K mg base N qual scope f cdv A outer s H E) body t ∧ t { nx := fun _ H' => Q .non H', rt := Q } (L2.start N vs) H) :
    FnQ P w K mg base (k + 1) f fd ps sp := by
  obtain ⟨oc, od, dV, kV, doc, pm, an, cdv, ct, osl, rfl, lk, hcd, _, _⟩ := F.ex
  refine ⟨len, fun A outer s H args us vs Q E hr e0 hb r hsp => ?_⟩
  have hl := len _ _ _ _ hsp
  have KX : K.In s.heap := e0.mod.kin.keeps fun b o e => (e0.bs b o e).1
  have lim : s.heap.NoLimit := e0.mod.nolimit.keeps fun b o e => (e0.bs b o e).1
  have hkind : ∀ y ∈ ps.zip us, scope.names.lookup y.1 = some .local ∨ (scope.names.lookup y.1 = some .cell ∧ ((cellsFrom (s.heap.objs.size + 1) scope.names []).lookup y.1).isSome = true) := fun ⟨n, v⟩ hy => by
    rcases S.par n (List.of_mem_zip hy).1 with q | q
    · exact .inl q
    · exact .inr ⟨q, PySem.W.cellsFrom_some _ _ _ (.inl q)⟩
  refine codeAny_call_function hr.depth (KX _ _ lk) rfl S.co S.gen rfl (PySem.W.codeRec_of KX hcd) (hb _ _ _ _ ?_)
  refine wpAny_newFunctionEnv_cells S.kind hkind fun env he s1 x => ?_
  subst he
  refine ⟨lim.keeps x.toInCall.keep, codeAny_func ?_⟩
  obtain ⟨t, ht, hq⟩ := hbody cdv A outer s H vs Q E hsp
  have I : Inv (cxQ P w K mg base N qual scope f cdv A outer s H E) [] (L2.start N vs) H s1 := inv_startQ S e0 hl r x
  refine wpAny_mono (ht.run [] s1 (L2.start N vs) H _ I hq) (fun fl s' hs => ?_) fun e s' hs => hs
  have fin : ∀ {σ' : L2.St} {H' : Hp} {v : V} {u : Value}, Inv (cxQ P w K mg base N qual scope f cdv A outer s H E) [] σ' H' s' → RelV v u → Q v H' → CE outer P w H s Q u s' :=
    fun {σ' H' v u} J rv q => ⟨v, H', J.os, J.bare, J.base, J.hok, rv, q⟩
  cases fl with
  | ret u =>
    obtain ⟨v, σ', H', J, rv, q⟩ := hs
    exact fin J rv q
  | next =>
    obtain ⟨σ', H', J, q⟩ := hs
    exact fin (v := V.non) (u := Value.none) J rfl q
  | brk =>
    obtain ⟨_, _, _, q⟩ := hs
    exact False.elim q
  | cont =>
    obtain ⟨_, _, _, q⟩ := hs
    exact False.elim q
end
structure GQ (P : Program) (w : World) (K : Frag) (mg : Str → Option Value) (base : Heap) (k : Nat) (x : Str) (sp : Sp) : Prop where
  ex : ∃ (f : Addr) (fd : FuncData) (ps : List Str), FnQ P w K mg base k f fd ps sp ∧ mg x = some (.ref f) ∧ PySem.W.keepIn K (.ref f) = true ∧ Binds K fd ps []
theorem pe_gq {X : Cx} {x : Str} {k : Nat} {sp : Sp} {p pos : Pos} {e : Expr} {es : List Expr} {t : TA} (G : GQ X.prog X.w X.K X.mg X.base k x sp) (hr : L2H.RoomH k X.A) (hg : Gl X x)
    (ha : PA X (e :: es) t) (hdb : (x == ("__debug__" : Str)) = false := by decide) (he : starEach (e :: es) X.env = (false, eval e X.env) :: starEach es X.env := by rfl) (hpl : (backTo pos (starEach es X.env)).any (·.1) = false := by rfl) :
    PE X (.Call (.Name x p) (e :: es) [] pos) (tCall sp [] C8.E0 t) := by
  obtain ⟨f, fd, ps, F, hm, hk, hb⟩ := G.ex
  refine ⟨fun pins s σ H Q I h => ?_⟩
  refine wpAny_Call_Name_kw (ld_glob I hg hm ?_ hdb)
  refine PySem.W.callWith_K (h₀ := X.base) I.ok.mod.kin hk (thn (ha.run pos pins s σ H _ I h) fun us s1 ⟨vs, H1, I1, r, q⟩ => ⟨I1.kIn, ?_⟩) he hpl
  have q : sp (vs ++ []) H1 Q C8.E0 := q
  rw [List.append_nil] at q
  have hl : us.length = ps.length := by rw [← r.length]; exact F.len _ _ _ _ q
  have b := hb s1 us I1.kIn (by rw [List.append_nil]; exact hl)
  rw [List.append_nil] at b
  refine wpAny_call (codeAny_mono (F.run X.A X.stack s1 H1 ⟨us, []⟩ us vs Q C8.E0 hr I1.env0 b r q) fun r s' hq => ?_)
  cases r with
  | error e => exact False.elim hq
  | ok fl =>
    cases fl with
    | ret u => exact I1.after hq
    | next => exact False.elim hq
    | brk => exact False.elim hq
    | cont => exact False.elim hq
/-! ### the pail -/
def Sb (a : Addr) (H H' : Hp) : Prop := ∀ b o, b ≠ a → H b = some o → H' b = some o
theorem Sb.trans {a : Addr} {H H1 H2 : Hp} (x : Sb a H H1) (y : Sb a H1 H2) : Sb a H H2 := fun b o n e => y b o n (x b o n e)
theorem Same.sb {a : Addr} {H H' : Hp} (x : Same H H') : Sb a H H' := fun b o _ e => x b o e
def spPail (K : Frag) : Sp := fun vs H Q _ => ∃ (a : Addr) (ns : List Int), vs = [.ref a] ∧ SqL K H a (ns.map V.int) ∧ ∀ p H', Same H H' → H p = none → (∃ c, Pail H' p c 0) → Q (.ref p) H'
structure spDip (vs : List V) (H : Hp) (Q : VK) (z_3 : XK) : Prop where
  un : ∃ (a c : Addr) (m : Int) (N : Nat), vs = [.ref a, .int m] ∧ Pail H a c N ∧ N ≤ 1000000 ∧ 0 < m ∧ m < 2 ^ 30 ∧ ∀ d H', 0 ≤ d → d < m → Pail H' a c (N + 1) → Sb a H H' → Q (.int d) H'
theorem shaped_ints (cs : List Int) : SeqAt.shaped (.list (cs.map PyData.int)) = true := by
  induction cs with
  | nil => rfl
  | cons c cs ih => exact ih
theorem dp_ints {K : Frag} {H : Hp} (cs : List Int) : DpAll K H (cs.map V.int) (cs.map PyData.int) := by
  induction cs with
  | nil => exact .nil
  | cons c cs ih => exact .cons (.int c) ih
theorem tailR {P : Int → Prop} {G : Prop} (main : (∀ x, P x) → G) (tl : ∀ x, P x) : G := main tl
/-- nothing in it looks like the pail -/
def pailish : List Dt → Bool
  | [.lst _, .int _, .int _] => true
  | _ => false
mutual
def noP : Dt → Bool
  | .tup l => noPs l
  | .book l => noPs l
  | .obj _ l => noPs l
  | .lst l => !pailish l && noPs l
  | _ => true
def noPs : List Dt → Bool
  | [] => true
  | d :: l => noP d && noPs l
end
def noPf : List (Str × Dt) → Bool
  | [] => true
  | d :: l => noP d.2 && noPf l
theorem zip_noP : ∀ {fl : List Str} {l : List Dt}, noPs l = true → noPf (fl.zip l) = true
  | [], _, _ => rfl
  | _ :: _, [], _ => rfl
  | _ :: fl, d :: l, h => by
    obtain ⟨a, b⟩ := Bool.and_eq_true_iff.mp h
    exact Bool.and_eq_true_iff.mpr ⟨a, zip_noP b⟩
theorem own_noP {d : Dt} {c : Cn} {fs : List (Str × Dt)} (h : d.own = some (c, fs)) (n : noP d = true) : noPf fs = true := by
  cases d <;> (first | (cases h; done) | (cases h; first | rfl | (simpa [noPf, noP] using n)) | (obtain ⟨e, rfl, rfl⟩ := Dt.obj_own h; exact zip_noP n))
section
variable {K : Frag} {H H' : Hp}
theorem pail_ne {a c b : Addr} {N : Nat} {vs : List V} {l : List Dt} (ha : Pail H a c N) (h : H b = some (.lst vs)) (r : IsVs K H vs l) (n : noP (.lst l) = true) : b ≠ a := fun z => by
  obtain ⟨cs, x, g, h1, h2, _⟩ := ha
  rw [z, h1] at h
  cases h
  have n := (Bool.and_eq_true_iff.mp (show (!pailish l && noPs l) = true from n)).1
  cases r with
  | cons a1 r => cases r with
    | cons a2 r => cases r with
      | cons a3 r => cases r with
        | nil =>
          cases a2 with
          | int =>
            cases a3 with
            | int =>
              cases a1 with
              | tup h _ => rw [h2] at h; cases h
              | lst h _ => cases n
              | dct h => rw [h2] at h; cases h
              | own o h _ => rw [h2] at h; cases h
mutual
theorem IsV.sp {a c : Addr} {N : Nat} (ha : Pail H a c N) (e : Sbl a H H') : ∀ {v : V} {d : Dt}, IsV K H v d → noP d = true → IsV K H' v d
  | _, _, .non, _ => .non
  | _, _, .bl b, _ => .bl b
  | _, _, .int b, _ => .int b
  | _, _, .str b, _ => .str b
  | _, _, .tup h r, n => .tup (e _ _ (fun z => by obtain ⟨_, _, _, h1, _⟩ := ha; rw [z, h1] at h; cases h) (fun _ z => by cases z) h) (IsVs.sp ha e r n)
  | _, _, .lst h r, n => .lst (e _ _ (pail_ne ha h r n) (fun _ z => by cases z) h) (IsVs.sp ha e r (Bool.and_eq_true_iff.mp n).2)
  | _, _, .dct h, n => .dct (e _ _ (fun z => by obtain ⟨_, _, _, h1, _⟩ := ha; rw [z, h1] at h; cases h) (fun _ z => by cases z) h)
  | _, _, .own o h r, n => .own o (e _ _ (fun z => by obtain ⟨_, _, _, h1, _⟩ := ha; rw [z, h1] at h; cases h) (fun _ z => by cases z) h) (IsFs.sp ha e r (own_noP o n))
theorem IsVs.sp {a c : Addr} {N : Nat} (ha : Pail H a c N) (e : Sbl a H H') : ∀ {v : List V} {d : List Dt}, IsVs K H v d → noPs d = true → IsVs K H' v d
  | _, _, .nil, _ => .nil
  | _, _, .cons a b, n => .cons (IsV.sp ha e a (Bool.and_eq_true_iff.mp n).1) (IsVs.sp ha e b (Bool.and_eq_true_iff.mp n).2)
theorem IsFs.sp {a c : Addr} {N : Nat} (ha : Pail H a c N) (e : Sbl a H H') : ∀ {v : List (Str × V)} {d : List (Str × Dt)}, IsFs K H v d → noPf d = true → IsFs K H' v d
  | _, _, .nil, _ => .nil
  | _, _, .cons a b, n => .cons (IsV.sp ha e a (Bool.and_eq_true_iff.mp n).1) (IsFs.sp ha e b (Bool.and_eq_true_iff.mp n).2)
end
end
/-! ### the law's ledger -/
theorem tabsSbl {T : List (Addr × Str)} {H H' : Hp} {a : Addr} {xs : List V} (h : LamX.Tabs T H) (e : Sb a H H') (ha : H a = some (.lst xs)) : LamX.Tabs T H' := fun p hp => by
  obtain ⟨ps, h1, h2, h3⟩ := h p hp
  refine ⟨ps, e _ _ (fun z => ?_) h1, h2, fun pos cv hc => ?_⟩
  · rw [z, ha] at h1
    cases h1
  · obtain ⟨c, e1, e2⟩ := h3 pos cv hc
    refine ⟨c, e1, e _ _ (fun z => ?_) e2⟩
    rw [z, ha] at e2
    unfold LamX.CodeO at e2
    cases e2
section
variable {K : Frag} {T : List (Addr × Str)} {H0 H H' : Hp} {L : List (V × Dt)} {a c : Addr} {N : Nat} {Q : VK} {E : XK} {v : V} {d : Dt} {pp : Option (Addr × Addr × Nat)}
theorem lawNP {L : List (V × Dt)} (n : noPs (L.map (·.2)) = true) : ∀ e ∈ L, noP e.2 = true := by
  induction L with
  | nil => exact fun _ i => by cases i
  | cons x l ih =>
    intro e i
    have n := Bool.and_eq_true_iff.mp (show (noP x.2 && noPs (l.map (·.2))) = true from n)
    rcases List.mem_cons.mp i with rfl | i
    · exact n.1
    · exact ih n.2 e i
/-- a digit is drawn -/
theorem dipD {m : Int} (h : Env K (.law T (some (a, c, N))) H0 H L) (hN : N ≤ 999000) (m0 : 0 < m) (m1 : m < 2 ^ 30) (n : noPs (L.map (·.2)) = true)
    (k : ∀ d H', 0 ≤ d → d < m → Env K (.law T (some (a, c, N + 1))) H0 H' L → Q (.int d) H') : spDip [.ref a, .int m] H Q E := by
  have hp := h.at_.2 _ rfl
  obtain ⟨xs, hx⟩ := hp.lst
  refine ⟨a, c, m, N, rfl, hp, Nat.le_trans hN (by decide), m0, m1, fun d H' d0 d1 p s => k d H' d0 d1 ⟨?_, ⟨tabsSbl h.at_.1 s hx, fun q e => ?_⟩, fun e i => ?_⟩⟩
  · intro b o nb nt e
    exact s _ _ (nb (a, c, N + 1) rfl) (h.gr b o (fun q e => by cases e; exact nb (a, c, N + 1) rfl) nt e)
  · cases e
    exact p
  · exact IsV.sp hp (fun b o nb _ e => s b o nb e) (h.all e i) (lawNP n e i)
/-- what a def of the law leaves: d, one of P -/
structure spL (K : Frag) (cs : List Cn) (ts : List Ty0) (T : List (Addr × Str)) (n : Nat) (R : List Dt → Dt → Prop) (vs : List V) (H : Hp) (Q : VK) (z_3 : XK) : Prop where
  un : ∃ ds d, IsVs K H vs ds ∧ DsOk cs ts n ds ∧ R ds d ∧ LamX.Tabs T H ∧ ∀ v H', LamX.ExtN H H' → LamX.Tabs T H' → IsV K H' v d → Q v H'
/-- the same, a pail at first -/
structure spLP (K : Frag) (cs : List Cn) (ts : List Ty0) (T : List (Addr × Str)) (n M up : Nat) (Pr : List Dt → Prop) (R : List Dt → Dt → Prop) (vs : List V) (H : Hp) (Q : VK) (z_3 : XK) : Prop where
  un : ∃ (a c : Addr) (N : Nat) (args : List V) (ds : List Dt), vs = .ref a :: args ∧ IsVs K H args ds ∧ DsOk cs ts n ds ∧ noPs ds = true ∧ Pr ds ∧ LamX.Tabs T H ∧ Pail H a c N ∧ N ≤ M ∧
  ∀ v H' d, R ds d → (∀ b o, b ≠ a → (∀ ps, o ≠ .tbl ps) → H b = some o → H' b = some o) → LamX.Tabs T H' → Pail H' a c (N + up) → IsV K H' v d → Q v H'
variable {cs : List Cn} {ts : List Ty0} {n M up : Nat} {R : List Dt → Dt → Prop} {Pr : List Dt → Prop} {vs : List V} {ds : List Dt}
theorem Pail.extN {H H' : Hp} {a c : Addr} {N : Nat} (h : Pail H a c N) (e : LamX.ExtN H H') : Pail H' a c N := h.ext fun b o n e' => e b o e' n
theorem Env.extN (h : Env K (.law T pp) H0 H L) (e : LamX.ExtN H H') (t : LamX.Tabs T H') : Env K (.law T pp) H0 H' L :=
  ⟨fun b o nb nt e' => e b o (h.gr b o nb nt e') nt, ⟨t, fun q z => (h.at_.2 q z).extN e⟩, fun x i => (h.all x i).ext fun b o n e' => e b o e' n⟩
theorem lawL (h : Env K (.law T pp) H0 H L) (i : IsVs K H vs ds) (z : DsOk cs ts n ds) (r : R ds d) (k : ∀ v H', Env K (.law T pp) H0 H' ((v, d) :: L) → Q v H') : spL K cs ts T n R vs H Q E :=
  ⟨ds, d, i, z, r, h.at_.1, fun v H' e t i => k v H' ((h.extN e t).add i)⟩
theorem lawP (h : Env K (.law T (some (a, c, N))) H0 H L) (i : IsVs K H vs ds) (z : DsOk cs ts n ds) (nd : noPs ds = true) (pr : Pr ds) (hN : N ≤ M) (nl : noPs (L.map (·.2)) = true)
    (k : ∀ v H' d, R ds d → Env K (.law T (some (a, c, N + up))) H0 H' ((v, d) :: L) → Q v H') : spLP K cs ts T n M up Pr R (.ref a :: vs) H Q E := by
  have hp := h.at_.2 _ rfl
  refine ⟨a, c, N, vs, ds, rfl, i, z, nd, pr, h.at_.1, hp, hN, fun v H' d r e t p iv => k v H' d r ⟨?_, ⟨t, fun q e => ?_⟩, fun x i => ?_⟩⟩
  · exact fun b o nb nt e' => e b o (nb (a, c, N + up) rfl) nt (h.gr b o (fun q z => by cases z; exact nb (a, c, N + up) rfl) nt e')
  · cases e
    exact p
  · rcases List.mem_cons.mp i with rfl | i
    · exact iv
    · exact IsV.sp hp (fun b o nb nt e' => e b o nb nt e') (h.all x i) (lawNP nl x i)
theorem Env.ofL {H : Hp} (t : LamX.Tabs T H) : Env K (.law T none) H H [] := ⟨fun _ _ _ _ h => h, ⟨t, fun _ z => by cases z⟩, fun _ i => by cases i⟩
theorem Env.ofP {H : Hp} {a c : Addr} {N : Nat} (t : LamX.Tabs T H) (p : Pail H a c N) : Env K (.law T (some (a, c, N))) H H [] := ⟨fun _ _ _ _ h => h, ⟨t, fun _ z => by cases z; exact p⟩, fun _ i => by cases i⟩
/-! the ends -/
structure FinL (K : Frag) (T : List (Addr × Str)) (H : Hp) (d : Dt) (Q : VK) : Prop where
  un : ∀ v H', LamX.ExtN H H' → LamX.Tabs T H' → IsV K H' v d → Q v H'
structure FinP (K : Frag) (T : List (Addr × Str)) (H : Hp) (a c : Addr) (N : Nat) (R : Dt → Prop) (Q : VK) : Prop where
  un : ∀ v H' d, R d → (∀ b o, b ≠ a → (∀ ps, o ≠ .tbl ps) → H b = some o → H' b = some o) → LamX.Tabs T H' → Pail H' a c N → IsV K H' v d → Q v H'
theorem finL (q : FinL K T H0 d Q) (h : Env K (.law T none) H0 H L) (i : IsV K H v d) : Q v H := q.un v H (fun b o e nt => h.gr b o (fun _ z => by cases z) nt e) h.at_.1 i
theorem finP {R : Dt → Prop} {M : Nat} (q : FinP K T H0 a c M R Q) (h : Env K (.law T (some (a, c, N))) H0 H L) (hN : N ≤ M) (r : R d) (i : IsV K H v d) : Q v H :=
  q.un v H d r (fun b o nb nt e => h.gr b o (fun _ z => by cases z; exact nb) nt e) h.at_.1 ((h.at_.2 _ rfl).mono hN) i
end
section
variable {P : Program} {w : World} {K : Frag} {mg : Str → Option Value} {base : Heap} {x qual : Str} {params : Arguments} {body : List Stmt} {scope : Scope} {dvs : List V} {kws : List (Str × V)} {f c : Addr} {fd : FuncData} {CX : CXT} {N ps : List Str} {k n M up : Nat} {cs : List Cn} {ts : List Ty0} {T : List (Addr × Str)} {R : List Dt → Dt → Prop} {Pr : List Dt → Prop} {sp : Sp}
/-- as FunD.ok, the code object named -/
theorem okC (F : FunD K x qual params body scope dvs kws f fd) (hc : fd.code = .ref c) (S : FnScope N ps scope) (len : ∀ vs H Q E, sp vs H Q E → vs.length = ps.length)
    (hbody : ∀ (A : Around) (outer : List PySem.Env) (s : Shared) (H : Hp) (vs : List V) (Q : VK) (E : XK), Room k (A.deeper (envOfC qual scope s.heap.objs.size f (.ref c))) → sp vs H Q E →
      ∃ t, PSs (cxOf CX P w K mg base N qual scope f (.ref c) A outer s H E) body t ∧ t { nx := fun _ H' => Q .non H', rt := Q } (L2.start N vs) H) : FnOk P w K mg base CX (k + 1) f fd ps sp := by
  obtain ⟨oc, od, dV, kV, doc, pm, an, cdv, ct, osl, rfl, lk, hcd, _, _⟩ := F.ex
  have e : cdv = .ref c := hc
  subst e
  exact fn_of lk hcd S len fun A outer s H vs Q E hr hsp => hbody A outer s H vs Q E hr hsp
theorem okL (F : FunD K x qual params body scope dvs kws f fd) (hc : fd.code = .ref c) (S : FnScope N ps scope) (hl : ∀ ds d, R ds d → ds.length = ps.length)
    (hb : ∀ (A : Around) (outer : List PySem.Env) (s : Shared) (H : Hp) (ds : List Dt) (d : Dt) (Q : VK) (E : XK), Room k (A.deeper (envOfC qual scope s.heap.objs.size f (.ref c))) → DsOk cs ts n ds → R ds d → FinL K T H d Q → Env K (.law T none) H H [] →
      ∃ t, PSs (cxOf CX P w K mg base N qual scope f (.ref c) A outer s H E) body t ∧ AftA K H ds fun vs => t { nx := fun _ H' => Q .non H', rt := Q } (L2.start N vs) H) : FnOk P w K mg base CX (k + 1) f fd ps (spL K cs ts T n R) :=
  okC F hc S (fun vs H Q E ⟨ds, d, i, _, r, _⟩ => by rw [i.length]; exact hl _ _ r) fun A outer s H vs Q E hr ⟨ds, d, i, z, r, t, q⟩ => let ⟨tt, h1, h2⟩ := hb A outer s H ds d Q E hr z r ⟨q⟩ (Env.ofL t); ⟨tt, h1, h2.un vs i⟩
theorem okP (F : FunD K x qual params body scope dvs kws f fd) (hc : fd.code = .ref c) (S : FnScope N ps scope) (hl : ∀ ds, Pr ds → ds.length + 1 = ps.length)
    (hb : ∀ (A : Around) (outer : List PySem.Env) (s : Shared) (H : Hp) (a c' : Addr) (m : Nat) (ds : List Dt) (Q : VK) (E : XK), Room k (A.deeper (envOfC qual scope s.heap.objs.size f (.ref c))) → DsOk cs ts n ds → noPs ds = true → Pr ds → m ≤ M → FinP K T H a c' (m + up) (R ds) Q → Env K (.law T (some (a, c', m))) H H [] →
      ∃ t, PSs (cxOf CX P w K mg base N qual scope f (.ref c) A outer s H E) body t ∧ AftA K H ds fun vs => t { nx := fun _ H' => Q .non H', rt := Q } (L2.start N (.ref a :: vs)) H) : FnOk P w K mg base CX (k + 1) f fd ps (spLP K cs ts T n M up Pr R) :=
  okC F hc S (fun vs H Q E ⟨a, c, m, args, ds, e, i, _, _, r, _⟩ => by rw [e, List.length_cons, i.length]; exact hl _ r) fun A outer s H vs Q E hr ⟨a, c', m, args, ds, e, i, z, nd, r, t, p, hm, q⟩ => let ⟨tt, h1, h2⟩ := hb A outer s H a c' m ds Q E hr z nd r hm ⟨q⟩ (Env.ofP t p); ⟨tt, h1, by subst e; exact h2.un args i⟩
theorem okL0 (F : FunD K x qual params body scope dvs kws f fd) (S : FnScope N ps scope) (hl : ∀ ds d, R ds d → ds.length = ps.length)
    (hb : ∀ (cdv : Value) (A : Around) (outer : List PySem.Env) (s : Shared) (H : Hp) (ds : List Dt) (d : Dt) (Q : VK) (E : XK), Room k (A.deeper (envOfC qual scope s.heap.objs.size f cdv)) → DsOk cs ts n ds → R ds d → FinL K T H d Q → Env K (.law T none) H H [] →
      ∃ t, PSs (cxOf CX P w K mg base N qual scope f cdv A outer s H E) body t ∧ AftA K H ds fun vs => t { nx := fun _ H' => Q .non H', rt := Q } (L2.start N vs) H) : FnOk P w K mg base CX (k + 1) f fd ps (spL K cs ts T n R) :=
  F.ok S (fun vs H Q E ⟨ds, d, i, _, r, _⟩ => by rw [i.length]; exact hl _ _ r) fun cdv A outer s H vs Q E hr ⟨ds, d, i, z, r, t, q⟩ => let ⟨tt, h1, h2⟩ := hb cdv A outer s H ds d Q E hr z r ⟨q⟩ (Env.ofL t); ⟨tt, h1, h2.un vs i⟩
theorem okP0 (F : FunD K x qual params body scope dvs kws f fd) (S : FnScope N ps scope) (hl : ∀ ds, Pr ds → ds.length + 1 = ps.length)
    (hb : ∀ (cdv : Value) (A : Around) (outer : List PySem.Env) (s : Shared) (H : Hp) (a c' : Addr) (m : Nat) (ds : List Dt) (Q : VK) (E : XK), Room k (A.deeper (envOfC qual scope s.heap.objs.size f cdv)) → DsOk cs ts n ds → noPs ds = true → Pr ds → m ≤ M → FinP K T H a c' (m + up) (R ds) Q → Env K (.law T (some (a, c', m))) H H [] →
      ∃ t, PSs (cxOf CX P w K mg base N qual scope f cdv A outer s H E) body t ∧ AftA K H ds fun vs => t { nx := fun _ H' => Q .non H', rt := Q } (L2.start N (.ref a :: vs)) H) : FnOk P w K mg base CX (k + 1) f fd ps (spLP K cs ts T n M up Pr R) :=
  F.ok S (fun vs H Q E ⟨a, c, m, args, ds, e, i, _, _, r, _⟩ => by rw [e, List.length_cons, i.length]; exact hl _ r) fun cdv A outer s H vs Q E hr ⟨a, c', m, args, ds, e, i, z, nd, r, t, p, hm, q⟩ => let ⟨tt, h1, h2⟩ := hb cdv A outer s H a c' m ds Q E hr z nd r hm ⟨q⟩ (Env.ofP t p); ⟨tt, h1, by subst e; exact h2.un args i⟩
theorem FunD.okQR {k n : Nat} {cs : List Cn} {ts : List Ty0} {R : List Dt → Out → Prop} (F : FunD K x qual params body scope [] [] f fd) (S : FnScope N ps scope) (hl : ∀ ds o, R ds o → ds.length = ps.length)
    (hb : ∀ (cdv : Value) (A : Around) (outer : List PySem.Env) (s : Shared) (H : Hp) (ds : List Dt) (o : Out) (Q : VK) (E : XK), DsOk cs ts n ds → R ds o → Aft K H o Q E →
      ∃ t, PSs (cxQ P w K mg base N qual scope f cdv A outer s H E) body t ∧ AftA K H ds fun vs => t { nx := fun _ H' => Q .non H', rt := Q } (L2.start N vs) H) : FnQ P w K mg base (k + 1) f fd ps (spR K cs ts n R) :=
  Sp.FunD.okQ F S (fun vs H Q E ⟨ds, o, i, _, r, _⟩ => by rw [i.length]; exact hl _ _ r) fun cdv A outer s H vs Q E ⟨ds, o, i, z, r, q⟩ => let ⟨t, h1, h2⟩ := hb cdv A outer s H ds o Q E z r q; ⟨t, h1, h2.un vs i⟩
end
end Sp
end
section
set_option Elab.async false
set_option linter.all false
set_option exponentiation.threshold 5000
set_option maxRecDepth 100000
set_option maxHeartbeats 4000000
namespace Sp
open PySem PySem.Spec PyProof.Rows L2
open PySem.W (Frag)
theorem takesLen {X : Cx} {W : WX} (t : Takes X W) : Takes X (fun c d σ H => σ.length = X.N.length → W c d σ H) := fun u s' ⟨a, B, sI, pins, σ, H, cls, d, e, I, nb, up, sky, na, os, ag, w⟩ =>
  t u s' ⟨a, B, sI, pins, σ, H, cls, d, e, I, nb, up, sky, na, os, ag, w I.len⟩
/-! ### what is heard of a lambda -/
/-- (tag, what was told) -/
structure HOk (tag : Str) (Q : VK) (v : V) (H1 : Hp) : Prop where
  un : ∀ p, H1 p = none → Q (.ref p) (upd H1 p (.tup [.str tag, v]))
structure TTH (HE : VK → XK) (Hk : VK → VK) (tl : XK → Hp → VK → Prop) (H : Hp) (Q : VK) : Prop where
  un : ∀ R : VK, (∀ v H1, Hk Q v H1 → R v H1) → tl (HE Q) H R
/-- the classes with their tags and fields, and what else is heard -/
structure HEr (K : Frag) (tb : List (Str × Str × List Str)) (sp : VK → Value → List (Str × V) → Hp → Prop) (Q : VK) (cls : Value) (d : Option Addr) (H' : Hp) : Prop where
  un : ∃ dd gs, d = some dd ∧ H' dd = some (.xd gs) ∧
  ((∃ e ∈ tb, cls = .ref (cX K e.1) ∧ ∃ vs, e.2.2.map (fun f => gs.lookup f) = vs.map some ∧ ∀ p, H' p = none → Q (.ref p) (upd H' p (.tup (.str e.2.1 :: vs)))) ∨ sp Q cls gs H')
section
variable {K : Frag} {T : List (Addr × Str)} {pp : Option (Addr × Addr × Nat)} {m : Md} {H0 H H' : Hp} {L : List (V × Dt)} {Q : VK} {E : XK} {v : V} {d : Dt} {tb : List (Str × Str × List Str)} {sp : VK → Value → List (Str × V) → Hp → Prop} {fs : List (Str × Dt)} {tag x f g : Str}
theorem lamD {HE : VK → XK} {Hk : VK → VK} {t : XK → TE} {σ : L2.St} (h : Env K (.law T pp) H0 H L) (k : ∀ H1 R, (∀ v H1, Hk Q v H1 → R v H1) → Env K (.law T pp) H0 H1 L → t (HE Q) σ H1 R) : tLam T (TTH HE Hk) t σ H Q :=
  ⟨h.at_.1, fun H1 e t' => ⟨fun R r => k H1 R r (h.extN e t')⟩⟩
theorem hokD (h : Env K m H0 H L) (i : IsV K H v d) (k : ∀ p H', Env K m H0 H' ((.ref p, .tup [.str tag, d]) :: L) → Q (.ref p) H') : HOk tag Q v H :=
  .mk fun p n => k p _ ((h.step (Same.new' n)).add (.tup upd_same (.cons (.str _) (.cons (i.same (Same.new' n)) .nil))))
theorem herP1 (h : Env K m H0 H L) (hm : (x, tag, [f]) ∈ tb) (l : fs.lookup f = some d) (k : ∀ p H', Env K m H0 H' ((.ref p, .tup [.str tag, d]) :: L) → Q (.ref p) H') : AftE K H x fs (HEr K tb sp Q) := .mk fun dd H' gs s n e i => by
  obtain ⟨v, e1, iv⟩ := i.get l
  exact ⟨dd, gs, rfl, e, .inl ⟨_, hm, rfl, [v], by rw [List.map_cons, e1]; rfl, fun p n => k p _ (((h.step s).step (Same.new' n)).add (.tup upd_same (.cons (.str _) (.cons (iv.same (Same.new' n)) .nil))))⟩⟩
theorem herP2 {d2 : Dt} (h : Env K m H0 H L) (hm : (x, tag, [f, g]) ∈ tb) (l : fs.lookup f = some d) (l2 : fs.lookup g = some d2) (k : ∀ p H', Env K m H0 H' ((.ref p, .tup [.str tag, d, d2]) :: L) → Q (.ref p) H') : AftE K H x fs (HEr K tb sp Q) := .mk fun dd H' gs s n e i => by
  obtain ⟨v, e1, iv⟩ := i.get l
  obtain ⟨v2, e2, iv2⟩ := i.get l2
  exact ⟨dd, gs, rfl, e, .inl ⟨_, hm, rfl, [v, v2], by rw [List.map_cons, List.map_cons, e1, e2]; rfl, fun p n => k p _ (((h.step s).step (Same.new' n)).add (.tup upd_same (.cons (.str _) (.cons (iv.same (Same.new' n)) (.cons (iv2.same (Same.new' n)) .nil)))))⟩⟩
end
theorem dctD {K : Frag} {m : Md} {H0 H : Hp} {L : List (V × Dt)} {σ : L2.St} {Q : VK} (h : Env K m H0 H L) (k : ∀ p H', Env K m H0 H' ((.ref p, .dct) :: L) → Q (.ref p) H') : tDNewK σ H Q := ⟨fun p n => k p _ ((h.step (Same.new' n)).add (.dct upd_same))⟩
theorem herI {K : Frag} {tb : List (Str × Str × List Str)} {sp : VK → Value → List (Str × V) → Hp → Prop} {Q : VK} {cls : Value} {d : Option Addr} {H' : Hp} (h : HEr K tb sp Q cls d H') : ∃ dd gs, d = some dd ∧ H' dd = some (.xd gs) ∧
  ((∃ e ∈ tb, cls = .ref (cX K e.1) ∧ ∃ vs, e.2.2.map (fun f => gs.lookup f) = vs.map some ∧ ∀ p, H' p = none → Q (.ref p) (upd H' p (.tup (.str e.2.1 :: vs)))) ∨ sp Q cls gs H') := h.un
theorem tthI {HE : VK → XK} {Hk : VK → VK} {tl : XK → Hp → VK → Prop} {H : Hp} {Q : VK} (h : TTH HE Hk tl H Q) : ∀ R : VK, (∀ v H1, Hk Q v H1 → R v H1) → tl (HE Q) H R := h.un
theorem hokI {tag : Str} {Q : VK} {v : V} {H1 : Hp} (h : HOk tag Q v H1) : ∀ p, H1 p = none → Q (.ref p) (upd H1 p (.tup [.str tag, v])) := h.un
theorem herX {K : Frag} {m : Md} {H0 H : Hp} {L : List (V × Dt)} {x : Str} {fs : List (Str × Dt)} {tb : List (Str × Str × List Str)} {sp : VK → Value → List (Str × V) → Hp → Prop} {Q : VK} (h : Env K m H0 H L) (k : ∀ H' gs, Same H H' → IsFs K H' gs fs → sp Q (.ref (cX K x)) gs H') : AftE K H x fs (HEr K tb sp Q) :=
  .mk fun dd H' gs s n e i => ⟨dd, gs, rfl, e, .inr (k H' gs s i)⟩
theorem afMk {K : Frag} {H : Hp} {d : Dt} {Q : VK} (h : ∀ v H', Same H H' → IsV K H' v d → Q v H') : AftD K H d Q := .mk h
theorem pe_tupE {X : Cx} {es : List Expr} {t : TA} {pos : Pos} {x1 : Nat} (h : PA X es t) : PE X (.Tuple es x1 pos) (tTupD t) := pe_tupD h
theorem map1 {gs : List (Str × V)} {vs : List V} {f : Str} (h : [f].map (fun f => gs.lookup f) = vs.map some) : ∃ v, vs = [v] ∧ gs.lookup f = some v := by
  match vs, h with
  | [v], h => exact ⟨v, rfl, (List.cons.inj h).1⟩
  | [], h => exact absurd (congrArg List.length h) (by simp)
  | _ :: _ :: _, h => exact absurd (congrArg List.length h) (by simp)
theorem map2 {gs : List (Str × V)} {vs : List V} {f g : Str} (h : [f, g].map (fun f => gs.lookup f) = vs.map some) : ∃ v u, vs = [v, u] ∧ gs.lookup f = some v ∧ gs.lookup g = some u := by
  match vs, h with
  | [v, u], h => exact ⟨v, u, rfl, (List.cons.inj h).1, (List.cons.inj (List.cons.inj h).2).1⟩
  | [], h => exact absurd (congrArg List.length h) (by simp)
  | [_], h => exact absurd (congrArg List.length h) (by simp)
  | _ :: _ :: _ :: _, h => exact absurd (congrArg List.length h) (by simp)
/-! ### what the law's own defs do -/
inductive RTold : List Dt → Out → Prop
  | ok {k j : Int} : RTold [.step k j] (.ok (.tup [.int k, .int j]))
  | no {d : Dt} (h : d.is .Step = false) : RTold [d] (.ok .non)
inductive RComm : List Dt → Out → Prop
  | mk {a b : Int} : RComm [.int a, .int b] (.ok (.int ((Nat.gcd a.natAbs b.natAbs : Nat) : Int)))
inductive RNear : List Dt → Out → Prop
  | mk {k j a b : Int} (h : Mt k j a b) (l : k.natAbs < 31) (l2 : j.natAbs < 2 ^ 52) : RNear [.tup [.int k, .int j]] (.ok (.tup [.int a, .int b]))
structure Pk (n : Nat) (k j : Int) : Prop where
  nz : ¬ (k = 0 ∧ j = 0)
  k : k.natAbs < 2 ^ n
  j : j.natAbs < 2 ^ n
theorem Pk.mono {n m : Nat} {k j : Int} (h : Pk n k j) (l : n ≤ m) : Pk m k j := ⟨h.nz, nb_le h.k l, nb_le h.j l⟩
inductive ROne : List Dt → Dt → Prop
  | mk {k j : Int} (h : Pk 52 k j) : ROne [.tup [.int k, .int j]] (.bl true)
inductive RTwo : List Dt → Dt → Prop
  | mk {k j l i : Int} (h : Pk 52 k j) (h2 : Pk 52 l i) : RTwo [.tup [.int k, .int j], .tup [.int l, .int i]] (.bl true)
/-! the greatest common divisor, in 200 turns -/
theorem gcd_step {a b : Int} (a0 : 0 ≤ a) (b0 : 0 < b) : Nat.gcd b.natAbs (a % b).natAbs = Nat.gcd a.natAbs b.natAbs := by
  show Int.gcd b (a % b) = Int.gcd a b
  rw [Int.gcd_comm a b]
  have e : a % b = a - b * (a / b) := by have := Int.emod_add_mul_ediv a b; omega
  rw [e, Int.gcd_sub_mul_left_right]
theorem half_step {a b : Int} (b0 : 0 < b) (h : b ≤ a) : 2 * (b * (a % b)) ≤ b * a := by
  have h1 := Int.emod_lt_of_pos a b0
  have h0 := Int.emod_nonneg a (show b ≠ 0 by omega)
  have h2 := Int.emod_add_mul_ediv a b
  have h3 : 1 ≤ a / b := by
    have := (Int.le_ediv_iff_mul_le b0 (a := 1) (b := a)).mpr (by omega)
    exact this
  have h4 : b ≤ b * (a / b) := by
    have := Int.mul_le_mul_of_nonneg_left h3 (show 0 ≤ b by omega)
    omega
  have h5 : 2 * (a % b) ≤ a := by omega
  have := Int.mul_le_mul_of_nonneg_left h5 (show 0 ≤ b by omega)
  rw [Int.mul_left_comm] at this
  exact this
/-- after i turns -/
structure Eu (x y : Int) (i : Nat) (a b : Int) : Prop where
  a0 : 0 ≤ a
  b0 : 0 ≤ b
  g : Nat.gcd a.natAbs b.natAbs = Nat.gcd x.natAbs y.natAbs
  lt : 1 ≤ i → b = 0 ∨ b < a
  p : 1 ≤ i → a * b < 2 ^ (131 - i)
  q : a < 2 ^ 60 ∧ b < 2 ^ 60
theorem Eu.start {x y : Int} (hx : x.natAbs < 2 ^ 60) (hy : y.natAbs < 2 ^ 60) : Eu x y 0 (if x < 0 then -x else x) (if y < 0 then -y else y) := by
  refine ⟨by split <;> omega, by split <;> omega, ?_, fun h => by omega, fun h => by omega, ?_⟩
  · congr 1 <;> split <;> omega
  · constructor <;> split <;> omega
theorem Eu.step {x y : Int} {i : Nat} {a b : Int} (h : Eu x y i a b) (hb : 0 < b) (hi : i < 130) : Eu x y (i + 1) b (a % b) := by
  have l1 := Int.emod_lt_of_pos a hb
  have l0 := Int.emod_nonneg a (show b ≠ 0 by omega)
  have hq := h.q
  refine ⟨by omega, l0, by rw [gcd_step h.a0 hb, h.g], fun _ => .inr l1, fun _ => ?_, by omega, by omega⟩
  by_cases z : 1 ≤ i
  · have p := h.p z
    have l := h.lt z
    have hs := half_step hb (show b ≤ a by omega)
    have e : (2 : Int) ^ (131 - i) = 2 * 2 ^ (131 - (i + 1)) := by
      rw [show 131 - i = (131 - (i + 1)) + 1 by omega, Int.pow_succ]
      omega
    rw [e, Int.mul_comm a b] at p
    omega
  · obtain rfl : i = 0 := by omega
    have : b * (a % b) ≤ b * b := Int.mul_le_mul_of_nonneg_left (by omega) (by omega)
    have h2 : b * b ≤ 2 ^ 60 * 2 ^ 60 := Int.mul_le_mul (by omega) (by omega) (by omega) (by decide)
    have : (2 : Int) ^ 60 * 2 ^ 60 < 2 ^ (131 - (0 + 1)) := by decide
    omega
theorem Eu.stay {x y : Int} {i : Nat} {a b : Int} (h : Eu x y i a b) (hb : ¬ 0 < b) : Eu x y (i + 1) a b := by
  have b0 := h.b0
  obtain rfl : b = 0 := by omega
  exact ⟨h.a0, h.b0, h.g, fun _ => .inl rfl, fun _ => by rw [Int.mul_zero]; exact Int.pow_pos (by decide), h.q⟩
theorem Eu.done {x y : Int} {i : Nat} {a b : Int} (h : Eu x y i a b) (hi : 130 ≤ i) : b = 0 := by
  have p := h.p (by omega)
  have b0 := h.b0
  have a0 := h.a0
  rcases h.lt (by omega) with z | z
  · exact z
  · by_cases hb : b = 0
    · exact hb
    · have e : 1 * 2 ≤ a * b := by
        have : (2 : Int) * 1 ≤ a * b := Int.mul_le_mul (by omega) (by omega) (by omega) (by omega)
        omega
      have : (2 : Int) ^ (131 - i) ≤ 2 ^ 1 := by
        have := Nat.pow_le_pow_right (show 0 < 2 by decide) (show 131 - i ≤ 1 by omega)
        exact_mod_cast this
      omega
theorem Eu.gcd {x y : Int} {i : Nat} {a : Int} (h : Eu x y i a 0) : a = ((Nat.gcd x.natAbs y.natAbs : Nat) : Int) := by
  have g := h.g
  rw [show (0 : Int).natAbs = 0 from rfl, Nat.gcd_zero_right] at g
  have := h.a0
  omega
/-! ### equal data -/
theorem eqv_int2 (a b c d : Int) : PyData.eqv (.tuple [.int a, .int b]) (.tuple [.int c, .int d]) = (decide (a = c) && decide (b = d)) := by
  rw [Bool.eq_iff_iff]
  simp [PyData.eqv, PyData.eqvAll]
theorem eqv_tag2 (t u : Str) (p q : PyData) : PyData.eqv (.tuple [.str t, p]) (.tuple [.str u, q]) = (decide (t = u) && PyData.eqv p q) := by
  rw [Bool.eq_iff_iff]
  simp [PyData.eqv, PyData.eqvAll]
theorem IsV.intE {K : Frag} {H : Hp} {v : V} {i : Int} (h : IsV K H v (.int i)) : v = .int i := by
  cases h with
  | int => rfl
  | own o _ _ => cases o
theorem IsV.blE {K : Frag} {H : Hp} {v : V} {i : Bool} (h : IsV K H v (.bl i)) : v = .bl i := by
  cases h with
  | bl => rfl
  | own o _ _ => cases o
theorem IsV.tupE {K : Frag} {H : Hp} {v : V} {l : List Dt} (h : IsV K H v (.tup l)) : ∃ p, v = .ref p := by
  cases h with
  | tup => exact ⟨_, rfl⟩
  | own o _ _ => cases o
theorem lstI {xs : List V} {H : Hp} {Q : VK} (l : xs.length ≤ sizeLine) (h : ∀ p, H p = none → Q (.ref p) (upd H p (.lst xs))) : LstD xs H Q := ⟨l, h⟩
theorem tupI {xs : List V} {H : Hp} {Q : VK} (l : xs.length ≤ sizeLine) (h : ∀ p, H p = none → Q (.ref p) (upd H p (.tup xs))) : TupD xs H Q := ⟨l, h⟩
/-! the nearest one -/
theorem near_hit {k j x y here : Int} (h : Mt k j x y) (hk : k ≠ 0) (hle : here.natAbs ≤ x.natAbs) (hx : ¬ (here < 0 ∧ x = -here)) (c : Int) (e : here * j - 1 = c * k) : here = x := by
  have cr := h.cr
  have lo := h.lo hk
  have hi := h.hi hk
  obtain ⟨t, ht⟩ : ∃ t, here - x = t * k := by
    refine ⟨x * c - here * y, ?_⟩
    have e1 : x * (here * j) - here * (x * j) = 0 := by grind
    have e2 : x * (here * j) = x * (c * k) + x := by rw [show here * j = c * k + 1 by omega]; grind
    have e3 : here * (x * j) = here * (k * y) + here := by rw [show x * j = k * y + 1 by omega]; grind
    have e4 : (x * c - here * y) * k = x * (c * k) - here * (k * y) := by grind
    omega
  have hs : t = 0 ∨ 1 ≤ t ∨ t ≤ -1 := by omega
  have hK : k = ((k.natAbs : Nat) : Int) ∨ k = -((k.natAbs : Nat) : Int) := by omega
  rcases hs with rfl | hs | hs
  · rw [Int.zero_mul] at ht
    omega
  · have hm : ((k.natAbs : Nat) : Int) ≤ t * ((k.natAbs : Nat) : Int) := by
      have := Int.mul_le_mul_of_nonneg_right hs (show (0 : Int) ≤ ((k.natAbs : Nat) : Int) by omega)
      omega
    rcases hK with z | z
    · rw [z] at ht
      omega
    · rw [z, Int.mul_neg] at ht
      omega
  · have hm : ((k.natAbs : Nat) : Int) ≤ -(t * ((k.natAbs : Nat) : Int)) := by
      have := Int.mul_le_mul_of_nonneg_right (show 1 ≤ -t by omega) (show (0 : Int) ≤ ((k.natAbs : Nat) : Int) by omega)
      rw [Int.neg_mul] at this
      omega
    rcases hK with z | z
    · rw [z] at ht
      omega
    · rw [z, Int.mul_neg] at ht
      omega
theorem near_y {k j x y : Int} (h : Mt k j x y) (hk : k ≠ 0) : (x * j - 1).fdiv k = y ∧ (x * j - 1).fmod k = 0 := by
  have cr := h.cr
  have e : x * j - 1 = y * k := by
    rw [Int.mul_comm y k]
    omega
  rw [e]
  exact ⟨Int.mul_fdiv_cancel _ hk, Int.mul_fmod_left _ _⟩
theorem near_0 {j x y here : Int} (h : Mt 0 j x y) : here * j = 1 ↔ here = x := by
  have cr := h.cr
  rw [Int.zero_mul, Int.sub_zero] at cr
  have hj : j = 1 ∨ j = -1 := by
    have := Int.natAbs_mul x j
    rw [cr] at this
    have h1 : j.natAbs = 1 := Nat.eq_one_of_mul_eq_one_left (m := x.natAbs) this.symm
    omega
  rcases hj with rfl | rfl <;> omega
theorem near_n {k j x y : Int} (h : Mt k j x y) : x.natAbs < k.natAbs + 2 := by
  by_cases hk : k = 0
  · subst hk
    have := (near_0 (here := x) h).mpr rfl
    have h2 := Int.natAbs_mul x j
    rw [this] at h2
    have h1 : x.natAbs = 1 := Nat.eq_one_of_mul_eq_one_right (n := j.natAbs) h2.symm
    omega
  · have lo := h.lo hk
    have hi := h.hi hk
    omega
theorem rawL {K : Frag} {H : Hp} {p : Addr} (h : IsV K H (.ref p) (.lst [])) : H p = some (.lst []) := by
  cases h with
  | lst h r => cases r; exact h
  | own o _ _ => cases o
theorem rawT2 {K : Frag} {H : Hp} {p : Addr} {a b : Int} (h : IsV K H (.ref p) (.tup [.int a, .int b])) : H p = some (.tup [.int a, .int b]) := by
  cases h with
  | tup h r =>
    cases r with
    | cons r1 r => cases r with
      | cons r2 r =>
        cases r
        rw [r1.intE, r2.intE] at h
        exact h
  | own o _ _ => cases o
theorem rawLT {K : Frag} {H : Hp} {p : Addr} {a b : Int} (h : IsV K H (.ref p) (.lst [.tup [.int a, .int b]])) : ∃ t, H p = some (.lst [.ref t]) ∧ H t = some (.tup [.int a, .int b]) := by
  cases h with
  | lst h r =>
    cases r with
    | cons r1 r =>
      cases r
      obtain ⟨t, rfl⟩ := r1.tupE
      exact ⟨t, h, rawT2 r1⟩
  | own o _ _ => cases o
theorem afterApp {K : Frag} {H H2 : Hp} {L : List (V × Dt)} {p t t0 : Addr} {x y a b : Int} (e : Env K .fn H H2 L) (hp : H p = none) (h : H2 p = some (.lst [])) (ht : IsV K H2 (.ref t) (.tup [.int x, .int y])) (ht0 : IsV K H2 (.ref t0) (.tup [.int a, .int b])) :
    Env K .fn H (upd H2 p (.lst [.ref t])) [(.ref p, .lst [.tup [.int x, .int y]]), (.ref t0, .tup [.int a, .int b])] := by
  have r := rawT2 ht
  have r0 := rawT2 ht0
  have n : t ≠ p := fun z => by rw [z, h] at r; cases r
  have n0 : t0 ≠ p := fun z => by rw [z, h] at r0; cases r0
  have i1 : IsV K (upd H2 p (.lst [.ref t])) (.ref t0) (.tup [.int a, .int b]) := .tup (by rw [upd_ne n0]; exact r0) (.cons (.int _) (.cons (.int _) .nil))
  have i2 : IsV K (upd H2 p (.lst [.ref t])) (.ref p) (.lst [.tup [.int x, .int y]]) := .lst upd_same (.cons (.tup (by rw [upd_ne n]; exact r) (.cons (.int _) (.cons (.int _) .nil))) .nil)
  have sm : Same H (upd H2 p (.lst [.ref t])) := fun b o eb => by
    rw [upd_ne (fun z => by rw [z, hp] at eb; cases eb)]
    exact e.gr b o eb
  exact (((Env.of H).step sm).add i1).add i2
end Sp
end
section
set_option Elab.async false
set_option linter.all false
set_option maxRecDepth 100000
set_option maxHeartbeats 4000000
namespace Sp
open PySem PySem.Spec PyProof.Rows L2 TL
theorem sum_mem {l : List Nat} {a : Nat} (h : a ∈ l) : a ≤ l.sum := by
  induction l with
  | nil => cases h
  | cons b l ih =>
    rw [List.sum_cons]
    rcases List.mem_cons.mp h with rfl | h
    · omega
    · have := ih h
      omega
theorem tOk {x : Str} (h : x.length ≤ 90000) : TOk x := by
  have w := split_weight x " " (by decide)
  refine ⟨by omega, ?_, fun v hv => ?_⟩
  · show (Txt.split x " ").length ≤ _
    omega
  · have := sum_mem (List.mem_map_of_mem (f := fun s : Str => s.length) hv)
    have e : ((Txt.split x " ").map (·.length)).sum = ((wsOf x).map fun s : Str => s.length).sum := rfl
    omega
theorem ws_join {ws : List Str} (hne : ws ≠ []) (hp : ∀ w ∈ ws, 32 ∉ tl w) : wsOf (Txt.join " " ws) = ws := split_join (y := " ") (s := 32) (S := []) rfl (by decide +kernel) hne hp
theorem ws_two (k j : Int) : wsOf (dS k ++ (Str.ofString " " ++ dS j)) = [dS k, dS j] := by
  have e : dS k ++ (Str.ofString " " ++ dS j) = Txt.join " " [dS k, dS j] := by
    apply ext_tl
    rw [tl_append, tl_append, join_eq, tl_join]
    first | rfl | simp [joinL]
  rw [e]
  refine ws_join (by simp) fun w hw => ?_
  rcases List.mem_cons.mp hw with rfl | hw
  · exact dS_free (by decide) (by decide)
  · rcases List.mem_cons.mp hw with rfl | hw
    · exact dS_free (by decide) (by decide)
    · cases hw
theorem lt60 {k : Int} (h : k.natAbs < 2 ^ 52) : k.natAbs < 10 ^ 60 := Nat.lt_of_lt_of_le h (by decide)
theorem rd_own {k j : Int} (h : Pk 52 k j) : RReadBy RTakeS [.str (dS k ++ (Str.ofString " " ++ dS j))] (.ok (.step k j)) := by
  have l1 := len_dS (lt60 h.k)
  have l2 := len_dS (lt60 h.j)
  have e := ws_two k j
  have es : (Str.ofString " ").length = 1 := rfl
  refine .ok (tOk (by rw [lenApp, lenApp]; omega)) ?_
  rw [e]
  refine .ok ?_ ?_ h.nz
  · show intW (dS k) = some k
    exact intW_dS (lt60 h.k)
  · show intW (dS j) = some j
    exact intW_dS (lt60 h.j)
/-! the same, what is read freed of the context -/
section
variable {X : Cx} {CX : CXT} {k : Nat} {C : Addr} {sp : Sp} {E : XK} {op : Operator} {o : Expr} {f : Str} {pos : Pos} {ta : TE}
theorem pe_propXK (K : PySem.W.Frag) (hK : X.K = K) (he : PE X o ta) (G : GP X.prog X.w X.K X.mg X.base (L2.CX X.prog X.w) k C f sp) (hr : Room (k + 1) X.A) (hx : Passes (L2.CX X.prog X.w) X E) (hab : attributeBase o f X.env (eval o X.env) = eval o X.env) : PE X (.Attribute o f pos) (tPropD C sp (fun c d H' => Na K c ∧ E c d H') ta) := by
  subst hK
  exact pe_propX he G hr hx hab
theorem op_goXK (K : PySem.W.Frag) (hK : X.K = K) (G : GO X.prog X.w X.K X.mg X.base CX k C op sp) (hr : Room k X.A) (hx : Passes CX X E) : OpR X (binaryOp op) (rBinX K C op sp E) := by
  subst hK
  exact op_goX G hr hx
end
theorem RUpw_up {k j : Int} (h : ¬ (k = 0 ∧ j = 0)) (u : upS k j = true) : RUpw [.step k j] (.ok (.step k j)) := by
  have r := RUpw.mk h
  rw [u] at r
  exact r
theorem RUpw_dn {k j : Int} (h : ¬ (k = 0 ∧ j = 0)) (u : upS k j = false) : RUpw [.step k j] (.ok (.step (-k) (-j))) := by
  have r := RUpw.mk h
  rw [u] at r
  exact r
theorem finLB {K : PySem.W.Frag} {T : List (Addr × Str)} {H0 H : Hp} {L : List (V × Dt)} {Q : VK} {b b' : Bool} (q : FinL K T H0 (.bl b) Q) (h : Env K (.law T none) H0 H L) (e : b' = b) : Q (.bl b') H := finL q h (e ▸ .bl _)
theorem corner_eq {j k : Int} (hk : k ≠ 0) : (Rat.divInt j k).num * k = j * ((Rat.divInt j k).den : Nat) :=
  (Rat.divInt_eq_divInt_iff (by have := (Rat.divInt j k).den_nz; omega) hk).mp (Rat.num_divInt_den (Rat.divInt j k))
theorem corner_den {j k : Int} (hk : k ≠ 0) : (if k < 0 then -k else k).fdiv ((Nat.gcd k.natAbs j.natAbs : Nat) : Int) = ((Rat.divInt j k).den : Nat) := by
  have c := comm_den (a := j) (b := k) hk
  unfold comm at c
  rw [Nat.gcd_comm]
  by_cases h : 0 < k
  · rw [if_pos h] at c
    rw [if_neg (by omega)]
    exact c
  · rw [if_neg h] at c
    rw [if_pos (by omega), ← c, ← Int.neg_fdiv_neg (-k), Int.neg_neg]
theorem lamR {tag : Str} {Q R : VK} {v : V} {H : Hp} (h : ∀ v H1, HOk tag Q v H1 → R v H1) (k : HOk tag Q v H) : R v H := h v H k
end Sp
end
section
set_option Elab.async false
set_option linter.all false
set_option exponentiation.threshold 5000
set_option maxRecDepth 100000
set_option maxHeartbeats 4000000
namespace Sp
open PySem PySem.Spec PyProof.Rows L2
open PySem.W (Frag)
/-! ### texts times numbers -/
def repS (s : Str) (k : Int) : Str := ⟨(List.replicate k.toNat s.cps).foldl (· ++ ·) #[]⟩
structure rRepS (x : V) (y : V) (H : Hp) (Q : VK) : Prop where
  un : ∃ s k, x = .str s ∧ y = .int k ∧ 2 ≤ k ∧ k ≤ 1000 ∧ s.length ≠ 0 ∧ s.length ≤ 1000 ∧ (repS s k).length ≤ sizeLine ∧ Q (.str (repS s k)) H
theorem op_repS {X : Cx} : OpR X (binaryOp .Mult) rRepS := by
  intro pins s σ H x y v u Q I rx ry h
  obtain ⟨a, k, rfl, rfl, k0, k1, l0, l1, hl, q⟩ := h
  obtain ⟨t, rfl⟩ := rx
  obtain ⟨t', rfl⟩ := ry
  have c : (k == 1 || a.length == 0) = false := by
    rw [Bool.or_eq_false_iff]
    exact ⟨beq_eq_false_iff_ne.mpr (by omega), beq_eq_false_iff_ne.mpr l0⟩
  have n1 : ¬ k < 1 := by omega
  refine PySem.P.mul_str ?_ (fun _ _ => ?_) (fun _ _ => ?_) ?_
  · rw [decide_eq_false (by omega), decide_eq_false (by omega)]
    rfl
  · have : (1000 : Int) ≤ (2 ^ 63 - 1) / k := (Int.le_ediv_iff_mul_le (by omega)).mpr (by omega)
    omega
  · have h1 : a.length * k.toNat ≤ 1000 * 1000 := Nat.mul_le_mul l1 (by omega)
    unfold Builtin.Str.tooLong
    have sl : (1000000 : Nat) ≤ sizeLine := by decide
    exact decide_eq_false (by omega)
  · rw [if_neg n1, if_neg (by rw [c]; simp)]
    exact ⟨hl, .str (repS a k), H, I.tok _, ⟨_, rfl⟩, q⟩
/-! ### a call from which nothing may come -/
theorem pxF {X : Cx} : Passes (L2.CX X.prog X.w) X C8.E0 := fun pins σ H s e s' I c => by
  obtain ⟨a, B, H', cls, d, rfl, ⟨st, _, _, oe, vs, _, _, _, he, hz, _⟩, _, ub, _, _, _, q⟩ := c
  exact q.elim
/-! ### cases of what is promised -/
theorem FnOk.cases {P : Program} {w : World} {K : Frag} {mg : Str → Option Value} {base : Heap} {CX : CXT} {k : Nat} {f : Addr} {fd : FuncData} {ps : List Str} {sp : Sp}
    (h : ∀ vs H Q E, sp vs H Q E → ∃ sp', FnOk P w K mg base CX k f fd ps sp' ∧ sp' vs H Q E) : FnOk P w K mg base CX k f fd ps sp :=
  ⟨fun vs H Q E z => let ⟨_, F, z'⟩ := h vs H Q E z; F.len vs H Q E z', fun A outer s H args us vs Q E hr e b r z => let ⟨_, F, z'⟩ := h vs H Q E z; F.run A outer s H args us vs Q E hr e b r z'⟩
/-! ### lists that change -/
section
variable {K : Frag} {T : List (Addr × Str)} {H0 H : Hp} {L : List (V × Dt)} {pp : Option (Addr × Addr × Nat)} {p : Addr} {xs ys : List V} {ds : List Dt}
/-- it did not stand -/
def NewL (H0 : Hp) (p : Addr) : Prop := ∀ o, H0 p = some o → ∃ ps, o = .tbl ps
theorem Env.fresh (h : Env K (.law T pp) H0 H L) (hp : H p = none) : NewL H0 p := fun o e => by
  cases o with
  | tbl ps => exact ⟨ps, rfl⟩
  | _ =>
    exfalso
    have := h.gr p _ (fun q z e => by
      obtain ⟨xs, hx⟩ := (h.at_.2 q z).lst
      rw [← e, hp] at hx
      cases hx) (fun ps z => by cases z) e
    rw [hp] at this
    cases this
structure NewP (H0 : Hp) (a c p : Addr) : Prop where
  n : NewL H0 p
  a : p ≠ a
  c : p ≠ c
theorem Env.freshP {a c : Addr} {N : Nat} (h : Env K (.law T (some (a, c, N))) H0 H L) (hp : H p = none) : NewP H0 a c p := by
  obtain ⟨cs, n, g, h1, h2, _⟩ := h.at_.2 _ rfl
  refine ⟨h.fresh hp, fun z => ?_, fun z => ?_⟩
  · rw [← z, hp] at h1
    cases h1
  · have h2 : H c = some (.lst (cs.map V.int)) := h2
    rw [← z, hp] at h2
    cases h2
theorem Env.lset {a c : Addr} {N : Nat} (h : Env K (.law T (some (a, c, N))) H0 H L) (n : NewP H0 a c p) (hp : H p = some (.lst xs)) (L' : List (V × Dt)) (sub : ∀ e ∈ L', e ∈ L ∧ noL e.2 = true) (iy : IsVs K H ys ds) (dn : noLs ds = true) :
    Env K (.law T (some (a, c, N))) H0 (upd H p (.lst ys)) ((.ref p, .lst ds) :: L') := by
  have sb : Sbl p H (upd H p (.lst ys)) := fun b o nb _ e => by rw [upd_ne nb]; exact e
  have iy' := IsVs.sb hp sb iy dn
  refine ⟨fun b o nb nt e => ?_, ⟨tabsSbl h.at_.1 (fun b o nb e => by rw [upd_ne nb]; exact e) hp, fun q z => ?_⟩, fun e i => ?_⟩
  · rw [upd_ne (fun z => by
      subst z
      obtain ⟨ps, rfl⟩ := n.n o e
      exact nt ps rfl)]
    exact h.gr b o nb nt e
  · cases z
    obtain ⟨cs, m, g, h1, h2, h3⟩ := h.at_.2 _ rfl
    refine ⟨cs, m, g, ?_, ?_, h3⟩
    · rw [upd_ne n.a.symm]
      exact h1
    · rw [upd_ne n.c.symm]
      exact h2
  · rcases List.mem_cons.mp i with rfl | i
    · exact .lst upd_same iy'
    · exact IsV.sb hp sb (h.all e (sub e i).1) (sub e i).2
end
section
variable {K : Frag} {mg : Str → Option Value} {m : Md} {H0 H H' : Hp} {L : List (V × Dt)} {v x y : V} {d : Dt} {vs : List V} {a b l : List Dt} {Q : VK} {E : XK} {cs : List Cn} {ts : List Ty0}
theorem IsVs.app {xs zs : List V} {a b : List Dt} (i : IsVs K H xs a) (j : IsVs K H zs b) : IsVs K H (xs ++ zs) (a ++ b) := by
  induction xs generalizing a with
  | nil => cases i; exact j
  | cons x xs ih =>
    cases i with
    | cons i1 i2 => exact .cons i1 (ih i2)
theorem IsV.lstE {l : List Dt} (h : IsV K H v (.lst l)) : ∃ p vs, v = .ref p ∧ H p = some (.lst vs) ∧ IsVs K H vs l := by
  cases h with
  | lst h r => exact ⟨_, _, rfl, h, r⟩
  | own o _ _ => cases o
theorem catD (h : Env K m H0 H L) (i : IsV K H x (.lst a)) (j : IsV K H y (.lst b)) (hl : Nat.ble (a.length + b.length) 1000 = true) (k : ∀ p H', Env K m H0 H' ((.ref p, .lst (a ++ b)) :: L) → Q (.ref p) H') : rCat x y H Q := by
  obtain ⟨p, xs, rfl, hp, ip⟩ := i.lstE
  obtain ⟨q, zs, rfl, hq, iq⟩ := j.lstE
  refine ⟨p, q, xs, zs, rfl, rfl, hp, hq, ?_, fun r n => k r _ ((h.step (Same.new' n)).add (.lst upd_same ((ip.app iq).same (Same.new' n))))⟩
  rw [ip.length, iq.length]
  exact Nat.le_trans (Nat.le_of_ble_eq_true hl) (by decide)
theorem strsE {ws : List Str} : ∀ {vs : List V}, IsVs K H vs (ws.map Dt.str) → vs = ws.map V.str := by
  induction ws with
  | nil => intro vs i; cases i; rfl
  | cons w ws ih =>
    intro vs i
    cases i with
    | cons i1 i2 =>
      rw [ih i2]
      cases i1 with
      | str => rfl
      | own o _ _ => cases o
/-- " ".join of a list of texts -/
theorem joinD {p : Addr} {ws : List Str} (i : IsV K H (.ref p) (.lst (ws.map Dt.str))) : SqL K H p (ws.map V.str) := by
  obtain ⟨q, vs, e, hp, r⟩ := i.lstE
  cases e
  rw [← strsE r]
  exact SqL.of hp
/-- an item, whichever -/
theorem ixTAny {i : Int} (h : IsV K H x (.tup l)) (h0 : 0 ≤ i) (h1 : i < l.length) (k : ∀ v d, d ∈ l → IsV K H v d → Q v H) : rIxT K x (.int i) H Q := by
  cases h with
  | tup h r =>
    obtain ⟨n, rfl⟩ := Int.eq_ofNat_of_zero_le h0
    have hn : n < l.length := by omega
    obtain ⟨v, e1, iv⟩ := r.get (List.getElem?_eq_getElem hn)
    exact ⟨_, _, _, v, rfl, rfl, SqT.of h, atI_nat e1, k v _ (List.getElem_mem hn) iv⟩
  | own o _ _ => cases o
theorem ixLAny {i : Int} (h : IsV K H x (.lst l)) (h0 : -(l.length : Int) ≤ i) (h1 : i < l.length) (k : ∀ v d, d ∈ l → IsV K H v d → Q v H) : rIxL K x (.int i) H Q := by
  cases h with
  | @lst p vs ds h r =>
    have hl := r.length
    obtain ⟨n, e, hn⟩ : ∃ n : Nat, ixN vs.length i = some n ∧ n < l.length := by
      unfold ixN
      rw [hl]
      by_cases z : 0 ≤ i
      · rw [if_pos z, if_pos h1]
        exact ⟨_, rfl, by omega⟩
      · rw [if_neg z, if_pos h0]
        exact ⟨_, rfl, by omega⟩
    obtain ⟨v, e1, iv⟩ := r.get (List.getElem?_eq_getElem hn)
    exact ⟨_, _, _, v, rfl, rfl, SqL.of h, by unfold atI; rw [e]; exact e1, k v _ (List.getElem_mem hn) iv⟩
  | own o _ _ => cases o
theorem mateN (i : IsV K H v d) (o : okT cs ts d = true) (h : d.is .Step = false) (z : SzD 100000 d) (q : AftE K H "BadStep" (part "step") E) : spMate K cs ts [v] H Q E := mateO i o (.inr ⟨h, z, q⟩)
end
/-! the two steps' cases -/
inductive RTwoC (b1 b2 b3 : Bool) : List Dt → Dt → Prop
  | mk {k j l i : Int} (h : Pk 52 k j) (h2 : Pk 52 l i) (c1 : decide (k + l = 0 ∧ j + i = 0) = b1) (c2 : decide (k - l = 0 ∧ j - i = 0) = b2) (c3 : decide ((crs k j l i).natAbs = 1) = b3) : RTwoC b1 b2 b3 [.tup [.int k, .int j], .tup [.int l, .int i]] (.bl true)
def spLaw (K : Frag) (T : List (Addr × Str)) : Sp := fun vs H Q _ => ∃ (a : Addr) (ns : List Int), vs = [.ref a] ∧ SqL K H a (ns.map V.int) ∧ LamX.Tabs T H ∧ ∀ H', Q (.bl true) H'
def oddT : List Ty0 := [.none, .bool, .str, .list, .tuple, .dict]
end Sp
end
section
set_option Elab.async false
set_option linter.all false
set_option exponentiation.threshold 5000
set_option maxRecDepth 100000
set_option maxHeartbeats 0
local macro_rules | `(tactic| walk_at "leaf") => `(tactic| first | rfl | assumption | exact True.intro | exact L2.upd_same | exact L2.ClsV.ty _ | exact L2.ClsV.own _ | decide | exact of_decide_eq_true rfl | exact L2.SqL.of (by assumption) | exact L2.SqL.of L2.upd_same | exact Or.inl (L2.SqL.of L2.upd_same) | exact Or.inl (L2.SqL.of (by assumption)) | exact L2.SqT.of (by assumption) | exact L2.SqT.of L2.upd_same | exact Sp.cmL (by decide) | exact Sp.cmR (by decide) | exact ⟨by decide, by decide, by decide⟩ | exact ⟨by decide, by decide⟩ | omega | fail)
local macro_rules | `(tactic| walk_at "rd1") => `(tactic| first
  | apply Sp.exI
  | (refine And.intro ?lf ?_; (case lf => walk_at "leaf"))
  | fail)
local macro_rules | `(tactic| walk_at "rd") => `(tactic| repeat (walk_at "rd1"))
namespace Sp
open PySem PySem.Spec PyProof.Rows L2
open PySem.W (Frag)
section
variable {P : Program} {w : World} {K : PySem.W.Frag} {mg : Str → Option Value} {base : Heap} {f : Addr} {fd : FuncData} {T : List (Addr × Str)}

theorem sc__law_pail : FnScope ["_law_script", "_law_cell"] ["_law_script"] (defScope (topS 66)) := ⟨rfl, rfl, rfl, by decide +kernel, rfl, by decide +kernel, by decide +kernel⟩
theorem ok__law_pail (G : G0 K mg csL tsL) (F : FP K "_law_pail" "_law_pail" (topS 66) [] f fd) : FnOk P w K mg base (L2.CX P w) 1 f fd ["_law_script"] (spPail K) := by
  have nd := sc__law_pail.nd
  refine F.ok sc__law_pail (fun vs H Q E h => by obtain ⟨_, _, rfl, _⟩ := h; rfl) (fun cdv A outer s H vs Q E hr h => ⟨_, pss_one (ps_ret (pe_lst (pa_cons (pe_lc (own := [("_law_cell", 1)]) (g := gName 1) (tt := tYes) rfl nd (L2.pi_list (pe_slice sl_list (pv 0) po_none (po_some pe_int))) (blkOk_by (N := ["_law_script", "_law_cell"]) (sc := defScope (topS 66)) (by decide +kernel)) (fun _ _ _ _ _ => pg_name (i := 1) nd rfl (Or.inl rfl)) (fun _ _ _ _ _ => pts_nil) (fun _ _ _ _ _ => pe_callTy call_int1i rfl G.nm.int (by decide +kernel) (pa_cons (pv 1) pa_nil))) (pa_cons (pe_int) (pa_cons (pe_int) (pa_nil)))))), ?_⟩)
  obtain ⟨a, ns, rfl, h, q⟩ := h
  walk_at "rd"
  intro p hp
  have ey : ∃ ys : List Int, cutV (List.map V.int ns) none (some 60) = ys.map V.int ∧ ys.length ≤ 60 := by
    unfold cutV
    rw [← List.map_drop, ← List.map_take]
    refine ⟨_, rfl, ?_⟩
    have e : HT.sIx (List.map V.int ns).length (List.map V.int ns).length (some 60) = min 60 (List.map V.int ns).length := HT.sIx_nat _ _ 60
    rw [List.length_take, List.length_drop, e]
    omega
  obtain ⟨ys, ey, hlen⟩ := ey
  rw [ey]
  refine ⟨p, rfl, ⟨_, SqL.of upd_same⟩, fun D hD => ?_⟩
  have s1 : Same H (upd H p (.lst (ys.map V.int))) := fun b o e => by rw [upd_ne (ne_of_none e hp)]; exact e
  have pD : p ≠ D := ne_of_none upd_same hD
  refine lc_list (K := K) (a := p) (xs := ys.map V.int) (fun i Hh => Same H Hh ∧ Hh p = some (.lst (ys.map V.int)) ∧ Hh D = some (.lst ((ys.take i).map V.int))) ?_ (fun i H _ h => SqL.of h.2.1) ?_ ?_
  · refine ⟨fun b o e => ?_, ?_, upd_same⟩
    · rw [upd_ne (ne_of_none (s1 _ _ e) hD)]
      exact s1 _ _ e
    · rw [upd_ne pD]
      exact upd_same
  · intro i x H1 hx hP
    obtain ⟨p1, p2, p3⟩ := hP
    rw [List.getElem?_map] at hx
    obtain ⟨y, hy, rfl⟩ := Option.map_eq_some_iff.mp hx
    have hi := (List.getElem?_eq_some_iff.mp hy).1
    walk_at "rd"
    have h60 : 60 < sizeLine := by decide
    refine ⟨by rw [List.length_map, List.length_take]; omega, fun b o e => ?_, ?_, ?_⟩
    · rw [upd_ne]
      · exact p1 _ _ e
      · intro z
        subst z
        rw [show H b = none from by
          cases q : H b with
          | none => rfl
          | some u => rw [s1 _ _ q] at hD; cases hD] at e
        cases e
    · rw [upd_ne pD]
      exact p2
    · rw [upd_same, List.take_add_one, hy]
      simp
  · intro H1 hP
    obtain ⟨p1, p2, p3⟩ := hP
    have h3 : 3 ≤ sizeLine := by decide
    walk_at "rd"
    intro r hr
    have rD : D ≠ r := ne_of_none p3 hr
    refine q r _ (fun b o e => ?_) ?_ ⟨D, ys, 0, 0, upd_same, ?_, by omega, by omega, by omega⟩
    · rw [upd_ne (ne_of_none (p1 _ _ e) hr)]
      exact p1 _ _ e
    · cases z : H r with
      | none => rfl
      | some u => rw [p1 _ _ z] at hr; cases hr
    · rw [upd_ne rD, p3, List.length_map, List.take_length]
theorem sc__law_dip : FnScope ["_law_pail_here", "_law_many", "_law_digit", "_law_at", "_law_cell", "_law_great", "_law_mixed"] ["_law_pail_here", "_law_many"] (defScope (topS 67)) := ⟨rfl, rfl, rfl, by decide +kernel, rfl, by decide +kernel, by decide +kernel⟩
theorem ok__law_dip (G : G0 K mg csL tsL) (F : FP K "_law_dip" "_law_dip" (topS 67) [] f fd) : FnOk P w K mg base (L2.CX P w) 1 f fd ["_law_pail_here", "_law_many"] spDip := by
  have nd := sc__law_dip.nd
  refine F.ok sc__law_dip (fun vs H Q E h => by obtain ⟨_, _, _, _, rfl, _⟩ := h; rfl) (fun cdv A outer s H vs Q E hr h => ⟨_, pss_cons (ps_if (pt_cmpR op_gt (pe_ix L2.ix_list (pv 0) (pe_int) (fun _ _ => rfl)) (pe_int) (nomark _)) (pss_cons (ps_set (i := 2) nd rfl (Or.inl rfl) (pe_op op_mod (pe_callTy call_int1i rfl G.nm.int (by decide +kernel) (pa_cons (pe_ix L2.ix_list (pv 0) (pe_int) (fun _ _ => rfl)) (pa_nil))) (pv 1))) (pss_cons (ps_asg (pe_op op_fdivB (pe_callTy call_int1i rfl G.nm.int (by decide +kernel) (pa_cons (pe_ix L2.ix_list (pv 0) (pe_int) (fun _ _ => rfl)) (pa_nil))) (pv 1)) (pg_sub (pv 0) (pe_int) set_list)) (pss_one (ps_ret (pv 2))))) (pss_nil)) (pss_cons (ps_set (i := 3) nd rfl (Or.inl rfl) (pe_ix L2.ix_list (pv 0) (pe_int) (fun _ _ => rfl))) (pss_cons (ps_asg (pe_op op_add (pv 3) (pe_int)) (pg_sub (pv 0) (pe_int) set_list)) (pss_cons (ps_set (i := 4) nd rfl (Or.inl rfl) (pe_op op_add (pe_op op_mul (pe_int) (pv 3)) (pe_int))) (pss_cons (ps_if (pt_cmpR (L2.op_neD hr.units) (pe_ix L2.ix_list (pv 0) (pe_int) (fun _ _ => rfl)) (pe_lst (pa_nil)) (nomark _)) (pss_one (ps_set (i := 4) nd rfl (Or.inl rfl) (pe_ix L2.ix_list (pe_ix L2.ix_list (pv 0) (pe_int) (fun _ _ => rfl)) (pe_op op_mod (pe_callTy call_int1i rfl G.nm.int (by decide +kernel) (pa_cons (pv 3) (pa_nil))) (pe_callB call_len_seq rfl G.nm.len (by decide +kernel) (pa_cons (pe_ix L2.ix_list (pv 0) (pe_int) (fun _ _ => rfl)) (pa_nil)))) (fun _ _ => rfl)))) (pss_nil)) (pss_cons (ps_if (PW.pt (pw_and (pt_cmpR op_lt (pv 3) (pe_callB call_len_seq rfl G.nm.len (by decide +kernel) (pa_cons (pe_ix L2.ix_list (pv 0) (pe_int) (fun _ _ => rfl)) (pa_nil))) (nomark _)) (pw_and1 (pt_cmpR op_ge (pe_callB call_abs rfl G.nm.abs (by decide +kernel) (pa_cons (pv 4) (pa_nil))) (pe_op op_pow (pe_int) (pe_int)) (nomark _))))) (pss_cons (ps_set (i := 5) nd rfl (Or.inl rfl) (pe_op op_add (pe_op op_mul (pe_int) (pe_op op_sub (pe_callB call_abs rfl G.nm.abs (by decide +kernel) (pa_cons (pv 4) (pa_nil))) (pe_op op_pow (pe_int) (pe_int)))) (pe_callTy call_int1b rfl G.nm.int (by decide +kernel) (pa_cons (pe_cmpR op_lt (pv 4) (pe_int) (nomark _)) (pa_nil))))) (pss_cons (ps_asg (pe_op op_fdivB (pe_callTy call_int1i rfl G.nm.int (by decide +kernel) (pa_cons (pv 5) (pa_nil))) (pv 1)) (pg_sub (pv 0) (pe_int) set_list)) (pss_one (ps_ret (pe_op op_mod (pe_callTy call_int1i rfl G.nm.int (by decide +kernel) (pa_cons (pv 5) (pa_nil))) (pv 1)))))) (pss_nil)) (pss_cons (ps_set (i := 6) nd rfl (Or.inl rfl) (pe_op op_mod (pe_callTy call_int1i rfl G.nm.int (by decide +kernel) (pa_cons (pe_op op_pow (pe_op op_add (pe_op op_add (pe_op op_mod (pe_callTy call_int1i rfl G.nm.int (by decide +kernel) (pa_cons (pv 4) (pa_nil))) (pe_int)) (pe_op op_mul (pe_int) (pv 3))) (pe_int)) (pe_int)) (pa_nil))) (pe_int))) (pss_cons (ps_set (i := 6) nd rfl (Or.inl rfl) (pe_op op_mod (pe_callTy call_int1i rfl G.nm.int (by decide +kernel) (pa_cons (pe_op op_pow (pe_op op_add (pe_op op_add (pe_op op_mul (pv 6) (pe_op op_add (pe_op op_mul (pe_int) (pv 3)) (pe_int))) (pe_op op_mul (pe_op op_mul (pe_int) (pv 3)) (pv 3))) (pe_int)) (pe_int)) (pa_nil))) (pe_int))) (pss_one (ps_ret (pe_op op_mod (pe_callTy call_int1i rfl G.nm.int (by decide +kernel) (pa_cons (pe_op op_fdivB (pv 6) (pe_int)) (pa_nil))) (pv 1))))))))))), ?_⟩)
  obtain ⟨a, c, m, N, rfl, ⟨cs, n, g, ha, hc, n0, nN, g0⟩, hN, m0, m1, q⟩ := h
  have dm : ∀ x, CDivB x m := fun x => ⟨by omega, by have h2 : (2 : Nat) ^ 30 ≤ 2 ^ 4000 := Nat.pow_le_pow_right (by decide) (by decide); omega⟩
  have dg := dm g
  have ca : c ≠ a := by
    intro z
    subst z
    rw [ha] at hc
    injection hc with hc
    injection hc with hc
    cases cs <;> cases hc
  walk_at "rd"
  refine iteP (fun h1 => ?_) (fun h1 => ?_)
  · have h1 : 0 < g := of_decide_eq_true h1
    walk_at "rd"
    have e : Sb a H (upd H a (.lst [.ref c, .int n, .int (g.fdiv m)])) := fun b o nb e => by rw [upd_ne nb]; exact e
    exact q (g % m) _ (Int.emod_nonneg _ (by omega)) (Int.emod_lt_of_pos _ m0) ⟨cs, n, g.fdiv m, upd_same, e _ _ ca hc, n0, by omega, Int.fdiv_nonneg g0 (by omega)⟩ e
  · have hc1 : upd H a (.lst [.ref c, .int (n + 1), .int g]) c = some (.lst (cs.map V.int)) := by
      rw [upd_ne ca]
      exact hc
    walk_at "rd"
    intro l hl
    have hc2 := (upd_ne (o := .lst []) (ne_of_none hc1 hl)).trans hc1
    refine ⟨_, _, .lst (SqL.of hc2) (dp_ints cs), .lst (SqL.of upd_same) .nil, shaped_ints cs, rfl, ?_⟩
    walk_at "rd"
    have hla : a ≠ l := ne_of_none (show upd H a (.lst [.ref c, .int (n + 1), .int g]) a = some _ from upd_same) hl
    have ha2 : upd (upd H a (.lst [.ref c, .int (n + 1), .int g])) l (.lst []) a = some (.lst [.ref c, .int (n + 1), .int g]) := by
      rw [upd_ne hla]
      exact upd_same
    apply tailR
    · intro tail
      refine iteP (fun h2 => ?_) (fun h2 => ?_)
      · have hl0 : 0 < ((cs.map V.int).length : Int) := by
          cases cs with
          | nil => cases h2
          | cons y ys => simp
        have hat : ∃ x : Int, atI (cs.map V.int) (n % ((cs.map V.int).length : Int)) = some (.int x) := by
          have r1 := Int.emod_nonneg n (show ((cs.map V.int).length : Int) ≠ 0 by omega)
          have r2 := Int.emod_lt_of_pos n hl0
          obtain ⟨j, hj⟩ : ∃ j : Nat, n % ((cs.map V.int).length : Int) = j := ⟨(n % ((cs.map V.int).length : Int)).toNat, by omega⟩
          rw [hj]
          have hjl : j < cs.length := by rw [hj, List.length_map] at r2; omega
          refine ⟨cs[j], atI_nat ?_⟩
          rw [List.getElem?_map, List.getElem?_eq_getElem hjl]
          rfl
        obtain ⟨x, hat⟩ := hat
        walk_at "rd"
        exact tail x
      · walk_at "rd"
        exact tail (50333 * n + 9103)
    · intro x
      have nM : n ≤ 1000000 := by omega
      have cp1 : CPow (x % 2147483629 + 65539 * n + 9103) 5 := ⟨by decide, by decide, by omega⟩
      have y0 := Int.emod_nonneg ((x % 2147483629 + 65539 * n + 9103) ^ Int.toNat 5) (show (2147483647 : Int) ≠ 0 by decide)
      have y1 := Int.emod_lt_of_pos ((x % 2147483629 + 65539 * n + 9103) ^ Int.toNat 5) (show (0 : Int) < 2147483647 by decide)
      have cm1 : CMul ((x % 2147483629 + 65539 * n + 9103) ^ Int.toNat 5 % 2147483647) (2 * n + 2357) := .inr ⟨by omega, by omega⟩
      have cm2 : CMul (50333 * n) n := .inr ⟨by omega, by omega⟩
      have cp2 : CPow ((x % 2147483629 + 65539 * n + 9103) ^ Int.toNat 5 % 2147483647 * (2 * n + 2357) + 50333 * n * n + 42071) 3 := by
        refine ⟨by decide, by decide, ?_⟩
        revert y0 y1
        generalize (x % 2147483629 + 65539 * n + 9103) ^ Int.toNat 5 % 2147483647 = y
        intro y0 y1
        have b1 : y * (2 * n + 2357) ≤ 2147483647 * 2002357 := Int.mul_le_mul (by omega) (by omega) (by omega) (by decide)
        have b2 : 0 ≤ y * (2 * n + 2357) := Int.mul_nonneg y0 (by omega)
        have b3 : n * n ≤ 1000000 * 1000000 := Int.mul_le_mul nM nM n0 (by decide)
        have b4 : 0 ≤ n * n := Int.mul_nonneg n0 n0
        rw [Int.mul_assoc 50333]
        omega
      have d64 : ∀ z : Int, CDivB z 64 := fun z => ⟨by decide, by decide⟩
      have d64' := d64 (((x % 2147483629 + 65539 * n + 9103) ^ Int.toNat 5 % 2147483647 * (2 * n + 2357) + 50333 * n * n + 42071) ^ Int.toNat 3 % 2147483587)
      have dgr := dm (2 * ((if x < 0 then -x else x) - 10 ^ Int.toNat 18) + (if decide (x < 0) = true then 1 else 0))
      have sb2 : ∀ o', Sb a H (upd (upd (upd H a (.lst [.ref c, .int (n + 1), .int g])) l (.lst [])) a o') := fun o' b o nb e => by
        have h1 := (upd_ne (o := .lst [.ref c, .int (n + 1), .int g]) nb).trans e
        rw [upd_ne nb, upd_ne (ne_of_none h1 hl)]
        exact h1
      have sb1 : Sb a H (upd (upd H a (.lst [.ref c, .int (n + 1), .int g])) l (.lst [])) := fun b o nb e => by
        have h1 := (upd_ne (o := .lst [.ref c, .int (n + 1), .int g]) nb).trans e
        rw [upd_ne (ne_of_none h1 hl)]
        exact h1
      have fin1 : Pail (upd (upd H a (.lst [.ref c, .int (n + 1), .int g])) l (.lst [])) a c (N + 1) := ⟨cs, n + 1, g, ha2, hc2, by omega, by omega, g0⟩
      refine iteP (fun h3 => ?_) (fun h3 => ?_)
      · walk_at "rd"
        refine iteP (fun h4 => ?_) (fun h4 => ?_)
        · walk_at "rd"
          refine q _ _ (Int.emod_nonneg _ (by omega)) (Int.emod_lt_of_pos _ m0) ⟨cs, n + 1, _, upd_same, sb2 _ _ _ ca hc, by omega, by omega, Int.fdiv_nonneg ?_ (by omega)⟩ (sb2 _)
          have h4 : (10 : Int) ^ Int.toNat 18 ≤ (if x < 0 then -x else x) := of_decide_eq_true h4
          have : (0 : Int) ≤ (if decide (x < 0) = true then 1 else 0) := by split <;> decide
          omega
        · walk_at "rd"
          exact q _ _ (Int.emod_nonneg _ (by omega)) (Int.emod_lt_of_pos _ m0) fin1 sb1
      · walk_at "rd"
        exact q _ _ (Int.emod_nonneg _ (by omega)) (Int.emod_lt_of_pos _ m0) fin1 sb1
end
end Sp
end
section
set_option Elab.async false
set_option linter.all false
set_option exponentiation.threshold 5000
set_option maxRecDepth 100000
set_option maxHeartbeats 4000000
namespace Sp
open PySem PySem.Spec PyProof.Rows L2 TL
open PySem.W (Frag)
/-! ### texts of steps that cannot be read -/
theorem join1 (a : Str) : Txt.join " " [a] = a := by
  apply ext_tl
  rw [join_eq, tl_join]
  first | rfl | simp [joinL]
theorem join2 (a b : Str) : Txt.join " " [a, b] = a ++ (Str.ofString " " ++ b) := by
  apply ext_tl
  rw [tl_append, tl_append, join_eq, tl_join]
  first | rfl | simp [joinL]
theorem join3 (a b c : Str) : Txt.join " " [a, b, c] = a ++ (Str.ofString " " ++ (b ++ (Str.ofString " " ++ c))) := by
  apply ext_tl
  rw [tl_append, tl_append, tl_append, tl_append, join_eq, tl_join]
  first | rfl | simp [joinL]
theorem sp1 : (Str.ofString " ").length = 1 := rfl
theorem rd_one {k : Int} (h : k.natAbs < 2 ^ 52) : RReadBy RTakeS [.str (dS k)] (errT 1) := by
  have e : wsOf (dS k) = [dS k] := by
    have := ws_join (ws := [dS k]) (by simp) (fun w hw => by
      rw [List.mem_singleton.mp hw]
      exact dS_free (by decide) (by decide))
    rw [join1] at this
    exact this
  refine .err (k := 0) (tOk (by have := len_dS (lt60 h); omega)) ?_
  rw [e]
  refine RTakeS.e2 (k := 0) (a := k) ?_ rfl
  show intW (dS k) = some k
  exact intW_dS (lt60 h)
theorem ws_bad {a b : Str} (ha : 32 ∉ tl a) (hb : 32 ∉ tl b) : wsOf (Txt.join " " [a, b]) = [a, b] := ws_join (by simp) fun w hw => by
  rcases List.mem_cons.mp hw with rfl | hw
  · exact ha
  · rw [List.mem_singleton.mp hw]
    exact hb
theorem dS_sp (k : Int) : 32 ∉ tl (dS k) := dS_free (by decide) (by decide)
theorem len2 {a b : Str} (ha : a.length ≤ 100) (hb : b.length ≤ 100) : (Txt.join " " [a, b]).length ≤ 90000 := by
  rw [join2, lenApp, lenApp, sp1]
  omega
theorem rd_bad0 {w : Str} {j : Int} (h : j.natAbs < 2 ^ 52) (hw : intW w = none) (fr : 32 ∉ tl w) (l : w.length ≤ 100) : RReadBy RTakeS [.str (Txt.join " " [w, dS j])] (errT 0) := by
  have l2 := len_dS (lt60 h)
  refine .err (k := 0) (tOk (len2 l (by omega))) ?_
  rw [ws_bad fr (dS_sp j)]
  exact RTakeS.e1 (k := 0) (Nat.zero_le _) hw
theorem rd_bad1 {w : Str} {k : Int} (h : k.natAbs < 2 ^ 52) (hw : intW w = none) (fr : 32 ∉ tl w) (l : w.length ≤ 100) : RReadBy RTakeS [.str (Txt.join " " [dS k, w])] (errT 1) := by
  have l2 := len_dS (lt60 h)
  refine .err (k := 0) (tOk (len2 (by omega) l)) ?_
  rw [ws_bad (dS_sp k) fr]
  refine RTakeS.e2 (k := 0) (a := k) ?_ hw
  show intW (dS k) = some k
  exact intW_dS (lt60 h)
theorem rd_three {k j : Int} (h : Pk 52 k j) : RReadBy RTakeS [.str (Txt.join " " [dS k, dS j, "3"])] (errT 2) := by
  have l1 := len_dS (lt60 h.k)
  have l2 := len_dS (lt60 h.j)
  have e : wsOf (Txt.join " " [dS k, dS j, "3"]) = [dS k, dS j, "3"] := ws_join (by simp) fun w hw => by
    rcases List.mem_cons.mp hw with rfl | hw
    · exact dS_sp _
    · rcases List.mem_cons.mp hw with rfl | hw
      · exact dS_sp _
      · rw [List.mem_singleton.mp hw]
        decide +kernel
  refine .more (k := 2) (d := .step k j) (tOk ?_) ?_ ?_
  · rw [join3, lenApp, lenApp, lenApp, lenApp, sp1, show ("3" : Str).length = 1 from rfl]
    omega
  · rw [e]
    refine RTakeS.ok (k := 0) ?_ ?_ h.nz
    · show intW (dS k) = some k
      exact intW_dS (lt60 h.k)
    · show intW (dS j) = some j
      exact intW_dS (lt60 h.j)
  · rw [e]
    exact fun z => by cases z
theorem rd_zero : RReadBy RTakeS [.str "0 0"] (errT 1) := by
  have e : ("0 0" : Str) = dS 0 ++ (Str.ofString " " ++ dS 0) := by decide +kernel
  have ew : wsOf "0 0" = [dS 0, dS 0] := by
    rw [e]
    exact ws_two 0 0
  refine .err (k := 0) (tOk (by decide +kernel)) ?_
  rw [ew]
  exact RTakeS.z (k := 0) (intW_dS (i := 0) (by decide)) (intW_dS (i := 0) (by decide))
/-! ### " ".join -/
def Dt.strs : List Dt → List Str
  | [] => []
  | .str x :: l => x :: Dt.strs l
  | _ :: l => Dt.strs l
def Dt.isStrs : List Dt → Bool
  | [] => true
  | .str _ :: l => Dt.isStrs l
  | _ => false
theorem strs_map : ∀ {l : List Dt}, Dt.isStrs l = true → l = (Dt.strs l).map Dt.str
  | [], _ => rfl
  | d :: l, h => by
    cases d with
    | str x => exact congrArg (Dt.str x :: ·) (strs_map (l := l) h)
    | _ => cases h
structure JoinB (a : Str) (ws : List Str) : Prop where
  le : (ws.map (·.length)).sum + ws.length * a.length ≤ 16777216
structure JoinR (K : PySem.W.Frag) (x : V) (xs : List V) (H : Hp) (Q : VK) : Prop where
  un : ∃ a p, ∃ ys : List Str, x = .str a ∧ xs = [.ref p] ∧ (SqL K H p (ys.map V.str) ∨ SqT K H p (ys.map V.str)) ∧ (ys.map (·.length)).sum + ys.length * a.length ≤ 16777216 ∧ Q (.str (Txt.join a ys)) H
theorem pe_joinK {X : Cx} {o e : Expr} {to te : TE} {apos pos : Pos} (K : PySem.W.Frag) (hK : X.K = K) (ho : PE X o to) (he : PE X e te) (hs : starEach [e] X.env = [(false, eval e X.env)] := by rfl) (hbase : attributeBase o "join" X.env (eval o X.env) = eval o X.env := by rfl) (hline : (apos.endLine == pos.line) = true := by rfl) :
    PE X (.Call (.Attribute o "join" apos) [e] [] pos) (tM1 (JoinR K) to te) := by
  subst hK
  exact ⟨fun pins s σ H Q I z => (pe_join (PE.mono ho) (PE.mono he) hs hbase hline).run pins s σ H Q I ⟨_, z, fun _ _ y => ⟨y.1, ⟨_, y.2, fun _ _ w => w.un⟩⟩⟩⟩
theorem joinR {K : PySem.W.Frag} {H : Hp} {y : V} {l : List Dt} {a : Str} {Q : VK} (i : IsV K H y (.lst l)) (s : Dt.isStrs l = true) (b : JoinB a (Dt.strs l)) (q : Q (.str (Txt.join a (Dt.strs l))) H) : JoinR K (.str a) [y] H Q := by
  obtain ⟨p, vs, rfl, hp, r⟩ := i.lstE
  refine ⟨a, p, Dt.strs l, rfl, rfl, .inl (joinD ?_), b.le, q⟩
  rw [← strs_map s]
  exact i
theorem joinB3 {k j : Int} (h : Pk 52 k j) : JoinB " " [dS k, dS j, "3"] := by
  have l1 := len_dS (lt60 h.k)
  have l2 := len_dS (lt60 h.j)
  refine ⟨?_⟩
  rw [List.map_cons, List.map_cons, List.map_cons, List.map_nil, List.sum_cons, List.sum_cons, List.sum_cons, List.sum_nil, show ("3" : Str).length = 1 from rfl, show (" " : Str).length = 1 from rfl, List.length_cons, List.length_cons, List.length_cons, List.length_nil]
  omega
theorem joinB2 {a b : Str} (h : a.length ≤ 100) (h2 : b.length ≤ 100) : JoinB " " [a, b] := by
  refine ⟨?_⟩
  rw [List.map_cons, List.map_cons, List.map_nil, List.sum_cons, List.sum_cons, List.sum_nil, show (" " : Str).length = 1 from rfl, List.length_cons, List.length_cons, List.length_nil]
  omega
theorem ix_listK {X : Cx} (K : Frag) (hK : X.K = K) : IxR X (rIxL K) := by
  subst hK
  exact ix_list
theorem ix_tupK {X : Cx} (K : Frag) (hK : X.K = K) : IxR X (rIxT K) := by
  subst hK
  exact ix_tup
theorem gTupRaw {K : Frag} {H : Hp} {p : Addr} {xs : List V} {m : Nat} {t : TGs} {σ : L2.St} {Q : L2.St → Hp → Prop} (h : SqT K H p xs) (e : xs.length = m) (k : t xs σ H Q) : gTup K m t (.ref p) σ H Q := ⟨p, xs, rfl, h, e, k⟩
theorem tups_noL {n : Nat} {ds : List Dt} (h : ∀ d ∈ ds, ∃ k j, d = .tup [.int k, .int j] ∧ Pk n k j) : noLs ds = true := by
  induction ds with
  | nil => rfl
  | cons d ds ih =>
    obtain ⟨k, j, rfl, _⟩ := h d List.mem_cons_self
    exact ih fun d i => h d (List.mem_cons_of_mem _ i)
theorem tups_noPs {n : Nat} {ds : List Dt} (h : ∀ d ∈ ds, ∃ k j, d = .tup [.int k, .int j] ∧ Pk n k j) : noPs ds = true := by
  induction ds with
  | nil => rfl
  | cons d ds ih =>
    obtain ⟨k, j, rfl, _⟩ := h d List.mem_cons_self
    exact ih fun d i => h d (List.mem_cons_of_mem _ i)
theorem tups_noP {n : Nat} {ds : List Dt} (h : ∀ d ∈ ds, ∃ k j, d = .tup [.int k, .int j] ∧ Pk n k j) : noPs [.lst ds] = true := by
  show ((!pailish ds && noPs ds) && true) = true
  rw [tups_noPs h]
  cases ds with
  | nil => rfl
  | cons d ds =>
    obtain ⟨k, j, rfl, _⟩ := h d List.mem_cons_self
    rfl
theorem tyVL {K : Frag} {H : Hp} {v : V} {l : List Dt} (i : IsV K H v (.lst l)) : tyV K "list" v H := by
  obtain ⟨p, vs, rfl, hp, _⟩ := i.lstE
  exact .inl ⟨rfl, _, SqL.of hp⟩
theorem appL {K : Frag} {T : List (Addr × Str)} {H0 H : Hp} {L : List (V × Dt)} {a c D : Addr} {N : Nat} {y : V} {d : Dt} {ds : List Dt} {Q : VK} (e : Env K (.law T (some (a, c, N))) H0 H L) (fr : NewP H0 a c D) (i : IsV K H (.ref D) (.lst ds)) (j : IsV K H y d)
    (nl : noLs ds = true) (nd : noL d = true) (hl : Nat.ble ds.length 1000 = true) (k : ∀ H', Env K (.law T (some (a, c, N))) H0 H' [(.ref D, .lst (ds ++ [d]))] → Q .non H') : rAppend (.ref D) [y] H Q := by
  obtain ⟨p, vs, e1, hp, iv⟩ := i.lstE
  cases e1
  have nn : noLs (ds ++ [d]) = true := by
    clear iv k hl i
    induction ds with
    | nil => exact Bool.and_eq_true_iff.mpr ⟨nd, rfl⟩
    | cons x xs ih => exact Bool.and_eq_true_iff.mpr ⟨(Bool.and_eq_true_iff.mp nl).1, ih (Bool.and_eq_true_iff.mp nl).2⟩
  have sl : 1000 < sizeLine := by decide
  exact ⟨D, vs, y, rfl, rfl, hp, by rw [iv.length]; exact Nat.lt_of_le_of_lt (Nat.le_of_ble_eq_true hl) sl, k _ (e.lset fr hp [] (fun _ i => by cases i) (iv.app (.cons j .nil)) nn)⟩
theorem quo {k j : Int} {n : Nat} (h : Pk n k j) : ∃ g u v : Int, g = ((Nat.gcd k.natAbs j.natAbs : Nat) : Int) ∧ k.fdiv ((Nat.gcd k.natAbs j.natAbs : Nat) : Int) = u ∧ j.fdiv ((Nat.gcd k.natAbs j.natAbs : Nat) : Int) = v ∧ Pk n u v ∧ Nat.gcd u.natAbs v.natAbs = 1 ∧ g ≠ 0 ∧ g.natAbs < 2 ^ n := by
  have hg : 0 < Nat.gcd k.natAbs j.natAbs := by
    refine Nat.pos_of_ne_zero fun z => h.nz ?_
    have := Nat.gcd_eq_zero_iff.mp z
    omega
  have dk : ((Nat.gcd k.natAbs j.natAbs : Nat) : Int) ∣ k := Int.ofNat_dvd_left.mpr (Nat.gcd_dvd_left _ _)
  have dj : ((Nat.gcd k.natAbs j.natAbs : Nat) : Int) ∣ j := Int.ofNat_dvd_left.mpr (Nat.gcd_dvd_right _ _)
  have hl : Nat.gcd k.natAbs j.natAbs < 2 ^ n := by
    by_cases z : k = 0
    · have hj : 0 < j.natAbs := by have := h.nz; omega
      have := Nat.gcd_le_right k.natAbs hj
      have := h.j
      omega
    · have := Nat.gcd_le_left j.natAbs (show 0 < k.natAbs by omega)
      have := h.k
      omega
  generalize hG : Nat.gcd k.natAbs j.natAbs = G at *
  obtain ⟨u, eu⟩ := dk
  obtain ⟨v, ev⟩ := dj
  have g0 : (G : Int) ≠ 0 := by omega
  have ku : k.natAbs = G * u.natAbs := by rw [eu, Int.natAbs_mul]; rfl
  have jv : j.natAbs = G * v.natAbs := by rw [ev, Int.natAbs_mul]; rfl
  have lu : u.natAbs ≤ k.natAbs := by rw [ku]; exact Nat.le_mul_of_pos_left _ hg
  have lv : v.natAbs ≤ j.natAbs := by rw [jv]; exact Nat.le_mul_of_pos_left _ hg
  refine ⟨G, u, v, rfl, ?_, ?_, ⟨fun z => h.nz ?_, ?_, ?_⟩, ?_, g0, by omega⟩
  · rw [eu]; exact Int.mul_fdiv_cancel_left _ g0
  · rw [ev]; exact Int.mul_fdiv_cancel_left _ g0
  · rw [eu, ev, z.1, z.2]; simp
  · have := h.k; omega
  · have := h.j; omega
  · rw [ku, jv, Nat.gcd_mul_left] at hG
    exact Nat.eq_of_mul_eq_mul_left hg (by rw [hG, Nat.mul_one])
theorem mt_pk {k j a b : Int} (h : Mt k j a b) (p : Pk 49 k j) : Pk 52 a b := by
  have cr := h.cr
  refine ⟨fun z => ?_, ?_, ?_⟩
  · rw [z.1, z.2, Int.zero_mul, Int.mul_zero] at cr
    cases cr
  · have n := near_n h
    have := p.k
    omega
  · by_cases hk : k = 0
    · rw [h.z hk]
      decide
    · have lo := h.lo hk
      have hi := h.hi hk
      have e : k * b = a * j - 1 := by omega
      have h1 : (k * b).natAbs ≤ k.natAbs * j.natAbs + 1 := by
        rw [e]
        have h2 : (a * j).natAbs ≤ k.natAbs * j.natAbs := by
          rw [Int.natAbs_mul]
          exact Nat.mul_le_mul_right _ (by omega)
        omega
      rw [Int.natAbs_mul] at h1
      have hk1 : 1 ≤ k.natAbs := by omega
      have : b.natAbs ≤ j.natAbs + 1 := by
        refine Nat.le_of_mul_le_mul_left (c := k.natAbs) ?_ (by omega)
        rw [Nat.mul_add]
        omega
      have := p.j
      omega
theorem Env.up {K : Frag} {T : List (Addr × Str)} {H0 H : Hp} {L : List (V × Dt)} {a c : Addr} {N M : Nat} (h : Env K (.law T (some (a, c, N))) H0 H L) (l : N ≤ M) : Env K (.law T (some (a, c, M))) H0 H L :=
  ⟨fun b o nb nt e => h.gr b o (fun q z => by cases z; exact nb (a, c, M) rfl) nt e, ⟨h.at_.1, fun q z => by cases z; exact (h.at_.2 _ rfl).mono l⟩, h.all⟩
theorem allApp {α : Type} {P : α → Prop} {a : List α} {x : α} (h : ∀ d ∈ a, P d) (p : P x) : ∀ d ∈ a ++ [x], P d := fun d i => by
  rcases List.mem_append.mp i with i | i
  · exact h d i
  · rw [List.mem_singleton.mp i]
    exact p
theorem enumI {K : Frag} {ta : TA} {σ : L2.St} {H : Hp} {R : It → Hp → Prop} (h : ta σ H fun vs H1 => EnumD K vs H1 R) : iEnum K ta σ H R := ⟨h⟩
theorem enumD {K : Frag} {H : Hp} {D : Addr} {ds : List Dt} {R : It → Hp → Prop} (i : IsV K H (.ref D) (.lst ds)) (k : ∀ vs, H D = some (.lst vs) → IsVs K H vs ds → R (Ite K D) H) : EnumD K [V.ref D] H R := by
  obtain ⟨p, vs, e, hp, iv⟩ := i.lstE
  cases e
  exact ⟨D, vs, rfl, SqL.of hp, k vs hp iv⟩
theorem lawLB {K : Frag} {T : List (Addr × Str)} {H0 H : Hp} {L : List (V × Dt)} {pp : Option (Addr × Addr × Nat)} {vs : List V} {ds : List Dt} {b : Bool} {cs : List Cn} {ts : List Ty0} {n : Nat} {R : List Dt → Dt → Prop} {Q : VK} {E : XK} (h : Env K (.law T pp) H0 H L) (i : IsVs K H vs ds) (z : DsOk cs ts n ds) (r : R ds (.bl b)) (k : ∀ H', Env K (.law T pp) H0 H' L → Q (.bl b) H') : spL K cs ts T n R vs H Q E :=
  ⟨ds, _, i, z, r, h.at_.1, fun v H' e t i => by
    obtain rfl := i.blE
    exact k H' (h.extN e t)⟩
theorem Env.rebase {K : Frag} {T : List (Addr × Str)} {H0 H : Hp} {L : List (V × Dt)} {pp : Option (Addr × Addr × Nat)} (h : Env K (.law T pp) H0 H L) : Env K (.law T pp) H H L := ⟨fun _ _ _ _ e => e, h.at_, h.all⟩
structure RepB (s : Str) (k : Int) : Prop where
  a : 2 ≤ k
  b : k ≤ 1000
  c : s.length ≠ 0
  d : s.length ≤ 1000
  e : (repS s k).length ≤ sizeLine
theorem repSD {s : Str} {k : Int} {H : Hp} {Q : VK} (b : RepB s k) (q : Q (.str (repS s k)) H) : rRepS (.str s) (.int k) H Q := ⟨s, k, rfl, rfl, b.a, b.b, b.c, b.d, b.e, q⟩
theorem repB9 : RepB "9" 61 := ⟨by decide, by decide, by decide, by decide, by decide +kernel⟩
def badL : List Str := ["", "+1", "01", "1/2", "-0", "x", "--1", "-", "1.0", repS "9" 61, "-" ++ repS "9" 61]
theorem bad_ok : ∀ w ∈ badL, intW w = none ∧ 32 ∉ tl w ∧ w.length ≤ 100 := by decide +kernel
end Sp
end
section
set_option Elab.async false
set_option linter.all false
set_option maxRecDepth 100000
set_option maxHeartbeats 4000000
namespace Sp
open PySem PySem.Spec PyProof.Rows L2
open PySem.W (Frag)
/-! ### an if after which all goes on alike: what follows is read once -/
structure tIfC (c : TT) (t u : TS) (D : Ends) (σ : L2.St) (H : Hp) : Prop where
  un : tIfS c t u D σ H
theorem ps_ifC {X : Cx} {c : Expr} {a b : List Stmt} {tc : TT} {t u : TS} {pos : Pos} (hc : PT X c tc) (ha : PSs X a t) (hb : PSs X b u) : PS X (.If c a b pos) (tIfC tc t u) := ⟨fun pins s σ H D I h => (ps_if hc ha hb).run pins s σ H D I h.un⟩
theorem ifCut {K : Frag} {m : Md} {H0 H : Hp} {L : List (V × Dt)} {c : TT} {t u : TS} {D : Ends} {σ : L2.St} (e : Env K m H0 H L) (hr : ∀ H', Env K m H0 H' L → D.nx σ H') (h : ∀ N : L2.St → Hp → Prop, (∀ H', Env K m H0 H' L → N σ H') → tIfS c t u { D with nx := N } σ H) : tIfC c t u D σ H := ⟨h D.nx hr⟩
theorem ifGo {c : TT} {t u : TS} {D : Ends} {σ : L2.St} {H : Hp} (h : tIfS c t u D σ H) : tIfC c t u D σ H := ⟨h⟩
theorem Env.drop {K : Frag} {m : Md} {H0 H : Hp} {L : List (V × Dt)} {x : V × Dt} (h : Env K m H0 H (x :: L)) : Env K m H0 H L := ⟨h.gr, h.at_, fun e i => h.all e (List.mem_cons_of_mem _ i)⟩
theorem Env.sub {K : Frag} {m : Md} {H0 H : Hp} {L L' : List (V × Dt)} (h : Env K m H0 H L) (s : ∀ e ∈ L', e ∈ L) : Env K m H0 H L' := ⟨h.gr, h.at_, fun e i => h.all e (s e i)⟩
end Sp
end
section
set_option Elab.async false
set_option linter.all false
set_option maxRecDepth 100000
set_option maxHeartbeats 4000000
namespace Sp
open PySem PySem.Spec PyProof.Rows L2
open PySem.W (Frag)
/-! ### tables -/
instance {a b c d : Int} {n1 n2 n3 n4 : Nat} [h1 : Bi a n1] [h2 : Bi b n2] [h3 : Bi c n3] [h4 : Bi d n4] : Bi (crs a b c d) (max (n1 + n4) (n3 + n2) + 1) := ⟨nb_sub (nb_mul h1.lt h4.lt) (nb_mul h3.lt h2.lt)⟩
inductive RNeedI (x : Str) : List Dt → Out → Prop
  | ok {d p : Dt} (h : d.isI = true) : RNeedI x [d, p] (.ok .non)
  | no {d p : Dt} (h : d.isI = false) : RNeedI x [d, p] (.err x [("part", p)])
inductive RInitB : List Dt → Out → Prop
  | ok {a b c d : Int} (h : (crs a b c d).natAbs = 1) : RInitB [.step a b, .step c d] (.ok (.table a b c d))
  | n {a b c d : Int} (h : (crs a b c d).natAbs ≠ 1) : RInitB [.step a b, .step c d] (.err "NotNeighbours" [("other", .step c d), ("one", .step a b)])
  | s {d e : Dt} (h : d.is .Step = false) : RInitB [d, e] (.err "BadStep" (part "stud"))
  | r {a b : Int} {e : Dt} (h : e.is .Step = false) : RInitB [.step a b, e] (.err "BadStep" (part "around"))
inductive RSignB : List Dt → Out → Prop
  | mk {a b c d : Int} : RSignB [.table a b c d] (.ok (.int (crs a b c d)))
inductive RElder : List Dt → Out → Prop
  | ok {a b c d x y : Int} (h : ¬ (x * a + y * c = 0 ∧ x * b + y * d = 0)) : RElder [.table a b c d, .step x y] (.ok (.step (x * a + y * c) (x * b + y * d)))
  | no {a b c d : Int} {e : Dt} (h : e.is .Step = false) : RElder [.table a b c d, e] (.err "BadStep" (part "step"))
inductive RBackB : List Dt → Out → Prop
  | mk {a b c d : Int} (h : (crs a b c d).natAbs = 1) : RBackB [.table a b c d] (.ok (.table (crs a b c d * d) (-crs a b c d * b) (-crs a b c d * c) (crs a b c d * a)))
inductive RMulB : List Dt → Out → Prop
  | ok {a b c d x y z u : Int} (h : (crs a b c d).natAbs = 1) (h2 : (crs x y z u).natAbs = 1) : RMulB [.table a b c d, .table x y z u] (.ok (.table (x * a + y * c) (x * b + y * d) (z * a + u * c) (z * b + u * d)))
  | no {a b c d : Int} {e : Dt} (h : e.is .Table = false) : RMulB [.table a b c d, e] (.err "BadTable" (part "other"))
inductive RSame : List Dt → Out → Prop
  | mk : RSame [] (.ok (.table 1 0 0 1))
inductive RMirror : List Dt → Out → Prop
  | mk : RMirror [] (.ok (.table 1 0 0 (-1)))
inductive RPutOn : List Dt → Out → Prop
  | ok {t : Int} : RPutOn [.int t] (.ok (.table 1 (-t) 0 1))
  | no {d : Dt} (h : d.isI = false) : RPutOn [d] (.err "BadNumber" (part "times"))
inductive REqB : List Dt → Out → Prop
  | s {a b c d x y z u : Int} : REqB [.table a b c d, .table x y z u] (.ok (.bl ((decide (a = x) && decide (b = y)) && (decide (c = z) && decide (d = u)))))
  | n {a b c d : Int} {e : Dt} (h : e.is .Table = false) : REqB [.table a b c d, e] (.ok (.bl false))
theorem crs_elder (a b c d x y z u : Int) : crs (x * a + y * c) (x * b + y * d) (z * a + u * c) (z * b + u * d) = crs x y z u * crs a b c d := by
  unfold crs
  grind
theorem crs_back (a b c d : Int) : crs (crs a b c d * d) (-crs a b c d * b) (-crs a b c d * c) (crs a b c d * a) = crs a b c d * crs a b c d * crs a b c d := by
  unfold crs
  grind
theorem na_mul {x y : Int} (h : x.natAbs = 1) (k : y.natAbs = 1) : (x * y).natAbs = 1 := by rw [Int.natAbs_mul, h, k]
theorem elder_na {a b c d x y z u : Int} (h : (crs a b c d).natAbs = 1) (k : (crs x y z u).natAbs = 1) : (crs (x * a + y * c) (x * b + y * d) (z * a + u * c) (z * b + u * d)).natAbs = 1 := by
  rw [crs_elder]
  exact na_mul k h
theorem back_na {a b c d : Int} (h : (crs a b c d).natAbs = 1) : (crs (crs a b c d * d) (-crs a b c d * b) (-crs a b c d * c) (crs a b c d * a)).natAbs = 1 := by
  rw [crs_back]
  exact na_mul (na_mul h h) h
/-- neighbours are steps -/
theorem na_l {a b c d : Int} (h : (crs a b c d).natAbs = 1) : ¬ (a = 0 ∧ b = 0) := fun ⟨x, y⟩ => by
  subst x y
  unfold crs at h
  rw [Int.zero_mul, Int.mul_zero] at h
  cases h
theorem na_r {a b c d : Int} (h : (crs a b c d).natAbs = 1) : ¬ (c = 0 ∧ d = 0) := fun ⟨x, y⟩ => by
  subst x y
  unfold crs at h
  rw [Int.zero_mul, Int.mul_zero] at h
  cases h
theorem stepWr {K : Frag} {H H' : Hp} {p C dx : Addr} {gs : List (Str × V)} {v : V} {a b : Int} (i : IsV K H v (.step a b)) (hp : H p = some (.ins C dx gs)) (hn : gs.map (·.1) = (["words", "done", "last"] : List Str)) (w : Wr p H H') : IsV K H' v (.step a b) := by
  cases i with
  | own o h r =>
    cases o
    refine .own rfl (w _ _ (fun z => ?_) h) ?_
    · rw [z, hp] at h
      cases h
      have := r.names
      rw [hn] at this
      exact absurd (congrArg List.length this) (by simp)
    · cases r with
      | cons i1 r => cases r with
        | cons i2 r => cases r with
          | cons i3 r => cases r with
            | cons i4 r =>
              cases r
              rw [i1.intE, i2.intE, i3.intE, i4.blE]
              exact .cons (.int _) (.cons (.int _) (.cons (.int _) (.cons (.bl _) .nil)))
/-! a table's text -/
@[irreducible] def dT (a b c d : Int) : Str := (dS a ++ (Str.ofString " " ++ dS b)) ++ (Str.ofString " " ++ (dS c ++ (Str.ofString " " ++ dS d)))
inductive RStrB : List Dt → Out → Prop
  | mk {a b c d : Int} (h : a.natAbs < 10 ^ 60) (h2 : b.natAbs < 10 ^ 60) (h3 : c.natAbs < 10 ^ 60) (h4 : d.natAbs < 10 ^ 60) : RStrB [.table a b c d] (.ok (.str (dT a b c d)))
inductive RTakeB : List Str → Nat → Out → Nat → Prop
  | ok {ws : List Str} {k k1 k2 : Nat} {a b c d : Int} (r : RTakeS ws k (.ok (.step a b)) k1) (r2 : RTakeS ws k1 (.ok (.step c d)) k2) (n : (crs a b c d).natAbs = 1) : RTakeB ws k (.ok (.table a b c d)) k2
  | e1 {ws : List Str} {k k1 : Nat} {y : Str} {fs : List (Str × Dt)} (r : RTakeS ws k (.err y fs) k1) : RTakeB ws k (.err y fs) k1
  | e2 {ws : List Str} {k k1 k2 : Nat} {a b : Int} {y : Str} {fs : List (Str × Dt)} (r : RTakeS ws k (.ok (.step a b)) k1) (r2 : RTakeS ws k1 (.err y fs) k2) : RTakeB ws k (.err y fs) k2
  | no {ws : List Str} {k k1 k2 : Nat} {a b c d : Int} (r : RTakeS ws k (.ok (.step a b)) k1) (r2 : RTakeS ws k1 (.ok (.step c d)) (k2 + 1)) (n : (crs a b c d).natAbs ≠ 1) : RTakeB ws k (errT (k2 : Nat)) (k2 + 1)
end Sp
end
section
set_option Elab.async false
set_option linter.all false
set_option maxRecDepth 100000
set_option maxHeartbeats 4000000
namespace Sp
open PySem PySem.Spec PyProof.Rows L2
open PySem.W (Frag)
/-! ### f"{x}" of an own instance with its __str__ -/
section
variable {X : Cx} {CX : CXT} {k : Nat} {C g : Addr} {fd : FuncData} {ps : List Str} {sp : Sp} {E : XK} {te : TE} {e : Expr} {pos : Pos}
theorem run_in1F {pins : List (Addr × Obj)} {σ : L2.St} {H : Hp} {s : Shared} {Q : VK} {us : List Value} {vs : List V} (F : FnOk X.prog X.w X.K X.mg X.base CX k g fd ps sp) (hr : Room (k + 1) X.A) (hb : Binds X.K fd ps []) (hx : Passes CX X E)
    (I : Inv X pins σ H s) (r : Vals vs us) (h : sp vs H Q E) : wpAny (model X.prog X.w) X.A.in1 (call (.ref g) us) (EP X pins σ Q) X.xe s := by
  have hl : us.length = ps.length := by rw [← r.length]; exact F.len _ _ _ _ h
  have hb' := hb s us I.kIn (by rw [List.append_nil]; exact hl)
  rw [List.append_nil] at hb'
  refine wpAny_call (codeAny_mono (F.run X.A.in1 X.stack s H ⟨us, []⟩ us vs Q E hr.in1 I.env0.in1 hb' r h) fun r s' hq => ?_)
  match r, hq with
  | .error e, hq => exact hx pins σ H s e s' I hq
  | .ok (.ret u), hq => exact I.after hq
  | .ok .next, hq => exact hq.elim
  | .ok .brk, hq => exact hq.elim
  | .ok .cont, hq => exact hq.elim
theorem pe_fmtO (he : PE X e te) (G : GN X.prog X.w X.K X.mg X.base CX k C "__str__" sp) (hfm : PySem.W.findIn X.K (.ref C) "__format__" = some (some (.builtin "object.__format__"))) (hm : PySem.W.mroIn X.K C (.type "object") = some true) (hr : Room (k + 1) X.A) (hx : Passes CX X E) :
    PE X (.FormattedValue e (-1) none pos) (fun σ H Q => te σ H fun x H1 => rStrOwn C sp E [x] H1 Q) := by
  obtain ⟨g, fd, ps, hs, hf, F, hb⟩ := G.ex
  refine ⟨fun pins s σ H Q I h => wpAny_FormattedValue_plain (thn (he.run pins s σ H _ I h) fun v s1 hv => ?_)⟩
  obtain ⟨x, H1, I1, r1, ⟨a, dx, fs, e1, ha, q⟩⟩ := hv
  obtain rfl : x = .ref a := (List.cons.inj e1).1
  cases (show v = Value.ref a from r1)
  obtain ⟨mA, J, _⟩ := ins_get I1.hok ha
  obtain ⟨od, J, _⟩ := J.look
  have I2 := I1.tok (s1.toks + 1)
  refine PySem.W.kfo_fieldS (hr.in1).units0 I1.kIn J hfm hm hs hf (wpAny_mono (run_in1F (us := [.ref a]) (vs := [.ref a]) F hr hb hx I2 (.cons rfl .nil) q) (fun v s' z => ?_) fun _ _ e => e)
  obtain ⟨v', H', I', rv, ⟨y, rfl⟩, qq⟩ := z
  obtain ⟨t, rfl⟩ := rv
  exact ⟨.str y, H', I', ⟨t, rfl⟩, qq⟩
end
end Sp
end
section
set_option Elab.async false
set_option linter.all false
set_option maxRecDepth 100000
set_option maxHeartbeats 4000000
namespace Sp
open PySem PySem.Spec PyProof.Rows L2
open PySem.W (Frag)
/-! ### stems -/
inductive RInitT : List Dt → Out → Prop
  | ok {D F : Rat} (h : 0 < F - D * D) : RInitT [.rat D, .rat F] (.ok (.stem D F))
@[irreducible] def prodT (D F : Rat) (k j l i : Int) : Rat := F * ((k * l : Int) : Rat) - D * ((k * i + l * j : Int) : Rat) + ((j * i : Int) : Rat)
inductive RProdT : List Dt → Out → Prop
  | ok {D F : Rat} {k j l i : Int} : RProdT [.stem D F, .step k j, .step l i] (.ok (.rat (prodT D F k j l i)))
  | one {D F : Rat} {d e : Dt} (h : d.is .Step = false) : RProdT [.stem D F, d, e] (.err "BadStep" (part "one"))
  | oth {D F : Rat} {k j : Int} {e : Dt} (h : e.is .Step = false) : RProdT [.stem D F, .step k j, e] (.err "BadStep" (part "other"))
inductive RSqT : List Dt → Out → Prop
  | ok {D F : Rat} {k j : Int} : RSqT [.stem D F, .step k j] (.ok (.rat (prodT D F k j k j)))
  | no {D F : Rat} {d : Dt} (h : d.is .Step = false) : RSqT [.stem D F, d] (.err "BadStep" (part "step"))
inductive RLeanT : List Dt → Out → Prop
  | ok {D F : Rat} {k j : Int} : RLeanT [.stem D F, .step k j] (.ok (.rat (D * (k : Rat) - (j : Rat))))
  | no {D F : Rat} {d : Dt} (h : d.is .Step = false) : RLeanT [.stem D F, d] (.err "BadStep" (part "step"))
theorem over_eq (p q : Rat) : Rat.divInt (p.num * q.den) (p.den * q.num) = p / q := by
  have e : p / q = Rat.divInt p.num p.den * (Rat.divInt q.num q.den)⁻¹ := by rw [Rat.num_divInt_den, Rat.num_divInt_den, Rat.div_def]
  rw [e, Rat.inv_divInt, Rat.divInt_mul_divInt]
theorem num_ne {q : Rat} (h : q ≠ 0) : q.num ≠ 0 := fun z => h (Rat.num_eq_zero.mp z)
/-- a field of the instance that is being made -/
theorem fldI {K : Frag} {mg : Str → Option Value} {cs : List Cn} {ts : List Ty0} {H0 H : Hp} {L : List (V × Dt)} {a dx : Addr} {c : Cn} {gs : List (Str × V)} {f : Str} {v : V} {Q : VK} (G : G0 K mg cs ts) (h : Env K (.ini a (ca K c) dx gs) H0 H L) (l : gs.lookup f = some v) (hc : c ∈ cs) (hf : f ∈ c.flds) (q : Q v H) : FldD K f (.ref a) H Q := fldRaw G h.at_ l hc hf q
end Sp
end
section
set_option Elab.async false
set_option linter.all false
set_option maxRecDepth 100000
set_option maxHeartbeats 4000000
namespace Sp
open PySem PySem.Spec PyProof.Rows L2
open PySem.W (Frag)
/-! ### k06: tables of drawn numbers -/
/-- the numbers of a drawn table -/
structure Nb (a b c d : Int) : Prop where
  n : (crs a b c d).natAbs = 1
  a : a.natAbs < 2 ^ 20
  b : b.natAbs < 2 ^ 20
  c : c.natAbs < 2 ^ 20
  d : d.natAbs < 2 ^ 20
/-- after i changes -/
structure Nc (i : Nat) (a b c d : Int) : Prop where
  n : (crs a b c d).natAbs = 1
  a : a.natAbs ≤ 5 ^ i
  b : b.natAbs ≤ 5 ^ i
  c : c.natAbs ≤ 5 ^ i
  d : d.natAbs ≤ 5 ^ i
theorem Nc.start : Nc 0 1 0 0 1 := ⟨by decide, by decide, by decide, by decide, by decide⟩
theorem Nc.nb {i : Nat} {a b c d : Int} (h : Nc i a b c d) (hi : i ≤ 6) : Nb a b c d := by
  have p : 5 ^ i ≤ 5 ^ 6 := Nat.pow_le_pow_right (by decide) hi
  have q : (5 : Nat) ^ 6 < 2 ^ 20 := by decide
  have := h.a; have := h.b; have := h.c; have := h.d
  exact ⟨h.n, by omega, by omega, by omega, by omega⟩
theorem nc_le {i : Nat} {x y m : Int} (hx : x.natAbs ≤ 5 ^ i) (hy : y.natAbs ≤ 5 ^ i) (hm : m.natAbs ≤ 4) : (x + m * y).natAbs ≤ 5 ^ (i + 1) := by
  have h1 : (m * y).natAbs ≤ 4 * 5 ^ i := by
    rw [Int.natAbs_mul]
    exact Nat.mul_le_mul hm hy
  rw [Nat.pow_succ]
  omega
theorem nc_w {i : Nat} {x : Int} (hx : x.natAbs ≤ 5 ^ i) : x.natAbs ≤ 5 ^ (i + 1) := by
  rw [Nat.pow_succ]
  omega
theorem Nc.s0 {i : Nat} {a b c d m : Int} (h : Nc i a b c d) (hm : m.natAbs ≤ 4) : Nc (i + 1) (a + m * c) (b + m * d) c d := by
  refine ⟨?_, nc_le h.a h.c hm, nc_le h.b h.d hm, nc_w h.c, nc_w h.d⟩
  have := h.n
  unfold crs at this ⊢
  rwa [show (a + m * c) * d - c * (b + m * d) = a * d - c * b by grind]
theorem Nc.s2 {i : Nat} {a b c d m : Int} (h : Nc i a b c d) (hm : m.natAbs ≤ 4) : Nc (i + 1) a b (c + m * a) (d + m * b) := by
  refine ⟨?_, nc_w h.a, nc_w h.b, nc_le h.c h.a hm, nc_le h.d h.b hm⟩
  have := h.n
  unfold crs at this ⊢
  rwa [show a * (d + m * b) - (c + m * a) * b = a * d - c * b by grind]
theorem Nc.s3 {i : Nat} {a b c d : Int} (h : Nc i a b c d) : Nc (i + 1) c d (-a) (-b) := by
  refine ⟨?_, nc_w h.c, nc_w h.d, by have := nc_w h.a; omega, by have := nc_w h.b; omega⟩
  have := h.n
  unfold crs at this ⊢
  rwa [show c * -b - -a * d = a * d - c * b by grind]
theorem Nc.s4 {i : Nat} {a b c d : Int} (h : Nc i a b c d) : Nc (i + 1) a b (-c) (-d) := by
  refine ⟨?_, nc_w h.a, nc_w h.b, by have := nc_w h.c; omega, by have := nc_w h.d; omega⟩
  have := h.n
  unfold crs at this ⊢
  rwa [show a * -d - -c * b = -(a * d - c * b) by grind, Int.natAbs_neg]
structure P2 (n : Nat) (x y : Int) : Prop where
  x : x.natAbs < 2 ^ n
  y : y.natAbs < 2 ^ n
inductive RTableL : List Dt → Out → Prop
  | mk {a b c d : Int} (h : Nb a b c d) : RTableL [.tup [.int a, .int b, .int c, .int d]] (.ok (.table a b c d))
inductive RElderL : List Dt → Out → Prop
  | mk {a b c d x y : Int} (h : Nb a b c d) (p : P2 45 x y) : RElderL [.tup [.int a, .int b, .int c, .int d], .tup [.int x, .int y]] (.ok (.tup [.int (x * a + y * c), .int (x * b + y * d)]))
inductive RFourL : List Dt → Out → Prop
  | ok {a b c d : Int} : RFourL [.table a b c d] (.ok (.tup [.int a, .int b, .int c, .int d]))
  | no {e : Dt} (h : e.is .Table = false) : RFourL [e] (.ok .non)
/-! ### tuples put together -/
structure rCatT (K : Frag) (x y : V) (H : Hp) (Q : VK) : Prop where
  un : L2.rCatT K x y H Q
theorem op_catT {X : Cx} : OpR X (binaryOp .Add) (rCatT X.K) := fun pins s σ H x y v u Q I rx ry h => L2.op_catT pins s σ H x y v u Q I rx ry h.un
theorem catTD {K : Frag} {m : Md} {H0 H : Hp} {L : List (V × Dt)} {x y : V} {a b : List Dt} {Q : VK} (h : Env K m H0 H L) (i : IsV K H x (.tup a)) (j : IsV K H y (.tup b)) (la : Nat.ble 1 a.length = true) (lb : Nat.ble 1 b.length = true) (hl : Nat.ble (a.length + b.length) 1000 = true) (k : ∀ p H', Env K m H0 H' ((.ref p, .tup (a ++ b)) :: L) → Q (.ref p) H') : rCatT K x y H Q := by
  have la := Nat.le_of_ble_eq_true la
  have lb := Nat.le_of_ble_eq_true lb
  have hl := Nat.le_of_ble_eq_true hl
  have sl : 1000 ≤ sizeLine := by decide
  cases i with
  | tup hp ip =>
    cases j with
    | tup hq iq =>
      have l1 := ip.length
      have l2 := iq.length
      exact ⟨_, _, _, _, rfl, rfl, SqT.of hp, SqT.of hq, fun z => by rw [z] at l1; simp at l1; omega, by omega, fun z => by rw [z] at l2; simp at l2; omega, fun _ r n => k r _ ((h.step (Same.new' n)).add (.tup upd_same ((ip.app iq).same (Same.new' n))))⟩
    | own o _ _ => cases o
  | own o _ _ => cases o
theorem Env.only2 {K : Frag} {m : Md} {H0 H : Hp} {L : List (V × Dt)} {v u : V} {d e : Dt} (h : Env K m H0 H L) (i : IsV K H v d) (j : IsV K H u e) : Env K m H0 H [(v, d), (u, e)] := ⟨h.gr, h.at_, fun x hx => by
  rcases List.mem_cons.mp hx with rfl | hx
  · exact i
  · rw [List.mem_singleton.mp hx]
    exact j⟩
end Sp
end
section
set_option Elab.async false
set_option linter.all false
set_option maxRecDepth 100000
set_option maxHeartbeats 4000000
namespace Sp
open PySem PySem.Spec PyProof.Rows L2
open PySem.W (Frag)
/-! ### for x in a list of the ledger; a tuple's part -/
structure ListD (K : Frag) (x : V) (H : Hp) (R : It → Hp → Prop) : Prop where
  un : ∃ a, x = .ref a ∧ (∃ xs, SqL K H a xs) ∧ R (Itl K a) H
structure iList (K : Frag) (tl : TE) (σ : L2.St) (H : Hp) (R : It → Hp → Prop) : Prop where
  un : tl σ H fun x H1 => ListD K x H1 R
theorem pi_list {X : Cx} {tg l : Expr} {tl : TE} (hl : PE X l tl) : PI X tg l (iList X.K tl) := ⟨fun pins s σ H R I h => (L2.pi_list (PE.mono hl)).run pins s σ H R I ⟨_, h.un, fun _ _ y => y.un⟩⟩
theorem listI {K : Frag} {tl : TE} {σ : L2.St} {H : Hp} {R : It → Hp → Prop} (h : tl σ H fun x H1 => ListD K x H1 R) : iList K tl σ H R := ⟨h⟩
theorem listD {K : Frag} {H : Hp} {x : V} {ds : List Dt} {R : It → Hp → Prop} (i : IsV K H x (.lst ds)) (k : ∀ D vs, x = .ref D → H D = some (.lst vs) → IsVs K H vs ds → R (Itl K D) H) : ListD K x H R := by
  obtain ⟨p, vs, e, hp, iv⟩ := i.lstE
  subst e
  exact ⟨p, rfl, ⟨vs, SqL.of hp⟩, k p vs rfl hp iv⟩
structure LoopP (S : L2.St → Prop) (K : Frag) (T : List (Addr × Str)) (H : Hp) (L : List (V × Dt)) (σ : L2.St) (Hh : Hp) : Prop where
  s : S σ
  e : Env K (.law T none) H Hh L
theorem Env.seq {K : Frag} {T : List (Addr × Str)} {H0 H Hh : Hp} {L L' : List (V × Dt)} (h : Env K (.law T none) H0 H L) (h' : Env K (.law T none) H Hh L') : Env K (.law T none) H0 Hh L' := ⟨fun b o nb nt e => h'.gr b o nb nt (h.gr b o nb nt e), h'.at_, h'.all⟩
theorem forD {K : Frag} {T : List (Addr × Str)} {H0 H : Hp} {L : List (V × Dt)} {p : Addr} {vs : List V} {ds : List Dt} {g : TG} {tb : TS} {D : Ends} {σ : L2.St} (S : L2.St → Prop) (e : Env K (.law T none) H0 H L) (hp : H p = some (.lst vs)) (hi : (.ref p, .lst ds) ∈ L) (s0 : S σ)
    (hs : ∀ x d σ Hh, d ∈ ds → S σ → Env K (.law T none) H Hh L → IsV K Hh x d → g x σ Hh fun σ2 H2 => tb { D with nx := LoopP S K T H L, ct := LoopP S K T H L, bk := D.nx } σ2 H2)
    (hd : ∀ σ Hh, S σ → Env K (.law T none) H0 Hh L → D.nx σ Hh) :
    ∃ W : Nat → Nat → L2.St → Hp → Prop, (∃ m, W 0 m σ H) ∧ ∀ i m σ H, W i m σ H →
      ((Itl K p).stop i H ∧ D.nx σ H) ∨ ((Itl K p).go i H ∧ ∃ N : L2.St → Hp → Prop, (∀ σ' H', N σ' H' → ∃ m', m' < m ∧ W (i + 1) m' σ' H') ∧ ∀ x H', (Itl K p).yld i H x H' → g x σ H' fun σ2 H2 => tb { D with nx := N, ct := N, bk := D.nx } σ2 H2) := by
  have keep : ∀ {σ Hh}, LoopP S K T H L σ Hh → Hh p = some (.lst vs) := fun h => h.e.gr p _ (fun q z => by cases z) (fun ps z => by cases z) hp
  refine for_list (xs := vs) (fun _ σ Hh => LoopP S K T H L σ Hh) ⟨s0, e.rebase⟩ (fun i σ Hh _ h => SqL.of (keep h)) (fun i x σ Hh hx h => ?_) (fun σ Hh h => hd σ Hh h.s (e.seq h.e))
  obtain ⟨p', vs', ep, hp', iv⟩ := (h.e.get hi).lstE
  cases ep
  rw [keep h] at hp'
  cases hp'
  have hl := iv.length
  have hi' := (List.getElem?_eq_some_iff.mp hx).1
  obtain ⟨y, hy, iy⟩ := iv.get (List.getElem?_eq_getElem (show i < ds.length by omega))
  rw [hx] at hy
  cases hy
  exact hs x _ σ Hh (List.getElem_mem _) h.s h.e iy
/-- the same, slot i alone changes -/
theorem forDs {K : Frag} {T : List (Addr × Str)} {H0 H : Hp} {L : List (V × Dt)} {p : Addr} {vs : List V} {ds : List Dt} {g : TG} {tb : TS} {D : Ends} {σ : L2.St} (i : Nat) (x0 : Option V) (e : Env K (.law T none) H0 H L) (hp : H p = some (.lst vs)) (hi : (.ref p, .lst ds) ∈ L) (s0 : σ = σ.set i x0)
    (hs : ∀ x d y Hh, d ∈ ds → Env K (.law T none) H Hh ((x, d) :: L) → g x (σ.set i y) Hh fun σ2 H2 => tb { D with nx := LoopP (fun σ' => ∃ y, σ' = σ.set i y) K T H L, ct := LoopP (fun σ' => ∃ y, σ' = σ.set i y) K T H L, bk := D.nx } σ2 H2)
    (hd : ∀ y Hh, Env K (.law T none) H0 Hh L → D.nx (σ.set i y) Hh) :
    ∃ W : Nat → Nat → L2.St → Hp → Prop, (∃ m, W 0 m σ H) ∧ ∀ i m σ H, W i m σ H →
      ((Itl K p).stop i H ∧ D.nx σ H) ∨ ((Itl K p).go i H ∧ ∃ N : L2.St → Hp → Prop, (∀ σ' H', N σ' H' → ∃ m', m' < m ∧ W (i + 1) m' σ' H') ∧ ∀ x H', (Itl K p).yld i H x H' → g x σ H' fun σ2 H2 => tb { D with nx := N, ct := N, bk := D.nx } σ2 H2) :=
  forD (fun σ' => ∃ y, σ' = σ.set i y) e hp hi ⟨x0, s0⟩ (fun x d σ' Hh hm ⟨y, z⟩ e iv => by
    subst z
    exact hs x d y Hh hm (e.add iv)) (fun σ' Hh ⟨y, z⟩ e => by
    subst z
    exact hd y Hh e)
/-- t[:n], t[n:] -/
structure rSlT (K : Frag) (x : V) (lo hi : Option Int) (H : Hp) (Q : VK) : Prop where
  un : L2.rSlT K x lo hi H Q
theorem sl_tup {X : Cx} : SlR X (rSlT X.K) := fun pins s σ H x v vl vu lo hi sl Q I rx hs pl pu h => L2.sl_tup pins s σ H x v vl vu lo hi sl Q I rx hs pl pu h.un
theorem sl2a {K : Frag} {m : Md} {H0 H : Hp} {L : List (V × Dt)} {x : V} {a b c d : Int} {Q : VK} (h : Env K m H0 H L) (i : IsV K H x (.tup [.int a, .int b, .int c, .int d])) (k : ∀ p H', Env K m H0 H' ((.ref p, .tup [.int a, .int b]) :: L) → Q (.ref p) H') : rSlT K x none (some 2) H Q := by
  cases i with
  | tup hp r =>
    cases r with
    | cons r1 r => cases r with
      | cons r2 r => cases r with
        | cons r3 r => cases r with
          | cons r4 r =>
            cases r
            rw [r1.intE, r2.intE, r3.intE, r4.intE] at hp
            exact ⟨_, _, rfl, SqT.of hp, show ¬ (HT.sIx 4 0 none = 0 ∧ HT.sIx 4 4 (some 2) = 4) from by decide, fun q n => k q _ ((h.step (Same.new' n)).add (.tup upd_same (.cons (.int _) (.cons (.int _) .nil))))⟩
  | own o _ _ => cases o
theorem sl2b {K : Frag} {m : Md} {H0 H : Hp} {L : List (V × Dt)} {x : V} {a b c d : Int} {Q : VK} (h : Env K m H0 H L) (i : IsV K H x (.tup [.int a, .int b, .int c, .int d])) (k : ∀ p H', Env K m H0 H' ((.ref p, .tup [.int c, .int d]) :: L) → Q (.ref p) H') : rSlT K x (some 2) none H Q := by
  cases i with
  | tup hp r =>
    cases r with
    | cons r1 r => cases r with
      | cons r2 r => cases r with
        | cons r3 r => cases r with
          | cons r4 r =>
            cases r
            rw [r1.intE, r2.intE, r3.intE, r4.intE] at hp
            exact ⟨_, _, rfl, SqT.of hp, show ¬ (HT.sIx 4 0 (some 2) = 0 ∧ HT.sIx 4 4 none = 4) from by decide, fun q n => k q _ ((h.step (Same.new' n)).add (.tup upd_same (.cons (.int _) (.cons (.int _) .nil))))⟩
  | own o _ _ => cases o
abbrev PrsOk (ds : List Dt) : Prop := ∀ d ∈ ds, ∃ k j, d = .tup [.int k, .int j] ∧ Pk 6 k j
inductive RTwoB : List Dt → Dt → Prop
  | mk {a b c d x y z u : Int} {ds : List Dt} (h : Nb a b c d) (h2 : Nb x y z u) (p : PrsOk ds) : RTwoB [.tup [.int a, .int b, .int c, .int d], .tup [.int x, .int y, .int z, .int u], .lst ds] (.bl true)
theorem P2.of {k j : Int} (h : Pk 6 k j) : P2 45 k j := ⟨nb_le h.k, nb_le h.j⟩
theorem eqv_int4 (a b c d x y z u : Int) : PyData.eqv (.tuple [.int a, .int b, .int c, .int d]) (.tuple [.int x, .int y, .int z, .int u]) = ((decide (a = x) && decide (b = y)) && (decide (c = z) && decide (d = u))) := by
  rw [Bool.eq_iff_iff]
  simp [PyData.eqv, PyData.eqvAll]
  grind
theorem elder_nz {a b c d k j : Int} (h : (crs a b c d).natAbs = 1) (n : ¬ (k = 0 ∧ j = 0)) : ¬ (k * a + j * c = 0 ∧ k * b + j * d = 0) := fun ⟨e1, e2⟩ => by
  have f1 : k * crs a b c d = 0 := by
    unfold crs
    have : k * (a * d - c * b) = (k * a + j * c) * d - (k * b + j * d) * c := by grind
    rw [this, e1, e2, Int.zero_mul, Int.zero_mul, Int.sub_self]
  have f2 : j * crs a b c d = 0 := by
    unfold crs
    have : j * (a * d - c * b) = (k * b + j * d) * a - (k * a + j * c) * b := by grind
    rw [this, e1, e2, Int.zero_mul, Int.zero_mul, Int.sub_self]
  have hz : crs a b c d ≠ 0 := fun z => by rw [z] at h; cases h
  exact n ⟨(Int.mul_eq_zero.mp f1).resolve_right hz, (Int.mul_eq_zero.mp f2).resolve_right hz⟩
end Sp
end
section
set_option Elab.async false
set_option linter.all false
set_option maxRecDepth 100000
set_option maxHeartbeats 4000000
namespace Sp
open PySem PySem.Spec PyProof.Rows L2
open PySem.W (Frag)
/-! ### calls by keywords alone: of a method, of a static method -/
structure GHD (P : Program) (w : World) (K : PySem.W.Frag) (mg : Str → Option Value) (base : Heap) (CX : CXT) (k : Nat) (C : Addr) (m : Str) (ks : List Str) (pick : List Nat) (sp : Sp) : Prop where
  ex : ∃ (f : Addr) (fd : FuncData) (ps : List Str), FnOk P w K mg base CX k f fd ps sp ∧ Meth K C m f ∧ KBn K fd ps 1 ks (pk ks.length pick) (pk ks.length pick)
def pk0 {α : Type} (n : Nat) (pick : List Nat) (us ws : List α) : List α := if us.length = 0 ∧ ws.length = n then pick.filterMap fun i => ws[i]? else []
theorem pk0_rel {n : Nat} {pick : List Nat} {vs : List V} {us : List Value} {zs : List V} {ws : List Value} (r : Vals vs us) (q : Vals zs ws) : Vals (pk0 n pick vs zs) (pk0 n pick us ws) := by
  unfold pk0
  rw [r.length, q.length]
  split
  · exact vals_pick q pick
  · exact .nil
structure GSD (P : Program) (w : World) (K : PySem.W.Frag) (mg : Str → Option Value) (base : Heap) (CX : CXT) (k : Nat) (C : Addr) (m : Str) (ks : List Str) (pick : List Nat) (sp : Sp) : Prop where
  ex : ∃ (mc : Value) (p g : Addr) (fd : FuncData) (ps : List Str), SMet K C mc m p g ∧ FnOk P w K mg base CX k g fd ps sp ∧ KBn K fd ps 0 ks (pk0 ks.length pick) (pk0 ks.length pick)
section
variable {X : Cx} {CX : CXT} {k : Nat} {C : Addr} {ks : List Str} {pick : List Nat} {sp : Sp} {E : XK} {o : Expr} {m : Str} {kws : List Keyword} {apos pos : Pos} {ta : TE} {tk : TA} {pl : Sem Bool}
theorem pe_ghD (he : PE X o ta) (c : Cls X.K C) (G : GHD X.prog X.w X.K X.mg X.base CX k C m ks pick sp) (hr : Room k X.A) (hx : Passes CX X E) (hkw : PK X kws tk)
    (ht : eval (.Call (.Attribute o m apos) [] kws pos) X.env = (do
      let ov ← eval o X.env
      standAt apos.atName
      let (f, first) ← holding [ov] (getMethod ov m pl)
      callWith pos f first (backTo pos (starEach [] X.env)) (backToKw pos (keywordEach kws X.env))) := by rfl)
    (hall : (backToKw pos (keywordEach kws X.env)).all (·.1.isSome) = true := by rfl) (hks : (backToKw pos (keywordEach kws X.env)).filterMap (·.1) = ks := by rfl)
    (hpl : ((backTo pos (starEach [] X.env)).any (·.1) || (backToKw pos (keywordEach kws X.env)).any (·.1.isNone)) = false := by rfl) :
    PE X (.Call (.Attribute o m apos) [] kws pos) (fun σ H Q => ta σ H fun x H1 => MethD C m x H1 (tk σ H1 fun zs H2 => zs.length = ks.length ∧ sp (x :: pick.filterMap fun i => zs[i]?) H2 Q E)) := by
  obtain ⟨f, fd, ps, F, hm, hb⟩ := G.ex
  refine ⟨fun pins s σ H Q I h => ?_⟩
  refine PySem.W.methodCall_KW (pl := pl) (thn (he.run pins s σ H _ I h) fun u s1 ⟨x, H1, I1, rx, ⟨a, dx, fs, ex, ea, l, q⟩⟩ => ?_) ht
  subst ex
  obtain rfl : u = Value.ref a := rx
  refine getmeth_ok I1 ea c hm l ?_
  refine PySem.W.callWith_KW0 (first := [.ref a]) (h₀ := X.base) I.ok.mod.kin hm.kp hall (thn (hkw.run pos pins s1 σ H1 _ I1 q) fun ws s2 ⟨zs, H2, I2, rz, l2, q2⟩ => ⟨I2.kIn, ?_⟩) hpl
  rw [hks]
  refine run_fnN (us := [.ref a]) (vs := [.ref a]) (n := 1) F hr hb hx I2 (.cons rfl .nil) rz rfl l2 ?_
  have e : pk ks.length pick [V.ref a] zs = V.ref a :: pick.filterMap fun i => zs[i]? := by
    unfold pk
    rw [if_pos ⟨rfl, l2⟩]
    rfl
  rw [e]
  exact q2
theorem pe_gsD (he : PE X o ta) (G : GSD X.prog X.w X.K X.mg X.base CX k C m ks pick sp) (hr : Room k X.A) (hx : Passes CX X E) (hkw : PK X kws tk)
    (ht : eval (.Call (.Attribute o m apos) [] kws pos) X.env = (do
      let ov ← eval o X.env
      standAt apos.atName
      let (f, first) ← holding [ov] (getMethod ov m pl)
      callWith pos f first (backTo pos (starEach [] X.env)) (backToKw pos (keywordEach kws X.env))) := by rfl)
    (hall : (backToKw pos (keywordEach kws X.env)).all (·.1.isSome) = true := by rfl) (hks : (backToKw pos (keywordEach kws X.env)).filterMap (·.1) = ks := by rfl)
    (hpl : ((backTo pos (starEach [] X.env)).any (·.1) || (backToKw pos (keywordEach kws X.env)).any (·.1.isNone)) = false := by rfl) :
    PE X (.Call (.Attribute o m apos) [] kws pos) (fun σ H Q => ta σ H fun x H1 => x = .ref C ∧ tk σ H1 fun zs H2 => zs.length = ks.length ∧ sp (pick.filterMap fun i => zs[i]?) H2 Q E) := by
  obtain ⟨mc, p, g, fd, ps, c, F, hb⟩ := G.ex
  obtain ⟨rest, hp⟩ := c.rc
  refine ⟨fun pins s σ H Q I h => PySem.W.methodCall_KW (pl := pl) (thn (he.run pins s σ H _ I h) fun u s1 hh => ?_) ht⟩
  obtain ⟨x, H1, I1, rx, ex, q⟩ := hh
  subst ex
  cases (show u = Value.ref C from rx)
  refine PySem.W.method_cls I1.kIn c.ga (PySem.W.cls_bind I1.kIn c.rd c.at_ (wpAny_call (PySem.W.sm_get (s := { s1 with toks := s1.toks + 1 }) I1.kIn hp (PySem.W.handed_on rfl ?_))))
  have I2 := I1.tok (s1.toks + 1)
  refine PySem.W.callWith_KW0 (first := []) (h₀ := X.base) I.ok.mod.kin c.kp hall (thn (hkw.run pos pins _ σ H1 _ I2 q) fun ws s2 ⟨zs, H2, I3, rz, l2, q2⟩ => ⟨I3.kIn, ?_⟩) hpl
  rw [hks]
  refine run_fnN (us := []) (vs := []) (n := 0) F hr hb hx I3 .nil rz rfl l2 ?_
  have e : pk0 ks.length pick ([] : List V) zs = pick.filterMap fun i => zs[i]? := by
    unfold pk0
    rw [if_pos ⟨rfl, l2⟩]
  rw [e]
  exact q2
end
section
variable {K : Frag} {f : Addr} {fd : FuncData} {x qual : Str} {params : Arguments} {body : List Stmt} {scope : Scope} {ps : List Str}
theorem pk_1 {k1 : Str} (F : FunD K x qual params body scope [] [] f fd)
    (h : ∀ (kV doc pm : Value) (an : Option Addr) (cdv ct a u : Value), bindArgs (PySem.W.fnOf x qual params body scope .none kV doc pm an cdv ct) ⟨[a], [(k1, u)]⟩ = pure (ps.zip [a, u])) : KBn K fd ps 1 [k1] (pk 1 [0]) (pk 1 [0]) := by
  obtain ⟨oc, od, dV, kV, doc, pm, an, cdv, ct, osl, rfl, lk, hcd, hD, hKw⟩ := F.ex
  refine ⟨fun s us ws hK l1 l2 => ?_, fun r q => pk_rel r q⟩
  match us, ws, l1, l2 with
  | [a], [u], _, _ =>
    rcases hD with ⟨_, rfl⟩ | ⟨e, _⟩
    · exact .of_eq (h kV doc pm an cdv ct a u)
    · exact absurd rfl e
theorem pk0_1 {k1 : Str} (F : FunD K x qual params body scope [] [] f fd)
    (h : ∀ (kV doc pm : Value) (an : Option Addr) (cdv ct u : Value), bindArgs (PySem.W.fnOf x qual params body scope .none kV doc pm an cdv ct) ⟨[], [(k1, u)]⟩ = pure (ps.zip [u])) : KBn K fd ps 0 [k1] (pk0 1 [0]) (pk0 1 [0]) := by
  obtain ⟨oc, od, dV, kV, doc, pm, an, cdv, ct, osl, rfl, lk, hcd, hD, hKw⟩ := F.ex
  refine ⟨fun s us ws hK l1 l2 => ?_, fun r q => pk0_rel r q⟩
  match us, ws, l1, l2 with
  | [], [u], _, _ =>
    rcases hD with ⟨_, rfl⟩ | ⟨e, _⟩
    · exact .of_eq (h kV doc pm an cdv ct u)
    · exact absurd rfl e
end
end Sp
end
section
set_option Elab.async false
set_option linter.all false
set_option maxRecDepth 100000
set_option maxHeartbeats 4000000
namespace Sp
open PySem PySem.Spec PyProof.Rows L2
open PySem.W (Frag)
/-! ### slots, written out -/
class SetT (σ : L2.St) (i : Nat) (x : Option V) (σ' : outParam L2.St) : Prop where
  eq : σ.set i x = σ'
instance setT0 {a x : Option V} {l : List (Option V)} : SetT (a :: l) 0 x (x :: l) := ⟨rfl⟩
instance setT1 {a x : Option V} {l l' : List (Option V)} {i : Nat} [h : SetT l i x l'] : SetT (a :: l) (i + 1) x (a :: l') := ⟨by rw [List.set_cons_succ, h.eq]⟩
class StartT (N : List Str) (vs : List V) (σ : outParam L2.St) : Prop where
  eq : L2.start N vs = σ
instance startT0 : StartT [] [] [] := ⟨rfl⟩
instance startT1 {y : Str} {N : List Str} {σ : L2.St} [h : StartT N [] σ] : StartT (y :: N) [] (none :: σ) := ⟨by rw [← h.eq]; rfl⟩
instance startT2 {y : Str} {N : List Str} {v : V} {vs : List V} {σ : L2.St} [h : StartT N vs σ] : StartT (y :: N) (v :: vs) (some v :: σ) := ⟨by
  rw [← h.eq]
  unfold L2.start
  rw [List.map_cons, List.cons_append, List.length_cons, List.length_cons, Nat.add_sub_add_right]⟩
structure BodyS (t : TS) (D : Ends) (N : List Str) (vs : List V) (H : Hp) : Prop where
  un : t D (L2.start N vs) H
theorem bodyS {t : TS} {D : Ends} {N : List Str} {vs : List V} {H : Hp} {σ : L2.St} [h : StartT N vs σ] (k : t D σ H) : BodyS t D N vs H := ⟨by rw [h.eq]; exact k⟩
structure SetS (i : Nat) (x : V) (σ : L2.St) (H : Hp) (R : L2.St → Hp → Prop) : Prop where
  un : R (σ.set i (some x)) H
theorem setS {i : Nat} {x : V} {σ σ' : L2.St} {H : Hp} {R : L2.St → Hp → Prop} [h : SetT σ i (some x) σ'] (k : R σ' H) : SetS i x σ H R := ⟨by rw [h.eq]; exact k⟩
def gNameS (i : Nat) : TG := fun v σ H Q => SetS i v σ H Q
theorem gNameS_eq : gNameS = gName := by
  funext i v σ H Q
  exact propext ⟨fun h => h.un, fun h => ⟨h⟩⟩
structure ParS (i j : Nat) (vs : List V) (σ : L2.St) (H : Hp) (R : L2.St → Hp → Prop) : Prop where
  un : ∃ v w, vs = [v, w] ∧ R ((σ.set i (some v)).set j (some w)) H
theorem parS {i j : Nat} {v w : V} {σ σ1 σ2 : L2.St} {H : Hp} {R : L2.St → Hp → Prop} [h : SetT σ i (some v) σ1] [h2 : SetT σ1 j (some w) σ2] (k : R σ2 H) : ParS i j [v, w] σ H R := ⟨v, w, rfl, by rw [h.eq, h2.eq]; exact k⟩
def tParS (i j : Nat) (ta : TA) : TS := fun D σ H => ta σ H fun vs H1 => ParS i j vs σ H1 D.nx
theorem tParS_eq : tParS = tPar := by
  funext i j ta D σ H
  show ta σ H (fun vs H1 => ParS i j vs σ H1 D.nx) = ta σ H (fun vs H1 => ∃ v w, vs = [v, w] ∧ D.nx ((σ.set i (some v)).set j (some w)) H1)
  congr 1
  funext vs H1
  exact propext ⟨fun h => h.un, fun h => ⟨h⟩⟩
structure ParS3 (i j l : Nat) (vs : List V) (σ : L2.St) (H : Hp) (R : L2.St → Hp → Prop) : Prop where
  un : ∃ u v w, vs = [u, v, w] ∧ R (((σ.set i (some u)).set j (some v)).set l (some w)) H
theorem parS3 {i j l : Nat} {u v w : V} {σ σ1 σ2 σ3 : L2.St} {H : Hp} {R : L2.St → Hp → Prop} [h : SetT σ i (some u) σ1] [h2 : SetT σ1 j (some v) σ2] [h3 : SetT σ2 l (some w) σ3] (k : R σ3 H) : ParS3 i j l [u, v, w] σ H R := ⟨u, v, w, rfl, by rw [h.eq, h2.eq, h3.eq]; exact k⟩
def tPar3S (i j l : Nat) (ta : TA) : TS := fun D σ H => ta σ H fun vs H1 => ParS3 i j l vs σ H1 D.nx
theorem tPar3S_eq : tPar3S = tPar3 := by
  funext i j l ta D σ H
  show ta σ H (fun vs H1 => ParS3 i j l vs σ H1 D.nx) = ta σ H (fun vs H1 => ∃ u v w, vs = [u, v, w] ∧ D.nx (((σ.set i (some u)).set j (some v)).set l (some w)) H1)
  congr 1
  funext vs H1
  exact propext ⟨fun h => h.un, fun h => ⟨h⟩⟩
def tAugSt (i : Nat) (te : TE) (ti : TIp) : TS := fun D σ H => ∃ x, σ[i]? = some (some x) ∧ te σ H fun y H1 => ti x y H1 fun z H2 => SetS i z σ H2 D.nx
theorem tAugSt_eq : tAugSt = tAug := by
  funext i te ti D σ H
  have e : (fun z H2 => SetS i z σ H2 D.nx) = fun z H2 => D.nx (σ.set i (some z)) H2 := by
    funext z H2
    exact propext ⟨fun h => h.un, fun h => ⟨h⟩⟩
  show (∃ x, σ[i]? = some (some x) ∧ te σ H fun y H1 => ti x y H1 fun z H2 => SetS i z σ H2 D.nx) = _
  rw [e]
  rfl
section
variable {X : Cx}
theorem toG {i : Nat} {e : Expr} (h : PG X e (gName i)) : PG X e (gNameS i) := by rw [gNameS_eq]; exact h
theorem toSet {i : Nat} {st : Stmt} {te : TE} (h : PS X st (tAsg te (gName i))) : PS X st (tAsg te (gNameS i)) := by rw [gNameS_eq]; exact h
theorem toPar {i j : Nat} {st : Stmt} {ta : TA} (h : PS X st (tPar i j ta)) : PS X st (tParS i j ta) := by rw [tParS_eq]; exact h
theorem toPar3 {i j l : Nat} {st : Stmt} {ta : TA} (h : PS X st (tPar3 i j l ta)) : PS X st (tPar3S i j l ta) := by rw [tPar3S_eq]; exact h
theorem toAug {i : Nat} {st : Stmt} {te : TE} {ti : TIp} (h : PS X st (tAug i te ti)) : PS X st (tAugSt i te ti) := by rw [tAugSt_eq]; exact h
end
section
variable {P : Program} {w : World} {K : Frag} {mg : Str → Option Value} {base : Heap} {x qual : Str} {params : Arguments} {body : List Stmt} {scope : Scope} {dvs : List V} {kws : List (Str × V)} {f c : Addr} {fd : FuncData} {CX : CXT} {N ps : List Str} {k n M up : Nat} {cs : List Cn} {ts : List Ty0} {cn : Cn} {T : List (Addr × Str)}
theorem okRW {R : List Dt → Out → Prop} (F : FunD K x qual params body scope dvs kws f fd) (S : FnScope N ps scope) (hl : ∀ ds o, R ds o → ds.length = ps.length)
    (hb : ∀ (cdv : Value) (A : Around) (outer : List PySem.Env) (s : Shared) (H : Hp) (ds : List Dt) (o : Out) (Q : VK) (E : XK), Room k (A.deeper (envOfC qual scope s.heap.objs.size f cdv)) → DsOk cs ts n ds → R ds o → Aft K H o Q E →
      ∃ t, PSs (cxOf CX P w K mg base N qual scope f cdv A outer s H E) body t ∧ AftA K H ds fun vs => BodyS t { nx := fun _ H' => Q .non H', rt := Q } N vs H) : FnOk P w K mg base CX (k + 1) f fd ps (spR K cs ts n R) :=
  okR F S hl fun cdv A outer s H ds o Q E hr z r q => let ⟨t, h1, h2⟩ := hb cdv A outer s H ds o Q E hr z r q; ⟨t, h1, .mk fun vs i => (h2.un vs i).un⟩
theorem okIW {R : List Dt → Out → Prop} (F : FunD K x qual params body scope dvs kws f fd) (S : FnScope N ps scope) (hl : ∀ ds o, R ds o → ds.length + 1 = ps.length)
    (hb : ∀ (cdv : Value) (A : Around) (outer : List PySem.Env) (s : Shared) (H : Hp) (a dx : Addr) (ds : List Dt) (o : Out) (Q : VK) (E : XK), Room k (A.deeper (envOfC qual scope s.heap.objs.size f cdv)) → H a = some (.ins (ca K cn) dx []) → DsOk cs ts n ds → R ds o → FinI K H a dx cn o Q E →
      ∃ t, PSs (cxOf CX P w K mg base N qual scope f cdv A outer s H E) body t ∧ AftA K H ds fun vs => BodyS t { nx := fun _ H' => Q .non H', rt := Q } N (.ref a :: vs) H) : FnOk P w K mg base CX (k + 1) f fd ps (spRI K cs ts cn n R) :=
  okI F S hl fun cdv A outer s H a dx ds o Q E hr ha z r q => let ⟨t, h1, h2⟩ := hb cdv A outer s H a dx ds o Q E hr ha z r q; ⟨t, h1, .mk fun vs i => (h2.un vs i).un⟩
theorem okLW {R : List Dt → Dt → Prop} (F : FunD K x qual params body scope dvs kws f fd) (hc : fd.code = .ref c) (S : FnScope N ps scope) (hl : ∀ ds d, R ds d → ds.length = ps.length)
    (hb : ∀ (A : Around) (outer : List PySem.Env) (s : Shared) (H : Hp) (ds : List Dt) (d : Dt) (Q : VK) (E : XK), Room k (A.deeper (envOfC qual scope s.heap.objs.size f (.ref c))) → DsOk cs ts n ds → R ds d → FinL K T H d Q → Env K (.law T none) H H [] →
      ∃ t, PSs (cxOf CX P w K mg base N qual scope f (.ref c) A outer s H E) body t ∧ AftA K H ds fun vs => BodyS t { nx := fun _ H' => Q .non H', rt := Q } N vs H) : FnOk P w K mg base CX (k + 1) f fd ps (spL K cs ts T n R) :=
  okL F hc S hl fun A outer s H ds d Q E hr z r q hE => let ⟨t, h1, h2⟩ := hb A outer s H ds d Q E hr z r q hE; ⟨t, h1, .mk fun vs i => (h2.un vs i).un⟩
theorem okL0W {R : List Dt → Dt → Prop} (F : FunD K x qual params body scope dvs kws f fd) (S : FnScope N ps scope) (hl : ∀ ds d, R ds d → ds.length = ps.length)
    (hb : ∀ (cdv : Value) (A : Around) (outer : List PySem.Env) (s : Shared) (H : Hp) (ds : List Dt) (d : Dt) (Q : VK) (E : XK), Room k (A.deeper (envOfC qual scope s.heap.objs.size f cdv)) → DsOk cs ts n ds → R ds d → FinL K T H d Q → Env K (.law T none) H H [] →
      ∃ t, PSs (cxOf CX P w K mg base N qual scope f cdv A outer s H E) body t ∧ AftA K H ds fun vs => BodyS t { nx := fun _ H' => Q .non H', rt := Q } N vs H) : FnOk P w K mg base CX (k + 1) f fd ps (spL K cs ts T n R) :=
  okL0 F S hl fun cdv A outer s H ds d Q E hr z r q hE => let ⟨t, h1, h2⟩ := hb cdv A outer s H ds d Q E hr z r q hE; ⟨t, h1, .mk fun vs i => (h2.un vs i).un⟩
theorem okPW {R : List Dt → Dt → Prop} {Pr : List Dt → Prop} (F : FunD K x qual params body scope dvs kws f fd) (hc : fd.code = .ref c) (S : FnScope N ps scope) (hl : ∀ ds, Pr ds → ds.length + 1 = ps.length)
    (hb : ∀ (A : Around) (outer : List PySem.Env) (s : Shared) (H : Hp) (a c' : Addr) (m : Nat) (ds : List Dt) (Q : VK) (E : XK), Room k (A.deeper (envOfC qual scope s.heap.objs.size f (.ref c))) → DsOk cs ts n ds → noPs ds = true → Pr ds → m ≤ M → FinP K T H a c' (m + up) (R ds) Q → Env K (.law T (some (a, c', m))) H H [] →
      ∃ t, PSs (cxOf CX P w K mg base N qual scope f (.ref c) A outer s H E) body t ∧ AftA K H ds fun vs => BodyS t { nx := fun _ H' => Q .non H', rt := Q } N (.ref a :: vs) H) : FnOk P w K mg base CX (k + 1) f fd ps (spLP K cs ts T n M up Pr R) :=
  okP F hc S hl fun A outer s H a c' m ds Q E hr z nds pr hm q hE => let ⟨t, h1, h2⟩ := hb A outer s H a c' m ds Q E hr z nds pr hm q hE; ⟨t, h1, .mk fun vs i => (h2.un vs i).un⟩
theorem okP0W {R : List Dt → Dt → Prop} {Pr : List Dt → Prop} (F : FunD K x qual params body scope dvs kws f fd) (S : FnScope N ps scope) (hl : ∀ ds, Pr ds → ds.length + 1 = ps.length)
    (hb : ∀ (cdv : Value) (A : Around) (outer : List PySem.Env) (s : Shared) (H : Hp) (a c' : Addr) (m : Nat) (ds : List Dt) (Q : VK) (E : XK), Room k (A.deeper (envOfC qual scope s.heap.objs.size f cdv)) → DsOk cs ts n ds → noPs ds = true → Pr ds → m ≤ M → FinP K T H a c' (m + up) (R ds) Q → Env K (.law T (some (a, c', m))) H H [] →
      ∃ t, PSs (cxOf CX P w K mg base N qual scope f cdv A outer s H E) body t ∧ AftA K H ds fun vs => BodyS t { nx := fun _ H' => Q .non H', rt := Q } N (.ref a :: vs) H) : FnOk P w K mg base CX (k + 1) f fd ps (spLP K cs ts T n M up Pr R) :=
  okP0 F S hl fun cdv A outer s H a c' m ds Q E hr z nds pr hm q hE => let ⟨t, h1, h2⟩ := hb cdv A outer s H a c' m ds Q E hr z nds pr hm q hE; ⟨t, h1, .mk fun vs i => (h2.un vs i).un⟩
end
theorem IsV.strE' {K : Frag} {H : Hp} {v : V} {i : Str} (h : IsV K H v (.str i)) : v = .str i := by
  cases h with
  | str => rfl
  | own o _ _ => cases o
theorem IsV.nonE {K : Frag} {H : Hp} {v : V} (h : IsV K H v .non) : v = .non := by
  cases h with
  | non => rfl
  | own o _ _ => cases o
/-! ### modes, one behind another -/
inductive Md.Le : Md → Md → Prop
  | eq {m : Md} : Le m m
  | pail {T : List (Addr × Str)} {a c : Addr} {N N' : Nat} (h : N ≤ N') : Le (.law T (some (a, c, N))) (.law T (some (a, c, N')))
theorem Md.Le.trans {m n l : Md} (x : Md.Le m n) (y : Md.Le n l) : Md.Le m l := by
  cases x with
  | eq => exact y
  | pail h => cases y with
    | eq => exact .pail h
    | pail h2 => exact .pail (Nat.le_trans h h2)
theorem Md.Le.rel {m n : Md} (x : Md.Le m n) {H H' : Hp} (r : n.rel H H') : m.rel H H' := by
  cases x with
  | eq => exact r
  | @pail T a c N N' h => exact fun b o nb nt e => r b o (fun q z => by cases z; exact nb (a, c, N) (Eq.refl _)) nt e
theorem Md.Le.rel' {m n : Md} (x : Md.Le m n) {H H' : Hp} (r : m.rel H H') : n.rel H H' := by
  cases x with
  | eq => exact r
  | @pail T a c N N' h => exact fun b o nb nt e => r b o (fun q z => by cases z; exact nb (a, c, N') (Eq.refl _)) nt e
theorem Md.Le.at_ {m n : Md} (x : Md.Le m n) {H : Hp} (r : m.at_ H) : n.at_ H := by
  cases x with
  | eq => exact r
  | @pail T a c N N' h => exact ⟨r.1, fun q z => by cases z; exact (r.2 (a, c, N) (Eq.refl _)).mono h⟩
theorem Md.refl {m : Md} {H : Hp} : m.rel H H := by
  cases m with
  | fn => exact fun _ _ e => e
  | ini a C dx gs => exact fun _ _ _ e => e
  | law T p => exact fun _ _ _ _ e => e
theorem Md.trans {m : Md} {H H1 H2 : Hp} (x : m.rel H H1) (y : m.rel H1 H2) : m.rel H H2 := by
  cases m with
  | fn => exact fun b o e => y b o (x b o e)
  | ini a C dx gs => exact fun b o n e => y b o n (x b o n e)
  | law T p => exact fun b o n t e => y b o n t (x b o n t e)
/-- nothing of the ledger is touched by what the mode lets change -/
def Md.np (m : Md) (L : List (V × Dt)) : Prop := match m with
  | .fn => True
  | .ini _ _ _ gs => noCls (gs.map (·.1)) = true
  | .law _ none => True
  | .law _ (some _) => noPs (L.map (·.2)) = true
section
variable {K : Frag} {m m' : Md} {H0 H H' : Hp} {L L' : List (V × Dt)} {D : Addr} {xs ys : List V}
theorem Env.rb (h : Env K m H0 H L) : Env K m H H L := ⟨Md.refl, h.at_, h.all⟩
theorem Env.carry (h : Env K m H0 H L) (le : Md.Le m m') (n : m.np L) (r : m.rel H H') (a : m'.at_ H') : Env K m' H0 H' L := by
  refine ⟨le.rel' (Md.trans h.gr r), a, fun e i => ?_⟩
  have he := h.all e i
  cases m with
  | fn => exact he.same r
  | ini a C dx gs => exact IsV.ini h.at_ n r he
  | law T p => cases p with
    | none => exact he.ext fun b o nt e => r b o (fun _ z => by cases z) nt e
    | some q =>
      obtain ⟨a, c, N⟩ := q
      exact IsV.sp (h.at_.2 _ rfl) (fun b o nb nt e => r b o (fun q z => by cases z; exact nb) nt e) he (lawNP n e i)
theorem Env.le (h : Env K m H0 H L) (le : Md.Le m m') : Env K m' H0 H L := ⟨le.rel' h.gr, le.at_ h.at_, h.all⟩
theorem Env.then (h : Env K m H0 H L) (le : Md.Le m m') (h' : Env K m' H H' L') : Env K m' H0 H' L' := ⟨Md.trans (le.rel' h.gr) h'.gr, h'.at_, h'.all⟩
theorem Env.sub' (h : Env K m H0 H L) (s : ∀ e ∈ L', e ∈ L) : Env K m H0 H L' := ⟨h.gr, h.at_, fun e i => h.all e (s e i)⟩
/-- none of the mode's own objects -/
def NewM (m : Md) (D : Addr) : Prop := match m with
  | .fn => True
  | .ini a _ _ _ => D ≠ a
  | .law _ none => True
  | .law _ (some (a, c, _)) => D ≠ a ∧ D ≠ c
theorem newM (a : m.at_ H) (hD : H D = none) : NewM m D := by
  cases m with
  | fn => trivial
  | ini a' C dx gs => exact fun z => by rw [z] at hD; rw [show H a' = _ from a] at hD; cases hD
  | law T p => cases p with
    | none => trivial
    | some q =>
      obtain ⟨a', c, N⟩ := q
      obtain ⟨cs, n, g, h1, h2, _⟩ := a.2 (a', c, N) rfl
      have h1 : H a' = _ := h1
      have h2 : H c = _ := h2
      exact ⟨fun z => (by rw [z, h1] at hD; cases hD), fun z => (by rw [z, h2] at hD; cases hD)⟩
theorem NewM.le (n : NewM m D) (l : Md.Le m m') : NewM m' D := by
  cases l with
  | eq => exact n
  | pail h => exact n
theorem NewM.at_ (n : NewM m D) (a : m.at_ H) (h : H D = some (.lst xs)) : m.at_ (upd H D (.lst ys)) := by
  cases m with
  | fn => trivial
  | ini a' C dx gs => exact (upd_ne (Ne.symm n)).trans a
  | law T p =>
    have tb : LamX.Tabs T (upd H D (.lst ys)) := tabsSbl a.1 (fun b o nb e => by rw [upd_ne nb]; exact e) h
    cases p with
    | none => exact ⟨tb, fun q z => by cases z⟩
    | some q' =>
      obtain ⟨a', c, N⟩ := q'
      obtain ⟨n1, n2⟩ : D ≠ a' ∧ D ≠ c := n
      obtain ⟨cs, k, g, h1, h2, h3⟩ := a.2 (a', c, N) rfl
      exact ⟨tb, fun q z => by
        cases z
        exact ⟨cs, k, g, by rw [upd_ne n1.symm]; exact h1, by rw [upd_ne n2.symm]; exact h2, h3⟩⟩
theorem Md.rel_new {H1 : Hp} {o : HO} (hD : H1 D = none) (r : m.rel H1 H) : m.rel H1 (upd H D o) := by
  cases m with
  | fn => exact fun b u e => by rw [upd_ne (ne_of_none e hD)]; exact r b u e
  | ini a C dx gs => exact fun b u n e => by rw [upd_ne (ne_of_none e hD)]; exact r b u n e
  | law T p => exact fun b u n t e => by rw [upd_ne (ne_of_none e hD)]; exact r b u n t e
end
/-- it did not stand at the start, and is none of the mode's own -/
structure NewD (m : Md) (H0 : Hp) (D : Addr) : Prop where
  n : ∀ o, H0 D = some o → ∃ ps, o = .tbl ps
  m : NewM m D
theorem Env.newD {K : Frag} {m : Md} {H0 H : Hp} {L : List (V × Dt)} {D : Addr} (h : Env K m H0 H L) (hD : H D = none) : NewD m H0 D := by
  refine ⟨fun o e => ?_, newM h.at_ hD⟩
  cases o with
  | tbl ps => exact ⟨ps, rfl⟩
  | _ =>
    exfalso
    cases m with
    | fn =>
      have := h.gr D _ e
      rw [hD] at this
      cases this
    | ini a C dx gs =>
      have := h.gr D _ (fun z => by
        subst z
        have := h.at_
        rw [show H D = _ from this] at hD
        cases hD) e
      rw [hD] at this
      cases this
    | law T p =>
      have := h.gr D _ (fun q z e' => by
        obtain ⟨xs, hx⟩ := (h.at_.2 q z).lst
        rw [← e', hD] at hx
        cases hx) (fun ps z => by cases z) e
      rw [hD] at this
      cases this
theorem NewD.le {m m' : Md} {H0 : Hp} {D : Addr} (n : NewD m H0 D) (l : Md.Le m m') : NewD m' H0 D := ⟨n.n, n.m.le l⟩
/-- a list that is new is changed: what has no lists stays -/
theorem Env.setL {K : Frag} {m : Md} {H0 H : Hp} {L : List (V × Dt)} {D : Addr} {ds es : List Dt} (h : Env K m H0 H L) (n : NewD m H0 D) (iD : IsV K H (.ref D) (.lst ds)) (L' : List (V × Dt)) (sub : ∀ e ∈ L', e ∈ L ∧ noL e.2 = true)
    (ys : List V) (iy : IsVs K H ys es) (dn : noLs es = true) : Env K m H0 (upd H D (.lst ys)) ((.ref D, .lst es) :: L') := by
  obtain ⟨_, xs, e, hp, iv⟩ := iD.lstE
  cases e
  have sb : Sbl D H (upd H D (.lst ys)) := fun b o nb _ e => by rw [upd_ne nb]; exact e
  refine ⟨?_, n.m.at_ h.at_ hp, fun e i => ?_⟩
  · have key : ∀ {b o}, H0 b = some o → (∀ ps, o ≠ .tbl ps) → b ≠ D := fun {b o} e nt z => by
      subst z
      obtain ⟨ps, rfl⟩ := n.n o e
      exact nt ps rfl
    have nt : ∀ {b o}, H b = some o → b = D → ∀ ps, o ≠ .tbl ps := fun {b o} e z ps w => by
      subst z w
      rw [hp] at e
      cases e
    cases m with
    | fn =>
      intro b o e
      by_cases z : b = D
      · exact absurd z (key e (nt (h.gr b o e) z))
      · rw [upd_ne z]
        exact h.gr b o e
    | ini a C dx gs =>
      intro b o nb e
      by_cases z : b = D
      · exact absurd z (key e (nt (h.gr b o nb e) z))
      · rw [upd_ne z]
        exact h.gr b o nb e
    | law T p =>
      intro b o nb t e
      rw [upd_ne (key e t)]
      exact h.gr b o nb t e
  · rcases List.mem_cons.mp i with rfl | i
    · exact .lst upd_same (IsVs.sb hp sb iy dn)
    · exact IsV.sb hp sb (h.all e (sub e i).1) (sub e i).2
/-! ### what is walked -/
structure WDL (K : Frag) (J : It) (ds : List Dt) (L0 : List (V × Dt)) : Prop where
  goes : ∀ i H, i < ds.length → (∀ e ∈ L0, IsV K H e.1 e.2) → J.go i H
  stops : ∀ H, (∀ e ∈ L0, IsV K H e.1 e.2) → J.stop ds.length H
  yields : ∀ i H x H' d, ds[i]? = some d → (∀ e ∈ L0, IsV K H e.1 e.2) → J.yld i H x H' → Same H H' ∧ IsV K H' x d
def enmD : Nat → List Dt → List Dt
  | _, [] => []
  | i, d :: l => .tup [.int (i : Nat), d] :: enmD (i + 1) l
def rangeD : Int → Nat → List Dt
  | _, 0 => []
  | lo, n + 1 => .int lo :: rangeD (lo + 1) n
def zipD : List Dt → List Dt → List Dt
  | a :: l, b :: r => .tup [a, b] :: zipD l r
  | _, _ => []
theorem enmD_len : ∀ (l : List Dt) (i : Nat), (enmD i l).length = l.length
  | [], _ => rfl
  | _ :: l, i => congrArg (· + 1) (enmD_len l (i + 1))
theorem enmD_get : ∀ (l : List Dt) (j i : Nat) (d : Dt), (enmD j l)[i]? = some d → ∃ d', l[i]? = some d' ∧ d = .tup [.int ((j + i : Nat) : Int), d']
  | [], _, i, d, h => by simp [enmD] at h
  | x :: l, j, 0, d, h => by
    simp [enmD] at h
    exact ⟨x, rfl, h.symm⟩
  | x :: l, j, i + 1, d, h => by
    obtain ⟨d', h1, h2⟩ := enmD_get l (j + 1) i d (by simpa [enmD] using h)
    exact ⟨d', by simpa using h1, by rw [h2, show j + 1 + i = j + (i + 1) by omega]⟩
theorem rangeD_len : ∀ (n : Nat) (lo : Int), (rangeD lo n).length = n
  | 0, _ => rfl
  | n + 1, lo => congrArg (· + 1) (rangeD_len n (lo + 1))
theorem rangeD_get : ∀ (n : Nat) (lo : Int) (i : Nat) (d : Dt), (rangeD lo n)[i]? = some d → d = .int (lo + i)
  | 0, _, i, d, h => by simp [rangeD] at h
  | n + 1, lo, 0, d, h => by
    simp [rangeD] at h
    rw [← h]
    simp
  | n + 1, lo, i + 1, d, h => by
    rw [rangeD_get n (lo + 1) i d (by simpa [rangeD] using h)]
    congr 1
    omega
theorem zipD_len : ∀ (l r : List Dt), (zipD l r).length = min l.length r.length
  | [], r => by simp [zipD]
  | _ :: _, [] => by simp [zipD]
  | _ :: l, _ :: r => by simp [zipD, zipD_len l r]
theorem zipD_get : ∀ (l r : List Dt) (i : Nat) (d : Dt), (zipD l r)[i]? = some d → ∃ a b, l[i]? = some a ∧ r[i]? = some b ∧ d = .tup [a, b]
  | [], r, i, d, h => by simp [zipD] at h
  | _ :: _, [], i, d, h => by simp [zipD] at h
  | a :: l, b :: r, 0, d, h => by
    simp [zipD] at h
    exact ⟨a, b, rfl, rfl, h.symm⟩
  | a :: l, b :: r, i + 1, d, h => by
    obtain ⟨x, y, h1, h2, h3⟩ := zipD_get l r i d (by simpa [zipD] using h)
    exact ⟨x, y, by simpa using h1, by simpa using h2, h3⟩
section
variable {K : Frag} {p q : Addr} {ds es : List Dt} {H : Hp} {v : V}
theorem IsV.tupL {l : List Dt} (h : IsV K H v (.tup l)) : ∃ p vs, v = .ref p ∧ H p = some (.tup vs) ∧ IsVs K H vs l := by
  cases h with
  | tup h r => exact ⟨_, _, rfl, h, r⟩
  | own o _ _ => cases o
theorem wdl_list : WDL K (Itl K p) ds [(.ref p, .lst ds)] := by
  have key : ∀ {H : Hp}, (∀ e ∈ [(V.ref p, Dt.lst ds)], IsV K H e.1 e.2) → ∃ vs, SqL K H p vs ∧ IsVs K H vs ds := fun h => by
    obtain ⟨q, vs, e, hq, r⟩ := (h _ List.mem_cons_self).lstE
    cases e
    exact ⟨vs, SqL.of hq, r⟩
  refine ⟨fun i H hi h => ?_, fun H h => ?_, fun i H x H' d hd h y => ?_⟩
  · obtain ⟨vs, s, r⟩ := key h
    exact walk_list.goes i H (by rw [r.length]; exact hi) s
  · obtain ⟨vs, s, r⟩ := key h
    have := walk_list.stops H s
    rw [r.length] at this
    exact this
  · obtain ⟨vs, s, r⟩ := key h
    obtain ⟨z, hz, iz⟩ := r.get hd
    obtain ⟨e1, e2⟩ := walk_list.yields i H x H' (List.getElem?_eq_some_iff.mp hz).1 s y
    subst e1
    rw [hz] at e2
    cases e2
    exact ⟨fun _ _ e => e, iz⟩
theorem wdl_tup : WDL K (Itt K p) ds [(.ref p, .tup ds)] := by
  have key : ∀ {H : Hp}, (∀ e ∈ [(V.ref p, Dt.tup ds)], IsV K H e.1 e.2) → ∃ vs, SqT K H p vs ∧ IsVs K H vs ds := fun h => by
    obtain ⟨q, vs, e, hq, r⟩ := (h _ List.mem_cons_self).tupL
    cases e
    exact ⟨vs, SqT.of hq, r⟩
  refine ⟨fun i H hi h => ?_, fun H h => ?_, fun i H x H' d hd h y => ?_⟩
  · obtain ⟨vs, s, r⟩ := key h
    exact walk_tup.goes i H (by rw [r.length]; exact hi) s
  · obtain ⟨vs, s, r⟩ := key h
    have := walk_tup.stops H s
    rw [r.length] at this
    exact this
  · obtain ⟨vs, s, r⟩ := key h
    obtain ⟨z, hz, iz⟩ := r.get hd
    obtain ⟨e1, e2⟩ := walk_tup.yields i H x H' (List.getElem?_eq_some_iff.mp hz).1 s y
    subst e1
    rw [hz] at e2
    cases e2
    exact ⟨fun _ _ e => e, iz⟩
theorem wdl_range {lo : Int} {n : Nat} : WDL K (Itr lo n) (rangeD lo n) [] := by
  refine ⟨fun i H hi h => ?_, fun H h => ?_, fun i H x H' d hd h y => ?_⟩
  · rw [rangeD_len] at hi
    exact hi
  · rw [rangeD_len]
    exact Nat.le_refl _
  · obtain ⟨e1, e2⟩ := y
    subst e1 e2
    rw [rangeD_get _ _ _ _ hd]
    exact ⟨fun _ _ e => e, .int _⟩
theorem wdl_pair {xs ys : List V} {a b d : Dt} {i : Nat} {H H' : Hp} {x : V} {f g : Nat → Option V} (y : YPair f g i H x H') (ha : ∀ z, f i = some z → IsV K H z a) (hb : ∀ z, g i = some z → IsV K H z b) (e : d = .tup [a, b]) : Same H H' ∧ IsV K H' x d := by
  obtain ⟨T, x1, y1, rfl, hT, rfl, h1, h2⟩ := y
  subst e
  exact ⟨Same.new' hT, .tup upd_same (.cons ((ha _ h1).same (Same.new' hT)) (.cons ((hb _ h2).same (Same.new' hT)) .nil))⟩
theorem wdl_enum : WDL K (Ite K p) (enmD 0 ds) [(.ref p, .lst ds)] := by
  have key : ∀ {H : Hp}, (∀ e ∈ [(V.ref p, Dt.lst ds)], IsV K H e.1 e.2) → ∃ vs, SqL K H p vs ∧ IsVs K H vs ds := fun h => by
    obtain ⟨q, vs, e, hq, r⟩ := (h _ List.mem_cons_self).lstE
    cases e
    exact ⟨vs, SqL.of hq, r⟩
  refine ⟨fun i H hi h => ?_, fun H h => ?_, fun i H x H' d hd h y => ?_⟩
  · obtain ⟨vs, s, r⟩ := key h
    rw [enmD_len] at hi
    exact walk_enum.goes i H (by rw [r.length]; exact hi) s
  · obtain ⟨vs, s, r⟩ := key h
    have := walk_enum.stops H s
    rw [r.length] at this
    rw [enmD_len]
    exact this
  · obtain ⟨vs, s, r⟩ := key h
    obtain ⟨d', h1, h2⟩ := enmD_get _ _ _ _ hd
    obtain ⟨z, hz, iz⟩ := r.get h1
    refine wdl_pair (xs := []) (ys := []) (walk_enum.yields i H x H' (List.getElem?_eq_some_iff.mp hz).1 s y) (a := .int (i : Nat)) (fun z e => ?_) (fun z' e => ?_) (by rw [h2, Nat.zero_add])
    · cases e
      exact .int _
    · rw [hz] at e
      cases e
      exact iz
theorem wdl_zipL : WDL K (Itz K p q) (zipD ds es) [(.ref p, .lst ds), (.ref q, .lst es)] := by
  have key : ∀ {H : Hp}, (∀ e ∈ [(V.ref p, Dt.lst ds), (V.ref q, Dt.lst es)], IsV K H e.1 e.2) → ∃ vs us, SqL K H p vs ∧ SqL K H q us ∧ IsVs K H vs ds ∧ IsVs K H us es := fun h => by
    obtain ⟨_, vs, e, hq, r⟩ := (h _ List.mem_cons_self).lstE
    cases e
    obtain ⟨_, us, e, hq2, r2⟩ := (h _ (List.mem_cons_of_mem _ List.mem_cons_self)).lstE
    cases e
    exact ⟨vs, us, SqL.of hq, SqL.of hq2, r, r2⟩
  refine ⟨fun i H hi h => ?_, fun H h => ?_, fun i H x H' d hd h y => ?_⟩
  · obtain ⟨vs, us, s, s2, r, r2⟩ := key h
    rw [zipD_len] at hi
    exact (walk_zip rfl).goes i H (by rw [r.length, r2.length]; exact hi) ⟨s, s2⟩
  · obtain ⟨vs, us, s, s2, r, r2⟩ := key h
    have := (walk_zip rfl).stops H ⟨s, s2⟩
    rw [r.length, r2.length] at this
    rw [zipD_len]
    exact this
  · obtain ⟨vs, us, s, s2, r, r2⟩ := key h
    obtain ⟨a, b, h1, h2, h3⟩ := zipD_get _ _ _ _ hd
    obtain ⟨z, hz, iz⟩ := r.get h1
    obtain ⟨z2, hz2, iz2⟩ := r2.get h2
    have l1 := (List.getElem?_eq_some_iff.mp hz).1
    have l2 := (List.getElem?_eq_some_iff.mp hz2).1
    refine wdl_pair (xs := []) (ys := []) ((walk_zip rfl).yields i H x H' (by omega) ⟨s, s2⟩ y) (fun z e => ?_) (fun z' e => ?_) h3
    · rw [hz] at e
      cases e
      exact iz
    · rw [hz2] at e
      cases e
      exact iz2
theorem wdl_zipT : WDL K (RZ.ItzT K p q) (zipD ds es) [(.ref p, .tup ds), (.ref q, .tup es)] := by
  have key : ∀ {H : Hp}, (∀ e ∈ [(V.ref p, Dt.tup ds), (V.ref q, Dt.tup es)], IsV K H e.1 e.2) → ∃ vs us, SqT K H p vs ∧ SqT K H q us ∧ IsVs K H vs ds ∧ IsVs K H us es := fun h => by
    obtain ⟨_, vs, e, hq, r⟩ := (h _ List.mem_cons_self).tupL
    cases e
    obtain ⟨_, us, e, hq2, r2⟩ := (h _ (List.mem_cons_of_mem _ List.mem_cons_self)).tupL
    cases e
    exact ⟨vs, us, SqT.of hq, SqT.of hq2, r, r2⟩
  refine ⟨fun i H hi h => ?_, fun H h => ?_, fun i H x H' d hd h y => ?_⟩
  · obtain ⟨vs, us, s, s2, r, r2⟩ := key h
    rw [zipD_len, ← r.length, ← r2.length] at hi
    have h1 : i < vs.length := by omega
    have h2 : i < us.length := by omega
    exact ⟨vs, us, vs[i], us[i], s, s2, by simp [h1], by simp [h2]⟩
  · obtain ⟨vs, us, s, s2, r, r2⟩ := key h
    rw [zipD_len, ← r.length, ← r2.length]
    exact ⟨vs, us, s, s2, by omega⟩
  · obtain ⟨vs, us, s, s2, r, r2⟩ := key h
    obtain ⟨a, b, h1, h2, h3⟩ := zipD_get _ _ _ _ hd
    obtain ⟨z, hz, iz⟩ := r.get h1
    obtain ⟨z2, hz2, iz2⟩ := r2.get h2
    obtain ⟨T, x1, y1, e1, hT, e2, k1, k2⟩ := y
    subst e1 e2 h3
    have k1 := k1 _ s
    have k2 := k2 _ s2
    rw [hz] at k1
    rw [hz2] at k2
    cases k1
    cases k2
    exact ⟨Same.new' hT, .tup upd_same (.cons (iz.same (Same.new' hT)) (.cons (iz2.same (Same.new' hT)) .nil))⟩
end
/-! ### readings of what is walked -/
theorem PI.mono {X : Cx} {tg it : Expr} {wi : TI} (h : PI X tg it wi) : PI X tg it (fun σ H R => ∃ R', wi σ H R' ∧ ∀ J H, R' J H → R J H) :=
  ⟨fun pins s σ H R I ⟨R', h1, h2⟩ => thn (h.run pins s σ H R' I h1) fun v s1 q => thn q fun itv s2 ⟨it, fp, tn, J, H', e, I2, T, st, f, r⟩ => ⟨it, fp, tn, J, H', e, I2, T, st, f, h2 _ _ r⟩⟩
structure TupW (K : Frag) (x : V) (H : Hp) (R : It → Hp → Prop) : Prop where
  un : ∃ a, x = .ref a ∧ (∃ xs, SqT K H a xs) ∧ R (Itt K a) H
structure Rng1W (vs : List V) (H : Hp) (R : It → Hp → Prop) : Prop where
  un : ∃ j : Int, vs = [.int j] ∧ -(2 ^ 62) ≤ j ∧ j < 2 ^ 62 ∧ R (Itr 0 j.toNat) H
structure Rng2W (vs : List V) (H : Hp) (R : It → Hp → Prop) : Prop where
  un : ∃ i j : Int, vs = [.int i, .int j] ∧ (-(2 ^ 62) ≤ i ∧ i < 2 ^ 62 ∧ -(2 ^ 62) ≤ j ∧ j < 2 ^ 62) ∧ R (Itr i (j - i).toNat) H
structure ZipW (K : Frag) (vs : List V) (H : Hp) (R : It → Hp → Prop) : Prop where
  un : ∃ a b xs ys, vs = [.ref a, .ref b] ∧ ((SqL K H a xs ∧ SqL K H b ys ∧ R (Itz K a b) H) ∨ (SqT K H a xs ∧ SqT K H b ys ∧ R (RZ.ItzT K a b) H))
def iTupW (K : Frag) (tl : TE) : TI := fun σ H R => tl σ H fun x H1 => TupW K x H1 R
def iListW (K : Frag) (tl : TE) : TI := fun σ H R => tl σ H fun x H1 => ListD K x H1 R
def iRng1W (ta : TA) : TI := fun σ H R => ta σ H fun vs H1 => Rng1W vs H1 R
def iRng2W (ta : TA) : TI := fun σ H R => ta σ H fun vs H1 => Rng2W vs H1 R
def iEnumW (K : Frag) (ta : TA) : TI := fun σ H R => ta σ H fun vs H1 => EnumD K vs H1 R
def iZipW (K : Frag) (ta : TA) : TI := fun σ H R => ta σ H fun vs H1 => ZipW K vs H1 R
section
variable {X : Cx} {tg l : Expr} {tl : TE} {ta : TA}
theorem pi_listW (hl : PE X l tl) : PI X tg l (iListW X.K tl) := ⟨fun pins s σ H R I h => (L2.pi_list (PE.mono hl)).run pins s σ H R I ⟨_, h, fun _ _ y => y.un⟩⟩
theorem pi_tupW (hl : PE X l tl) : PI X tg l (iTupW X.K tl) := ⟨fun pins s σ H R I h => (L2.pi_tup (PE.mono hl)).run pins s σ H R I ⟨_, h, fun _ _ y => y.un⟩⟩
theorem pi_range1W {a : Expr} {p pos : Pos} (hg : Gl X "range") (hm : X.mg "range" = none) (ha : PA X [a] ta) (hs : starEach [a] X.env = [(false, eval a X.env)] := by rfl) : PI X tg (.Call (.Name "range" p) [a] [] pos) (iRng1W ta) :=
  ⟨fun pins s σ H R I h => (pi_range1 hg hm (PA.mono ha) hs).run pins s σ H R I ⟨_, h, fun vs H y => y.un⟩⟩
theorem pi_range2W {a b : Expr} {p pos : Pos} (hg : Gl X "range") (hm : X.mg "range" = none) (ha : PA X [a, b] ta) (hs : starEach [a, b] X.env = [(false, eval a X.env), (false, eval b X.env)] := by rfl) (hs2 : starEach [b] X.env = [(false, eval b X.env)] := by rfl) : PI X tg (.Call (.Name "range" p) [a, b] [] pos) (iRng2W ta) :=
  ⟨fun pins s σ H R I h => (pi_range2 hg hm (PA.mono ha) hs hs2).run pins s σ H R I ⟨_, h, fun vs H y => y.un⟩⟩
theorem pi_enumW {e : Expr} {p pos tpos : Pos} {elts : List Expr} {kk : Nat} (hg : Gl X "enumerate") (hm : X.mg "enumerate" = none) (ha : PA X [e] ta) (hs : starEach [e] X.env = [(false, eval e X.env)] := by rfl) : PI X (.Tuple elts kk tpos) (.Call (.Name "enumerate" p) [e] [] pos) (iEnumW X.K ta) :=
  ⟨fun pins s σ H R I h => (L2.pi_enum hg hm (PA.mono ha) hs).run pins s σ H R I ⟨_, h, fun vs H y => y.un⟩⟩
theorem pi_zipW {e e2 : Expr} {p pos tpos : Pos} {elts : List Expr} {kk : Nat} (hg : Gl X "zip") (hm : X.mg "zip" = none) (ha : PA X [e, e2] ta)
    (hs : starEach [e, e2] X.env = (false, eval e X.env) :: starEach [e2] X.env := by rfl) (hpl : (backTo pos (starEach [e2] X.env)).any (·.1) = false := by rfl) : PI X (.Tuple elts kk tpos) (.Call (.Name "zip" p) [e, e2] [] pos) (iZipW X.K ta) :=
  ⟨fun pins s σ H R I h => (RZ.pi_zipA hg hm (PA.mono ha) hs hpl).run pins s σ H R I ⟨_, h, fun vs H y => y.un⟩⟩
end
section
variable {K : Frag} {H : Hp} {x : V} {p q : Addr} {ds es : List Dt} {R : It → Hp → Prop}
theorem listW (i : IsV K H x (.lst ds)) (k : ∀ J, WDL K J ds [(x, .lst ds)] → R J H) : ListD K x H R := listD i fun D vs e _ _ => by subst e; exact k _ wdl_list
theorem tupW (i : IsV K H x (.tup ds)) (k : ∀ J, WDL K J ds [(x, .tup ds)] → R J H) : TupW K x H R := by
  obtain ⟨p, vs, rfl, hp, iv⟩ := i.tupL
  exact ⟨p, rfl, ⟨vs, SqT.of hp⟩, k _ wdl_tup⟩
theorem rng1W {j : Int} (h1 : -(2 ^ 62) ≤ j) (h2 : j < 2 ^ 62) (k : ∀ J, WDL K J (rangeD 0 j.toNat) [] → R J H) : Rng1W [.int j] H R := ⟨j, rfl, h1, h2, k _ wdl_range⟩
theorem rng2W {i j : Int} (h : -(2 ^ 62) ≤ i ∧ i < 2 ^ 62 ∧ -(2 ^ 62) ≤ j ∧ j < 2 ^ 62) (k : ∀ J, WDL K J (rangeD i (j - i).toNat) [] → R J H) : Rng2W [.int i, .int j] H R := ⟨i, j, rfl, h, k _ wdl_range⟩
theorem enumW (i : IsV K H x (.lst ds)) (k : ∀ J, WDL K J (enmD 0 ds) [(x, .lst ds)] → R J H) : EnumD K [x] H R := by
  obtain ⟨p, vs, rfl, hp, iv⟩ := i.lstE
  exact enumD i fun _ _ _ => k _ wdl_enum
theorem zipWL {y : V} (i : IsV K H x (.lst ds)) (j : IsV K H y (.lst es)) (k : ∀ J, WDL K J (zipD ds es) [(x, .lst ds), (y, .lst es)] → R J H) : ZipW K [x, y] H R := by
  obtain ⟨p, vs, rfl, hp, iv⟩ := i.lstE
  obtain ⟨q, us, rfl, hq, iu⟩ := j.lstE
  exact ⟨p, q, vs, us, rfl, .inl ⟨SqL.of hp, SqL.of hq, k _ wdl_zipL⟩⟩
theorem zipWT {y : V} (i : IsV K H x (.tup ds)) (j : IsV K H y (.tup es)) (k : ∀ J, WDL K J (zipD ds es) [(x, .tup ds), (y, .tup es)] → R J H) : ZipW K [x, y] H R := by
  obtain ⟨p, vs, rfl, hp, iv⟩ := i.tupL
  obtain ⟨q, us, rfl, hq, iu⟩ := j.tupL
  exact ⟨p, q, vs, us, rfl, .inr ⟨SqT.of hp, SqT.of hq, k _ wdl_zipT⟩⟩
end
/-! ### comprehensions -/
def monoG (g : TG) : TG := fun x σ H R => ∃ R', g x σ H R' ∧ ∀ σ H, R' σ H → R σ H
def monoT (t : TT) : TT := fun σ H R => ∃ R', t σ H R' ∧ ∀ b H, R' b H → R b H
theorem PG.mono {X : Cx} {tg : Expr} {g : TG} (h : PG X tg g) : PG X tg (monoG g) := ⟨fun pins s σ H v u Q I r ⟨R, z, w⟩ => thn (h.run pins s σ H v u R I r z) fun _ s' ⟨σ', H', I', q⟩ => ⟨σ', H', I', w _ _ q⟩⟩
theorem PTs.mono {X : Cx} {ifs : List Expr} {t : TT} (h : PTs X ifs t) : PTs X ifs (monoT t) := ⟨fun pins s σ H Q I ⟨R, z, w⟩ => thn (h.run pins s σ H R I z) fun _ s' ⟨H', I', q⟩ => ⟨H', I', w _ _ q⟩⟩
structure LcD (J : It) (g : TG) (tt : TT) (te : TE) (vs : List Nat) (σ : L2.St) (H1 : Hp) (Q : VK) : Prop where
  un : ∀ D, H1 D = none → ∃ W : Nat → Nat → Hp → Prop, (∃ m, W 0 m (upd H1 D (.lst []))) ∧ ∀ i m H, W i m H →
    (J.stop i H ∧ Q (.ref D) H) ∨ (J.go i H ∧ ∃ Nx : Hp → Prop, (∀ H', Nx H' → ∃ m', m' < m ∧ W (i + 1) m' H') ∧ ∀ x H', J.yld i H x H' → monoG g x (wipe σ vs) H' fun σ2 H2 => wipe σ2 vs = wipe σ vs ∧ monoT tt σ2 H2 fun b H3 =>
      if b = true then monoE te σ2 H3 fun y H4 => ∃ acc, H4 D = some (.lst acc) ∧ acc.length < sizeLine ∧ Nx (upd H4 D (.lst (acc ++ [y]))) else Nx H3)
def tLcD (wi : TI) (g : TG) (tt : TT) (te : TE) (vs : List Nat) : TE := fun σ H Q => wi σ H fun J H1 => LcD J g tt te vs σ H1 Q
section
variable {X : Cx}
theorem pe_lcD {elt tg iter : Expr} {ifs : List Expr} {scope : Scope} {own : List (Str × Nat)} {pos : Pos} {wi : TI} {g : TG} {tt : TT} {te : TE} (hc : X.calm = true) (hN : X.N.Nodup) (hi : PI X tg iter wi) (ok : BlkOk X.N X.env.scope scope own)
    (hg : ∀ (s : Shared) (H : Hp) (C : Addr) (cl : List (Str × Addr)) (fp : List Addr), PG (X.blk s H scope (compEnvC scope cl C X.env) fp) tg g) (ht : ∀ (s : Shared) (H : Hp) (C : Addr) (cl : List (Str × Addr)) (fp : List Addr), PTs (X.blk s H scope (compEnvC scope cl C X.env) fp) ifs tt)
    (he : ∀ (s : Shared) (H : Hp) (C : Addr) (cl : List (Str × Addr)) (fp : List Addr), PE (X.blk s H scope (compEnvC scope cl C X.env) fp) elt te) (hs : ∀ x, foldedSetIterable iter X.env x = pure x := by intro _; rfl) :
    PE X (.ListComp elt [⟨tg, iter, ifs, 0⟩] scope pos) (tLcD wi g tt te (own.map (·.2))) :=
  ⟨fun pins s σ H Q I h => (pe_lc hc hN (PI.mono hi) ok (fun s H C cl fp => PG.mono (hg s H C cl fp)) (fun s H C cl fp => PTs.mono (ht s H C cl fp)) (fun s H C cl fp => PE.mono (he s H C cl fp)) hs).run pins s σ H Q I ⟨_, h, fun _ _ y => y.un⟩⟩
theorem ps_setLcD {i : Nat} {y : Str} {py : Pos} {elt tg iter : Expr} {ifs : List Expr} {scope : Scope} {own : List (Str × Nat)} {pos spos : Pos} {wi : TI} {g : TG} {tt : TT} {te : TE} (hc : X.calm = true) (hN : X.N.Nodup) (hy : X.N[i]? = some y) (hyl : X.env.scope.names.lookup y = some .local)
    (hsw : swapsWith (.ListComp elt [⟨tg, iter, ifs, 0⟩] scope pos) (some (.Name y py)) spos.line X.env = pure true) (hi : PI X tg iter wi) (ok : BlkOk X.N X.env.scope scope own)
    (hg : ∀ (s : Shared) (H : Hp) (C : Addr) (cl : List (Str × Addr)) (fp : List Addr), PG (X.blk s H scope (compEnvC scope cl C X.env) fp) tg g) (ht : ∀ (s : Shared) (H : Hp) (C : Addr) (cl : List (Str × Addr)) (fp : List Addr), PTs (X.blk s H scope (compEnvC scope cl C X.env) fp) ifs tt)
    (he : ∀ (s : Shared) (H : Hp) (C : Addr) (cl : List (Str × Addr)) (fp : List Addr), PE (X.blk s H scope (compEnvC scope cl C X.env) fp) elt te) (hs : ∀ x, foldedSetIterable iter X.env x = pure x := by intro _; rfl) :
    PS X (.Assign [.Name y py] (.ListComp elt [⟨tg, iter, ifs, 0⟩] scope pos) spos) (tAsg (tLcD wi g tt te (own.map (·.2))) (gNameS i)) := toSet
  ⟨fun pins s σ H D I h => (ps_setLc hc hN hy hyl hsw (PI.mono hi) ok (fun s H C cl fp => PG.mono (hg s H C cl fp)) (fun s H C cl fp => PTs.mono (ht s H C cl fp)) (fun s H C cl fp => PE.mono (he s H C cl fp)) hs).run pins s σ H D I ⟨_, h, fun _ _ y => y.un⟩⟩
end
/-- what comes of an item: Pe says of an item and its outcome (none: left out) -/
inductive FMap (Pe : Dt → Option Dt → Prop) : List Dt → List Dt → Prop
  | nil : FMap Pe [] []
  | keep {d e : Dt} {l r : List Dt} (h : FMap Pe l r) (p : Pe d (some e)) : FMap Pe (l ++ [d]) (r ++ [e])
  | skip {d : Dt} {l r : List Dt} (h : FMap Pe l r) (p : Pe d none) : FMap Pe (l ++ [d]) r
theorem FMap.len {Pe : Dt → Option Dt → Prop} {l r : List Dt} (h : FMap Pe l r) : r.length ≤ l.length := by
  induction h with
  | nil => exact Nat.le_refl _
  | keep _ _ ih => rw [List.length_append, List.length_append]; simp; exact ih
  | skip _ _ ih => rw [List.length_append]; omega
/-- an item's outcome has come -/
structure LcE (K : Frag) (m : Md) (Hb : Hp) (D : Addr) (acc : List Dt) (P : Dt → Prop) (y : V) (H4 : Hp) : Prop where
  un : ∃ L' d', Env K m Hb H4 L' ∧ IsV K H4 y d' ∧ (.ref D, .lst acc) ∈ L' ∧ noL d' = true ∧ P d'
structure LcK (K : Frag) (m : Md) (Hb : Hp) (D : Addr) (acc : List Dt) (P : Prop) (H4 : Hp) : Prop where
  un : ∃ L', Env K m Hb H4 L' ∧ (.ref D, .lst acc) ∈ L' ∧ P
theorem noLs_app {a b : List Dt} (h : noLs a = true) (h2 : noLs b = true) : noLs (a ++ b) = true := by
  induction a with
  | nil => exact h2
  | cons x l ih => exact Bool.and_eq_true_iff.mpr ⟨(Bool.and_eq_true_iff.mp h).1, ih (Bool.and_eq_true_iff.mp h).2⟩
section
variable {K : Frag} {m m' : Md} {H0 H : Hp} {L L' : List (V × Dt)} {J : It} {ds : List Dt} {L0 : List (V × Dt)} {g : TG} {tt : TT} {te : TE} {vs : List Nat} {σ : L2.St} {Q : VK} {D : Addr} {acc : List Dt}
theorem lcE {H4 : Hp} {y : V} {d' : Dt} {P : Dt → Prop} (h : Env K m H H4 L') (i : IsV K H4 y d') (hD : (.ref D, .lst acc) ∈ L') (nl : noL d' = true) (p : P d') : LcE K m H D acc P y H4 := ⟨L', d', h, i, hD, nl, p⟩
theorem lcK {H4 : Hp} {P : Prop} (h : Env K m H H4 L') (hD : (.ref D, .lst acc) ∈ L') (p : P) : LcK K m H D acc P H4 := ⟨L', h, hD, p⟩
/-- the new list grows -/
theorem Env.grow (e : Env K m H H L) (np : m.np L) (hD : H D = none) (le : Md.Le m m') {H4 : Hp} {y : V} {d' : Dt} (h : Env K m' H H4 L') (i : IsV K H4 y d') (iD : (.ref D, .lst acc) ∈ L') (nl : noL d' = true) (na : noLs acc = true) :
    ∃ av, H4 D = some (.lst av) ∧ av.length = acc.length ∧ Env K m' H (upd H4 D (.lst (av ++ [y]))) ((.ref D, .lst (acc ++ [d'])) :: L) := by
  obtain ⟨_, av, ee, hp, iv⟩ := (h.all _ iD).lstE
  cases ee
  have nD := newM e.at_ hD
  have sb : Sbl D H4 (upd H4 D (.lst (av ++ [y]))) := fun b o nb _ e => by rw [upd_ne nb]; exact e
  have c := e.carry le np (Md.rel_new (o := .lst (av ++ [y])) hD (le.rel h.gr)) ((nD.le le).at_ h.at_ hp)
  exact ⟨av, hp, iv.length, c.add (.lst upd_same ((IsVs.sb hp sb iv na).app (.cons (IsV.sb hp sb i nl) .nil)))⟩
theorem Env.keepD (e : Env K m H H L) (np : m.np L) (le : Md.Le m m') {H4 : Hp} (h : Env K m' H H4 L') (iD : (.ref D, .lst acc) ∈ L') : Env K m' H H4 ((.ref D, .lst acc) :: L) :=
  (e.carry le np (le.rel h.gr) h.at_).add (h.all _ iD)
theorem lcM (mm : Nat → Md) (Pe : Dt → Option Dt → Prop) (e : Env K (mm 0) H0 H L) (w : WDL K J ds L0) (sub : ∀ x ∈ L0, x ∈ L) (np : (mm 0).np L) (le : ∀ i, Md.Le (mm 0) (mm i)) (hn : ds.length < sizeLine)
    (hs : ∀ i d x D acc H', ds[i]? = some d → FMap Pe (ds.take i) acc → noLs acc = true → Env K (mm i) H H' ((x, d) :: (.ref D, .lst acc) :: L) → g x (wipe σ vs) H' fun σ2 H2 => wipe σ2 vs = wipe σ vs ∧ tt σ2 H2 fun b H3 =>
      if b = true then te σ2 H3 (LcE K (mm (i + 1)) H D acc (fun d' => Pe d (some d'))) else LcK K (mm (i + 1)) H D acc (Pe d none) H3)
    (k : ∀ D H' ds', FMap Pe ds ds' → noLs ds' = true → NewD (mm ds.length) H0 D → Env K (mm ds.length) H0 H' ((.ref D, .lst ds') :: L) → Q (.ref D) H') : LcD J g tt te vs σ H Q := by
  refine ⟨fun D hD => ?_⟩
  have e0 := e.rb
  refine ⟨fun i n H' => n = ds.length - i ∧ i ≤ ds.length ∧ ∃ acc, FMap Pe (ds.take i) acc ∧ noLs acc = true ∧ Env K (mm i) H H' ((.ref D, .lst acc) :: L), ⟨ds.length, by simp, Nat.zero_le _, [], .nil, rfl, ?_⟩, ?_⟩
  · exact (e0.step (Same.new' hD)).add (.lst upd_same .nil)
  · rintro i n H' ⟨rfl, hi, acc, fm, na, ev⟩
    have src : ∀ x ∈ L0, IsV K H' x.1 x.2 := fun x hx => ev.all x (List.mem_cons_of_mem _ (sub x hx))
    by_cases hlt : i < ds.length
    · refine .inr ⟨w.goes i H' hlt src, fun H' => i + 1 ≤ ds.length ∧ ∃ acc, FMap Pe (ds.take (i + 1)) acc ∧ noLs acc = true ∧ Env K (mm (i + 1)) H H' ((.ref D, .lst acc) :: L), fun H2 h2 => ⟨ds.length - (i + 1), by omega, rfl, h2⟩, fun x H2 y => ?_⟩
      have hd := List.getElem?_eq_getElem hlt
      obtain ⟨sm, ix⟩ := w.yields i H' x H2 _ hd src y
      have tk : ds.take (i + 1) = ds.take i ++ [ds[i]] := by rw [List.take_add_one, hd]; rfl
      have al := fm.len
      rw [List.length_take] at al
      refine ⟨_, hs i _ x D acc H2 hd fm na ((ev.step sm).add ix), fun σ2 H3 z => ⟨z.1, _, z.2, fun b H4 z => ?_⟩⟩
      cases b with
      | true =>
        rw [if_pos rfl] at z ⊢
        refine ⟨_, z, fun y H5 ⟨L', d', h5, i5, iD, nl, p⟩ => ?_⟩
        obtain ⟨av, a1, a2, a3⟩ := e0.grow np hD (le (i + 1)) h5 i5 iD nl na
        exact ⟨av, a1, by omega, by omega, _, by rw [tk]; exact .keep fm p, noLs_app na (by show (noL d' && true) = true; rw [nl]; rfl), a3⟩
      | false =>
        rw [if_neg (by decide)] at z ⊢
        obtain ⟨L', h5, iD, p⟩ := z
        exact ⟨by omega, _, by rw [tk]; exact .skip fm p, na, e0.keepD np (le (i + 1)) h5 iD⟩
    · obtain rfl : i = ds.length := by omega
      rw [List.take_length] at fm
      exact .inl ⟨w.stops H' src, k D H' acc fm na ((e.newD hD).le (le _)) (Env.then e (le _) ev)⟩
/-! one item after another -/
structure LcY (K : Frag) (m : Md) (Hb : Hp) (D : Addr) (F : Md → List Dt → Prop) (acc : List Dt) (y : V) (H4 : Hp) : Prop where
  un : ∃ m' L' d', Md.Le m m' ∧ Env K m' Hb H4 L' ∧ IsV K H4 y d' ∧ (.ref D, .lst acc) ∈ L' ∧ noL d' = true ∧ F m' (acc ++ [d'])
structure LcN (K : Frag) (m : Md) (Hb : Hp) (D : Addr) (F : Md → List Dt → Prop) (acc : List Dt) (H4 : Hp) : Prop where
  un : ∃ m' L', Md.Le m m' ∧ Env K m' Hb H4 L' ∧ (.ref D, .lst acc) ∈ L' ∧ F m' acc
/-- from here on: l what is to come, acc what has come -/
def LcRun (K : Frag) (H0 H : Hp) (L : List (V × Dt)) (g : TG) (tt : TT) (te : TE) (vs : List Nat) (σ : L2.St) (Q : VK) (D : Addr) : List Dt → Md → List Dt → Prop
  | [], m, acc => ∀ H', NewD m H0 D → Env K m H0 H' ((.ref D, .lst acc) :: L) → Q (.ref D) H'
  | d :: l, m, acc => ∀ x H', Env K m H H' ((x, d) :: (.ref D, .lst acc) :: L) → g x (wipe σ vs) H' fun σ2 H2 => wipe σ2 vs = wipe σ vs ∧ tt σ2 H2 fun b H3 =>
      if b = true then te σ2 H3 (LcY K m H D (LcRun K H0 H L g tt te vs σ Q D l) acc) else LcN K m H D (LcRun K H0 H L g tt te vs σ Q D l) acc H3
structure LcS (K : Frag) (H0 H : Hp) (L : List (V × Dt)) (g : TG) (tt : TT) (te : TE) (vs : List Nat) (σ : L2.St) (Q : VK) (D : Addr) (l : List Dt) (m : Md) (acc : List Dt) : Prop where
  un : LcRun K H0 H L g tt te vs σ Q D l m acc
theorem lcU (e : Env K m H0 H L) (w : WDL K J ds L0) (sub : ∀ x ∈ L0, x ∈ L) (np : m.np L) (hn : Nat.ble ds.length 1000 = true) (k : ∀ D, LcRun K H0 H L g tt te vs σ Q D ds m []) : LcD J g tt te vs σ H Q := by
  refine ⟨fun D hD => ?_⟩
  have e0 := e.rb
  have hn := Nat.le_of_ble_eq_true hn
  have sl : 1000 < sizeLine := by decide
  refine ⟨fun i n H' => n = ds.length - i ∧ i ≤ ds.length ∧ ∃ m' acc, Md.Le m m' ∧ acc.length ≤ i ∧ noLs acc = true ∧ Env K m' H H' ((.ref D, .lst acc) :: L) ∧ LcRun K H0 H L g tt te vs σ Q D (ds.drop i) m' acc, ⟨ds.length, by simp, Nat.zero_le _, m, [], .eq, Nat.le_refl _, rfl, ?_, k D⟩, ?_⟩
  · exact (e0.step (Same.new' hD)).add (.lst upd_same .nil)
  · rintro i n H' ⟨rfl, hi, m', acc, le, al, na, ev, rn⟩
    have src : ∀ x ∈ L0, IsV K H' x.1 x.2 := fun x hx => ev.all x (List.mem_cons_of_mem _ (sub x hx))
    by_cases hlt : i < ds.length
    · refine .inr ⟨w.goes i H' hlt src, fun H' => i + 1 ≤ ds.length ∧ ∃ m' acc, Md.Le m m' ∧ acc.length ≤ i + 1 ∧ noLs acc = true ∧ Env K m' H H' ((.ref D, .lst acc) :: L) ∧ LcRun K H0 H L g tt te vs σ Q D (ds.drop (i + 1)) m' acc, fun H2 h2 => ⟨ds.length - (i + 1), by omega, rfl, h2⟩, fun x H2 y => ?_⟩
      have hd := List.getElem?_eq_getElem hlt
      obtain ⟨sm, ix⟩ := w.yields i H' x H2 _ hd src y
      rw [List.drop_eq_getElem_cons hlt] at rn
      refine ⟨_, rn x H2 ((ev.step sm).add ix), fun σ2 H3 z => ⟨z.1, _, z.2, fun b H4 z => ?_⟩⟩
      cases b with
      | true =>
        rw [if_pos rfl] at z ⊢
        refine ⟨_, z, fun y H5 ⟨m2, L', d', le2, h5, i5, iD, nl, p⟩ => ?_⟩
        obtain ⟨av, a1, a2, a3⟩ := e0.grow np hD (le.trans le2) h5 i5 iD nl na
        exact ⟨av, a1, by omega, by omega, m2, _, le.trans le2, by rw [List.length_append]; simp; omega, noLs_app na (by show (noL d' && true) = true; rw [nl]; rfl), a3, p⟩
      | false =>
        rw [if_neg (by decide)] at z ⊢
        obtain ⟨m2, L', le2, h5, iD, p⟩ := z
        exact ⟨by omega, m2, _, le.trans le2, by omega, na, e0.keepD np (le.trans le2) h5 iD, p⟩
    · obtain rfl : i = ds.length := by omega
      rw [List.drop_length] at rn
      exact .inl ⟨w.stops H' src, rn H' ((e.newD hD).le le) (Env.then e le ev)⟩
theorem lcR0 {Q : VK} (k : ∀ H', NewD m H0 D → Env K m H0 H' ((.ref D, .lst acc) :: L) → Q (.ref D) H') : LcS K H0 H L g tt te vs σ Q D [] m acc := ⟨k⟩
theorem lcR1 {d : Dt} {l : List Dt} (k : ∀ x H', Env K m H H' ((x, d) :: (.ref D, .lst acc) :: L) → g x (wipe σ vs) H' fun σ2 H2 => wipe σ2 vs = wipe σ vs ∧ tt σ2 H2 fun b H3 =>
      if b = true then te σ2 H3 (LcY K m H D (LcRun K H0 H L g tt te vs σ Q D l) acc) else LcN K m H D (LcRun K H0 H L g tt te vs σ Q D l) acc H3) : LcS K H0 H L g tt te vs σ Q D (d :: l) m acc := ⟨k⟩
theorem lcR1i {i : Int} {l : List Dt} (k : ∀ H', Env K m H H' ((.ref D, .lst acc) :: L) → g (.int i) (wipe σ vs) H' fun σ2 H2 => wipe σ2 vs = wipe σ vs ∧ tt σ2 H2 fun b H3 =>
      if b = true then te σ2 H3 (LcY K m H D (LcRun K H0 H L g tt te vs σ Q D l) acc) else LcN K m H D (LcRun K H0 H L g tt te vs σ Q D l) acc H3) : LcS K H0 H L g tt te vs σ Q D (.int i :: l) m acc := ⟨fun x H' e => by
  obtain rfl := (e.all _ List.mem_cons_self).intE
  exact k H' (e.sub' fun _ i => List.mem_cons_of_mem _ i)⟩
theorem lcR1s {i : Str} {l : List Dt} (k : ∀ H', Env K m H H' ((.ref D, .lst acc) :: L) → g (.str i) (wipe σ vs) H' fun σ2 H2 => wipe σ2 vs = wipe σ vs ∧ tt σ2 H2 fun b H3 =>
      if b = true then te σ2 H3 (LcY K m H D (LcRun K H0 H L g tt te vs σ Q D l) acc) else LcN K m H D (LcRun K H0 H L g tt te vs σ Q D l) acc H3) : LcS K H0 H L g tt te vs σ Q D (.str i :: l) m acc := ⟨fun x H' e => by
  obtain rfl := (e.all _ List.mem_cons_self).strE'
  exact k H' (e.sub' fun _ i => List.mem_cons_of_mem _ i)⟩
theorem lcR1b {i : Bool} {l : List Dt} (k : ∀ H', Env K m H H' ((.ref D, .lst acc) :: L) → g (.bl i) (wipe σ vs) H' fun σ2 H2 => wipe σ2 vs = wipe σ vs ∧ tt σ2 H2 fun b H3 =>
      if b = true then te σ2 H3 (LcY K m H D (LcRun K H0 H L g tt te vs σ Q D l) acc) else LcN K m H D (LcRun K H0 H L g tt te vs σ Q D l) acc H3) : LcS K H0 H L g tt te vs σ Q D (.bl i :: l) m acc := ⟨fun x H' e => by
  obtain rfl := (e.all _ List.mem_cons_self).blE
  exact k H' (e.sub' fun _ i => List.mem_cons_of_mem _ i)⟩
theorem lcY {H4 : Hp} {y : V} {d' : Dt} {l : List Dt} (h : Env K m' H H4 L') (le : Md.Le m m') (i : IsV K H4 y d') (iD : (.ref D, .lst acc) ∈ L') (nl : noL d' = true) (k : LcS K H0 H L g tt te vs σ Q D l m' (acc ++ [d'])) : LcY K m H D (LcRun K H0 H L g tt te vs σ Q D l) acc y H4 := ⟨m', L', d', le, h, i, iD, nl, k.un⟩
theorem lcN {H4 : Hp} {l : List Dt} (h : Env K m' H H4 L') (le : Md.Le m m') (iD : (.ref D, .lst acc) ∈ L') (k : LcS K H0 H L g tt te vs σ Q D l m' acc) : LcN K m H D (LcRun K H0 H L g tt te vs σ Q D l) acc H4 := ⟨m', L', le, h, iD, k.un⟩
theorem lcU' (e : Env K m H0 H L) (w : WDL K J ds L0) (sub : ∀ x ∈ L0, x ∈ L) (np : m.np L) (hn : Nat.ble ds.length 1000 = true) (k : ∀ D, LcS K H0 H L g tt te vs σ Q D ds m []) : LcD J g tt te vs σ H Q := lcU e w sub np hn fun D => (k D).un
end
/-! ### for loops -/
structure ForD (J : It) (g : TG) (tb : TS) (D : Ends) (σ : L2.St) (H1 : Hp) : Prop where
  un : ∃ W : Nat → Nat → L2.St → Hp → Prop, (∃ m, W 0 m σ H1) ∧ ∀ i m σ H, W i m σ H →
    (J.stop i H ∧ D.nx σ H) ∨ (J.go i H ∧ ∃ N : L2.St → Hp → Prop, (∀ σ' H', N σ' H' → ∃ m', m' < m ∧ W (i + 1) m' σ' H') ∧ ∀ x H', J.yld i H x H' → g x σ H' fun σ2 H2 => tb { D with nx := N, ct := N, bk := D.nx } σ2 H2)
def tForD (wi : TI) (g : TG) (tb : TS) : TS := fun D σ H => wi σ H fun J H1 => ForD J g tb D σ H1
theorem ps_forD {X : Cx} {tg iter : Expr} {body : List Stmt} {wi : TI} {g : TG} {tb : TS} {pos : Pos} (hp : PassesOwn (model X.prog X.w) X.A X.env X.xe) (hc : X.calm = true) (hi : PI X tg iter wi) (hg : PG X tg g) (hb : PSs X body tb) (hs : ∀ x, foldedSetIterable iter X.env x = pure x := by intro _; rfl) : PS X (.For tg iter body [] pos) (tForD wi g tb) :=
  ⟨fun pins s σ H D I h => (ps_for hp hc (PI.mono hi) hg hb hs).run pins s σ H D I ⟨_, h, fun _ _ y => y.un⟩⟩
structure LoopI (K : Frag) (m : Md) (H0 : Hp) (L : List (V × Dt)) (S : L2.St → List (V × Dt) → Prop) (σ : L2.St) (H : Hp) : Prop where
  un : ∃ L', S σ L' ∧ Env K m H0 H (L' ++ L)
/-- so far (n turns in all), from turn i on -/
structure ForG (J : It) (n i : Nat) (g : TG) (tb : TS) (D : Ends) (σ : L2.St) (H1 : Hp) : Prop where
  un : ∃ W : Nat → L2.St → Hp → Prop, W i σ H1 ∧ ∀ j σ H, W j σ H → (J.stop j H ∧ D.nx σ H) ∨ (j < n ∧ J.go j H ∧ ∃ N : L2.St → Hp → Prop, (∀ σ' H', N σ' H' → W (j + 1) σ' H') ∧ ∀ x H', J.yld j H x H' → g x σ H' fun σ2 H2 => tb { D with nx := N, ct := N, bk := D.nx } σ2 H2)
section
variable {K : Frag} {m m' : Md} {H0 H : Hp} {L L' : List (V × Dt)} {J : It} {ds : List Dt} {L0 : List (V × Dt)} {g : TG} {tb : TS} {σ : L2.St} {D : Ends} {n i : Nat}
theorem loopI {S : L2.St → List (V × Dt) → Prop} (L' : List (V × Dt)) (s : S σ L') (e : Env K m H0 H (L' ++ L)) : LoopI K m H0 L S σ H := ⟨L', s, e⟩
theorem forI (mm : Nat → Md) (S : Nat → L2.St → List (V × Dt) → Prop) (L1 : List (V × Dt)) (e : Env K (mm 0) H0 H (L1 ++ L)) (w : WDL K J ds L0) (sub : ∀ x ∈ L0, x ∈ L) (s0 : S 0 σ L1)
    (hs : ∀ i d x σ L' Hh, ds[i]? = some d → S i σ L' → Env K (mm i) H0 Hh ((x, d) :: (L' ++ L)) → g x σ Hh fun σ2 H2 => tb { D with nx := LoopI K (mm (i + 1)) H0 L (S (i + 1)), ct := LoopI K (mm (i + 1)) H0 L (S (i + 1)), bk := D.nx } σ2 H2)
    (hd : ∀ σ L' Hh, S ds.length σ L' → Env K (mm ds.length) H0 Hh (L' ++ L) → D.nx σ Hh) : ForD J g tb D σ H := by
  refine ⟨fun i n σ H' => n = ds.length - i ∧ i ≤ ds.length ∧ LoopI K (mm i) H0 L (S i) σ H', ⟨ds.length, by simp, Nat.zero_le _, L1, s0, e⟩, ?_⟩
  rintro i n σ H' ⟨rfl, hi, L', s, ev⟩
  have src : ∀ x ∈ L0, IsV K H' x.1 x.2 := fun x hx => ev.all x (List.mem_append.mpr (.inr (sub x hx)))
  by_cases hlt : i < ds.length
  · refine .inr ⟨w.goes i H' hlt src, LoopI K (mm (i + 1)) H0 L (S (i + 1)), fun σ' H2 h2 => ⟨ds.length - (i + 1), by omega, rfl, by omega, h2⟩, fun x H2 y => ?_⟩
    have hd := List.getElem?_eq_getElem hlt
    obtain ⟨sm, ix⟩ := w.yields i H' x H2 _ hd src y
    exact hs i _ x σ L' H2 hd s ((ev.step sm).add ix)
  · obtain rfl : i = ds.length := by omega
    exact .inl ⟨w.stops H' src, hd σ L' H' s ev⟩
theorem forU (w : WDL K J ds L0) (h : ForG J ds.length 0 g tb D σ H) : ForD J g tb D σ H := by
  obtain ⟨W, w0, hw⟩ := h
  refine ⟨fun i k σ H' => k = ds.length - i ∧ W i σ H', ⟨ds.length, rfl, w0⟩, ?_⟩
  rintro i k σ H' ⟨rfl, h⟩
  rcases hw i σ H' h with z | ⟨lt, go, N, hN, hy⟩
  · exact .inl z
  · exact .inr ⟨go, N, fun σ' H2 h2 => ⟨ds.length - (i + 1), by omega, rfl, hN σ' H2 h2⟩, hy⟩
theorem forG0 (e : Env K m H0 H L) (w : WDL K J ds L0) (sub : ∀ x ∈ L0, x ∈ L) (hi : i = ds.length) (k : D.nx σ H) : ForG J n i g tb D σ H := by
  refine ⟨fun j σ' H' => j = i ∧ σ' = σ ∧ H' = H, ⟨rfl, rfl, rfl⟩, ?_⟩
  rintro j σ' H' ⟨rfl, rfl, rfl⟩
  refine .inl ⟨?_, k⟩
  rw [hi]
  exact w.stops H' fun x hx => e.all x (sub x hx)
theorem forG1 {d : Dt} (e : Env K m H0 H L) (w : WDL K J ds L0) (sub : ∀ x ∈ L0, x ∈ L) (hn : Nat.ble (i + 1) n = true) (hd : ds[i]? = some d) (k : ∀ x H', Env K m H0 H' ((x, d) :: L) → g x σ H' fun σ2 H2 => tb { D with nx := ForG J n (i + 1) g tb D, ct := ForG J n (i + 1) g tb D, bk := D.nx } σ2 H2) : ForG J n i g tb D σ H := by
  have src : ∀ x ∈ L0, IsV K H x.1 x.2 := fun x hx => e.all x (sub x hx)
  have hlt := (List.getElem?_eq_some_iff.mp hd).1
  refine ⟨fun j σ' H' => (j = i ∧ σ' = σ ∧ H' = H) ∨ (∃ W : Nat → L2.St → Hp → Prop, W j σ' H' ∧ ∀ j σ H, W j σ H → (J.stop j H ∧ D.nx σ H) ∨ (j < n ∧ J.go j H ∧ ∃ N : L2.St → Hp → Prop, (∀ σ' H', N σ' H' → W (j + 1) σ' H') ∧ ∀ x H', J.yld j H x H' → g x σ H' fun σ2 H2 => tb { D with nx := N, ct := N, bk := D.nx } σ2 H2)), .inl ⟨rfl, rfl, rfl⟩, ?_⟩
  rintro j σ' H' (⟨rfl, rfl, rfl⟩ | ⟨W, w1, w2⟩)
  · refine .inr ⟨Nat.le_of_ble_eq_true hn, w.goes _ _ hlt src, ForG J n (j + 1) g tb D, fun σ2 H2 z => .inr z.un, fun x H2 y => ?_⟩
    obtain ⟨sm, ix⟩ := w.yields _ _ x H2 _ hd src y
    exact k x H2 ((e.step sm).add ix)
  · rcases w2 j σ' H' w1 with z | ⟨lt, go, N, hN, hy⟩
    · exact .inl z
    · exact .inr ⟨lt, go, N, fun σ2 H2 z => .inr ⟨W, hN σ2 H2 z, w2⟩, hy⟩
theorem forG1i {j : Int} (e : Env K m H0 H L) (w : WDL K J ds L0) (sub : ∀ x ∈ L0, x ∈ L) (hn : Nat.ble (i + 1) n = true) (hd : ds[i]? = some (.int j)) (k : ∀ H', Env K m H0 H' L → g (.int j) σ H' fun σ2 H2 => tb { D with nx := ForG J n (i + 1) g tb D, ct := ForG J n (i + 1) g tb D, bk := D.nx } σ2 H2) : ForG J n i g tb D σ H :=
  forG1 e w sub hn hd fun x H' e => by
    obtain rfl := (e.all _ List.mem_cons_self).intE
    exact k H' (e.sub' fun _ i => List.mem_cons_of_mem _ i)
end
/-- a list display, known as new -/
theorem lstDN {K : Frag} {m : Md} {H0 H : Hp} {L : List (V × Dt)} {vs : List V} {ds : List Dt} {Q : VK} (h : Env K m H0 H L) (i : IsVs K H vs ds) (hl : Nat.ble vs.length 1000 = true) (k : ∀ p H', NewD m H0 p → Env K m H0 H' ((.ref p, .lst ds) :: L) → Q (.ref p) H') : LstD vs H Q :=
  ⟨Nat.le_trans (Nat.le_of_ble_eq_true hl) (by decide), fun p n => k p _ (h.newD n) ((h.step (Same.new' n)).add (.lst upd_same (i.same (Same.new' n))))⟩
/-- xs[i] = v -/
structure SetIt (o i v : V) (H : Hp) (R : Hp → Prop) : Prop where
  un : rSetL o i v H R
theorem set_it {X : Cx} : PSet X SetIt := fun pins s σ H o i v ov iv u Q I ro ri rv h => set_list pins s σ H o i v ov iv u Q I ro ri rv h.un
theorem IsVs.set {K : Frag} {H : Hp} {x : V} {d : Dt} : ∀ {vs : List V} {ds : List Dt} (j : Nat), IsVs K H vs ds → IsV K H x d → IsVs K H (vs.set j x) (ds.set j d)
  | _, _, _, .nil, _ => .nil
  | _, _, 0, .cons a b, i => .cons i b
  | _, _, j + 1, .cons a b, i => .cons a (IsVs.set j b i)
theorem setIt {K : Frag} {m : Md} {H0 H : Hp} {L : List (V × Dt)} {D : Addr} {ds : List Dt} {k : Int} {j : Nat} {x : V} {d : Dt} {R : Hp → Prop} (h : Env K m H0 H L) (n : NewD m H0 D) (iD : IsV K H (.ref D) (.lst ds)) (e : ixN ds.length k = some j) (i : IsV K H x d) (nl : noLs (ds.set j d) = true) (L' : List (V × Dt)) (sub : ∀ e ∈ L', e ∈ L ∧ noL e.2 = true)
    (q : ∀ H', Env K m H0 H' ((.ref D, .lst (ds.set j d)) :: L') → R H') : SetIt (.ref D) (.int k) x H R := by
  obtain ⟨_, xs, ee, hp, iv⟩ := iD.lstE
  cases ee
  exact ⟨⟨D, xs, k, j, rfl, rfl, hp, by rw [iv.length]; exact e, q _ (h.setL n iD L' sub _ (iv.set j i) nl)⟩⟩
theorem subL0 {α : Type} {L : List α} : ∀ x ∈ ([] : List α), x ∈ L := fun _ i => by cases i
theorem subL1 {α : Type} {L : List α} {a : α} (h : a ∈ L) : ∀ x ∈ [a], x ∈ L := fun _ i => by
  rw [List.mem_singleton.mp i]
  exact h
theorem subL2 {α : Type} {L : List α} {a b : α} (h : a ∈ L) (h2 : b ∈ L) : ∀ x ∈ [a, b], x ∈ L := fun _ i => by
  rcases List.mem_cons.mp i with rfl | i
  · exact h
  · rw [List.mem_singleton.mp i]
    exact h2
end Sp
end
section
set_option Elab.async false
set_option linter.all false
set_option maxRecDepth 100000
set_option maxHeartbeats 4000000
namespace Sp
open PySem PySem.Spec PyProof.Rows L2
open PySem.W (Frag)
/-! ### readings freed of the context -/
section
variable {X : Cx} {CX : CXT} {k : Nat} {C : Addr} {sp : Sp} {E : XK} {op : Operator} {o e : Expr} {f : Str} {pos : Pos} {ta : TE} (K : Frag) (hK : X.K = K)
include hK
theorem pe_fldDK (he : PE X e ta) (hb : attributeBase e f X.env (eval e X.env) = eval e X.env) : PE X (.Attribute e f pos) (tFldD K f ta) := by
  subst hK
  exact pe_fldD he hb
theorem op_eqDK (hu : X.A.units + 64 < cLine) : OpR X (compareOp .Eq) (rEqD K) := by
  subst hK
  exact op_eqD hu
theorem op_neDK (hu : X.A.units + 64 < cLine) : OpR X (compareOp .NotEq) (rNeD K) := by
  subst hK
  exact op_neD hu
theorem op_in_seqK : OpR X (compareOp .In) (rIn K false) := by
  subst hK
  exact op_in_seq
theorem call_isiK' : CallR X (.builtin "isinstance") (rIsi K) := by
  subst hK
  exact call_isi
theorem op_eqGoK (G : GN X.prog X.w X.K X.mg X.base CX k C "__eq__" sp) (hr : Room k X.A) (hx : Passes CX X E) : OpR X (compareOp .Eq) (rEqOwn K C sp E) := by
  subst hK
  exact op_eqGo G hr hx
theorem op_neGoK (G : GNe X.prog X.w X.K X.mg X.base CX k C sp) (hr : Room (k + 1) X.A) (hx : Passes CX X E) : OpR X (compareOp .NotEq) (rNeOwn K C sp E) := by
  subst hK
  exact op_neGo G hr hx
theorem op_catTK : OpR X (binaryOp .Add) (rCatT K) := by
  subst hK
  exact op_catT
theorem sl_tupK : SlR X (rSlT K) := by
  subst hK
  exact sl_tup
theorem pi_listWK {tg l : Expr} {tl : TE} (hl : PE X l tl) : PI X tg l (iListW K tl) := by
  subst hK
  exact pi_listW hl
theorem pi_tupWK {tg l : Expr} {tl : TE} (hl : PE X l tl) : PI X tg l (iTupW K tl) := by
  subst hK
  exact pi_tupW hl
theorem pg_tupK {es : List Expr} {k : Nat} {t : TGs} {n : Nat} (hc : X.calm = true) (h : PGs X es t)
    (hn : (assignEach es X.env).length = n := by rfl) (hst : (assignEach es X.env).findIdx? (·.1) = none := by rfl) : PG X (.Tuple es k pos) (gTup K n t) := by
  subst hK
  exact pg_tup hc h hn hst
end
/-! ### for loops that change some slots -/
theorem set_same {σ : L2.St} {i : Nat} {z : Option V} (h : σ[i]? = some z) : σ.set i z = σ := by
  obtain ⟨hi, rfl⟩ := List.getElem?_eq_some_iff.mp h
  exact List.set_getElem_self hi
structure LoopS1 (K : Frag) (m : Md) (H0 : Hp) (L : List (V × Dt)) (s : Option V → L2.St) (σ' : L2.St) (H : Hp) : Prop where
  s : ∃ y0, σ' = s y0
  e : Env K m H0 H L
theorem loopS1 {K : Frag} {m m' : Md} {H0 H : Hp} {L L' : List (V × Dt)} {s : Option V → L2.St} {σ' : L2.St} (h : Env K m' H0 H L') (le : Md.Le m' m) (sub : ∀ x ∈ L, x ∈ L') (s' : ∃ y0, σ' = s y0) : LoopS1 K m H0 L s σ' H := ⟨s', (h.sub' sub).le le⟩
theorem forS1 {K : Frag} {m : Md} {H0 H : Hp} {L : List (V × Dt)} {J : It} {ds : List Dt} {L0 : List (V × Dt)} {g : TG} {tb : TS} {σ : L2.St} {D : Ends} {z0 : Option V} {s0 : Option V → L2.St} (i0 : Nat) [c0 : ∀ y0 : Option V, SetT σ i0 y0 (s0 y0)] (e : Env K m H0 H L) (w : WDL K J ds L0) (sub : ∀ x ∈ L0, x ∈ L) (h0 : σ[i0]? = some z0)
    (hs : ∀ d x y0 Hh, d ∈ ds → Env K m H0 Hh ((x, d) :: L) → g x (s0 y0) Hh fun σ2 H2 => tb { D with nx := LoopS1 K m H0 L s0, ct := LoopS1 K m H0 L s0, bk := D.nx } σ2 H2)
    (hd : ∀ y0 Hh, Env K m H0 Hh L → D.nx (s0 y0) Hh) : ForD J g tb D σ H := by
  have eqs : ∀ y0, (σ.set i0 y0) = (s0 y0) := fun y0 => by rw [(c0 y0).eq]
  refine ⟨fun i n σ' H' => n = ds.length - i ∧ i ≤ ds.length ∧ LoopS1 K m H0 L s0 σ' H', ⟨ds.length, by simp, Nat.zero_le _, ⟨z0, by rw [← eqs, set_same h0]⟩, e⟩, ?_⟩
  rintro i n σ' H' ⟨rfl, hi, ⟨y0, rfl⟩, ev⟩
  have src : ∀ x ∈ L0, IsV K H' x.1 x.2 := fun x hx => ev.all x (sub x hx)
  by_cases hlt : i < ds.length
  · refine .inr ⟨w.goes i H' hlt src, LoopS1 K m H0 L s0, fun σ' H2 h2 => ⟨ds.length - (i + 1), by omega, rfl, by omega, h2⟩, fun x H2 y => ?_⟩
    have hd := List.getElem?_eq_getElem hlt
    obtain ⟨sm, ix⟩ := w.yields i H' x H2 _ hd src y
    exact hs _ x y0 H2 (List.getElem_mem _) ((ev.step sm).add ix)
  · obtain rfl : i = ds.length := by omega
    exact .inl ⟨w.stops H' src, hd y0 H' ev⟩
structure LoopS2 (K : Frag) (m : Md) (H0 : Hp) (L : List (V × Dt)) (s : Option V → Option V → L2.St) (σ' : L2.St) (H : Hp) : Prop where
  s : ∃ y0 y1, σ' = s y0 y1
  e : Env K m H0 H L
theorem loopS2 {K : Frag} {m m' : Md} {H0 H : Hp} {L L' : List (V × Dt)} {s : Option V → Option V → L2.St} {σ' : L2.St} (h : Env K m' H0 H L') (le : Md.Le m' m) (sub : ∀ x ∈ L, x ∈ L') (s' : ∃ y0 y1, σ' = s y0 y1) : LoopS2 K m H0 L s σ' H := ⟨s', (h.sub' sub).le le⟩
theorem forS2 {K : Frag} {m : Md} {H0 H : Hp} {L : List (V × Dt)} {J : It} {ds : List Dt} {L0 : List (V × Dt)} {g : TG} {tb : TS} {σ : L2.St} {D : Ends} {z0 z1 : Option V} {s0 : Option V → L2.St} {s1 : Option V → Option V → L2.St} (i0 i1 : Nat) [c0 : ∀ y0 : Option V, SetT σ i0 y0 (s0 y0)] [c1 : ∀ y0 y1 : Option V, SetT (s0 y0) i1 y1 (s1 y0 y1)] (e : Env K m H0 H L) (w : WDL K J ds L0) (sub : ∀ x ∈ L0, x ∈ L) (h0 : σ[i0]? = some z0) (h1 : σ[i1]? = some z1)
    (hs : ∀ d x y0 y1 Hh, d ∈ ds → Env K m H0 Hh ((x, d) :: L) → g x (s1 y0 y1) Hh fun σ2 H2 => tb { D with nx := LoopS2 K m H0 L s1, ct := LoopS2 K m H0 L s1, bk := D.nx } σ2 H2)
    (hd : ∀ y0 y1 Hh, Env K m H0 Hh L → D.nx (s1 y0 y1) Hh) : ForD J g tb D σ H := by
  have eqs : ∀ y0 y1, ((σ.set i0 y0).set i1 y1) = (s1 y0 y1) := fun y0 y1 => by rw [(c0 y0).eq, (c1 y0 y1).eq]
  refine ⟨fun i n σ' H' => n = ds.length - i ∧ i ≤ ds.length ∧ LoopS2 K m H0 L s1 σ' H', ⟨ds.length, by simp, Nat.zero_le _, ⟨z0, z1, by rw [← eqs, set_same h0, set_same h1]⟩, e⟩, ?_⟩
  rintro i n σ' H' ⟨rfl, hi, ⟨y0, y1, rfl⟩, ev⟩
  have src : ∀ x ∈ L0, IsV K H' x.1 x.2 := fun x hx => ev.all x (sub x hx)
  by_cases hlt : i < ds.length
  · refine .inr ⟨w.goes i H' hlt src, LoopS2 K m H0 L s1, fun σ' H2 h2 => ⟨ds.length - (i + 1), by omega, rfl, by omega, h2⟩, fun x H2 y => ?_⟩
    have hd := List.getElem?_eq_getElem hlt
    obtain ⟨sm, ix⟩ := w.yields i H' x H2 _ hd src y
    exact hs _ x y0 y1 H2 (List.getElem_mem _) ((ev.step sm).add ix)
  · obtain rfl : i = ds.length := by omega
    exact .inl ⟨w.stops H' src, hd y0 y1 H' ev⟩
structure LoopS3 (K : Frag) (m : Md) (H0 : Hp) (L : List (V × Dt)) (s : Option V → Option V → Option V → L2.St) (σ' : L2.St) (H : Hp) : Prop where
  s : ∃ y0 y1 y2, σ' = s y0 y1 y2
  e : Env K m H0 H L
theorem loopS3 {K : Frag} {m m' : Md} {H0 H : Hp} {L L' : List (V × Dt)} {s : Option V → Option V → Option V → L2.St} {σ' : L2.St} (h : Env K m' H0 H L') (le : Md.Le m' m) (sub : ∀ x ∈ L, x ∈ L') (s' : ∃ y0 y1 y2, σ' = s y0 y1 y2) : LoopS3 K m H0 L s σ' H := ⟨s', (h.sub' sub).le le⟩
theorem forS3 {K : Frag} {m : Md} {H0 H : Hp} {L : List (V × Dt)} {J : It} {ds : List Dt} {L0 : List (V × Dt)} {g : TG} {tb : TS} {σ : L2.St} {D : Ends} {z0 z1 z2 : Option V} {s0 : Option V → L2.St} {s1 : Option V → Option V → L2.St} {s2 : Option V → Option V → Option V → L2.St} (i0 i1 i2 : Nat) [c0 : ∀ y0 : Option V, SetT σ i0 y0 (s0 y0)] [c1 : ∀ y0 y1 : Option V, SetT (s0 y0) i1 y1 (s1 y0 y1)] [c2 : ∀ y0 y1 y2 : Option V, SetT (s1 y0 y1) i2 y2 (s2 y0 y1 y2)] (e : Env K m H0 H L) (w : WDL K J ds L0) (sub : ∀ x ∈ L0, x ∈ L) (h0 : σ[i0]? = some z0) (h1 : σ[i1]? = some z1) (h2 : σ[i2]? = some z2)
    (hs : ∀ d x y0 y1 y2 Hh, d ∈ ds → Env K m H0 Hh ((x, d) :: L) → g x (s2 y0 y1 y2) Hh fun σ2 H2 => tb { D with nx := LoopS3 K m H0 L s2, ct := LoopS3 K m H0 L s2, bk := D.nx } σ2 H2)
    (hd : ∀ y0 y1 y2 Hh, Env K m H0 Hh L → D.nx (s2 y0 y1 y2) Hh) : ForD J g tb D σ H := by
  have eqs : ∀ y0 y1 y2, (((σ.set i0 y0).set i1 y1).set i2 y2) = (s2 y0 y1 y2) := fun y0 y1 y2 => by rw [(c0 y0).eq, (c1 y0 y1).eq, (c2 y0 y1 y2).eq]
  refine ⟨fun i n σ' H' => n = ds.length - i ∧ i ≤ ds.length ∧ LoopS3 K m H0 L s2 σ' H', ⟨ds.length, by simp, Nat.zero_le _, ⟨z0, z1, z2, by rw [← eqs, set_same h0, set_same h1, set_same h2]⟩, e⟩, ?_⟩
  rintro i n σ' H' ⟨rfl, hi, ⟨y0, y1, y2, rfl⟩, ev⟩
  have src : ∀ x ∈ L0, IsV K H' x.1 x.2 := fun x hx => ev.all x (sub x hx)
  by_cases hlt : i < ds.length
  · refine .inr ⟨w.goes i H' hlt src, LoopS3 K m H0 L s2, fun σ' H2 h2 => ⟨ds.length - (i + 1), by omega, rfl, by omega, h2⟩, fun x H2 y => ?_⟩
    have hd := List.getElem?_eq_getElem hlt
    obtain ⟨sm, ix⟩ := w.yields i H' x H2 _ hd src y
    exact hs _ x y0 y1 y2 H2 (List.getElem_mem _) ((ev.step sm).add ix)
  · obtain rfl : i = ds.length := by omega
    exact .inl ⟨w.stops H' src, hd y0 y1 y2 H' ev⟩
structure LoopS4 (K : Frag) (m : Md) (H0 : Hp) (L : List (V × Dt)) (s : Option V → Option V → Option V → Option V → L2.St) (σ' : L2.St) (H : Hp) : Prop where
  s : ∃ y0 y1 y2 y3, σ' = s y0 y1 y2 y3
  e : Env K m H0 H L
theorem loopS4 {K : Frag} {m m' : Md} {H0 H : Hp} {L L' : List (V × Dt)} {s : Option V → Option V → Option V → Option V → L2.St} {σ' : L2.St} (h : Env K m' H0 H L') (le : Md.Le m' m) (sub : ∀ x ∈ L, x ∈ L') (s' : ∃ y0 y1 y2 y3, σ' = s y0 y1 y2 y3) : LoopS4 K m H0 L s σ' H := ⟨s', (h.sub' sub).le le⟩
theorem forS4 {K : Frag} {m : Md} {H0 H : Hp} {L : List (V × Dt)} {J : It} {ds : List Dt} {L0 : List (V × Dt)} {g : TG} {tb : TS} {σ : L2.St} {D : Ends} {z0 z1 z2 z3 : Option V} {s0 : Option V → L2.St} {s1 : Option V → Option V → L2.St} {s2 : Option V → Option V → Option V → L2.St} {s3 : Option V → Option V → Option V → Option V → L2.St} (i0 i1 i2 i3 : Nat) [c0 : ∀ y0 : Option V, SetT σ i0 y0 (s0 y0)] [c1 : ∀ y0 y1 : Option V, SetT (s0 y0) i1 y1 (s1 y0 y1)] [c2 : ∀ y0 y1 y2 : Option V, SetT (s1 y0 y1) i2 y2 (s2 y0 y1 y2)] [c3 : ∀ y0 y1 y2 y3 : Option V, SetT (s2 y0 y1 y2) i3 y3 (s3 y0 y1 y2 y3)] (e : Env K m H0 H L) (w : WDL K J ds L0) (sub : ∀ x ∈ L0, x ∈ L) (h0 : σ[i0]? = some z0) (h1 : σ[i1]? = some z1) (h2 : σ[i2]? = some z2) (h3 : σ[i3]? = some z3)
    (hs : ∀ d x y0 y1 y2 y3 Hh, d ∈ ds → Env K m H0 Hh ((x, d) :: L) → g x (s3 y0 y1 y2 y3) Hh fun σ2 H2 => tb { D with nx := LoopS4 K m H0 L s3, ct := LoopS4 K m H0 L s3, bk := D.nx } σ2 H2)
    (hd : ∀ y0 y1 y2 y3 Hh, Env K m H0 Hh L → D.nx (s3 y0 y1 y2 y3) Hh) : ForD J g tb D σ H := by
  have eqs : ∀ y0 y1 y2 y3, ((((σ.set i0 y0).set i1 y1).set i2 y2).set i3 y3) = (s3 y0 y1 y2 y3) := fun y0 y1 y2 y3 => by rw [(c0 y0).eq, (c1 y0 y1).eq, (c2 y0 y1 y2).eq, (c3 y0 y1 y2 y3).eq]
  refine ⟨fun i n σ' H' => n = ds.length - i ∧ i ≤ ds.length ∧ LoopS4 K m H0 L s3 σ' H', ⟨ds.length, by simp, Nat.zero_le _, ⟨z0, z1, z2, z3, by rw [← eqs, set_same h0, set_same h1, set_same h2, set_same h3]⟩, e⟩, ?_⟩
  rintro i n σ' H' ⟨rfl, hi, ⟨y0, y1, y2, y3, rfl⟩, ev⟩
  have src : ∀ x ∈ L0, IsV K H' x.1 x.2 := fun x hx => ev.all x (sub x hx)
  by_cases hlt : i < ds.length
  · refine .inr ⟨w.goes i H' hlt src, LoopS4 K m H0 L s3, fun σ' H2 h2 => ⟨ds.length - (i + 1), by omega, rfl, by omega, h2⟩, fun x H2 y => ?_⟩
    have hd := List.getElem?_eq_getElem hlt
    obtain ⟨sm, ix⟩ := w.yields i H' x H2 _ hd src y
    exact hs _ x y0 y1 y2 y3 H2 (List.getElem_mem _) ((ev.step sm).add ix)
  · obtain rfl : i = ds.length := by omega
    exact .inl ⟨w.stops H' src, hd y0 y1 y2 y3 H' ev⟩
structure LoopS5 (K : Frag) (m : Md) (H0 : Hp) (L : List (V × Dt)) (s : Option V → Option V → Option V → Option V → Option V → L2.St) (σ' : L2.St) (H : Hp) : Prop where
  s : ∃ y0 y1 y2 y3 y4, σ' = s y0 y1 y2 y3 y4
  e : Env K m H0 H L
theorem loopS5 {K : Frag} {m m' : Md} {H0 H : Hp} {L L' : List (V × Dt)} {s : Option V → Option V → Option V → Option V → Option V → L2.St} {σ' : L2.St} (h : Env K m' H0 H L') (le : Md.Le m' m) (sub : ∀ x ∈ L, x ∈ L') (s' : ∃ y0 y1 y2 y3 y4, σ' = s y0 y1 y2 y3 y4) : LoopS5 K m H0 L s σ' H := ⟨s', (h.sub' sub).le le⟩
theorem forS5 {K : Frag} {m : Md} {H0 H : Hp} {L : List (V × Dt)} {J : It} {ds : List Dt} {L0 : List (V × Dt)} {g : TG} {tb : TS} {σ : L2.St} {D : Ends} {z0 z1 z2 z3 z4 : Option V} {s0 : Option V → L2.St} {s1 : Option V → Option V → L2.St} {s2 : Option V → Option V → Option V → L2.St} {s3 : Option V → Option V → Option V → Option V → L2.St} {s4 : Option V → Option V → Option V → Option V → Option V → L2.St} (i0 i1 i2 i3 i4 : Nat) [c0 : ∀ y0 : Option V, SetT σ i0 y0 (s0 y0)] [c1 : ∀ y0 y1 : Option V, SetT (s0 y0) i1 y1 (s1 y0 y1)] [c2 : ∀ y0 y1 y2 : Option V, SetT (s1 y0 y1) i2 y2 (s2 y0 y1 y2)] [c3 : ∀ y0 y1 y2 y3 : Option V, SetT (s2 y0 y1 y2) i3 y3 (s3 y0 y1 y2 y3)] [c4 : ∀ y0 y1 y2 y3 y4 : Option V, SetT (s3 y0 y1 y2 y3) i4 y4 (s4 y0 y1 y2 y3 y4)] (e : Env K m H0 H L) (w : WDL K J ds L0) (sub : ∀ x ∈ L0, x ∈ L) (h0 : σ[i0]? = some z0) (h1 : σ[i1]? = some z1) (h2 : σ[i2]? = some z2) (h3 : σ[i3]? = some z3) (h4 : σ[i4]? = some z4)
    (hs : ∀ d x y0 y1 y2 y3 y4 Hh, d ∈ ds → Env K m H0 Hh ((x, d) :: L) → g x (s4 y0 y1 y2 y3 y4) Hh fun σ2 H2 => tb { D with nx := LoopS5 K m H0 L s4, ct := LoopS5 K m H0 L s4, bk := D.nx } σ2 H2)
    (hd : ∀ y0 y1 y2 y3 y4 Hh, Env K m H0 Hh L → D.nx (s4 y0 y1 y2 y3 y4) Hh) : ForD J g tb D σ H := by
  have eqs : ∀ y0 y1 y2 y3 y4, (((((σ.set i0 y0).set i1 y1).set i2 y2).set i3 y3).set i4 y4) = (s4 y0 y1 y2 y3 y4) := fun y0 y1 y2 y3 y4 => by rw [(c0 y0).eq, (c1 y0 y1).eq, (c2 y0 y1 y2).eq, (c3 y0 y1 y2 y3).eq, (c4 y0 y1 y2 y3 y4).eq]
  refine ⟨fun i n σ' H' => n = ds.length - i ∧ i ≤ ds.length ∧ LoopS5 K m H0 L s4 σ' H', ⟨ds.length, by simp, Nat.zero_le _, ⟨z0, z1, z2, z3, z4, by rw [← eqs, set_same h0, set_same h1, set_same h2, set_same h3, set_same h4]⟩, e⟩, ?_⟩
  rintro i n σ' H' ⟨rfl, hi, ⟨y0, y1, y2, y3, y4, rfl⟩, ev⟩
  have src : ∀ x ∈ L0, IsV K H' x.1 x.2 := fun x hx => ev.all x (sub x hx)
  by_cases hlt : i < ds.length
  · refine .inr ⟨w.goes i H' hlt src, LoopS5 K m H0 L s4, fun σ' H2 h2 => ⟨ds.length - (i + 1), by omega, rfl, by omega, h2⟩, fun x H2 y => ?_⟩
    have hd := List.getElem?_eq_getElem hlt
    obtain ⟨sm, ix⟩ := w.yields i H' x H2 _ hd src y
    exact hs _ x y0 y1 y2 y3 y4 H2 (List.getElem_mem _) ((ev.step sm).add ix)
  · obtain rfl : i = ds.length := by omega
    exact .inl ⟨w.stops H' src, hd y0 y1 y2 y3 y4 H' ev⟩
structure LoopS6 (K : Frag) (m : Md) (H0 : Hp) (L : List (V × Dt)) (s : Option V → Option V → Option V → Option V → Option V → Option V → L2.St) (σ' : L2.St) (H : Hp) : Prop where
  s : ∃ y0 y1 y2 y3 y4 y5, σ' = s y0 y1 y2 y3 y4 y5
  e : Env K m H0 H L
theorem loopS6 {K : Frag} {m m' : Md} {H0 H : Hp} {L L' : List (V × Dt)} {s : Option V → Option V → Option V → Option V → Option V → Option V → L2.St} {σ' : L2.St} (h : Env K m' H0 H L') (le : Md.Le m' m) (sub : ∀ x ∈ L, x ∈ L') (s' : ∃ y0 y1 y2 y3 y4 y5, σ' = s y0 y1 y2 y3 y4 y5) : LoopS6 K m H0 L s σ' H := ⟨s', (h.sub' sub).le le⟩
theorem forS6 {K : Frag} {m : Md} {H0 H : Hp} {L : List (V × Dt)} {J : It} {ds : List Dt} {L0 : List (V × Dt)} {g : TG} {tb : TS} {σ : L2.St} {D : Ends} {z0 z1 z2 z3 z4 z5 : Option V} {s0 : Option V → L2.St} {s1 : Option V → Option V → L2.St} {s2 : Option V → Option V → Option V → L2.St} {s3 : Option V → Option V → Option V → Option V → L2.St} {s4 : Option V → Option V → Option V → Option V → Option V → L2.St} {s5 : Option V → Option V → Option V → Option V → Option V → Option V → L2.St} (i0 i1 i2 i3 i4 i5 : Nat) [c0 : ∀ y0 : Option V, SetT σ i0 y0 (s0 y0)] [c1 : ∀ y0 y1 : Option V, SetT (s0 y0) i1 y1 (s1 y0 y1)] [c2 : ∀ y0 y1 y2 : Option V, SetT (s1 y0 y1) i2 y2 (s2 y0 y1 y2)] [c3 : ∀ y0 y1 y2 y3 : Option V, SetT (s2 y0 y1 y2) i3 y3 (s3 y0 y1 y2 y3)] [c4 : ∀ y0 y1 y2 y3 y4 : Option V, SetT (s3 y0 y1 y2 y3) i4 y4 (s4 y0 y1 y2 y3 y4)] [c5 : ∀ y0 y1 y2 y3 y4 y5 : Option V, SetT (s4 y0 y1 y2 y3 y4) i5 y5 (s5 y0 y1 y2 y3 y4 y5)] (e : Env K m H0 H L) (w : WDL K J ds L0) (sub : ∀ x ∈ L0, x ∈ L) (h0 : σ[i0]? = some z0) (h1 : σ[i1]? = some z1) (h2 : σ[i2]? = some z2) (h3 : σ[i3]? = some z3) (h4 : σ[i4]? = some z4) (h5 : σ[i5]? = some z5)
    (hs : ∀ d x y0 y1 y2 y3 y4 y5 Hh, d ∈ ds → Env K m H0 Hh ((x, d) :: L) → g x (s5 y0 y1 y2 y3 y4 y5) Hh fun σ2 H2 => tb { D with nx := LoopS6 K m H0 L s5, ct := LoopS6 K m H0 L s5, bk := D.nx } σ2 H2)
    (hd : ∀ y0 y1 y2 y3 y4 y5 Hh, Env K m H0 Hh L → D.nx (s5 y0 y1 y2 y3 y4 y5) Hh) : ForD J g tb D σ H := by
  have eqs : ∀ y0 y1 y2 y3 y4 y5, ((((((σ.set i0 y0).set i1 y1).set i2 y2).set i3 y3).set i4 y4).set i5 y5) = (s5 y0 y1 y2 y3 y4 y5) := fun y0 y1 y2 y3 y4 y5 => by rw [(c0 y0).eq, (c1 y0 y1).eq, (c2 y0 y1 y2).eq, (c3 y0 y1 y2 y3).eq, (c4 y0 y1 y2 y3 y4).eq, (c5 y0 y1 y2 y3 y4 y5).eq]
  refine ⟨fun i n σ' H' => n = ds.length - i ∧ i ≤ ds.length ∧ LoopS6 K m H0 L s5 σ' H', ⟨ds.length, by simp, Nat.zero_le _, ⟨z0, z1, z2, z3, z4, z5, by rw [← eqs, set_same h0, set_same h1, set_same h2, set_same h3, set_same h4, set_same h5]⟩, e⟩, ?_⟩
  rintro i n σ' H' ⟨rfl, hi, ⟨y0, y1, y2, y3, y4, y5, rfl⟩, ev⟩
  have src : ∀ x ∈ L0, IsV K H' x.1 x.2 := fun x hx => ev.all x (sub x hx)
  by_cases hlt : i < ds.length
  · refine .inr ⟨w.goes i H' hlt src, LoopS6 K m H0 L s5, fun σ' H2 h2 => ⟨ds.length - (i + 1), by omega, rfl, by omega, h2⟩, fun x H2 y => ?_⟩
    have hd := List.getElem?_eq_getElem hlt
    obtain ⟨sm, ix⟩ := w.yields i H' x H2 _ hd src y
    exact hs _ x y0 y1 y2 y3 y4 y5 H2 (List.getElem_mem _) ((ev.step sm).add ix)
  · obtain rfl : i = ds.length := by omega
    exact .inl ⟨w.stops H' src, hd y0 y1 y2 y3 y4 y5 H' ev⟩
/-! ### len -/
structure LenS (K : Frag) (xs : List V) (H : Hp) (Q : VK) : Prop where
  un : ∃ p ys, xs = [.ref p] ∧ (SqL K H p ys ∨ SqT K H p ys) ∧ Q (.int ys.length) H
theorem call_len {X : Cx} : CallR X (.builtin "len") (LenS X.K) := fun pins s σ H xs us Q I r h => call_len_seq pins s σ H xs us Q I r h.un
theorem call_lenK {X : Cx} (K : Frag) (hK : X.K = K) : CallR X (.builtin "len") (LenS K) := by
  subst hK
  exact call_len
/-! ### parts of lists and tuples -/
structure SlL (K : Frag) (x : V) (lo hi : Option Int) (H : Hp) (Q : VK) : Prop where
  un : L2.rSlL K x lo hi H Q
theorem sl_listS {X : Cx} : SlR X (SlL X.K) := fun pins s σ H x v vl vu lo hi sl Q I rx hs pl pu h => L2.sl_list pins s σ H x v vl vu lo hi sl Q I rx hs pl pu h.un
theorem sl_listSK {X : Cx} (K : Frag) (hK : X.K = K) : SlR X (SlL K) := by
  subst hK
  exact sl_listS
def cutD (ds : List Dt) (lo hi : Option Int) : List Dt := (ds.drop (HT.sIx ds.length 0 lo)).take (HT.sIx ds.length ds.length hi - HT.sIx ds.length 0 lo)
/-! ### all, any -/
structure AllS (K : Frag) (xs : List V) (H : Hp) (Q : VK) : Prop where
  un : L2.rAll K xs H Q
structure AnyS (K : Frag) (xs : List V) (H : Hp) (Q : VK) : Prop where
  un : L2.rAny K xs H Q
theorem cr_allS {X : Cx} (hc : X.calm = true) : CallR X (.builtin "all") (AllS X.K) := fun pins s σ H xs us Q I r h => L2.cr_all hc pins s σ H xs us Q I r h.un
theorem cr_anyS {X : Cx} (hc : X.calm = true) : CallR X (.builtin "any") (AnyS X.K) := fun pins s σ H xs us Q I r h => L2.cr_any hc pins s σ H xs us Q I r h.un
def Dt.bls : List Dt → Option (List Bool)
  | [] => some []
  | .bl b :: l => (Dt.bls l).map (b :: ·)
  | _ :: _ => none
/-! ### tuple(..) -/
structure TupS (K : Frag) (xs : List V) (H : Hp) (Q : VK) : Prop where
  un : ∃ p ys, xs = [.ref p] ∧ ((SqL K H p ys ∧ ∀ l, H l = none → Q (.ref l) (upd H l (.tup ys))) ∨ (SqT K H p ys ∧ Q (.ref p) H))
theorem call_tupS {X : Cx} : CallR X (.type "tuple") (TupS X.K) := fun pins s σ H xs us Q I r h => call_tuple_of pins s σ H xs us Q I r h.un
/-! ### sum of ints -/
structure SumS (K : Frag) (xs : List V) (H : Hp) (Q : VK) : Prop where
  un : L2.rSum K xs H Q
theorem cr_sumS {X : Cx} (hc : X.calm = true) : CallR X (.builtin "sum") (SumS X.K) := fun pins s σ H xs us Q I r h => L2.cr_sum hc pins s σ H xs us Q I r h.un
def Dt.ints : List Dt → Option (List Int)
  | [] => some []
  | .int b :: l => (Dt.ints l).map (b :: ·)
  | _ :: _ => none
section
variable {K : Frag} {m : Md} {H0 H : Hp} {L : List (V × Dt)} {x : V} {p : Addr} {ds : List Dt} {Q : VK} {lo hi : Option Int}
theorem lenL (i : IsV K H x (.lst ds)) (q : Q (.int (ds.length : Nat)) H) : LenS K [x] H Q := by
  obtain ⟨p, vs, rfl, hp, r⟩ := i.lstE
  exact ⟨p, vs, rfl, .inl (SqL.of hp), by rw [r.length]; exact q⟩
theorem lenT (i : IsV K H x (.tup ds)) (q : Q (.int (ds.length : Nat)) H) : LenS K [x] H Q := by
  obtain ⟨p, vs, rfl, hp, r⟩ := i.tupL
  exact ⟨p, vs, rfl, .inr (SqT.of hp), by rw [r.length]; exact q⟩
theorem IsVs.drop {vs : List V} (n : Nat) (i : IsVs K H vs ds) : IsVs K H (vs.drop n) (ds.drop n) := by
  induction n generalizing vs ds with
  | zero => exact i
  | succ n ih =>
    cases i with
    | nil => exact .nil
    | cons a b => exact ih b
theorem IsVs.take {vs : List V} (n : Nat) (i : IsVs K H vs ds) : IsVs K H (vs.take n) (ds.take n) := by
  induction n generalizing vs ds with
  | zero => exact .nil
  | succ n ih =>
    cases i with
    | nil => exact .nil
    | cons a b => exact .cons a (ih b)
theorem IsVs.cut {vs : List V} (i : IsVs K H vs ds) : IsVs K H (cutV vs lo hi) (cutD ds lo hi) := by
  unfold cutV cutD
  rw [i.length]
  exact (i.drop _).take _
theorem slLD (h : Env K m H0 H L) (i : IsV K H x (.lst ds)) (k : ∀ p H', Env K m H0 H' ((.ref p, .lst (cutD ds lo hi)) :: L) → Q (.ref p) H') : SlL K x lo hi H Q := by
  obtain ⟨p, vs, rfl, hp, r⟩ := i.lstE
  exact ⟨⟨p, vs, rfl, SqL.of hp, fun q n => k q _ ((h.step (Same.new' n)).add (.lst upd_same (r.cut.same (Same.new' n))))⟩⟩
theorem slTD (h : Env K m H0 H L) (i : IsV K H x (.tup ds)) (c : ¬ (HT.sIx ds.length 0 lo = 0 ∧ HT.sIx ds.length ds.length hi = ds.length)) (k : ∀ p H', Env K m H0 H' ((.ref p, .tup (cutD ds lo hi)) :: L) → Q (.ref p) H') : rSlT K x lo hi H Q := by
  obtain ⟨p, vs, rfl, hp, r⟩ := i.tupL
  exact ⟨⟨p, vs, rfl, SqT.of hp, by rw [r.length]; exact c, fun q n => k q _ ((h.step (Same.new' n)).add (.tup upd_same (r.cut.same (Same.new' n))))⟩⟩
theorem blsE {bs : List Bool} : ∀ {ds : List Dt} {vs : List V}, Dt.bls ds = some bs → IsVs K H vs ds → vs = bs.map V.bl := by
  induction bs with
  | nil =>
    intro ds vs e i
    match ds, e, i with
    | [], _, i => cases i; rfl
    | .bl b :: l, e, _ => simp [Dt.bls] at e
  | cons b bs ih =>
    intro ds vs e i
    match ds, e, i with
    | .bl c :: l, e, .cons a r =>
      simp [Dt.bls] at e
      obtain ⟨e1, rfl⟩ := e
      rw [ih e1 r, a.blE]
      rfl
theorem intsE {bs : List Int} : ∀ {ds : List Dt} {vs : List V}, Dt.ints ds = some bs → IsVs K H vs ds → vs = bs.map V.int := by
  induction bs with
  | nil =>
    intro ds vs e i
    match ds, e, i with
    | [], _, i => cases i; rfl
    | .int b :: l, e, _ => simp [Dt.ints] at e
  | cons b bs ih =>
    intro ds vs e i
    match ds, e, i with
    | .int c :: l, e, .cons a r =>
      simp [Dt.ints] at e
      obtain ⟨e1, rfl⟩ := e
      rw [ih e1 r, a.intE]
      rfl
theorem allD {bs : List Bool} (i : IsV K H x (.lst ds)) (e : Dt.bls ds = some bs) (q : Q (.bl (bs.all id)) H) : AllS K [x] H Q := by
  obtain ⟨p, vs, rfl, hp, r⟩ := i.lstE
  rw [blsE e r] at hp
  exact ⟨⟨p, bs, rfl, SqL.of hp, q⟩⟩
theorem anyD {bs : List Bool} (i : IsV K H x (.lst ds)) (e : Dt.bls ds = some bs) (q : Q (.bl (bs.any id)) H) : AnyS K [x] H Q := by
  obtain ⟨p, vs, rfl, hp, r⟩ := i.lstE
  rw [blsE e r] at hp
  exact ⟨⟨p, bs, rfl, SqL.of hp, q⟩⟩
theorem sumD {bs : List Int} (i : IsV K H x (.lst ds)) (e : Dt.ints ds = some bs) (q : Q (.int bs.sum) H) : SumS K [x] H Q := by
  obtain ⟨p, vs, rfl, hp, r⟩ := i.lstE
  rw [intsE e r] at hp
  exact ⟨⟨p, bs, rfl, SqL.of hp, q⟩⟩
theorem tupOfL (h : Env K m H0 H L) (i : IsV K H x (.lst ds)) (k : ∀ p H', Env K m H0 H' ((.ref p, .tup ds) :: L) → Q (.ref p) H') : TupS K [x] H Q := by
  obtain ⟨p, vs, rfl, hp, r⟩ := i.lstE
  exact ⟨p, vs, rfl, .inl ⟨SqL.of hp, fun q n => k q _ ((h.step (Same.new' n)).add (.tup upd_same (r.same (Same.new' n))))⟩⟩
theorem tupOfT (i : IsV K H x (.tup ds)) (q : Q x H) : TupS K [x] H Q := by
  obtain ⟨p, vs, rfl, hp, r⟩ := i.tupL
  exact ⟨p, vs, rfl, .inr ⟨SqT.of hp, q⟩⟩
end
theorem nfT {K : Frag} {C : Addr} {ts : List Ty0} {t : Ty0} (h : ∀ t ∈ ts, PySem.W.notFirst K C (tv K t) = true) (o : decide (t ∈ ts) = true) : PySem.W.notFirst K C (tv K t) = true := h _ (of_decide_eq_true o)
/-! ### sizes of the numbers that stand in the laws -/
instance : Bi (80 : Int) 7 := ⟨by decide⟩
instance : Bi (84 : Int) 7 := ⟨by decide⟩
instance : Bi (90 : Int) 7 := ⟨by decide⟩
instance : Bi (97 : Int) 7 := ⟨by decide⟩
instance : Bi (99 : Int) 7 := ⟨by decide⟩
instance : Bi (121 : Int) 7 := ⟨by decide⟩
instance : Bi (199 : Int) 8 := ⟨by decide⟩
instance : Bi (200 : Int) 8 := ⟨by decide⟩
instance : Bi (201 : Int) 8 := ⟨by decide⟩
instance : Bi (250 : Int) 8 := ⟨by decide⟩
instance : Bi (300 : Int) 9 := ⟨by decide⟩
instance : Bi (400 : Int) 9 := ⟨by decide⟩
instance : Bi (500 : Int) 9 := ⟨by decide⟩
instance : Bi (600 : Int) 10 := ⟨by decide⟩
instance : Bi (900 : Int) 10 := ⟨by decide⟩
instance : Bi (999 : Int) 10 := ⟨by decide⟩
instance : Bi (1039 : Int) 11 := ⟨by decide⟩
instance : Bi (1427 : Int) 11 := ⟨by decide⟩
instance : Bi (1429 : Int) 11 := ⟨by decide⟩
instance : Bi (1433 : Int) 11 := ⟨by decide⟩
instance : Bi (1439 : Int) 11 := ⟨by decide⟩
instance : Bi (1453 : Int) 11 := ⟨by decide⟩
instance : Bi (1459 : Int) 11 := ⟨by decide⟩
instance : Bi (1777 : Int) 11 := ⟨by decide⟩
instance : Bi (1823 : Int) 11 := ⟨by decide⟩
instance : Bi (1861 : Int) 11 := ⟨by decide⟩
instance : Bi (1867 : Int) 11 := ⟨by decide⟩
instance : Bi (1871 : Int) 11 := ⟨by decide⟩
instance : Bi (1879 : Int) 11 := ⟨by decide⟩
instance : Bi (1901 : Int) 11 := ⟨by decide⟩
instance : Bi (1907 : Int) 11 := ⟨by decide⟩
instance : Bi (1999 : Int) 11 := ⟨by decide⟩
instance : Bi (2011 : Int) 11 := ⟨by decide⟩
instance : Bi (2017 : Int) 11 := ⟨by decide⟩
instance : Bi (2027 : Int) 11 := ⟨by decide⟩
instance : Bi (2063 : Int) 12 := ⟨by decide⟩
instance : Bi (2083 : Int) 12 := ⟨by decide⟩
instance : Bi (2213 : Int) 12 := ⟨by decide⟩
instance : Bi (2221 : Int) 12 := ⟨by decide⟩
instance : Bi (2237 : Int) 12 := ⟨by decide⟩
instance : Bi (2243 : Int) 12 := ⟨by decide⟩
instance : Bi (2251 : Int) 12 := ⟨by decide⟩
instance : Bi (2267 : Int) 12 := ⟨by decide⟩
instance : Bi (2281 : Int) 12 := ⟨by decide⟩
instance : Bi (2297 : Int) 12 := ⟨by decide⟩
instance : Bi (2311 : Int) 12 := ⟨by decide⟩
instance : Bi (2333 : Int) 12 := ⟨by decide⟩
instance : Bi (2347 : Int) 12 := ⟨by decide⟩
instance : Bi (2357 : Int) 12 := ⟨by decide⟩
instance : Bi (2719 : Int) 12 := ⟨by decide⟩
instance : Bi (3041 : Int) 12 := ⟨by decide⟩
instance : Bi (3121 : Int) 12 := ⟨by decide⟩
instance : Bi (3137 : Int) 12 := ⟨by decide⟩
instance : Bi (3163 : Int) 12 := ⟨by decide⟩
instance : Bi (3181 : Int) 12 := ⟨by decide⟩
instance : Bi (3203 : Int) 12 := ⟨by decide⟩
instance : Bi (3221 : Int) 12 := ⟨by decide⟩
instance : Bi (3251 : Int) 12 := ⟨by decide⟩
instance : Bi (3253 : Int) 12 := ⟨by decide⟩
instance : Bi (3257 : Int) 12 := ⟨by decide⟩
instance : Bi (3271 : Int) 12 := ⟨by decide⟩
instance : Bi (3299 : Int) 12 := ⟨by decide⟩
instance : Bi (3307 : Int) 12 := ⟨by decide⟩
instance : Bi (3313 : Int) 12 := ⟨by decide⟩
instance : Bi (3323 : Int) 12 := ⟨by decide⟩
instance : Bi (3329 : Int) 12 := ⟨by decide⟩
instance : Bi (3691 : Int) 12 := ⟨by decide⟩
instance : Bi (4409 : Int) 13 := ⟨by decide⟩
instance : Bi (6133 : Int) 13 := ⟨by decide⟩
instance : Bi (6421 : Int) 13 := ⟨by decide⟩
instance : Bi (6427 : Int) 13 := ⟨by decide⟩
instance : Bi (6449 : Int) 13 := ⟨by decide⟩
instance : Bi (6473 : Int) 13 := ⟨by decide⟩
instance : Bi (6491 : Int) 13 := ⟨by decide⟩
instance : Bi (7019 : Int) 13 := ⟨by decide⟩
instance : Bi (8017 : Int) 13 := ⟨by decide⟩
instance : Bi (9103 : Int) 14 := ⟨by decide⟩
instance : Bi (10000 : Int) 14 := ⟨by decide⟩
instance : Bi (10111 : Int) 14 := ⟨by decide⟩
instance : Bi (12007 : Int) 14 := ⟨by decide⟩
instance : Bi (31622 : Int) 15 := ⟨by decide⟩
instance : Bi (31623 : Int) 15 := ⟨by decide⟩
instance : Bi (39119 : Int) 16 := ⟨by decide⟩
instance : Bi (41681 : Int) 16 := ⟨by decide⟩
instance : Bi (42071 : Int) 16 := ⟨by decide⟩
instance : Bi (43627 : Int) 16 := ⟨by decide⟩
instance : Bi (43987 : Int) 16 := ⟨by decide⟩
instance : Bi (44029 : Int) 16 := ⟨by decide⟩
instance : Bi (44041 : Int) 16 := ⟨by decide⟩
instance : Bi (44053 : Int) 16 := ⟨by decide⟩
instance : Bi (44087 : Int) 16 := ⟨by decide⟩
instance : Bi (44101 : Int) 16 := ⟨by decide⟩
instance : Bi (45119 : Int) 16 := ⟨by decide⟩
instance : Bi (45557 : Int) 16 := ⟨by decide⟩
instance : Bi (46153 : Int) 16 := ⟨by decide⟩
instance : Bi (46349 : Int) 16 := ⟨by decide⟩
instance : Bi (47059 : Int) 16 := ⟨by decide⟩
instance : Bi (47143 : Int) 16 := ⟨by decide⟩
instance : Bi (47701 : Int) 16 := ⟨by decide⟩
instance : Bi (48523 : Int) 16 := ⟨by decide⟩
instance : Bi (48611 : Int) 16 := ⟨by decide⟩
instance : Bi (48679 : Int) 16 := ⟨by decide⟩
instance : Bi (50021 : Int) 16 := ⟨by decide⟩
instance : Bi (50333 : Int) 16 := ⟨by decide⟩
instance : Bi (51511 : Int) 16 := ⟨by decide⟩
instance : Bi (51517 : Int) 16 := ⟨by decide⟩
instance : Bi (53731 : Int) 16 := ⟨by decide⟩
instance : Bi (57041 : Int) 16 := ⟨by decide⟩
instance : Bi (57047 : Int) 16 := ⟨by decide⟩
instance : Bi (57059 : Int) 16 := ⟨by decide⟩
instance : Bi (57089 : Int) 16 := ⟨by decide⟩
instance : Bi (57107 : Int) 16 := ⟨by decide⟩
instance : Bi (59921 : Int) 16 := ⟨by decide⟩
instance : Bi (60869 : Int) 16 := ⟨by decide⟩
instance : Bi (61643 : Int) 16 := ⟨by decide⟩
instance : Bi (61813 : Int) 16 := ⟨by decide⟩
instance : Bi (65539 : Int) 17 := ⟨by decide⟩
instance : Bi (67219 : Int) 17 := ⟨by decide⟩
instance : Bi (68147 : Int) 17 := ⟨by decide⟩
instance : Bi (68213 : Int) 17 := ⟨by decide⟩
instance : Bi (69997 : Int) 17 := ⟨by decide⟩
instance : Bi (70159 : Int) 17 := ⟨by decide⟩
instance : Bi (70937 : Int) 17 := ⟨by decide⟩
instance : Bi (72043 : Int) 17 := ⟨by decide⟩
instance : Bi (72169 : Int) 17 := ⟨by decide⟩
instance : Bi (73939 : Int) 17 := ⟨by decide⟩
instance : Bi (73999 : Int) 17 := ⟨by decide⟩
instance : Bi (74189 : Int) 17 := ⟨by decide⟩
instance : Bi (76207 : Int) 17 := ⟨by decide⟩
instance : Bi (78241 : Int) 17 := ⟨by decide⟩
instance : Bi (79063 : Int) 17 := ⟨by decide⟩
instance : Bi (80263 : Int) 17 := ⟨by decide⟩
instance : Bi (81083 : Int) 17 := ⟨by decide⟩
instance : Bi (82279 : Int) 17 := ⟨by decide⟩
instance : Bi (83093 : Int) 17 := ⟨by decide⟩
instance : Bi (84299 : Int) 17 := ⟨by decide⟩
instance : Bi (85103 : Int) 17 := ⟨by decide⟩
instance : Bi (87119 : Int) 17 := ⟨by decide⟩
instance : Bi (89137 : Int) 17 := ⟨by decide⟩
instance : Bi (91151 : Int) 17 := ⟨by decide⟩
instance : Bi (93169 : Int) 17 := ⟨by decide⟩
instance : Bi (95177 : Int) 17 := ⟨by decide⟩
instance : Bi (1000000 : Int) 20 := ⟨by decide⟩
instance : Bi (1000003 : Int) 20 := ⟨by decide⟩
instance : Bi (2000001 : Int) 21 := ⟨by decide⟩
instance : Bi (2147483399 : Int) 31 := ⟨by decide⟩
instance : Bi (2147483549 : Int) 31 := ⟨by decide⟩
instance : Bi (2147483563 : Int) 31 := ⟨by decide⟩
instance : Bi (2147483579 : Int) 31 := ⟨by decide⟩
instance : Bi (2147483587 : Int) 31 := ⟨by decide⟩
instance : Bi (2147483629 : Int) 31 := ⟨by decide⟩
instance : Bi (2147483647 : Int) 31 := ⟨by decide⟩
theorem dipB {K : Frag} {T : List (Addr × Str)} {H0 H : Hp} {L : List (V × Dt)} {a c : Addr} {N : Nat} {Q : VK} {E : XK} {m : Int} (h : Env K (.law T (some (a, c, N))) H0 H L) (hN : N ≤ 999000) (m0 : 0 < m) (m1 : m < 2 ^ 30) (n : noPs (L.map (·.2)) = true)
    (k : ∀ d H', Bi d 30 → 0 ≤ d → d < m → Env K (.law T (some (a, c, N + 1))) H0 H' L → Q (.int d) H') : spDip [.ref a, .int m] H Q E :=
  dipD h hN m0 m1 n fun d H' d0 d1 e => k d H' ⟨by omega⟩ d0 d1 e
/-! ### texts of numbers, texts put together -/
@[irreducible] def jn (a : Str) (ws : List Str) : Str := Txt.join a ws
theorem jn_eq (a : Str) (ws : List Str) : jn a ws = Txt.join a ws := by unfold jn; rfl
theorem joinN {K : PySem.W.Frag} {H : Hp} {y : V} {l : List Dt} {a : Str} {Q : VK} (i : IsV K H y (.lst l)) (s : Dt.isStrs l = true) (b : JoinB a (Dt.strs l)) (q : Q (.str (jn a (Dt.strs l))) H) : JoinR K (.str a) [y] H Q := joinR i s b (by rw [← jn_eq]; exact q)
structure StrI (xs : List V) (H : Hp) (Q : VK) : Prop where
  un : ∃ i : Int, xs = [.int i] ∧ (Int.natAbs i).log2 < 1920 ∧ Q (.str (Str.ofString (toString i))) H
theorem call_strI {X : Cx} : CallR X (.type "str") StrI := fun pins s σ H xs us Q I r h => call_str_int pins s σ H xs us Q I r h.un
theorem strI {i : Int} {H : Hp} {Q : VK} (l : (Int.natAbs i).log2 < 1920) (q : Q (.str (dS i)) H) : StrI [.int i] H Q := ⟨i, rfl, l, q⟩
/-- an error within a comprehension or a loop that began anew -/
theorem finE2 {K : Frag} {H0 H1 H : Hp} {L L1 : List (V × Dt)} {x : Str} {fs : List (Str × Dt)} {E : XK} (q : AftE K H0 x fs E) (h1 : Env K .fn H0 H1 L1) (h : Env K .fn H1 H L) : AftE K H x fs E := finE' (finE' q h1) h
end Sp
end
section
set_option Elab.async false
set_option linter.all false
set_option exponentiation.threshold 5000
set_option maxRecDepth 100000
set_option maxHeartbeats 4000000
namespace Sp
open PySem PySem.Spec PyProof.Rows L2 TL
open PySem.W (Frag)
theorem inTI {K : PySem.W.Frag} {H : Hp} {y : V} {a b n : Int} {Q : VK} (h : IsV K H y (.tup [.int a, .int b])) (q : Q (.bl (inV (.int n) [.int a, .int b])) H) : rIn K false (.int n) y H Q := by
  obtain ⟨p, rfl⟩ := h.tupE
  exact ⟨p, _, rfl, .inr (SqT.of (rawT2 h)), rfl, rfl, q⟩
theorem inV1 (x n : Int) (h : x = n) : decide (V.bl (decide (x.natAbs = 1)) = V.bl (inV (.int n) [.int 1, .int (-1)])) = true := by
  subst h
  have e : inV (.int x) [.int 1, .int (-1)] = decide (x.natAbs = 1) := by
    rw [Bool.eq_iff_iff]
    simp [inV, eqV]
    omega
  rw [e]
  simp
theorem inV2 (x n : Int) (h : x = n) : inV (.int n) [.int 1, .int (-1)] = decide (x.natAbs = 1) := by
  subst h
  rw [Bool.eq_iff_iff]
  simp [inV, eqV]
  omega
/-! ### k06: what is left -/
inductive ROneB : List Dt → Dt → Prop
  | mk {a b c d : Int} {ds : List Dt} (h : Nb a b c d) (p : PrsOk ds) : ROneB [.tup [.int a, .int b, .int c, .int d], .lst ds] (.bl true)
theorem join4 (a b c d : Str) : Txt.join " " [a, b, c, d] = (a ++ (Str.ofString " " ++ b)) ++ (Str.ofString " " ++ (c ++ (Str.ofString " " ++ d))) := by
  apply ext_tl
  simp only [tl_append, join_eq, tl_join]
  first | rfl | simp [joinL]
theorem join_dT (a b c d : Int) : jn " " [dS a, dS b, dS c, dS d] = dT a b c d := by
  rw [jn_eq]
  unfold dT
  exact join4 _ _ _ _
theorem lt60b {k : Int} (h : k.natAbs < 2 ^ 20) : k.natAbs < 10 ^ 60 := Nat.lt_of_lt_of_le h (by decide)
theorem joinB4 {a b c d : Str} (h1 : a.length ≤ 1000) (h2 : b.length ≤ 1000) (h3 : c.length ≤ 1000) (h4 : d.length ≤ 1000) : JoinB " " [a, b, c, d] := by
  refine ⟨?_⟩
  simp only [List.map_cons, List.map_nil, List.sum_cons, List.sum_nil, show (" " : Str).length = 1 from rfl, List.length_cons, List.length_nil]
  omega
theorem len_small {k : Int} (h : k.natAbs < 10 ^ 60) : (dS k).length ≤ 1000 := by
  have := len_dS h
  omega
/-- a text of words is read -/
theorem ws4 {ws : List Str} (hne : ws ≠ []) (h : ∀ w ∈ ws, 32 ∉ tl w) : wsOf (Txt.join " " ws) = ws := ws_join hne h
theorem len_join {ws : List Str} (hl : ws.length ≤ 10) (h : ∀ w ∈ ws, w.length ≤ 1000) : (Txt.join " " ws).length ≤ 90000 := by
  have key : ∀ ws : List Str, (∀ w ∈ ws, w.length ≤ 1000) → (Txt.join " " ws).length ≤ ws.length * 1001 := by
    intro ws
    induction ws with
    | nil => intro _; decide
    | cons w ws ih =>
      intro h
      have ih := ih fun x i => h x (List.mem_cons_of_mem _ i)
      have hw := h w List.mem_cons_self
      cases ws with
      | nil =>
        rw [join1]
        simp only [List.length_cons, List.length_nil]
        omega
      | cons v ws =>
        have e : Txt.join " " (w :: v :: ws) = w ++ (Str.ofString " " ++ Txt.join " " (v :: ws)) := by
          apply ext_tl
          simp only [tl_append, join_eq, tl_join]
          first | rfl | simp [joinL]
        rw [e, lenApp, lenApp, sp1]
        simp only [List.length_cons] at ih ⊢
        omega
  have := key ws h
  have : ws.length * 1001 ≤ 10 * 1001 := Nat.mul_le_mul_right _ hl
  omega
theorem intD {k : Int} (h : k.natAbs < 10 ^ 60) : intW (dS k) = some k := intW_dS h
theorem free4 {a b c d : Int} : ∀ w ∈ [dS a, dS b, dS c, dS d], 32 ∉ tl w := fun w hw => by
  simp only [List.mem_cons, List.not_mem_nil, or_false] at hw
  rcases hw with rfl | rfl | rfl | rfl <;> exact dS_sp _
theorem rd_table {a b c d : Int} (h : Nb a b c d) : RReadBy RTakeB [.str (jn " " [dS a, dS b, dS c, dS d])] (.ok (.table a b c d)) := by
  rw [jn_eq]
  have ha := lt60b h.a
  have hb := lt60b h.b
  have hc := lt60b h.c
  have hd := lt60b h.d
  have e := ws4 (ws := [dS a, dS b, dS c, dS d]) (by simp) free4
  refine .ok (tOk (len_join (by simp) fun w hw => ?_)) ?_
  · simp only [List.mem_cons, List.not_mem_nil, or_false] at hw
    rcases hw with rfl | rfl | rfl | rfl <;> exact len_small (by assumption)
  · rw [e]
    refine RTakeB.ok (k1 := 2) (RTakeS.ok (k := 0) (intD ha) (intD hb) (na_l h.n)) (RTakeS.ok (k := 2) (intD hc) (intD hd) (na_r h.n)) h.n
theorem crs_ss {a b c d : Int} (h : (crs a b c d).natAbs = 1) : crs a b c d * crs a b c d = 1 := by
  rcases (show crs a b c d = 1 ∨ crs a b c d = -1 by omega) with e | e <;> rw [e] <;> decide
theorem and4 {p q r s : Prop} [Decidable p] [Decidable q] [Decidable r] [Decidable s] (h1 : p) (h2 : q) (h3 : r) (h4 : s) : ((decide p && decide q) && (decide r && decide s)) = true := by
  rw [decide_eq_true h1, decide_eq_true h2, decide_eq_true h3, decide_eq_true h4]
  rfl
theorem back_l {a b c d : Int} (h : crs a b c d * crs a b c d = 1) : ((decide (a * (crs a b c d * d) + b * (-crs a b c d * c) = 1) && decide (a * (-crs a b c d * b) + b * (crs a b c d * a) = 0)) && (decide (c * (crs a b c d * d) + d * (-crs a b c d * c) = 0) && decide (c * (-crs a b c d * b) + d * (crs a b c d * a) = 1))) = true := by
  have e : crs a b c d = a * d - c * b := rfl
  generalize crs a b c d = s at *
  exact and4 (by grind) (by grind) (by grind) (by grind)
theorem back_r {a b c d : Int} (h : crs a b c d * crs a b c d = 1) : ((decide (crs a b c d * d * a + -crs a b c d * b * c = 1) && decide (crs a b c d * d * b + -crs a b c d * b * d = 0)) && (decide (-crs a b c d * c * a + crs a b c d * a * c = 0) && decide (-crs a b c d * c * b + crs a b c d * a * d = 1))) = true := by
  have e : crs a b c d = a * d - c * b := rfl
  generalize crs a b c d = s at *
  exact and4 (by grind) (by grind) (by grind) (by grind)
theorem back_b {a b c d : Int} (h : crs a b c d * crs a b c d = 1) :
    ((decide (crs (crs a b c d * d) (-crs a b c d * b) (-crs a b c d * c) (crs a b c d * a) * (crs a b c d * a) = a) && decide (-crs (crs a b c d * d) (-crs a b c d * b) (-crs a b c d * c) (crs a b c d * a) * (-crs a b c d * b) = b)) &&
    (decide (-crs (crs a b c d * d) (-crs a b c d * b) (-crs a b c d * c) (crs a b c d * a) * (-crs a b c d * c) = c) && decide (crs (crs a b c d * d) (-crs a b c d * b) (-crs a b c d * c) (crs a b c d * a) * (crs a b c d * d) = d))) = true := by
  rw [crs_back, h]
  generalize crs a b c d = s at *
  exact and4 (by grind) (by grind) (by grind) (by grind)
theorem there_back {a b c d k j : Int} (h : crs a b c d * crs a b c d = 1) : PyData.eqv (.tuple [.int ((k * a + j * c) * (crs a b c d * d) + (k * b + j * d) * (-crs a b c d * c)), .int ((k * a + j * c) * (-crs a b c d * b) + (k * b + j * d) * (crs a b c d * a))]) (.tuple [.int k, .int j]) = true := by
  have e : crs a b c d = a * d - c * b := rfl
  generalize crs a b c d = s at *
  rw [eqv_int2, decide_eq_true (by grind), decide_eq_true (by grind)]
  rfl
theorem back_there {a b c d k j : Int} (h : crs a b c d * crs a b c d = 1) : PyData.eqv (.tuple [.int ((k * (crs a b c d * d) + j * (-crs a b c d * c)) * a + (k * (-crs a b c d * b) + j * (crs a b c d * a)) * c), .int ((k * (crs a b c d * d) + j * (-crs a b c d * c)) * b + (k * (-crs a b c d * b) + j * (crs a b c d * a)) * d)]) (.tuple [.int k, .int j]) = true := by
  have e : crs a b c d = a * d - c * b := rfl
  generalize crs a b c d = s at *
  rw [eqv_int2, decide_eq_true (by grind), decide_eq_true (by grind)]
  rfl
theorem put_na (t : Int) : (crs 1 (-t) 0 1).natAbs = 1 := by
  unfold crs
  omega
end Sp
end
section
set_option Elab.async false
set_option linter.all false
set_option exponentiation.threshold 5000
set_option maxRecDepth 100000
set_option maxHeartbeats 4000000
namespace Sp
open PySem PySem.Spec PyProof.Rows L2 TL
open PySem.W (Frag)
/-! ### squares and products: their sizes -/
theorem prodT_divInt (D F : Rat) (k j l i : Int) : prodT D F k j l i = Rat.divInt (F.num * (k * l) * (D.den : Nat) - D.num * (k * i + l * j) * (F.den : Nat) + (j * i) * ((F.den : Nat) * (D.den : Nat))) ((F.den : Nat) * (D.den : Nat)) := by
  have hF : ((F.den : Nat) : Rat) ≠ 0 := by have := F.den_nz; exact_mod_cast this
  have hD : ((D.den : Nat) : Rat) ≠ 0 := by have := D.den_nz; exact_mod_cast this
  have eF : F = (F.num : Rat) / (((F.den : Nat) : Int) : Rat) := by rw [← Rat.divInt_eq_div, Rat.num_divInt_den]
  have eD : D = (D.num : Rat) / (((D.den : Nat) : Int) : Rat) := by rw [← Rat.divInt_eq_div, Rat.num_divInt_den]
  rw [Rat.divInt_eq_div]
  unfold prodT
  generalize hfn : F.num = fn at *
  generalize hfd : F.den = fd at *
  generalize hdn : D.num = dn at *
  generalize hdd : D.den = dd at *
  rw [eF, eD]
  push_cast
  grind
instance {D F : Rat} {k j l i : Int} {dn fn a b c e : Nat} [hD : Bq D dn] [hF : Bq F fn] [h1 : Bi k a] [h2 : Bi j b] [h3 : Bi l c] [h4 : Bi i e] : Bq (prodT D F k j l i) (dn + fn + (max (max (a + c) (max (a + e) (c + b) + 1)) (b + e)) + 2) := by
  refine ⟨?_⟩
  rw [prodT_divInt]
  have s1 : (k * l).natAbs < 2 ^ (a + c) := nb_mul h1.lt h3.lt
  have s2 : (k * i + l * j).natAbs < 2 ^ (max (a + e) (c + b) + 1) := nb_add (nb_mul h1.lt h4.lt) (nb_mul h3.lt h2.lt)
  have s3 : (j * i).natAbs < 2 ^ (b + e) := nb_mul h2.lt h4.lt
  have fd : ((F.den : Nat) : Int).natAbs < 2 ^ fn := hF.sz.d
  have dd : ((D.den : Nat) : Int).natAbs < 2 ^ dn := hD.sz.d
  generalize hM : max (max (a + c) (max (a + e) (c + b) + 1)) (b + e) = M
  have m0 : (F.num * (k * l)).natAbs < 2 ^ (fn + (a + c)) := nb_mul hF.sz.1 s1
  have m1 : (F.num * (k * l) * (D.den : Nat)).natAbs < 2 ^ (dn + fn + M) := nb_le (nb_mul m0 dd) (by omega)
  have m0' : (D.num * (k * i + l * j)).natAbs < 2 ^ (dn + (max (a + e) (c + b) + 1)) := nb_mul hD.sz.1 s2
  have m2 : (D.num * (k * i + l * j) * (F.den : Nat)).natAbs < 2 ^ (dn + fn + M) := nb_le (nb_mul m0' fd) (by omega)
  have fdd : (((F.den : Nat) : Int) * ((D.den : Nat) : Int)).natAbs < 2 ^ (fn + dn) := nb_mul fd dd
  have m3 : ((j * i) * (((F.den : Nat) : Int) * ((D.den : Nat) : Int))).natAbs < 2 ^ (dn + fn + M) := nb_le (nb_mul s3 fdd) (by omega)
  have m4 : (F.num * (k * l) * (D.den : Nat) - D.num * (k * i + l * j) * (F.den : Nat)).natAbs < 2 ^ (dn + fn + M + 1) := nb_sub m1 m2
  refine sz_divInt ?_ (nb_le (nb_add m4 m3 (n := dn + fn + M + 2) (by omega) (by omega)) (by omega)) (nb_le fdd (by omega))
  have := F.den_nz
  have := D.den_nz
  exact Int.mul_ne_zero (by omega) (by omega)
theorem sz_div {p q : Rat} {a b : Nat} (h : Sz p a) (h2 : Sz q b) : Sz (p / q) (a + b + 1) := by
  by_cases z : q = 0
  · subst z
    rw [Rat.div_def, Rat.inv_zero, Rat.mul_zero]
    exact ⟨by show (0 : Int).natAbs < _; exact Nat.two_pow_pos _, by show (1 : Nat) < _; exact Nat.one_lt_two_pow (by omega)⟩
  · rw [← over_eq]
    refine sz_divInt (Int.mul_ne_zero (den_ne p) (num_ne z)) (nb_le (nb_mul h.1 h2.d) (by omega)) (nb_le (nb_mul h.d h2.1) (by omega))
instance {p q : Rat} {a b : Nat} [h : Bq p a] [h2 : Bq q b] : Bq (p / q) (a + b + 1) := ⟨sz_div h.sz h2.sz⟩
theorem prodT_pos {D F : Rat} {k j : Int} (h : 0 < F - D * D) (nz : ¬ (k = 0 ∧ j = 0)) : 0 < prodT D F k j k j := by
  have e : prodT D F k j k j = (F - D * D) * ((k : Rat) * (k : Rat)) + (D * (k : Rat) - (j : Rat)) * (D * (k : Rat) - (j : Rat)) := by
    unfold prodT
    push_cast
    grind
  rw [e]
  have sq : ∀ x : Rat, 0 ≤ x * x := fun x => by
    rcases Rat.le_total (a := 0) (b := x) with h | h
    · exact Rat.mul_nonneg h h
    · have : 0 ≤ -x * -x := Rat.mul_nonneg (by grind) (by grind)
      grind
  by_cases hk : k = 0
  · subst hk
    have hj : j ≠ 0 := fun z => nz ⟨rfl, z⟩
    have hj' : (j : Rat) ≠ 0 := by exact_mod_cast hj
    have e2 : (F - D * D) * (((0 : Int) : Rat) * ((0 : Int) : Rat)) + (D * ((0 : Int) : Rat) - (j : Rat)) * (D * ((0 : Int) : Rat) - (j : Rat)) = (j : Rat) * (j : Rat) := by
      push_cast
      grind
    rw [e2]
    have := sq (j : Rat)
    have n0 : (j : Rat) * (j : Rat) ≠ 0 := fun z => by
      rcases Rat.mul_eq_zero.mp z with z | z <;> exact hj' z
    grind
  · have hk' : (k : Rat) ≠ 0 := by exact_mod_cast hk
    have n0 : (k : Rat) * (k : Rat) ≠ 0 := fun z => by
      rcases Rat.mul_eq_zero.mp z with z | z <;> exact hk' z
    have := sq (k : Rat)
    have p1 : 0 < (F - D * D) * ((k : Rat) * (k : Rat)) := Rat.mul_pos h (by grind)
    have := sq (D * (k : Rat) - (j : Rat))
    grind
/-! the post that a table tells -/
theorem there_pos {D F : Rat} {a b c d : Int} (h : 0 < F - D * D) (n : (crs a b c d).natAbs = 1) (nz : ¬ (c = 0 ∧ d = 0)) :
    0 < prodT D F a b a b / prodT D F c d c d - -(prodT D F a b c d / prodT D F c d c d) * -(prodT D F a b c d / prodT D F c d c d) := by
  have hw := prodT_pos h nz
  have hw0 : prodT D F c d c d ≠ 0 := by grind
  have e : prodT D F a b a b * prodT D F c d c d - prodT D F a b c d * prodT D F a b c d = (F - D * D) * ((crs a b c d : Int) : Rat) * ((crs a b c d : Int) : Rat) := by
    unfold prodT crs
    push_cast
    grind
  have s1 : ((crs a b c d : Int) : Rat) * ((crs a b c d : Int) : Rat) = 1 := by
    have := crs_ss n
    exact_mod_cast this
  have e2 : prodT D F a b a b / prodT D F c d c d - -(prodT D F a b c d / prodT D F c d c d) * -(prodT D F a b c d / prodT D F c d c d) = (F - D * D) / (prodT D F c d c d * prodT D F c d c d) := by
    have e3 : prodT D F a b a b * prodT D F c d c d - prodT D F a b c d * prodT D F a b c d = F - D * D := by
      rw [e, Rat.mul_assoc, s1, Rat.mul_one]
    generalize prodT D F a b a b = S at *
    generalize prodT D F c d c d = W at *
    generalize prodT D F a b c d = P at *
    rw [← e3]
    grind
  rw [e2, Rat.div_def]
  exact Rat.mul_pos h (Rat.inv_pos.mpr (Rat.mul_pos hw hw))
theorem there_prod {D F : Rat} {a b c d : Int} (hw : prodT D F c d c d ≠ 0) (k j l i : Int) :
    prodT (-(prodT D F a b c d / prodT D F c d c d)) (prodT D F a b a b / prodT D F c d c d) k j l i * prodT D F c d c d = prodT D F (k * a + j * c) (k * b + j * d) (l * a + i * c) (l * b + i * d) := by
  have e : prodT D F (k * a + j * c) (k * b + j * d) (l * a + i * c) (l * b + i * d) = ((k * l : Int) : Rat) * prodT D F a b a b + ((k * i + l * j : Int) : Rat) * prodT D F a b c d + ((j * i : Int) : Rat) * prodT D F c d c d := by
    unfold prodT
    push_cast
    grind
  rw [e]
  generalize prodT D F a b a b = S at *
  generalize prodT D F c d c d = W at *
  generalize prodT D F a b c d = P at *
  unfold prodT
  generalize ((k * l : Int) : Rat) = x
  generalize ((k * i + l * j : Int) : Rat) = y
  generalize ((j * i : Int) : Rat) = z
  grind
theorem there_lean {D F : Rat} {a b c d : Int} (hw : prodT D F c d c d ≠ 0) (k j : Int) :
    (-(prodT D F a b c d / prodT D F c d c d) * (k : Rat) - (j : Rat)) * prodT D F c d c d = -prodT D F (k * a + j * c) (k * b + j * d) c d := by
  have e : prodT D F (k * a + j * c) (k * b + j * d) c d = (k : Rat) * prodT D F a b c d + (j : Rat) * prodT D F c d c d := by
    unfold prodT
    push_cast
    grind
  rw [e]
  generalize prodT D F c d c d = W at *
  generalize prodT D F a b c d = P at *
  grind
/-! ### enumerate: an item -/
theorem enmD_mem {l : List Dt} {d : Dt} (h : d ∈ enmD 0 l) : ∃ (i : Nat) (d' : Dt), i < l.length ∧ l[i]? = some d' ∧ d = .tup [.int (i : Nat), d'] := by
  obtain ⟨i, hi⟩ := List.mem_iff_getElem?.mp h
  obtain ⟨d', h1, h2⟩ := enmD_get l 0 i d hi
  exact ⟨i, d', (List.getElem?_eq_some_iff.mp h1).1, h1, by rw [h2, Nat.zero_add]⟩
theorem ixLN {K : Frag} {H : Hp} {x : V} {l : List Dt} {i : Int} {n : Nat} {d : Dt} {Q : VK} (h : IsV K H x (.lst l)) (e : ixN l.length i = some n) (g : l[n]? = some d) (k : AftS K H d fun v => Q v H) : rIxL K x (.int i) H Q := by
  cases h with
  | @lst p vs ds h r =>
    obtain ⟨v, e1, iv⟩ := r.get g
    exact ⟨_, _, _, v, rfl, rfl, SqL.of h, by unfold atI; rw [r.length, e]; exact e1, k.un v iv⟩
  | own o _ _ => cases o
theorem prev_ix {l : List Dt} {i : Nat} (h : i < l.length) : ∃ n d, ixN l.length ((i : Int) - 1) = some n ∧ l[n]? = some d ∧ d ∈ l := by
  by_cases z : i = 0
  · subst z
    refine ⟨l.length - 1, l[l.length - 1], ?_, by simp, List.getElem_mem _⟩
    unfold ixN
    rw [if_neg (by omega), if_pos (by omega)]
    congr 1
    omega
  · refine ⟨i - 1, l[i - 1], ?_, by simp, List.getElem_mem _⟩
    unfold ixN
    rw [if_pos (by omega), if_pos (by omega)]
    congr 1
    omega
theorem prs_noP {ds : List Dt} (h : PrsOk ds) : noP (.lst ds) = true := by
  have := tups_noP h
  simpa [noPs] using this
theorem prs_noL {ds : List Dt} (h : PrsOk ds) : noLs ds = true := tups_noL h
theorem divInt_pos {a b : Int} (h : 0 < a) (h2 : 0 < b) : 0 < Rat.divInt a b := by
  rw [Rat.divInt_eq_div, Rat.div_def]
  exact Rat.mul_pos (by exact_mod_cast h) (Rat.inv_pos.mpr (by exact_mod_cast h2))
theorem REqR_t {p q : Rat} (h : p = q) : REqR [.rat p, .rat q] (.ok (.bl true)) := by
  have r := REqR.r (p := p) (q := q)
  rw [decide_eq_true h] at r
  exact r
abbrev oddU : List Ty0 := [.none, .bool, .int, .str, .list, .tuple, .dict]
theorem far_nz {c d t : Int} (n : ¬ (c = 0 ∧ d = 0)) (h : 0 ≤ t) : ¬ (c * (2 + t) = 0 ∧ d * (2 + t) = 0) := fun ⟨a, b⟩ => by
  have e : (2 : Int) + t ≠ 0 := by omega
  exact n ⟨(Int.mul_eq_zero.mp a).resolve_right e, (Int.mul_eq_zero.mp b).resolve_right e⟩
theorem far_na {a b c d t : Int} (n : (crs a b c d).natAbs = 1) (h : 0 ≤ t) : (crs a b (c * (2 + t)) (d * (2 + t))).natAbs ≠ 1 := by
  have e : crs a b (c * (2 + t)) (d * (2 + t)) = crs a b c d * (2 + t) := by
    unfold crs
    grind
  rw [e, Int.natAbs_mul, n]
  omega
/-! ### texts that are no tables -/
theorem mkRd {ws : List Str} {y : Str} {fs : List (Str × Dt)} {k : Nat} (hne : ws ≠ []) (fr : ∀ w ∈ ws, 32 ∉ tl w) (hl : ws.length ≤ 10) (h : ∀ w ∈ ws, w.length ≤ 1000) (r : RTakeB ws 0 (.err y fs) k) : RReadBy RTakeB [.str (jn " " ws)] (.err y fs) := by
  rw [jn_eq]
  refine .err (k := k) (tOk (len_join hl h)) ?_
  rw [ws4 hne fr]
  exact r
/-- a word as it may stand in a text -/
structure Wd (w : Str) : Prop where
  f : 32 ∉ tl w
  l : w.length ≤ 1000
theorem wd {k : Int} (h : k.natAbs < 10 ^ 60) : Wd (dS k) := ⟨dS_sp k, len_small h⟩
theorem wds1 {a : Str} (h : Wd a) : ∀ w ∈ [a], Wd w := fun w i => by rw [List.mem_singleton.mp i]; exact h
theorem wdsC {a : Str} {l : List Str} (h : Wd a) (h2 : ∀ w ∈ l, Wd w) : ∀ w ∈ a :: l, Wd w := fun w i => by
  rcases List.mem_cons.mp i with rfl | i
  · exact h
  · exact h2 w i
theorem mkRd' {ws : List Str} {y : Str} {fs : List (Str × Dt)} {k : Nat} (hne : ws ≠ []) (hl : ws.length ≤ 10) (h : ∀ w ∈ ws, Wd w) (r : RTakeB ws 0 (.err y fs) k) : RReadBy RTakeB [.str (jn " " ws)] (.err y fs) := mkRd hne (fun w i => (h w i).f) hl (fun w i => (h w i).l) r
theorem wdN {n : Nat} {w : Str} (h : 32 ∉ tl w) (l : w.length ≤ 100) : Wd w := ⟨h, by omega⟩
section
variable {a b c d : Int}
theorem rd_w1 (h : Nb a b c d) : RReadBy RTakeB [.str (jn " " [dS a])] (errT 1) :=
  mkRd' (by simp) (by simp) (wds1 (wd (lt60b h.a))) (RTakeB.e1 (RTakeS.e2 (k := 0) (a := a) (intD (lt60b h.a)) rfl))
theorem rd_w2 (h : Nb a b c d) : RReadBy RTakeB [.str (jn " " [dS a, dS b])] (errT 2) :=
  mkRd' (by simp) (by simp) (wdsC (wd (lt60b h.a)) (wds1 (wd (lt60b h.b)))) (RTakeB.e2 (k1 := 2) (RTakeS.ok (k := 0) (intD (lt60b h.a)) (intD (lt60b h.b)) (na_l h.n)) (RTakeS.e1 (k := 2) (by simp) rfl))
theorem rd_w3 (h : Nb a b c d) : RReadBy RTakeB [.str (jn " " [dS a, dS b, dS c])] (errT 3) :=
  mkRd' (by simp) (by simp) (wdsC (wd (lt60b h.a)) (wdsC (wd (lt60b h.b)) (wds1 (wd (lt60b h.c))))) (RTakeB.e2 (k1 := 2) (RTakeS.ok (k := 0) (intD (lt60b h.a)) (intD (lt60b h.b)) (na_l h.n)) (RTakeS.e2 (k := 2) (a := c) (intD (lt60b h.c)) rfl))
theorem rd_w5 (h : Nb a b c d) : RReadBy RTakeB [.str (jn " " [dS a, dS b, dS c, dS d, "|"])] (errT 4) := by
  have fr : ∀ w ∈ [dS a, dS b, dS c, dS d, ("|" : Str)], Wd w := wdsC (wd (lt60b h.a)) (wdsC (wd (lt60b h.b)) (wdsC (wd (lt60b h.c)) (wdsC (wd (lt60b h.d)) (wds1 ⟨by decide +kernel, by decide +kernel⟩))))
  rw [jn_eq]
  have e := ws4 (ws := [dS a, dS b, dS c, dS d, ("|" : Str)]) (by simp) fun w i => (fr w i).f
  refine .more (k := 4) (d := .table a b c d) (tOk (len_join (by simp) fun w i => (fr w i).l)) ?_ ?_
  · rw [e]
    exact RTakeB.ok (k1 := 2) (RTakeS.ok (k := 0) (intD (lt60b h.a)) (intD (lt60b h.b)) (na_l h.n)) (RTakeS.ok (k := 2) (intD (lt60b h.c)) (intD (lt60b h.d)) (na_r h.n)) h.n
  · rw [e]
    exact fun z => by cases z
theorem lt3 {k : Int} (h : k.natAbs < 2 ^ 20) : (3 * k).natAbs < 10 ^ 60 := by
  have : (2 : Nat) ^ 20 * 3 < 10 ^ 60 := by decide
  omega
theorem rd_dbl (h : Nb a b c d) : RReadBy RTakeB [.str (jn " " [dS a, dS b, dS (3 * c), dS (3 * d)])] (errT 3) := by
  have nz : ¬ (3 * c = 0 ∧ 3 * d = 0) := fun z => na_r h.n ⟨by omega, by omega⟩
  have na : (crs a b (3 * c) (3 * d)).natAbs ≠ 1 := by
    have e : crs a b (3 * c) (3 * d) = 3 * crs a b c d := by
      unfold crs
      grind
    have := h.n
    rw [e]
    omega
  exact mkRd' (by simp) (by simp) (wdsC (wd (lt60b h.a)) (wdsC (wd (lt60b h.b)) (wdsC (wd (lt3 h.c)) (wds1 (wd (lt3 h.d)))))) (RTakeB.no (k1 := 2) (k2 := 3) (RTakeS.ok (k := 0) (intD (lt60b h.a)) (intD (lt60b h.b)) (na_l h.n)) (RTakeS.ok (k := 2) (intD (lt3 h.c)) (intD (lt3 h.d)) nz) na)
theorem rd_0010 : RReadBy RTakeB [.str "0 0 1 0"] (errT 1) := by
  have e : ("0 0 1 0" : Str) = jn " " [dS 0, dS 0, dS 1, dS 0] := by
    rw [jn_eq, join4]
    decide +kernel
  rw [e]
  exact mkRd' (by simp) (by simp) (wdsC (wd (by decide)) (wdsC (wd (by decide)) (wdsC (wd (by decide)) (wds1 (wd (by decide)))))) (RTakeB.e1 (RTakeS.z (k := 0) (intD (k := 0) (by decide)) (intD (k := 0) (by decide))))
theorem jn_00 (x y : Str) : jn " " [x, y] ++ Str.ofString " 0 0" = jn " " [x, y, dS 0, dS 0] := by
  rw [jn_eq, jn_eq, join4, join2]
  have e : Str.ofString " 0 0" = Str.ofString " " ++ (dS 0 ++ (Str.ofString " " ++ dS 0)) := by decide +kernel
  rw [e]
theorem rd_w200 (h : Nb a b c d) : RReadBy RTakeB [.str (jn " " [dS a, dS b] ++ Str.ofString " 0 0")] (errT 3) := by
  rw [jn_00]
  exact mkRd' (by simp) (by simp) (wdsC (wd (lt60b h.a)) (wdsC (wd (lt60b h.b)) (wdsC (wd (by decide)) (wds1 (wd (by decide)))))) (RTakeB.e2 (k1 := 2) (RTakeS.ok (k := 0) (intD (lt60b h.a)) (intD (lt60b h.b)) (na_l h.n)) (RTakeS.z (k := 2) (intD (k := 0) (by decide)) (intD (k := 0) (by decide))))
theorem rd_b0 {w : Str} (h : Nb a b c d) (hw : intW w = none) (fw : Wd w) : RReadBy RTakeB [.str (jn " " [w, dS b, dS c, dS d])] (errT 0) :=
  mkRd' (by simp) (by simp) (wdsC fw (wdsC (wd (lt60b h.b)) (wdsC (wd (lt60b h.c)) (wds1 (wd (lt60b h.d)))))) (RTakeB.e1 (RTakeS.e1 (k := 0) (Nat.zero_le _) hw))
theorem rd_b1 {w : Str} (h : Nb a b c d) (hw : intW w = none) (fw : Wd w) : RReadBy RTakeB [.str (jn " " [dS a, w, dS c, dS d])] (errT 1) :=
  mkRd' (by simp) (by simp) (wdsC (wd (lt60b h.a)) (wdsC fw (wdsC (wd (lt60b h.c)) (wds1 (wd (lt60b h.d)))))) (RTakeB.e1 (RTakeS.e2 (k := 0) (a := a) (intD (lt60b h.a)) hw))
theorem rd_b2 {w : Str} (h : Nb a b c d) (hw : intW w = none) (fw : Wd w) : RReadBy RTakeB [.str (jn " " [dS a, dS b, w, dS d])] (errT 2) :=
  mkRd' (by simp) (by simp) (wdsC (wd (lt60b h.a)) (wdsC (wd (lt60b h.b)) (wdsC fw (wds1 (wd (lt60b h.d)))))) (RTakeB.e2 (k1 := 2) (RTakeS.ok (k := 0) (intD (lt60b h.a)) (intD (lt60b h.b)) (na_l h.n)) (RTakeS.e1 (k := 2) (by simp) hw))
theorem rd_b3 {w : Str} (h : Nb a b c d) (hw : intW w = none) (fw : Wd w) : RReadBy RTakeB [.str (jn " " [dS a, dS b, dS c, w])] (errT 3) :=
  mkRd' (by simp) (by simp) (wdsC (wd (lt60b h.a)) (wdsC (wd (lt60b h.b)) (wdsC (wd (lt60b h.c)) (wds1 fw)))) (RTakeB.e2 (k1 := 2) (RTakeS.ok (k := 0) (intD (lt60b h.a)) (intD (lt60b h.b)) (na_l h.n)) (RTakeS.e2 (k := 2) (a := c) (intD (lt60b h.c)) hw))
theorem jb1 {a : Str} (h : a.length ≤ 1000) : JoinB " " [a] := by
  refine ⟨?_⟩
  simp only [List.map_cons, List.map_nil, List.sum_cons, List.sum_nil, show (" " : Str).length = 1 from rfl, List.length_cons, List.length_nil]
  omega
theorem jbC {a : Str} {l : List Str} (h : a.length ≤ 1000) (n : l.length ≤ 1000) (k : (l.map (·.length)).sum ≤ l.length * 1000) : JoinB " " (a :: l) ∧ ((a :: l).map (·.length)).sum ≤ (a :: l).length * 1000 := by
  refine ⟨⟨?_⟩, ?_⟩
  · simp only [List.map_cons, List.sum_cons, show (" " : Str).length = 1 from rfl, List.length_cons]
    have : l.length * 1000 ≤ 1000 * 1000 := Nat.mul_le_mul_right _ n
    omega
  · simp only [List.map_cons, List.sum_cons, List.length_cons]
    omega
theorem jbs {l : List Str} (n : l.length ≤ 1000) (h : ∀ w ∈ l, Wd w) : JoinB " " l := by
  have key : ∀ l : List Str, (∀ w ∈ l, Wd w) → (l.map (·.length)).sum ≤ l.length * 1000 := by
    intro l
    induction l with
    | nil => intro _; decide
    | cons w l ih =>
      intro h
      have := (h w List.mem_cons_self).l
      have := ih fun x i => h x (List.mem_cons_of_mem _ i)
      simp only [List.map_cons, List.sum_cons, List.length_cons]
      omega
  have := key l h
  refine ⟨?_⟩
  rw [show (" " : Str).length = 1 from rfl]
  have : l.length * 1000 ≤ 1000 * 1000 := Nat.mul_le_mul_right _ n
  omega
end
def badB : List Str := ["", "+1", "00", "2/3", "-0", "|", "1."]
theorem badB_ok : ∀ w ∈ badB, intW w = none ∧ Wd w := by
  have k : ∀ w ∈ badB, intW w = none ∧ 32 ∉ tl w ∧ w.length ≤ 1000 := by decide +kernel
  exact fun w i => ⟨(k w i).1, (k w i).2.1, (k w i).2.2⟩
end Sp
end
section
set_option Elab.async false
set_option linter.all false
/-! roads as words of two letters, as runs of letters, and the two ends between which they lie -/
namespace Rd
abbrev Vc : Type := Int × Int
abbrev Nt : Type := Vc × Vc
def mv (p : Nt) : Bool → Nt
  | false => (p.1, (p.2.1 + p.1.1, p.2.2 + p.1.2))
  | true => ((p.1.1 + p.2.1, p.1.2 + p.2.2), p.2)
def go (p : Nt) : List Bool → Nt
  | [] => p
  | a :: u => go (mv p a) u
def mid (p : Nt) : Vc := (p.1.1 + p.2.1, p.1.2 + p.2.2)
def less (a b : Vc) : Bool := decide (a.1 * b.2 < b.1 * a.2)
/-- runs of letters, the first ones false -/
def wd : Bool → List Int → List Bool
  | _, [] => []
  | b, r :: rs => List.replicate r.toNat b ++ wd (!b) rs
def eL : Bool → Nt → List Int → Nt
  | _, p, [] => p
  | false, p, r :: rs => eL true (p.1, (p.2.1 + r * p.1.1, p.2.2 + r * p.1.2)) rs
  | true, p, r :: rs => eL false ((p.1.1 + r * p.2.1, p.1.2 + r * p.2.2), p.2) rs
theorem go_app (p : Nt) (u v : List Bool) : go p (u ++ v) = go (go p u) v := by
  induction u generalizing p with
  | nil => rfl
  | cons a u ih => exact ih _
theorem go_false (n : Nat) (p : Nt) : go p (List.replicate n false) = (p.1, (p.2.1 + n * p.1.1, p.2.2 + n * p.1.2)) := by
  induction n generalizing p with
  | zero => simp [go]
  | succ n ih =>
    rw [List.replicate_succ]
    show go (mv p false) _ = _
    rw [ih]
    simp only [mv]
    congr 1
    congr 1
    · push_cast; grind
    · push_cast; grind
theorem go_true (n : Nat) (p : Nt) : go p (List.replicate n true) = ((p.1.1 + n * p.2.1, p.1.2 + n * p.2.2), p.2) := by
  induction n generalizing p with
  | zero => simp [go]
  | succ n ih =>
    rw [List.replicate_succ]
    show go (mv p true) _ = _
    rw [ih]
    simp only [mv]
    congr 1
    congr 1
    · push_cast; grind
    · push_cast; grind
theorem eL_go (b : Bool) (p : Nt) (rs : List Int) (h : ∀ r ∈ rs, 0 ≤ r) : eL b p rs = go p (wd b rs) := by
  induction rs generalizing b p with
  | nil => cases b <;> rfl
  | cons r rs ih =>
    have hr := h r List.mem_cons_self
    have e : ((r.toNat : Nat) : Int) = r := Int.toNat_of_nonneg hr
    have h2 : ∀ r ∈ rs, 0 ≤ r := fun x i => h x (List.mem_cons_of_mem _ i)
    cases b with
    | false =>
      show eL true _ rs = go p (List.replicate r.toNat false ++ wd true rs)
      rw [go_app, go_false, e, ih _ _ h2]
    | true =>
      show eL false _ rs = go p (List.replicate r.toNat true ++ wd false rs)
      rw [go_app, go_true, e, ih _ _ h2]
/-! ### order -/
structure Gd (p : Nt) : Prop where
  d : p.2.1 * p.1.2 - p.1.1 * p.2.2 = 1
  l : 1 ≤ p.1.2
  h : 1 ≤ p.2.2
theorem Gd.mvf {p : Nt} (g : Gd p) (a : Bool) : Gd (mv p a) := by
  have d := g.d
  have l := g.l
  have h := g.h
  cases a with
  | false => exact ⟨by show (p.2.1 + p.1.1) * p.1.2 - p.1.1 * (p.2.2 + p.1.2) = 1; grind, l, by show 1 ≤ p.2.2 + p.1.2; omega⟩
  | true => exact ⟨by show p.2.1 * (p.1.2 + p.2.2) - (p.1.1 + p.2.1) * p.2.2 = 1; grind, by show 1 ≤ p.1.2 + p.2.2; omega, h⟩
theorem Gd.gof {p : Nt} (g : Gd p) (u : List Bool) : Gd (go p u) := by
  induction u generalizing p with
  | nil => exact g
  | cons a u ih => exact ih (g.mvf a)
/-- a is not above b -/
def Le (a b : Vc) : Prop := a.1 * b.2 ≤ b.1 * a.2
def Lt (a b : Vc) : Prop := a.1 * b.2 < b.1 * a.2
theorem le_trans {a b c : Vc} (ha : 1 ≤ a.2) (hb : 1 ≤ b.2) (hc : 1 ≤ c.2) (h : Le a b) (k : Le b c) : Le a c := by
  unfold Le at *
  have h1 : a.1 * b.2 * c.2 ≤ b.1 * a.2 * c.2 := Int.mul_le_mul_of_nonneg_right h (by omega)
  have h2 : b.1 * c.2 * a.2 ≤ c.1 * b.2 * a.2 := Int.mul_le_mul_of_nonneg_right k (by omega)
  have h3 : a.1 * c.2 * b.2 ≤ c.1 * a.2 * b.2 := by
    have e1 : a.1 * c.2 * b.2 = a.1 * b.2 * c.2 := by grind
    have e2 : b.1 * a.2 * c.2 = b.1 * c.2 * a.2 := by grind
    have e3 : c.1 * b.2 * a.2 = c.1 * a.2 * b.2 := by grind
    omega
  exact Int.le_of_mul_le_mul_right h3 (by omega)
theorem lt_of_le_lt {a b c : Vc} (ha : 1 ≤ a.2) (hb : 1 ≤ b.2) (hc : 1 ≤ c.2) (h : Le a b) (k : Lt b c) : Lt a c := by
  unfold Le at h
  unfold Lt at *
  have h1 : a.1 * b.2 * c.2 ≤ b.1 * a.2 * c.2 := Int.mul_le_mul_of_nonneg_right h (by omega)
  have h2 : b.1 * c.2 * a.2 < c.1 * b.2 * a.2 := Int.mul_lt_mul_of_pos_right k (by omega)
  have h3 : a.1 * c.2 * b.2 < c.1 * a.2 * b.2 := by
    have e1 : a.1 * c.2 * b.2 = a.1 * b.2 * c.2 := by grind
    have e2 : b.1 * a.2 * c.2 = b.1 * c.2 * a.2 := by grind
    have e3 : c.1 * b.2 * a.2 = c.1 * a.2 * b.2 := by grind
    omega
  exact Int.lt_of_mul_lt_mul_right h3 (by omega)
theorem lt_of_lt_le {a b c : Vc} (ha : 1 ≤ a.2) (hb : 1 ≤ b.2) (hc : 1 ≤ c.2) (h : Lt a b) (k : Le b c) : Lt a c := by
  unfold Le at k
  unfold Lt at *
  have h1 : a.1 * b.2 * c.2 < b.1 * a.2 * c.2 := Int.mul_lt_mul_of_pos_right h (by omega)
  have h2 : b.1 * c.2 * a.2 ≤ c.1 * b.2 * a.2 := Int.mul_le_mul_of_nonneg_right k (by omega)
  have h3 : a.1 * c.2 * b.2 < c.1 * a.2 * b.2 := by
    have e1 : a.1 * c.2 * b.2 = a.1 * b.2 * c.2 := by grind
    have e2 : b.1 * a.2 * c.2 = b.1 * c.2 * a.2 := by grind
    have e3 : c.1 * b.2 * a.2 = c.1 * a.2 * b.2 := by grind
    omega
  exact Int.lt_of_mul_lt_mul_right h3 (by omega)
theorem Lt.le {a b : Vc} (h : Lt a b) : Le a b := Int.le_of_lt h
theorem le_refl (a : Vc) : Le a a := Int.le_refl _
theorem Lt.not {a b : Vc} (h : Lt a b) : ¬ Le b a := fun k => by unfold Le at k; unfold Lt at h; omega
theorem less_t {a b : Vc} (h : Lt a b) : less a b = true := decide_eq_true h
theorem less_f {a b : Vc} (h : Le b a) : less a b = false := decide_eq_false (fun k : a.1 * b.2 < b.1 * a.2 => by unfold Le at h; omega)
theorem Gd.m {p : Nt} (g : Gd p) : 1 ≤ (mid p).2 := by
  have := g.l
  have := g.h
  show 1 ≤ p.1.2 + p.2.2
  omega
theorem Gd.lm {p : Nt} (g : Gd p) : Lt p.1 (mid p) := by
  have := g.d
  show p.1.1 * (p.1.2 + p.2.2) < (p.1.1 + p.2.1) * p.1.2
  grind
theorem Gd.mh {p : Nt} (g : Gd p) : Lt (mid p) p.2 := by
  have := g.d
  show (p.1.1 + p.2.1) * p.2.2 < p.2.1 * (p.1.2 + p.2.2)
  grind
theorem mv_f (p : Nt) : (mv p false).1 = p.1 ∧ (mv p false).2 = mid p := ⟨rfl, by simp [mv, mid, Int.add_comm]⟩
theorem mv_t (p : Nt) : (mv p true).1 = mid p ∧ (mv p true).2 = p.2 := ⟨rfl, rfl⟩
/-- what is ahead holds what is behind -/
theorem Gd.in_ {p : Nt} (g : Gd p) (u : List Bool) : Le p.1 (go p u).1 ∧ Le (go p u).2 p.2 := by
  induction u generalizing p with
  | nil => exact ⟨le_refl _, le_refl _⟩
  | cons a u ih =>
    have q := ih (g.mvf a)
    have z := (g.mvf a).gof u
    cases a with
    | false =>
      obtain ⟨e1, e2⟩ := mv_f p
      refine ⟨?_, le_trans z.h g.m g.h (by rw [← e2]; exact q.2) g.mh.le⟩
      have := q.1
      rw [e1] at this
      exact this
    | true =>
      obtain ⟨e1, e2⟩ := mv_t p
      refine ⟨le_trans g.l g.m z.l g.lm.le (by rw [← e1]; exact q.1), ?_⟩
      have := q.2
      rw [e2] at this
      exact this
theorem Gd.f {p : Nt} (g : Gd p) (u : List Bool) : Le (go p (false :: u)).2 (mid p) := by
  rw [← (mv_f p).2]
  exact ((g.mvf false).in_ u).2
theorem Gd.t {p : Nt} (g : Gd p) (u : List Bool) : Le (mid p) (go p (true :: u)).1 := by
  rw [← (mv_t p).1]
  exact ((g.mvf true).in_ u).1
/-- one word begins another one -/
def pre : List Bool → List Bool → Bool
  | [], _ => true
  | _ :: _, [] => false
  | a :: u, b :: v => a == b && pre u v
/-- the law's two tests -/
def wi (p q : Nt) : Bool := !less q.1 p.1 && !less p.2 q.2
def wm (p : Nt) (m : Vc) : Bool := less p.1 m && less m p.2
theorem wi_pre {p : Nt} (g : Gd p) (u v : List Bool) : wi (go p u) (go p v) = pre u v := by
  induction u generalizing p v with
  | nil =>
    obtain ⟨a, b⟩ := g.in_ v
    show (!less (go p v).1 p.1 && !less p.2 (go p v).2) = true
    rw [less_f a, less_f b]
    rfl
  | cons a u ih =>
    have zu := g.gof (a :: u)
    cases v with
    | nil =>
      cases a with
      | false =>
        show (!less p.1 (go p (false :: u)).1 && !less (go p (false :: u)).2 p.2) = false
        rw [less_t (lt_of_le_lt zu.h g.m g.h (g.f u) g.mh)]
        simp
      | true =>
        show (!less p.1 (go p (true :: u)).1 && !less (go p (true :: u)).2 p.2) = false
        rw [less_t (lt_of_lt_le g.l g.m zu.l g.lm (g.t u))]
        simp
    | cons b v =>
      have zv := g.gof (b :: v)
      cases a with
      | false =>
        cases b with
        | false => exact ih (g.mvf false) v
        | true =>
          have k := lt_of_le_lt g.m zv.l zv.h (g.t v) (by
            have := lt_of_lt_le zv.l zv.m zv.h zv.lm zv.mh.le
            exact this)
          show (!less (go p (true :: v)).1 (go p (false :: u)).1 && !less (go p (false :: u)).2 (go p (true :: v)).2) = false
          rw [less_t (lt_of_le_lt zu.h g.m zv.h (g.f u) k)]
          simp
      | true =>
        cases b with
        | true => exact ih (g.mvf true) v
        | false =>
          have k := lt_of_lt_le zv.l zv.h g.m (lt_of_lt_le zv.l zv.m zv.h zv.lm zv.mh.le) (g.f v)
          show (!less (go p (false :: v)).1 (go p (true :: u)).1 && !less (go p (true :: u)).2 (go p (false :: v)).2) = false
          rw [less_t (lt_of_lt_le zv.l g.m zu.l k (g.t u))]
          simp
theorem wm_pre {p : Nt} (g : Gd p) (u v : List Bool) : wm (go p u) (mid (go p v)) = pre u v := by
  induction u generalizing p v with
  | nil =>
    obtain ⟨a, b⟩ := g.in_ v
    have z := g.gof v
    show (less p.1 (mid (go p v)) && less (mid (go p v)) p.2) = true
    rw [less_t (lt_of_le_lt g.l z.l z.m a z.lm), less_t (lt_of_lt_le z.m z.h g.h z.mh b)]
    rfl
  | cons a u ih =>
    have zu := g.gof (a :: u)
    cases v with
    | nil =>
      cases a with
      | false =>
        show (less (go p (false :: u)).1 (mid p) && less (mid p) (go p (false :: u)).2) = false
        rw [less_f (g.f u)]
        simp
      | true =>
        show (less (go p (true :: u)).1 (mid p) && less (mid p) (go p (true :: u)).2) = false
        rw [less_f (g.t u)]
        simp
    | cons b v =>
      have zv := g.gof (b :: v)
      cases a with
      | false =>
        cases b with
        | false => exact ih (g.mvf false) v
        | true =>
          show (less (go p (false :: u)).1 (mid (go p (true :: v))) && less (mid (go p (true :: v))) (go p (false :: u)).2) = false
          rw [less_f (le_trans zu.h g.m zv.m (g.f u) (le_trans g.m zv.l zv.m (g.t v) zv.lm.le))]
          simp
      | true =>
        cases b with
        | true => exact ih (g.mvf true) v
        | false =>
          show (less (go p (true :: u)).1 (mid (go p (false :: v))) && less (mid (go p (false :: v))) (go p (true :: u)).2) = false
          rw [less_f (le_trans zv.m g.m zu.l (le_trans zv.m zv.h g.m zv.mh.le (g.f v)) (g.t u))]
          simp
/-! ### what two words have alike ahead -/
def lcp : List Bool → List Bool → List Bool
  | a :: u, b :: v => if a = b then a :: lcp u v else []
  | _, _ => []
theorem lcp_pre (u v : List Bool) : pre (lcp u v) u = true ∧ pre (lcp u v) v = true := by
  induction u generalizing v with
  | nil => exact ⟨rfl, rfl⟩
  | cons a u ih =>
    cases v with
    | nil => exact ⟨rfl, rfl⟩
    | cons b v =>
      unfold lcp
      split
      · rename_i e
        subst e
        simp [pre, ih v]
      · exact ⟨rfl, rfl⟩
theorem lcp_comm (u v : List Bool) : lcp u v = lcp v u := by
  induction u generalizing v with
  | nil => cases v <;> rfl
  | cons a u ih =>
    cases v with
    | nil => rfl
    | cons b v =>
      unfold lcp
      by_cases e : a = b
      · subst e
        rw [if_pos rfl, if_pos rfl, ih]
      · rw [if_neg e, if_neg (fun z => e z.symm)]
theorem lcp_eq (u v : List Bool) : decide (lcp u v = u) = pre u v := by
  induction u generalizing v with
  | nil => cases v <;> rfl
  | cons a u ih =>
    cases v with
    | nil => rfl
    | cons b v =>
      unfold lcp pre
      by_cases e : a = b
      · subst e
        rw [if_pos rfl]
        simp only [List.cons.injEq, true_and, beq_self_eq_true, Bool.true_and]
        exact ih v
      · rw [if_neg e]
        simp [e]
/-- the law's side of a road of two ends, of an ended one -/
def sdO (p : Nt) (m : Vc) : Int := (if !less p.1 m then 1 else 0) - (if !less m p.2 then 1 else 0)
def sdE (q m : Vc) : Int := (if less m q then 1 else 0) - (if less q m then 1 else 0)
theorem sd_nil {p : Nt} (g : Gd p) : sdO p (mid p) = 0 ∧ sdE (mid p) (mid p) = 0 := by
  constructor
  · unfold sdO
    rw [less_t g.lm, less_t g.mh]
    rfl
  · unfold sdE
    rw [less_f (le_refl (mid p))]
    rfl
theorem sd_f {p : Nt} (g : Gd p) (u : List Bool) : sdO (go p (false :: u)) (mid p) = -1 ∧ sdE (mid (go p (false :: u))) (mid p) = -1 := by
  have z := g.gof (false :: u)
  constructor
  · unfold sdO
    rw [less_t (lt_of_lt_le z.l z.h g.m (lt_of_lt_le z.l z.m z.h z.lm z.mh.le) (g.f u)), less_f (g.f u)]
    rfl
  · unfold sdE
    have k := lt_of_lt_le z.m z.h g.m z.mh (g.f u)
    rw [less_t k, less_f k.le]
    rfl
theorem sd_t {p : Nt} (g : Gd p) (u : List Bool) : sdO (go p (true :: u)) (mid p) = 1 ∧ sdE (mid (go p (true :: u))) (mid p) = 1 := by
  have z := g.gof (true :: u)
  constructor
  · unfold sdO
    rw [less_f (g.t u), less_t (lt_of_le_lt g.m z.l z.h (g.t u) (lt_of_lt_le z.l z.m z.h z.lm z.mh.le))]
    rfl
  · unfold sdE
    have k := lt_of_le_lt g.m z.l z.m (g.t u) z.lm
    rw [less_t k, less_f k.le]
    rfl
/-- the side of a road, ended (e) or not, seen from the middle of what goes ahead of it -/
def sdR (e : Bool) (p : Nt) (m : Vc) : Int := if e then sdE (mid p) m else sdO p m
theorem sd_lcp {p : Nt} (g : Gd p) (e1 e2 : Bool) (u v : List Bool) : sdR e1 (go p u) (mid (go p (lcp u v))) * sdR e2 (go p v) (mid (go p (lcp u v))) < 1 := by
  induction u generalizing p v with
  | nil =>
    have k := sd_nil g
    show sdR e1 p (mid p) * sdR e2 (go p v) (mid p) < 1
    have : sdR e1 p (mid p) = 0 := by cases e1 <;> simp [sdR, k]
    rw [this]
    omega
  | cons a u ih =>
    cases v with
    | nil =>
      have k := sd_nil g
      show sdR e1 (go p (a :: u)) (mid p) * sdR e2 p (mid p) < 1
      have : sdR e2 p (mid p) = 0 := by cases e2 <;> simp [sdR, k]
      rw [this]
      omega
    | cons b v =>
      have f : ∀ (e : Bool) (w : List Bool), sdR e (go p (false :: w)) (mid p) = -1 := fun e w => by cases e <;> simp [sdR, sd_f g w]
      have t : ∀ (e : Bool) (w : List Bool), sdR e (go p (true :: w)) (mid p) = 1 := fun e w => by cases e <;> simp [sdR, sd_t g w]
      cases a <;> cases b
      · exact ih (g.mvf false) v
      · show sdR e1 (go p (false :: u)) (mid p) * sdR e2 (go p (true :: v)) (mid p) < 1
        rw [f, t]
        decide
      · show sdR e1 (go p (true :: u)) (mid p) * sdR e2 (go p (false :: v)) (mid p) < 1
        rw [f, t]
        decide
      · exact ih (g.mvf true) v
/-- two middles with what they have alike between them -/
theorem lcp_mid {p : Nt} (g : Gd p) (u v : List Bool) (h : Le (mid (go p u)) (mid (go p v))) : Le (mid (go p u)) (mid (go p (lcp u v))) ∧ Le (mid (go p (lcp u v))) (mid (go p v)) := by
  induction u generalizing p v with
  | nil => exact ⟨le_refl _, h⟩
  | cons a u ih =>
    cases v with
    | nil => exact ⟨h, le_refl _⟩
    | cons b v =>
      have zu := g.gof (a :: u)
      have zv := g.gof (b :: v)
      cases a <;> cases b
      · exact ih (g.mvf false) v h
      · exact ⟨(lt_of_lt_le zu.m zu.h g.m zu.mh (g.f u)).le, (lt_of_le_lt g.m zv.l zv.m (g.t v) zv.lm).le⟩
      · exact absurd h (Lt.not (lt_of_lt_le zv.m g.m zu.m (lt_of_lt_le zv.m zv.h g.m zv.mh (g.f v)) (lt_of_le_lt g.m zu.l zu.m (g.t u) zu.lm).le))
      · exact ih (g.mvf true) v h
theorem pre_in {p : Nt} (g : Gd p) {u v : List Bool} (h : pre u v = true) : Lt (go p u).1 (mid (go p v)) ∧ Lt (mid (go p v)) (go p u).2 := by
  have := wm_pre g u v
  rw [h] at this
  obtain ⟨a, b⟩ := Bool.and_eq_true_iff.mp this
  unfold less at a b
  exact ⟨(of_decide_eq_true a : _ < _), (of_decide_eq_true b : _ < _)⟩
/-! ### runs -/
def Ps (rs : List Int) : Prop := ∀ r ∈ rs, 1 ≤ r
def Can : List Int → Prop
  | [] => True
  | [r] => 1 ≤ r
  | r :: s :: l => 0 ≤ r ∧ Ps (s :: l)
theorem Can.nn {rs : List Int} (h : Can rs) : ∀ r ∈ rs, 0 ≤ r := by
  match rs, h with
  | [], _ => exact fun r i => by cases i
  | [r], h =>
    intro x i
    have h : 1 ≤ r := h
    rw [List.mem_singleton.mp i]
    omega
  | r :: s :: l, h =>
    intro x i
    rcases List.mem_cons.mp i with rfl | i
    · exact h.1
    · have := h.2 x i
      omega
theorem Can.tl {r : Int} {rs : List Int} (h : Can (r :: rs)) : Ps rs := by
  match rs, h with
  | [], _ => exact fun r i => by cases i
  | s :: l, h => exact h.2
theorem Can.hd {r : Int} {rs : List Int} (h : Can (r :: rs)) : 0 ≤ r := h.nn r List.mem_cons_self
/-- does not begin with b -/
def Nb (b : Bool) : List Bool → Prop
  | [] => True
  | a :: _ => a ≠ b
theorem wd_nb {b : Bool} {rs : List Int} (h : Ps rs) : Nb (!b) (wd b rs) := by
  cases rs with
  | nil => trivial
  | cons r rs =>
    have := h r List.mem_cons_self
    obtain ⟨n, e⟩ : ∃ n, r.toNat = n + 1 := ⟨r.toNat - 1, by omega⟩
    show Nb (!b) (List.replicate r.toNat b ++ _)
    rw [e, List.replicate_succ]
    show b ≠ !b
    cases b <;> simp
theorem lcp_rep (n : Nat) (b : Bool) (u v : List Bool) : lcp (List.replicate n b ++ u) (List.replicate n b ++ v) = List.replicate n b ++ lcp u v := by
  induction n with
  | zero => rfl
  | succ n ih =>
    have c : ∀ x y : List Bool, lcp (b :: x) (b :: y) = b :: lcp x y := fun x y => by simp [lcp]
    rw [List.replicate_succ, List.cons_append, List.cons_append, c, ih, List.cons_append]
theorem lcp_nb {b : Bool} {u v : List Bool} (h : Nb b u) : lcp u (b :: v) = [] := by
  cases u with
  | nil => rfl
  | cons a u =>
    unfold lcp
    rw [if_neg h]
/-- what two lists of runs have alike -/
def ba : List Int → List Int → List Int
  | r :: rs, s :: ss => if r = s then r :: ba rs ss else [min r s]
  | _, _ => []
theorem ba_lcp (b : Bool) (rs ss : List Int) (h : ∀ r ∈ rs, 0 ≤ r) (k : ∀ r ∈ ss, 0 ≤ r) (h2 : Ps rs.tail) (k2 : Ps ss.tail) : wd b (ba rs ss) = lcp (wd b rs) (wd b ss) := by
  induction rs generalizing b ss with
  | nil => cases ss <;> rfl
  | cons r rs ih =>
    cases ss with
    | nil =>
      show ([] : List Bool) = lcp _ []
      cases (wd b (r :: rs)) <;> rfl
    | cons s ss =>
      have hr := h r List.mem_cons_self
      have hs := k s List.mem_cons_self
      have h3 : Ps rs := h2
      have k3 : Ps ss := k2
      unfold ba
      by_cases e : r = s
      · subst e
        rw [if_pos rfl]
        show List.replicate r.toNat b ++ wd (!b) (ba rs ss) = lcp (List.replicate r.toNat b ++ wd (!b) rs) (List.replicate r.toNat b ++ wd (!b) ss)
        rw [lcp_rep, ih (!b) ss (fun x i => h x (List.mem_cons_of_mem _ i)) (fun x i => k x (List.mem_cons_of_mem _ i)) (fun x i => h3 x (List.mem_of_mem_tail i)) (fun x i => k3 x (List.mem_of_mem_tail i))]
      · rw [if_neg e]
        show List.replicate (min r s).toNat b ++ [] = lcp (List.replicate r.toNat b ++ wd (!b) rs) (List.replicate s.toNat b ++ wd (!b) ss)
        rcases Int.lt_or_gt_of_ne e with lt | gt
        · obtain ⟨n, en⟩ : ∃ n, s.toNat = r.toNat + (n + 1) := ⟨s.toNat - r.toNat - 1, by omega⟩
          have em : (min r s).toNat = r.toNat := by omega
          rw [em, en, ← List.replicate_append_replicate, List.append_assoc, lcp_rep, List.replicate_succ]
          have := wd_nb (b := !b) h3
          rw [Bool.not_not] at this
          rw [List.cons_append, lcp_nb this]
        · obtain ⟨n, en⟩ : ∃ n, r.toNat = s.toNat + (n + 1) := ⟨r.toNat - s.toNat - 1, by omega⟩
          have em : (min r s).toNat = s.toNat := by omega
          rw [em, en, ← List.replicate_append_replicate, List.append_assoc, lcp_rep, List.replicate_succ]
          have := wd_nb (b := !b) k3
          rw [Bool.not_not] at this
          rw [List.cons_append, lcp_comm, lcp_nb this]
/-- a lone run of none is no run -/
def bl (rs ss : List Int) : List Int := if ba rs ss = [0] then [] else ba rs ss
theorem ba_ps {rs ss : List Int} (h : Ps rs) (k : Ps ss) : Ps (ba rs ss) := by
  induction rs generalizing ss with
  | nil => exact fun r i => by cases ss <;> cases i
  | cons r rs ih =>
    cases ss with
    | nil => exact fun r i => by cases i
    | cons s ss =>
      have hr := h r List.mem_cons_self
      have hs := k s List.mem_cons_self
      unfold ba
      split
      · intro x i
        rcases List.mem_cons.mp i with rfl | i
        · exact hr
        · exact ih (fun x i => h x (List.mem_cons_of_mem _ i)) (fun x i => k x (List.mem_cons_of_mem _ i)) x i
      · intro x i
        rw [List.mem_singleton.mp i]
        omega
theorem bl_can {rs ss : List Int} (h : Can rs) (k : Can ss) : Can (bl rs ss) := by
  unfold bl
  split
  · trivial
  · rename_i n
    cases rs with
    | nil => cases ss <;> trivial
    | cons r rs =>
      cases ss with
      | nil => trivial
      | cons s ss =>
        have hr := h.hd
        have hs := k.hd
        unfold ba at n ⊢
        split
        · rename_i e
          rw [if_pos e] at n
          have q := ba_ps h.tl k.tl
          cases z : ba rs ss with
          | nil =>
            rw [z] at n
            have : r ≠ 0 := fun y => n (by rw [y])
            show 1 ≤ r
            omega
          | cons x l =>
            rw [z] at q
            exact ⟨hr, q⟩
        · rename_i e
          rw [if_neg e] at n
          have : min r s ≠ 0 := fun y => n (by rw [y])
          show 1 ≤ min r s
          omega
theorem bl_wd {rs ss : List Int} (h : Can rs) (k : Can ss) : wd false (bl rs ss) = lcp (wd false rs) (wd false ss) := by
  have t : ∀ {l : List Int}, Can l → Ps l.tail := fun {l} h => by
    cases l with
    | nil => exact fun r i => by cases i
    | cons r l => exact h.tl
  rw [← ba_lcp false rs ss h.nn k.nn (t h) (t k)]
  unfold bl
  split
  · rename_i e
    rw [e]
    rfl
  · rfl
theorem rep_inj {m n : Nat} {b : Bool} {u v : List Bool} (h : Nb b u) (k : Nb b v) (e : List.replicate m b ++ u = List.replicate n b ++ v) : m = n ∧ u = v := by
  induction m generalizing n with
  | zero =>
    cases n with
    | zero => exact ⟨rfl, e⟩
    | succ n =>
      rw [List.replicate_succ] at e
      have e : u = b :: (List.replicate n b ++ v) := e
      rw [e] at h
      exact absurd rfl h
  | succ m ih =>
    cases n with
    | zero =>
      rw [List.replicate_succ] at e
      have e : b :: (List.replicate m b ++ u) = v := e
      rw [← e] at k
      exact absurd rfl k
    | succ n =>
      rw [List.replicate_succ, List.replicate_succ] at e
      obtain ⟨a, c⟩ := ih (List.cons.inj e).2
      exact ⟨by omega, c⟩
theorem wd_inj_ps {b : Bool} {rs ss : List Int} (h : Ps rs) (k : Ps ss) (e : wd b rs = wd b ss) : rs = ss := by
  have nb : ∀ {r : Int} {l : List Int} {b : Bool}, 1 ≤ r → wd b (r :: l) ≠ [] := fun {r l b} hr z => by
    obtain ⟨n, e⟩ : ∃ n, r.toNat = n + 1 := ⟨r.toNat - 1, by omega⟩
    have z : List.replicate r.toNat b ++ _ = [] := z
    rw [e, List.replicate_succ] at z
    cases z
  induction rs generalizing b ss with
  | nil =>
    cases ss with
    | nil => rfl
    | cons s ss => exact absurd e.symm (nb (k s List.mem_cons_self))
  | cons r rs ih =>
    cases ss with
    | nil => exact absurd e (nb (h r List.mem_cons_self))
    | cons s ss =>
      have h3 : Ps rs := fun x i => h x (List.mem_cons_of_mem _ i)
      have k3 : Ps ss := fun x i => k x (List.mem_cons_of_mem _ i)
      have hr := h r List.mem_cons_self
      have hs := k s List.mem_cons_self
      have n1 := wd_nb (b := !b) h3
      have n2 := wd_nb (b := !b) k3
      rw [Bool.not_not] at n1 n2
      obtain ⟨a, c⟩ := rep_inj n1 n2 e
      rw [ih h3 k3 c, show r = s by omega]
theorem wd_inj {rs ss : List Int} (h : Can rs) (k : Can ss) (e : wd false rs = wd false ss) : rs = ss := by
  have nn : ∀ {r : Int} {l : List Int}, Can (r :: l) → wd false (r :: l) ≠ [] := fun {r l} hc z => by
    match l, hc with
    | [], hr =>
      have hr : 1 ≤ r := hr
      obtain ⟨n, e⟩ : ∃ n, r.toNat = n + 1 := ⟨r.toNat - 1, by omega⟩
      have z : List.replicate r.toNat false ++ _ = [] := z
      rw [e, List.replicate_succ] at z
      cases z
    | s :: l, hc =>
      have hs := hc.2 s List.mem_cons_self
      obtain ⟨n, e⟩ : ∃ n, s.toNat = n + 1 := ⟨s.toNat - 1, by omega⟩
      have z : List.replicate r.toNat false ++ (List.replicate s.toNat true ++ _) = [] := z
      have z2 := (List.append_eq_nil_iff.mp z).2
      rw [e, List.replicate_succ] at z2
      cases z2
  cases rs with
  | nil =>
    cases ss with
    | nil => rfl
    | cons s ss => exact absurd e.symm (nn k)
  | cons r rs =>
    cases ss with
    | nil => exact absurd e (nn h)
    | cons s ss =>
      have n1 := wd_nb (b := true) h.tl
      have n2 := wd_nb (b := true) k.tl
      obtain ⟨a, c⟩ := rep_inj n1 n2 e
      have hr := h.hd
      have hs := k.hd
      rw [wd_inj_ps h.tl k.tl c, show r = s by omega]
theorem bl_eq {rs ss : List Int} (h : Can rs) (k : Can ss) : decide (bl rs ss = rs) = pre (wd false rs) (wd false ss) := by
  rw [← lcp_eq, ← bl_wd h k]
  by_cases e : bl rs ss = rs
  · rw [e]
    simp
  · have : ¬ wd false (bl rs ss) = wd false rs := fun z => e (wd_inj (bl_can h k) h z)
    simp [e, this]
theorem bl_comm {rs ss : List Int} (h : Can rs) (k : Can ss) : bl rs ss = bl ss rs := wd_inj (bl_can h k) (bl_can k h) (by rw [bl_wd h k, bl_wd k h, lcp_comm])
/-! ### back from the middle to the runs -/
/-- the greater part, the lesser one -/
def bk : List Int → Int × Int
  | [] => (1, 1)
  | r :: rs => ((bk rs).2 + r * (bk rs).1, (bk rs).1)
theorem bk_pos {rs : List Int} (h : Ps rs) : 1 ≤ (bk rs).1 ∧ 1 ≤ (bk rs).2 ∧ (rs ≠ [] → (bk rs).2 < (bk rs).1) := by
  induction rs with
  | nil => exact ⟨by decide, by decide, fun z => absurd rfl z⟩
  | cons r rs ih =>
    obtain ⟨a, b, _⟩ := ih fun x i => h x (List.mem_cons_of_mem _ i)
    have hr := h r List.mem_cons_self
    have : 1 * (bk rs).1 ≤ r * (bk rs).1 := Int.mul_le_mul_of_nonneg_right hr (by omega)
    exact ⟨by show 1 ≤ (bk rs).2 + r * (bk rs).1; omega, a, fun _ => by show (bk rs).1 < (bk rs).2 + r * (bk rs).1; omega⟩
/-- the middle by its parts: of the low and the high one -/
theorem eL_bk (b : Bool) (p : Nt) (rs : List Int) : mid (eL b p rs) = (if b then ((bk rs).2 * p.1.1 + (bk rs).1 * p.2.1, (bk rs).2 * p.1.2 + (bk rs).1 * p.2.2) else ((bk rs).1 * p.1.1 + (bk rs).2 * p.2.1, (bk rs).1 * p.1.2 + (bk rs).2 * p.2.2)) := by
  induction rs generalizing b p with
  | nil => cases b <;> simp [eL, bk, mid]
  | cons r rs ih =>
    cases b with
    | false =>
      show mid (eL true _ rs) = _
      rw [ih]
      simp only [bk, if_true, Bool.false_eq_true, if_false]
      congr 1 <;> grind
    | true =>
      show mid (eL false _ rs) = _
      rw [ih]
      simp only [bk, if_true, Bool.false_eq_true, if_false]
      congr 1 <;> grind
def p0 (w : Int) : Nt := ((w, 1), (w + 1, 1))
theorem p0_gd (w : Int) : Gd (p0 w) := ⟨by show (w + 1) * 1 - w * 1 = 1; omega, Int.le_refl 1, Int.le_refl 1⟩
/-- the turn at which a road of these runs ends -/
def md (w : Int) (rs : List Int) : Vc := mid (eL false (p0 w) rs)
theorem md_bk (w : Int) (rs : List Int) : md w rs = (w * ((bk rs).1 + (bk rs).2) + (bk rs).2, (bk rs).1 + (bk rs).2) := by
  unfold md
  rw [eL_bk]
  simp only [Bool.false_eq_true, if_false, p0]
  congr 1 <;> grind
/-- the last run has one letter more -/
def al : List Int → List Int
  | [] => []
  | [r] => [r + 1]
  | r :: s :: l => r :: al (s :: l)
/-- one step of Euclid's walk -/
theorem eu_step {r : Int} {rs : List Int} (h : Ps rs) (hr : 1 ≤ r) : (rs ≠ [] → (bk (r :: rs)).1.fdiv (bk (r :: rs)).2 = r ∧ (bk (r :: rs)).1.fmod (bk (r :: rs)).2 = (bk rs).2) ∧ (rs = [] → (bk (r :: rs)).1.fdiv (bk (r :: rs)).2 = r + 1 ∧ (bk (r :: rs)).1.fmod (bk (r :: rs)).2 = 0) := by
  obtain ⟨a, b, c⟩ := bk_pos h
  have e : (bk (r :: rs)) = ((bk rs).2 + r * (bk rs).1, (bk rs).1) := rfl
  rw [e]
  constructor
  · intro n
    have lt := c n
    simp only
    constructor
    · rw [Int.fdiv_eq_ediv_of_nonneg _ (by omega), Int.add_mul_ediv_right _ _ (by omega), Int.ediv_eq_zero_of_lt (by omega) lt]
      omega
    · rw [Int.fmod_eq_emod_of_nonneg _ (by omega), Int.add_mul_emod_self_right, Int.emod_eq_of_lt (by omega) lt]
  · rintro rfl
    constructor
    · show ((1 : Int) + r * 1).fdiv 1 = r + 1
      rw [Int.fdiv_one]
      omega
    · show ((1 : Int) + r * 1).fmod 1 = 0
      rw [Int.fmod_one]
/-- the runs' Euclid starts here -/
def up (rs : List Int) : List Int := match rs with
  | [] => [1]
  | r :: l => (r + 1) :: l
theorem up_bk {rs : List Int} : bk (up rs) = ((bk rs).1 + (bk rs).2, (bk rs).2) := by
  cases rs with
  | nil => rfl
  | cons r l =>
    show ((bk l).2 + (r + 1) * (bk l).1, (bk l).1) = ((bk l).2 + r * (bk l).1 + (bk l).1, (bk l).1)
    congr 1
    grind
theorem up_ps {rs : List Int} (h : Can rs) : Ps (up rs) := by
  cases rs with
  | nil => exact fun r i => by rw [List.mem_singleton.mp i]; decide
  | cons r l =>
    have := h.hd
    intro x i
    rcases List.mem_cons.mp i with rfl | i
    · omega
    · exact h.tl x i
theorem bk_can {rs : List Int} (h : Can rs) : 1 ≤ (bk rs).1 ∧ 1 ≤ (bk rs).2 := by
  cases rs with
  | nil => exact ⟨by decide, by decide⟩
  | cons r l =>
    obtain ⟨a, b, _⟩ := bk_pos h.tl
    have hr := h.hd
    have : 0 ≤ r * (bk l).1 := Int.mul_nonneg hr (by omega)
    exact ⟨by show 1 ≤ (bk l).2 + r * (bk l).1; omega, a⟩
theorem bk_gcd (rs : List Int) : Int.gcd (bk rs).1 (bk rs).2 = 1 := by
  induction rs with
  | nil => rfl
  | cons r rs ih =>
    show Int.gcd ((bk rs).2 + r * (bk rs).1) (bk rs).1 = 1
    rw [Int.gcd_comm, Int.gcd_add_mul_right_right]
    exact ih
end Rd
end
section
set_option Elab.async false
set_option linter.all false
set_option maxRecDepth 100000
set_option maxHeartbeats 4000000
/-! ### enumerate(a tuple): the library has it of lists and texts -/
namespace PySem
open AutoSeq1 (wpAny_loadPart')
theorem meets_enumerate_newT (l : Addr) (items : Array Value) (n : Nat) (dct : Option Addr) (sl : Array (Option Value)) :
    Meets (Builtin.«enumerate.__new__» ⟨[.type "enumerate", .ref l], []⟩) (fun _ R s => s.heap.get? l = some { cls := .type "tuple", dict := dct, data := .seq items n, slots := sl } ∧
      R (.ok (.ret (.ref (s.heap.push { cls := .type "tuple_iterator", data := .fields #[.ref l, .int 0 0] }).objs.size)))
        { s with heap := (s.heap.push { cls := .type "tuple_iterator", data := .fields #[.ref l, .int 0 0] }).push { cls := .type "enumerate", data := .fields #[.none, .bool false, .ref s.heap.objs.size, rawInt 0, .none, .none] } }) :=
  .of_wp fun prog w A R s h => by
    obtain ⟨hp, g, d, tk, os⟩ := s; obtain ⟨hl, h⟩ := h
    have hsub := sub_enumerate
    have hL : Heap.IsTuple (Shared.heap ⟨hp, g, d, tk, os⟩) l items := ⟨_, hl, rfl, n, rfl⟩
    wp_walk using wpAny_loadPart' hl
    refine wpAny_stack_any fun st => wpAny_pure ?_
    split
    · rename_i c _ _ _ _ _
      cases (c == Value.type "enumerate")
      · wp_walk using wpAny_loadPart' hl, wpAny_pyIter_tuple hL
        exact ⟨_, rfl, h⟩
      · wp_walk using wpAny_loadPart' hl, wpAny_pyIter_tuple hL
        exact ⟨_, rfl, h⟩
    · wp_walk using wpAny_loadPart' hl, wpAny_pyIter_tuple hL
      exact ⟨_, rfl, h⟩
section
variable {prog : Program} {w : World} {A : Around} {E : Value → Shared → Prop} {s : Shared}
theorem call_enumerate_tuple {l : Addr} {items : Array Value} {Q : Value → Shared → Prop} (hL : s.heap.IsTuple l items)
    (h : ∀ h', IsEnum h' (s.heap.objs.size + 1) s.heap.objs.size 0 .none → h'.IsTupleIter s.heap.objs.size l 0 → h'.objs.size = s.heap.objs.size + 2 →
      (∀ b o, s.heap.get? b = some o → h'.get? b = some o) → Q (.ref (s.heap.objs.size + 1)) { s with heap := h' }) :
    wpAny (model prog w) A (call (.type "enumerate") [.ref l]) Q E s := by
  obtain ⟨⟨c, dct, dt, sl⟩, hl, hc, n, hd⟩ := hL
  replace hc : c = .type "tuple" := hc
  replace hd : dt = .seq items n := hd
  subst hc hd
  refine callType_new F.called_enumerate (by decide) (F.typeCall_enumerate_1 _) (F.newCall_enumerate_1 _) (fun obj => F.args_object_init_2 obj _) F.entry_enumerate_new
    (meets_enumerate_newT l items n dct sl) ⟨hl, ?_⟩
  have hz : (s.heap.push { cls := .type "tuple_iterator", data := .fields #[.ref l, .int 0 0] }).objs.size = s.heap.objs.size + 1 := Heap.size_push ..
  show _ ∧ _
  rw [hz]
  have he : IsEnum ((s.heap.push { cls := .type "tuple_iterator", data := .fields #[.ref l, .int 0 0] }).push
      { cls := .type "enumerate", data := .fields #[.none, .bool false, .ref s.heap.objs.size, rawInt 0, .none, .none] }) (s.heap.objs.size + 1) s.heap.objs.size 0 .none := by
    have := Heap.get?_push_size (s.heap.push { cls := .type "tuple_iterator", data := .fields #[.ref l, .int 0 0] })
      (o := { cls := .type "enumerate", data := .fields #[.none, .bool false, .ref s.heap.objs.size, rawInt 0, .none, .none] }) rfl
    rw [hz] at this; exact this
  refine ⟨⟨_, he, rfl⟩, h _ he ⟨_, Heap.get?_push_of_some _ (Heap.get?_push_size _ rfl), rfl, rfl⟩ (by rw [Heap.size_push, hz]) fun b o x => Heap.get?_push_of_some _ (Heap.get?_push_of_some _ x)⟩
end
end PySem
namespace L2
open PySem PySem.Spec PyProof.Rows
/-- the tuple at a as it stands at each turn, each item in a new pair -/
def IteT (K : PySem.W.Frag) (a : Addr) : It :=
  ⟨fun i H => ∃ (xs : List V) (x : V), SqT K H a xs ∧ xs[i]? = some x, fun i H v H' => ∃ T x, v = .ref T ∧ H T = none ∧ H' = upd H T (.tup [.int (i : Nat), x]) ∧ ∀ xs, SqT K H a xs → xs[i]? = some x, fun i H => ∃ xs : List V, SqT K H a xs ∧ xs.length = i⟩
theorem turn_enumT {P : Program} {w : World} {K : PySem.W.Frag} {elts : List Expr} {kk : Nat} {tpos : Pos} {a e it : Addr} (hae : a ≠ e) (hai : a ≠ it) :
    Turn P w K (.Tuple elts kk tpos) (IteT K a) [e, it] e (fun i h => (∃ old, IsEnum h e it ((i : Nat) : Int) old) ∧ h.IsTupleIter it a i ∧ e ≠ it) where
  mem := by simp
  obj := fun i h st b hb => by
    obtain ⟨⟨old, he⟩, ⟨o, ho, hc, hd⟩, _⟩ := st
    have e' : b = e ∨ b = it := by simpa using hb
    rcases e' with z | z
    · rw [z]; exact ⟨_, he, fun v q => nomatch q⟩
    · rw [z]; exact ⟨o, ho, fun v q => by rw [hd] at q; cases q⟩
  keep := fun i h h' st k => let ⟨⟨old, he⟩, hi, hne⟩ := st; ⟨⟨old, k e (by simp) _ he⟩, hi.at fun o q => k it (by simp) o q, hne⟩
  item := by
    intro X hP hw hK hc i pins s σ H E I hf st hg
    subst hP hw hK
    obtain ⟨⟨old, he⟩, hit, hne⟩ := st
    obtain ⟨xs, x, hq, hx⟩ := hg
    obtain ⟨its, rv, p, hz⟩ := I.tuple hq
    obtain ⟨u, hu, ru⟩ := rv.get hx
    have hel : e < s.heap.objs.size := Heap.lt_size he
    have hil : it < s.heap.objs.size := by obtain ⟨_, q, _⟩ := hit; exact Heap.lt_size q
    have hi : i < its.toArray.size := by
      have := (List.getElem?_eq_some_iff.mp hu).1
      simpa using this
    have D := Draws.tuple (prog := X.prog) (w := X.w) (A := X.A.in1) (I.ok.hd hc) it a hai its.toArray
    refine wpAny_pyNext_enum_itemD D he ⟨hit, p⟩ hi hne (by simp; exact ⟨hne, hae.symm⟩) fun x' h' tk hx' ho hst hT hsz hk => ?_
    obtain rfl : x' = u := by
      have h1 : its[i]? = some x' := by simpa using hx'
      rw [hu] at h1
      exact (Option.some.inj h1).symm
    obtain ⟨hit', ht'⟩ := hst
    refine ⟨_, rfl, wpAny_letOwnedTupleGo_enum (s := { s with heap := h', toks := tk + 1 }) ho fun h'' he' sb => ?_⟩
    have hT2 : h''.get? s.heap.objs.size = some { cls := .type "tuple", data := .seq #[.int i tk, x'] } := (sb.2 _ (Nat.ne_of_gt hel)).trans hT
    have new : ObjOk X.prog X.w (upd H s.heap.objs.size (.tup [.int (i : Nat), x])) h'' s.heap.objs.size (.tup [.int (i : Nat), x]) :=
      ⟨by show 2 ≤ sizeLine; decide, [.int i tk, x'], .cons ⟨_, rfl⟩ (.cons ru .nil), ⟨_, hT2, rfl, _, rfl⟩⟩
    have I1 : Inv X pins σ (upd H s.heap.objs.size (.tup [.int (i : Nat), x])) { s with heap := h'', toks := tk + 1 } :=
      I.turnedNew (ch := [e, it]) (fun b ob hb q => (sb.2 b (fun z => hb (by simp [z]))).trans (hk b ob (fun z => hb (by simp [z])) (fun z => hb (by simp [z])) q)) hf (Nat.le_refl _) new
    refine ⟨.ref s.heap.objs.size, _, I1, rfl, ⟨_, x, rfl, I.hok.fresh (Nat.le_refl _), rfl, fun ys hy => by rw [I.tuple_inj hy hq]; exact hx⟩, ⟨⟨x', ?_⟩, hit'.at fun o q => (sb.2 it (Ne.symm hne)).trans q, hne⟩, fun b hb => ?_⟩
    · have e1 : ((i + 1 : Nat) : Int) = (i : Int) + 1 := by omega
      rw [e1]; exact he'
    · have hb' : b < s.heap.objs.size := by
        have e' : b = e ∨ b = it := by simpa using hb
        rcases e' with z | z
        · rw [z]; exact hel
        · rw [z]; exact hil
      rw [upd_ne (Nat.ne_of_lt hb')]
      exact (hf b hb).1
  done := by
    intro X hP hw hK hc i pins s σ H E I hf st hg
    subst hP hw hK
    obtain ⟨⟨old, he⟩, hit, hne⟩ := st
    obtain ⟨xs, hq, hx⟩ := hg
    obtain ⟨its, rv, p, hz⟩ := I.tuple hq
    obtain ⟨f0, f1, f2, f3, f4, f5⟩ := hf it (by simp)
    have hl := rv.length
    have D := Draws.tuple (prog := X.prog) (w := X.w) (A := X.A.in1) (I.ok.hd hc) it a hai its.toArray
    have e0 : its.toArray.size = i := by simp; omega
    subst e0
    exact wpAny_pyNext_enum_endD D he ⟨hit, p⟩ fun h' eb => ⟨rfl, I.turned (t' := s.toks) (fun b o hb q => eb b o hb q) f0 f1 f3 f4 f5⟩
  self := fun A i s Q E st h => let ⟨⟨_, he⟩, _⟩ := st; wpAny_pyIter_enum he h
def iEnumT (K : PySem.W.Frag) (ta : TA) : TI := fun σ H R => ta σ H fun vs H1 => ∃ a xs, vs = [.ref a] ∧ ((SqL K H1 a xs ∧ R (Ite K a) H1) ∨ (SqT K H1 a xs ∧ R (IteT K a) H1))
theorem pi_enumT {X : Cx} {e : Expr} {ta : TA} {p pos tpos : Pos} {elts : List Expr} {kk : Nat} (hg : Gl X "enumerate") (hm : X.mg "enumerate" = none) (ha : PA X [e] ta) (hs : starEach [e] X.env = [(false, eval e X.env)] := by rfl) :
    PI X (.Tuple elts kk tpos) (.Call (.Name "enumerate" p) [e] [] pos) (iEnumT X.K ta) := by
  refine ⟨fun pins s σ H R I h => ?_⟩
  refine Call_ (ld_blt I hg hm boot_enumerate (PyProof.Rows.callWith_type1 (thn (ha.run pos pins s σ H _ I h) fun us s1 ⟨vs, H1, I1, r1, q1⟩ => ?_) hs rfl))
  obtain ⟨a, xs, ex, hq⟩ := q1
  subst ex
  cases r1 with
  | cons r rr =>
    cases rr
    cases r
    have fp : ∀ b, b ∈ [s1.heap.objs.size + 1, s1.heap.objs.size] → FpOk X pins H1 b := fun b hb => by
      have e' : b = s1.heap.objs.size + 1 ∨ b = s1.heap.objs.size := by simpa using hb
      have hle : s1.heap.objs.size ≤ b := by
        rcases e' with z | z
        · rw [z]; exact Nat.le_add_right _ _
        · rw [z]; exact Nat.le_refl _
      exact I1.fpOk hle (I1.hok.fresh hle)
    rcases hq with ⟨hq, q⟩ | ⟨hq, q⟩
    · obtain ⟨its, rv, p', hz⟩ := I1.list hq
      refine call_enumerate_list p'.isList fun h' he hit hsz hk => wpAny_pyIter_enum he ?_
      have I2 : Inv X pins σ H1 { s1 with heap := h' } := I1.kept (t' := s1.toks) hk
      exact ⟨s1.heap.objs.size + 1, [s1.heap.objs.size + 1, s1.heap.objs.size], _, _, H1, rfl, I2, turn_enum a (s1.heap.objs.size + 1) s1.heap.objs.size, ⟨⟨.none, he⟩, hit, Nat.succ_ne_self _⟩, fp, q⟩
    · obtain ⟨its, rv, p', hz⟩ := I1.tuple hq
      have al : a < s1.heap.objs.size := by
        obtain ⟨o, ho, _⟩ := p'
        exact Heap.lt_size ho
      refine call_enumerate_tuple p' fun h' he hit hsz hk => wpAny_pyIter_enum he ?_
      have I2 : Inv X pins σ H1 { s1 with heap := h' } := I1.kept (t' := s1.toks) hk
      exact ⟨s1.heap.objs.size + 1, [s1.heap.objs.size + 1, s1.heap.objs.size], _, _, H1, rfl, I2, turn_enumT (Nat.ne_of_lt (Nat.lt_succ_of_lt al)) (Nat.ne_of_lt al), ⟨⟨.none, he⟩, hit, Nat.succ_ne_self _⟩, fp, q⟩
/-! ### sum of a tuple of ints -/
def rSumT (K : PySem.W.Frag) : List V → Hp → VK → Prop := fun vs H Q => ∃ (a : Addr) (ns : List Int), vs = [V.ref a] ∧ SqT K H a (ns.map V.int) ∧ Q (.int ns.sum) H
theorem cr_sumT {X : Cx} (hc : X.calm = true) : CallR X (.builtin "sum") (rSumT X.K) := by
  intro pins s σ H vs us Q I r h
  obtain ⟨a, ns, rfl, hs, q⟩ := h
  obtain ⟨its, rv, hl, _⟩ := I.tuple hs
  rw [Vals.ref1 r]
  obtain ⟨xs, hx⟩ := rv.ints.allInts.items
  have hn : numsOf its.toArray.toList = ns := by rw [show its.toArray.toList = its from rfl, rv.ints.numsOf]
  rw [hx] at hl hn
  rw [nums_intItems] at hn
  refine PySem.W.ktm_sumG (I.ok.hd hc) hl fun h' tk t' hk => ?_
  rw [preSum_eq, List.take_of_length_le (by simp), hn]
  exact ⟨.int _, H, I.kept hk, ⟨_, rfl⟩, q⟩
end L2
end
section
set_option Elab.async false
set_option linter.all false
set_option maxRecDepth 100000
set_option maxHeartbeats 4000000
namespace Sp
open PySem PySem.Spec PyProof.Rows L2
open PySem.W (Frag)
/-! ### flat data: in, not in -/
def Dt.flat : Dt → Option V
  | .non => some .non
  | .bl b => some (.bl b)
  | .int i => some (.int i)
  | .str x => some (.str x)
  | _ => none
def Dt.flats : List Dt → Option (List V)
  | [] => some []
  | d :: l => match Dt.flat d, Dt.flats l with
    | some v, some vs => some (v :: vs)
    | _, _ => none
theorem op_notIn_seq {X : Cx} : OpR X (compareOp .NotIn) (rIn X.K true) := fun pins s σ H x y v u Q I rx ry h => L2.op_notIn_seq pins s σ H x y v u Q I rx ry h.un
theorem op_notIn_seqK {X : Cx} (K : Frag) (hK : X.K = K) : OpR X (compareOp .NotIn) (rIn K true) := by
  subst hK
  exact op_notIn_seq
section
variable {K : Frag} {m : Md} {H0 H : Hp} {L : List (V × Dt)} {x y v w : V} {d : Dt} {ds : List Dt} {Q : VK} {neg : Bool} {ws : List V}
theorem flatE (i : IsV K H v d) (e : Dt.flat d = some w) : v = w ∧ flatV w = true := by
  cases i with
  | non => cases e; exact ⟨rfl, rfl⟩
  | bl => cases e; exact ⟨rfl, rfl⟩
  | int => cases e; exact ⟨rfl, rfl⟩
  | str => cases e; exact ⟨rfl, rfl⟩
  | own o _ _ => cases d <;> first | (cases o; done) | (cases e; done)
  | _ => cases e
theorem flatsE : ∀ {ds : List Dt} {vs ws : List V}, IsVs K H vs ds → Dt.flats ds = some ws → vs = ws ∧ ws.all flatV = true
  | [], vs, ws, i, e => by
    cases i
    cases e
    exact ⟨rfl, rfl⟩
  | d :: l, vs, ws, i, e => by
    cases i with
    | cons a r =>
      unfold Dt.flats at e
      cases e1 : Dt.flat d with
      | none => rw [e1] at e; cases e
      | some v =>
        cases e2 : Dt.flats l with
        | none => rw [e1, e2] at e; cases e
        | some us =>
          rw [e1, e2] at e
          cases e
          obtain ⟨h1, h2⟩ := flatE a e1
          obtain ⟨h3, h4⟩ := flatsE r e2
          exact ⟨by rw [h1, h3], by simp [h2, h4]⟩
theorem inFD (i : IsV K H y (.tup ds)) (e : Dt.flats ds = some ws) (fx : flatV x = true) (q : Q (.bl (if neg then !inV x ws else inV x ws)) H) : rIn K neg x y H Q := by
  obtain ⟨p, vs, rfl, hp, r⟩ := i.tupL
  obtain ⟨rfl, f⟩ := flatsE r e
  exact ⟨⟨p, _, rfl, .inr (SqT.of hp), fx, f, q⟩⟩
/-- a tuple of the written part -/
structure WT (K : Frag) (a : Addr) (ws : List V) : Prop where
  un : ∀ H, SqT K H a ws
theorem inWD {a : Addr} (h : WT K a ws) (f : ws.all flatV = true) (fx : flatV x = true) (q : Q (.bl (if neg then !inV x ws else inV x ws)) H) : rIn K neg x (.ref a) H Q :=
  ⟨⟨a, ws, rfl, .inr (h.un H), fx, f, q⟩⟩
end
/-! ### isinstance(x, (A, B)) -/
def tyS1 : Ty0 → Option String
  | .int => some "int" | .bool => some "bool" | .none => some "NoneType" | .str => some "str" | .tuple => some "tuple" | .list => some "list" | .dict => some "dict" | .own _ => none
structure rIsiTc (K : Frag) (xs : List V) (H : Hp) (Q : VK) : Prop where
  un : rIsiT K xs H Q
theorem call_isiTc {X : Cx} : CallR X (.builtin "isinstance") (rIsiTc X.K) := fun pins s σ H xs us Q I r h => call_isiT pins s σ H xs us Q I r h.un
section
variable {K : Frag} {mg : Str → Option Value} {cs : List Cn} {ts : List Ty0} {m : Md} {H0 H : Hp} {L : List (V × Dt)} {x : V} {d : Dt} {Q : VK}
theorem tupTy {a b : String} (h : Env K m H0 H L) (k : ∀ p H', Env K m H0 H' L → H' p = some (.tup [.ty a, .ty b]) → Q (.ref p) H') : TupD [.ty a, .ty b] H Q :=
  ⟨by show 2 ≤ sizeLine; decide, fun p n => k p _ (h.step (Same.new' n)) upd_same⟩
theorem isiTD (G : G0 K mg cs ts) {p : Addr} {t1 t2 : Ty0} {s1 s2 : String} (h : IsV K H x d) (hp : H p = some (.tup [.ty s1, .ty s2])) (e1 : tyS1 t1 = some s1) (e2 : tyS1 t2 = some s2) (o : okT cs ts d = true) (h1 : t1 ∈ ts) (h2 : t2 ∈ ts)
    (q : Q (.bl (sub0 d.ty t1 || sub0 d.ty t2)) H) : rIsiTc K [x, .ref p] H Q := by
  obtain ⟨o1, o2⟩ := Bool.and_eq_true_iff.mp o
  have k : ∀ {t : Ty0} {s : String}, tyS1 t = some s → tv K t = .type s := fun {t s} e => by
    cases t <;> first | (cases e; done) | (cases e; rfl)
  refine ⟨⟨x, p, _, tv K d.ty, [.type s1, .type s2], sub0 d.ty t1 || sub0 d.ty t2, rfl, hp, .cons (.ty _) (.cons (.ty _) .nil), G.ty h (fun c fs e => ?_), ?_, q⟩⟩
  · rw [e] at o1
    exact of_decide_eq_true o1
  · have a1 := G.kit _ (of_decide_eq_true o2) _ h1
    have a2 := G.kit _ (of_decide_eq_true o2) _ h2
    rw [k e1] at a1
    rw [k e2] at a2
    refine kitAny_cons a1 (fun z => kitAny_cons a2 (fun z2 => by rw [z, z2]; exact kitAny_nil) (fun z2 => by rw [z2]; simp)) (fun z => by rw [z]; rfl)
end
/-! ### enumerate(xs) of a list or a tuple; sum of a tuple -/
structure EnumT (K : Frag) (vs : List V) (H : Hp) (R : It → Hp → Prop) : Prop where
  un : ∃ a xs, vs = [.ref a] ∧ ((SqL K H a xs ∧ R (Ite K a) H) ∨ (SqT K H a xs ∧ R (IteT K a) H))
def iEnumTW (K : Frag) (ta : TA) : TI := fun σ H R => ta σ H fun vs H1 => EnumT K vs H1 R
theorem pi_enumTW {X : Cx} {e : Expr} {ta : TA} {p pos tpos : Pos} {elts : List Expr} {kk : Nat} (hg : Gl X "enumerate") (hm : X.mg "enumerate" = none) (ha : PA X [e] ta) (hs : starEach [e] X.env = [(false, eval e X.env)] := by rfl) :
    PI X (.Tuple elts kk tpos) (.Call (.Name "enumerate" p) [e] [] pos) (iEnumTW X.K ta) := ⟨fun pins s σ H R I h => (pi_enumT hg hm (PA.mono ha) hs).run pins s σ H R I ⟨_, h, fun _ _ y => y.un⟩⟩
structure SumT (K : Frag) (xs : List V) (H : Hp) (Q : VK) : Prop where
  un : L2.rSumT K xs H Q
theorem cr_sumTS {X : Cx} (hc : X.calm = true) : CallR X (.builtin "sum") (SumT X.K) := fun pins s σ H xs us Q I r h => L2.cr_sumT hc pins s σ H xs us Q I r h.un
abbrev iDs (rs : List Int) : List Dt := rs.map Dt.int
theorem ints_some : ∀ rs : List Int, Dt.ints (iDs rs) = some rs
  | [] => rfl
  | r :: rs => by
    show (Dt.ints (iDs rs)).map (r :: ·) = _
    rw [ints_some rs]
    rfl
section
variable {K : Frag} {m : Md} {H0 H : Hp} {L : List (V × Dt)} {x : V} {ds : List Dt} {Q : VK} {rs : List Int} {R : It → Hp → Prop}
theorem wdl_enumT {p : Addr} : WDL K (IteT K p) (enmD 0 ds) [(.ref p, .tup ds)] := by
  have key : ∀ {H : Hp}, (∀ e ∈ [(V.ref p, Dt.tup ds)], IsV K H e.1 e.2) → ∃ vs, SqT K H p vs ∧ IsVs K H vs ds := fun h => by
    obtain ⟨q, vs, e, hq, r⟩ := (h _ List.mem_cons_self).tupL
    cases e
    exact ⟨vs, SqT.of hq, r⟩
  refine ⟨fun i H hi h => ?_, fun H h => ?_, fun i H x H' d hd h y => ?_⟩
  · obtain ⟨vs, s, r⟩ := key h
    rw [enmD_len] at hi
    have hi' : i < vs.length := by rw [r.length]; exact hi
    exact ⟨vs, vs[i], s, List.getElem?_eq_getElem hi'⟩
  · obtain ⟨vs, s, r⟩ := key h
    rw [enmD_len]
    exact ⟨vs, s, r.length⟩
  · obtain ⟨vs, s, r⟩ := key h
    obtain ⟨d', h1, h2⟩ := enmD_get _ _ _ _ hd
    obtain ⟨z, hz, iz⟩ := r.get h1
    obtain ⟨T, x', rfl, hT, rfl, f⟩ := y
    have := f vs s
    rw [hz] at this
    cases this
    rw [h2, Nat.zero_add]
    exact ⟨Same.new' hT, .tup upd_same (.cons (.int _) (.cons (iz.same (Same.new' hT)) .nil))⟩
theorem enumTT (i : IsV K H x (.tup ds)) (k : ∀ J, WDL K J (enmD 0 ds) [(x, .tup ds)] → R J H) : EnumT K [x] H R := by
  obtain ⟨p, vs, rfl, hp, iv⟩ := i.tupL
  exact ⟨p, vs, rfl, .inr ⟨SqT.of hp, k _ wdl_enumT⟩⟩
theorem enumTL (i : IsV K H x (.lst ds)) (k : ∀ J, WDL K J (enmD 0 ds) [(x, .lst ds)] → R J H) : EnumT K [x] H R := by
  obtain ⟨p, vs, rfl, hp, iv⟩ := i.lstE
  exact ⟨p, vs, rfl, .inl ⟨SqL.of hp, k _ wdl_enum⟩⟩
theorem sumTD (i : IsV K H x (.tup (iDs rs))) (q : Q (.int rs.sum) H) : SumT K [x] H Q := by
  obtain ⟨p, vs, rfl, hp, r⟩ := i.tupL
  rw [intsE (ints_some rs) r] at hp
  exact ⟨⟨p, rs, rfl, SqT.of hp, q⟩⟩
end
/-! ### runs as plain data -/
theorem pys_ints : ∀ rs : List Int, Dt.pys (iDs rs) = some (rs.map PyData.int)
  | [] => rfl
  | r :: rs => by
    show (match Dt.py (.int r), Dt.pys (iDs rs) with | some a, some b => some (a :: b) | _, _ => none) = _
    rw [pys_ints rs]
    rfl
theorem py_lst (rs : List Int) : Dt.py (.lst (iDs rs)) = some (.list (rs.map .int)) := by
  unfold Dt.py
  rw [pys_ints]
  rfl
theorem py_tup (rs : List Int) : Dt.py (.tup (iDs rs)) = some (.tuple (rs.map .int)) := by
  unfold Dt.py
  rw [pys_ints]
  rfl
abbrev dRd (w : Int) (rs : List Int) (k : Str) : Dt := .tup [.int w, .tup (iDs rs), .str k]
abbrev pRd (w : Int) (rs : List Int) (k : Str) : PyData := .tuple [.int w, .tuple (rs.map .int), .str k]
theorem py_rd (w : Int) (rs : List Int) (k : Str) : Dt.py (dRd w rs k) = some (pRd w rs k) := by
  show (Dt.pys [.int w, .tup (iDs rs), .str k]).map PyData.tuple = _
  simp only [Dt.pys, py_tup]
  rfl
theorem lay_ints : ∀ rs : List Int, PyData.canLayAll0 (rs.map PyData.int) = true
  | [] => rfl
  | r :: rs => by
    show (PyData.canLay0 (.int r) && PyData.canLayAll0 (rs.map PyData.int)) = true
    rw [lay_ints rs]
    rfl
theorem depth_ints : ∀ rs : List Int, PyData.depthAll (rs.map PyData.int) = 0
  | [] => rfl
  | r :: rs => by
    show max (PyData.depth (.int r)) (PyData.depthAll (rs.map PyData.int)) = 0
    rw [depth_ints rs]
    rfl
theorem sh_lst (rs : List Int) : SeqAt.shaped (.list (rs.map PyData.int)) = true := by
  simp [SeqAt.shaped, PyData.canLay0, PyData.depth, lay_ints, depth_ints]
theorem sh_tup (rs : List Int) : SeqAt.shaped (.tuple (rs.map PyData.int)) = true := by
  simp [SeqAt.shaped, PyData.canLay0, PyData.depth, lay_ints, depth_ints]
theorem sh_rd (w : Int) (rs : List Int) (k : Str) (h : PyData.canLay0 (.str k) = true) : SeqAt.shaped (pRd w rs k) = true := by
  simp [SeqAt.shaped, PyData.canLay0, PyData.canLayAll0, PyData.depth, PyData.depthAll, lay_ints, depth_ints]
  simpa [PyData.canLay0] using h
theorem eqv_runs : ∀ rs ss : List Int, PyData.eqvAll (rs.map PyData.int) (ss.map PyData.int) = decide (rs = ss)
  | [], [] => by simp [PyData.eqvAll]
  | [], s :: ss => by simp [PyData.eqvAll]
  | r :: rs, [] => by simp [PyData.eqvAll]
  | r :: rs, s :: ss => by
    show (PyData.eqv (.int r) (.int s) && PyData.eqvAll (rs.map PyData.int) (ss.map PyData.int)) = _
    rw [eqv_runs rs ss, Bool.eq_iff_iff]
    simp [PyData.eqv]
theorem eqv_lst (rs ss : List Int) : PyData.eqv (.list (rs.map PyData.int)) (.list (ss.map PyData.int)) = decide (rs = ss) := by
  simp only [PyData.eqv]
  exact eqv_runs rs ss
theorem eqv_tup (rs ss : List Int) : PyData.eqv (.tuple (rs.map PyData.int)) (.tuple (ss.map PyData.int)) = decide (rs = ss) := by
  simp only [PyData.eqv]
  exact eqv_runs rs ss
theorem eqv_rd (w v : Int) (rs ss : List Int) (k l : Str) : PyData.eqv (pRd w rs k) (pRd v ss l) = decide (w = v ∧ rs = ss ∧ k = l) := by
  rw [Bool.eq_iff_iff]
  simp [PyData.eqv, PyData.eqvAll, eqv_runs]
end Sp
end
section
set_option Elab.async false
set_option linter.all false
set_option maxRecDepth 100000
set_option maxHeartbeats 4000000
namespace Sp
open PySem PySem.Spec PyProof.Rows L2
open PySem.W (Frag)
theorem noLs_ints : ∀ rs : List Int, noLs (iDs rs) = true
  | [] => rfl
  | r :: rs => by
    show (noL (.int r) && noLs (iDs rs)) = true
    rw [noLs_ints rs]
    rfl
theorem noPs_ints : ∀ rs : List Int, noPs (iDs rs) = true
  | [] => rfl
  | r :: rs => by
    show (noP (.int r) && noPs (iDs rs)) = true
    rw [noPs_ints rs]
    rfl
section
variable {K : Frag} {m m' : Md} {H0 H : Hp} {L L' : List (V × Dt)} {J : It} {ds : List Dt} {L0 : List (V × Dt)} {g : TG} {tt : TT} {te : TE} {vs : List Nat} {σ : L2.St} {Q : VK} {D : Addr} {acc : List Dt}
def PeI (f : Int → Dt) (d : Dt) (o : Option Dt) : Prop := ∃ r, d = .int r ∧ o = some (f r)
theorem fmap_ints {f : Int → Dt} {l r : List Dt} (h : FMap (PeI f) l r) : ∀ rs : List Int, l = iDs rs → r = rs.map f := by
  induction h with
  | nil =>
    intro rs e
    cases rs with
    | nil => rfl
    | cons x xs => cases e
  | @keep d e l r h p ih =>
    intro rs hrs
    obtain ⟨x, rfl, ee⟩ := p
    cases ee
    obtain ⟨a, b, rfl, h1, h2⟩ := List.map_eq_append_iff.mp hrs.symm
    obtain ⟨y, b', rfl, h3, h4⟩ := List.map_eq_cons_iff.mp h2
    rw [List.map_eq_nil_iff] at h4
    subst h4
    cases h3
    rw [ih a h1.symm]
    simp
  | @skip d l r h p ih =>
    intro rs hrs
    obtain ⟨x, rfl, ee⟩ := p
    cases ee
/-- a comprehension over ints, each by its own -/
theorem lcInts {rs : List Int} (f : Int → Dt) (e : Env K m H0 H L) (w : WDL K J (iDs rs) L0) (sub : ∀ x ∈ L0, x ∈ L) (np : m.np L) (hn : rs.length ≤ 1000)
    (hs : ∀ r, r ∈ rs → ∀ D acc H', Env K m H H' ((.ref D, .lst acc) :: L) → g (.int r) (wipe σ vs) H' fun σ2 H2 => wipe σ2 vs = wipe σ vs ∧ tt σ2 H2 fun b H3 =>
      if b = true then te σ2 H3 (LcE K m H D acc (fun d' => PeI f (.int r) (some d'))) else LcK K m H D acc (PeI f (.int r) none) H3)
    (k : ∀ D H', NewD m H0 D → Env K m H0 H' ((.ref D, .lst (rs.map f)) :: L) → Q (.ref D) H') : LcD J g tt te vs σ H Q := by
  refine lcM (fun _ => m) (PeI f) e w sub np (fun _ => .eq) (by rw [List.length_map]; exact Nat.lt_of_le_of_lt hn (by decide)) (fun i d x D acc H' hd fm na ev => ?_) (fun D H' ds' fm na nd ev => ?_)
  · rw [List.getElem?_map] at hd
    obtain ⟨r, hr, rfl⟩ := Option.map_eq_some_iff.mp hd
    obtain rfl := (ev.all _ List.mem_cons_self).intE
    exact hs r (List.mem_of_getElem? hr) D acc H' (ev.sub' fun _ i => List.mem_cons_of_mem _ i)
  · rw [fmap_ints fm rs rfl] at ev
    exact k D H' nd ev
theorem lcE' {H4 : Hp} {y : V} {f : Int → Dt} {r : Int} (h : Env K m H H4 L') (i : IsV K H4 y (f r)) (hD : (.ref D, .lst acc) ∈ L') (nl : noL (f r) = true) : LcE K m H D acc (fun d' => PeI f (.int r) (some d')) y H4 := ⟨L', f r, h, i, hD, nl, r, rfl, rfl⟩
/-- xs.append(y), xs a new list of any length -/
theorem appG {y : V} {d : Dt} (e : Env K m H0 H L) (n : NewD m H0 D) (iD : IsV K H (.ref D) (.lst ds)) (j : IsV K H y d) (nl : noLs (ds ++ [d]) = true) (hl : ds.length ≤ 1000) (L' : List (V × Dt)) (sub : ∀ e ∈ L', e ∈ L ∧ noL e.2 = true)
    (k : ∀ H', Env K m H0 H' ((.ref D, .lst (ds ++ [d])) :: L') → Q .non H') : rAppend (.ref D) [y] H Q := by
  obtain ⟨_, vs, ee, hp, iv⟩ := iD.lstE
  cases ee
  have sl : 1000 < sizeLine := by decide
  exact ⟨D, vs, y, rfl, rfl, hp, by rw [iv.length]; omega, k _ (e.setL n iD L' sub _ (iv.app (.cons j .nil)) nl)⟩
end
theorem bls_map (rs : List Int) : Dt.bls (rs.map fun _ => Dt.bl true) = some (rs.map fun _ => true) := by
  induction rs with
  | nil => rfl
  | cons r rs ih =>
    show (Dt.bls (rs.map fun _ => Dt.bl true)).map (true :: ·) = _
    rw [ih]
    rfl
theorem all_map (rs : List Int) : (rs.map fun _ => true).all id = true := by simp
theorem sIx_none (n : Nat) : HT.sIx n n none = n := rfl
theorem cut_tail (d : Dt) (l : List Dt) : cutD (d :: l) (some 1) none = l := by
  have e : HT.sIx (d :: l).length 0 (some 1) = min 1 (d :: l).length := HT.sIx_nat _ _ 1
  have m : min 1 (d :: l).length = 1 := by simp
  unfold cutD
  rw [e, m, sIx_none]
  simp
theorem cut_ne (d : Dt) (l : List Dt) : ¬ (HT.sIx (d :: l).length 0 (some 1) = 0 ∧ HT.sIx (d :: l).length (d :: l).length none = (d :: l).length) := fun z => by
  have e : HT.sIx (d :: l).length 0 (some 1) = min 1 (d :: l).length := HT.sIx_nat _ _ 1
  have := z.1
  rw [e] at this
  simp at this
/-! ### the roads' data -/
structure Rn (rs : List Int) : Prop where
  can : Rd.Can rs
  len : rs.length ≤ 6
  lt : ∀ r ∈ rs, r < 2 ^ 32
theorem Rn.bi {rs : List Int} {r : Int} (h : Rn rs) (i : r ∈ rs) : r.natAbs < 2 ^ 32 := by
  have := h.can.nn r i
  have := h.lt r i
  omega
abbrev dRoad (w : Int) (rs : List Int) (k : Str) : Dt := .obj .Road [.int w, .tup (iDs rs), .str k, .int rs.sum]
abbrev dNet (a b c d : Int) : Dt := .obj .Net [.step a b, .step c d, .step (a + c) (b + d), .tup [.step a b, .step c d, .step (a + c) (b + d)]]
abbrev netF (p : Rd.Nt) : Dt := dNet p.1.2 p.1.1 p.2.2 p.2.1
/-- the four kinds -/
inductive Kd where
  | edge | first | opn | ended
  deriving DecidableEq
def Kd.str : Kd → Str
  | .edge => "edge" | .first => "first" | .opn => "open" | .ended => "ended"
def Kd.bare : Kd → Bool
  | .edge => true | .first => true | _ => false
structure RdOk (w : Int) (rs : List Int) (k : Kd) : Prop where
  w : w.natAbs < 2 ^ 8
  rn : Rn rs
  b : k.bare = true → rs = []
theorem Kd.inj {k l : Kd} : (k.str = l.str) = (k = l) := by
  cases k <;> cases l <;> simp [Kd.str] <;> decide +kernel
/-! one run more -/
def stp (b : Bool) (p : Rd.Nt) (r : Int) : Rd.Nt := if b then ((p.1.1 + r * p.2.1, p.1.2 + r * p.2.2), p.2) else (p.1, (p.2.1 + r * p.1.1, p.2.2 + r * p.1.2))
theorem eL_cons (b : Bool) (p : Rd.Nt) (r : Int) (rs : List Int) : Rd.eL b p (r :: rs) = Rd.eL (!b) (stp b p r) rs := by cases b <;> rfl
def par : Bool → List Int → Bool
  | b, [] => b
  | b, _ :: l => par (!b) l
theorem eL_snoc (b : Bool) (p : Rd.Nt) (l : List Int) (r : Int) : Rd.eL b p (l ++ [r]) = stp (par b l) (Rd.eL b p l) r := by
  induction l generalizing b p with
  | nil =>
    rw [List.nil_append, eL_cons]
    cases b <;> rfl
  | cons x l ih => rw [List.cons_append, eL_cons, eL_cons, ih]; rfl
theorem par_len : ∀ (b : Bool) (l : List Int), par b l = (b ^^ decide (l.length % 2 = 1))
  | b, [] => by simp [par]
  | b, x :: l => by
    rw [par, par_len (!b) l, List.length_cons]
    by_cases h : l.length % 2 = 1
    · have : ¬ (l.length + 1) % 2 = 1 := by omega
      rw [decide_eq_true h, decide_eq_false this]
      cases b <;> rfl
    · have : (l.length + 1) % 2 = 1 := by omega
      rw [decide_eq_false h, decide_eq_true this]
      cases b <;> rfl
/-- where the road stands behind i runs -/
def stt (w : Int) (rs : List Int) (i : Nat) : Rd.Nt := Rd.eL false (Rd.p0 w) (rs.take i)
theorem stt_0 (w : Int) (rs : List Int) : stt w rs 0 = Rd.p0 w := by
  unfold stt
  rw [List.take_zero]
  rfl
theorem stt_end (w : Int) (rs : List Int) : stt w rs rs.length = Rd.eL false (Rd.p0 w) rs := by
  unfold stt
  rw [List.take_length]
theorem stt_s {w : Int} {rs : List Int} {i : Nat} {r : Int} (h : rs[i]? = some r) : stt w rs (i + 1) = stp (decide (i % 2 = 1)) (stt w rs i) r := by
  unfold stt
  have hi := (List.getElem?_eq_some_iff.mp h).1
  rw [List.take_add_one, h]
  show Rd.eL false (Rd.p0 w) (rs.take i ++ [r]) = _
  rw [eL_snoc, par_len, List.length_take, Nat.min_eq_left (Nat.le_of_lt hi)]
  simp
structure Bd (p : Rd.Nt) (n : Nat) : Prop where
  a : p.1.1.natAbs < 2 ^ n
  b : p.1.2.natAbs < 2 ^ n
  c : p.2.1.natAbs < 2 ^ n
  d : p.2.2.natAbs < 2 ^ n
theorem Bd.mono {p : Rd.Nt} {n m : Nat} (h : Bd p n) (l : n ≤ m) : Bd p m := ⟨nb_le h.a l, nb_le h.b l, nb_le h.c l, nb_le h.d l⟩
theorem bd_mul {x y r : Int} {n : Nat} (hx : x.natAbs < 2 ^ n) (hy : y.natAbs < 2 ^ n) (hr : r.natAbs < 2 ^ 32) : (x + r * y).natAbs < 2 ^ (n + 33) := by
  have b1 : Bi x n := ⟨hx⟩
  have b2 : Bi y n := ⟨hy⟩
  have b3 : Bi r 32 := ⟨hr⟩
  have b4 : Bi (x + r * y) (max n (32 + n) + 1) := inferInstance
  exact nb_le b4.lt (by omega)
theorem Bd.stp {p : Rd.Nt} {n : Nat} (h : Bd p n) {r : Int} (hr : r.natAbs < 2 ^ 32) (b : Bool) : Bd (stp b p r) (n + 33) := by
  cases b with
  | false => exact ⟨nb_le h.a (by omega), nb_le h.b (by omega), bd_mul h.c h.a hr, bd_mul h.d h.b hr⟩
  | true => exact ⟨bd_mul h.a h.c hr, bd_mul h.b h.d hr, nb_le h.c (by omega), nb_le h.d (by omega)⟩
theorem eL_bd (b : Bool) (p : Rd.Nt) {n : Nat} (h : Bd p n) : ∀ rs : List Int, (∀ r ∈ rs, r.natAbs < 2 ^ 32) → Bd (Rd.eL b p rs) (n + 33 * rs.length) := by
  intro rs
  induction rs generalizing b p n with
  | nil =>
    intro _
    cases b <;> exact h
  | cons r rs ih =>
    intro k
    rw [eL_cons]
    have := ih (!b) (Sp.stp b p r) (h.stp (k r List.mem_cons_self) b) fun x i => k x (List.mem_cons_of_mem _ i)
    exact this.mono (by rw [List.length_cons]; omega)
theorem p0_bd {w : Int} (hw : w.natAbs < 2 ^ 8) : Bd (Rd.p0 w) 9 := ⟨nb_le hw (by decide), by show (1 : Int).natAbs < _; decide, by show (w + 1).natAbs < 2 ^ 9; omega, by show (1 : Int).natAbs < _; decide⟩
theorem stt_bd {w : Int} {rs : List Int} (hw : w.natAbs < 2 ^ 8) (h : Rn rs) (i : Nat) : Bd (stt w rs i) 210 := by
  have := eL_bd false (Rd.p0 w) (p0_bd hw) (rs.take i) fun r m => h.bi (List.mem_of_mem_take m)
  refine this.mono ?_
  have hl := h.len
  have : (rs.take i).length ≤ rs.length := by rw [List.length_take]; omega
  omega
theorem stt_gd {w : Int} {rs : List Int} (h : Rn rs) (i : Nat) : Rd.Gd (stt w rs i) := by
  unfold stt
  rw [Rd.eL_go _ _ _ fun r m => h.can.nn r (List.mem_of_mem_take m)]
  exact (Rd.p0_gd w).gof _
theorem end_bd {w : Int} {rs : List Int} (hw : w.natAbs < 2 ^ 8) (h : Rn rs) : Bd (Rd.eL false (Rd.p0 w) rs) 210 := by
  rw [← stt_end]
  exact stt_bd hw h _
theorem end_gd {w : Int} {rs : List Int} (h : Rn rs) : Rd.Gd (Rd.eL false (Rd.p0 w) rs) := by
  rw [← stt_end]
  exact stt_gd h _
/-! promises -/
inductive RNever : List Dt → Out → Prop
inductive RIsList : List Dt → Out → Prop
  | mk {d : Dt} : RIsList [d] (.ok (.bl (sub0 d.ty .list || sub0 d.ty .tuple)))
inductive RAreRuns : List Dt → Out → Prop
  | ok {rs : List Int} (h : Rn rs) : RAreRuns [.tup (iDs rs)] (.ok (.bl true))
inductive RInitRd : List Dt → Out → Prop
  | ok {w : Int} {rs : List Int} {k : Kd} (h : RdOk w rs k) : RInitRd [.int w, .tup (iDs rs), .str k.str] (.ok (dRoad w rs k.str))
inductive REqRd : List Dt → Out → Prop
  | mk {w v : Int} {rs ss : List Int} {k l : Kd} : REqRd [dRoad w rs k.str, dRoad v ss l.str] (.ok (.bl (decide (w = v ∧ rs = ss ∧ k = l))))
inductive RInitN : List Dt → Out → Prop
  | ok {a b c d : Int} (ha : 0 < a) (hu : upS c d = true) (hc : crs a b c d = 1) : RInitN [.step a b, .step c d] (.ok (dNet a b c d))
inductive RNetL : List Dt → Out → Prop
  | ok {w : Int} {rs : List Int} (hw : w.natAbs < 2 ^ 8) (h : Rn rs) : RNetL [.int w, .tup (iDs rs)] (.ok (netF (Rd.eL false (Rd.p0 w) rs)))
inductive RNetAt : List Dt → Out → Prop
  | ok {w : Int} {rs : List Int} (hw : w.natAbs < 2 ^ 8) (h : Rn rs) : RNetAt [dRoad w rs "open"] (.ok (netF (Rd.eL false (Rd.p0 w) rs)))
inductive RTurnsOf : List Dt → Out → Prop
  | ok {w : Int} {rs : List Int} (hw : w.natAbs < 2 ^ 8) (h : Rn rs) : RTurnsOf [dRoad w rs "open"] (.ok (.tup [.rat (Rat.divInt (Rd.eL false (Rd.p0 w) rs).1.1 (Rd.eL false (Rd.p0 w) rs).1.2), .rat (Rat.divInt (Rd.eL false (Rd.p0 w) rs).2.1 (Rd.eL false (Rd.p0 w) rs).2.2)]))
inductive RNeedR : List Dt → Out → Prop
  | r {q : Rat} {p : Dt} : RNeedR [.rat q, p] (.ok (.rat q))
/-- the turn at which a road of these runs ends -/
abbrev mdQ (w : Int) (rs : List Int) : Rat := Rat.divInt (Rd.md w rs).1 (Rd.md w rs).2
inductive RRunsOf : List Dt → Out → Prop
  | ok {w : Int} {rs : List Int} (hw : w.natAbs < 2 ^ 8) (h : Rn rs) : RRunsOf [.rat (mdQ w rs)] (.ok (.tup (iDs rs)))
inductive RRoadOf : List Dt → Out → Prop
  | ok {w : Int} {rs : List Int} (hw : w.natAbs < 2 ^ 8) (h : Rn rs) : RRoadOf [.rat (mdQ w rs)] (.ok (dRoad w rs "ended"))
inductive RAlike : List Dt → Out → Prop
  | ok {rs ss : List Int} (h : Rn rs) (k : Rn ss) : RAlike [.tup (iDs rs), .tup (iDs ss)] (.ok (.tup (iDs (Rd.bl rs ss))))
inductive RIsBeg : List Dt → Out → Prop
  | ok {rs ss : List Int} (h : Rn rs) (k : Rn ss) : RIsBeg [.tup (iDs rs), .tup (iDs ss)] (.ok (.bl (decide (Rd.bl rs ss = rs))))
/-- one road goes ahead of another one -/
def ahF (w : Int) (rs : List Int) (k : Kd) (v : Int) (ss : List Int) (l : Kd) : Bool :=
  if w = v ∧ rs = ss ∧ k = l then true else if w ≠ v ∨ k = .edge ∨ k = .ended ∨ l = .edge ∨ l = .first then false else if k = .first then true else decide (Rd.bl rs ss = rs)
/-- the last road ahead of both -/
def cmF (w : Int) (rs : List Int) (k : Kd) (v : Int) (ss : List Int) (l : Kd) : Option (List Int × Kd) :=
  if w = v ∧ rs = ss ∧ k = l then some (rs, k) else if w ≠ v ∨ k = .edge ∨ l = .edge then none else if k = .first ∨ l = .first then some ([], .first) else some (Rd.bl rs ss, .opn)
def cmD (w : Int) : Option (List Int × Kd) → Dt
  | some (rs, k) => dRoad w rs k.str
  | none => .non
inductive RAhead : List Dt → Out → Prop
  | ok {w v : Int} {rs ss : List Int} {k l : Kd} (h : RdOk w rs k) (h2 : RdOk v ss l) : RAhead [dRoad w rs k.str, dRoad v ss l.str] (.ok (.bl (ahF w rs k v ss l)))
  | one {d e : Dt} (h : d.is .Road = false) : RAhead [d, e] (.err "BadRoad" (part "one"))
  | oth {w : Int} {rs : List Int} {k : Kd} {e : Dt} (h : e.is .Road = false) : RAhead [dRoad w rs k.str, e] (.err "BadRoad" (part "other"))
inductive RCommon : List Dt → Out → Prop
  | ok {w v : Int} {rs ss : List Int} {k l : Kd} (h : RdOk w rs k) (h2 : RdOk v ss l) : RCommon [dRoad w rs k.str, dRoad v ss l.str] (.ok (cmD w (cmF w rs k v ss l)))
  | one {d e : Dt} (h : d.is .Road = false) : RCommon [d, e] (.err "BadRoad" (part "one"))
  | oth {w : Int} {rs : List Int} {k : Kd} {e : Dt} (h : e.is .Road = false) : RCommon [dRoad w rs k.str, e] (.err "BadRoad" (part "other"))
end Sp
end
section
set_option Elab.async false
set_option linter.all false
set_option maxRecDepth 100000
set_option maxHeartbeats 4000000
namespace Sp
open PySem PySem.Spec PyProof.Rows L2
open PySem.W (Frag)
/-! ### the turn at which a road ends, in lowest terms -/
theorem md_gcd (w : Int) (rs : List Int) : Int.gcd (Rd.md w rs).1 (Rd.md w rs).2 = 1 := by
  rw [Rd.md_bk]
  show Int.gcd (w * ((Rd.bk rs).1 + (Rd.bk rs).2) + (Rd.bk rs).2) ((Rd.bk rs).1 + (Rd.bk rs).2) = 1
  have e : w * ((Rd.bk rs).1 + (Rd.bk rs).2) + (Rd.bk rs).2 = (Rd.bk rs).2 + w * ((Rd.bk rs).1 + (Rd.bk rs).2) := by omega
  rw [e, Int.gcd_comm, Int.gcd_add_mul_right_right, Int.gcd_comm]
  simp
  rw [Int.gcd_comm]
  exact Rd.bk_gcd rs
theorem divInt_low {n d : Int} (hd : 0 < d) (g : Int.gcd n d = 1) : (Rat.divInt n d).num = n ∧ ((Rat.divInt n d).den : Int) = d := by
  have z : d ≠ 0 := by omega
  have c : comm n d = 1 := by
    unfold comm
    rw [if_pos hd]
    have : Nat.gcd n.natAbs d.natAbs = 1 := g
    rw [this]
    rfl
  have h1 := comm_num (a := n) z
  have h2 := comm_den (a := n) z
  rw [c, Int.fdiv_one] at h1 h2
  exact ⟨h1.symm, h2.symm⟩
theorem mdQ_low {w : Int} {rs : List Int} (h : Rn rs) : (mdQ w rs).num = w * ((Rd.bk rs).1 + (Rd.bk rs).2) + (Rd.bk rs).2 ∧ ((mdQ w rs).den : Int) = (Rd.bk rs).1 + (Rd.bk rs).2 := by
  obtain ⟨a, b⟩ := Rd.bk_can h.can
  have g := md_gcd w rs
  have e := Rd.md_bk w rs
  have := divInt_low (n := (Rd.md w rs).1) (d := (Rd.md w rs).2) (by rw [e]; show 0 < (Rd.bk rs).1 + (Rd.bk rs).2; omega) g
  rw [e] at this
  unfold mdQ
  rw [e]
  exact this
theorem mdQ_mod {w : Int} {rs : List Int} (h : Rn rs) : (mdQ w rs).num % ((mdQ w rs).den : Int) = (Rd.bk rs).2 := by
  obtain ⟨a, b⟩ := Rd.bk_can h.can
  obtain ⟨e1, e2⟩ := mdQ_low (w := w) h
  rw [e1, e2, Int.add_comm, Int.add_mul_emod_self_right, Int.emod_eq_of_lt (by omega) (by omega)]
theorem mdQ_floor {w : Int} {rs : List Int} (h : Rn rs) : (mdQ w rs).floor = w := by
  obtain ⟨a, b⟩ := Rd.bk_can h.can
  obtain ⟨e1, e2⟩ := mdQ_low (w := w) h
  rw [Rat.floor_def, e1, e2, Int.add_comm, Int.add_mul_ediv_right _ _ (by omega), Int.ediv_eq_zero_of_lt (by omega) (by omega)]
  omega
theorem mdQ_whole {w : Int} {rs : List Int} (h : Rn rs) : decide ((mdQ w rs).den = 1) = false := by
  obtain ⟨a, b⟩ := Rd.bk_can h.can
  obtain ⟨e1, e2⟩ := mdQ_low (w := w) h
  exact decide_eq_false fun z => by
    rw [z] at e2
    have : ((1 : Nat) : Int) = 1 := rfl
    omega
/-! ### Euclid's walk over the runs -/
theorem al_snoc (l : List Int) (r : Int) : Rd.al (l ++ [r]) = l ++ [r + 1] := by
  induction l with
  | nil => rfl
  | cons x l ih =>
    cases l with
    | nil => rfl
    | cons y l =>
      show x :: Rd.al (y :: l ++ [r]) = _
      rw [ih]
      rfl
theorem snoc_of {l : List Int} (h : l ≠ []) : ∃ m t, l = m ++ [t] := ⟨l.dropLast, l.getLast h, (List.dropLast_concat_getLast h).symm⟩
/-- where Euclid's walk stands: left, right, the runs so far -/
inductive Ev6 (us : List Int) : Int → Int → List Int → Prop
  | go (j : Nat) (hj : j < us.length) : Ev6 us (Rd.bk (us.drop j)).1 (Rd.bk (us.drop j)).2 (us.take j)
  | done : Ev6 us 1 0 (Rd.al us)
theorem drop_cons {us : List Int} {j : Nat} (hj : j < us.length) : us.drop j = us[j] :: us.drop (j + 1) := List.drop_eq_getElem_cons hj
theorem Ev6.start {us : List Int} (h : us ≠ []) : Ev6 us (Rd.bk us).1 (Rd.bk us).2 [] := .go 0 (by cases us with
  | nil => exact absurd rfl h
  | cons x l => simp)
/-- one step: the quotient comes in, right goes left -/
theorem Ev6.step {us : List Int} (hp : Rd.Ps us) {l r : Int} {acc : List Int} (e : Ev6 us l r acc) (hr : r ≠ 0) : 0 < r ∧ Ev6 us r (l % r) (acc ++ [l.fdiv r]) ∧ 0 ≤ l % r ∧ l % r < r := by
  cases e with
  | done => exact absurd rfl hr
  | go j hj =>
    have hp2 : Rd.Ps (us.drop (j + 1)) := fun x i => hp x (List.mem_of_mem_drop i)
    have h1 := hp us[j] (List.getElem_mem hj)
    obtain ⟨s1, s2⟩ := Rd.eu_step hp2 h1
    obtain ⟨a, b, c⟩ := Rd.bk_pos hp2
    have hb : (Rd.bk (us.drop j)).2 = (Rd.bk (us.drop (j + 1))).1 := by rw [drop_cons hj]; rfl
    have tk : us.take (j + 1) = us.take j ++ [us[j]] := by rw [List.take_add_one, List.getElem?_eq_getElem hj]; rfl
    rw [drop_cons hj] at hr ⊢
    have pos : 0 < (Rd.bk (us[j] :: us.drop (j + 1))).2 := by show 0 < (Rd.bk (us.drop (j + 1))).1; omega
    rw [← Int.fmod_eq_emod_of_nonneg _ (by omega)]
    refine ⟨pos, ?_, Int.fmod_nonneg_of_pos _ pos, Int.fmod_lt_of_pos _ pos⟩
    by_cases n : us.drop (j + 1) = []
    · obtain ⟨f1, f2⟩ := s2 n
      rw [f1, f2]
      have e1 : (Rd.bk (us[j] :: us.drop (j + 1))).2 = 1 := by rw [n]; rfl
      rw [e1]
      have e2 : us.take j ++ [us[j] + 1] = Rd.al us := by
        have : us = us.take j ++ [us[j]] := by rw [← tk, List.take_of_length_le (List.drop_eq_nil_iff.mp n)]
        conv => rhs; rw [this]
        rw [al_snoc]
      rw [e2]
      exact .done
    · obtain ⟨f1, f2⟩ := s1 n
      rw [f1, f2, ← tk]
      have hj2 : j + 1 < us.length := by
        rcases Nat.lt_or_ge (j + 1) us.length with k | k
        · exact k
        · exact absurd (List.drop_eq_nil_iff.mpr k) n
      exact .go (j + 1) hj2
theorem Ev6.last {us : List Int} (hp : Rd.Ps us) {l : Int} {acc : List Int} (e : Ev6 us l 0 acc) : acc = Rd.al us := by
  generalize hz : (0 : Int) = z at e
  cases e with
  | done => rfl
  | go j hj =>
    obtain ⟨a, b, c⟩ := Rd.bk_pos (rs := us.drop j) fun x i => hp x (List.mem_of_mem_drop i)
    omega
theorem Ev6.len {us : List Int} {l r : Int} {acc : List Int} (e : Ev6 us l r acc) : acc.length ≤ us.length := by
  cases e with
  | go j hj => rw [List.length_take]; omega
  | done =>
    rcases List.eq_nil_or_concat us with rfl | ⟨m, t, rfl⟩
    · exact Nat.le_refl _
    · rw [List.concat_eq_append, al_snoc]
      simp
/-! ### what two lists of runs have alike, item by item -/
theorem ba_pre : ∀ (i : Nat) (rs ss : List Int), rs.take i = ss.take i → i ≤ rs.length → i ≤ ss.length → Rd.ba rs ss = rs.take i ++ Rd.ba (rs.drop i) (ss.drop i)
  | 0, _, _, _, _, _ => rfl
  | i + 1, [], _, _, h, _ => by simp at h
  | i + 1, _ :: _, [], _, _, h => by simp at h
  | i + 1, r :: rs, s :: ss, e, h, k => by
    rw [List.take_succ_cons, List.take_succ_cons] at e
    obtain ⟨rfl, e2⟩ := List.cons.inj e
    have := ba_pre i rs ss e2 (by simpa using h) (by simpa using k)
    rw [List.take_succ_cons, List.drop_succ_cons, List.drop_succ_cons, List.cons_append, ← this]
    have c : Rd.ba (r :: rs) (r :: ss) = if r = r then r :: Rd.ba rs ss else [min r r] := rfl
    rw [c, if_pos rfl]
theorem ba_ne {rs ss : List Int} {i : Nat} {r s : Int} (e : rs.take i = ss.take i) (hr : rs[i]? = some r) (hs : ss[i]? = some s) (n : r ≠ s) : Rd.ba rs ss = rs.take i ++ [if s < r then s else r] := by
  obtain ⟨h1, rfl⟩ := List.getElem?_eq_some_iff.mp hr
  obtain ⟨h2, rfl⟩ := List.getElem?_eq_some_iff.mp hs
  rw [ba_pre i rs ss e (Nat.le_of_lt h1) (Nat.le_of_lt h2), List.drop_eq_getElem_cons h1, List.drop_eq_getElem_cons h2]
  unfold Rd.ba
  rw [if_neg n]
  congr 2
  omega
theorem ba_end {rs ss : List Int} {i : Nat} (e : rs.take i = ss.take i) (hi : i = min rs.length ss.length) : Rd.ba rs ss = rs.take i := by
  rw [ba_pre i rs ss e (by omega) (by omega)]
  have : rs.drop i = [] ∨ ss.drop i = [] := by
    rcases Nat.le_total rs.length ss.length with h | h
    · exact .inl (List.drop_eq_nil_iff.mpr (by omega))
    · exact .inr (List.drop_eq_nil_iff.mpr (by omega))
  rcases this with h | h
  · rw [h]
    cases ss.drop i <;> simp [Rd.ba]
  · rw [h]
    cases rs.drop i <;> simp [Rd.ba]
theorem ba_eq {rs ss : List Int} {i : Nat} {r s : Int} (e : rs.take i = ss.take i) (hr : rs[i]? = some r) (hs : ss[i]? = some s) (n : r = s) : rs.take (i + 1) = ss.take (i + 1) ∧ rs.take (i + 1) = rs.take i ++ [if s < r then s else r] := by
  subst n
  rw [List.take_add_one, List.take_add_one, hr, hs, e]
  simp
theorem ba_len {rs ss : List Int} : (Rd.ba rs ss).length ≤ rs.length := by
  induction rs generalizing ss with
  | nil => cases ss <;> simp [Rd.ba]
  | cons r rs ih =>
    cases ss with
    | nil => simp [Rd.ba]
    | cons s ss =>
      unfold Rd.ba
      split
      · have := ih (ss := ss)
        simp
        omega
      · simp
theorem ba_lt {rs ss : List Int} {n : Int} (h : ∀ r ∈ rs, r < n) : ∀ r ∈ Rd.ba rs ss, r < n := by
  induction rs generalizing ss with
  | nil => intro r i; cases ss <;> simp [Rd.ba] at i
  | cons x rs ih =>
    cases ss with
    | nil => intro r i; simp [Rd.ba] at i
    | cons s ss =>
      have hx := h x List.mem_cons_self
      unfold Rd.ba
      split
      · intro r i
        rcases List.mem_cons.mp i with rfl | i
        · exact hx
        · exact ih (fun y j => h y (List.mem_cons_of_mem _ j)) r i
      · intro r i
        rw [List.mem_singleton.mp i]
        omega
theorem bl_rn {rs ss : List Int} (h : Rn rs) (k : Rn ss) : Rn (Rd.bl rs ss) := by
  refine ⟨Rd.bl_can h.can k.can, ?_, ?_⟩
  · unfold Rd.bl
    split
    · simp
    · exact Nat.le_trans ba_len h.len
  · unfold Rd.bl
    split
    · intro r i; cases i
    · exact ba_lt h.lt
/-- a loop whose end is wanted in more than one place -/
theorem forK {J : It} {g : TG} {tb : TS} {D : Ends} {σ : L2.St} {H : Hp} (B : L2.St → Hp → Prop) (fin : ∀ σ Hh, B σ Hh → D.nx σ Hh) (loop : (∀ σ Hh, B σ Hh → D.nx σ Hh) → ForD J g tb D σ H) : ForD J g tb D σ H := loop fin
/-! ### xs[i] op= e -/
structure GetIt (K : Frag) (x y : V) (H : Hp) (Q : VK) : Prop where
  un : rIxL K x y H Q
theorem get_it {X : Cx} : PGet X (GetIt X.K) := fun pins s σ H x y v u Q I rx ry h => get_list pins s σ H x y v u Q I rx ry h.un.un
theorem getIt {K : Frag} {H : Hp} {x : V} {l : List Dt} {i : Int} {n : Nat} {d : Dt} {Q : VK} (h : IsV K H x (.lst l)) (e : ixN l.length i = some n) (g : l[n]? = some d) (k : AftS K H d fun v => Q v H) : GetIt K x (.int i) H Q := ⟨ixLN h e g k⟩
theorem ixN_end (n : Nat) : ixN (n + 1) (-1) = some n := by
  unfold ixN
  rw [if_neg (by omega), if_pos (by omega)]
  congr 1
  omega
theorem set_last (l : List Int) (d e : Dt) : (iDs l ++ [d]).set l.length e = iDs l ++ [e] := by
  have : l.length = (iDs l).length := (List.length_map ..).symm
  rw [this]
  simp
theorem ixN_0 (n : Nat) : ixN (n + 1) 0 = some 0 := by
  unfold ixN
  rw [if_pos (by omega), if_pos (by omega)]
  rfl
end Sp
end
section
set_option Elab.async false
set_option linter.all false
set_option maxRecDepth 100000
set_option maxHeartbeats 4000000
namespace Sp
open PySem PySem.Spec PyProof.Rows L2
open PySem.W (Frag)
/-! ### k42: what the law reckons by itself -/
abbrev vD (a : Rd.Vc) : Dt := .tup [.int a.1, .int a.2]
abbrev ndD (p : Rd.Nt) : Dt := .tup [vD p.1, vD p.2]
structure VB (v : Rd.Vc) : Prop where
  a : v.1.natAbs < 2 ^ 220
  b : v.2.natAbs < 2 ^ 220
abbrev eF (w : Int) (rs : List Int) : Rd.Nt := Rd.eL false (Rd.p0 w) rs
theorem eF_md (w : Int) (rs : List Int) : Rd.md w rs = Rd.mid (eF w rs) := rfl
structure EB (p : Rd.Nt) : Prop where
  g : Rd.Gd p
  l : VB p.1
  h : VB p.2
  m : VB (Rd.mid p)
theorem eF_eb {w : Int} {rs : List Int} (hw : w.natAbs < 2 ^ 8) (h : Rn rs) : EB (eF w rs) := by
  have b := end_bd hw h
  have b1 : Bi (eF w rs).1.1 210 := ⟨b.a⟩
  have b2 : Bi (eF w rs).1.2 210 := ⟨b.b⟩
  have b3 : Bi (eF w rs).2.1 210 := ⟨b.c⟩
  have b4 : Bi (eF w rs).2.2 210 := ⟨b.d⟩
  refine ⟨end_gd h, ⟨nb_le (a := 210) (n := 220) b.a (by decide), nb_le (a := 210) (n := 220) b.b (by decide)⟩, ⟨nb_le (a := 210) (n := 220) b.c (by decide), nb_le (a := 210) (n := 220) b.d (by decide)⟩, ⟨?_, ?_⟩⟩
  · exact biL (i := (eF w rs).1.1 + (eF w rs).2.1) 211
  · exact biL (i := (eF w rs).1.2 + (eF w rs).2.2) 211
theorem eF_pre {w : Int} {rs ss : List Int} (h : Rn rs) (k : Rn ss) : decide (Rd.bl rs ss = rs) = Rd.wi (eF w rs) (eF w ss) ∧ decide (Rd.bl rs ss = rs) = Rd.wm (eF w rs) (Rd.mid (eF w ss)) := by
  unfold eF
  rw [Rd.bl_eq h.can k.can, Rd.eL_go _ _ _ h.can.nn, Rd.eL_go _ _ _ k.can.nn, Rd.wi_pre (Rd.p0_gd w), Rd.wm_pre (Rd.p0_gd w)]
  exact ⟨rfl, rfl⟩
theorem eF_side {w : Int} {rs ss : List Int} (h : Rn rs) (k : Rn ss) (e1 e2 : Bool) : Rd.sdR e1 (eF w rs) (Rd.mid (eF w (Rd.bl rs ss))) * Rd.sdR e2 (eF w ss) (Rd.mid (eF w (Rd.bl rs ss))) < 1 := by
  unfold eF
  rw [Rd.eL_go _ _ _ h.can.nn, Rd.eL_go _ _ _ k.can.nn, Rd.eL_go _ _ _ (Rd.bl_can h.can k.can).nn, Rd.bl_wd h.can k.can]
  exact Rd.sd_lcp (Rd.p0_gd w) e1 e2 _ _
theorem Kd.lay (k : Kd) : PyData.canLay0 (.str k.str) = true := by cases k <;> decide +kernel
theorem eqv_road (w v : Int) (rs ss : List Int) (k l : Kd) : PyData.eqv (pRd w rs k.str) (pRd v ss l.str) = decide (w = v ∧ rs = ss ∧ k = l) := by
  rw [eqv_rd, Bool.eq_iff_iff]; simp [Kd.inj]
theorem in024 {i : Nat} (h : i < 6) : inV (.int (i : Nat)) [.int 0, .int 2, .int 4] = decide (i % 2 = 0) := by
  rcases (show i = 0 ∨ i = 1 ∨ i = 2 ∨ i = 3 ∨ i = 4 ∨ i = 5 by omega) with rfl | rfl | rfl | rfl | rfl | rfl <;> rfl
/-! promises -/
inductive RLess : List Dt → Out → Prop
  | mk {a b : Rd.Vc} (ha : VB a) (hb : VB b) : RLess [vD a, vD b] (.ok (.bl (Rd.less a b)))
inductive REnds : List Dt → Out → Prop
  | t {w : Int} {rs : List Int} {k : Str} (hw : w.natAbs < 2 ^ 8) (h : Rn rs) : REnds [dRd w rs k] (.ok (ndD (eF w rs)))
  | l {w : Int} {rs : List Int} {k : Str} (hw : w.natAbs < 2 ^ 8) (h : Rn rs) : REnds [.tup [.int w, .lst (iDs rs), .str k]] (.ok (ndD (eF w rs)))
inductive RMidd : List Dt → Out → Prop
  | t {w : Int} {rs : List Int} {k : Str} (hw : w.natAbs < 2 ^ 8) (h : Rn rs) : RMidd [dRd w rs k] (.ok (vD (Rd.mid (eF w rs))))
  | l {w : Int} {rs : List Int} {k : Str} (hw : w.natAbs < 2 ^ 8) (h : Rn rs) : RMidd [.tup [.int w, .lst (iDs rs), .str k]] (.ok (vD (Rd.mid (eF w rs))))
inductive RWith : List Dt → Out → Prop
  | e {w : Int} {rs ss : List Int} {k : Str} (hw : w.natAbs < 2 ^ 8) (h : Rn rs) (h2 : Rn ss) : RWith [dRd w rs k, dRd w ss "ended"] (.ok (.bl (decide (Rd.bl rs ss = rs))))
  | o {w : Int} {rs ss : List Int} {k : Str} (hw : w.natAbs < 2 ^ 8) (h : Rn rs) (h2 : Rn ss) : RWith [dRd w rs k, dRd w ss "open"] (.ok (.bl (decide (Rd.bl rs ss = rs))))
inductive RAhL : List Dt → Out → Prop
  | mk {w v : Int} {rs ss : List Int} {k l : Kd} (h : RdOk w rs k) (h2 : RdOk v ss l) : RAhL [dRd w rs k.str, dRd v ss l.str] (.ok (.bl (ahF w rs k v ss l)))
inductive RSide : List Dt → Out → Prop
  | e {w : Int} {rs : List Int} {m : Rd.Vc} (hw : w.natAbs < 2 ^ 8) (h : Rn rs) (hm : VB m) : RSide [dRd w rs "ended", vD m] (.ok (.int (Rd.sdR true (eF w rs) m)))
  | o {w : Int} {rs : List Int} {m : Rd.Vc} (hw : w.natAbs < 2 ^ 8) (h : Rn rs) (hm : VB m) : RSide [dRd w rs "open", vD m] (.ok (.int (Rd.sdR false (eF w rs) m)))
def toD (w : Int) : Option (List Int × Kd) → Dt
  | some (rs, k) => dRd w rs k.str
  | none => .non
inductive RLast : List Dt → Out → Prop
  | mk {w v : Int} {rs ss : List Int} {k l : Kd} (h : RdOk w rs k) (h2 : RdOk v ss l) : RLast [dRd w rs k.str, dRd v ss l.str, toD w (cmF w rs k v ss l)] (.ok (.bl true))
inductive RToldR : List Dt → Out → Prop
  | r {w : Int} {rs : List Int} {k : Str} : RToldR [dRoad w rs k] (.ok (dRd w rs k))
  | n : RToldR [.non] (.ok .non)
theorem bl_bl {rs ss : List Int} (h : Rn rs) (k : Rn ss) : Rd.bl (Rd.bl rs ss) rs = Rd.bl rs ss := by
  have hb := bl_rn h k
  refine of_decide_eq_true ?_
  rw [Rd.bl_eq hb.can h.can, Rd.bl_wd h.can k.can]
  exact (Rd.lcp_pre _ _).1
theorem bl_bl2 {rs ss : List Int} (h : Rn rs) (k : Rn ss) : Rd.bl (Rd.bl rs ss) ss = Rd.bl rs ss := by
  rw [Rd.bl_comm h.can k.can]
  exact bl_bl k h
theorem ah_opn {w : Int} {rs ss : List Int} {k : Kd} (h : Rd.bl rs ss = rs) (hk : k.bare = false) : ahF w rs .opn w ss k = true := by
  unfold ahF
  by_cases e : w = w ∧ rs = ss ∧ Kd.opn = k
  · rw [if_pos e]
  · rw [if_neg e]
    cases k <;> first | (simp [h]; done) | exact absurd hk (by decide)
theorem ah_fst {w : Int} {ss : List Int} {k : Kd} (hk : k ≠ .edge) (hb : k.bare = true → ss = []) : ahF w [] .first w ss k = true := by
  unfold ahF
  cases k with
  | edge => exact absurd rfl hk
  | first => rw [hb rfl]; simp
  | opn => simp
  | ended => simp
theorem sd_le (e : Bool) (p : Rd.Nt) (m : Rd.Vc) : -1 ≤ Rd.sdR e p m ∧ Rd.sdR e p m ≤ 1 := by
  unfold Rd.sdR Rd.sdO Rd.sdE
  split <;> (split <;> split <;> decide)
theorem sd_bi (e : Bool) (p : Rd.Nt) (m : Rd.Vc) : Bi (Rd.sdR e p m) 2 := ⟨by have := sd_le e p m; show _ < 4; omega⟩
theorem cm_edge {w v : Int} {rs ss : List Int} {k l : Kd} (e : ¬ (w = v ∧ rs = ss ∧ k = l)) (h : w ≠ v ∨ k = .edge ∨ l = .edge) : cmF w rs k v ss l = none := by
  unfold cmF
  rw [if_neg e, if_pos h]
theorem cm_first {w : Int} {rs ss : List Int} {k l : Kd} (e : ¬ (w = w ∧ rs = ss ∧ k = l)) (h : ¬ (k = .edge ∨ l = .edge)) (i : k = .first ∨ l = .first) : cmF w rs k w ss l = some ([], .first) := by
  unfold cmF
  rw [if_neg e, if_neg (by simpa using h), if_pos i]
theorem cm_opn {w : Int} {rs ss : List Int} {k l : Kd} (e : ¬ (w = w ∧ rs = ss ∧ k = l)) (h : ¬ (k = .edge ∨ l = .edge)) (i : ¬ (k = .first ∨ l = .first)) : cmF w rs k w ss l = some (Rd.bl rs ss, .opn) := by
  unfold cmF
  rw [if_neg e, if_neg (by simpa using h), if_neg i]
end Sp
end
section
set_option Elab.async false
set_option linter.all false
set_option maxRecDepth 100000
set_option maxHeartbeats 4000000
namespace Sp
open PySem PySem.Spec PyProof.Rows L2
open PySem.W (Frag)
/-! ### k42: runs as they are drawn -/
structure Pc (i : Nat) (rs : List Int) : Prop where
  len : rs.length = i
  nn : ∀ r ∈ rs, 0 ≤ r
  tl : Rd.Ps rs.tail
  lt : ∀ r ∈ rs, r < 2 ^ 31
theorem Pc.nil : Pc 0 [] := ⟨rfl, fun r i => (by cases i), fun r i => (by cases i), fun r i => (by cases i)⟩
theorem Pc.app {i : Nat} {rs : List Int} {r : Int} (h : Pc i rs) (h0 : 0 ≤ r) (h1 : 0 < i → 1 ≤ r) (h2 : r < 2 ^ 31) : Pc (i + 1) (rs ++ [r]) := by
  refine ⟨by rw [List.length_append, h.len]; rfl, fun x i => ?_, fun x i => ?_, fun x i => ?_⟩
  · rcases List.mem_append.mp i with i | i
    · exact h.nn x i
    · rw [List.mem_singleton.mp i]; exact h0
  · match rs, h with
    | [], h => cases i
    | y :: l, h =>
      rcases List.mem_append.mp (show x ∈ l ++ [r] from i) with i | i
      · exact h.tl x i
      · rw [List.mem_singleton.mp i]
        exact h1 (by rw [← h.len]; exact Nat.succ_pos _)
  · rcases List.mem_append.mp i with i | i
    · exact h.lt x i
    · rw [List.mem_singleton.mp i]; exact h2
/-- runs, at most n of them -/
structure Rk (n : Nat) (rs : List Int) : Prop where
  rn : Rn rs
  le : rs.length ≤ n
theorem Rk.mono {n m : Nat} {rs : List Int} (h : Rk n rs) (l : n ≤ m) : Rk m rs := ⟨h.rn, Nat.le_trans h.le l⟩
theorem Rk.nil (n : Nat) : Rk n [] := ⟨⟨trivial, by decide, fun r i => by cases i⟩, Nat.zero_le _⟩
theorem can_of {rs : List Int} (h : ∀ r ∈ rs, 0 ≤ r) (k : Rd.Ps rs.tail) (z : rs ≠ [0]) : Rd.Can rs := by
  match rs, h, k, z with
  | [], _, _, _ => exact trivial
  | [r], h, _, z =>
    have := h r List.mem_cons_self
    have : r ≠ 0 := fun e => z (by rw [e])
    show 1 ≤ r
    omega
  | r :: s :: l, h, k, _ => exact ⟨h r List.mem_cons_self, k⟩
theorem Pc.rk {i : Nat} {rs : List Int} (h : Pc i rs) (hi : i ≤ 4) (z : rs ≠ [0]) : Rk 4 rs := ⟨⟨can_of h.nn h.tl z, by rw [h.len]; omega, fun r m => Int.lt_trans (h.lt r m) (by decide)⟩, by rw [h.len]; exact hi⟩
theorem one_rk {r : Int} (h0 : 0 ≤ r) (h1 : r < 3) : Rk 4 [1 + r] := by
  refine ⟨⟨(show 1 ≤ 1 + r by omega), (show 1 ≤ 6 by decide), fun x i => ?_⟩, (show 1 ≤ 4 by decide)⟩
  rw [List.mem_singleton.mp i]
  have : (4 : Int) < 2 ^ 32 := by decide
  omega
/-! a road's kin -/
theorem Rk.snoc {rs : List Int} {r : Int} (h : Rk 5 rs) (l : rs.length < 5) (h0 : 0 ≤ r) (h1 : r < 3) : Rk 5 (rs ++ [1 + r]) := by
  refine ⟨⟨can_of (fun x i => ?_) (fun x i => ?_) (fun z => ?_), by rw [List.length_append]; show _ + 1 ≤ 6; omega, fun x i => ?_⟩, by rw [List.length_append]; show _ + 1 ≤ 5; omega⟩
  · rcases List.mem_append.mp i with i | i
    · exact h.rn.can.nn x i
    · rw [List.mem_singleton.mp i]; omega
  · match rs, h with
    | [], h => cases i
    | y :: l, h =>
      rcases List.mem_append.mp (show x ∈ l ++ [1 + r] from i) with i | i
      · exact h.rn.can.tl x i
      · rw [List.mem_singleton.mp i]; omega
  · match rs with
    | [] =>
      have := (List.cons.inj (show [1 + r] = [0] from z)).1
      omega
    | y :: l =>
      have := congrArg List.length z
      simp at this
  · rcases List.mem_append.mp i with i | i
    · exact h.rn.lt x i
    · rw [List.mem_singleton.mp i]
      have : (4 : Int) < 2 ^ 32 := by decide
      omega
theorem snoc_last {rs : List Int} (h : rs ≠ []) : ∃ l r, rs = l ++ [r] := ⟨rs.dropLast, rs.getLast h, (List.dropLast_concat_getLast h).symm⟩
/-- the last run one letter shorter -/
theorem Rk.less {l : List Int} {r : Int} (h : Rk 5 (l ++ [r])) (g : 1 < r) : Rk 5 (l ++ [r - 1]) ∧ l ++ [r - 1] ≠ [0] := by
  have z : l ++ [r - 1] ≠ [0] := fun z => by
    match l with
    | [] =>
      have := (List.cons.inj (show [r - 1] = [0] from z)).1
      omega
    | y :: l =>
      have := congrArg List.length z
      simp at this
  refine ⟨⟨⟨can_of (fun x i => ?_) (fun x i => ?_) z, by have := h.rn.len; simp at this ⊢; exact this, fun x i => ?_⟩, by have := h.le; simp at this ⊢; exact this⟩, z⟩
  · rcases List.mem_append.mp i with i | i
    · exact h.rn.can.nn x (List.mem_append.mpr (.inl i))
    · rw [List.mem_singleton.mp i]; omega
  · match l, h with
    | [], h => cases i
    | y :: l, h =>
      rcases List.mem_append.mp (show x ∈ l ++ [r - 1] from i) with i | i
      · exact h.rn.can.tl x (List.mem_append.mpr (.inl i))
      · rw [List.mem_singleton.mp i]; omega
  · rcases List.mem_append.mp i with i | i
    · exact h.rn.lt x (List.mem_append.mpr (.inl i))
    · rw [List.mem_singleton.mp i]
      have := h.rn.lt r (List.mem_append.mpr (.inr List.mem_cons_self))
      omega
/-- the last run left out -/
theorem Rk.drop {l : List Int} {r : Int} (h : Rk 5 (l ++ [r])) (z : l ≠ [0]) : Rk 5 l := by
  refine ⟨⟨can_of (fun x i => h.rn.can.nn x (List.mem_append.mpr (.inl i))) (fun x i => ?_) z, by have := h.rn.len; simp at this ⊢; omega, fun x i => h.rn.lt x (List.mem_append.mpr (.inl i))⟩, by have := h.le; simp at this ⊢; omega⟩
  match l, h with
  | [], h => cases i
  | y :: l, h => exact h.rn.can.tl x (List.mem_append.mpr (.inl i))
theorem cut_end (l : List Dt) (d : Dt) : cutD (l ++ [d]) none (some (-1)) = l := by
  have e : HT.sIx (l ++ [d]).length (l ++ [d]).length (some (-1)) = l.length := by
    unfold HT.sIx
    simp
    omega
  unfold cutD
  rw [e]
  simp [HT.sIx]
theorem noPs_cons {d : Dt} {l : List Dt} (a : noP d = true) (b : noPs l = true) : noPs (d :: l) = true := Bool.and_eq_true_iff.mpr ⟨a, b⟩
theorem noP_tup {l : List Dt} (h : noPs l = true) : noP (.tup l) = true := h
theorem noP_obj {c : Cn} {l : List Dt} (h : noPs l = true) : noP (.obj c l) = true := h
theorem noP_lints (rs : List Int) : noP (.lst (iDs rs)) = true := by
  refine Bool.and_eq_true_iff.mpr ⟨?_, noPs_ints rs⟩
  cases rs <;> rfl
theorem iDs_app (rs : List Int) (r : Int) : iDs rs ++ [Dt.int r] = iDs (rs ++ [r]) := by simp
theorem noLs_snoc (rs : List Int) (r : Int) : noLs (iDs rs ++ [Dt.int r]) = true := by rw [iDs_app]; exact noLs_ints _
theorem if01 (b : Bool) : 0 ≤ (if b = true then (1 : Int) else 0) ∧ (if b = true then (1 : Int) else 0) ≤ 1 := by cases b <;> decide
theorem cut_nl (l : List Dt) (d : Dt) : ¬ (HT.sIx (l ++ [d]).length 0 none = 0 ∧ HT.sIx (l ++ [d]).length (l ++ [d]).length (some (-1)) = (l ++ [d]).length) := fun z => by
  have := z.2
  unfold HT.sIx at this
  simp at this
  omega
section
variable {K : Frag} {m : Md} {H0 H : Hp} {L : List (V × Dt)} {x : V} {l : List Int} {r : Int} {Q : VK}
theorem ixTEnd (h : IsV K H x (.tup (iDs (l ++ [r])))) (k : Q (.int r) H) : rIxT K x (.int (-1)) H Q := by
  rw [← iDs_app] at h
  cases h with
  | @tup p vs ds h i =>
    have g : (iDs l ++ [Dt.int r])[(iDs l).length]? = some (.int r) := by simp
    obtain ⟨v, e1, iv⟩ := i.get g
    obtain rfl := iv.intE
    refine ⟨_, _, _, .int r, rfl, rfl, SqT.of h, ?_, k⟩
    unfold atI
    rw [i.length, List.length_append]
    rw [show ixN ((iDs l).length + [Dt.int r].length) (-1) = some (iDs l).length from ixN_end _]
    exact e1
  | own o _ _ => cases o
theorem slTEnd (h : Env K m H0 H L) (i : IsV K H x (.tup (iDs (l ++ [r])))) (k : ∀ p H', Env K m H0 H' ((.ref p, .tup (iDs l)) :: L) → Q (.ref p) H') : rSlT K x none (some (-1)) H Q := by
  rw [← iDs_app] at i
  refine slTD h i (cut_nl _ _) fun p H' e => k p H' ?_
  rw [cut_end] at e
  exact e
end
/-! ### a tuple and a tuple, either one empty -/
structure rCatA (K : Frag) (x y : V) (H : Hp) (Q : VK) : Prop where
  un : L2.rCatA K x y H Q
theorem op_catA {X : Cx} : OpR X (binaryOp .Add) (rCatA X.K) := fun pins s σ H x y v u Q I rx ry h => L2.op_catA pins s σ H x y v u Q I rx ry h.un
theorem op_catAK {X : Cx} (K : Frag) (hK : X.K = K) : OpR X (binaryOp .Add) (rCatA K) := by
  subst hK
  exact op_catA
theorem catAD {K : Frag} {m : Md} {H0 H : Hp} {L : List (V × Dt)} {x y : V} {a b : List Dt} {Q : VK} (h : Env K m H0 H L) (i : IsV K H x (.tup a)) (j : IsV K H y (.tup b)) (hl : a.length + b.length ≤ 1000) (k : ∀ p H', Env K m H0 H' ((.ref p, .tup (a ++ b)) :: L) → Q (.ref p) H') : rCatA K x y H Q := by
  have sl : 1000 ≤ sizeLine := by decide
  cases i with
  | @tup p1 v1 _ hp ip =>
    cases j with
    | @tup p2 v2 _ hq iq =>
      have l1 := ip.length
      have l2 := iq.length
      refine ⟨_, _, _, _, rfl, rfl, SqT.of hp, SqT.of hq, by omega, fun z => ?_, fun _ z => ?_, fun _ _ r n => k r _ ((h.step (Same.new' n)).add (.tup upd_same ((ip.app iq).same (Same.new' n))))⟩
      · subst z
        obtain rfl : a = [] := List.eq_nil_of_length_eq_zero l1.symm
        exact k _ _ (h.add (.tup hq iq))
      · subst z
        obtain rfl : b = [] := List.eq_nil_of_length_eq_zero l2.symm
        rw [List.append_nil] at k
        exact k _ _ (h.add (.tup hp ip))
    | own o _ _ => cases o
  | own o _ _ => cases o
/-! ### a pair of roads -/
inductive RPairR : List Dt → Dt → Prop
  | mk {w v : Int} {rs ss : List Int} {k l : Kd} (h : RdOk w rs k) (h2 : RdOk v ss l) : RPairR [dRd w rs k.str, dRd v ss l.str] (.bl true)
theorem cm_comm {w v : Int} {rs ss : List Int} (k l : Kd) (h : Rn rs) (h2 : Rn ss) : cmF v ss l w rs k = cmF w rs k v ss l := by
  by_cases e : w = v ∧ rs = ss ∧ k = l
  · obtain ⟨rfl, rfl, rfl⟩ := e
    rfl
  · have e2 : ¬ (v = w ∧ ss = rs ∧ l = k) := fun z => e ⟨z.1.symm, z.2.1.symm, z.2.2.symm⟩
    unfold cmF
    rw [if_neg e, if_neg e2, Rd.bl_comm h2.can h.can]
    by_cases a : w ≠ v ∨ k = .edge ∨ l = .edge
    · rw [if_pos a, if_pos (show v ≠ w ∨ l = .edge ∨ k = .edge from a.elim (fun z => .inl (fun y => z y.symm)) fun z => .inr z.symm)]
    · rw [if_neg a, if_neg (show ¬ (v ≠ w ∨ l = .edge ∨ k = .edge) from fun z => a (z.elim (fun z => .inl (fun y => z y.symm)) fun z => .inr z.symm))]
      by_cases b : k = .first ∨ l = .first
      · rw [if_pos b, if_pos b.symm]
      · rw [if_neg b, if_neg fun z => b z.symm]
theorem cm_cases {w v : Int} {rs ss : List Int} {k l : Kd} (h : RdOk w rs k) (h2 : RdOk v ss l) : cmF w rs k v ss l = none ∨ ∃ ts m, cmF w rs k v ss l = some (ts, m) ∧ w = v ∧ RdOk w ts m ∧ ahF w ts m w rs k = true ∧ ahF w ts m v ss l = true := by
  by_cases e : w = v ∧ rs = ss ∧ k = l
  · obtain ⟨rfl, rfl, rfl⟩ := e
    refine .inr ⟨rs, k, ?_, rfl, h, ?_, ?_⟩
    · unfold cmF; rw [if_pos ⟨rfl, rfl, rfl⟩]
    · unfold ahF; rw [if_pos ⟨rfl, rfl, rfl⟩]
    · unfold ahF; rw [if_pos ⟨rfl, rfl, rfl⟩]
  · by_cases hv : w = v
    · subst hv
      by_cases a : k = .edge ∨ l = .edge
      · exact .inl (cm_edge e (.inr a))
      by_cases b : k = .first ∨ l = .first
      · exact .inr ⟨[], .first, cm_first e a b, rfl, ⟨h.w, (Rk.nil 4).rn, fun _ => rfl⟩, ah_fst (fun z => a (.inl z)) h.b, ah_fst (fun z => a (.inr z)) h2.b⟩
      · exact .inr ⟨_, .opn, cm_opn e a b, rfl, ⟨h.w, bl_rn h.rn h2.rn, fun z => by cases z⟩, ah_opn (bl_bl h.rn h2.rn) (by cases k <;> first | rfl | exact absurd (.inl rfl) a | exact absurd (.inl rfl) b), ah_opn (bl_bl2 h.rn h2.rn) (by cases l <;> first | rfl | exact absurd (.inr rfl) a | exact absurd (.inr rfl) b)⟩
    · exact .inl (cm_edge e (.inl hv))
/-! ### two ratios -/
abbrev vq (a : Rd.Vc) : Rat := Rat.divInt a.1 a.2
theorem divInt_lt {a b c d : Int} (hb : 0 < b) (hd : 0 < d) : Rat.divInt a b < Rat.divInt c d ↔ a * d < c * b := by
  have e1 := corner_eq (j := a) (k := b) (by omega)
  have e2 := corner_eq (j := c) (k := d) (by omega)
  have h1 : (0 : Int) < ((Rat.divInt a b).den : Int) := by have := (Rat.divInt a b).den_pos; omega
  have h2 : (0 : Int) < ((Rat.divInt c d).den : Int) := by have := (Rat.divInt c d).den_pos; omega
  rw [Rat.lt_iff]
  generalize ((Rat.divInt a b).den : Int) = pd at *
  generalize ((Rat.divInt c d).den : Int) = qd at *
  generalize (Rat.divInt a b).num = pn at *
  generalize (Rat.divInt c d).num = qn at *
  have e3 : a * d * (pd * qd) = pn * qd * (b * d) := by grind
  have e4 : c * b * (pd * qd) = qn * pd * (b * d) := by grind
  constructor
  · intro h
    refine Int.lt_of_mul_lt_mul_right (a := pd * qd) ?_ (Int.le_of_lt (Int.mul_pos h1 h2))
    rw [e3, e4]
    exact Int.mul_lt_mul_of_pos_right h (Int.mul_pos hb hd)
  · intro h
    refine Int.lt_of_mul_lt_mul_right (a := b * d) ?_ (Int.le_of_lt (Int.mul_pos hb hd))
    rw [← e3, ← e4]
    exact Int.mul_lt_mul_of_pos_right h (Int.mul_pos h1 h2)
theorem vq_t {a b : Rd.Vc} (ha : 1 ≤ a.2) (hb : 1 ≤ b.2) (h : Rd.Lt a b) : decide (vq a < vq b) = true := decide_eq_true ((divInt_lt (by omega) (by omega)).mpr h)
theorem vq_f {a b : Rd.Vc} (ha : 1 ≤ a.2) (hb : 1 ≤ b.2) (h : Rd.Le b a) : decide (vq a < vq b) = false := decide_eq_false fun z => by
  have := (divInt_lt (by omega) (by omega)).mp z
  unfold Rd.Le at h
  omega
theorem cmp_pos (p q : Rat) : decide (0 < cmpR p q) = decide (q < p) := by
  refine decide_eq_decide.mpr ?_
  unfold cmpR
  rw [Int.sign_pos_iff, Rat.lt_iff]
  omega
theorem pre_anti : ∀ {u v : List Bool}, Rd.pre u v = true → Rd.pre v u = true → u = v := by
  intro u
  induction u with
  | nil =>
    intro v _ h
    cases v with
    | nil => rfl
    | cons b v => cases h
  | cons a u ih =>
    intro v h k
    cases v with
    | nil => cases h
    | cons b v =>
      have h := Bool.and_eq_true_iff.mp (show ((a == b) && Rd.pre u v) = true from h)
      have k := Bool.and_eq_true_iff.mp (show ((b == a) && Rd.pre v u) = true from k)
      rw [eq_of_beq h.1, ih h.2 k.2]
theorem md_inj {w : Int} {rs ss : List Int} (h : Rn rs) (k : Rn ss) (e : Rd.mid (eF w rs) = Rd.mid (eF w ss)) : rs = ss := by
  refine Rd.wd_inj h.can k.can ?_
  unfold eF at e
  rw [Rd.eL_go _ _ _ h.can.nn, Rd.eL_go _ _ _ k.can.nn] at e
  have g := Rd.p0_gd w
  have pr : ∀ u : List Bool, Rd.pre u u = true := fun u => by
    induction u with
    | nil => rfl
    | cons a u ih => show ((a == a) && Rd.pre u u) = true; rw [ih]; simp
  refine pre_anti ?_ ?_
  · rw [← Rd.wm_pre g, ← e, Rd.wm_pre g]; exact pr _
  · rw [← Rd.wm_pre g, e, Rd.wm_pre g]; exact pr _
structure PartsR (x y lo hi z : Rd.Vc) : Prop where
  a : decide (vq z < vq x) = false
  b : decide (vq y < vq z) = false
  c : decide (vq lo < vq x) = true
  d : decide (vq y < vq hi) = true
theorem parts_ok {w : Int} {rs ss : List Int} (h : Rn rs) (k : Rn ss) (l : Rd.Le (Rd.mid (eF w rs)) (Rd.mid (eF w ss))) : PartsR (Rd.mid (eF w rs)) (Rd.mid (eF w ss)) (eF w (Rd.bl rs ss)).1 (eF w (Rd.bl rs ss)).2 (Rd.mid (eF w (Rd.bl rs ss))) := by
  have g1 := (end_gd (w := w) h).m
  have g2 := (end_gd (w := w) k).m
  have g3 := end_gd (w := w) (bl_rn h k)
  have g := Rd.p0_gd w
  have e1 : eF w rs = Rd.go (Rd.p0 w) (Rd.wd false rs) := Rd.eL_go _ _ _ h.can.nn
  have e2 : eF w ss = Rd.go (Rd.p0 w) (Rd.wd false ss) := Rd.eL_go _ _ _ k.can.nn
  have e3 : eF w (Rd.bl rs ss) = Rd.go (Rd.p0 w) (Rd.lcp (Rd.wd false rs) (Rd.wd false ss)) := by rw [← Rd.bl_wd h.can k.can]; exact Rd.eL_go _ _ _ (Rd.bl_can h.can k.can).nn
  have l2 := l
  rw [e1, e2] at l2
  have m := Rd.lcp_mid g _ _ l2
  have p := Rd.lcp_pre (Rd.wd false rs) (Rd.wd false ss)
  have i1 := Rd.pre_in g p.1
  have i2 := Rd.pre_in g p.2
  rw [← e1, ← e3, ← e2] at m
  rw [← e1, ← e3] at i1
  rw [← e2, ← e3] at i2
  exact ⟨vq_f g3.m g1 m.1, vq_f g2 g3.m m.2, vq_t g3.l g1 i1.1, vq_t g2 g3.h i2.2⟩
/-! ### what is heard, plain -/
structure HEp (K : Frag) (x f : Str) (Q : VK) (cls : Value) (d : Option Addr) (H' : Hp) : Prop where
  un : ∃ dd gs v, d = some dd ∧ H' dd = some (.xd gs) ∧ cls = .ref (cX K x) ∧ gs.lookup f = some v ∧ Q v H'
structure HOn (Q : VK) (v : V) (H : Hp) : Prop where
  un : Q .non H
theorem herPl {K : Frag} {m : Md} {H0 H : Hp} {L : List (V × Dt)} {x f : Str} {fs : List (Str × Dt)} {d : Dt} {Q : VK} (h : Env K m H0 H L) (l : fs.lookup f = some d) (k : ∀ v H', IsV K H' v d → Env K m H0 H' L → Q v H') : AftE K H x fs (HEp K x f Q) := .mk fun dd H' gs s n e i => by
  obtain ⟨v, e1, iv⟩ := i.get l
  exact ⟨dd, gs, v, rfl, e, rfl, e1, k v H' iv (h.step s)⟩
theorem herPs {K : Frag} {m : Md} {H0 H : Hp} {L : List (V × Dt)} {x f : Str} {fs : List (Str × Dt)} {t : Str} {Q : VK} (h : Env K m H0 H L) (l : fs.lookup f = some (.str t)) (k : ∀ H', Env K m H0 H' L → Q (.str t) H') : AftE K H x fs (HEp K x f Q) := herPl h l fun v H' i e => by
  cases i with
  | str => exact k H' e
  | own o _ _ => cases o
theorem honD {Q : VK} {v : V} {H : Hp} (k : Q .non H) : HOn Q v H := ⟨k⟩
/-! ### the law's list of roads -/
structure Rdq (d : Dt) : Prop where
  ex : ∃ w rs, ∃ k : Kd, d = dRd w rs k.str ∧ RdOk w rs k ∧ rs.length ≤ 5
theorem Rdq.mk' {w : Int} {rs : List Int} {k : Kd} (h : RdOk w rs k) (l : rs.length ≤ 5) : Rdq (dRd w rs k.str) := ⟨w, rs, k, rfl, h, l⟩
theorem noL_rd (w : Int) (rs : List Int) (k : Str) : noL (dRd w rs k) = true := by
  show (noL (.int w) && (noLs (iDs rs) && (noL (.str k) && true))) = true
  rw [noLs_ints]
  rfl
theorem noP_rd (w : Int) (rs : List Int) (k : Str) : noP (dRd w rs k) = true := by
  show (noP (.int w) && (noPs (iDs rs) && (noP (.str k) && true))) = true
  rw [noPs_ints]
  rfl
theorem noLs_q : ∀ {ds : List Dt}, (∀ d ∈ ds, Rdq d) → noLs ds = true
  | [], _ => rfl
  | d :: ds, h => by
    obtain ⟨w, rs, k, rfl, _, _⟩ := (h d List.mem_cons_self).ex
    show (noL (dRd w rs k.str) && noLs ds) = true
    rw [noL_rd, noLs_q fun x i => h x (List.mem_cons_of_mem _ i)]
    rfl
theorem noPs_q : ∀ {ds : List Dt}, (∀ d ∈ ds, Rdq d) → noPs ds = true
  | [], _ => rfl
  | d :: ds, h => by
    obtain ⟨w, rs, k, rfl, _, _⟩ := (h d List.mem_cons_self).ex
    show (noP (dRd w rs k.str) && noPs ds) = true
    rw [noP_rd, noPs_q fun x i => h x (List.mem_cons_of_mem _ i)]
    rfl
theorem noP_lq {ds : List Dt} (h : ∀ d ∈ ds, Rdq d) : noP (.lst ds) = true := by
  refine Bool.and_eq_true_iff.mpr ⟨?_, noPs_q h⟩
  cases ds with
  | nil => rfl
  | cons d ds =>
    obtain ⟨w, rs, k, rfl, _, _⟩ := (h d List.mem_cons_self).ex
    rfl
theorem all2 {P : Dt → Prop} {a b : Dt} (ha : P a) (hb : P b) : ∀ d ∈ [a, b], P d := fun d i => by
  rcases List.mem_cons.mp i with rfl | i
  · exact ha
  · rw [List.mem_singleton.mp i]; exact hb
theorem cut_mem {l : List Dt} {lo hi : Option Int} {d : Dt} (h : d ∈ cutD l lo hi) : d ∈ l := by
  unfold cutD at h
  exact List.mem_of_mem_drop (List.mem_of_mem_take h)
end Sp
end
section
set_option Elab.async false
set_option linter.all false
set_option maxRecDepth 100000
set_option maxHeartbeats 0
namespace Sp
open PySem PySem.Spec PyProof.Rows L2
open PySem.W (Frag)
theorem oexB_ok {K : Frag} {C : Addr} (h : oexB K C = true) : OexC K C := by
  unfold oexB at h
  obtain ⟨h1, h⟩ := He.ba h
  obtain ⟨h2, h⟩ := He.ba h
  obtain ⟨h3, h⟩ := He.ba h
  obtain ⟨h4, h5⟩ := He.ba h
  refine ⟨?_, of_decide_eq_true h2, of_decide_eq_true h3, of_decide_eq_true h4, h5⟩
  split at h1
  · rename_i dd cd sl ho
    split at h1
    · rename_i C' bm k0 k1 k2 k3 n k5 hm hs
      simp only [Bool.and_eq_true, beq_iff_eq, Bool.not_eq_true'] at h1
      obtain ⟨rfl, rfl, hdel, hdict, hr⟩ := h1
      obtain ⟨nm, bs, mro, ns, qn, hd, sn, sub, ab, col, del⟩ := cd
      dsimp only at hm hdel hdict
      subst hm hdel hdict
      have hsl : sl = #[k0, k1, k2, k3, some (.builtin "ValueError.__new__"), k5] := by
        obtain ⟨l⟩ := sl
        simp only at hs
        rw [hs]
      subst hsl
      exact ⟨nm, qn, ns, bs, bm, sn, sub, ab, col, dd, k0, k1, k2, k3, k5, ho, hr⟩
    · cases h1
  · cases h1
theorem cfB_ok {K : Frag} {x : Str} {fl : List Str} (h : cfB K x fl = true) : CF K (He.ga K x) fl := by
  unfold cfB at h
  obtain ⟨h1, h⟩ := He.ba h
  obtain ⟨h2, h⟩ := He.ba h
  obtain ⟨h3, h⟩ := He.ba h
  obtain ⟨h4, h⟩ := He.ba h
  obtain ⟨h5, h⟩ := He.ba h
  obtain ⟨h6, h7⟩ := He.ba h
  exact ⟨He.cls_ok h1, of_decide_eq_true h2, of_decide_eq_true h3, of_decide_eq_true h4, of_decide_eq_true h5, fun f hf => He.noat_ok (List.all_eq_true.mp h7 f hf)⟩
theorem cfB_glo {K : Frag} {x : Str} {fl : List Str} (h : cfB K x fl = true) : (He.Fa.glo x).ok K = true := by
  unfold cfB at h
  obtain ⟨_, h⟩ := He.ba h
  obtain ⟨_, h⟩ := He.ba h
  obtain ⟨_, h⟩ := He.ba h
  obtain ⟨_, h⟩ := He.ba h
  obtain ⟨_, h⟩ := He.ba h
  exact (He.ba h).1
theorem kitB_ok {K : Frag} {ts : List Ty0} (h : kitB K ts = true) : ∀ t ∈ ts, ∀ u ∈ ts, PySem.W.kitOne K (tv K t) (tv K u) = some (sub0 t u) := fun t ht u hu => of_decide_eq_true (List.all_eq_true.mp (List.all_eq_true.mp h t ht) u hu)
theorem opB_ok {K : Frag} {C : Addr} {m r : Str} (h : opB K C m r = true) : OpC K C m r (He.ma K C m) := by
  unfold opB at h
  obtain ⟨h1, h⟩ := He.ba h
  obtain ⟨h2, h⟩ := He.ba h
  obtain ⟨h3, h⟩ := He.ba h
  obtain ⟨h4, h⟩ := He.ba h
  obtain ⟨h5, h⟩ := He.ba h
  obtain ⟨h6, h7⟩ := He.ba h
  exact ⟨h1, of_decide_eq_true h2, h3, of_decide_eq_true h4, Option.isSome_iff_exists.mp h5, Option.isSome_iff_exists.mp h6, of_decide_eq_true h7⟩
theorem metB_ok {K : Frag} {C : Addr} {m : Str} (h : metB K C m = true) : Meth K C m (He.ma K C m) := by
  unfold metB nmB at h
  obtain ⟨h1, h3⟩ := He.ba h
  obtain ⟨h1, h2⟩ := He.ba h1
  exact ⟨of_decide_eq_true h1, h2, h3⟩
theorem propB_ok {K : Frag} {C : Addr} {m : Str} (h : propB K C m = true) : PropOf K C m (He.ma K C m) (He5.wf K C "property" m) := by
  unfold propB at h
  obtain ⟨h1, h⟩ := He.ba h
  obtain ⟨h2, h⟩ := He.ba h
  obtain ⟨h3, h4⟩ := He.ba h
  refine ⟨of_decide_eq_true h1, of_decide_eq_true h2, of_decide_eq_true h3, ?_⟩
  unfold He5.wf
  split at h4
  · rename_i f r e
    exact ⟨r, by rw [e]⟩
  · cases h4
theorem smB_ok {K : Frag} {C : Addr} {m : Str} (h : smB K C m = true) : SMet K C (.type "type") m (He.ma K C m) (He5.wf K C "staticmethod" m) := by
  unfold smB at h
  obtain ⟨h1, h⟩ := He.ba h
  obtain ⟨h2, h⟩ := He.ba h
  obtain ⟨h3, h4⟩ := He.ba h
  obtain ⟨h5, h6⟩ := He5.wrapB_ok h3
  exact ⟨h1, of_decide_eq_true h2, h5, h6, h4⟩
theorem cmB_ok {K : Frag} {C : Addr} {m : Str} (h : cmB K C m = true) : ClX.CRead K C (.type "type") ∧ ClX.CMet K C (.type "type") m (He.ma K C m) (He5.wf K C "classmethod" m) := by
  unfold cmB at h
  obtain ⟨h1, h⟩ := He.ba h
  obtain ⟨h2, h⟩ := He.ba h
  obtain ⟨h3, h4⟩ := He.ba h
  exact ⟨⟨h1, of_decide_eq_true h2⟩, He5.cmet_of h3 h4⟩
theorem nm_ok {K : Frag} {C : Addr} {m : Str} (h : nmB K C m = true) : PySem.W.findIn K (.ref C) m = some (some (.ref (He.ma K C m))) ∧ PySem.W.isFn K (.ref (He.ma K C m)) = true := by
  unfold nmB at h
  obtain ⟨h1, h2⟩ := He.ba h
  exact ⟨of_decide_eq_true h1, h2⟩
structure XnF (K : Frag) (x : Str) (fl : List Str) : Prop where
  oex : OexC K (He.ga K x)
  glo : (He.Fa.glo x).ok K = true
  ini : PySem.W.findIn K (.ref (He.ga K x)) "__init__" = some (some (.ref (He.ma K (He.ga K x) "__init__")))
  ty : PySem.W.typeIn K (.ref (He.ma K (He.ga K x) "__init__")) = some (.type "function")
  no : ∀ f ∈ fl, PySem.W.findIn K (.ref (He.ga K x)) f = some none
theorem xnB_ok {K : Frag} {x : Str} {fl : List Str} (h : xnB K x fl = true) : XnF K x fl := by
  unfold xnB at h
  obtain ⟨h1, h⟩ := He.ba h
  obtain ⟨h2, h⟩ := He.ba h
  obtain ⟨h3, h⟩ := He.ba h
  obtain ⟨h4, h5⟩ := He.ba h
  exact ⟨oexB_ok h1, h2, of_decide_eq_true h3, of_decide_eq_true h4, fun f hf => He.noat_ok (List.all_eq_true.mp h5 f hf)⟩
theorem nfB_ok {K : Frag} {C : Addr} {ts : List Ty0} (h : nfB K C ts = true) : ∀ t ∈ ts, PySem.W.notFirst K C (tv K t) = true := List.all_eq_true.mp h
theorem tv_tyS {K : Frag} {t : Ty0} {s : String} (h : tyS t = some s) : tv K t = .type s := by
  cases t <;> first | (cases h; done) | (cases h; rfl)
theorem ritB_ok {K : Frag} {C : Addr} {op : Operator} {ts : List Ty0} (h : ritB K C op ts = true) : ∀ t ∈ ts, RiT K C op (tv K t) := fun t ht => by
  have h1 := List.all_eq_true.mp h t ht
  cases e : tyS t with
  | none => rw [e] at h1; cases h1
  | some T =>
    rw [e] at h1
    obtain ⟨h2, h1⟩ := He.ba h1
    obtain ⟨h3, h4⟩ := He.ba h1
    rw [tv_tyS e]
    exact RiT.ty (Option.isSome_iff_exists.mp h2) (Option.isSome_iff_exists.mp h3) (of_decide_eq_true h4)
theorem rioB_ok {K : Frag} {C D : Addr} {op : Operator} (h : rioB K C D op = true) : RiT K C op (.ref D) := by
  unfold rioB at h
  obtain ⟨h1, h⟩ := He.ba h
  obtain ⟨h2, h⟩ := He.ba h
  obtain ⟨h3, h⟩ := He.ba h
  obtain ⟨h4, h5⟩ := He.ba h
  exact RiT.own (of_decide_eq_true h1) h2 (of_decide_eq_true h3) (of_decide_eq_true h4) (.inl rfl) (of_decide_eq_true h5)
theorem code_of {K : Frag} {x qual : Str} {params : Arguments} {body : List Stmt} {scope : Scope} {fd : FuncData} (F : FunD K x qual params body scope [] [] (He.ga K x) fd) : fd.code = .ref (He.cT K (x, none)).1 := by
  obtain ⟨oc, od, dV, kV, doc, pm, an, cdv, ct, osl, rfl, lk, hcd, _, _⟩ := F.ex
  obtain ⟨c, rfl⟩ := He.codeIn_ref hcd
  exact congrArg Value.ref (He.codeOf_eq (p := (x, none)) lk rfl).symm
end Sp
end
section
set_option Elab.async false
set_option linter.all false
namespace Sp
open PySem PySem.Spec PyProof.Rows L2
open PySem.W (Frag)
theorem relB_ok {v : V} {u : Value} (h : relB v u = true) : RelV v u := by
  unfold relB at h
  split at h
  · exact ⟨_, by rw [of_decide_eq_true h]⟩
  · exact ⟨_, by rw [of_decide_eq_true h]⟩
  · cases h
theorem relsB_ok : ∀ {vs : List V} {us : List Value}, relsB vs us = true → Vals vs us
  | [], [], _ => .nil
  | v :: vs, u :: us, h => by
    simp only [relsB, Bool.and_eq_true] at h
    exact .cons (relB_ok h.1) (relsB_ok h.2)
  | [], _ :: _, h => by cases h
  | _ :: _, [], h => by cases h
theorem wtB_ok {K : Frag} {a : Addr} {ws : List V} (h : wtB K a ws = true) : WT K a ws := by
  refine ⟨fun H => .inr ?_⟩
  unfold wtB at h
  split at h
  · next c d its n sl e =>
    simp only [Bool.and_eq_true] at h
    exact ⟨_, its, n, e, by rw [of_decide_eq_true h.1], rfl, of_decide_eq_true h.2.1, relsB_ok h.2.2⟩
  · cases h
end Sp
end
section
set_option Elab.async false
set_option linter.all false
set_option exponentiation.threshold 5000
set_option maxRecDepth 100000
set_option maxHeartbeats 0
local macro_rules | `(tactic| walk_at "mem") => `(tactic| first | exact List.mem_cons_self | (refine List.mem_cons_of_mem _ ?_; walk_at "mem"))
local macro_rules | `(tactic| walk_at "npx") => `(tactic| (simp only [List.map_cons, List.map_nil, Sp.noPs, Sp.noP, Sp.pailish, Bool.and_true, Bool.true_and, Bool.not_false, Bool.not_true, Bool.and_self]; repeat' (first | assumption | refine And.intro ?_ ?_ | refine Bool.and_eq_true_iff.mpr ?_)))
local macro_rules | `(tactic| walk_at "scx") => `(tactic| fail)
local macro_rules | `(tactic| walk_at "sub") => `(tactic| first | exact Sp.subL0 | exact Sp.subL1 (by walk_at "mem") | exact Sp.subL2 (by walk_at "mem") (by walk_at "mem"))
local macro_rules | `(tactic| walk_at "np") => `(tactic| first | exact True.intro | rfl | assumption)
local macro_rules | `(tactic| walk_at "mdle") => `(tactic| first | exact Sp.Md.Le.eq | exact Sp.Md.Le.pail (by omega))
local macro_rules | `(tactic| walk_at "jb") => `(tactic| fail)
local macro_rules | `(tactic| walk_at "py") => `(tactic| first | exact Sp.py_rd _ _ _ | exact Sp.py_tup _ | exact Sp.py_lst _ | rfl)
local macro_rules | `(tactic| walk_at "rit") => `(tactic| fail)
local macro_rules | `(tactic| walk_at "isv") => `(tactic| first | exact Sp.IsV.int _ | exact Sp.IsV.str _ | exact Sp.IsV.bl _ | exact Sp.IsV.non | exact Sp.Env.get (by assumption) (by walk_at "mem") | assumption)
local macro_rules | `(tactic| walk_at "isvs") => `(tactic| first | exact Sp.IsVs.nil | (refine' Sp.IsVs.cons ?iv ?rs; (case iv => walk_at "isv"); (case rs => walk_at "isvs")))
local macro_rules | `(tactic| walk_at "isfs") => `(tactic| first | exact Sp.IsFs.nil | (refine' Sp.IsFs.cons ?iv ?rs; (case iv => walk_at "isv"); (case rs => walk_at "isfs")))
local macro_rules | `(tactic| walk_at "sz1") => `(tactic| first | exact trivial | exact Sp.biI _ | exact Sp.bqI _ | exact ⟨Sp.biI _, Sp.biI _⟩ | exact ⟨Sp.bqI _, Sp.bqI _⟩ | exact ⟨⟨Sp.biI _, Sp.biI _⟩, Sp.biI _, Sp.biI _⟩ | exact ⟨Sp.bqI _, Sp.bqI _, Sp.bqI _⟩ | assumption | exact Sp.SzD.mono (by assumption) (by decide))
local macro_rules | `(tactic| walk_at "okt") => `(tactic| first | rfl | assumption | decide)
local macro_rules | `(tactic| walk_at "dsok") => `(tactic| first | exact trivial | (refine And.intro (And.intro ?oa ?ob) ?rs; (case oa => walk_at "okt"); (case ob => walk_at "sz1"); (case rs => walk_at "dsok")))
local macro_rules | `(tactic| walk_at "sc") => `(tactic| first | rfl | assumption | decide | omega | walk_at "scx")
local macro_rules | `(tactic| walk_at "leaf") => `(tactic| first | rfl | assumption | exact Sp.tyVL (by walk_at "isv") | exact True.intro | exact ⟨_, rfl⟩ | exact L2.upd_same | exact L2.ClsV.ty _ | exact L2.ClsV.own _ | decide | exact of_decide_eq_true rfl | exact Sp.cmI _ _ | exact Sp.cdI _ (by first | assumption | omega) | exact Sp.cmL (by decide) | exact Sp.cmR (by decide) | exact ⟨by decide, by decide, by decide⟩ | exact ⟨by decide, by decide⟩ | omega | fail)
local macro_rules | `(tactic| walk_at "cls") => `(tactic| first | exact Sp.ClsD.int | exact Sp.ClsD.bool | exact Sp.ClsD.str | exact Sp.ClsD.own _ | exact Sp.ClsD.tuple | exact Sp.ClsD.list)
local macro_rules | `(tactic| walk_at "args") => `(tactic| repeat (first
  | refine' Sp.aaInt ?_ | refine' Sp.aaBl ?_ | refine' Sp.aaStr ?_ | refine' Sp.aaNon ?_ | (refine' Sp.aaOwn (by assumption) (by rfl) ?_; intro _ _) | (refine' Sp.aaTup (by assumption) ?_; intro _ _) | (refine' Sp.aaAny (by assumption) ?_; intro _ _) | refine' Sp.aaNil ?_))
local macro_rules | `(tactic| walk_at "shp") => `(tactic| first | exact Sp.sh_tup _ | exact Sp.sh_lst _ | exact Sp.sh_rd _ _ _ (by first | rfl | assumption) | rfl | decide +kernel | (simp [PySem.SeqAt.shaped, PySem.PyData.canLay0, PySem.PyData.canLayAll0, PySem.PyData.depth, PySem.PyData.depthAll] <;> decide +kernel))
local macro_rules | `(tactic| walk_at "rd1") => `(tactic| first
  | apply Sp.exI
  | (refine And.intro ?lf ?_; (case lf => walk_at "leaf"))
  | refine' Sp.setS ?_ | refine' Sp.parS ?_ | refine' Sp.parS3 ?_ | refine' Sp.bodyS ?_
  | (show @ite Prop (_ = true) _ _ _; first | refine' Sp.iteT (by first | assumption | rfl | exact Sp.nbT (by assumption) | exact Sp.nbF (by assumption) | exact Sp.eqr (by walk_at "shp")) ?_ | refine' Sp.iteF (by first | assumption | rfl | exact Sp.nbT (by assumption) | exact Sp.nbF (by assumption) | exact Sp.nbF (Sp.eqr (by walk_at "shp"))) ?_)
  | (refine' Sp.afInt (by assumption) ?_; intro _ _) | (refine' Sp.afBl (by assumption) ?_; intro _ _) | (refine' Sp.afStr (by assumption) ?_; intro _ _) | (refine' Sp.afNon (by assumption) ?_; intro _ _)
  | (refine' Sp.afOwn (by assumption) (by rfl) ?_; intro _ _ _) | (refine' Sp.afTup (by assumption) ?_; intro _ _ _) | (refine' Sp.afRef (by assumption) ?_; intro _ _ _)
  | refine' Sp.asInt ?_ | refine' Sp.asBl ?_ | refine' Sp.asStr ?_ | refine' Sp.asNon ?_
  | (refine' Sp.asOwn (by assumption) (by rfl) ?_; intro _ _) | (refine' Sp.asTup (by assumption) ?_; intro _ _) | (refine' Sp.asRef (by assumption) ?_; intro _ _)
  | refine' Sp.aaInt ?_ | refine' Sp.aaBl ?_ | refine' Sp.aaStr ?_ | refine' Sp.aaNon ?_ | (refine' Sp.aaOwn (by assumption) (by rfl) ?_; intro _ _) | (refine' Sp.aaTup (by assumption) ?_; intro _ _) | (refine' Sp.aaAny (by assumption) ?_; intro _ _) | refine' Sp.aaNil ?_
  | (refine' Sp.fnR ?i ?z ?r ?_; (case i => walk_at "isvs"); (case z => walk_at "dsok"); (case r => walk_at "rel"))
  | (refine' Sp.makeOk ?i ?z ?r ?o ?_; (case i => walk_at "isvs"); (case z => walk_at "dsok"); (case r => walk_at "rel"); (case o => rfl))
  | (refine' Sp.makeEr ?i ?z ?r ?_; (case i => walk_at "isvs"); (case z => walk_at "dsok"); (case r => walk_at "rel"))
  | (refine' Sp.isiD (by assumption) ?i ?c ?o ?t ?_; (case i => walk_at "isv"); (case c => walk_at "cls"); (case o => walk_at "okt"); (case t => decide))
  | (refine' Sp.fldD (by assumption) ?i ?o ?l ?c ?_; (case i => walk_at "isv"); (case o => rfl); (case l => rfl); (case c => decide))
  | (refine' Sp.fldI (by assumption) (by assumption) (by rfl) (by decide) (by decide) ?_)
  | (refine' Sp.fldRaw (by assumption) (by assumption) (by rfl) (by decide) (by decide) ?_)
  | (refine' Sp.methRaw (by assumption) (by rfl) ?_)
  | (refine' Sp.setRaw (by assumption) (by assumption) (by rfl) (by decide) (by decide) ?_)
  | (refine' Sp.strD ?i ?o ?_; (case i => walk_at "isv"); (case o => rfl))
  | (refine' Sp.methD ?i ?o ?l ?_; (case i => walk_at "isv"); (case o => rfl); (case l => rfl))
  | (refine' Sp.propD ?i ?o ?_; (case i => walk_at "isv"); (case o => rfl))
  | (refine' Sp.binD ?i ?o ?j ?e ?_; (case i => walk_at "isv"); (case o => rfl); (case j => walk_at "isv"); (case e => rfl))
  | (refine' Sp.unD ?i ?o ?_; (case i => walk_at "isv"); (case o => rfl))
  | (refine' Sp.absD ?i ?o ?_; (case i => walk_at "isv"); (case o => rfl))
  | (refine' Sp.eqOwnD (by assumption) ?i ?o ?j ?e ?n ?_; (case i => walk_at "isv"); (case o => rfl); (case j => walk_at "isv"); (case e => walk_at "okt"); (case n => walk_at "nf"))
  | (refine' Sp.neOwnD (by assumption) ?i ?o ?j ?e ?n ?_; (case i => walk_at "isv"); (case o => rfl); (case j => walk_at "isv"); (case e => walk_at "okt"); (case n => walk_at "nf"))
  | (refine' Sp.tupD (by assumption) ?i ?l ?_; (case i => walk_at "isvs"); (case l => rfl); intro _ _ _)
  | (refine' Sp.lstD (by assumption) ?i ?l ?_; (case i => walk_at "isvs"); (case l => rfl); intro _ _ _)
  | (refine' Sp.raiseD (by assumption) ?i ?e ?l ?_; (case i => walk_at "isvs"); (case e => rfl); (case l => rfl))
  | (refine' Sp.setD (by assumption) (by assumption) rfl rfl rfl (by decide) (by decide) ?_; intro _ _)
  | (refine' Sp.ixTD ?i ?e ?g ?_; (case i => walk_at "isv"); (case e => rfl); (case g => rfl))
  | (refine' Sp.ixLD ?i ?e ?g ?_; (case i => walk_at "isv"); (case e => rfl); (case g => rfl))
  | (refine' Sp.gTupD ?i ?e ?_; (case i => walk_at "isv"); (case e => rfl))
  | refine' Sp.lamR (by assumption) ?_
  | (refine' Sp.finD' (by assumption) (by assumption) ?i; (case i => walk_at "isv"))
  | refine' Sp.finE' (by assumption) (by assumption)
  | refine' Sp.finIE (by assumption) (by assumption) (by assumption)
  | (refine' Sp.dipB (by assumption) (by omega) ?m0 ?m1 ?n ?_; (case m0 => first | decide | omega); (case m1 => first | decide | omega); (case n => first | rfl | assumption | walk_at "npx"); intro _ _ _ _ _ _)
  | (refine' Sp.lawLB (by assumption) ?i ?z ?r ?_; (case i => walk_at "isvs"); (case z => walk_at "dsok"); (case r => walk_at "rel"); intro _ _)
  | (refine' Sp.lawL (by assumption) ?i ?z ?r ?_; (case i => walk_at "isvs"); (case z => walk_at "dsok"); (case r => walk_at "rel"); intro _ _ _)
  | (refine' Sp.lawP (by assumption) ?i ?z ?nd ?pr (by omega) ?nl ?_; (case i => walk_at "isvs"); (case z => walk_at "dsok"); (case nd => first | rfl | assumption | walk_at "npx"); (case pr => walk_at "pre"); (case nl => first | rfl | assumption | walk_at "npx"))
  | (refine' Sp.dctD (by assumption) ?_; intro _ _ _)
  | (refine' Sp.eqDD ?i ?j ?e ?f ?s ?t ?_; (case i => walk_at "isv"); (case j => walk_at "isv"); (case e => walk_at "py"); (case f => walk_at "py"); (case s => walk_at "shp"); (case t => walk_at "shp"))
  | (refine' Sp.neDD ?i ?j ?e ?f ?s ?t ?_; (case i => walk_at "isv"); (case j => walk_at "isv"); (case e => walk_at "py"); (case f => walk_at "py"); (case s => walk_at "shp"); (case t => walk_at "shp"))
  | (refine' Sp.readCO ?i ?ot ?r ?_; (case i => walk_at "isv"); (case ot => walk_at "okt"); (case r => first | assumption | exact Sp.rd_own (by assumption)))
  | (refine' Sp.finLB (by assumption) (by assumption) ?e; (case e => first | rfl | assumption | exact Sp.eqr (by walk_at "shp")))
  | refine' Sp.aeNa (by assumption) ?_
  | (refine' Sp.sl2a (by assumption) ?i ?_; (case i => walk_at "isv"); intro _ _ _)
  | (refine' Sp.sl2b (by assumption) ?i ?_; (case i => walk_at "isv"); intro _ _ _)
  | (refine' Sp.catTD (by assumption) ?i ?j ?l ?m ?n ?_; (case i => walk_at "isv"); (case j => walk_at "isv"); (case l => rfl); (case m => rfl); (case n => rfl); intro _ _ _)
  | (refine' Sp.catD (by assumption) ?i ?j ?l ?_; (case i => walk_at "isv"); (case j => walk_at "isv"); (case l => rfl); intro _ _ _)
  | (refine' Sp.binXD (by assumption) ?i ?o ?j ?z ?T ?_; (case i => walk_at "isv"); (case o => rfl); (case j => walk_at "isv"); (case z => walk_at "okt"); (case T => first | assumption | walk_at "rit"))
  | (refine' Sp.mateN ?i ?o (by assumption) ?z ?_; (case i => walk_at "isv"); (case o => walk_at "okt"); (case z => walk_at "sz1"))
  | (refine' Sp.inWD (by assumption) ?f ?x ?_; (case f => rfl); (case x => rfl))
  | (refine' Sp.inFD ?i ?e ?x ?_; (case i => walk_at "isv"); (case e => rfl); (case x => rfl))
  | (refine' Sp.inTI ?i ?_; (case i => walk_at "isv"))
  | (refine' Sp.tupTy (by assumption) ?_; intro _ _ _ _)
  | (refine' Sp.isiTD (t1 := Sp.Ty0.list) (t2 := Sp.Ty0.tuple) (by assumption) ?i (by assumption) ?e ?f ?o ?s ?t ?_; (case i => walk_at "isv"); (case e => rfl); (case f => rfl); (case o => walk_at "okt"); (case s => decide); (case t => decide))
  | (refine' Sp.enumTT ?i ?_; (case i => walk_at "isv"); intro _ _)
  | (refine' Sp.enumTL ?i ?_; (case i => walk_at "isv"); intro _ _)
  | (refine' Sp.sumTD ?i ?_; (case i => walk_at "isv"))
  | (refine' Sp.herN (by assumption) ?z1 ?z2 ?_; (case z1 => walk_at "sz1"); (case z2 => walk_at "sz1"); intro _ _ _)
  | (refine' Sp.joinN ?i ?s ?b ?_; (case i => walk_at "isv"); (case s => rfl); (case b => first | assumption | walk_at "jb"))
  | (refine' Sp.strI (by assumption) ?_)
  | (refine' Sp.repSD (by assumption) ?_)
  | (refine' Sp.appL (by assumption) (by assumption) ?i ?j ?nl ?nd ?hl ?_; (case i => walk_at "isv"); (case j => walk_at "isv"); (case nl => rfl); (case nd => rfl); (case hl => rfl); intro _ _)
  | (refine' Sp.ixLN ?i (by assumption) (by assumption) ?_; (case i => walk_at "isv"))
  | (refine' Sp.slLD (by assumption) ?i ?_; (case i => walk_at "isv"); intro _ _ _)
  | (refine' Sp.slTD (by assumption) ?i ?c ?_; (case i => walk_at "isv"); (case c => exact of_decide_eq_true rfl); intro _ _ _)
  | (refine' Sp.lenL ?i ?_; (case i => walk_at "isv"))
  | (refine' Sp.lenT ?i ?_; (case i => walk_at "isv"))
  | (refine' Sp.allD ?i ?e ?_; (case i => walk_at "isv"); (case e => rfl))
  | (refine' Sp.anyD ?i ?e ?_; (case i => walk_at "isv"); (case e => rfl))
  | (refine' Sp.sumD ?i ?e ?_; (case i => walk_at "isv"); (case e => rfl))
  | (refine' Sp.tupOfL (by assumption) ?i ?_; (case i => walk_at "isv"); intro _ _ _)
  | (refine' Sp.tupOfT ?i ?_; (case i => walk_at "isv"))
  | (refine' Sp.listW ?i ?_; (case i => walk_at "isv"); intro _ _)
  | (refine' Sp.tupW ?i ?_; (case i => walk_at "isv"); intro _ _)
  | (refine' Sp.rng1W (K := ‹PySem.W.Frag›) ?a ?b ?_; (case a => first | decide | omega); (case b => first | decide | omega); intro _ _)
  | (refine' Sp.rng2W (K := ‹PySem.W.Frag›) ?a ?_; (case a => first | decide | omega); intro _ _)
  | (refine' Sp.enumW ?i ?_; (case i => walk_at "isv"); intro _ _)
  | (refine' Sp.zipWL ?i ?j ?_; (case i => walk_at "isv"); (case j => walk_at "isv"); intro _ _)
  | (refine' Sp.zipWT ?i ?j ?_; (case i => walk_at "isv"); (case j => walk_at "isv"); intro _ _)
  | (refine' Sp.lcU' (by assumption) (by assumption) ?s ?n ?h ?_; (case h => rfl); (case s => walk_at "sub"); (case n => walk_at "np"); intro _)
  | (refine' Sp.lcR0 ?_; intro _ _ _)
  | (refine' Sp.lcR1i ?_; intro _ _)
  | (refine' Sp.lcR1s ?_; intro _ _)
  | (refine' Sp.lcR1b ?_; intro _ _)
  | (refine' Sp.lcR1 ?_; intro _ _ _)
  | (refine' Sp.lcY (by assumption) ?le ?i ?iD ?nl ?_; (case le => walk_at "mdle"); (case i => walk_at "isv"); (case iD => walk_at "mem"); (case nl => first | rfl | assumption | walk_at "npx"))
  | (refine' Sp.lcN (by assumption) ?le ?iD ?_; (case le => walk_at "mdle"); (case iD => walk_at "mem"))
  | (refine' Sp.forG1i (by assumption) (by assumption) ?s ?n ?d ?_; (case n => rfl); (case d => rfl); (case s => walk_at "sub"); intro _ _)
  | (refine' Sp.forG1 (by assumption) (by assumption) ?s ?n ?d ?_; (case n => rfl); (case d => rfl); (case s => walk_at "sub"); intro _ _ _)
  | (refine' Sp.loopS1 (by assumption) ?le ?s ?e; (case le => walk_at "mdle"); (case s => exact fun _ hi => by repeat (first | exact hi | refine List.mem_cons_of_mem _ ?_)); (case e => exact ⟨_, rfl⟩))
  | (refine' Sp.loopS2 (by assumption) ?le ?s ?e; (case le => walk_at "mdle"); (case s => exact fun _ hi => by repeat (first | exact hi | refine List.mem_cons_of_mem _ ?_)); (case e => exact ⟨_, _, rfl⟩))
  | (refine' Sp.loopS3 (by assumption) ?le ?s ?e; (case le => walk_at "mdle"); (case s => exact fun _ hi => by repeat (first | exact hi | refine List.mem_cons_of_mem _ ?_)); (case e => exact ⟨_, _, _, rfl⟩))
  | (refine' Sp.loopS4 (by assumption) ?le ?s ?e; (case le => walk_at "mdle"); (case s => exact fun _ hi => by repeat (first | exact hi | refine List.mem_cons_of_mem _ ?_)); (case e => exact ⟨_, _, _, _, rfl⟩))
  | (refine' Sp.loopS5 (by assumption) ?le ?s ?e; (case le => walk_at "mdle"); (case s => exact fun _ hi => by repeat (first | exact hi | refine List.mem_cons_of_mem _ ?_)); (case e => exact ⟨_, _, _, _, _, rfl⟩))
  | (refine' Sp.loopS6 (by assumption) ?le ?s ?e; (case le => walk_at "mdle"); (case s => exact fun _ hi => by repeat (first | exact hi | refine List.mem_cons_of_mem _ ?_)); (case e => exact ⟨_, _, _, _, _, _, rfl⟩))
  | (refine' Sp.forG0 (by assumption) (by assumption) ?s ?n ?_; (case n => rfl); (case s => walk_at "sub"))
  | refine' Sp.finE2 (by assumption) (by assumption) (by assumption)
  | (refine' Sp.lamD (by assumption) ?_; intro _ _ _ _)
  | (refine' Sp.hokD (by assumption) ?i ?_; (case i => walk_at "isv"); intro _ _ _)
  | (refine' Sp.herP1 (by assumption) ?m ?l ?_; (case m => walk_at "mem"); (case l => rfl); intro _ _ _)
  | (refine' Sp.herPs (by assumption) ?l ?_; (case l => rfl); intro _ _)
  | (refine' Sp.herP2 (by assumption) ?m ?l ?l2 ?_; (case m => walk_at "mem"); (case l => rfl); (case l2 => rfl); intro _ _ _)
  | (refine' Sp.finL (by assumption) (by assumption) ?i; (case i => walk_at "isv"))
  | fail)
local macro_rules | `(tactic| walk_at "rd1N") => `(tactic| first
  | apply Sp.exI
  | (refine And.intro ?lf ?_; (case lf => walk_at "leaf"))
  | refine' Sp.setS ?_ | refine' Sp.parS ?_ | refine' Sp.parS3 ?_ | refine' Sp.bodyS ?_
  | (show @ite Prop (_ = true) _ _ _; first | refine' Sp.iteT (by first | assumption | rfl | exact Sp.nbT (by assumption) | exact Sp.nbF (by assumption) | exact Sp.eqr (by walk_at "shp")) ?_ | refine' Sp.iteF (by first | assumption | rfl | exact Sp.nbT (by assumption) | exact Sp.nbF (by assumption) | exact Sp.nbF (Sp.eqr (by walk_at "shp"))) ?_)
  | (refine' Sp.afInt (by assumption) ?_; intro _ _) | (refine' Sp.afBl (by assumption) ?_; intro _ _) | (refine' Sp.afStr (by assumption) ?_; intro _ _) | (refine' Sp.afNon (by assumption) ?_; intro _ _)
  | (refine' Sp.afOwn (by assumption) (by rfl) ?_; intro _ _ _) | (refine' Sp.afTup (by assumption) ?_; intro _ _ _) | (refine' Sp.afRef (by assumption) ?_; intro _ _ _)
  | refine' Sp.asInt ?_ | refine' Sp.asBl ?_ | refine' Sp.asStr ?_ | refine' Sp.asNon ?_
  | (refine' Sp.asOwn (by assumption) (by rfl) ?_; intro _ _) | (refine' Sp.asTup (by assumption) ?_; intro _ _) | (refine' Sp.asRef (by assumption) ?_; intro _ _)
  | refine' Sp.aaInt ?_ | refine' Sp.aaBl ?_ | refine' Sp.aaStr ?_ | refine' Sp.aaNon ?_ | (refine' Sp.aaOwn (by assumption) (by rfl) ?_; intro _ _) | (refine' Sp.aaTup (by assumption) ?_; intro _ _) | (refine' Sp.aaAny (by assumption) ?_; intro _ _) | refine' Sp.aaNil ?_
  | (refine' Sp.fnR ?i ?z ?r ?_; (case i => walk_at "isvs"); (case z => walk_at "dsok"); (case r => walk_at "rel"))
  | (refine' Sp.makeOk ?i ?z ?r ?o ?_; (case i => walk_at "isvs"); (case z => walk_at "dsok"); (case r => walk_at "rel"); (case o => rfl))
  | (refine' Sp.makeEr ?i ?z ?r ?_; (case i => walk_at "isvs"); (case z => walk_at "dsok"); (case r => walk_at "rel"))
  | (refine' Sp.isiD (by assumption) ?i ?c ?o ?t ?_; (case i => walk_at "isv"); (case c => walk_at "cls"); (case o => walk_at "okt"); (case t => decide))
  | (refine' Sp.fldD (by assumption) ?i ?o ?l ?c ?_; (case i => walk_at "isv"); (case o => rfl); (case l => rfl); (case c => decide))
  | (refine' Sp.fldI (by assumption) (by assumption) (by rfl) (by decide) (by decide) ?_)
  | (refine' Sp.fldRaw (by assumption) (by assumption) (by rfl) (by decide) (by decide) ?_)
  | (refine' Sp.methRaw (by assumption) (by rfl) ?_)
  | (refine' Sp.setRaw (by assumption) (by assumption) (by rfl) (by decide) (by decide) ?_)
  | (refine' Sp.strD ?i ?o ?_; (case i => walk_at "isv"); (case o => rfl))
  | (refine' Sp.methD ?i ?o ?l ?_; (case i => walk_at "isv"); (case o => rfl); (case l => rfl))
  | (refine' Sp.propD ?i ?o ?_; (case i => walk_at "isv"); (case o => rfl))
  | (refine' Sp.binD ?i ?o ?j ?e ?_; (case i => walk_at "isv"); (case o => rfl); (case j => walk_at "isv"); (case e => rfl))
  | (refine' Sp.unD ?i ?o ?_; (case i => walk_at "isv"); (case o => rfl))
  | (refine' Sp.absD ?i ?o ?_; (case i => walk_at "isv"); (case o => rfl))
  | (refine' Sp.eqOwnD (by assumption) ?i ?o ?j ?e ?n ?_; (case i => walk_at "isv"); (case o => rfl); (case j => walk_at "isv"); (case e => walk_at "okt"); (case n => walk_at "nf"))
  | (refine' Sp.neOwnD (by assumption) ?i ?o ?j ?e ?n ?_; (case i => walk_at "isv"); (case o => rfl); (case j => walk_at "isv"); (case e => walk_at "okt"); (case n => walk_at "nf"))
  | (refine' Sp.raiseD (by assumption) ?i ?e ?l ?_; (case i => walk_at "isvs"); (case e => rfl); (case l => rfl))
  | (refine' Sp.setD (by assumption) (by assumption) rfl rfl rfl (by decide) (by decide) ?_; intro _ _)
  | (refine' Sp.ixTD ?i ?e ?g ?_; (case i => walk_at "isv"); (case e => rfl); (case g => rfl))
  | (refine' Sp.ixLD ?i ?e ?g ?_; (case i => walk_at "isv"); (case e => rfl); (case g => rfl))
  | (refine' Sp.gTupD ?i ?e ?_; (case i => walk_at "isv"); (case e => rfl))
  | refine' Sp.lamR (by assumption) ?_
  | (refine' Sp.finD' (by assumption) (by assumption) ?i; (case i => walk_at "isv"))
  | refine' Sp.finE' (by assumption) (by assumption)
  | refine' Sp.finIE (by assumption) (by assumption) (by assumption)
  | (refine' Sp.dipB (by assumption) (by omega) ?m0 ?m1 ?n ?_; (case m0 => first | decide | omega); (case m1 => first | decide | omega); (case n => first | rfl | assumption | walk_at "npx"); intro _ _ _ _ _ _)
  | (refine' Sp.lawLB (by assumption) ?i ?z ?r ?_; (case i => walk_at "isvs"); (case z => walk_at "dsok"); (case r => walk_at "rel"); intro _ _)
  | (refine' Sp.lawL (by assumption) ?i ?z ?r ?_; (case i => walk_at "isvs"); (case z => walk_at "dsok"); (case r => walk_at "rel"); intro _ _ _)
  | (refine' Sp.lawP (by assumption) ?i ?z ?nd ?pr (by omega) ?nl ?_; (case i => walk_at "isvs"); (case z => walk_at "dsok"); (case nd => first | rfl | assumption | walk_at "npx"); (case pr => walk_at "pre"); (case nl => first | rfl | assumption | walk_at "npx"))
  | (refine' Sp.dctD (by assumption) ?_; intro _ _ _)
  | (refine' Sp.eqDD ?i ?j ?e ?f ?s ?t ?_; (case i => walk_at "isv"); (case j => walk_at "isv"); (case e => walk_at "py"); (case f => walk_at "py"); (case s => walk_at "shp"); (case t => walk_at "shp"))
  | (refine' Sp.neDD ?i ?j ?e ?f ?s ?t ?_; (case i => walk_at "isv"); (case j => walk_at "isv"); (case e => walk_at "py"); (case f => walk_at "py"); (case s => walk_at "shp"); (case t => walk_at "shp"))
  | (refine' Sp.sl2a (by assumption) ?i ?_; (case i => walk_at "isv"); intro _ _ _)
  | (refine' Sp.sl2b (by assumption) ?i ?_; (case i => walk_at "isv"); intro _ _ _)
  | (refine' Sp.catTD (by assumption) ?i ?j ?l ?m ?n ?_; (case i => walk_at "isv"); (case j => walk_at "isv"); (case l => rfl); (case m => rfl); (case n => rfl); intro _ _ _)
  | (refine' Sp.catD (by assumption) ?i ?j ?l ?_; (case i => walk_at "isv"); (case j => walk_at "isv"); (case l => rfl); intro _ _ _)
  | (refine' Sp.binXD (by assumption) ?i ?o ?j ?z ?T ?_; (case i => walk_at "isv"); (case o => rfl); (case j => walk_at "isv"); (case z => walk_at "okt"); (case T => first | assumption | walk_at "rit"))
  | (refine' Sp.mateN ?i ?o (by assumption) ?z ?_; (case i => walk_at "isv"); (case o => walk_at "okt"); (case z => walk_at "sz1"))
  | (refine' Sp.inWD (by assumption) ?f ?x ?_; (case f => rfl); (case x => rfl))
  | (refine' Sp.inFD ?i ?e ?x ?_; (case i => walk_at "isv"); (case e => rfl); (case x => rfl))
  | (refine' Sp.inTI ?i ?_; (case i => walk_at "isv"))
  | (refine' Sp.tupTy (by assumption) ?_; intro _ _ _ _)
  | (refine' Sp.isiTD (t1 := Sp.Ty0.list) (t2 := Sp.Ty0.tuple) (by assumption) ?i (by assumption) ?e ?f ?o ?s ?t ?_; (case i => walk_at "isv"); (case e => rfl); (case f => rfl); (case o => walk_at "okt"); (case s => decide); (case t => decide))
  | (refine' Sp.enumTT ?i ?_; (case i => walk_at "isv"); intro _ _)
  | (refine' Sp.enumTL ?i ?_; (case i => walk_at "isv"); intro _ _)
  | (refine' Sp.sumTD ?i ?_; (case i => walk_at "isv"))
  | (refine' Sp.herN (by assumption) ?z1 ?z2 ?_; (case z1 => walk_at "sz1"); (case z2 => walk_at "sz1"); intro _ _ _)
  | (refine' Sp.joinN ?i ?s ?b ?_; (case i => walk_at "isv"); (case s => rfl); (case b => first | assumption | walk_at "jb"))
  | (refine' Sp.strI (by assumption) ?_)
  | (refine' Sp.repSD (by assumption) ?_)
  | (refine' Sp.appL (by assumption) (by assumption) ?i ?j ?nl ?nd ?hl ?_; (case i => walk_at "isv"); (case j => walk_at "isv"); (case nl => rfl); (case nd => rfl); (case hl => rfl); intro _ _)
  | (refine' Sp.ixLN ?i (by assumption) (by assumption) ?_; (case i => walk_at "isv"))
  | (refine' Sp.slLD (by assumption) ?i ?_; (case i => walk_at "isv"); intro _ _ _)
  | (refine' Sp.slTD (by assumption) ?i ?c ?_; (case i => walk_at "isv"); (case c => exact of_decide_eq_true rfl); intro _ _ _)
  | (refine' Sp.lenL ?i ?_; (case i => walk_at "isv"))
  | (refine' Sp.lenT ?i ?_; (case i => walk_at "isv"))
  | (refine' Sp.allD ?i ?e ?_; (case i => walk_at "isv"); (case e => rfl))
  | (refine' Sp.anyD ?i ?e ?_; (case i => walk_at "isv"); (case e => rfl))
  | (refine' Sp.sumD ?i ?e ?_; (case i => walk_at "isv"); (case e => rfl))
  | (refine' Sp.tupOfL (by assumption) ?i ?_; (case i => walk_at "isv"); intro _ _ _)
  | (refine' Sp.tupOfT ?i ?_; (case i => walk_at "isv"))
  | (refine' Sp.listW ?i ?_; (case i => walk_at "isv"); intro _ _)
  | (refine' Sp.tupW ?i ?_; (case i => walk_at "isv"); intro _ _)
  | (refine' Sp.rng1W (K := ‹PySem.W.Frag›) ?a ?b ?_; (case a => first | decide | omega); (case b => first | decide | omega); intro _ _)
  | (refine' Sp.rng2W (K := ‹PySem.W.Frag›) ?a ?_; (case a => first | decide | omega); intro _ _)
  | (refine' Sp.enumW ?i ?_; (case i => walk_at "isv"); intro _ _)
  | (refine' Sp.zipWL ?i ?j ?_; (case i => walk_at "isv"); (case j => walk_at "isv"); intro _ _)
  | (refine' Sp.zipWT ?i ?j ?_; (case i => walk_at "isv"); (case j => walk_at "isv"); intro _ _)
  | (refine' Sp.lcU' (by assumption) (by assumption) ?s ?n ?h ?_; (case h => rfl); (case s => walk_at "sub"); (case n => walk_at "np"); intro _)
  | (refine' Sp.lcR0 ?_; intro _ _ _)
  | (refine' Sp.lcR1i ?_; intro _ _)
  | (refine' Sp.lcR1s ?_; intro _ _)
  | (refine' Sp.lcR1b ?_; intro _ _)
  | (refine' Sp.lcR1 ?_; intro _ _ _)
  | (refine' Sp.lcY (by assumption) ?le ?i ?iD ?nl ?_; (case le => walk_at "mdle"); (case i => walk_at "isv"); (case iD => walk_at "mem"); (case nl => first | rfl | assumption | walk_at "npx"))
  | (refine' Sp.lcN (by assumption) ?le ?iD ?_; (case le => walk_at "mdle"); (case iD => walk_at "mem"))
  | (refine' Sp.forG1i (by assumption) (by assumption) ?s ?n ?d ?_; (case n => rfl); (case d => rfl); (case s => walk_at "sub"); intro _ _)
  | (refine' Sp.forG1 (by assumption) (by assumption) ?s ?n ?d ?_; (case n => rfl); (case d => rfl); (case s => walk_at "sub"); intro _ _ _)
  | (refine' Sp.loopS1 (by assumption) ?le ?s ?e; (case le => walk_at "mdle"); (case s => exact fun _ hi => by repeat (first | exact hi | refine List.mem_cons_of_mem _ ?_)); (case e => exact ⟨_, rfl⟩))
  | (refine' Sp.loopS2 (by assumption) ?le ?s ?e; (case le => walk_at "mdle"); (case s => exact fun _ hi => by repeat (first | exact hi | refine List.mem_cons_of_mem _ ?_)); (case e => exact ⟨_, _, rfl⟩))
  | (refine' Sp.loopS3 (by assumption) ?le ?s ?e; (case le => walk_at "mdle"); (case s => exact fun _ hi => by repeat (first | exact hi | refine List.mem_cons_of_mem _ ?_)); (case e => exact ⟨_, _, _, rfl⟩))
  | (refine' Sp.loopS4 (by assumption) ?le ?s ?e; (case le => walk_at "mdle"); (case s => exact fun _ hi => by repeat (first | exact hi | refine List.mem_cons_of_mem _ ?_)); (case e => exact ⟨_, _, _, _, rfl⟩))
  | (refine' Sp.loopS5 (by assumption) ?le ?s ?e; (case le => walk_at "mdle"); (case s => exact fun _ hi => by repeat (first | exact hi | refine List.mem_cons_of_mem _ ?_)); (case e => exact ⟨_, _, _, _, _, rfl⟩))
  | (refine' Sp.loopS6 (by assumption) ?le ?s ?e; (case le => walk_at "mdle"); (case s => exact fun _ hi => by repeat (first | exact hi | refine List.mem_cons_of_mem _ ?_)); (case e => exact ⟨_, _, _, _, _, _, rfl⟩))
  | (refine' Sp.forG0 (by assumption) (by assumption) ?s ?n ?_; (case n => rfl); (case s => walk_at "sub"))
  | refine' Sp.finE2 (by assumption) (by assumption) (by assumption)
  | (refine' Sp.lamD (by assumption) ?_; intro _ _ _ _)
  | (refine' Sp.hokD (by assumption) ?i ?_; (case i => walk_at "isv"); intro _ _ _)
  | (refine' Sp.herP1 (by assumption) ?m ?l ?_; (case m => walk_at "mem"); (case l => rfl); intro _ _ _)
  | (refine' Sp.herPs (by assumption) ?l ?_; (case l => rfl); intro _ _)
  | (refine' Sp.herP2 (by assumption) ?m ?l ?l2 ?_; (case m => walk_at "mem"); (case l => rfl); (case l2 => rfl); intro _ _ _)
  | (refine' Sp.finL (by assumption) (by assumption) ?i; (case i => walk_at "isv"))
  | fail)
local macro_rules | `(tactic| walk_at "rdN") => `(tactic| repeat (walk_at "rd1N"))
local macro_rules | `(tactic| walk_at "rd") => `(tactic| repeat (walk_at "rd1"))
local macro_rules | `(tactic| walk_at "zs") => `(tactic| (refine' Sp.zsStart (by assumption) ?_; repeat (first | refine' Sp.zsNil ?_ | (refine' Sp.zsInt ?_; intro _) | (refine' Sp.zsRat ?_; intro _) | (refine' Sp.zsStep ?_; intro _ _) | (refine' Sp.zsStem ?_; intro _ _) | (refine' Sp.zsTable ?_; intro _ _ _ _) | (refine' Sp.zsAny ?_; intro _ _))))
local macro_rules | `(tactic| walk_at "go0") => `(tactic| (walk_at "zs"; (have := Sp.Env.of (K := ‹PySem.W.Frag›) ‹L2.Hp›); walk_at "args"))
local macro_rules | `(tactic| walk_at "go") => `(tactic| (walk_at "go0"; walk_at "rd"))
local macro_rules | `(tactic| walk_at "goI0") => `(tactic| (walk_at "zs"; (have := Sp.Env.ofI (K := ‹PySem.W.Frag›) (H := ‹L2.Hp›) (by assumption)); walk_at "args"))
local macro_rules | `(tactic| walk_at "goI") => `(tactic| (walk_at "goI0"; walk_at "rd"))
local macro_rules | `(tactic| walk_at "goL") => `(tactic| (walk_at "zs"; walk_at "args"; walk_at "rd"))
local macro_rules | `(tactic| walk_at "rel") => `(tactic| first
  | assumption
  | (apply Sp.RIsInt.mk <;> walk_at "sc")
  | (apply Sp.RIsRat.mk <;> walk_at "sc")
  | (apply Sp.RSign.mk <;> walk_at "sc")
  | (apply Sp.RInitR.one <;> walk_at "sc")
  | (apply Sp.RInitR.ok <;> walk_at "sc")
  | (apply Sp.RInitR.z <;> walk_at "sc")
  | (apply Sp.RInitR.t <;> walk_at "sc")
  | (apply Sp.RInitR.b <;> walk_at "sc")
  | (apply Sp.ROf.r <;> walk_at "sc")
  | (apply Sp.ROf.i <;> walk_at "sc")
  | (apply Sp.ROf.n <;> walk_at "sc")
  | (apply Sp.RCmp.r <;> walk_at "sc")
  | (apply Sp.RCmp.i <;> walk_at "sc")
  | (apply Sp.RCmp.n <;> walk_at "sc")
  | (apply Sp.RBelow.r <;> walk_at "sc")
  | (apply Sp.RBelow.i <;> walk_at "sc")
  | (apply Sp.RBelow.n <;> walk_at "sc")
  | (apply Sp.RPropR.mk <;> walk_at "sc")
  | (apply Sp.RInitS.ok <;> walk_at "sc")
  | (apply Sp.RInitS.z <;> walk_at "sc")
  | (apply Sp.RInitS.s <;> walk_at "sc")
  | (apply Sp.RInitS.r <;> walk_at "sc")
  | (apply Sp.RNeed.ok <;> walk_at "sc")
  | (apply Sp.RNeed.no <;> walk_at "sc")
  | (apply Sp.RNeedK.ok <;> walk_at "sc")
  | (apply Sp.RNeedK.z <;> walk_at "sc")
  | (apply Sp.RIsUp.mk <;> walk_at "sc")
  | (apply Sp.RSummed.ok <;> walk_at "sc")
  | (apply Sp.RSummed.z <;> walk_at "sc")
  | (apply Sp.RBinS.ok <;> walk_at "sc")
  | (apply Sp.RBinS.z <;> walk_at "sc")
  | (apply Sp.RBinS.n <;> walk_at "sc")
  | (apply Sp.RMulS.ok <;> walk_at "sc")
  | (apply Sp.RMulS.z <;> walk_at "sc")
  | (apply Sp.RMulS.n <;> walk_at "sc")
  | (apply Sp.RCorner.ok <;> walk_at "sc")
  | (apply Sp.RCorner.z <;> walk_at "sc")
  | (apply Sp.ROneR.mk <;> walk_at "sc")
  | (apply Sp.RCross.ok <;> walk_at "sc")
  | (apply Sp.RCross.one <;> walk_at "sc")
  | (apply Sp.RCross.oth <;> walk_at "sc")
  | (apply Sp.RIsList.mk <;> walk_at "sc")
  | (apply Sp.RNeedR.r <;> walk_at "sc")
  | (apply Sp.RAreRuns.ok <;> walk_at "sc")
  | (apply Sp.RInitRd.ok <;> walk_at "sc")
  | (apply Sp.REqRd.mk <;> walk_at "sc")
  | (apply Sp.RInitN.ok <;> walk_at "sc")
  | (apply Sp.RNetL.ok <;> walk_at "sc")
  | (apply Sp.RNetAt.ok <;> walk_at "sc")
  | (apply Sp.RTurnsOf.ok <;> walk_at "sc")
  | (apply Sp.RRunsOf.ok <;> walk_at "sc")
  | (apply Sp.RRoadOf.ok <;> walk_at "sc")
  | (apply Sp.RAlike.ok <;> walk_at "sc")
  | (apply Sp.RIsBeg.ok <;> walk_at "sc")
  | (apply Sp.RAhead.ok <;> walk_at "sc")
  | (apply Sp.RAhead.one <;> walk_at "sc")
  | (apply Sp.RAhead.oth <;> walk_at "sc")
  | (apply Sp.RCommon.ok <;> walk_at "sc")
  | (apply Sp.RCommon.one <;> walk_at "sc")
  | (apply Sp.RCommon.oth <;> walk_at "sc")
  | (apply Sp.RLess.mk <;> walk_at "sc")
  | (apply Sp.REnds.t <;> walk_at "sc")
  | (apply Sp.REnds.l <;> walk_at "sc")
  | (apply Sp.RMidd.t <;> walk_at "sc")
  | (apply Sp.RMidd.l <;> walk_at "sc")
  | (apply Sp.RWith.e <;> walk_at "sc")
  | (apply Sp.RWith.o <;> walk_at "sc")
  | (apply Sp.RAhL.mk <;> walk_at "sc")
  | (apply Sp.RSide.e <;> walk_at "sc")
  | (apply Sp.RSide.o <;> walk_at "sc")
  | (apply Sp.RLast.mk <;> walk_at "sc")
  | (apply Sp.RToldR.r <;> walk_at "sc")
  | (apply Sp.RToldR.n <;> walk_at "sc")
  | (apply Sp.RPairR.mk <;> walk_at "sc")
  | fail)
local macro_rules | `(tactic| walk_at "nf") => `(tactic| first | exact Sp.nfT (‹∀ t ∈ Sp.tsL, PySem.W.notFirst ‹PySem.W.Frag› (Sp.ca ‹PySem.W.Frag› Sp.Cn.Road) (Sp.tv ‹PySem.W.Frag› t) = true›) (by rfl) | assumption | fail)
local macro_rules | `(tactic| walk_at "pre") => `(tactic| first | rfl | exact ⟨_, _, rfl, by assumption⟩ | exact ⟨_, _, _, _, rfl, by assumption⟩)
local macro_rules | `(tactic| walk_at "npx") => `(tactic| repeat' (first | rfl | exact Sp.noPs_ints _ | exact Sp.noP_lints _ | exact Sp.noP_rd _ _ _ | exact Sp.noP_lq (by assumption) | refine Sp.noPs_cons ?_ ?_ | refine Sp.noP_tup ?_ | refine Sp.noP_obj ?_))
local macro_rules | `(tactic| walk_at "pre") => `(tactic| first | exact ⟨_, rfl, by assumption⟩ | exact ⟨_, _, _, rfl, by assumption, by assumption⟩ | exact ⟨_, _, _, rfl, by assumption, by assumption, by assumption⟩)
namespace Sp
open PySem PySem.Spec PyProof.Rows L2
open PySem.W (Frag)
section
variable {P : Program} {w : World} {K : PySem.W.Frag} {mg : Str → Option Value} {base : Heap} {f : Addr} {fd : FuncData} {T : List (Addr × Str)}
variable (h_gcd : mg "gcd" = some (.builtin "math.gcd")) {tk1 tk2 : Tok} (h_most : mg "MOST_DIGITS" = some (.int 60 tk1)) (h_digits : mg "DIGITS" = some (.str "0123456789" tk2)) (h_all : mg "all" = none) (h_zip : mg "zip" = none) (h_any : mg "any" = none) (h_sum : mg "sum" = none) (h_min : mg "min" = none)
variable {tk3 : Tok} (h_runs : mg "MOST_RUNS" = some (.int 60 tk3)) (h_KINDS : mg "KINDS" = some (.ref (He.ga K "KINDS"))) (h_WITHOUT_RUNS : mg "WITHOUT_RUNS" = some (.ref (He.ga K "WITHOUT_RUNS")))
  (t_KINDS : WT K (He.ga K "KINDS") [.str "edge", .str "first", .str "open", .str "ended"]) (t_WITHOUT_RUNS : WT K (He.ga K "WITHOUT_RUNS") [.str "edge", .str "first"])
variable (g_xBadRatio : GXN P w K mg base 1 "BadRatio" ["part"] (cX K "BadRatio"))
  (g_xBadStep : GXN P w K mg base 1 "BadStep" ["part"] (cX K "BadStep"))
  (g_xBadNet : GXN P w K mg base 1 "BadNet" ["part"] (cX K "BadNet"))
  (g_xBadRoad : GXN P w K mg base 1 "BadRoad" ["part"] (cX K "BadRoad"))
  (g_xBadNumber : GXN P w K mg base 1 "BadNumber" ["part"] (cX K "BadNumber"))
  (g_xRound : GXN P w K mg base 1 "Round" ["part"] (cX K "Round"))
  (g_xNotNeighbours : GXN P w K mg base 1 "NotNeighbours" ["one", "other"] (cX K "NotNeighbours"))
  (g_xUnlike : GXN P w K mg base 1 "Unlike" ["what"] (cX K "Unlike"))
  (g_xTooMany : GXN P w K mg base 1 "TooMany" ["what", "most"] (cX K "TooMany"))
  (g_xBadText : GXN P w K mg base 1 "BadText" ["line", "word"] (cX K "BadText"))
  (g_is_integer : GD P w K mg base (L2.CX P w) 1 "is_integer" ["value"] [] (spR K csL tsL 3900 RIsInt))
  (g_is_ratio : GD P w K mg base (L2.CX P w) 2 "is_ratio" ["value"] [] (spR K csL tsL 3900 RIsRat))
  (g_sign_of : GD P w K mg base (L2.CX P w) 1 "sign_of" ["number"] [] (spR K csL tsL 100000 RSign))
  (g_mRatio : GM P w K mg base (L2.CX P w) 3 "Ratio" (ca K .Ratio) ["self", "top", "bottom"] [] (spRI K csL tsL .Ratio 3900 RInitR)) (g_mRatio1 : GM P w K mg base (L2.CX P w) 3 "Ratio" (ca K .Ratio) ["self", "top", "bottom"] [.int 1] (spRI K csL tsL .Ratio 3900 RInitR))
  (g_Ratio_of : GS P w K mg base (L2.CX P w) 5 (ca K .Ratio) "of" (spR K csL tsL 3900 (ROf "BadRatio" "value")))
  (g_at_right : GD P w K mg base (L2.CX P w) 6 "at_right" ["value"] [] (spR K csL tsL 3900 (ROf "BadRatio" "other")))
  (g_Ratio_compared : GH P w K mg base (L2.CX P w) 7 (ca K .Ratio) "compared" ["self", "other"] (spR K csL tsL 1900 RCmp))
  (g_Ratio_is_below : GH P w K mg base (L2.CX P w) 8 (ca K .Ratio) "is_below" ["self", "other"] (spR K csL tsL 1900 RBelow))
  (g_Ratio_below : GP P w K mg base (L2.CX P w) 1 (ca K .Ratio) "below" (spR K csL tsL 3900 (RPropR fun q => .int q.floor)))
  (g_mStep : GM P w K mg base (L2.CX P w) 3 "Step" (ca K .Step) ["self", "studs", "rounds"] [] (spRI K csL tsL .Step 3900 RInitS))
  (g_need_step : GD P w K mg base (L2.CX P w) 3 "need_step" ["value", "part"] [] (spR K csL tsL 100000 (RNeed .Step "BadStep")))
  (g_need_studs : GD P w K mg base (L2.CX P w) 3 "need_studs" ["step", "part"] [] (spR K csL tsL 100000 RNeedK))
  (g_is_upward : GD P w K mg base (L2.CX P w) 1 "is_upward" ["step"] [] (spR K csL tsL 3900 RIsUp))
  (g_summed : GD P w K mg base (L2.CX P w) 5 "summed" ["studs", "rounds"] [] (spR K csL tsL 3900 RSummed))
  (g_Step_Add : GO P w K mg base (L2.CX P w) 6 (ca K .Step) .Add (spR K csL tsL 1900 (RBinS (· + ·))))
  (g_Step_Mult : GO P w K mg base (L2.CX P w) 5 (ca K .Step) .Mult (spR K csL tsL 1900 RMulS))
  (g_Step_corner : GP P w K mg base (L2.CX P w) 5 (ca K .Step) "corner" (spR K csL tsL 3900 RCorner))
  (g_Step_one_round : GS0 P w K mg base (L2.CX P w) 5 (ca K .Step) "one_round" (spR K csL tsL 3900 ROneR))
  (g_cross : GD P w K mg base (L2.CX P w) 4 "cross" ["one", "other"] [] (spR K csL tsL 1900 RCross))
  (g_Ratio_is_whole : GP P w K mg base (L2.CX P w) 1 (ca K .Ratio) "is_whole" (spR K csL tsL 3900 (RPropR fun q => .bl (decide (q.den = 1)))))
  (g_need_integer : GD P w K mg base (L2.CX P w) 3 "need_integer" ["value", "part"] [] (spR K csL tsL 10 RNever))
  (g_is_list : GD P w K mg base (L2.CX P w) 1 "is_list" ["value"] [] (spR K csL tsL 100000 RIsList))
  (g_need_ratio : GD P w K mg base (L2.CX P w) 6 "need_ratio" ["value", "part"] [] (spR K csL tsL 3900 RNeedR))
  (g_need_road : GD P w K mg base (L2.CX P w) 3 "need_road" ["value", "part"] [] (spR K csL tsL 100000 (RNeed .Road "BadRoad")))
  (g_are_runs : GD P w K mg base (L2.CX P w) 2 "are_runs" ["value"] [] (spR K csL tsL 100000 RAreRuns))
  (g_mRoad : GM P w K mg base (L2.CX P w) 3 "Road" (ca K .Road) ["self", "whole", "runs", "kind"] [] (spRI K csL tsL .Road 3900 RInitRd))
  (g_Road_eq : GN P w K mg base (L2.CX P w) 1 (ca K .Road) "__eq__" (spR K csL tsL 100000 REqRd)) (g_Road_eq_ne : GNe P w K mg base (L2.CX P w) 1 (ca K .Road) (spR K csL tsL 100000 REqRd)) (nf_Road : ∀ t ∈ tsL, PySem.W.notFirst K (ca K .Road) (tv K t) = true)
  (g_mNet : GM P w K mg base (L2.CX P w) 7 "Net" (ca K .Net) ["self", "low", "high"] [] (spRI K csL tsL .Net 1900 RInitN))
  (g_Net_first : GS P w K mg base (L2.CX P w) 9 (ca K .Net) "first" (spR K csL tsL 10 RNever))
  (g_net_of_letters : GD P w K mg base (L2.CX P w) 9 "net_of_letters" ["whole", "runs"] [] (spR K csL tsL 8 RNetL))
  (g_net_at : GD P w K mg base (L2.CX P w) 10 "net_at" ["road"] [] (spR K csL tsL 100000 RNetAt))
  (g_turns_of : GD P w K mg base (L2.CX P w) 11 "turns_of" ["road"] [] (spR K csL tsL 100000 RTurnsOf))
  (g_runs_of : GD P w K mg base (L2.CX P w) 7 "runs_of" ["ratio"] [] (spR K csL tsL 3900 RRunsOf))
  (g_road_of : GD P w K mg base (L2.CX P w) 8 "road_of" ["ratio"] [] (spR K csL tsL 3900 RRoadOf))
  (g_begin_alike : GD P w K mg base (L2.CX P w) 1 "begin_alike" ["one", "other"] [] (spR K csL tsL 100000 RAlike))
  (g_is_begin : GD P w K mg base (L2.CX P w) 2 "is_begin" ["one", "other"] [] (spR K csL tsL 100000 RIsBeg))
  (g_is_ahead : GD P w K mg base (L2.CX P w) 4 "is_ahead" ["one", "other"] [] (spR K csL tsL 100000 RAhead))
  (g_common : GD P w K mg base (L2.CX P w) 5 "common" ["one", "other"] [] (spR K csL tsL 100000 RCommon))
  (g_l_pail : GD P w K mg base (L2.CX P w) 1 "_law_pail" ["_law_script"] [] (spPail K))
  (g_l_dip : GD P w K mg base (L2.CX P w) 1 "_law_dip" ["_law_pail_here", "_law_many"] [] spDip)
  (g_l_less : GD P w K mg base (L2.CX P w) 1 "_law_less" ["_law_one", "_law_other"] [] (spR K csL tsL 100000 RLess))
  (g_l_ends : GD P w K mg base (L2.CX P w) 1 "_law_ends" ["_law_road_here"] [] (spR K csL tsL 100000 REnds))
  (g_l_middle : GD P w K mg base (L2.CX P w) 2 "_law_middle" ["_law_road_here"] [] (spR K csL tsL 100000 RMidd))
  (g_l_within : GD P w K mg base (L2.CX P w) 3 "_law_within" ["_law_one", "_law_other"] [] (spR K csL tsL 100000 RWith))
  (g_l_ahead : GD P w K mg base (L2.CX P w) 4 "_law_ahead" ["_law_one", "_law_other"] [] (spR K csL tsL 100000 RAhL))
  (g_l_side : GD P w K mg base (L2.CX P w) 3 "_law_side" ["_law_road_here", "_law_middle_here"] [] (spR K csL tsL 100000 RSide))
  (g_l_last_right : GD P w K mg base (L2.CX P w) 5 "_law_last_right" ["_law_one", "_law_other", "_law_told_here"] [] (spR K csL tsL 100000 RLast))
  (g_l_told : GD P w K mg base (L2.CX P w) 1 "_law_told" ["_law_road_here"] [] (spR K csL tsL 100000 RToldR))
  (g_law : GD P w K mg base (L2.CX P w) 19 "law" ["_law_script"] [] (spLaw K T))
  (g_l_runs : GD P w K mg base (L2.CX P w) 2 "_law_runs" ["_law_pail_here"] [] (spLP K csL tsL T 60 950000 14 (fun ds => ds = []) (fun _ d => ∃ rs : List Int, d = .lst (iDs rs) ∧ Rk 4 rs)))
  (g_l_road : GD P w K mg base (L2.CX P w) 3 "_law_road" ["_law_pail_here", "_law_whole"] [] (spLP K csL tsL T 60 900000 15 (fun ds => ∃ w : Int, ds = [.int w] ∧ w.natAbs < 2 ^ 8) (fun ds d => ∃ w rs, ∃ k : Kd, ds = [.int w] ∧ d = dRd w rs k.str ∧ RdOk w rs k ∧ rs.length ≤ 4)))
  (g_l_kin : GD P w K mg base (L2.CX P w) 2 "_law_kin" ["_law_pail_here", "_law_road_here"] [] (spLP K csL tsL T 60 900000 3 (fun ds => ∃ w rs, ∃ k : Kd, ds = [dRd w rs k.str] ∧ RdOk w rs k ∧ rs.length ≤ 5) (fun ds d => ∃ w rs ss, ∃ k l : Kd, ds = [dRd w rs k.str] ∧ d = dRd w ss l.str ∧ RdOk w ss l ∧ ss.length ≤ 5)))
  (g_l_pair_right : GD P w K mg base (L2.CX P w) 18 "_law_pair_right" ["_law_one", "_law_other"] [] (spL K csL tsL T 100000 RPairR))
  (g_l_parts_right : GD P w K mg base (L2.CX P w) 18 "_law_parts_right" ["_law_pail_here", "_law_whole", "_law_one", "_law_other"] [] (spLP K csL tsL T 60 950000 0 (fun ds => ∃ w rs ss, ds = [.int w, .lst (iDs rs), .lst (iDs ss)] ∧ w.natAbs < 2 ^ 8 ∧ Rn rs ∧ Rn ss) (fun _ d => d = .bl true)))
  (g_common_k : GDK P w K mg base (L2.CX P w) 5 "common" ["other", "one"] 2 [1, 0] (spR K csL tsL 100000 RCommon))
  (g_is_ahead_k : GDK P w K mg base (L2.CX P w) 4 "is_ahead" ["one", "other"] 2 [0, 1] (spR K csL tsL 100000 RAhead))

theorem sc_is_integer : FnScope ["value"] ["value"] (defScope (topS 16)) := ⟨rfl, rfl, rfl, by decide +kernel, rfl, by decide +kernel, by decide +kernel⟩
theorem ok_is_integer (G : G0 K mg csL tsL) (F : FP K "is_integer" "is_integer" (topS 16) [] f fd) : FnOk P w K mg base (L2.CX P w) 1 f fd ["value"] (spR K csL tsL 3900 RIsInt) := by
  have nd := sc_is_integer.nd
  refine okR F sc_is_integer (fun ds o r => by cases r <;> rfl) (fun cdv A outer s H ds o Q E hr z r q => ⟨_, pss_one (ps_ret (pe_and (pe_callB call_isi rfl G.nm.isinstance (by decide +kernel) (pa_cons (pv 0) (pa_cons ((pe_bltn (v := .ty "int") (u := .type "int") rfl G.nm.int PyProof.Rows.Boot.«int» rfl)) (pa_nil)))) (pe_one (pe_not (pe_callB call_isi rfl G.nm.isinstance (by decide +kernel) (pa_cons (pv 0) (pa_cons ((pe_bltn (v := .ty "bool") (u := .type "bool") rfl G.nm.bool PyProof.Rows.Boot.«bool» rfl)) (pa_nil)))))))), ?_⟩)
  cases r
  rename_i d
  have e := isI_eq d
  walk_at "go"
  refine iteP (fun h1 => ?_) (fun h1 => ?_)
  · rw [h1] at e
    walk_at "rd"
    exact finB q (by assumption) e
  · rw [Bool.eq_false_iff.mpr h1] at e
    exact finB q (by assumption) e
theorem sc_is_ratio : FnScope ["value"] ["value"] (defScope (topS 28)) := ⟨rfl, rfl, rfl, by decide +kernel, rfl, by decide +kernel, by decide +kernel⟩
include g_is_integer in
theorem ok_is_ratio (G : G0 K mg csL tsL) (F : FP K "is_ratio" "is_ratio" (topS 28) [] f fd) : FnOk P w K mg base (L2.CX P w) 2 f fd ["value"] (spR K csL tsL 3900 RIsRat) := by
  have nd := sc_is_ratio.nd
  refine okR F sc_is_ratio (fun ds o r => by cases r <;> rfl) (fun cdv A outer s H ds o Q E hr z r q => ⟨_, pss_one (ps_ret (pe_or (pe_callB call_isi rfl G.nm.isinstance (by decide +kernel) (pa_cons (pv 0) (pa_cons ((pe_glob (v := .ref (ca K .Ratio)) rfl (G.mgc .Ratio (by decide)) rfl)) (pa_nil)))) (pe_one (pe_gd g_is_integer (hr.mono (by decide)) rfl (pxE rfl rfl rfl rfl) (pa_cons (pv 0) (pa_nil)))))), ?_⟩)
  cases r
  rename_i d
  have e := isR_eq d
  walk_at "go"
  refine iteP (fun h1 => ?_) (fun h1 => ?_)
  · rw [h1] at e
    exact finB q (by assumption) e
  · rw [Bool.eq_false_iff.mpr h1] at e
    walk_at "rd"
    exact finB q (by assumption) e
theorem sc_sign_of : FnScope ["number"] ["number"] (defScope (topS 27)) := ⟨rfl, rfl, rfl, by decide +kernel, rfl, by decide +kernel, by decide +kernel⟩
theorem ok_sign_of (G : G0 K mg csL tsL) (F : FP K "sign_of" "sign_of" (topS 27) [] f fd) : FnOk P w K mg base (L2.CX P w) 1 f fd ["number"] (spR K csL tsL 100000 RSign) := by
  have nd := sc_sign_of.nd
  refine okR F sc_sign_of (fun ds o r => by cases r <;> rfl) (fun cdv A outer s H ds o Q E hr z r q => ⟨_, pss_cons (ps_if (pt_cmpR op_lt (pv 0) (pe_int) (nomark _)) (pss_one (ps_ret (pe_un un_neg (pe_int)))) (pss_nil)) (pss_one (ps_ret (pe_ifExp (pt_cmpR op_gt (pv 0) (pe_int) (nomark _)) (pe_int) (pe_int)))), ?_⟩)
  cases r
  rename_i n
  walk_at "go"
  refine iteP (fun h1 => ?_) (fun h1 => ?_)
  · walk_at "rd"
    exact finN q (by assumption) (Int.sign_eq_neg_one_of_neg (of_decide_eq_true h1)).symm
  · have h1 : ¬ n < 0 := fun z => h1 (decide_eq_true z)
    walk_at "rd"
    refine iteP (fun h2 => ?_) (fun h2 => ?_)
    · exact finN q (by assumption) (Int.sign_eq_one_of_pos (of_decide_eq_true h2)).symm
    · have h2 : ¬ 0 < n := fun z => h2 (decide_eq_true z)
      exact finN q (by assumption) (by rw [show n = 0 by omega]; rfl)
theorem sc_Ratio_of : FnScope ["value"] ["value"] (defScope (inClass (topS 26) 17)) := ⟨rfl, rfl, rfl, by decide +kernel, rfl, by decide +kernel, by decide +kernel⟩
include g_is_ratio g_mRatio1 g_xBadRatio in
theorem ok_Ratio_of (G : G0 K mg csL tsL) (F : FP K "of" "Ratio.of" (inClass (topS 26) 17) [] f fd) : FnOk P w K mg base (L2.CX P w) 5 f fd ["value"] (spR K csL tsL 3900 (ROf "BadRatio" "value")) := by
  have nd := sc_Ratio_of.nd
  refine okR F sc_Ratio_of (fun ds o r => by cases r <;> rfl) (fun cdv A outer s H ds o Q E hr z r q => ⟨_, pss_cons (ps_if (pt_not (pt_val (pe_gd g_is_ratio (hr.mono (by decide)) rfl (pxE rfl rfl rfl rfl) (pa_cons (pv 0) (pa_nil))))) (pss_one (ps_raise rfl (takes_of rfl rfl rfl rfl) (pmkD g_xBadRatio (hr.mono (by decide)) rfl (pa_cons (pe_str) (pa_nil))))) (pss_nil)) (pss_one (ps_ret (pe_ifExp (pt_val (pe_callB call_isi rfl G.nm.isinstance (by decide +kernel) (pa_cons (pv 0) (pa_cons ((pe_glob (v := .ref (ca K .Ratio)) rfl (G.mgc .Ratio (by decide)) rfl)) (pa_nil))))) (pv 0) (pe_makeD g_mRatio1 (hr.mono (by decide)) rfl (pxE rfl rfl rfl rfl) (pa_cons (pv 0) (pa_nil)))))), ?_⟩)
  cases r <;> walk_at "go"
theorem sc_at_right : FnScope ["value"] ["value"] (defScope (topS 29)) := ⟨rfl, rfl, rfl, by decide +kernel, rfl, by decide +kernel, by decide +kernel⟩
include g_Ratio_of g_is_ratio g_xBadRatio in
theorem ok_at_right (G : G0 K mg csL tsL) (F : FP K "at_right" "at_right" (topS 29) [] f fd) : FnOk P w K mg base (L2.CX P w) 6 f fd ["value"] (spR K csL tsL 3900 (ROf "BadRatio" "other")) := by
  have nd := sc_at_right.nd
  refine okR F sc_at_right (fun ds o r => by cases r <;> rfl) (fun cdv A outer s H ds o Q E hr z r q => ⟨_, pss_cons (ps_if (pt_not (pt_val (pe_gd g_is_ratio (hr.mono (by decide)) rfl (pxE rfl rfl rfl rfl) (pa_cons (pv 0) (pa_nil))))) (pss_one (ps_raise rfl (takes_of rfl rfl rfl rfl) (pmkD g_xBadRatio (hr.mono (by decide)) rfl (pa_cons (pe_str) (pa_nil))))) (pss_nil)) (pss_one (ps_ret (pe_gs (pe_glob (v := .ref (ca K .Ratio)) rfl (G.mgc .Ratio (by decide)) rfl) g_Ratio_of (hr.mono (by decide)) (pxE rfl rfl rfl rfl) (pa_cons (pv 0) (pa_nil))))), ?_⟩)
  cases r <;> walk_at "go"
theorem sc_Ratio_init : FnScope ["self", "top", "bottom", "common"] ["self", "top", "bottom"] (defScope (inClass (topS 26) 0)) := ⟨rfl, rfl, rfl, by decide +kernel, rfl, by decide +kernel, by decide +kernel⟩
include g_is_integer g_xBadRatio h_gcd in
theorem ok_Ratio_init (G : G0 K mg csL tsL) (F : FP K "__init__" "Ratio.__init__" (inClass (topS 26) 0) [.int 1] f fd) : FnOk P w K mg base (L2.CX P w) 3 f fd ["self", "top", "bottom"] (spRI K csL tsL .Ratio 3900 RInitR) := by
  have nd := sc_Ratio_init.nd
  refine okI F sc_Ratio_init (fun ds o r => by cases r <;> rfl) (fun cdv A outer s H a dx ds o Q E hr ha z r q => ⟨_, pss_cons (ps_if (pt_not (pt_val (pe_gd g_is_integer (hr.mono (by decide)) rfl (pxE rfl rfl rfl rfl) (pa_cons (pv 1) (pa_nil))))) (pss_one (ps_raise rfl (takes_of rfl rfl rfl rfl) (pmkD g_xBadRatio (hr.mono (by decide)) rfl (pa_cons (pe_str) (pa_nil))))) (pss_nil)) (pss_cons (ps_if (PW.pt (pw_or (pt_not (pt_val (pe_gd g_is_integer (hr.mono (by decide)) rfl (pxE rfl rfl rfl rfl) (pa_cons (pv 2) (pa_nil))))) (pw_or1 (pt_cmpR op_eq (pv 2) (pe_int) (nomark _))))) (pss_one (ps_raise rfl (takes_of rfl rfl rfl rfl) (pmkD g_xBadRatio (hr.mono (by decide)) rfl (pa_cons (pe_str) (pa_nil))))) (pss_nil)) (pss_cons (ps_set (i := 3) nd rfl (Or.inl rfl) (pe_ifExp (pt_cmpR op_gt (pv 2) (pe_int) (nomark _)) (pe_callBfun cr_gcd rfl h_gcd (pa_cons (pv 1) (pa_cons (pv 2) (pa_nil)))) (pe_un un_neg (pe_callBfun cr_gcd rfl h_gcd (pa_cons (pv 1) (pa_cons (pv 2) (pa_nil))))))) (pss_cons (ps_fldD (pv 0) (pe_op op_fdivB (pv 1) (pv 3)) rfl) (pss_one (ps_fldD (pv 0) (pe_op op_fdivB (pv 2) (pv 3)) rfl))))), ?_⟩)
  have key : ∀ t b : Int, b ≠ 0 → Bi t 3900 → Bi b 3900 → ∀ x, CDivB x (comm t b) := fun t b hb _ _ x => ⟨comm_ne hb, by
    have h1 := comm_le (a := t) hb
    have h2 := biL (i := b) (m := 4000) 3900
    omega⟩
  have fin : ∀ (t b : Int) (H' : Hp) (L : List (V × Dt)) (x : Int), b ≠ 0 → x = comm t b → FinI K H a dx .Ratio (.ok (.rat (Rat.divInt t b))) Q E → Env K (.ini a (ca K .Ratio) dx [("top", .int (t.fdiv x)), ("bottom", .int (b.fdiv x))]) H H' L → Q .non H' := fun t b H' L x hb e q h => by
    subst e
    rw [comm_num hb, comm_den hb] at h
    exact finI q h rfl (.cons (.int _) (.cons (.int _) .nil))
  cases r with
  | @one t =>
    have g : ((Nat.gcd t.natAbs (Int.natAbs 1) : Nat) : Int) = comm t 1 := by
      unfold comm
      rw [if_pos (by decide)]
    have d := key t 1 (by decide) (by walk_at "zs"; assumption) ⟨by exact biL (i := 1) (m := 3900) 1⟩
    rw [← g] at d
    have d1 := d t
    have d2 := d 1
    rw [← divInt_one] at q
    walk_at "goI"
    exact fin t 1 _ _ _ (by decide) g q (by assumption)
  | @ok t b h =>
    have d := key t b h
    walk_at "goI"
    refine iteF (by simpa using h) ?_
    walk_at "rd"
    have d := d (by assumption) (by assumption)
    refine iteP (fun h2 => ?_) (fun h2 => ?_)
    · have g : ((Nat.gcd t.natAbs b.natAbs : Nat) : Int) = comm t b := by
        unfold comm
        rw [if_pos (of_decide_eq_true h2)]
      rw [← g] at d
      have d1 := d t
      have d2 := d b
      walk_at "rd"
      exact fin t b _ _ _ h g q (by assumption)
    · have g : -((Nat.gcd t.natAbs b.natAbs : Nat) : Int) = comm t b := by
        unfold comm
        rw [if_neg (fun z => h2 (decide_eq_true z))]
      rw [← g] at d
      have d1 := d t
      have d2 := d b
      walk_at "rd"
      exact fin t b _ _ _ h g q (by assumption)
  | z => walk_at "goI"
  | t h => walk_at "goI"
  | b h => walk_at "goI"
theorem sc_Step_init : FnScope ["self", "studs", "rounds"] ["self", "studs", "rounds"] (defScope (inClass (topS 34) 0)) := ⟨rfl, rfl, rfl, by decide +kernel, rfl, by decide +kernel, by decide +kernel⟩
include g_is_integer g_xBadStep h_gcd in
theorem ok_Step_init (G : G0 K mg csL tsL) (F : FP K "__init__" "Step.__init__" (inClass (topS 34) 0) [] f fd) : FnOk P w K mg base (L2.CX P w) 3 f fd ["self", "studs", "rounds"] (spRI K csL tsL .Step 3900 RInitS) := by
  have nd := sc_Step_init.nd
  refine okI F sc_Step_init (fun ds o r => by cases r <;> rfl) (fun cdv A outer s H a dx ds o Q E hr ha z r q => ⟨_, pss_cons (ps_if (pt_not (pt_val (pe_gd g_is_integer (hr.mono (by decide)) rfl (pxE rfl rfl rfl rfl) (pa_cons (pv 1) (pa_nil))))) (pss_one (ps_raise rfl (takes_of rfl rfl rfl rfl) (pmkD g_xBadStep (hr.mono (by decide)) rfl (pa_cons (pe_str) (pa_nil))))) (pss_nil)) (pss_cons (ps_if (pt_not (pt_val (pe_gd g_is_integer (hr.mono (by decide)) rfl (pxE rfl rfl rfl rfl) (pa_cons (pv 2) (pa_nil))))) (pss_one (ps_raise rfl (takes_of rfl rfl rfl rfl) (pmkD g_xBadStep (hr.mono (by decide)) rfl (pa_cons (pe_str) (pa_nil))))) (pss_nil)) (pss_cons (ps_if (PW.pt (pw_and (pt_cmpR op_eq (pv 1) (pe_int) (nomark _)) (pw_and1 (pt_cmpR op_eq (pv 2) (pe_int) (nomark _))))) (pss_one (ps_raise rfl (takes_of rfl rfl rfl rfl) (pmkD g_xBadStep (hr.mono (by decide)) rfl (pa_cons (pe_str) (pa_nil))))) (pss_nil)) (pss_cons (ps_fldD (pv 0) (pv 1) rfl) (pss_cons (ps_fldD (pv 0) (pv 2) rfl) (pss_cons (ps_fldD (pv 0) (pe_callBfun cr_gcd rfl h_gcd (pa_cons (pv 1) (pa_cons (pv 2) (pa_nil)))) rfl) (pss_one (ps_fldD (pv 0) (pe_cmpR op_eq (pv 1) (pe_int) (nomark _)) rfl))))))), ?_⟩)
  have e : ∀ k : Int, decide (V.int k = V.int 0) = decide (k = 0) := fun k => by simp
  have fin : ∀ (k j : Int) (H' : Hp) (L : List (V × Dt)), FinI K H a dx .Step (.ok (.step k j)) Q E → Env K (.ini a (ca K .Step) dx [("studs", .int k), ("rounds", .int j), ("divisor", .int ((Nat.gcd k.natAbs j.natAbs : Nat) : Int)), ("is_round", .bl (decide (V.int k = V.int 0)))]) H H' L → Q .non H' := fun k j H' L q h => by
    rw [e k] at h
    exact finI q h rfl (.cons (.int _) (.cons (.int _) (.cons (.int _) (.cons (.bl _) .nil))))
  cases r with
  | @ok k j h =>
    walk_at "goI"
    refine iteP (fun h1 => ?_) (fun h1 => ?_)
    · have h1 : k = 0 := by simpa using h1
      walk_at "rd"
      refine iteF (by simpa using fun z => h ⟨h1, z⟩) ?_
      walk_at "rd"
      exact fin k j _ _ q (by assumption)
    · walk_at "rd"
      exact fin k j _ _ q (by assumption)
  | z => walk_at "goI"
  | s h => walk_at "goI"
  | r h => walk_at "goI"
theorem sc_need_step : FnScope ["value", "part"] ["value", "part"] (defScope (topS 37)) := ⟨rfl, rfl, rfl, by decide +kernel, rfl, by decide +kernel, by decide +kernel⟩
include g_xBadStep in
theorem ok_need_step (G : G0 K mg csL tsL) (F : FP K "need_step" "need_step" (topS 37) [] f fd) : FnOk P w K mg base (L2.CX P w) 3 f fd ["value", "part"] (spR K csL tsL 100000 (RNeed .Step "BadStep")) := by
  have nd := sc_need_step.nd
  refine okR F sc_need_step (fun ds o r => by cases r <;> rfl) (fun cdv A outer s H ds o Q E hr z r q => ⟨_, pss_one (ps_if (pt_not (pt_val (pe_callB call_isi rfl G.nm.isinstance (by decide +kernel) (pa_cons (pv 0) (pa_cons ((pe_glob (v := .ref (ca K .Step)) rfl (G.mgc .Step (by decide)) rfl)) (pa_nil)))))) (pss_one (ps_raise rfl (takes_of rfl rfl rfl rfl) (pmkD g_xBadStep (hr.mono (by decide)) rfl (pa_cons (pv 1) (pa_nil))))) (pss_nil)), ?_⟩)
  cases r with
  | @ok d p h =>
    have e := is_eq .Step d
    rw [h] at e
    walk_at "go"
  | @no d p h =>
    have e := is_eq .Step d
    rw [h] at e
    walk_at "go"
theorem sc_need_studs : FnScope ["step", "part"] ["step", "part"] (defScope (topS 38)) := ⟨rfl, rfl, rfl, by decide +kernel, rfl, by decide +kernel, by decide +kernel⟩
include g_xRound in
theorem ok_need_studs (G : G0 K mg csL tsL) (F : FP K "need_studs" "need_studs" (topS 38) [] f fd) : FnOk P w K mg base (L2.CX P w) 3 f fd ["step", "part"] (spR K csL tsL 100000 RNeedK) := by
  have nd := sc_need_studs.nd
  refine okR F sc_need_studs (fun ds o r => by cases r <;> rfl) (fun cdv A outer s H ds o Q E hr z r q => ⟨_, pss_one (ps_if (pt_val (pe_fldD (pv 0) rfl)) (pss_one (ps_raise rfl (takes_of rfl rfl rfl rfl) (pmkD g_xRound (hr.mono (by decide)) rfl (pa_cons (pv 1) (pa_nil))))) (pss_nil)), ?_⟩)
  cases r with
  | @ok k j p h =>
    walk_at "go"
    refine iteF (by simpa using h) ?_
    walk_at "rd"
  | z => walk_at "go"
theorem sc_is_upward : FnScope ["step"] ["step"] (defScope (topS 36)) := ⟨rfl, rfl, rfl, by decide +kernel, rfl, by decide +kernel, by decide +kernel⟩
theorem ok_is_upward (G : G0 K mg csL tsL) (F : FP K "is_upward" "is_upward" (topS 36) [] f fd) : FnOk P w K mg base (L2.CX P w) 1 f fd ["step"] (spR K csL tsL 3900 RIsUp) := by
  have nd := sc_is_upward.nd
  refine okR F sc_is_upward (fun ds o r => by cases r <;> rfl) (fun cdv A outer s H ds o Q E hr z r q => ⟨_, pss_one (ps_ret (pe_or (pe_cmpR op_gt (pe_fldD (pv 0) rfl) (pe_int) (nomark _)) (pe_one (pe_and (pe_cmpR op_eq (pe_fldD (pv 0) rfl) (pe_int) (nomark _)) (pe_one (pe_cmpR op_gt (pe_fldD (pv 0) rfl) (pe_int) (nomark _))))))), ?_⟩)
  cases r with
  | @mk k j =>
    walk_at "go"
    unfold upS at q
    refine iteP (fun h1 => ?_) (fun h1 => ?_)
    · rw [h1] at q
      exact finB q (by assumption) rfl
    · rw [Bool.eq_false_iff.mpr h1] at q
      walk_at "rd"
      refine iteP (fun h2 => ?_) (fun h2 => ?_)
      · rw [vEq] at h2
        rw [h2] at q
        walk_at "rd"
      · rw [vEq] at h2
        rw [Bool.eq_false_iff.mpr h2] at q
        exact finB q (by assumption) rfl
theorem sc_summed : FnScope ["studs", "rounds"] ["studs", "rounds"] (defScope (topS 35)) := ⟨rfl, rfl, rfl, by decide +kernel, rfl, by decide +kernel, by decide +kernel⟩
include g_mStep g_xBadStep in
theorem ok_summed (G : G0 K mg csL tsL) (F : FP K "summed" "summed" (topS 35) [] f fd) : FnOk P w K mg base (L2.CX P w) 5 f fd ["studs", "rounds"] (spR K csL tsL 3900 RSummed) := by
  have nd := sc_summed.nd
  refine okR F sc_summed (fun ds o r => by cases r <;> rfl) (fun cdv A outer s H ds o Q E hr z r q => ⟨_, pss_cons (ps_if (PW.pt (pw_and (pt_cmpR op_eq (pv 0) (pe_int) (nomark _)) (pw_and1 (pt_cmpR op_eq (pv 1) (pe_int) (nomark _))))) (pss_one (ps_raise rfl (takes_of rfl rfl rfl rfl) (pmkD g_xBadStep (hr.mono (by decide)) rfl (pa_cons (pe_str) (pa_nil))))) (pss_nil)) (pss_one (ps_ret (pe_makeD g_mStep (hr.mono (by decide)) rfl (pxE rfl rfl rfl rfl) (pa_cons (pv 0) (pa_cons (pv 1) (pa_nil)))))), ?_⟩)
  cases r with
  | @ok k j h =>
    walk_at "go"
    refine iteP (fun h1 => ?_) (fun h1 => ?_)
    · have h1 : k = 0 := by simpa using h1
      walk_at "rd"
      refine iteF (by simpa using fun z => h ⟨h1, z⟩) ?_
      walk_at "rd"
    · walk_at "rd"
  | z h =>
    obtain ⟨rfl, rfl⟩ := h
    walk_at "go"
theorem sc_Step_add : FnScope ["self", "other"] ["self", "other"] (defScope (inClass (topS 34) 4)) := ⟨rfl, rfl, rfl, by decide +kernel, rfl, by decide +kernel, by decide +kernel⟩
include g_need_step g_summed in
theorem ok_Step_add (G : G0 K mg csL tsL) (F : FP K "__add__" "Step.__add__" (inClass (topS 34) 4) [] f fd) : FnOk P w K mg base (L2.CX P w) 6 f fd ["self", "other"] (spR K csL tsL 1900 (RBinS (· + ·))) := by
  have nd := sc_Step_add.nd
  refine okR F sc_Step_add (fun ds o r => by cases r <;> rfl) (fun cdv A outer s H ds o Q E hr z r q => ⟨_, pss_cons (ps_expr (pe_gd g_need_step (hr.mono (by decide)) rfl (pxE rfl rfl rfl rfl) (pa_cons (pv 1) (pa_cons (pe_str) (pa_nil))))) (pss_one (ps_ret (pe_gd g_summed (hr.mono (by decide)) rfl (pxE rfl rfl rfl rfl) (pa_cons (pe_op op_add (pe_fldD (pv 0) rfl) (pe_fldD (pv 1) rfl)) (pa_cons (pe_op op_add (pe_fldD (pv 0) rfl) (pe_fldD (pv 1) rfl)) (pa_nil)))))), ?_⟩)
  cases r <;> walk_at "go"
theorem sc_Step_mul : FnScope ["self", "other"] ["self", "other"] (defScope (inClass (topS 34) 7)) := ⟨rfl, rfl, rfl, by decide +kernel, rfl, by decide +kernel, by decide +kernel⟩
include g_is_integer g_mStep g_xBadNumber in
theorem ok_Step_mul (G : G0 K mg csL tsL) (F : FP K "__mul__" "Step.__mul__" (inClass (topS 34) 7) [] f fd) : FnOk P w K mg base (L2.CX P w) 5 f fd ["self", "other"] (spR K csL tsL 1900 RMulS) := by
  have nd := sc_Step_mul.nd
  refine okR F sc_Step_mul (fun ds o r => by cases r <;> rfl) (fun cdv A outer s H ds o Q E hr z r q => ⟨_, pss_cons (ps_if (PW.pt (pw_or (pt_not (pt_val (pe_gd g_is_integer (hr.mono (by decide)) rfl (pxE rfl rfl rfl rfl) (pa_cons (pv 1) (pa_nil))))) (pw_or1 (pt_cmpR op_eq (pv 1) (pe_int) (nomark _))))) (pss_one (ps_raise rfl (takes_of rfl rfl rfl rfl) (pmkD g_xBadNumber (hr.mono (by decide)) rfl (pa_cons (pe_str) (pa_nil))))) (pss_nil)) (pss_one (ps_ret (pe_makeD g_mStep (hr.mono (by decide)) rfl (pxE rfl rfl rfl rfl) (pa_cons (pe_op op_mulB (pe_fldD (pv 0) rfl) (pv 1)) (pa_cons (pe_op op_mulB (pe_fldD (pv 0) rfl) (pv 1)) (pa_nil)))))), ?_⟩)
  cases r with
  | @ok k j m h h2 =>
    have h' : ¬ (k * m = 0 ∧ j * m = 0) := fun ⟨x, y⟩ => h2 ⟨(Int.mul_eq_zero.mp x).resolve_right h, (Int.mul_eq_zero.mp y).resolve_right h⟩
    walk_at "go"
    refine iteF (by simpa using h) ?_
    walk_at "rd"
  | z => walk_at "go"
  | n h => walk_at "go"
theorem sc_Step_corner : FnScope ["self"] ["self"] (defScope (inClass (topS 34) 2)) := ⟨rfl, rfl, rfl, by decide +kernel, rfl, by decide +kernel, by decide +kernel⟩
include g_mRatio g_need_studs in
theorem ok_Step_corner (G : G0 K mg csL tsL) (F : FP K "corner" "Step.corner" (inClass (topS 34) 2) [] f fd) : FnOk P w K mg base (L2.CX P w) 5 f fd ["self"] (spR K csL tsL 3900 RCorner) := by
  have nd := sc_Step_corner.nd
  refine okR F sc_Step_corner (fun ds o r => by cases r <;> rfl) (fun cdv A outer s H ds o Q E hr z r q => ⟨_, pss_cons (ps_expr (pe_gd g_need_studs (hr.mono (by decide)) rfl (pxE rfl rfl rfl rfl) (pa_cons (pv 0) (pa_cons (pe_str) (pa_nil))))) (pss_one (ps_ret (pe_makeD g_mRatio (hr.mono (by decide)) rfl (pxE rfl rfl rfl rfl) (pa_cons (pe_fldD (pv 0) rfl) (pa_cons (pe_fldD (pv 0) rfl) (pa_nil)))))), ?_⟩)
  cases r <;> walk_at "go"
theorem sc_Step_one_round : FnScope [] [] (defScope (inClass (topS 34) 3)) := ⟨rfl, rfl, rfl, by decide +kernel, rfl, by decide +kernel, by decide +kernel⟩
include g_mStep in
theorem ok_Step_one_round (G : G0 K mg csL tsL) (F : FP K "one_round" "Step.one_round" (inClass (topS 34) 3) [] f fd) : FnOk P w K mg base (L2.CX P w) 5 f fd [] (spR K csL tsL 3900 ROneR) := by
  have nd := sc_Step_one_round.nd
  refine okR F sc_Step_one_round (fun ds o r => by cases r <;> rfl) (fun cdv A outer s H ds o Q E hr z r q => ⟨_, pss_one (ps_ret (pe_makeD g_mStep (hr.mono (by decide)) rfl (pxE rfl rfl rfl rfl) (pa_cons (pe_int) (pa_cons (pe_int) (pa_nil))))), ?_⟩)
  cases r
  walk_at "go"
theorem sc_cross : FnScope ["one", "other"] ["one", "other"] (defScope (topS 41)) := ⟨rfl, rfl, rfl, by decide +kernel, rfl, by decide +kernel, by decide +kernel⟩
include g_need_step in
theorem ok_cross (G : G0 K mg csL tsL) (F : FP K "cross" "cross" (topS 41) [] f fd) : FnOk P w K mg base (L2.CX P w) 4 f fd ["one", "other"] (spR K csL tsL 1900 RCross) := by
  have nd := sc_cross.nd
  refine okR F sc_cross (fun ds o r => by cases r <;> rfl) (fun cdv A outer s H ds o Q E hr z r q => ⟨_, pss_cons (ps_expr (pe_gd g_need_step (hr.mono (by decide)) rfl (pxE rfl rfl rfl rfl) (pa_cons (pv 0) (pa_cons (pe_str) (pa_nil))))) (pss_cons (ps_expr (pe_gd g_need_step (hr.mono (by decide)) rfl (pxE rfl rfl rfl rfl) (pa_cons (pv 1) (pa_cons (pe_str) (pa_nil))))) (pss_one (ps_ret (pe_op op_sub (pe_op op_mulB (pe_fldD (pv 0) rfl) (pe_fldD (pv 1) rfl)) (pe_op op_mulB (pe_fldD (pv 1) rfl) (pe_fldD (pv 0) rfl)))))), ?_⟩)
  cases r <;> walk_at "go"
theorem cmp_lt (p q : Rat) : decide (cmpR p q < 0) = decide (p < q) := by
  unfold cmpR
  rw [Bool.eq_iff_iff]
  simp only [decide_eq_true_eq]
  rw [Rat.lt_iff, Int.sign_neg_iff]
  omega
theorem sc_need_integer : FnScope ["value", "part"] ["value", "part"] (defScope (topS 18)) := ⟨rfl, rfl, rfl, by decide +kernel, rfl, by decide +kernel, by decide +kernel⟩
include g_is_integer g_xBadNumber in
theorem ok_need_integer (G : G0 K mg csL tsL) (F : FP K "need_integer" "need_integer" (topS 18) [] f fd) : FnOk P w K mg base (L2.CX P w) 3 f fd ["value", "part"] (spR K csL tsL 10 RNever) := by
  have nd := sc_need_integer.nd
  refine okRW F sc_need_integer (fun ds o r => by cases r <;> rfl) (fun cdv A outer s H ds o Q E hr z r q => ⟨_, pss_one (ps_if (pt_not (pt_val (pe_gd g_is_integer (hr.mono (by decide)) rfl (pxE rfl rfl rfl rfl) (pa_cons (pv 0) (pa_nil))))) (pss_one (ps_raise rfl (takes_of rfl rfl rfl rfl) (pmkD g_xBadNumber (hr.mono (by decide)) rfl (pa_cons (pv 1) (pa_nil))))) (pss_nil)), ?_⟩)
  cases r
theorem sc_Net_first : FnScope ["whole"] ["whole"] (defScope (inClass (topS 45) 5)) := ⟨rfl, rfl, rfl, by decide +kernel, rfl, by decide +kernel, by decide +kernel⟩
include g_Step_one_round g_mNet g_mStep g_need_integer in
theorem ok_Net_first (G : G0 K mg csL tsL) (F : FP K "first" "Net.first" (inClass (topS 45) 5) [] f fd) : FnOk P w K mg base (L2.CX P w) 9 f fd ["whole"] (spR K csL tsL 10 RNever) := by
  have nd := sc_Net_first.nd
  refine okRW F sc_Net_first (fun ds o r => by cases r <;> rfl) (fun cdv A outer s H ds o Q E hr z r q => ⟨_, pss_cons (ps_expr (pe_gd g_need_integer (hr.mono (by decide)) rfl (pxE rfl rfl rfl rfl) (pa_cons (pv 0) (pa_cons (pe_str) (pa_nil))))) (pss_one (ps_ret (pe_makeD g_mNet (hr.mono (by decide)) rfl (pxE rfl rfl rfl rfl) (pa_cons (pe_makeD g_mStep (hr.mono (by decide)) rfl (pxE rfl rfl rfl rfl) (pa_cons (pe_int) (pa_cons (pv 0) (pa_nil)))) (pa_cons (pe_gs0 (pe_glob (v := .ref (ca K .Step)) rfl (G.mgc .Step (by decide)) rfl) g_Step_one_round (hr.mono (by decide)) (pxE rfl rfl rfl rfl)) (pa_nil)))))), ?_⟩)
  cases r
theorem sc_Ratio_compared : FnScope ["self", "other", "right"] ["self", "other"] (defScope (inClass (topS 26) 8)) := ⟨rfl, rfl, rfl, by decide +kernel, rfl, by decide +kernel, by decide +kernel⟩
include g_at_right g_sign_of in
theorem ok_Ratio_compared (G : G0 K mg csL tsL) (F : FP K "compared" "Ratio.compared" (inClass (topS 26) 8) [] f fd) : FnOk P w K mg base (L2.CX P w) 7 f fd ["self", "other"] (spR K csL tsL 1900 RCmp) := by
  have nd := sc_Ratio_compared.nd
  refine okR F sc_Ratio_compared (fun ds o r => by cases r <;> rfl) (fun cdv A outer s H ds o Q E hr z r q => ⟨_, pss_cons (ps_set (i := 2) nd rfl (Or.inl rfl) (pe_gd g_at_right (hr.mono (by decide)) rfl (pxE rfl rfl rfl rfl) (pa_cons (pv 1) (pa_nil)))) (pss_one (ps_ret (pe_gd g_sign_of (hr.mono (by decide)) rfl (pxE rfl rfl rfl rfl) (pa_cons (pe_op op_sub (pe_op op_mulB (pe_fldD (pv 0) rfl) (pe_fldD (pv 2) rfl)) (pe_op op_mulB (pe_fldD (pv 2) rfl) (pe_fldD (pv 0) rfl))) (pa_nil))))), ?_⟩)
  cases r with
  | r => walk_at "go"
  | i => walk_at "go"
  | n h => walk_at "go"
theorem sc_Ratio_is_below : FnScope ["self", "other"] ["self", "other"] (defScope (inClass (topS 26) 9)) := ⟨rfl, rfl, rfl, by decide +kernel, rfl, by decide +kernel, by decide +kernel⟩
include g_Ratio_compared in
theorem ok_Ratio_is_below (G : G0 K mg csL tsL) (F : FP K "is_below" "Ratio.is_below" (inClass (topS 26) 9) [] f fd) : FnOk P w K mg base (L2.CX P w) 8 f fd ["self", "other"] (spR K csL tsL 1900 RBelow) := by
  have nd := sc_Ratio_is_below.nd
  refine okR F sc_Ratio_is_below (fun ds o r => by cases r <;> rfl) (fun cdv A outer s H ds o Q E hr z r q => ⟨_, pss_one (ps_ret (pe_cmpR op_lt (pe_methD (pv 0) (G.cf .Ratio (by decide)).cl g_Ratio_compared (hr.mono (by decide)) (pxE rfl rfl rfl rfl) (pa_cons (pv 1) (pa_nil))) (pe_int) (nomark _))), ?_⟩)
  cases r with
  | @r p q2 =>
    walk_at "go"
    exact finB q (by assumption) (cmp_lt p q2)
  | @i p i =>
    walk_at "go"
    exact finB q (by assumption) (cmp_lt p _)
  | n h => walk_at "go"
theorem sc_Ratio_below : FnScope ["self"] ["self"] (defScope (inClass (topS 26) 3)) := ⟨rfl, rfl, rfl, by decide +kernel, rfl, by decide +kernel, by decide +kernel⟩
theorem ok_Ratio_below (G : G0 K mg csL tsL) (F : FP K "below" "Ratio.below" (inClass (topS 26) 3) [] f fd) : FnOk P w K mg base (L2.CX P w) 1 f fd ["self"] (spR K csL tsL 3900 (RPropR fun q => .int q.floor)) := by
  have nd := sc_Ratio_below.nd
  refine okR F sc_Ratio_below (fun ds o r => by cases r <;> rfl) (fun cdv A outer s H ds o Q E hr z r q => ⟨_, pss_one (ps_ret (pe_op op_fdivB (pe_fldD (pv 0) rfl) (pe_fldD (pv 0) rfl))), ?_⟩)
  cases r
  rename_i p
  have nz := den_ne p
  walk_at "go"
  exact finN q (by assumption) (by rw [Rat.floor_def, Int.fdiv_eq_ediv_of_nonneg _ (Int.natCast_nonneg _)])
theorem sc_Ratio_is_whole : FnScope ["self"] ["self"] (defScope (inClass (topS 26) 2)) := ⟨rfl, rfl, rfl, by decide +kernel, rfl, by decide +kernel, by decide +kernel⟩
theorem ok_Ratio_is_whole (G : G0 K mg csL tsL) (F : FP K "is_whole" "Ratio.is_whole" (inClass (topS 26) 2) [] f fd) : FnOk P w K mg base (L2.CX P w) 1 f fd ["self"] (spR K csL tsL 3900 (RPropR fun q => .bl (decide (q.den = 1)))) := by
  have nd := sc_Ratio_is_whole.nd
  refine okRW F sc_Ratio_is_whole (fun ds o r => by cases r <;> rfl) (fun cdv A outer s H ds o Q E hr z r q => ⟨_, pss_one (ps_ret (pe_cmpR op_eq (pe_fldD (pv 0) rfl) (pe_int) (nomark _))), ?_⟩)
  cases r
  rename_i p
  walk_at "go"
  exact finB q (by assumption) (by rw [Bool.eq_iff_iff]; simp; omega)
theorem sc_is_list : FnScope ["value"] ["value"] (defScope (topS 17)) := ⟨rfl, rfl, rfl, by decide +kernel, rfl, by decide +kernel, by decide +kernel⟩
theorem ok_is_list (G : G0 K mg csL tsL) (F : FP K "is_list" "is_list" (topS 17) [] f fd) : FnOk P w K mg base (L2.CX P w) 1 f fd ["value"] (spR K csL tsL 100000 RIsList) := by
  have nd := sc_is_list.nd
  refine okRW F sc_is_list (fun ds o r => by cases r <;> rfl) (fun cdv A outer s H ds o Q E hr z r q => ⟨_, pss_one (ps_ret (pe_callB call_isiTc rfl G.nm.isinstance (by decide +kernel) (pa_cons (pv 0) (pa_cons (pe_tupE (pa_cons ((pe_bltn (v := .ty "list") (u := .type "list") rfl G.nm.list PyProof.Rows.Boot.«list» rfl)) (pa_cons ((pe_bltn (v := .ty "tuple") (u := .type "tuple") rfl G.nm.tuple PyProof.Rows.Boot.«tuple» rfl)) (pa_nil)))) (pa_nil))))), ?_⟩)
  cases r
  walk_at "go"
theorem sc_need_ratio : FnScope ["value", "part"] ["value", "part"] (defScope (topS 30)) := ⟨rfl, rfl, rfl, by decide +kernel, rfl, by decide +kernel, by decide +kernel⟩
include g_Ratio_of g_is_ratio g_xBadNumber in
theorem ok_need_ratio (G : G0 K mg csL tsL) (F : FP K "need_ratio" "need_ratio" (topS 30) [] f fd) : FnOk P w K mg base (L2.CX P w) 6 f fd ["value", "part"] (spR K csL tsL 3900 RNeedR) := by
  have nd := sc_need_ratio.nd
  refine okRW F sc_need_ratio (fun ds o r => by cases r <;> rfl) (fun cdv A outer s H ds o Q E hr z r q => ⟨_, pss_cons (ps_if (pt_not (pt_val (pe_gd g_is_ratio (hr.mono (by decide)) rfl (pxE rfl rfl rfl rfl) (pa_cons (pv 0) (pa_nil))))) (pss_one (ps_raise rfl (takes_of rfl rfl rfl rfl) (pmkD g_xBadNumber (hr.mono (by decide)) rfl (pa_cons (pv 1) (pa_nil))))) (pss_nil)) (pss_one (ps_ret (pe_gs (pe_glob (v := .ref (ca K .Ratio)) rfl (G.mgc .Ratio (by decide)) rfl) g_Ratio_of (hr.mono (by decide)) (pxE rfl rfl rfl rfl) (pa_cons (pv 0) (pa_nil))))), ?_⟩)
  cases r
  walk_at "go"
theorem sc_need_road : FnScope ["value", "part"] ["value", "part"] (defScope (topS 58)) := ⟨rfl, rfl, rfl, by decide +kernel, rfl, by decide +kernel, by decide +kernel⟩
include g_xBadRoad in
theorem ok_need_road (G : G0 K mg csL tsL) (F : FP K "need_road" "need_road" (topS 58) [] f fd) : FnOk P w K mg base (L2.CX P w) 3 f fd ["value", "part"] (spR K csL tsL 100000 (RNeed .Road "BadRoad")) := by
  have nd := sc_need_road.nd
  refine okRW F sc_need_road (fun ds o r => by cases r <;> rfl) (fun cdv A outer s H ds o Q E hr z r q => ⟨_, pss_one (ps_if (pt_not (pt_val (pe_callB call_isi rfl G.nm.isinstance (by decide +kernel) (pa_cons (pv 0) (pa_cons ((pe_glob (v := .ref (ca K .Road)) rfl (G.mgc .Road (by decide)) rfl)) (pa_nil)))))) (pss_one (ps_raise rfl (takes_of rfl rfl rfl rfl) (pmkD g_xBadRoad (hr.mono (by decide)) rfl (pa_cons (pv 1) (pa_nil))))) (pss_nil)), ?_⟩)
  cases r with
  | @ok d p h =>
    have e := is_eq .Road d
    rw [h] at e
    walk_at "go"
  | @no d p h =>
    have e := is_eq .Road d
    rw [h] at e
    walk_at "go"
theorem sc_Net_init : FnScope ["self", "low", "high"] ["self", "low", "high"] (defScope (inClass (topS 45) 0)) := ⟨rfl, rfl, rfl, by decide +kernel, rfl, by decide +kernel, by decide +kernel⟩
include g_Step_Add g_cross g_is_upward g_need_step g_xBadNet g_xNotNeighbours in
theorem ok_Net_init (G : G0 K mg csL tsL) (F : FP K "__init__" "Net.__init__" (inClass (topS 45) 0) [] f fd) : FnOk P w K mg base (L2.CX P w) 7 f fd ["self", "low", "high"] (spRI K csL tsL .Net 1900 RInitN) := by
  have nd := sc_Net_init.nd
  refine okIW F sc_Net_init (fun ds o r => by cases r <;> rfl) (fun cdv A outer s H a dx ds o Q E hr ha z r q => ⟨_, pss_cons (ps_expr (pe_gd g_need_step (hr.mono (by decide)) rfl (pxE rfl rfl rfl rfl) (pa_cons (pv 1) (pa_cons (pe_str) (pa_nil))))) (pss_cons (ps_expr (pe_gd g_need_step (hr.mono (by decide)) rfl (pxE rfl rfl rfl rfl) (pa_cons (pv 2) (pa_cons (pe_str) (pa_nil))))) (pss_cons (ps_if (PW.pt (pw_or (pt_val (pe_fldD (pv 1) rfl)) (pw_or1 (pt_not (pt_val (pe_gd g_is_upward (hr.mono (by decide)) rfl (pxE rfl rfl rfl rfl) (pa_cons (pv 1) (pa_nil)))))))) (pss_one (ps_raise rfl (takes_of rfl rfl rfl rfl) (pmkD g_xBadNet (hr.mono (by decide)) rfl (pa_cons (pe_str) (pa_nil))))) (pss_nil)) (pss_cons (ps_if (pt_not (pt_val (pe_gd g_is_upward (hr.mono (by decide)) rfl (pxE rfl rfl rfl rfl) (pa_cons (pv 2) (pa_nil))))) (pss_one (ps_raise rfl (takes_of rfl rfl rfl rfl) (pmkD g_xBadNet (hr.mono (by decide)) rfl (pa_cons (pe_str) (pa_nil))))) (pss_nil)) (pss_cons (ps_if (pt_cmpR op_ne (pe_gd g_cross (hr.mono (by decide)) rfl (pxE rfl rfl rfl rfl) (pa_cons (pv 1) (pa_cons (pv 2) (pa_nil)))) (pe_int) (nomark _)) (pss_one (ps_raise rfl (takes_of rfl rfl rfl rfl) (pmkD g_xNotNeighbours (hr.mono (by decide)) rfl (pa_cons (pv 1) (pa_cons (pv 2) (pa_nil)))))) (pss_nil)) (pss_cons (ps_fldD (pv 0) (pv 1) rfl) (pss_cons (ps_fldD (pv 0) (pv 2) rfl) (pss_cons (ps_fldD (pv 0) (pe_op (op_go g_Step_Add (hr.mono (by decide)) (pxE rfl rfl rfl rfl)) (pv 1) (pv 2)) rfl) (pss_one (ps_fldD (pv 0) (pe_tupE (pa_cons (pv 1) (pa_cons (pv 2) (pa_cons (pe_fldD (pv 0) rfl) (pa_nil))))) rfl))))))))), ?_⟩)
  cases r with
  | @ok a b c d ha hu hc =>
    have na : decide (a = 0) = false := decide_eq_false (by omega)
    have ua : upS a b = true := by
      unfold upS
      rw [decide_eq_true ha]
      rfl
    have c1 : (!decide (V.int (crs a b c d) = V.int 1)) = false := by
      rw [hc]
      simp
    have nz : ¬ (a + c = 0 ∧ b + d = 0) := fun z => by
      unfold upS at hu
      simp at hu
      omega
    walk_at "goI"
    rename_i e9
    exact finI q e9 rfl (.cons (e9.get (by walk_at "mem")) (.cons (e9.get (by walk_at "mem")) (.cons (e9.get (by walk_at "mem")) (.cons (e9.get (by walk_at "mem")) .nil))))
theorem sc_Road_eq : FnScope ["self", "other"] ["self", "other"] (defScope (inClass (topS 55) 1)) := ⟨rfl, rfl, rfl, by decide +kernel, rfl, by decide +kernel, by decide +kernel⟩
theorem ok_Road_eq (G : G0 K mg csL tsL) (F : FP K "__eq__" "Road.__eq__" (inClass (topS 55) 1) [] f fd) : FnOk P w K mg base (L2.CX P w) 1 f fd ["self", "other"] (spR K csL tsL 100000 REqRd) := by
  have nd := sc_Road_eq.nd
  refine okRW F sc_Road_eq (fun ds o r => by cases r <;> rfl) (fun cdv A outer s H ds o Q E hr z r q => ⟨_, pss_cons (ps_if (pt_not (pt_val (pe_callB call_isi rfl G.nm.isinstance (by decide +kernel) (pa_cons (pv 1) (pa_cons ((pe_glob (v := .ref (ca K .Road)) rfl (G.mgc .Road (by decide)) rfl)) (pa_nil)))))) (pss_one (ps_ret (pe_bl))) (pss_nil)) (pss_one (ps_ret (pe_and (pe_cmpR op_eq (pe_fldD (pv 0) rfl) (pe_fldD (pv 1) rfl) (nomark _)) (pe_and (pe_cmpR (op_eqD hr.units) (pe_fldD (pv 0) rfl) (pe_fldD (pv 1) rfl) (nomark _)) (pe_one (pe_cmpR op_eq (pe_fldD (pv 0) rfl) (pe_fldD (pv 1) rfl) (nomark _))))))), ?_⟩)
  cases r with
  | @mk w v rs ss k l =>
    walk_at "go"
    refine iteP (fun h1 => ?_) (fun h1 => ?_)
    · have h1 : w = v := by simpa using h1
      walk_at "rd"
      rw [eqv_tup]
      refine iteP (fun h2 => ?_) (fun h2 => ?_)
      · have h2 : rs = ss := of_decide_eq_true h2
        walk_at "rd"
        exact finB q (by assumption) (by rw [Bool.eq_iff_iff]; simp [h1, h2, Kd.inj])
      · have h2 : ¬ rs = ss := fun z => h2 (decide_eq_true z)
        exact finB q (by assumption) (by rw [Bool.eq_iff_iff]; simp [h1, h2])
    · have h1' : ¬ w = v := by simpa using h1
      exact finB q (by assumption) (by rw [Bool.eq_iff_iff]; simp [h1'])
theorem sc_are_runs : FnScope ["value", "run"] ["value"] (defScope (topS 56)) := ⟨rfl, rfl, rfl, by decide +kernel, rfl, by decide +kernel, by decide +kernel⟩
include g_is_integer g_is_list h_all in
theorem ok_are_runs (G : G0 K mg csL tsL) (F : FP K "are_runs" "are_runs" (topS 56) [] f fd) : FnOk P w K mg base (L2.CX P w) 2 f fd ["value"] (spR K csL tsL 100000 RAreRuns) := by
  have nd := sc_are_runs.nd
  refine okRW F sc_are_runs (fun ds o r => by cases r <;> rfl) (fun cdv A outer s H ds o Q E hr z r q => ⟨_, pss_cons (ps_if (PW.pt (pw_or (pt_not (pt_val (pe_gd g_is_list (hr.mono (by decide)) rfl (pxE rfl rfl rfl rfl) (pa_cons (pv 0) (pa_nil))))) (pw_or1 (pt_not (pt_val (pe_callB (cr_allS rfl) rfl h_all (by decide +kernel) (pa_cons (pe_lcD (own := [("run", 1)]) (g := gName 1) (tt := tYes) rfl nd (pi_tupW (pv 0)) (blkOk_by (N := ["value", "run"]) (sc := defScope (topS 56)) (by decide +kernel)) (fun _ _ _ _ _ => pg_name (i := 1) nd rfl (Or.inl rfl)) (fun _ _ _ _ _ => pts_nil) (fun _ _ _ _ _ => pe_gd g_is_integer (hr.mono (by decide)) rfl pxF (pa_cons (pv 1) (pa_nil)))) (pa_nil)))))))) (pss_one (ps_ret (pe_bl))) (pss_nil)) (pss_cons (ps_if (pt_cmpR op_eq (pe_callB call_len rfl G.nm.len (by decide +kernel) (pa_cons (pv 0) (pa_nil))) (pe_int) (nomark _)) (pss_one (ps_ret (pe_bl))) (pss_nil)) (pss_one (ps_ret (pe_and (pe_cmpR op_ge (pe_ix ix_tup (pv 0) (pe_int) (fun _ _ => rfl)) (pe_ifExp (pt_cmpR op_eq (pe_callB call_len rfl G.nm.len (by decide +kernel) (pa_cons (pv 0) (pa_nil))) (pe_int) (nomark _)) (pe_int) (pe_int)) (nomark _)) (pe_one (pe_callB (cr_allS rfl) rfl h_all (by decide +kernel) (pa_cons (pe_lcD (own := [("run", 1)]) (g := gName 1) (tt := tYes) rfl nd (pi_tupW (pe_slice sl_tup (pv 0) (po_some (pe_int)) (po_none))) (blkOk_by (N := ["value", "run"]) (sc := defScope (topS 56)) (by decide +kernel)) (fun _ _ _ _ _ => pg_name (i := 1) nd rfl (Or.inl rfl)) (fun _ _ _ _ _ => pts_nil) (fun _ _ _ _ _ => pe_cmpR op_ge (pv 1) (pe_int) (nomark _))) (pa_nil)))))))), ?_⟩)
  cases r with
  | @ok rs h =>
    match rs, h with
    | [], h => walk_at "go"
    | [r], h =>
      have hr : decide (1 ≤ r) = true := decide_eq_true h.can
      have br : Bi r 32 := ⟨h.bi List.mem_cons_self⟩
      walk_at "go"
    | r :: t :: l, h =>
      have hr : decide (0 ≤ r) = true := decide_eq_true h.can.1
      have hl := h.len
      have ps := h.can.2
      have l0 : decide (V.int (((iDs (r :: t :: l)).length : Nat) : Int) = V.int 0) = false := by simp; omega
      have l1 : decide (V.int (((iDs (r :: t :: l)).length : Nat) : Int) = V.int 1) = false := by simp; omega
      walk_at "go"
      rename_i e0 J wd
      refine lcInts (rs := r :: t :: l) (fun _ => .bl true) e0 wd (subL1 (by walk_at "mem")) (by walk_at "np") (Nat.le_trans h.len (by decide)) (fun r hr D acc H' en => ?_) (fun D H' nd en => ?_)
      · clear e0
        have br : Bi r 32 := ⟨h.bi hr⟩
        walk_at "rd"
        exact lcE' (f := fun _ => .bl true) (by assumption) (.bl _) (by walk_at "mem") rfl
      · clear e0
        refine allD (en.get (by walk_at "mem")) (bls_map _) ?_
        rw [all_map]
        walk_at "rd"
        rename_i e1 J2 wd2
        rw [show cutD (iDs (r :: t :: l)) (some 1) none = iDs (t :: l) from cut_tail _ _] at e1 wd2
        refine lcInts (rs := t :: l) (fun _ => .bl true) e1 wd2 (subL1 (by walk_at "mem")) (by walk_at "np") (by simp at hl ⊢; omega) (fun r hr D acc H' en => ?_) (fun D H' nd en => ?_)
        · clear e1
          have hp : decide (1 ≤ r) = true := decide_eq_true (ps r hr)
          walk_at "rd"
          refine (?_ : LcE _ _ _ _ _ _ (V.bl (decide (1 ≤ r))) _)
          rw [hp]
          exact lcE' (f := fun _ => .bl true) (by assumption) (.bl _) (by walk_at "mem") rfl
        · clear e1
          refine allD (en.get (by walk_at "mem")) (bls_map _) ?_
          rw [all_map]
          walk_at "rd"
theorem sc_Road_init : FnScope ["self", "whole", "runs", "kind"] ["self", "whole", "runs", "kind"] (defScope (inClass (topS 55) 0)) := ⟨rfl, rfl, rfl, by decide +kernel, rfl, by decide +kernel, by decide +kernel⟩
include g_are_runs g_is_integer g_xBadRoad g_xTooMany h_KINDS h_WITHOUT_RUNS h_runs h_sum t_KINDS t_WITHOUT_RUNS in
theorem ok_Road_init (G : G0 K mg csL tsL) (F : FP K "__init__" "Road.__init__" (inClass (topS 55) 0) [] f fd) : FnOk P w K mg base (L2.CX P w) 3 f fd ["self", "whole", "runs", "kind"] (spRI K csL tsL .Road 3900 RInitRd) := by
  have nd := sc_Road_init.nd
  refine okIW F sc_Road_init (fun ds o r => by cases r <;> rfl) (fun cdv A outer s H a dx ds o Q E hr ha z r q => ⟨_, pss_cons (ps_if (pt_not (pt_val (pe_gd g_is_integer (hr.mono (by decide)) rfl (pxE rfl rfl rfl rfl) (pa_cons (pv 1) (pa_nil))))) (pss_one (ps_raise rfl (takes_of rfl rfl rfl rfl) (pmkD g_xBadRoad (hr.mono (by decide)) rfl (pa_cons (pe_str) (pa_nil))))) (pss_nil)) (pss_cons (ps_if (pt_not (pt_val (pe_gd g_are_runs (hr.mono (by decide)) rfl (pxE rfl rfl rfl rfl) (pa_cons (pv 2) (pa_nil))))) (pss_one (ps_raise rfl (takes_of rfl rfl rfl rfl) (pmkD g_xBadRoad (hr.mono (by decide)) rfl (pa_cons (pe_str) (pa_nil))))) (pss_nil)) (pss_cons (ps_if (PW.pt (pw_or (pt_not (pt_val (pe_callB call_isi rfl G.nm.isinstance (by decide +kernel) (pa_cons (pv 3) (pa_cons ((pe_bltn (v := .ty "str") (u := .type "str") rfl G.nm.str PyProof.Rows.Boot.«str» rfl)) (pa_nil)))))) (pw_or (pt_cmpR op_notIn_seq (pv 3) ((pe_glob (v := .ref (He.ga K "KINDS")) rfl h_KINDS rfl)) rfl) (pw_or1 (PW.pt (pw_and (pt_cmpR op_in_seq (pv 3) ((pe_glob (v := .ref (He.ga K "WITHOUT_RUNS")) rfl h_WITHOUT_RUNS rfl)) rfl) (pw_and1 (pt_cmpR op_gt (pe_callB call_len rfl G.nm.len (by decide +kernel) (pa_cons (pv 2) (pa_nil))) (pe_int) (nomark _))))))))) (pss_one (ps_raise rfl (takes_of rfl rfl rfl rfl) (pmkD g_xBadRoad (hr.mono (by decide)) rfl (pa_cons (pe_str) (pa_nil))))) (pss_nil)) (pss_cons (ps_if (pt_cmpR op_gt (pe_callB call_len rfl G.nm.len (by decide +kernel) (pa_cons (pv 2) (pa_nil))) ((pe_glob (v := .int 60) rfl h_runs ⟨_, rfl⟩)) (nomark _)) (pss_one (ps_raise rfl (takes_of rfl rfl rfl rfl) (pmkD g_xTooMany (hr.mono (by decide)) rfl (pa_cons (pe_str) (pa_cons ((pe_glob (v := .int 60) rfl h_runs ⟨_, rfl⟩)) (pa_nil)))))) (pss_nil)) (pss_cons (ps_fldD (pv 0) (pv 1) rfl) (pss_cons (ps_fldD (pv 0) (pe_callTy call_tupS rfl G.nm.tuple (by decide +kernel) (pa_cons (pv 2) (pa_nil))) rfl) (pss_cons (ps_fldD (pv 0) (pv 3) rfl) (pss_one (ps_fldD (pv 0) (pe_callB (cr_sumTS rfl) rfl h_sum (by decide +kernel) (pa_cons (pe_fldD (pv 0) rfl) (pa_nil))) rfl)))))))), ?_⟩)
  cases r with
  | @ok w rs k h =>
    have rn := h.rn
    have hb := h.b
    have ll := rn.len
    have hl : decide ((60 : Int) < (((iDs rs).length : Nat) : Int)) = false := by simp; omega
    cases k
    case' edge => obtain rfl := hb rfl
    case' first => obtain rfl := hb rfl
    all_goals
      walk_at "goI"
      try refine iteF hl ?_
      walk_at "rd"
      rename_i e9
      exact finI q e9 rfl (.cons (.int _) (.cons (e9.get (by walk_at "mem")) (.cons (.str _) (.cons (.int _) .nil))))
structure NlS (w : Int) (rs : List Int) (p : Addr) (i : Nat) (σ : L2.St) (L : List (V × Dt)) : Prop where
  ex : ∃ v1 v2 y4 y5, σ = [some (.int w), some (.ref p), some v1, some v2, y4, y5] ∧ L = [(v2, .step (stt w rs i).2.2 (stt w rs i).2.1), (v1, .step (stt w rs i).1.2 (stt w rs i).1.1)]
theorem sc_net_of_letters : FnScope ["whole", "runs", "low", "high", "at", "run"] ["whole", "runs"] (defScope (topS 48)) := ⟨rfl, rfl, rfl, by decide +kernel, rfl, by decide +kernel, by decide +kernel⟩
include g_Step_Add g_Step_Mult g_mNet g_mStep in
theorem ok_net_of_letters (G : G0 K mg csL tsL) (F : FP K "net_of_letters" "net_of_letters" (topS 48) [] f fd) : FnOk P w K mg base (L2.CX P w) 9 f fd ["whole", "runs"] (spR K csL tsL 8 RNetL) := by
  have nd := sc_net_of_letters.nd
  refine okRW F sc_net_of_letters (fun ds o r => by cases r <;> rfl) (fun cdv A outer s H ds o Q E hr z r q => ⟨_, pss_cons (toPar (ps_par (i := 2) (j := 3) rfl nd rfl rfl (by decide) rfl rfl (pa_cons (pe_makeD g_mStep (hr.mono (by decide)) rfl (pxE rfl rfl rfl rfl) (pa_cons (pe_int) (pa_cons (pv 0) (pa_nil)))) (pa_cons (pe_makeD g_mStep (hr.mono (by decide)) rfl (pxE rfl rfl rfl rfl) (pa_cons (pe_int) (pa_cons (pe_op op_add (pv 0) (pe_int)) (pa_nil)))) pa_nil)) rfl)) (pss_cons (ps_forD (passes_of rfl) rfl (pi_enumTW rfl G.nm.enumerate (pa_cons (pv 1) pa_nil)) (pg_tup rfl (pgs_cons (toG (pg_name (i := 4) nd rfl (Or.inl rfl))) (pgs_cons (toG (pg_name (i := 5) nd rfl (Or.inl rfl))) (pgs_nil)))) (pss_cons (ps_if (pt_cmpR op_eq (pv 5) (pe_int) (nomark _)) (pss_one (ps_continue)) (pss_nil)) (pss_one (ps_if (pt_cmpR op_eq (pe_op op_mod (pv 4) (pe_int)) (pe_int) (nomark _)) (pss_one (toSet (ps_set (i := 3) nd rfl (Or.inl rfl) (pe_op (op_go g_Step_Add (hr.mono (by decide)) (pxE rfl rfl rfl rfl)) (pv 3) (pe_op (op_go g_Step_Mult (hr.mono (by decide)) (pxE rfl rfl rfl rfl)) (pv 2) (pv 5)))))) (pss_one (toSet (ps_set (i := 2) nd rfl (Or.inl rfl) (pe_op (op_go g_Step_Add (hr.mono (by decide)) (pxE rfl rfl rfl rfl)) (pv 2) (pe_op (op_go g_Step_Mult (hr.mono (by decide)) (pxE rfl rfl rfl rfl)) (pv 3) (pv 5)))))))))) (pss_one (ps_ret (pe_makeD g_mNet (hr.mono (by decide)) rfl (pxE rfl rfl rfl rfl) (pa_cons (pv 2) (pa_cons (pv 3) (pa_nil))))))), ?_⟩)
  cases r with
  | @ok w rs hw h =>
    walk_at "go"
    rename_i p2 H2 e1 v1 H3 e2 J wd
    refine forI (fun _ => .fn) (NlS w rs _) [_, _] e2 wd (subL1 (by walk_at "mem")) ⟨_, _, _, _, rfl, by rw [stt_0]; rfl⟩ (fun i d x σ L' Hh hd hS en => ?_) (fun σ L' Hh hS en => ?_)
    · obtain ⟨u1, u2, y4, y5, rfl, rfl⟩ := hS.ex
      obtain ⟨d', hg, rfl⟩ := enmD_get _ _ _ _ hd
      rw [List.getElem?_map] at hg
      obtain ⟨r, hr, rfl⟩ := Option.map_eq_some_iff.mp hg
      rw [Nat.zero_add] at en
      have hs := stt_s (w := w) hr
      have g := stt_gd (w := w) h i
      have b := stt_bd hw h i
      have br : Bi r 32 := ⟨h.bi (List.mem_of_getElem? hr)⟩
      have rn := h.can.nn r (List.mem_of_getElem? hr)
      have hi : i < 6 := by
        have := (List.getElem?_eq_some_iff.mp hr).1
        have := h.len
        omega
      clear hS hd hg hr wd e1 e2
      obtain ⟨p, hp⟩ : ∃ p, p = stt w rs i := ⟨_, rfl⟩
      rw [← hp] at g b hs en
      clear hp
      have n1 : ¬ (p.1.2 = 0 ∧ p.1.1 = 0) := by have := g.l; omega
      have n2 : ¬ (p.2.2 = 0 ∧ p.2.1 = 0) := by have := g.h; omega
      have b1 : Bi p.1.1 210 := ⟨b.a⟩
      have b2 : Bi p.1.2 210 := ⟨b.b⟩
      have b3 : Bi p.2.1 210 := ⟨b.c⟩
      have b4 : Bi p.2.2 210 := ⟨b.d⟩
      by_cases r0 : r = 0
      · subst r0
        have e : stp (decide (i % 2 = 1)) p 0 = p := by cases (decide (i % 2 = 1)) <;> simp [stp]
        rw [e] at hs
        walk_at "rd"
        exact loopI [_, _] ⟨_, _, _, _, rfl, by rw [hs]⟩ (en.sub' fun _ i => List.mem_cons_of_mem _ i)
      · have t0 : decide (V.int r = V.int 0) = false := by simpa using r0
        by_cases par : i % 2 = 1
        · have t1 : decide (V.int ((i : Int) % 2) = V.int 0) = false := by
            have : ((i : Int) % 2) = 1 := by omega
            rw [this]
            decide
          have n3 : ¬ (p.2.2 * r = 0 ∧ p.2.1 * r = 0) := fun z => by
            have := g.h
            have := (Int.mul_eq_zero.mp z.1).resolve_right r0
            omega
          have n4 : ¬ (p.1.2 + p.2.2 * r = 0 ∧ p.1.1 + p.2.1 * r = 0) := fun z => by
            have := g.h
            have := g.l
            have : 0 ≤ p.2.2 * r := Int.mul_nonneg (by omega) rn
            omega
          walk_at "rd"
          rename_i e9
          refine loopI [(_, .step (stt w rs (i + 1)).2.2 (stt w rs (i + 1)).2.1), (_, .step (stt w rs (i + 1)).1.2 (stt w rs (i + 1)).1.1)] ⟨_, _, _, _, rfl, rfl⟩ ?_
          rw [hs, decide_eq_true par]
          simp only [stp, Int.mul_comm r, if_true]
          refine e9.sub' fun e i => ?_
          rcases List.mem_cons.mp i with rfl | i
          · walk_at "mem"
          rcases List.mem_cons.mp i with rfl | i
          · walk_at "mem"
          rw [List.mem_singleton.mp i]
          walk_at "mem"
        · have t1 : decide (V.int ((i : Int) % 2) = V.int 0) = true := by
            have : ((i : Int) % 2) = 0 := by omega
            rw [this]
            decide
          have n3 : ¬ (p.1.2 * r = 0 ∧ p.1.1 * r = 0) := fun z => by
            have := g.l
            have := (Int.mul_eq_zero.mp z.1).resolve_right r0
            omega
          have n4 : ¬ (p.2.2 + p.1.2 * r = 0 ∧ p.2.1 + p.1.1 * r = 0) := fun z => by
            have := g.h
            have := g.l
            have : 0 ≤ p.1.2 * r := Int.mul_nonneg (by omega) rn
            omega
          walk_at "rd"
          rename_i e9
          refine loopI [(_, .step (stt w rs (i + 1)).2.2 (stt w rs (i + 1)).2.1), (_, .step (stt w rs (i + 1)).1.2 (stt w rs (i + 1)).1.1)] ⟨_, _, _, _, rfl, rfl⟩ ?_
          rw [hs, decide_eq_false par]
          simp only [stp, Int.mul_comm r, if_false, Bool.false_eq_true]
          refine e9.sub' fun e i => ?_
          rcases List.mem_cons.mp i with rfl | i
          · walk_at "mem"
          rcases List.mem_cons.mp i with rfl | i
          · walk_at "mem"
          rw [List.mem_singleton.mp i]
          walk_at "mem"
    · obtain ⟨u1, u2, y4, y5, rfl, rfl⟩ := hS.ex
      rw [enmD_len, List.length_map, stt_end] at en
      have g := end_gd (w := w) h
      have b := end_bd hw h
      obtain ⟨p, hp⟩ : ∃ p, p = Rd.eL false (Rd.p0 w) rs := ⟨_, rfl⟩
      rw [← hp] at g b q en
      clear hp hS wd e1 e2
      have n1 : 0 < p.1.2 := by have := g.l; omega
      have n2 : upS p.2.2 p.2.1 = true := by
        have := g.h
        unfold upS
        rw [decide_eq_true (show 0 < p.2.2 by omega)]
        rfl
      have n3 : crs p.1.2 p.1.1 p.2.2 p.2.1 = 1 := by
        have := g.d
        unfold crs
        grind
      have b1 : Bi p.1.1 210 := ⟨b.a⟩
      have b2 : Bi p.1.2 210 := ⟨b.b⟩
      have b3 : Bi p.2.1 210 := ⟨b.c⟩
      have b4 : Bi p.2.2 210 := ⟨b.d⟩
      walk_at "rd"
theorem sc_net_at : FnScope ["road"] ["road"] (defScope (topS 60)) := ⟨rfl, rfl, rfl, by decide +kernel, rfl, by decide +kernel, by decide +kernel⟩
include g_Net_first g_need_road g_net_of_letters in
theorem ok_net_at (G : G0 K mg csL tsL) (F : FP K "net_at" "net_at" (topS 60) [] f fd) : FnOk P w K mg base (L2.CX P w) 10 f fd ["road"] (spR K csL tsL 100000 RNetAt) := by
  have nd := sc_net_at.nd
  refine okRW F sc_net_at (fun ds o r => by cases r <;> rfl) (fun cdv A outer s H ds o Q E hr z r q => ⟨_, pss_cons (ps_expr (pe_gd g_need_road (hr.mono (by decide)) rfl (pxE rfl rfl rfl rfl) (pa_cons (pv 0) (pa_cons (pe_str) (pa_nil))))) (pss_cons (ps_if (pt_cmpR op_eq (pe_fldD (pv 0) rfl) (pe_str) (nomark _)) (pss_one (ps_ret (pe_gs (pe_glob (v := .ref (ca K .Net)) rfl (G.mgc .Net (by decide)) rfl) g_Net_first (hr.mono (by decide)) (pxE rfl rfl rfl rfl) (pa_cons (pe_op op_sub (pe_fldD (pv 0) rfl) (pe_int)) (pa_nil))))) (pss_nil)) (pss_cons (ps_if (pt_cmpR op_eq (pe_fldD (pv 0) rfl) (pe_str) (nomark _)) (pss_one (ps_ret (pe_gs (pe_glob (v := .ref (ca K .Net)) rfl (G.mgc .Net (by decide)) rfl) g_Net_first (hr.mono (by decide)) (pxE rfl rfl rfl rfl) (pa_cons (pe_fldD (pv 0) rfl) (pa_nil))))) (pss_nil)) (pss_one (ps_ret (pe_gd g_net_of_letters (hr.mono (by decide)) rfl (pxE rfl rfl rfl rfl) (pa_cons (pe_fldD (pv 0) rfl) (pa_cons (pe_fldD (pv 0) rfl) (pa_nil)))))))), ?_⟩)
  cases r with
  | @ok w rs hw h =>
    have bw : Bi w 8 := ⟨hw⟩
    walk_at "go"
theorem sc_turns_of : FnScope ["road", "net"] ["road"] (defScope (topS 61)) := ⟨rfl, rfl, rfl, by decide +kernel, rfl, by decide +kernel, by decide +kernel⟩
include g_Step_corner g_mRatio1 g_need_road g_net_at in
theorem ok_turns_of (G : G0 K mg csL tsL) (F : FP K "turns_of" "turns_of" (topS 61) [] f fd) : FnOk P w K mg base (L2.CX P w) 11 f fd ["road"] (spR K csL tsL 100000 RTurnsOf) := by
  have nd := sc_turns_of.nd
  refine okRW F sc_turns_of (fun ds o r => by cases r <;> rfl) (fun cdv A outer s H ds o Q E hr z r q => ⟨_, pss_cons (ps_expr (pe_gd g_need_road (hr.mono (by decide)) rfl (pxE rfl rfl rfl rfl) (pa_cons (pv 0) (pa_cons (pe_str) (pa_nil))))) (pss_cons (ps_if (pt_cmpR op_eq (pe_fldD (pv 0) rfl) (pe_str) (nomark _)) (pss_one (ps_ret (pe_tupE (pa_cons (pe_makeD g_mRatio1 (hr.mono (by decide)) rfl (pxE rfl rfl rfl rfl) (pa_cons (pe_fldD (pv 0) rfl) (pa_nil))) (pa_cons (pe_makeD g_mRatio1 (hr.mono (by decide)) rfl (pxE rfl rfl rfl rfl) (pa_cons (pe_fldD (pv 0) rfl) (pa_nil))) (pa_nil)))))) (pss_nil)) (pss_cons (ps_if (pt_cmpR op_eq (pe_fldD (pv 0) rfl) (pe_str) (nomark _)) (pss_one (ps_ret (pe_tupE (pa_cons (pe_makeD g_mRatio1 (hr.mono (by decide)) rfl (pxE rfl rfl rfl rfl) (pa_cons (pe_fldD (pv 0) rfl) (pa_nil))) (pa_cons (pe_makeD g_mRatio1 (hr.mono (by decide)) rfl (pxE rfl rfl rfl rfl) (pa_cons (pe_op op_add (pe_fldD (pv 0) rfl) (pe_int)) (pa_nil))) (pa_nil)))))) (pss_nil)) (pss_cons (toSet (ps_set (i := 1) nd rfl (Or.inl rfl) (pe_gd g_net_at (hr.mono (by decide)) rfl (pxE rfl rfl rfl rfl) (pa_cons (pv 0) (pa_nil))))) (pss_cons (ps_if (pt_cmpR op_eq (pe_fldD (pv 0) rfl) (pe_str) (nomark _)) (pss_one (ps_ret (pe_tupE (pa_cons (pe_propX (pe_fldD (pv 1) rfl) g_Step_corner (hr.mono (by decide)) (pxE rfl rfl rfl rfl) rfl) (pa_cons (pe_propX (pe_fldD (pv 1) rfl) g_Step_corner (hr.mono (by decide)) (pxE rfl rfl rfl rfl) rfl) (pa_nil)))))) (pss_nil)) (pss_one (ps_ret (pe_tupE (pa_cons (pe_propX (pe_fldD (pv 1) rfl) g_Step_corner (hr.mono (by decide)) (pxE rfl rfl rfl rfl) rfl) (pa_cons (pe_propX (pe_fldD (pv 1) rfl) g_Step_corner (hr.mono (by decide)) (pxE rfl rfl rfl rfl) rfl) (pa_nil)))))))))), ?_⟩)
  cases r with
  | @ok w rs hw h =>
    have bw : Bi w 8 := ⟨hw⟩
    have g := end_gd (w := w) h
    have b := end_bd hw h
    walk_at "go0"
    obtain ⟨p, hp⟩ : ∃ p, p = Rd.eL false (Rd.p0 w) rs := ⟨_, rfl⟩
    have rn : RNetAt [dRoad w rs "open"] (.ok (netF p)) := by rw [hp]; exact .ok hw h
    rw [← hp] at g b q
    clear hp
    have n1 : p.1.2 ≠ 0 := by have := g.l; omega
    have n2 : p.2.2 ≠ 0 := by have := g.h; omega
    have b1 : Bi p.1.1 210 := ⟨b.a⟩
    have b2 : Bi p.1.2 210 := ⟨b.b⟩
    have b3 : Bi p.2.1 210 := ⟨b.c⟩
    have b4 : Bi p.2.2 210 := ⟨b.d⟩
    walk_at "rd"
structure RunS (K : Frag) (H : Hp) (v1 v2 : V) (rs : List Int) (D : Addr) (σ : L2.St) (Hh : Hp) : Prop where
  ex : ∃ l r acc, σ = [some v1, some v2, some (.int l), some (.int r), some (.ref D)] ∧ Ev6 (Rd.up rs) l r acc ∧ 0 ≤ r ∧ r.natAbs < 2 ^ 3900 ∧ Env K .fn H Hh [(.ref D, .lst (iDs acc))]
theorem sc_runs_of : FnScope ["ratio", "told", "left", "right", "runs"] ["ratio"] (defScope (topS 43)) := ⟨rfl, rfl, rfl, by decide +kernel, rfl, by decide +kernel, by decide +kernel⟩
include g_Ratio_is_whole g_need_ratio g_xUnlike in
theorem ok_runs_of (G : G0 K mg csL tsL) (F : FP K "runs_of" "runs_of" (topS 43) [] f fd) : FnOk P w K mg base (L2.CX P w) 7 f fd ["ratio"] (spR K csL tsL 3900 RRunsOf) := by
  have nd := sc_runs_of.nd
  refine okRW F sc_runs_of (fun ds o r => by cases r <;> rfl) (fun cdv A outer s H ds o Q E hr z r q => ⟨_, pss_cons (toSet (ps_set (i := 1) nd rfl (Or.inl rfl) (pe_gd g_need_ratio (hr.mono (by decide)) rfl (pxE rfl rfl rfl rfl) (pa_cons (pv 0) (pa_cons (pe_str) (pa_nil)))))) (pss_cons (ps_if (pt_val (pe_propX (pv 1) g_Ratio_is_whole (hr.mono (by decide)) (pxE rfl rfl rfl rfl) rfl)) (pss_one (ps_raise rfl (takes_of rfl rfl rfl rfl) (pmkD g_xUnlike (hr.mono (by decide)) rfl (pa_cons (pe_str) (pa_nil))))) (pss_nil)) (pss_cons (toPar (ps_par (i := 2) (j := 3) rfl nd rfl rfl (by decide) rfl rfl (pa_cons (pe_fldD (pv 1) rfl) (pa_cons (pe_op op_mod (pe_fldD (pv 1) rfl) (pe_fldD (pv 1) rfl)) pa_nil)) rfl)) (pss_cons (toSet (ps_set (i := 4) nd rfl (Or.inl rfl) (pe_lstD (pa_nil)))) (pss_cons (ps_while (passes_of rfl) (pt_cmpR op_ne (pv 3) (pe_int) (nomark _)) (pss_cons (ps_expr (pe_bm PySem.F.plainAttrs_list PySem.F.slot_list_append PySem.F.type_list_append mt_append (pv 4) (pa_cons (pe_op op_fdivB (pv 2) (pv 3)) (pa_nil)))) (pss_one (toPar (ps_par (i := 2) (j := 3) rfl nd rfl rfl (by decide) rfl rfl (pa_cons (pv 3) (pa_cons (pe_op op_mod (pv 2) (pv 3)) pa_nil)) rfl))))) (pss_cons (ps_augS (pv 4) (pe_int) get_it (pe_int) ip_sub set_it) (pss_cons (ps_augS (pv 4) (pe_un un_neg (pe_int)) get_it (pe_int) ip_sub set_it) (pss_one (ps_ret (pe_ifExp (pt_cmpR (op_eqD hr.units) (pv 4) (pe_lstD (pa_cons (pe_int) (pa_nil))) (nomark _)) (pe_tupE (pa_nil)) (pe_callTy call_tupS rfl G.nm.tuple (by decide +kernel) (pa_cons (pv 4) (pa_nil)))))))))))), ?_⟩)
  cases r with
  | @ok w rs hw h =>
    have iw := mdQ_whole (w := w) h
    have im := mdQ_mod (w := w) h
    obtain ⟨e1, e2⟩ := mdQ_low (w := w) h
    obtain ⟨ba, bb⟩ := Rd.bk_can h.can
    have dp : (0 : Int) < ((mdQ w rs).den : Int) := by omega
    have ups := Rd.up_ps h.can
    have upb := Rd.up_bk (rs := rs)
    have upn : Rd.up rs ≠ [] := by cases rs <;> simp [Rd.up]
    have upl : (Rd.up rs).length ≤ 7 := by
      have := h.len
      cases rs <;> simp [Rd.up] at this ⊢
      omega
    walk_at "go0"
    have dl : ((mdQ w rs).den : Int).natAbs < 2 ^ 3900 := biL 3900
    walk_at "rdN"
    rename_i e0
    refine lstDN e0 .nil rfl fun D H2 nd en => ?_
    clear e0
    refine setS ?_
    refine while_by (RunS K H _ _ rs D) (fun σ _ => match σ with | [_, _, _, some (.int r), _] => r.natAbs | _ => 0) ⟨_, _, [], rfl, by have := Ev6.start upn; rw [upb] at this; rw [im, e2]; exact this, by rw [im]; omega, by rw [im]; omega, en.sub' fun e i => by rw [List.mem_singleton.mp i]; walk_at "mem"⟩ (fun σ Hh hP => ?_) mono_ne
    obtain ⟨l, r, acc, rfl, ev, r0, rb, e4⟩ := hP.ex
    have br : Bi r 3900 := ⟨rb⟩
    walk_at "rd"
    refine iteP (fun h1 => ?_) (fun h1 => ?_)
    · have hr : r ≠ 0 := by simpa using h1
      obtain ⟨rp, st, s0, s1⟩ := ev.step ups hr
      have al := ev.len
      walk_at "rd"
      refine appG e4 nd (e4.get (by walk_at "mem")) (.int _) (by rw [show iDs acc ++ [Dt.int (l.fdiv r)] = iDs (acc ++ [l.fdiv r]) by simp]; exact noLs_ints _) (by simp; omega) [] (fun _ i => by cases i) fun H3 e5 => ?_
      rw [show iDs acc ++ [Dt.int (l.fdiv r)] = iDs (acc ++ [l.fdiv r]) by simp] at e5
      walk_at "rd"
      exact ⟨⟨_, _, _, rfl, st, s0, by omega, e5⟩, by show (l % r).natAbs < r.natAbs; omega⟩
    · have hr : r = 0 := by simpa using h1
      subst hr
      have ea := ev.last ups
      subst ea
      clear hP ev en h1 r0 rb br
      match rs, h with
      | [], h =>
        have e5 : Env K .fn H Hh [(.ref D, .lst [.int 2])] := e4
        walk_at "rd"
        refine getIt (e5.get (by walk_at "mem")) (n := 0) rfl rfl ?_
        walk_at "rd"
        refine setIt (j := 0) e5 nd (e5.get (by walk_at "mem")) rfl (.int _) rfl [] (fun _ i => by cases i) fun H6 e6 => ?_
        walk_at "rd"
        refine getIt (e6.get (by walk_at "mem")) (n := 0) rfl rfl ?_
        walk_at "rd"
        refine setIt (j := 0) e6 nd (e6.get (by walk_at "mem")) rfl (.int _) rfl [] (fun _ i => by cases i) fun H7 e7 => ?_
        walk_at "rd"
      | [r], h =>
        have e5 : Env K .fn H Hh [(.ref D, .lst [.int (r + 1 + 1)])] := e4
        have ne : PyData.eqv (.list [.int (r + 1 + 1 - 1 - 1)]) (.list [.int 0]) = false := by
          have : 1 ≤ r := h.can
          rw [show PyData.eqv (.list [.int (r + 1 + 1 - 1 - 1)]) (.list [.int 0]) = decide ([r + 1 + 1 - 1 - 1] = [0]) from eqv_lst [_] [0]]
          simp
          omega
        walk_at "rd"
        refine getIt (e5.get (by walk_at "mem")) (n := 0) rfl rfl ?_
        walk_at "rd"
        refine setIt (j := 0) e5 nd (e5.get (by walk_at "mem")) rfl (.int _) rfl [] (fun _ i => by cases i) fun H6 e6 => ?_
        walk_at "rd"
        refine getIt (e6.get (by walk_at "mem")) (n := 0) rfl rfl ?_
        walk_at "rd"
        refine setIt (j := 0) e6 nd (e6.get (by walk_at "mem")) rfl (.int _) rfl [] (fun _ i => by cases i) fun H7 e7 => ?_
        walk_at "rd"
        rename_i e9
        exact finDE q e9 (e9.get (by walk_at "mem")) (by
          show Dt.tup [.int (r + 1 + 1 - 1 - 1)] = Dt.tup [.int r]
          rw [show r + 1 + 1 - 1 - 1 = r by omega])
      | r :: s' :: l', h =>
        obtain ⟨m, t, em⟩ := snoc_of (l := s' :: l') (by simp)
        have ea : Rd.al (Rd.up (r :: s' :: l')) = (r + 1) :: (m ++ [t + 1]) := by
          show (r + 1) :: Rd.al (s' :: l') = _
          rw [em, al_snoc]
        rw [ea] at e4
        have e5 : Env K .fn H Hh [(.ref D, .lst (.int (r + 1) :: iDs (m ++ [t + 1])))] := e4
        have ne : PyData.eqv (.list (((r + 1 - 1) :: m ++ [t + 1 - 1]).map PyData.int)) (.list [.int 0]) = false := by
          rw [show PyData.eqv (.list (((r + 1 - 1) :: m ++ [t + 1 - 1]).map PyData.int)) (.list [.int 0]) = decide (((r + 1 - 1) :: m ++ [t + 1 - 1]) = [0]) from eqv_lst _ [0]]
          simp
        walk_at "rd"
        refine getIt (e5.get (by walk_at "mem")) (n := 0) (ixN_0 _) rfl ?_
        walk_at "rd"
        refine setIt (j := 0) e5 nd (e5.get (by walk_at "mem")) (ixN_0 _) (.int _) ?_ [] (fun _ i => by cases i) fun H6 e6 => ?_
        · exact (noLs_ints ((r + 1 - 1) :: (m ++ [t + 1])) : noLs (iDs _) = true)
        have e6 : Env K .fn H H6 [(.ref D, .lst (iDs ((r + 1 - 1) :: m) ++ [.int (t + 1)]))] := by
          rw [show iDs ((r + 1 - 1) :: m) ++ [Dt.int (t + 1)] = (Dt.int (r + 1 - 1)) :: iDs (m ++ [t + 1]) by simp]
          exact e6
        walk_at "rd"
        refine getIt (e6.get (by walk_at "mem")) (n := ((r + 1 - 1) :: m).length) (d := .int (t + 1)) (by rw [List.length_append, List.length_map]; exact ixN_end _) (by simp) ?_
        walk_at "rd"
        refine setIt (j := ((r + 1 - 1) :: m).length) e6 nd (e6.get (by walk_at "mem")) (by rw [List.length_append, List.length_map]; exact ixN_end _) (.int _) ?_ [] (fun _ i => by cases i) fun H7 e7 => ?_
        · rw [set_last]
          exact (show iDs ((r + 1 - 1) :: m) ++ [Dt.int (t + 1 - 1)] = iDs ((r + 1 - 1) :: m ++ [t + 1 - 1]) by simp) ▸ noLs_ints _
        rw [set_last, show iDs ((r + 1 - 1) :: m) ++ [Dt.int (t + 1 - 1)] = iDs ((r + 1 - 1) :: m ++ [t + 1 - 1]) by simp] at e7
        walk_at "rd"
        rename_i e9
        exact finDE q e9 (e9.get (by walk_at "mem")) (by
          rw [em, show r + 1 - 1 = r by omega, show t + 1 - 1 = t by omega]
          rfl)
theorem sc_road_of : FnScope ["ratio", "turn"] ["ratio"] (defScope (topS 59)) := ⟨rfl, rfl, rfl, by decide +kernel, rfl, by decide +kernel, by decide +kernel⟩
include g_Ratio_below g_Ratio_is_whole g_mRoad g_need_ratio g_runs_of in
theorem ok_road_of (G : G0 K mg csL tsL) (F : FP K "road_of" "road_of" (topS 59) [] f fd) : FnOk P w K mg base (L2.CX P w) 8 f fd ["ratio"] (spR K csL tsL 3900 RRoadOf) := by
  have nd := sc_road_of.nd
  refine okRW F sc_road_of (fun ds o r => by cases r <;> rfl) (fun cdv A outer s H ds o Q E hr z r q => ⟨_, pss_cons (toSet (ps_set (i := 1) nd rfl (Or.inl rfl) (pe_gd g_need_ratio (hr.mono (by decide)) rfl (pxE rfl rfl rfl rfl) (pa_cons (pv 0) (pa_cons (pe_str) (pa_nil)))))) (pss_cons (ps_if (pt_val (pe_propX (pv 1) g_Ratio_is_whole (hr.mono (by decide)) (pxE rfl rfl rfl rfl) rfl)) (pss_one (ps_ret (pe_makeD g_mRoad (hr.mono (by decide)) rfl (pxE rfl rfl rfl rfl) (pa_cons (pe_fldD (pv 1) rfl) (pa_cons (pe_tupE (pa_nil)) (pa_cons (pe_str) (pa_nil))))))) (pss_nil)) (pss_one (ps_ret (pe_makeD g_mRoad (hr.mono (by decide)) rfl (pxE rfl rfl rfl rfl) (pa_cons (pe_propX (pv 1) g_Ratio_below (hr.mono (by decide)) (pxE rfl rfl rfl rfl) rfl) (pa_cons (pe_gd g_runs_of (hr.mono (by decide)) rfl (pxE rfl rfl rfl rfl) (pa_cons (pv 1) (pa_nil))) (pa_cons (pe_str) (pa_nil)))))))), ?_⟩)
  cases r with
  | @ok w rs hw h =>
    have iw := mdQ_whole (w := w) h
    have fl := mdQ_floor (w := w) h
    have bw : Bi w 8 := ⟨hw⟩
    have ri : RInitRd [.int w, .tup (iDs rs), .str "ended"] (.ok (dRoad w rs "ended")) := RInitRd.ok (k := .ended) ⟨hw, h, fun z => by cases z⟩
    walk_at "go"
    rw [fl]
    walk_at "rd"
structure BaF (K : Frag) (H : Hp) (p1 p2 D : Addr) (rs ss : List Int) (σ : L2.St) (Hh : Hp) : Prop where
  ex : ∃ y3 y4, σ = [some (.ref p1), some (.ref p2), some (.ref D), y3, y4] ∧ Env K .fn H Hh [(.ref D, .lst (iDs (Rd.ba rs ss)))]
structure BaS (p1 p2 D : Addr) (rs ss : List Int) (i : Nat) (σ : L2.St) (L : List (V × Dt)) : Prop where
  ex : ∃ y3 y4, σ = [some (.ref p1), some (.ref p2), some (.ref D), y3, y4] ∧ L = [(.ref D, .lst (iDs (rs.take i)))] ∧ rs.take i = ss.take i
theorem sc_begin_alike : FnScope ["one", "other", "found", "run", "beside"] ["one", "other"] (defScope (topS 49)) := ⟨rfl, rfl, rfl, by decide +kernel, rfl, by decide +kernel, by decide +kernel⟩
include h_min h_zip in
theorem ok_begin_alike (G : G0 K mg csL tsL) (F : FP K "begin_alike" "begin_alike" (topS 49) [] f fd) : FnOk P w K mg base (L2.CX P w) 1 f fd ["one", "other"] (spR K csL tsL 100000 RAlike) := by
  have nd := sc_begin_alike.nd
  refine okRW F sc_begin_alike (fun ds o r => by cases r <;> rfl) (fun cdv A outer s H ds o Q E hr z r q => ⟨_, pss_cons (toSet (ps_set (i := 2) nd rfl (Or.inl rfl) (pe_lstD (pa_nil)))) (pss_cons (ps_forD (passes_of rfl) rfl (pi_zipW rfl h_zip (pa_cons (pv 0) (pa_cons (pv 1) pa_nil))) (pg_tup rfl (pgs_cons (toG (pg_name (i := 3) nd rfl (Or.inl rfl))) (pgs_cons (toG (pg_name (i := 4) nd rfl (Or.inl rfl))) (pgs_nil)))) (pss_cons (ps_expr (pe_bm PySem.F.plainAttrs_list PySem.F.slot_list_append PySem.F.type_list_append mt_append (pv 2) (pa_cons (pe_callB (call_min2 rfl) rfl h_min (by decide +kernel) (pa_cons (pv 3) (pa_cons (pv 4) (pa_nil)))) (pa_nil)))) (pss_one (ps_if (pt_cmpR op_ne (pv 3) (pv 4) (nomark _)) (pss_one (ps_break)) (pss_nil))))) (pss_one (ps_ret (pe_ifExp (pt_cmpR (op_eqD hr.units) (pv 2) (pe_lstD (pa_cons (pe_int) (pa_nil))) (nomark _)) (pe_tupE (pa_nil)) (pe_callTy call_tupS rfl G.nm.tuple (by decide +kernel) (pa_cons (pv 2) (pa_nil))))))), ?_⟩)
  cases r with
  | @ok rs ss h k =>
    have l1 := h.len
    have l2 := k.len
    walk_at "go0"
    walk_at "rdN"
    rename_i p1 _ p2 e0
    refine lstDN e0 .nil rfl fun D H2 nd en => ?_
    walk_at "rd"
    rename_i J wd
    refine forK (BaF K H p1 p2 D rs ss) (fun σ Hh hB => ?_) (fun fin => ?_)
    · obtain ⟨y3, y4, rfl, e4⟩ := hB.ex
      clear e0 en wd
      walk_at "rd"
      rw [show PyData.eqv (.list ((Rd.ba rs ss).map PyData.int)) (.list [.int 0]) = decide (Rd.ba rs ss = [0]) from eqv_lst _ [0]]
      refine iteP (fun h1 => ?_) (fun h1 => ?_)
      · have e : Rd.bl rs ss = [] := by
          unfold Rd.bl
          rw [if_pos (of_decide_eq_true h1)]
        rw [e] at q
        walk_at "rd"
      · have e : Rd.bl rs ss = Rd.ba rs ss := by
          unfold Rd.bl
          rw [if_neg (fun z => h1 (decide_eq_true z))]
        rw [e] at q
        walk_at "rd"
    · refine forI (fun _ => .fn) (BaS p1 p2 D rs ss) [(.ref D, .lst [])] en wd (subL2 (by walk_at "mem") (by walk_at "mem")) ⟨_, _, rfl, rfl, rfl⟩ (fun i d x σ L' Hh hd hS e4 => ?_) (fun σ L' Hh hS e4 => ?_)
      · obtain ⟨y3, y4, rfl, rfl, tk⟩ := hS.ex
        obtain ⟨a, b, ha, hb, rfl⟩ := zipD_get _ _ _ _ hd
        rw [List.getElem?_map] at ha hb
        obtain ⟨r, hr, rfl⟩ := Option.map_eq_some_iff.mp ha
        obtain ⟨s', hs, rfl⟩ := Option.map_eq_some_iff.mp hb
        clear e0 en wd hd ha hb hS
        have e5 : Env K .fn H Hh [(x, .tup [.int r, .int s']), (.ref D, .lst (iDs (rs.take i))), (.ref p2, .tup (iDs ss)), (.ref p1, .tup (iDs rs))] := e4
        clear e4
        walk_at "rd"
        refine appG e5 nd (e5.get (by walk_at "mem")) (.int _) (by rw [show iDs (rs.take i) ++ [Dt.int (if s' < r then s' else r)] = iDs (rs.take i ++ [if s' < r then s' else r]) by simp]; exact noLs_ints _) (by simp; omega) [(.ref p2, .tup (iDs ss)), (.ref p1, .tup (iDs rs))] (fun e i => ?_) fun H3 e6 => ?_
        · rcases List.mem_cons.mp i with rfl | i
          · exact ⟨by walk_at "mem", noLs_ints _⟩
          rw [List.mem_singleton.mp i]
          exact ⟨by walk_at "mem", noLs_ints _⟩
        rw [show iDs (rs.take i) ++ [Dt.int (if s' < r then s' else r)] = iDs (rs.take i ++ [if s' < r then s' else r]) by simp] at e6
        clear e5
        by_cases n : r = s'
        · have t0 : (!decide (V.int r = V.int s')) = false := by simp [n]
          obtain ⟨tk2, e⟩ := ba_eq tk hr hs n
          rw [← e] at e6
          walk_at "rd"
          exact loopI [(.ref D, .lst (iDs (rs.take (i + 1))))] ⟨_, _, rfl, rfl, tk2⟩ e6
        · rw [← ba_ne tk hr hs n] at e6
          walk_at "rd"
          refine iteT (by simp [n]) ?_
          exact fin _ _ ⟨_, _, rfl, e6.sub' fun e i => by rw [List.mem_singleton.mp i]; exact List.mem_cons_self⟩
      · obtain ⟨y3, y4, rfl, rfl, tk⟩ := hS.ex
        rw [zipD_len, List.length_map, List.length_map] at tk e4
        refine fin _ _ ⟨_, _, rfl, ?_⟩
        rw [ba_end tk rfl]
        exact e4.sub' fun e i => by rw [List.mem_singleton.mp i]; exact List.mem_cons_self
theorem sc_is_begin : FnScope ["one", "other"] ["one", "other"] (defScope (topS 50)) := ⟨rfl, rfl, rfl, by decide +kernel, rfl, by decide +kernel, by decide +kernel⟩
include g_begin_alike in
theorem ok_is_begin (G : G0 K mg csL tsL) (F : FP K "is_begin" "is_begin" (topS 50) [] f fd) : FnOk P w K mg base (L2.CX P w) 2 f fd ["one", "other"] (spR K csL tsL 100000 RIsBeg) := by
  have nd := sc_is_begin.nd
  refine okRW F sc_is_begin (fun ds o r => by cases r <;> rfl) (fun cdv A outer s H ds o Q E hr z r q => ⟨_, pss_one (ps_ret (pe_cmpR (op_eqD hr.units) (pe_gd g_begin_alike (hr.mono (by decide)) rfl (pxE rfl rfl rfl rfl) (pa_cons (pv 0) (pa_cons (pv 1) (pa_nil)))) (pe_callTy call_tupS rfl G.nm.tuple (by decide +kernel) (pa_cons (pv 0) (pa_nil))) (nomark _))), ?_⟩)
  cases r with
  | @ok rs ss h k =>
    walk_at "go"
    exact finB q (by assumption) (eqv_tup _ _)
theorem sc_is_ahead : FnScope ["one", "other"] ["one", "other"] (defScope (topS 62)) := ⟨rfl, rfl, rfl, by decide +kernel, rfl, by decide +kernel, by decide +kernel⟩
include g_Road_eq g_is_begin g_need_road nf_Road in
theorem ok_is_ahead (G : G0 K mg csL tsL) (F : FP K "is_ahead" "is_ahead" (topS 62) [] f fd) : FnOk P w K mg base (L2.CX P w) 4 f fd ["one", "other"] (spR K csL tsL 100000 RAhead) := by
  have nd := sc_is_ahead.nd
  refine okRW F sc_is_ahead (fun ds o r => by cases r <;> rfl) (fun cdv A outer s H ds o Q E hr z r q => ⟨_, pss_cons (ps_expr (pe_gd g_need_road (hr.mono (by decide)) rfl (pxE rfl rfl rfl rfl) (pa_cons (pv 0) (pa_cons (pe_str) (pa_nil))))) (pss_cons (ps_expr (pe_gd g_need_road (hr.mono (by decide)) rfl (pxE rfl rfl rfl rfl) (pa_cons (pv 1) (pa_cons (pe_str) (pa_nil))))) (pss_cons (ps_if (pt_cmpR (op_eqGo g_Road_eq (hr.mono (by decide)) (pxE rfl rfl rfl rfl)) (pv 0) (pv 1) (nomark _)) (pss_one (ps_ret (pe_bl))) (pss_nil)) (pss_cons (ps_if (PW.pt (pw_or (pt_cmpR op_ne (pe_fldD (pv 0) rfl) (pe_fldD (pv 1) rfl) (nomark _)) (pw_or1 (pt_cmpR op_notIn_seq (pe_fldD (pv 0) rfl) (pe_tupE (pa_cons (pe_str) (pa_cons (pe_str) (pa_nil)))) rfl)))) (pss_one (ps_ret (pe_bl))) (pss_nil)) (pss_cons (ps_if (pt_cmpR op_eq (pe_fldD (pv 0) rfl) (pe_str) (nomark _)) (pss_one (ps_ret (pe_cmpR op_in_seq (pe_fldD (pv 1) rfl) (pe_tupE (pa_cons (pe_str) (pa_cons (pe_str) (pa_nil)))) rfl))) (pss_nil)) (pss_one (ps_ret (pe_and (pe_cmpR op_in_seq (pe_fldD (pv 1) rfl) (pe_tupE (pa_cons (pe_str) (pa_cons (pe_str) (pa_nil)))) rfl) (pe_one (pe_gd g_is_begin (hr.mono (by decide)) rfl (pxE rfl rfl rfl rfl) (pa_cons (pe_fldD (pv 0) rfl) (pa_cons (pe_fldD (pv 1) rfl) (pa_nil)))))))))))), ?_⟩)
  cases r with
  | @ok w v rs ss k l h h2 =>
    have hrn := h.rn
    have hrn2 := h2.rn
    by_cases e : w = v ∧ rs = ss ∧ k = l
    · have t0 : decide (w = v ∧ rs = ss ∧ k = l) = true := decide_eq_true e
      have ea : ahF w rs k v ss l = true := by unfold ahF; rw [if_pos e]
      rw [ea] at q
      walk_at "go"
    · have t0 : decide (w = v ∧ rs = ss ∧ k = l) = false := decide_eq_false e
      by_cases hv : w = v
      · have t1 : (!decide (V.int w = V.int v)) = false := by simp [hv]
        walk_at "go"
        cases k <;> cases l
        all_goals
          walk_at "rd"
          exact finB q (by assumption) (by unfold ahF; rw [if_neg e]; simp [hv]; try rfl)
      · have t1 : (!decide (V.int w = V.int v)) = true := by simp [hv]
        walk_at "go"
        exact finB q (by assumption) (by unfold ahF; rw [if_neg e]; simp [hv])
  | one h => walk_at "go"
  | oth h => walk_at "go"
theorem sc_common : FnScope ["one", "other"] ["one", "other"] (defScope (topS 63)) := ⟨rfl, rfl, rfl, by decide +kernel, rfl, by decide +kernel, by decide +kernel⟩
include g_Road_eq g_begin_alike g_mRoad g_need_road nf_Road in
theorem ok_common (G : G0 K mg csL tsL) (F : FP K "common" "common" (topS 63) [] f fd) : FnOk P w K mg base (L2.CX P w) 5 f fd ["one", "other"] (spR K csL tsL 100000 RCommon) := by
  have nd := sc_common.nd
  refine okRW F sc_common (fun ds o r => by cases r <;> rfl) (fun cdv A outer s H ds o Q E hr z r q => ⟨_, pss_cons (ps_expr (pe_gd g_need_road (hr.mono (by decide)) rfl (pxE rfl rfl rfl rfl) (pa_cons (pv 0) (pa_cons (pe_str) (pa_nil))))) (pss_cons (ps_expr (pe_gd g_need_road (hr.mono (by decide)) rfl (pxE rfl rfl rfl rfl) (pa_cons (pv 1) (pa_cons (pe_str) (pa_nil))))) (pss_cons (ps_if (pt_cmpR (op_eqGo g_Road_eq (hr.mono (by decide)) (pxE rfl rfl rfl rfl)) (pv 0) (pv 1) (nomark _)) (pss_one (ps_ret (pv 0))) (pss_nil)) (pss_cons (ps_if (PW.pt (pw_or (pt_cmpR op_ne (pe_fldD (pv 0) rfl) (pe_fldD (pv 1) rfl) (nomark _)) (pw_or (pt_cmpR op_eq (pe_fldD (pv 0) rfl) (pe_str) (nomark _)) (pw_or1 (pt_cmpR op_eq (pe_fldD (pv 1) rfl) (pe_str) (nomark _)))))) (pss_one (ps_ret (pe_non))) (pss_nil)) (pss_cons (ps_if (PW.pt (pw_or (pt_cmpR op_eq (pe_fldD (pv 0) rfl) (pe_str) (nomark _)) (pw_or1 (pt_cmpR op_eq (pe_fldD (pv 1) rfl) (pe_str) (nomark _))))) (pss_one (ps_ret (pe_makeD g_mRoad (hr.mono (by decide)) rfl (pxE rfl rfl rfl rfl) (pa_cons (pe_fldD (pv 0) rfl) (pa_cons (pe_tupE (pa_nil)) (pa_cons (pe_str) (pa_nil))))))) (pss_nil)) (pss_one (ps_ret (pe_makeD g_mRoad (hr.mono (by decide)) rfl (pxE rfl rfl rfl rfl) (pa_cons (pe_fldD (pv 0) rfl) (pa_cons (pe_gd g_begin_alike (hr.mono (by decide)) rfl (pxE rfl rfl rfl rfl) (pa_cons (pe_fldD (pv 0) rfl) (pa_cons (pe_fldD (pv 1) rfl) (pa_nil)))) (pa_cons (pe_str) (pa_nil))))))))))), ?_⟩)
  cases r with
  | @ok w v rs ss k l h h2 =>
    have hrn := h.rn
    have hrn2 := h2.rn
    have hw := h.w
    have bw : Bi w 8 := ⟨hw⟩
    have i1 : RInitRd [.int w, .tup [], .str "first"] (.ok (dRoad w [] "first")) := RInitRd.ok (rs := []) (k := .first) ⟨hw, ⟨trivial, by decide, fun r i => by cases i⟩, fun _ => rfl⟩
    have i2 : RInitRd [.int w, .tup (iDs (Rd.bl rs ss)), .str "open"] (.ok (dRoad w (Rd.bl rs ss) "open")) := RInitRd.ok (k := .opn) ⟨hw, bl_rn hrn hrn2, fun z => by cases z⟩
    by_cases e : w = v ∧ rs = ss ∧ k = l
    · have t0 : decide (w = v ∧ rs = ss ∧ k = l) = true := decide_eq_true e
      have ea : cmF w rs k v ss l = some (rs, k) := by unfold cmF; rw [if_pos e]
      rw [ea] at q
      walk_at "go"
    · have t0 : decide (w = v ∧ rs = ss ∧ k = l) = false := decide_eq_false e
      by_cases hv : w = v
      · have t1 : (!decide (V.int w = V.int v)) = false := by simp [hv]
        walk_at "go"
        cases k <;> cases l
        all_goals
          walk_at "rd"
          first
            | exact finDE q (by assumption) .non (by unfold cmF; rw [if_neg e]; simp [hv]; try rfl)
            | exact finDE q (by assumption) (Env.get (by assumption) List.mem_cons_self) (by unfold cmF; rw [if_neg e]; simp [hv]; try rfl)
      · have t1 : (!decide (V.int w = V.int v)) = true := by simp [hv]
        have ea : cmF w rs k v ss l = none := by unfold cmF; rw [if_neg e, if_pos (.inl hv)]
        rw [ea] at q
        walk_at "go"
  | one h => walk_at "go"
  | oth h => walk_at "go"
theorem sc__law_less : FnScope ["_law_one", "_law_other"] ["_law_one", "_law_other"] (defScope (topS 70)) := ⟨rfl, rfl, rfl, by decide +kernel, rfl, by decide +kernel, by decide +kernel⟩
theorem ok__law_less (G : G0 K mg csL tsL) (F : FP K "_law_less" "_law_less" (topS 70) [] f fd) : FnOk P w K mg base (L2.CX P w) 1 f fd ["_law_one", "_law_other"] (spR K csL tsL 100000 RLess) := by
  have nd := sc__law_less.nd
  refine okRW F sc__law_less (fun ds o r => by cases r <;> rfl) (fun cdv A outer s H ds o Q E hr z r q => ⟨_, pss_one (ps_ret (pe_cmpR op_lt (pe_op op_mulB (pe_ix ix_tup (pv 0) (pe_int) (fun _ _ => rfl)) (pe_ix ix_tup (pv 1) (pe_int) (fun _ _ => rfl))) (pe_op op_mulB (pe_ix ix_tup (pv 1) (pe_int) (fun _ _ => rfl)) (pe_ix ix_tup (pv 0) (pe_int) (fun _ _ => rfl))) (nomark _))), ?_⟩)
  cases r with
  | @mk a b ha hb =>
    have b1 : Bi a.1 220 := ⟨ha.a⟩
    have b2 : Bi a.2 220 := ⟨ha.b⟩
    have b3 : Bi b.1 220 := ⟨hb.a⟩
    have b4 : Bi b.2 220 := ⟨hb.b⟩
    walk_at "go"
theorem sc__law_middle : FnScope ["_law_road_here", "_law_low", "_law_high"] ["_law_road_here"] (defScope (topS 71)) := ⟨rfl, rfl, rfl, by decide +kernel, rfl, by decide +kernel, by decide +kernel⟩
include g_l_ends in
theorem ok__law_middle (G : G0 K mg csL tsL) (F : FP K "_law_middle" "_law_middle" (topS 71) [] f fd) : FnOk P w K mg base (L2.CX P w) 2 f fd ["_law_road_here"] (spR K csL tsL 100000 RMidd) := by
  have nd := sc__law_middle.nd
  refine okRW F sc__law_middle (fun ds o r => by cases r <;> rfl) (fun cdv A outer s H ds o Q E hr z r q => ⟨_, pss_cons (ps_asg (pe_gd g_l_ends (hr.mono (by decide)) rfl (pxE rfl rfl rfl rfl) (pa_cons (pv 0) (pa_nil))) (pg_tup rfl (pgs_cons (toG (pg_name (i := 1) nd rfl (Or.inl rfl))) (pgs_cons (toG (pg_name (i := 2) nd rfl (Or.inl rfl))) (pgs_nil))))) (pss_one (ps_ret (pe_tupE (pa_cons (pe_op op_add (pe_ix ix_tup (pv 1) (pe_int) (fun _ _ => rfl)) (pe_ix ix_tup (pv 2) (pe_int) (fun _ _ => rfl))) (pa_cons (pe_op op_add (pe_ix ix_tup (pv 1) (pe_int) (fun _ _ => rfl)) (pe_ix ix_tup (pv 2) (pe_int) (fun _ _ => rfl))) (pa_nil)))))), ?_⟩)
  cases r with
  | @t w rs k hw h =>
    have eb := eF_eb hw h
    have b1 : Bi (eF w rs).1.1 220 := ⟨eb.l.a⟩
    have b2 : Bi (eF w rs).1.2 220 := ⟨eb.l.b⟩
    have b3 : Bi (eF w rs).2.1 220 := ⟨eb.h.a⟩
    have b4 : Bi (eF w rs).2.2 220 := ⟨eb.h.b⟩
    walk_at "go"
  | @l w rs k hw h =>
    have eb := eF_eb hw h
    have b1 : Bi (eF w rs).1.1 220 := ⟨eb.l.a⟩
    have b2 : Bi (eF w rs).1.2 220 := ⟨eb.l.b⟩
    have b3 : Bi (eF w rs).2.1 220 := ⟨eb.h.a⟩
    have b4 : Bi (eF w rs).2.2 220 := ⟨eb.h.b⟩
    walk_at "go"
theorem sc__law_within : FnScope ["_law_one", "_law_other", "_law_low", "_law_high", "_law_middle_here", "_law_begin", "_law_end"] ["_law_one", "_law_other"] (defScope (topS 72)) := ⟨rfl, rfl, rfl, by decide +kernel, rfl, by decide +kernel, by decide +kernel⟩
include g_l_ends g_l_less g_l_middle in
theorem ok__law_within (G : G0 K mg csL tsL) (F : FP K "_law_within" "_law_within" (topS 72) [] f fd) : FnOk P w K mg base (L2.CX P w) 3 f fd ["_law_one", "_law_other"] (spR K csL tsL 100000 RWith) := by
  have nd := sc__law_within.nd
  refine okRW F sc__law_within (fun ds o r => by cases r <;> rfl) (fun cdv A outer s H ds o Q E hr z r q => ⟨_, pss_cons (ps_asg (pe_gd g_l_ends (hr.mono (by decide)) rfl (pxE rfl rfl rfl rfl) (pa_cons (pv 0) (pa_nil))) (pg_tup rfl (pgs_cons (toG (pg_name (i := 2) nd rfl (Or.inl rfl))) (pgs_cons (toG (pg_name (i := 3) nd rfl (Or.inl rfl))) (pgs_nil))))) (pss_cons (ps_if (pt_cmpR op_eq (pe_ix ix_tup (pv 1) (pe_int) (fun _ _ => rfl)) (pe_str) (nomark _)) (pss_cons (toSet (ps_set (i := 4) nd rfl (Or.inl rfl) (pe_gd g_l_middle (hr.mono (by decide)) rfl (pxE rfl rfl rfl rfl) (pa_cons (pv 1) (pa_nil))))) (pss_one (ps_ret (pe_and (pe_gd g_l_less (hr.mono (by decide)) rfl (pxE rfl rfl rfl rfl) (pa_cons (pv 2) (pa_cons (pv 4) (pa_nil)))) (pe_one (pe_gd g_l_less (hr.mono (by decide)) rfl (pxE rfl rfl rfl rfl) (pa_cons (pv 4) (pa_cons (pv 3) (pa_nil))))))))) (pss_nil)) (pss_cons (ps_asg (pe_gd g_l_ends (hr.mono (by decide)) rfl (pxE rfl rfl rfl rfl) (pa_cons (pv 1) (pa_nil))) (pg_tup rfl (pgs_cons (toG (pg_name (i := 5) nd rfl (Or.inl rfl))) (pgs_cons (toG (pg_name (i := 6) nd rfl (Or.inl rfl))) (pgs_nil))))) (pss_one (ps_ret (pe_and (pe_not (pe_gd g_l_less (hr.mono (by decide)) rfl (pxE rfl rfl rfl rfl) (pa_cons (pv 5) (pa_cons (pv 2) (pa_nil))))) (pe_one (pe_not (pe_gd g_l_less (hr.mono (by decide)) rfl (pxE rfl rfl rfl rfl) (pa_cons (pv 3) (pa_cons (pv 6) (pa_nil))))))))))), ?_⟩)
  cases r with
  | @e w rs ss k hw h h2 =>
    have eb := eF_eb hw h
    have eb2 := eF_eb hw h2
    have l1 := eb.l
    have l2 := eb.h
    have l3 := eb2.m
    rw [(eF_pre (w := w) h h2).2] at q
    walk_at "go"
    unfold Rd.wm at q
    refine iteP (fun h1 => ?_) (fun h1 => ?_)
    · rw [h1, Bool.true_and] at q
      walk_at "rd"
    · rw [Bool.eq_false_iff.mpr h1, Bool.false_and] at q
      walk_at "rd"
  | @o w rs ss k hw h h2 =>
    have eb := eF_eb hw h
    have eb2 := eF_eb hw h2
    have l1 := eb.l
    have l2 := eb.h
    have l3 := eb2.l
    have l4 := eb2.h
    rw [(eF_pre (w := w) h h2).1] at q
    walk_at "go"
    unfold Rd.wi at q
    refine iteP (fun h1 => ?_) (fun h1 => ?_)
    · rw [h1, Bool.true_and] at q
      walk_at "rd"
    · rw [Bool.eq_false_iff.mpr h1, Bool.false_and] at q
      exact finB q (by assumption) (by first | rfl | simpa using h1)
theorem sc__law_told : FnScope ["_law_road_here"] ["_law_road_here"] (defScope (topS 78)) := ⟨rfl, rfl, rfl, by decide +kernel, rfl, by decide +kernel, by decide +kernel⟩
theorem ok__law_told (G : G0 K mg csL tsL) (F : FP K "_law_told" "_law_told" (topS 78) [] f fd) : FnOk P w K mg base (L2.CX P w) 1 f fd ["_law_road_here"] (spR K csL tsL 100000 RToldR) := by
  have nd := sc__law_told.nd
  refine okRW F sc__law_told (fun ds o r => by cases r <;> rfl) (fun cdv A outer s H ds o Q E hr z r q => ⟨_, pss_one (ps_ret (pe_ifExp (pt_val (pe_callB call_isi rfl G.nm.isinstance (by decide +kernel) (pa_cons (pv 0) (pa_cons ((pe_glob (v := .ref (ca K .Road)) rfl (G.mgc .Road (by decide)) rfl)) (pa_nil))))) (pe_tupE (pa_cons (pe_fldD (pv 0) rfl) (pa_cons (pe_fldD (pv 0) rfl) (pa_cons (pe_fldD (pv 0) rfl) (pa_nil))))) (pe_non))), ?_⟩)
  cases r with
  | r => walk_at "go"
  | n => walk_at "go"
structure LeS (w : Int) (rs : List Int) (v1 v3 : V) (k : Str) (i : Nat) (σ : L2.St) (L : List (V × Dt)) : Prop where
  ex : ∃ u1 u2 y6 y7, σ = [some v1, some (.int w), some v3, some (.str k), some u1, some u2, y6, y7] ∧ L = [(u2, vD (stt w rs i).2), (u1, vD (stt w rs i).1)]
theorem sc__law_ends : FnScope ["_law_road_here", "_law_whole", "_law_runs_here", "_law_kind", "_law_low", "_law_high", "_law_at", "_law_many"] ["_law_road_here"] (defScope (topS 69)) := ⟨rfl, rfl, rfl, by decide +kernel, rfl, by decide +kernel, by decide +kernel⟩
theorem ok__law_ends (G : G0 K mg csL tsL) (F : FP K "_law_ends" "_law_ends" (topS 69) [] f fd) : FnOk P w K mg base (L2.CX P w) 1 f fd ["_law_road_here"] (spR K csL tsL 100000 REnds) := by
  have nd := sc__law_ends.nd
  refine okRW F sc__law_ends (fun ds o r => by cases r <;> rfl) (fun cdv A outer s H ds o Q E hr z r q => ⟨_, pss_cons (ps_asg (pv 0) (pg_tup rfl (pgs_cons (toG (pg_name (i := 1) nd rfl (Or.inl rfl))) (pgs_cons (toG (pg_name (i := 2) nd rfl (Or.inl rfl))) (pgs_cons (toG (pg_name (i := 3) nd rfl (Or.inl rfl))) (pgs_nil)))))) (pss_cons (toPar (ps_par (i := 4) (j := 5) rfl nd rfl rfl (by decide) rfl rfl (pa_cons (pe_tupE (pa_cons (pv 1) (pa_cons (pe_int) (pa_nil)))) (pa_cons (pe_tupE (pa_cons (pe_op op_add (pv 1) (pe_int)) (pa_cons (pe_int) (pa_nil)))) pa_nil)) rfl)) (pss_cons (ps_forD (passes_of rfl) rfl (pi_enumTW rfl G.nm.enumerate (pa_cons (pv 2) pa_nil)) (pg_tup rfl (pgs_cons (toG (pg_name (i := 6) nd rfl (Or.inl rfl))) (pgs_cons (toG (pg_name (i := 7) nd rfl (Or.inl rfl))) (pgs_nil)))) (pss_one (ps_if (pt_cmpR op_in_seq (pv 6) (pe_tupE (pa_cons (pe_int) (pa_cons (pe_int) (pa_cons (pe_int) (pa_nil))))) rfl) (pss_one (toSet (ps_set (i := 5) nd rfl (Or.inl rfl) (pe_tupE (pa_cons (pe_op op_add (pe_ix ix_tup (pv 5) (pe_int) (fun _ _ => rfl)) (pe_op op_mulB (pv 7) (pe_ix ix_tup (pv 4) (pe_int) (fun _ _ => rfl)))) (pa_cons (pe_op op_add (pe_ix ix_tup (pv 5) (pe_int) (fun _ _ => rfl)) (pe_op op_mulB (pv 7) (pe_ix ix_tup (pv 4) (pe_int) (fun _ _ => rfl)))) (pa_nil))))))) (pss_one (toSet (ps_set (i := 4) nd rfl (Or.inl rfl) (pe_tupE (pa_cons (pe_op op_add (pe_ix ix_tup (pv 4) (pe_int) (fun _ _ => rfl)) (pe_op op_mulB (pv 7) (pe_ix ix_tup (pv 5) (pe_int) (fun _ _ => rfl)))) (pa_cons (pe_op op_add (pe_ix ix_tup (pv 4) (pe_int) (fun _ _ => rfl)) (pe_op op_mulB (pv 7) (pe_ix ix_tup (pv 5) (pe_int) (fun _ _ => rfl)))) (pa_nil)))))))))) (pss_one (ps_ret (pe_tupE (pa_cons (pv 4) (pa_cons (pv 5) (pa_nil)))))))), ?_⟩)
  cases r with
  | @t w rs k hw h =>
    have bw : Bi w 8 := ⟨hw⟩
    walk_at "go"
    rename_i e2 J wd
    refine forI (fun _ => .fn) (LeS w rs _ _ k) [_, _] e2 wd (subL1 (by walk_at "mem")) ⟨_, _, _, _, rfl, by rw [stt_0]; rfl⟩ (fun i d x σ L' Hh hd hS en => ?_) (fun σ L' Hh hS en => ?_)
    · obtain ⟨u1, u2, y4, y5, rfl, rfl⟩ := hS.ex
      obtain ⟨d', hg, rfl⟩ := enmD_get _ _ _ _ hd
      rw [List.getElem?_map] at hg
      obtain ⟨r, hr, rfl⟩ := Option.map_eq_some_iff.mp hg
      rw [Nat.zero_add] at en
      have hs := stt_s (w := w) hr
      have b := stt_bd hw h i
      have br : Bi r 32 := ⟨h.bi (List.mem_of_getElem? hr)⟩
      have hi : i < 6 := by
        have := (List.getElem?_eq_some_iff.mp hr).1
        have := h.len
        omega
      have t1 := in024 hi
      clear hS hd hg hr wd e2
      obtain ⟨p, hp⟩ : ∃ p, p = stt w rs i := ⟨_, rfl⟩
      rw [← hp] at b hs en
      clear hp
      have b1 : Bi p.1.1 210 := ⟨b.a⟩
      have b2 : Bi p.1.2 210 := ⟨b.b⟩
      have b3 : Bi p.2.1 210 := ⟨b.c⟩
      have b4 : Bi p.2.2 210 := ⟨b.d⟩
      by_cases par : i % 2 = 1
      · rw [decide_eq_false (show ¬ i % 2 = 0 by omega)] at t1
        walk_at "rd"
        rename_i e9
        refine loopI [(_, vD (stt w rs (i + 1)).2), (_, vD (stt w rs (i + 1)).1)] ⟨_, _, _, _, rfl, rfl⟩ ?_
        rw [hs, decide_eq_true par]
        simp only [stp, if_true]
        refine e9.sub' fun e i => ?_
        rcases List.mem_cons.mp i with rfl | i
        · walk_at "mem"
        rcases List.mem_cons.mp i with rfl | i
        · walk_at "mem"
        rcases List.mem_cons.mp i with rfl | i
        · walk_at "mem"
        rw [List.mem_singleton.mp i]
        walk_at "mem"
      · rw [decide_eq_true (show i % 2 = 0 by omega)] at t1
        walk_at "rd"
        rename_i e9
        refine loopI [(_, vD (stt w rs (i + 1)).2), (_, vD (stt w rs (i + 1)).1)] ⟨_, _, _, _, rfl, rfl⟩ ?_
        rw [hs, decide_eq_false par]
        simp only [stp, if_false, Bool.false_eq_true]
        refine e9.sub' fun e i => ?_
        rcases List.mem_cons.mp i with rfl | i
        · walk_at "mem"
        rcases List.mem_cons.mp i with rfl | i
        · walk_at "mem"
        rcases List.mem_cons.mp i with rfl | i
        · walk_at "mem"
        rw [List.mem_singleton.mp i]
        walk_at "mem"
    · obtain ⟨u1, u2, y4, y5, rfl, rfl⟩ := hS.ex
      rw [enmD_len, List.length_map, stt_end] at en
      clear hS wd e2
      walk_at "rd"
  | @l w rs k hw h =>
    have bw : Bi w 8 := ⟨hw⟩
    walk_at "go"
    rename_i e2 J wd
    refine forI (fun _ => .fn) (LeS w rs _ _ k) [_, _] e2 wd (subL1 (by walk_at "mem")) ⟨_, _, _, _, rfl, by rw [stt_0]; rfl⟩ (fun i d x σ L' Hh hd hS en => ?_) (fun σ L' Hh hS en => ?_)
    · obtain ⟨u1, u2, y4, y5, rfl, rfl⟩ := hS.ex
      obtain ⟨d', hg, rfl⟩ := enmD_get _ _ _ _ hd
      rw [List.getElem?_map] at hg
      obtain ⟨r, hr, rfl⟩ := Option.map_eq_some_iff.mp hg
      rw [Nat.zero_add] at en
      have hs := stt_s (w := w) hr
      have b := stt_bd hw h i
      have br : Bi r 32 := ⟨h.bi (List.mem_of_getElem? hr)⟩
      have hi : i < 6 := by
        have := (List.getElem?_eq_some_iff.mp hr).1
        have := h.len
        omega
      have t1 := in024 hi
      clear hS hd hg hr wd e2
      obtain ⟨p, hp⟩ : ∃ p, p = stt w rs i := ⟨_, rfl⟩
      rw [← hp] at b hs en
      clear hp
      have b1 : Bi p.1.1 210 := ⟨b.a⟩
      have b2 : Bi p.1.2 210 := ⟨b.b⟩
      have b3 : Bi p.2.1 210 := ⟨b.c⟩
      have b4 : Bi p.2.2 210 := ⟨b.d⟩
      by_cases par : i % 2 = 1
      · rw [decide_eq_false (show ¬ i % 2 = 0 by omega)] at t1
        walk_at "rd"
        rename_i e9
        refine loopI [(_, vD (stt w rs (i + 1)).2), (_, vD (stt w rs (i + 1)).1)] ⟨_, _, _, _, rfl, rfl⟩ ?_
        rw [hs, decide_eq_true par]
        simp only [stp, if_true]
        refine e9.sub' fun e i => ?_
        rcases List.mem_cons.mp i with rfl | i
        · walk_at "mem"
        rcases List.mem_cons.mp i with rfl | i
        · walk_at "mem"
        rcases List.mem_cons.mp i with rfl | i
        · walk_at "mem"
        rw [List.mem_singleton.mp i]
        walk_at "mem"
      · rw [decide_eq_true (show i % 2 = 0 by omega)] at t1
        walk_at "rd"
        rename_i e9
        refine loopI [(_, vD (stt w rs (i + 1)).2), (_, vD (stt w rs (i + 1)).1)] ⟨_, _, _, _, rfl, rfl⟩ ?_
        rw [hs, decide_eq_false par]
        simp only [stp, if_false, Bool.false_eq_true]
        refine e9.sub' fun e i => ?_
        rcases List.mem_cons.mp i with rfl | i
        · walk_at "mem"
        rcases List.mem_cons.mp i with rfl | i
        · walk_at "mem"
        rcases List.mem_cons.mp i with rfl | i
        · walk_at "mem"
        rw [List.mem_singleton.mp i]
        walk_at "mem"
    · obtain ⟨u1, u2, y4, y5, rfl, rfl⟩ := hS.ex
      rw [enmD_len, List.length_map, stt_end] at en
      clear hS wd e2
      walk_at "rd"
theorem sc__law_ahead : FnScope ["_law_one", "_law_other"] ["_law_one", "_law_other"] (defScope (topS 73)) := ⟨rfl, rfl, rfl, by decide +kernel, rfl, by decide +kernel, by decide +kernel⟩
include g_l_within in
theorem ok__law_ahead (G : G0 K mg csL tsL) (F : FP K "_law_ahead" "_law_ahead" (topS 73) [] f fd) : FnOk P w K mg base (L2.CX P w) 4 f fd ["_law_one", "_law_other"] (spR K csL tsL 100000 RAhL) := by
  have nd := sc__law_ahead.nd
  refine okRW F sc__law_ahead (fun ds o r => by cases r <;> rfl) (fun cdv A outer s H ds o Q E hr z r q => ⟨_, pss_cons (ps_if (pt_cmpR (op_eqD hr.units) (pv 0) (pv 1) (nomark _)) (pss_one (ps_ret (pe_bl))) (pss_nil)) (pss_cons (ps_if (PW.pt (pw_or (pt_cmpR op_ne (pe_ix ix_tup (pv 0) (pe_int) (fun _ _ => rfl)) (pe_ix ix_tup (pv 1) (pe_int) (fun _ _ => rfl)) (nomark _)) (pw_or (pt_cmpR op_in_seq (pe_ix ix_tup (pv 0) (pe_int) (fun _ _ => rfl)) (pe_tupE (pa_cons (pe_str) (pa_cons (pe_str) (pa_nil)))) rfl) (pw_or1 (pt_cmpR op_in_seq (pe_ix ix_tup (pv 1) (pe_int) (fun _ _ => rfl)) (pe_tupE (pa_cons (pe_str) (pa_cons (pe_str) (pa_nil)))) rfl))))) (pss_one (ps_ret (pe_bl))) (pss_nil)) (pss_one (ps_ret (pe_or (pe_cmpR op_eq (pe_ix ix_tup (pv 0) (pe_int) (fun _ _ => rfl)) (pe_str) (nomark _)) (pe_one (pe_gd g_l_within (hr.mono (by decide)) rfl (pxE rfl rfl rfl rfl) (pa_cons (pv 0) (pa_cons (pv 1) (pa_nil))))))))), ?_⟩)
  cases r with
  | @mk w v rs ss k l h h2 =>
    have hrn := h.rn
    have hrn2 := h2.rn
    have hw := h.w
    have lk := k.lay
    have ll := l.lay
    have ev := eqv_road w v rs ss k l
    by_cases e : w = v ∧ rs = ss ∧ k = l
    · rw [decide_eq_true e] at ev
      have ea : ahF w rs k v ss l = true := by unfold ahF; rw [if_pos e]
      rw [ea] at q
      walk_at "go"
    · rw [decide_eq_false e] at ev
      by_cases hv : w = v
      · have t1 : (!decide (V.int w = V.int v)) = false := by simp [hv]
        subst hv
        cases k <;> cases l
        all_goals
          walk_at "go"
          exact finB q (by assumption) (by unfold ahF; rw [if_neg e]; simp; try rfl)
      · have t1 : (!decide (V.int w = V.int v)) = true := by simp [hv]
        walk_at "go"
        exact finB q (by assumption) (by unfold ahF; rw [if_neg e]; simp [hv])
theorem sc__law_side : FnScope ["_law_road_here", "_law_middle_here", "_law_low", "_law_high"] ["_law_road_here", "_law_middle_here"] (defScope (topS 74)) := ⟨rfl, rfl, rfl, by decide +kernel, rfl, by decide +kernel, by decide +kernel⟩
include g_l_ends g_l_less g_l_middle in
theorem ok__law_side (G : G0 K mg csL tsL) (F : FP K "_law_side" "_law_side" (topS 74) [] f fd) : FnOk P w K mg base (L2.CX P w) 3 f fd ["_law_road_here", "_law_middle_here"] (spR K csL tsL 100000 RSide) := by
  have nd := sc__law_side.nd
  refine okRW F sc__law_side (fun ds o r => by cases r <;> rfl) (fun cdv A outer s H ds o Q E hr z r q => ⟨_, pss_cons (ps_asg (pe_gd g_l_ends (hr.mono (by decide)) rfl (pxE rfl rfl rfl rfl) (pa_cons (pv 0) (pa_nil))) (pg_tup rfl (pgs_cons (toG (pg_name (i := 2) nd rfl (Or.inl rfl))) (pgs_cons (toG (pg_name (i := 3) nd rfl (Or.inl rfl))) (pgs_nil))))) (pss_cons (ps_if (pt_cmpR op_eq (pe_ix ix_tup (pv 0) (pe_int) (fun _ _ => rfl)) (pe_str) (nomark _)) (pss_cons (toPar (ps_par (i := 2) (j := 3) rfl nd rfl rfl (by decide) rfl rfl (pa_cons (pe_gd g_l_middle (hr.mono (by decide)) rfl (pxE rfl rfl rfl rfl) (pa_cons (pv 0) (pa_nil))) (pa_cons (pe_gd g_l_middle (hr.mono (by decide)) rfl (pxE rfl rfl rfl rfl) (pa_cons (pv 0) (pa_nil))) pa_nil)) rfl)) (pss_one (ps_ret (pe_op op_sub (pe_callTy call_int1b rfl G.nm.int (by decide +kernel) (pa_cons (pe_gd g_l_less (hr.mono (by decide)) rfl (pxE rfl rfl rfl rfl) (pa_cons (pv 1) (pa_cons (pv 2) (pa_nil)))) (pa_nil))) (pe_callTy call_int1b rfl G.nm.int (by decide +kernel) (pa_cons (pe_gd g_l_less (hr.mono (by decide)) rfl (pxE rfl rfl rfl rfl) (pa_cons (pv 3) (pa_cons (pv 1) (pa_nil)))) (pa_nil))))))) (pss_nil)) (pss_one (ps_ret (pe_op op_sub (pe_callTy call_int1b rfl G.nm.int (by decide +kernel) (pa_cons (pe_not (pe_gd g_l_less (hr.mono (by decide)) rfl (pxE rfl rfl rfl rfl) (pa_cons (pv 2) (pa_cons (pv 1) (pa_nil))))) (pa_nil))) (pe_callTy call_int1b rfl G.nm.int (by decide +kernel) (pa_cons (pe_not (pe_gd g_l_less (hr.mono (by decide)) rfl (pxE rfl rfl rfl rfl) (pa_cons (pv 1) (pa_cons (pv 3) (pa_nil))))) (pa_nil))))))), ?_⟩)
  cases r with
  | @e w rs m hw h hm =>
    have eb := eF_eb hw h
    have l1 := eb.m
    walk_at "go"
  | @o w rs m hw h hm =>
    have eb := eF_eb hw h
    have l1 := eb.l
    have l2 := eb.h
    walk_at "go"
theorem sc__law_last_right : FnScope ["_law_one", "_law_other", "_law_told_here", "_law_middle_here"] ["_law_one", "_law_other", "_law_told_here"] (defScope (topS 75)) := ⟨rfl, rfl, rfl, by decide +kernel, rfl, by decide +kernel, by decide +kernel⟩
include g_l_ahead g_l_middle g_l_side in
theorem ok__law_last_right (G : G0 K mg csL tsL) (F : FP K "_law_last_right" "_law_last_right" (topS 75) [] f fd) : FnOk P w K mg base (L2.CX P w) 5 f fd ["_law_one", "_law_other", "_law_told_here"] (spR K csL tsL 100000 RLast) := by
  have nd := sc__law_last_right.nd
  refine okRW F sc__law_last_right (fun ds o r => by cases r <;> rfl) (fun cdv A outer s H ds o Q E hr z r q => ⟨_, pss_cons (ps_if (pt_cmpR (op_eqD hr.units) (pv 0) (pv 1) (nomark _)) (pss_one (ps_ret (pe_cmpR (op_eqD hr.units) (pv 2) (pv 0) (nomark _)))) (pss_nil)) (pss_cons (ps_if (PW.pt (pw_or (pt_cmpR op_ne (pe_ix ix_tup (pv 0) (pe_int) (fun _ _ => rfl)) (pe_ix ix_tup (pv 1) (pe_int) (fun _ _ => rfl)) (nomark _)) (pw_or1 (pt_cmpR op_in_seq (pe_str) (pe_tupE (pa_cons (pe_ix ix_tup (pv 0) (pe_int) (fun _ _ => rfl)) (pa_cons (pe_ix ix_tup (pv 1) (pe_int) (fun _ _ => rfl)) (pa_nil)))) rfl)))) (pss_one (ps_ret (pe_cmpR op_isN (pv 2) (pe_non) (nomark _)))) (pss_nil)) (pss_cons (ps_if (pt_cmpR op_in_seq (pe_str) (pe_tupE (pa_cons (pe_ix ix_tup (pv 0) (pe_int) (fun _ _ => rfl)) (pa_cons (pe_ix ix_tup (pv 1) (pe_int) (fun _ _ => rfl)) (pa_nil)))) rfl) (pss_one (ps_ret (pe_cmpR (op_eqD hr.units) (pv 2) (pe_tupE (pa_cons (pe_ix ix_tup (pv 0) (pe_int) (fun _ _ => rfl)) (pa_cons (pe_tupE (pa_nil)) (pa_cons (pe_str) (pa_nil))))) (nomark _)))) (pss_nil)) (pss_cons (ps_if (PW.pt (pw_or (pt_cmpR op_isN (pv 2) (pe_non) (nomark _)) (pw_or (pt_cmpR op_ne (pe_ix ix_tup (pv 2) (pe_int) (fun _ _ => rfl)) (pe_ix ix_tup (pv 0) (pe_int) (fun _ _ => rfl)) (nomark _)) (pw_or (pt_cmpR op_ne (pe_ix ix_tup (pv 2) (pe_int) (fun _ _ => rfl)) (pe_str) (nomark _)) (pw_or (pt_not (pt_val (pe_gd g_l_ahead (hr.mono (by decide)) rfl (pxE rfl rfl rfl rfl) (pa_cons (pv 2) (pa_cons (pv 0) (pa_nil)))))) (pw_or1 (pt_not (pt_val (pe_gd g_l_ahead (hr.mono (by decide)) rfl (pxE rfl rfl rfl rfl) (pa_cons (pv 2) (pa_cons (pv 1) (pa_nil)))))))))))) (pss_one (ps_ret (pe_bl))) (pss_nil)) (pss_cons (toSet (ps_set (i := 3) nd rfl (Or.inl rfl) (pe_gd g_l_middle (hr.mono (by decide)) rfl (pxE rfl rfl rfl rfl) (pa_cons (pv 2) (pa_nil))))) (pss_one (ps_ret (pe_cmpR op_lt (pe_op op_mulB (pe_gd g_l_side (hr.mono (by decide)) rfl (pxE rfl rfl rfl rfl) (pa_cons (pv 0) (pa_cons (pv 3) (pa_nil)))) (pe_gd g_l_side (hr.mono (by decide)) rfl (pxE rfl rfl rfl rfl) (pa_cons (pv 1) (pa_cons (pv 3) (pa_nil))))) (pe_int) (nomark _)))))))), ?_⟩)
  cases r with
  | @mk w v rs ss k l h h2 =>
    have hrn := h.rn
    have hrn2 := h2.rn
    have hw := h.w
    have lk := k.lay
    have ll := l.lay
    have ev := eqv_road w v rs ss k l
    by_cases e : w = v ∧ rs = ss ∧ k = l
    · rw [decide_eq_true e] at ev
      have ec : cmF w rs k v ss l = some (rs, k) := by unfold cmF; rw [if_pos e]
      have ev2 := eqv_road w w rs rs k k
      rw [decide_eq_true ⟨rfl, rfl, rfl⟩] at ev2
      rw [ec] at z ⊢
      simp only [toD] at z ⊢
      walk_at "go"
      exact finB q (by assumption) ev2
    · rw [decide_eq_false e] at ev
      by_cases hv : w = v
      · have t1 : (!decide (V.int w = V.int v)) = false := by simp [hv]
        subst hv
        have t1' : (!decide (V.int w = V.int w)) = false := by simp
        by_cases a : k = .edge ∨ l = .edge
        · rw [cm_edge e (.inr a)] at z ⊢
          simp only [toD] at z ⊢
          walk_at "go"
          cases k <;> cases l <;> first | (exfalso; revert a; decide) | walk_at "rd"
        by_cases b : k = .first ∨ l = .first
        · have ev3 := eqv_road w w [] [] .first .first
          rw [decide_eq_true ⟨rfl, rfl, rfl⟩] at ev3
          rw [cm_first e a b] at z ⊢
          simp only [toD] at z ⊢
          walk_at "go"
          cases k <;> cases l <;> first | (exfalso; revert b; decide) | (exfalso; revert a; decide) | skip
          all_goals
            walk_at "rd"
            exact finB q (by assumption) ev3
        rw [cm_opn e a b] at z ⊢
        simp only [toD] at z ⊢
        have hb := bl_rn hrn hrn2
        have ok : RdOk w (Rd.bl rs ss) .opn := ⟨hw, hb, fun z => by cases z⟩
        have eb := (eF_eb hw hb).m
        have a1 := RAhL.mk ok h
        have a2 := RAhL.mk ok h2
        rw [ah_opn (bl_bl hrn hrn2) (by cases k <;> first | rfl | exact absurd (.inl rfl) a | exact absurd (.inl rfl) b)] at a1
        rw [ah_opn (bl_bl2 hrn hrn2) (by cases l <;> first | rfl | exact absurd (.inr rfl) a | exact absurd (.inr rfl) b)] at a2
        have sd := eF_side (w := w) hrn hrn2
        have s1 := sd_bi true (eF w rs) (Rd.mid (eF w (Rd.bl rs ss)))
        have s2 := sd_bi false (eF w rs) (Rd.mid (eF w (Rd.bl rs ss)))
        have s3 := sd_bi true (eF w ss) (Rd.mid (eF w (Rd.bl rs ss)))
        have s4 := sd_bi false (eF w ss) (Rd.mid (eF w (Rd.bl rs ss)))
        walk_at "go"
        cases k <;> cases l <;> first | (exfalso; revert b; decide) | (exfalso; revert a; decide) | skip
        all_goals
          walk_at "rd"
          exact finB q (by assumption) (decide_eq_true (sd _ _))
      · have t1 : (!decide (V.int w = V.int v)) = true := by simp [hv]
        rw [cm_edge e (.inl hv)] at z ⊢
        simp only [toD] at z ⊢
        walk_at "go"
structure RuS (a D : Addr) (i : Nat) (σ : L2.St) (L : List (V × Dt)) : Prop where
  ex : ∃ rs x2 x3, σ = [some (.ref a), some (.ref D), x2, x3] ∧ L = [(.ref D, .lst (iDs rs))] ∧ Pc i rs
theorem sc__law_runs : FnScope ["_law_pail_here", "_law_runs_here", "_law_turn", "_law_many"] ["_law_pail_here"] (defScope (topS 68)) := ⟨rfl, rfl, rfl, by decide +kernel, rfl, by decide +kernel, by decide +kernel⟩
include g_l_dip in
theorem ok__law_runs (G : G0 K mg csL tsL) (F : FP K "_law_runs" "_law_runs" (topS 68) [] f fd) : FnOk P w K mg base (L2.CX P w) 2 f fd ["_law_pail_here"] (spLP K csL tsL T 60 950000 14 (fun ds => ds = []) (fun _ d => ∃ rs : List Int, d = .lst (iDs rs) ∧ Rk 4 rs)) := by
  have nd := sc__law_runs.nd
  refine okP0W F sc__law_runs (fun ds h => by subst h; rfl) (fun cdv A outer s H a c' m ds Q E hr z nds pr hm q hE => ⟨_, pss_cons (toSet (ps_set (i := 1) nd rfl (Or.inl rfl) (pe_lstD (pa_nil)))) (pss_cons (ps_forD (passes_of rfl) rfl (pi_range1W rfl G.nm.range (pa_cons (pe_gd g_l_dip (hr.mono (by decide)) rfl (pxE rfl rfl rfl rfl) (pa_cons (pv 0) (pa_cons (pe_int) (pa_nil)))) (pa_nil))) (toG (pg_name (i := 2) nd rfl (Or.inl rfl))) (pss_cons (toSet (ps_set (i := 3) nd rfl (Or.inl rfl) (pe_gd g_l_dip (hr.mono (by decide)) rfl (pxE rfl rfl rfl rfl) (pa_cons (pv 0) (pa_cons (pe_int) (pa_nil)))))) (pss_cons (ps_if (pt_cmpR op_eq (pe_gd g_l_dip (hr.mono (by decide)) rfl (pxE rfl rfl rfl rfl) (pa_cons (pv 0) (pa_cons (pe_int) (pa_nil)))) (pe_int) (nomark _)) (pss_one (toSet (ps_set (i := 3) nd rfl (Or.inl rfl) (pe_op op_add (pe_op op_mulB (pe_gd g_l_dip (hr.mono (by decide)) rfl (pxE rfl rfl rfl rfl) (pa_cons (pv 0) (pa_cons (pe_int) (pa_nil)))) (pe_int)) (pv 3))))) (pss_nil)) (pss_one (ps_expr (pe_bm PySem.F.plainAttrs_list PySem.F.slot_list_append PySem.F.type_list_append mt_append (pv 1) (pa_cons (pe_op op_add (pv 3) (pe_callTy call_int1b rfl G.nm.int (by decide +kernel) (pa_cons (pe_cmpR op_gt (pv 2) (pe_int) (nomark _)) (pa_nil)))) (pa_nil)))))))) (pss_one (ps_ret (pe_ifExp (pt_cmpR (op_eqD hr.units) (pv 1) (pe_lstD (pa_cons (pe_int) (pa_nil))) (nomark _)) (pe_lstD (pa_cons (pe_op op_add (pe_int) (pe_gd g_l_dip (hr.mono (by decide)) rfl (pxE rfl rfl rfl rfl) (pa_cons (pv 0) (pa_cons (pe_int) (pa_nil))))) (pa_nil))) (pv 1))))), ?_⟩)
  subst pr
  walk_at "zs"
  walk_at "args"
  walk_at "rdN"
  refine lstDN hE .nil rfl fun D H2 nd e0 => ?_
  clear hE
  walk_at "rd"
  rename_i d Hd bd d0 d1 e J wd
  refine forI (fun i => .law T (some (a, c', m + 1 + 3 * i))) (RuS a D) [(.ref D, .lst [])] e wd (fun _ i => by cases i) ⟨_, _, _, rfl, rfl, Pc.nil⟩ (fun i d' x σ L' Hh hd hS en => ?_) (fun σ L' Hh hS en => ?_)
  · obtain ⟨rs, x2, x3, rfl, rfl, pc⟩ := hS.ex
    clear hS e e0 wd
    have hi : i < 4 := by
      have := (List.getElem?_eq_some_iff.mp hd).1
      rw [rangeD_len] at this
      omega
    obtain rfl := rangeD_get _ _ _ _ hd
    obtain rfl := (en.all _ List.mem_cons_self).intE
    rw [Int.zero_add] at en ⊢
    have bi : Bi (i : Int) 4 := ⟨by omega⟩
    have t0 : decide ((0 : Int) < (i : Int)) = decide (0 < i) := by simp
    have jj := if01 (decide ((0 : Int) < (i : Int)))
    have j1 : 0 < i → (if decide ((0 : Int) < (i : Int)) = true then (1 : Int) else 0) = 1 := fun h => by rw [t0, decide_eq_true h]; rfl
    walk_at "rd"
    rename_i q1 H3 b1 l1 u1 e1 q2 H4 b2 l2 u2 e2
    refine iteP (fun h => ?_) (fun h => ?_)
    · walk_at "rd"
      rename_i q3 H5 b3 l3 u3 e3
      refine appG e3 (nd.le (by walk_at "mdle")) (e3.get (by walk_at "mem")) (.int _) (noLs_snoc _ _) (by simp; have := pc.len; omega) [] (fun _ i => by cases i) fun H6 e4 => ?_
      rw [iDs_app] at e4
      walk_at "rd"
      exact loopI [(.ref D, .lst (iDs _))] ⟨_, _, _, rfl, rfl, pc.app (by omega) (fun h => by rw [j1 h]; omega) (by omega)⟩ (e4.up (by omega))
    · walk_at "rd"
      refine appG e2 (nd.le (by walk_at "mdle")) (e2.get (by walk_at "mem")) (.int _) (noLs_snoc _ _) (by simp; have := pc.len; omega) [] (fun _ i => by cases i) fun H6 e4 => ?_
      rw [iDs_app] at e4
      walk_at "rd"
      exact loopI [(.ref D, .lst (iDs _))] ⟨_, _, _, rfl, rfl, pc.app (by omega) (fun h => by rw [j1 h]; omega) (by omega)⟩ (e4.up (by omega))
  · obtain ⟨rs, x2, x3, rfl, rfl, pc⟩ := hS.ex
    clear hS e e0
    have en : Env K (.law T (some (a, c', m + 1 + 3 * (rangeD 0 d.toNat).length))) H Hh [(.ref D, .lst (iDs rs))] := en
    have hl : (rangeD 0 d.toNat).length ≤ 4 := by rw [rangeD_len]; omega
    clear wd
    generalize (rangeD 0 d.toNat).length = n at en hl pc
    have ev := eqv_lst rs [0]
    by_cases z0 : rs = [0]
    · rw [decide_eq_true z0] at ev
      walk_at "rd"
      rename_i p1 H1 e1 q2 H3 b2 l2 u2 e2 p2 H5 e3
      exact finP q e3 (by omega) ⟨_, rfl, one_rk l2 u2⟩ (e3.get (by walk_at "mem"))
    · rw [decide_eq_false z0] at ev
      walk_at "rd"
      rename_i p1 H1 e1
      exact finP q e1 (by omega) ⟨rs, rfl, pc.rk hl z0⟩ (e1.get (by walk_at "mem"))
theorem sc__law_road : FnScope ["_law_pail_here", "_law_whole", "_law_kind"] ["_law_pail_here", "_law_whole"] (defScope (topS 76)) := ⟨rfl, rfl, rfl, by decide +kernel, rfl, by decide +kernel, by decide +kernel⟩
include g_l_dip g_l_runs in
theorem ok__law_road (G : G0 K mg csL tsL) (F : FP K "_law_road" "_law_road" (topS 76) [] f fd) : FnOk P w K mg base (L2.CX P w) 3 f fd ["_law_pail_here", "_law_whole"] (spLP K csL tsL T 60 900000 15 (fun ds => ∃ w : Int, ds = [.int w] ∧ w.natAbs < 2 ^ 8) (fun ds d => ∃ w rs, ∃ k : Kd, ds = [.int w] ∧ d = dRd w rs k.str ∧ RdOk w rs k ∧ rs.length ≤ 4)) := by
  have nd := sc__law_road.nd
  refine okP0W F sc__law_road (fun ds h => by obtain ⟨_, rfl, _⟩ := h; rfl) (fun cdv A outer s H a c' m ds Q E hr z nds pr hm q hE => ⟨_, pss_cons (toSet (ps_set (i := 2) nd rfl (Or.inl rfl) (pe_ix ix_tup (pe_tupE (pa_cons (pe_str) (pa_cons (pe_str) (pa_cons (pe_str) (pa_cons (pe_str) (pa_cons (pe_str) (pa_cons (pe_str) (pa_nil)))))))) (pe_gd g_l_dip (hr.mono (by decide)) rfl (pxE rfl rfl rfl rfl) (pa_cons (pv 0) (pa_cons (pe_int) (pa_nil)))) (fun _ _ => rfl)))) (pss_one (ps_ret (pe_tupE (pa_cons (pv 1) (pa_cons (pe_ifExp (pt_cmpR op_in_seq (pv 2) (pe_tupE (pa_cons (pe_str) (pa_cons (pe_str) (pa_nil)))) rfl) (pe_callTy call_tupS rfl G.nm.tuple (by decide +kernel) (pa_cons (pe_gd g_l_runs (hr.mono (by decide)) rfl (pxE rfl rfl rfl rfl) (pa_cons (pv 0) (pa_nil))) (pa_nil))) (pe_tupE (pa_nil))) (pa_cons (pv 2) (pa_nil))))))), ?_⟩)
  obtain ⟨w, rfl, hw⟩ := pr
  walk_at "goL"
  rename_i b0 p0 H0 e0 d Hd bd d0 d1 e
  have fin : ∀ {H' : Hp} {L : List (V × Dt)} {M : Nat} {v : V} {rs : List Int} {k : Kd}, Env K (.law T (some (a, c', M))) H H' L → M ≤ m + 15 → IsV K H' v (dRd w rs k.str) → Rn rs → rs.length ≤ 4 → (k.bare = true → rs = []) → Q v H' := fun h l i r n b => finP q h l ⟨_, _, _, rfl, rfl, ⟨hw, r, b⟩, n⟩ i
  rcases (show d = 0 ∨ d = 1 ∨ d = 2 ∨ d = 3 ∨ d = 4 ∨ d = 5 by omega) with rfl | rfl | rfl | rfl | rfl | rfl
  · walk_at "rd"
    intro v H' d r e1
    obtain ⟨rs, rfl, rk⟩ := r
    walk_at "rd"
    rename_i e9
    exact fin (k := .opn) e9 (by omega) (e9.get (by walk_at "mem")) rk.rn rk.le (fun z => by cases z)
  · walk_at "rd"
    intro v H' d r e1
    obtain ⟨rs, rfl, rk⟩ := r
    walk_at "rd"
    rename_i e9
    exact fin (k := .ended) e9 (by omega) (e9.get (by walk_at "mem")) rk.rn rk.le (fun z => by cases z)
  · walk_at "rd"
    intro v H' d r e1
    obtain ⟨rs, rfl, rk⟩ := r
    walk_at "rd"
    rename_i e9
    exact fin (k := .opn) e9 (by omega) (e9.get (by walk_at "mem")) rk.rn rk.le (fun z => by cases z)
  · walk_at "rd"
    intro v H' d r e1
    obtain ⟨rs, rfl, rk⟩ := r
    walk_at "rd"
    rename_i e9
    exact fin (k := .ended) e9 (by omega) (e9.get (by walk_at "mem")) rk.rn rk.le (fun z => by cases z)
  · walk_at "rd"
    rename_i e9
    exact fin (rs := []) (k := .first) e9 (by omega) (e9.get (by walk_at "mem")) (Rk.nil 4).rn (Nat.zero_le _) (fun _ => rfl)
  · walk_at "rd"
    rename_i e9
    exact fin (rs := []) (k := .edge) e9 (by omega) (e9.get (by walk_at "mem")) (Rk.nil 4).rn (Nat.zero_le _) (fun _ => rfl)
theorem sc__law_kin : FnScope ["_law_pail_here", "_law_road_here", "_law_whole", "_law_runs_here", "_law_kind", "_law_way", "_law_more", "_law_short"] ["_law_pail_here", "_law_road_here"] (defScope (topS 77)) := ⟨rfl, rfl, rfl, by decide +kernel, rfl, by decide +kernel, by decide +kernel⟩
include g_l_dip in
theorem ok__law_kin (G : G0 K mg csL tsL) (F : FP K "_law_kin" "_law_kin" (topS 77) [] f fd) : FnOk P w K mg base (L2.CX P w) 2 f fd ["_law_pail_here", "_law_road_here"] (spLP K csL tsL T 60 900000 3 (fun ds => ∃ w rs, ∃ k : Kd, ds = [dRd w rs k.str] ∧ RdOk w rs k ∧ rs.length ≤ 5) (fun ds d => ∃ w rs ss, ∃ k l : Kd, ds = [dRd w rs k.str] ∧ d = dRd w ss l.str ∧ RdOk w ss l ∧ ss.length ≤ 5)) := by
  have nd := sc__law_kin.nd
  refine okP0W F sc__law_kin (fun ds h => by obtain ⟨_, _, _, rfl, _⟩ := h; rfl) (fun cdv A outer s H a c' m ds Q E hr z nds pr hm q hE => ⟨_, pss_cons (ps_asg (pv 1) (pg_tup rfl (pgs_cons (toG (pg_name (i := 2) nd rfl (Or.inl rfl))) (pgs_cons (toG (pg_name (i := 3) nd rfl (Or.inl rfl))) (pgs_cons (toG (pg_name (i := 4) nd rfl (Or.inl rfl))) (pgs_nil)))))) (pss_cons (toPar (ps_par (i := 5) (j := 6) rfl nd rfl rfl (by decide) rfl rfl (pa_cons (pe_gd g_l_dip (hr.mono (by decide)) rfl (pxE rfl rfl rfl rfl) (pa_cons (pv 0) (pa_cons (pe_int) (pa_nil)))) (pa_cons (pe_lstD (pa_cons (pe_op op_add (pe_int) (pe_gd g_l_dip (hr.mono (by decide)) rfl (pxE rfl rfl rfl rfl) (pa_cons (pv 0) (pa_cons (pe_int) (pa_nil))))) (pa_nil))) pa_nil)) rfl)) (pss_cons (ps_if (PW.pt (pw_or (pt_cmpR op_in_seq (pv 4) (pe_tupE (pa_cons (pe_str) (pa_cons (pe_str) (pa_nil)))) rfl) (pw_or1 (pt_cmpR op_eq (pv 5) (pe_int) (nomark _))))) (pss_one (ps_ret (pe_ifExp (pt_cmpR op_lt (pv 5) (pe_int) (nomark _)) (pv 1) (pe_tupE (pa_cons (pv 2) (pa_cons (pe_tupE (pa_nil)) (pa_cons (pe_str) (pa_nil)))))))) (pss_nil)) (pss_cons (toSet (ps_set (i := 4) nd rfl (Or.inl rfl) (pe_ix ix_tup (pe_tupE (pa_cons (pe_str) (pa_cons (pe_str) (pa_nil)))) (pe_gd g_l_dip (hr.mono (by decide)) rfl (pxE rfl rfl rfl rfl) (pa_cons (pv 0) (pa_cons (pe_int) (pa_nil)))) (fun _ _ => rfl)))) (pss_cons (ps_if (PW.pt (pw_or (pt_cmpR op_eq (pv 5) (pe_int) (nomark _)) (pw_or1 (pt_cmpR (op_eqD hr.units) (pv 3) (pe_tupE (pa_nil)) (nomark _))))) (pss_one (ps_ret (pe_tupE (pa_cons (pv 2) (pa_cons (pv 3) (pa_cons (pv 4) (pa_nil))))))) (pss_nil)) (pss_cons (ps_if (PW.pt (pw_and (pt_cmpR op_eq (pv 5) (pe_int) (nomark _)) (pw_and1 (pt_cmpR op_lt (pe_callB call_len rfl G.nm.len (by decide +kernel) (pa_cons (pv 3) (pa_nil))) (pe_int) (nomark _))))) (pss_one (ps_ret (pe_tupE (pa_cons (pv 2) (pa_cons (pe_op op_catA (pv 3) (pe_callTy call_tupS rfl G.nm.tuple (by decide +kernel) (pa_cons (pv 6) (pa_nil)))) (pa_cons (pv 4) (pa_nil))))))) (pss_nil)) (pss_cons (toSet (ps_set (i := 7) nd rfl (Or.inl rfl) (pe_ifExp (pt_cmpR op_gt (pe_ix ix_tup (pv 3) (pe_un un_neg (pe_int)) (fun _ _ => rfl)) (pe_int) (nomark _)) (pe_op op_catA (pe_slice sl_tup (pv 3) (po_none) (po_some (pe_un un_neg (pe_int)))) (pe_tupE (pa_cons (pe_op op_sub (pe_ix ix_tup (pv 3) (pe_un un_neg (pe_int)) (fun _ _ => rfl)) (pe_int)) (pa_nil)))) (pe_slice sl_tup (pv 3) (po_none) (po_some (pe_un un_neg (pe_int))))))) (pss_one (ps_ret (pe_tupE (pa_cons (pv 2) (pa_cons (pe_ifExp (pt_cmpR (op_eqD hr.units) (pv 7) (pe_tupE (pa_cons (pe_int) (pa_nil))) (nomark _)) (pe_tupE (pa_nil)) (pv 7)) (pa_cons (pv 4) (pa_nil))))))))))))), ?_⟩)
  obtain ⟨w, rs, k, rfl, ok, le⟩ := pr
  have rk : Rk 5 rs := ⟨ok.rn, le⟩
  have fin : ∀ {H' : Hp} {L : List (V × Dt)} {M : Nat} {v : V} {ss : List Int} {l : Kd}, Env K (.law T (some (a, c', M))) H H' L → M ≤ m + 3 → IsV K H' v (dRd w ss l.str) → Rk 5 ss → (l.bare = true → ss = []) → Q v H' := fun h l i r b => finP q h l ⟨_, _, _, _, _, rfl, rfl, ⟨ok.w, r.rn, b⟩, r.le⟩ i
  have ev := eqv_tup rs []
  by_cases hk : k.bare = true
  · have e0 := ok.b hk
    cases k with
    | edge =>
      walk_at "goL"
      refine iteP (fun h => ?_) (fun h => ?_)
      · walk_at "rd"
        rename_i e9
        exact fin (l := .edge) e9 (by omega) (e9.get (by walk_at "mem")) rk ok.b
      · walk_at "rd"
        rename_i e9
        exact fin (ss := []) (l := .first) e9 (by omega) (e9.get (by walk_at "mem")) (Rk.nil 5) (fun _ => rfl)
    | first =>
      walk_at "goL"
      refine iteP (fun h => ?_) (fun h => ?_)
      · walk_at "rd"
        rename_i e9
        exact fin (l := .first) e9 (by omega) (e9.get (by walk_at "mem")) rk ok.b
      · walk_at "rd"
        rename_i e9
        exact fin (ss := []) (l := .first) e9 (by omega) (e9.get (by walk_at "mem")) (Rk.nil 5) (fun _ => rfl)
    | opn => cases hk
    | ended => cases hk
  · have hk2 : inV (V.str k.str) [V.str "edge", V.str "first"] = false := by cases k <;> first | exact absurd rfl hk | decide +kernel
    have hk3 : ∀ {ss : List Int}, k.bare = true → ss = [] := fun z => absurd z hk
    walk_at "goL"
    rename_i d1 H1 b1 l1 u1 x1 d2 H2 b2 l2 u2 x2 p3 H3 x3 p4 H4 x4
    refine iteP (fun h4 => ?_) (fun h4 => ?_)
    · walk_at "rd"
      refine iteP (fun h => ?_) (fun h => ?_)
      · walk_at "rd"
        exact fin x4 (by omega) (x4.get (by walk_at "mem")) rk hk3
      · walk_at "rd"
        rename_i e9
        exact fin (ss := []) (l := .first) e9 (by omega) (e9.get (by walk_at "mem")) (Rk.nil 5) (fun _ => rfl)
    · walk_at "rd"
      rename_i d3 H5 b3 l3 u3 x5
      have kk : ∃ l : Kd, l.bare = false ∧ [Dt.str "open", Dt.str "ended"][d3.toNat]? = some (.str l.str) := by
        rcases (show d3 = 0 ∨ d3 = 1 by omega) with rfl | rfl
        · exact ⟨.opn, rfl, rfl⟩
        · exact ⟨.ended, rfl, rfl⟩
      obtain ⟨l, hl, gl⟩ := kk
      have hk4 : ∀ {ss : List Int}, l.bare = true → ss = [] := fun z => by rw [hl] at z; cases z
      refine ixTD (x5.get (by walk_at "mem")) (Int.toNat_of_nonneg l3).symm gl ?_
      walk_at "rd"
      refine iteP (fun h5 => ?_) (fun h5 => ?_)
      · walk_at "rd"
        rename_i e9
        exact fin e9 (by omega) (e9.get (by walk_at "mem")) rk hk4
      by_cases hr : rs = []
      · rw [decide_eq_true hr] at ev
        walk_at "rd"
        rename_i e9
        exact fin e9 (by omega) (e9.get (by walk_at "mem")) rk hk4
      rw [decide_eq_false hr] at ev
      obtain ⟨l', r', rfl⟩ := snoc_last hr
      walk_at "rd"
      have br : Bi r' 32 := ⟨ok.rn.bi (by simp)⟩
      clear b1 b2 b3 x1 x2 x3 x4 x5
      refine iteP (fun h6 => ?_) (fun h6 => ?_)
      · walk_at "rd"
        refine iteP (fun h7 => ?_) (fun h7 => ?_)
        · walk_at "rd"
          rename_i e8
          refine' catAD e8 ?i1 ?j1 ?n1 ?_
          case i1 => walk_at "isv"
          case j1 => walk_at "isv"
          case n1 =>
            have := ok.rn.len
            simp at this ⊢
            omega
          intro p7 H7 e7
          rw [iDs_app] at e7
          walk_at "rd"
          rename_i e9
          exact fin e9 (by omega) (e9.get (by walk_at "mem")) (rk.snoc (by have := of_decide_eq_true h7; simp at this ⊢; omega) l2 u2) hk4
        · walk_at "rd"
          rename_i e8
          refine ixTEnd (e8.get (by walk_at "mem")) ?_
          walk_at "rd"
          refine iteP (fun h8 => ?_) (fun h8 => ?_)
          · have g1 : 1 < r' := of_decide_eq_true h8
            have ls := rk.less g1
            have ev0 := eqv_tup (l' ++ [r' - 1]) [0]
            rw [decide_eq_false ls.2] at ev0
            walk_at "rd"
            refine slTEnd e8 (e8.get (by walk_at "mem")) fun p6 H6 e6 => ?_
            walk_at "rd"
            refine ixTEnd (e6.get (by walk_at "mem")) ?_
            walk_at "rd"
            rename_i e5
            refine' catAD e5 ?i2 ?j2 ?n2 ?_
            case i2 => walk_at "isv"
            case j2 => walk_at "isv"
            case n2 =>
              have := ok.rn.len
              simp at this ⊢
              omega
            intro p7 H7 e7
            rw [iDs_app] at e7
            walk_at "rd"
            rename_i e9
            exact fin e9 (by omega) (e9.get (by walk_at "mem")) ls.1 hk4
          · have ev0 := eqv_tup l' [0]
            walk_at "rd"
            refine slTEnd e8 (e8.get (by walk_at "mem")) fun p6 H6 e6 => ?_
            by_cases z0 : l' = [0]
            · rw [decide_eq_true z0] at ev0
              walk_at "rd"
              rename_i e9
              exact fin (ss := []) e9 (by omega) (e9.get (by walk_at "mem")) (Rk.nil 5) hk4
            · rw [decide_eq_false z0] at ev0
              walk_at "rd"
              rename_i e9
              exact fin e9 (by omega) (e9.get (by walk_at "mem")) (rk.drop z0) hk4
      · walk_at "rd"
        rename_i e8
        refine ixTEnd (e8.get (by walk_at "mem")) ?_
        walk_at "rd"
        refine iteP (fun h8 => ?_) (fun h8 => ?_)
        · have g1 : 1 < r' := of_decide_eq_true h8
          have ls := rk.less g1
          have ev0 := eqv_tup (l' ++ [r' - 1]) [0]
          rw [decide_eq_false ls.2] at ev0
          walk_at "rd"
          refine slTEnd e8 (e8.get (by walk_at "mem")) fun p6 H6 e6 => ?_
          walk_at "rd"
          refine ixTEnd (e6.get (by walk_at "mem")) ?_
          walk_at "rd"
          rename_i e5
          refine' catAD e5 ?i3 ?j3 ?n3 ?_
          case i3 => walk_at "isv"
          case j3 => walk_at "isv"
          case n3 =>
            have := ok.rn.len
            simp at this ⊢
            omega
          intro p7 H7 e7
          rw [iDs_app] at e7
          walk_at "rd"
          rename_i e9
          exact fin e9 (by omega) (e9.get (by walk_at "mem")) ls.1 hk4
        · have ev0 := eqv_tup l' [0]
          walk_at "rd"
          refine slTEnd e8 (e8.get (by walk_at "mem")) fun p6 H6 e6 => ?_
          by_cases z0 : l' = [0]
          · rw [decide_eq_true z0] at ev0
            walk_at "rd"
            rename_i e9
            exact fin (ss := []) e9 (by omega) (e9.get (by walk_at "mem")) (Rk.nil 5) hk4
          · rw [decide_eq_false z0] at ev0
            walk_at "rd"
            rename_i e9
            exact fin e9 (by omega) (e9.get (by walk_at "mem")) (rk.drop z0) hk4
theorem sc__law_pair_right : FnScope ["_law_one", "_law_other", "_law_here", "_law_there", "_law_told_here", "_law_again"] ["_law_one", "_law_other"] (defScope (topS 79)) := ⟨rfl, rfl, rfl, by decide +kernel, rfl, by decide +kernel, by decide +kernel⟩
include g_Road_eq g_common g_common_k g_is_ahead g_is_ahead_k g_l_ahead g_l_last_right g_l_told g_mRoad nf_Road in
theorem ok__law_pair_right (G : G0 K mg csL tsL) (F : FP K "_law_pair_right" "_law_pair_right" (topS 79) [] f fd) : FnOk P w K mg base (L2.CX P w) 18 f fd ["_law_one", "_law_other"] (spL K csL tsL T 100000 RPairR) := by
  have nd := sc__law_pair_right.nd
  refine okL0W F sc__law_pair_right (fun ds d r => by cases r <;> rfl) (fun cdv A outer s H ds d Q E hr z r q hE => ⟨_, pss_cons (toPar (ps_par (i := 2) (j := 3) rfl nd rfl rfl (by decide) rfl rfl (pa_cons (pe_makeD g_mRoad (hr.mono (by decide)) rfl (pxE rfl rfl rfl rfl) (pa_cons (pe_ix ix_tup (pv 0) (pe_int) (fun _ _ => rfl)) (pa_cons (pe_ix ix_tup (pv 0) (pe_int) (fun _ _ => rfl)) (pa_cons (pe_ix ix_tup (pv 0) (pe_int) (fun _ _ => rfl)) (pa_nil))))) (pa_cons (pe_makeD g_mRoad (hr.mono (by decide)) rfl (pxE rfl rfl rfl rfl) (pa_cons (pe_ix ix_tup (pv 1) (pe_int) (fun _ _ => rfl)) (pa_cons (pe_ix ix_tup (pv 1) (pe_int) (fun _ _ => rfl)) (pa_cons (pe_ix ix_tup (pv 1) (pe_int) (fun _ _ => rfl)) (pa_nil))))) pa_nil)) rfl)) (pss_cons (ps_if (PW.pt (pw_or (pt_cmpR op_ne (pe_gd g_is_ahead (hr.mono (by decide)) rfl (pxE rfl rfl rfl rfl) (pa_cons (pv 2) (pa_cons (pv 3) (pa_nil)))) (pe_gd g_l_ahead (hr.mono (by decide)) rfl (pxE rfl rfl rfl rfl) (pa_cons (pv 0) (pa_cons (pv 1) (pa_nil)))) (nomark _)) (pw_or1 (pt_cmpR op_ne (pe_gdk g_is_ahead_k (hr.mono (by decide)) rfl (pxE rfl rfl rfl rfl) (pk_cons (pv 3) (pk_cons (pv 2) (pk_nil)))) (pe_gd g_l_ahead (hr.mono (by decide)) rfl (pxE rfl rfl rfl rfl) (pa_cons (pv 1) (pa_cons (pv 0) (pa_nil)))) (nomark _))))) (pss_one (ps_ret (pe_bl))) (pss_nil)) (pss_cons (toPar (ps_par (i := 4) (j := 5) rfl nd rfl rfl (by decide) rfl rfl (pa_cons (pe_gd g_common (hr.mono (by decide)) rfl (pxE rfl rfl rfl rfl) (pa_cons (pv 2) (pa_cons (pv 3) (pa_nil)))) (pa_cons (pe_gdk g_common_k (hr.mono (by decide)) rfl (pxE rfl rfl rfl rfl) (pk_cons (pv 2) (pk_cons (pv 3) (pk_nil)))) pa_nil)) rfl)) (pss_cons (ps_if (PW.pt (pw_or (pt_not (pt_val (pe_gd g_l_last_right (hr.mono (by decide)) rfl (pxE rfl rfl rfl rfl) (pa_cons (pv 0) (pa_cons (pv 1) (pa_cons (pe_gd g_l_told (hr.mono (by decide)) rfl (pxE rfl rfl rfl rfl) (pa_cons (pv 4) (pa_nil))) (pa_nil))))))) (pw_or1 (pt_cmpR (op_neD hr.units) (pe_gd g_l_told (hr.mono (by decide)) rfl (pxE rfl rfl rfl rfl) (pa_cons (pv 4) (pa_nil))) (pe_gd g_l_told (hr.mono (by decide)) rfl (pxE rfl rfl rfl rfl) (pa_cons (pv 5) (pa_nil))) (nomark _))))) (pss_one (ps_ret (pe_bl))) (pss_nil)) (pss_cons (ps_if (PW.pt (pw_and (pt_cmpR op_notN (pv 4) (pe_non) (nomark _)) (pw_and1 (PW.pt (pw_or (pt_cmpR op_isnot_bl (pe_gd g_is_ahead (hr.mono (by decide)) rfl (pxE rfl rfl rfl rfl) (pa_cons (pv 4) (pa_cons (pv 2) (pa_nil)))) (pe_bl) (nomark _)) (pw_or1 (pt_cmpR op_isnot_bl (pe_gd g_is_ahead (hr.mono (by decide)) rfl (pxE rfl rfl rfl rfl) (pa_cons (pv 4) (pa_cons (pv 3) (pa_nil)))) (pe_bl) (nomark _)))))))) (pss_one (ps_ret (pe_bl))) (pss_nil)) (pss_one (ps_ret (pe_cmpR op_eq (pe_cmpR (op_eqGo g_Road_eq (hr.mono (by decide)) (pxE rfl rfl rfl rfl)) (pv 2) (pv 3) (nomark _)) (pe_cmpR (op_eqD hr.units) (pv 0) (pv 1) (nomark _)) (nomark _)))))))), ?_⟩)
  cases r with
  | @mk w v rs ss k l h h2 =>
    have cc := cm_comm k l h.rn h2.rn (w := w) (v := v)
    have ev := eqv_road w v rs ss k l
    have hrn := h.rn
    have hrn2 := h2.rn
    have bw : Bi w 8 := ⟨h.w⟩
    have bv : Bi v 8 := ⟨h2.w⟩
    have lk := k.lay
    have ll := l.lay
    have i1 : RInitRd [.int w, .tup (iDs rs), .str k.str] (.ok (dRoad w rs k.str)) := .ok h
    have i2 : RInitRd [.int v, .tup (iDs ss), .str l.str] (.ok (dRoad v ss l.str)) := .ok h2
    have aa := RAhead.ok h h2
    have ab := RAhead.ok h2 h
    have ac := RAhL.mk h h2
    have ad := RAhL.mk h2 h
    have ca := RCommon.ok h h2
    have cb := RCommon.ok h2 h
    have la := RLast.mk h h2
    have n1 : (!decide (V.bl (ahF w rs k v ss l) = V.bl (ahF w rs k v ss l))) = false := by simp
    have n2 : (!decide (V.bl (ahF v ss l w rs k) = V.bl (ahF v ss l w rs k))) = false := by simp
    rcases cm_cases h h2 with ec | ⟨ts, m, ec, rfl, ok, a1, a2⟩
    · rw [ec] at ca la
      rw [cc, ec] at cb
      simp only [cmD, toD] at ca cb la
      walk_at "goL"
      exact finLB q (by assumption) (by rw [ev]; simp)
    · rw [ec] at ca la
      rw [cc, ec] at cb
      simp only [cmD, toD] at ca cb la
      have ed := RAhead.ok ok h
      have ee := RAhead.ok ok h2
      rw [a1] at ed
      rw [a2] at ee
      have ok2 := ok.rn
      have lm := m.lay
      have ev2 := eqv_road w w ts ts m m
      rw [decide_eq_true ⟨rfl, rfl, rfl⟩] at ev2
      walk_at "goL"
      exact finLB q (by assumption) (by rw [ev]; simp)
theorem sc__law_parts_right : FnScope ["_law_pail_here", "_law_whole", "_law_one", "_law_other", "_law_first", "_law_second", "_law_here", "_law_there", "_law_road_here", "_law_corner", "_law_low", "_law_high"] ["_law_pail_here", "_law_whole", "_law_one", "_law_other"] (defScope (topS 80)) := ⟨rfl, rfl, rfl, by decide +kernel, rfl, by decide +kernel, by decide +kernel⟩
include g_Ratio_compared g_Ratio_is_below g_Road_eq g_Step_corner g_common g_l_middle g_mRatio g_net_at g_road_of g_turns_of nf_Road in
theorem ok__law_parts_right (G : G0 K mg csL tsL) (F : FP K "_law_parts_right" "_law_parts_right" (topS 80) [] f fd) : FnOk P w K mg base (L2.CX P w) 18 f fd ["_law_pail_here", "_law_whole", "_law_one", "_law_other"] (spLP K csL tsL T 60 950000 0 (fun ds => ∃ w rs ss, ds = [.int w, .lst (iDs rs), .lst (iDs ss)] ∧ w.natAbs < 2 ^ 8 ∧ Rn rs ∧ Rn ss) (fun _ d => d = .bl true)) := by
  have nd := sc__law_parts_right.nd
  refine okP0W F sc__law_parts_right (fun ds h => by obtain ⟨_, _, _, rfl, _⟩ := h; rfl) (fun cdv A outer s H a c' m ds Q E hr z nds pr hm q hE => ⟨_, pss_cons (toPar (ps_par (i := 4) (j := 5) rfl nd rfl rfl (by decide) rfl rfl (pa_cons (pe_gd g_l_middle (hr.mono (by decide)) rfl (pxE rfl rfl rfl rfl) (pa_cons (pe_tupE (pa_cons (pv 1) (pa_cons (pv 2) (pa_cons (pe_str) (pa_nil))))) (pa_nil))) (pa_cons (pe_gd g_l_middle (hr.mono (by decide)) rfl (pxE rfl rfl rfl rfl) (pa_cons (pe_tupE (pa_cons (pv 1) (pa_cons (pv 3) (pa_cons (pe_str) (pa_nil))))) (pa_nil))) pa_nil)) rfl)) (pss_cons (toPar (ps_par (i := 6) (j := 7) rfl nd rfl rfl (by decide) rfl rfl (pa_cons (pe_makeD g_mRatio (hr.mono (by decide)) rfl (pxE rfl rfl rfl rfl) (pa_cons (pe_ix ix_tup (pv 4) (pe_int) (fun _ _ => rfl)) (pa_cons (pe_ix ix_tup (pv 4) (pe_int) (fun _ _ => rfl)) (pa_nil)))) (pa_cons (pe_makeD g_mRatio (hr.mono (by decide)) rfl (pxE rfl rfl rfl rfl) (pa_cons (pe_ix ix_tup (pv 5) (pe_int) (fun _ _ => rfl)) (pa_cons (pe_ix ix_tup (pv 5) (pe_int) (fun _ _ => rfl)) (pa_nil)))) pa_nil)) rfl)) (pss_cons (ps_if (pt_cmpR (op_eqD hr.units) (pv 4) (pv 5) (nomark _)) (pss_one (ps_ret (pe_cmpR (op_eqGo g_Road_eq (hr.mono (by decide)) (pxE rfl rfl rfl rfl)) (pe_gd g_common (hr.mono (by decide)) rfl (pxE rfl rfl rfl rfl) (pa_cons (pe_gd g_road_of (hr.mono (by decide)) rfl (pxE rfl rfl rfl rfl) (pa_cons (pv 6) (pa_nil))) (pa_cons (pe_gd g_road_of (hr.mono (by decide)) rfl (pxE rfl rfl rfl rfl) (pa_cons (pv 7) (pa_nil))) (pa_nil)))) (pe_gd g_road_of (hr.mono (by decide)) rfl (pxE rfl rfl rfl rfl) (pa_cons (pv 6) (pa_nil))) (nomark _)))) (pss_nil)) (pss_cons (ps_if (pt_cmpR op_gt (pe_methD (pv 6) (G.cf .Ratio (by decide)).cl g_Ratio_compared (hr.mono (by decide)) (pxE rfl rfl rfl rfl) (pa_cons (pv 7) (pa_nil))) (pe_int) (nomark _)) (pss_one (toPar (ps_par (i := 6) (j := 7) rfl nd rfl rfl (by decide) rfl rfl (pa_cons (pv 7) (pa_cons (pv 6) pa_nil)) rfl))) (pss_nil)) (pss_cons (toSet (ps_set (i := 8) nd rfl (Or.inl rfl) (pe_gd g_common (hr.mono (by decide)) rfl (pxE rfl rfl rfl rfl) (pa_cons (pe_gd g_road_of (hr.mono (by decide)) rfl (pxE rfl rfl rfl rfl) (pa_cons (pv 6) (pa_nil))) (pa_cons (pe_gd g_road_of (hr.mono (by decide)) rfl (pxE rfl rfl rfl rfl) (pa_cons (pv 7) (pa_nil))) (pa_nil)))))) (pss_cons (ps_asg (pe_tupE (pa_cons (pe_propX (pe_fldD (pe_gd g_net_at (hr.mono (by decide)) rfl (pxE rfl rfl rfl rfl) (pa_cons (pv 8) (pa_nil))) rfl) g_Step_corner (hr.mono (by decide)) (pxE rfl rfl rfl rfl) rfl) (pa_cons (pe_gd g_turns_of (hr.mono (by decide)) rfl (pxE rfl rfl rfl rfl) (pa_cons (pv 8) (pa_nil))) (pa_nil)))) (pg_tup rfl (pgs_cons (toG (pg_name (i := 9) nd rfl (Or.inl rfl))) (pgs_cons (pg_tup rfl (pgs_cons (toG (pg_name (i := 10) nd rfl (Or.inl rfl))) (pgs_cons (toG (pg_name (i := 11) nd rfl (Or.inl rfl))) (pgs_nil)))) (pgs_nil))))) (pss_cons (ps_if (PW.pt (pw_or (pt_val (pe_methD (pv 9) (G.cf .Ratio (by decide)).cl g_Ratio_is_below (hr.mono (by decide)) (pxE rfl rfl rfl rfl) (pa_cons (pv 6) (pa_nil)))) (pw_or1 (pt_val (pe_methD (pv 7) (G.cf .Ratio (by decide)).cl g_Ratio_is_below (hr.mono (by decide)) (pxE rfl rfl rfl rfl) (pa_cons (pv 9) (pa_nil))))))) (pss_one (ps_ret (pe_bl))) (pss_nil)) (pss_one (ps_ret (pe_and (pe_methD (pv 10) (G.cf .Ratio (by decide)).cl g_Ratio_is_below (hr.mono (by decide)) (pxE rfl rfl rfl rfl) (pa_cons (pv 6) (pa_nil))) (pe_and (pe_methD (pv 7) (G.cf .Ratio (by decide)).cl g_Ratio_is_below (hr.mono (by decide)) (pxE rfl rfl rfl rfl) (pa_cons (pv 11) (pa_nil))) (pe_one (pe_cmpR op_eq (pe_fldD (pv 8) rfl) (pe_str) (nomark _))))))))))))), ?_⟩)
  obtain ⟨w, rs, ss, rfl, hw, h, h2⟩ := pr
  have bw : Bi w 8 := ⟨hw⟩
  have m3 := RMidd.l (w := w) (k := "ended") hw h
  have m4 := RMidd.l (w := w) (k := "ended") hw h2
  have ex := (eF_eb hw h).m
  have ey := (eF_eb hw h2).m
  have gx : 1 ≤ (Rd.mid (eF w rs)).2 := (end_gd (w := w) h).m
  have gy : 1 ≤ (Rd.mid (eF w ss)).2 := (end_gd (w := w) h2).m
  have x1 : Bi (Rd.mid (eF w rs)).1 220 := ⟨ex.a⟩
  have x2 : Bi (Rd.mid (eF w rs)).2 220 := ⟨ex.b⟩
  have y1 : Bi (Rd.mid (eF w ss)).1 220 := ⟨ey.a⟩
  have y2 : Bi (Rd.mid (eF w ss)).2 220 := ⟨ey.b⟩
  have qx : Bq (vq (Rd.mid (eF w rs))) 220 := ⟨sz_divInt (by omega) ex.a ex.b⟩
  have qy : Bq (vq (Rd.mid (eF w ss))) 220 := ⟨sz_divInt (by omega) ey.a ey.b⟩
  have i1 : RInitR [.int (Rd.mid (eF w rs)).1, .int (Rd.mid (eF w rs)).2] (.ok (.rat (vq (Rd.mid (eF w rs))))) := .ok (by omega)
  have i2 : RInitR [.int (Rd.mid (eF w ss)).1, .int (Rd.mid (eF w ss)).2] (.ok (.rat (vq (Rd.mid (eF w ss))))) := .ok (by omega)
  have r1 : RRoadOf [.rat (vq (Rd.mid (eF w rs)))] (.ok (dRoad w rs "ended")) := RRoadOf.ok hw h
  have r2 : RRoadOf [.rat (vq (Rd.mid (eF w ss)))] (.ok (dRoad w ss "ended")) := RRoadOf.ok hw h2
  have ka : RdOk w rs .ended := ⟨hw, h, fun z => by cases z⟩
  have kb : RdOk w ss .ended := ⟨hw, h2, fun z => by cases z⟩
  have ev : PyData.eqv (.tuple [.int (Rd.mid (eF w rs)).1, .int (Rd.mid (eF w rs)).2]) (.tuple [.int (Rd.mid (eF w ss)).1, .int (Rd.mid (eF w ss)).2]) = decide (rs = ss) := by
    rw [eqv_int2]
    by_cases e : rs = ss
    · subst e
      simp
    · rw [decide_eq_false e]
      refine Bool.eq_false_iff.mpr fun z => e (md_inj (w := w) h h2 ?_)
      have z := Bool.and_eq_true_iff.mp z
      exact Prod.ext (of_decide_eq_true z.1) (of_decide_eq_true z.2)
  have cp := cmp_pos (vq (Rd.mid (eF w rs))) (vq (Rd.mid (eF w ss)))
  by_cases e : rs = ss
  · rw [decide_eq_true e] at ev
    subst e
    have ca : RCommon [dRoad w rs "ended", dRoad w rs "ended"] (.ok (dRoad w rs "ended")) := by
      have := RCommon.ok ka ka
      rw [show cmF w rs .ended w rs .ended = some (rs, .ended) from by unfold cmF; rw [if_pos ⟨rfl, rfl, rfl⟩]] at this
      exact this
    have eq1 : REqRd [dRoad w rs "ended", dRoad w rs "ended"] (.ok (.bl true)) := by
      have := REqRd.mk (w := w) (v := w) (rs := rs) (ss := rs) (k := .ended) (l := .ended)
      rw [decide_eq_true ⟨rfl, rfl, rfl⟩] at this
      exact this
    walk_at "goL"
    exact finP q (by assumption) (by omega) rfl (.bl _)
  rw [decide_eq_false e] at ev
  by_cases c : Rd.Lt (Rd.mid (eF w ss)) (Rd.mid (eF w rs))
  · rw [vq_t gy gx c] at cp
    have zb := bl_rn h2 h
    have gz : Rd.Gd (eF w (Rd.bl _ _)) := end_gd (w := w) zb
    have ez := eF_eb hw zb
    have nc := cm_opn (w := w) (k := .ended) (l := .ended) (rs := ss) (ss := rs) (fun z => (fun z => e z.symm) z.2.1) (by decide) (by decide)
    have ca : RCommon [dRoad w ss "ended", dRoad w rs "ended"] (.ok (dRoad w (Rd.bl ss rs) "open")) := by
      have := RCommon.ok kb ka
      rw [nc] at this
      exact this
    have na : RNetAt [dRoad w (Rd.bl ss rs) "open"] (.ok (netF (eF w (Rd.bl ss rs)))) := RNetAt.ok hw zb
    have tu : RTurnsOf [dRoad w (Rd.bl ss rs) "open"] (.ok (.tup [.rat (vq (eF w (Rd.bl ss rs)).1), .rat (vq (eF w (Rd.bl ss rs)).2)])) := RTurnsOf.ok hw zb
    have qz : Bq (vq (Rd.mid (eF w (Rd.bl ss rs)))) 220 := ⟨sz_divInt (by have := gz.m; omega) ez.m.a ez.m.b⟩
    have ql : Bq (vq (eF w (Rd.bl ss rs)).1) 220 := ⟨sz_divInt (by have := gz.l; omega) ez.l.a ez.l.b⟩
    have qh : Bq (vq (eF w (Rd.bl ss rs)).2) 220 := ⟨sz_divInt (by have := gz.h; omega) ez.h.a ez.h.b⟩
    have d1 : Bi (eF w (Rd.bl ss rs)).1.1 220 := ⟨ez.l.a⟩
    have d2 : Bi (eF w (Rd.bl ss rs)).1.2 220 := ⟨ez.l.b⟩
    have d3 : Bi (eF w (Rd.bl ss rs)).2.1 220 := ⟨ez.h.a⟩
    have d4 : Bi (eF w (Rd.bl ss rs)).2.2 220 := ⟨ez.h.b⟩
    have co : RCorner [.step ((eF w (Rd.bl ss rs)).1.2 + (eF w (Rd.bl ss rs)).2.2) ((eF w (Rd.bl ss rs)).1.1 + (eF w (Rd.bl ss rs)).2.1)] (.ok (.rat (vq (Rd.mid (eF w (Rd.bl ss rs)))))) := RCorner.ok (by have := gz.l; have := gz.h; omega)
    have pp := parts_ok h2 h c.le
    have p1 := pp.a
    have p2 := pp.b
    have p3 := pp.c
    have p4 := pp.d
    clear pp nc
    walk_at "goL"
    exact finP q (by assumption) (by omega) rfl (.bl _)
  · have le : Rd.Le (Rd.mid (eF w rs)) (Rd.mid (eF w ss)) := by unfold Rd.Lt at c; unfold Rd.Le; omega
    rw [vq_f gy gx le] at cp
    have zb := bl_rn h h2
    have gz : Rd.Gd (eF w (Rd.bl _ _)) := end_gd (w := w) zb
    have ez := eF_eb hw zb
    have nc := cm_opn (w := w) (k := .ended) (l := .ended) (rs := rs) (ss := ss) (fun z => e z.2.1) (by decide) (by decide)
    have ca : RCommon [dRoad w rs "ended", dRoad w ss "ended"] (.ok (dRoad w (Rd.bl rs ss) "open")) := by
      have := RCommon.ok ka kb
      rw [nc] at this
      exact this
    have na : RNetAt [dRoad w (Rd.bl rs ss) "open"] (.ok (netF (eF w (Rd.bl rs ss)))) := RNetAt.ok hw zb
    have tu : RTurnsOf [dRoad w (Rd.bl rs ss) "open"] (.ok (.tup [.rat (vq (eF w (Rd.bl rs ss)).1), .rat (vq (eF w (Rd.bl rs ss)).2)])) := RTurnsOf.ok hw zb
    have qz : Bq (vq (Rd.mid (eF w (Rd.bl rs ss)))) 220 := ⟨sz_divInt (by have := gz.m; omega) ez.m.a ez.m.b⟩
    have ql : Bq (vq (eF w (Rd.bl rs ss)).1) 220 := ⟨sz_divInt (by have := gz.l; omega) ez.l.a ez.l.b⟩
    have qh : Bq (vq (eF w (Rd.bl rs ss)).2) 220 := ⟨sz_divInt (by have := gz.h; omega) ez.h.a ez.h.b⟩
    have d1 : Bi (eF w (Rd.bl rs ss)).1.1 220 := ⟨ez.l.a⟩
    have d2 : Bi (eF w (Rd.bl rs ss)).1.2 220 := ⟨ez.l.b⟩
    have d3 : Bi (eF w (Rd.bl rs ss)).2.1 220 := ⟨ez.h.a⟩
    have d4 : Bi (eF w (Rd.bl rs ss)).2.2 220 := ⟨ez.h.b⟩
    have co : RCorner [.step ((eF w (Rd.bl rs ss)).1.2 + (eF w (Rd.bl rs ss)).2.2) ((eF w (Rd.bl rs ss)).1.1 + (eF w (Rd.bl rs ss)).2.1)] (.ok (.rat (vq (Rd.mid (eF w (Rd.bl rs ss)))))) := RCorner.ok (by have := gz.l; have := gz.h; omega)
    have pp := parts_ok h h2 le
    have p1 := pp.a
    have p2 := pp.b
    have p3 := pp.c
    have p4 := pp.d
    clear pp nc
    walk_at "goL"
    exact finP q (by assumption) (by omega) rfl (.bl _)
/-! ### what is heard -/
abbrev HErr (K : Frag) : VK → XK := HEp K "BadRoad" "part"
abbrev TH (K : Frag) : (XK → Hp → VK → Prop) → Hp → VK → Prop := TTH (HErr K) HOn
def errsL : List Str := ["BadRoad"]
def errF : List (Str × Str) := [("BadRoad", "part")]
structure GE (K : Frag) (mg : Str → Option Value) : Prop where
  ex : ∀ x ∈ errsL, ∀ y ∈ errsL, PySem.W.exmOne K (.ref (cX K x)) (.ref (cX K y)) = some (decide (x = y))
  xf : ∀ x ∈ errsL, XfC K (cX K x)
  no : ∀ e ∈ errF, PySem.W.findIn K (.ref (cX K e.1)) e.2 = some none
  mg : ∀ x ∈ errsL, mg x = some (.ref (cX K x))
theorem sc_heard : FnScope ["_law_ask", "_law_heard_here", "error"] ["_law_ask"] (defScope (topS 81)) := ⟨rfl, rfl, rfl, by decide +kernel, rfl, by decide +kernel, by decide +kernel⟩
theorem heard_gives {X : Cx} {g : Addr} {cdg : Value} {q : Str} (E : GE X.K X.mg) : LamX.GivesTo X ["_law_ask", "_law_heard_here", "error"] "_law_heard" (defScope (topS 81)) g cdg (defBody (topS 81)) "_law_ask" q (TH X.K) := by
  intro f c' s H Q tl act hc h
  have nd := sc_heard.nd
  have x0 := E.xf "BadRoad" (by decide)
  have n0_0 := E.no ("BadRoad", "part") (by decide)
  refine ⟨_, pss_cons (ps_asg pe_non (pg_name (i := 1) nd rfl (Or.inl rfl))) (pss_cons (ps_try_manyA (X := (cxOf C8.CX0 X.prog X.w X.K X.mg X.base ["_law_ask", "_law_heard_here", "error"] "_law_heard" (defScope (topS 81)) g cdg X.A X.stack s H C8.E0).nox)
      (l := [(.ref (cX X.K "BadRoad"), 2, fun a cls d => _)])
      (tb := fun W D σ H => ∃ Ech : XK, (∀ cls d σ' H', Ech cls d H' → σ'.length = 3 → W cls d σ' H') ∧ σ[0]? = some (some (.ref f)) ∧ H c' = some (LamX.CodeO c' q) ∧ tl Ech H (fun v H1 => D.nx σ H1))
      rfl rfl nd LamX.takes0 (fun W pn xe tk _ => ?body)
      (.cons ⟨rfl, rfl, .inl (E.mg "BadRoad" (by decide))⟩ rfl rfl (fun a oe cls d pn hz hf => pss_one (ps_asg (pe_xf x0 n0_0 hz hf (pv 2)) (pg_name (i := 1) nd rfl (Or.inl rfl)))) .nil))
      (pss_one (ps_ret (pv 1)))), ?_⟩
  · refine ⟨fun pins s' σ H' D I h' => ?_⟩
    obtain ⟨Ech, hW, h1, h2, h3⟩ := h'
    exact (pss_one (ps_expr (act (fun c d σ H => σ.length = 3 → W c d σ H) pn xe Ech _ _ (takesLen tk) (fun cls d σ' H' e l => hW cls d σ' H' e l)))).run pins s' σ H' D I ⟨h1, h2, h3⟩
  · refine ⟨HErr X.K Q, fun cls d σ' H' he hl => ?_, rfl, hc, tthI h _ fun v H1 hh => ?_⟩
    · match σ', hl with
      | [x0, x1, x2], _ =>
        obtain ⟨dd, gs, v, rfl, e1, rfl, lk, k⟩ := he.un
        have yes := E.ex "BadRoad" (by decide) "BadRoad" (by decide)
        rw [decide_eq_true rfl] at yes
        refine ⟨true, yes, fun _ a na => ?_, fun z => Bool.noConfusion z⟩
        exact ⟨_, rfl, rfl, rfl, dd, _, v, rfl, e1, lk, _, rfl, k⟩
    · exact ⟨_, rfl, hh.un⟩
/-- what stands at _law_heard -/
structure GHd (P : Program) (w : World) (K : Frag) (mg : Str → Option Value) (base : Heap) : Prop where
  ex : ∃ (g : Addr) (oc : Value) (od : Option Addr) (dV kV doc pm : Value) (an : Option Addr) (cdv ct : Value) (osl : Array (Option Value)), mg "_law_heard" = some (.ref g) ∧ PySem.W.keepIn K (.ref g) = true ∧
    K.lookup g = some ⟨oc, od, .func (PySem.W.fnOf "_law_heard" "_law_heard" (defArgs (topS 81)) (defBody (topS 81)) (defScope (topS 81)) dV kV doc pm an cdv ct), osl⟩ ∧ PySem.W.codeIn K cdv "_law_heard" = true ∧
    Binds K (PySem.W.fnOf "_law_heard" "_law_heard" (defArgs (topS 81)) (defBody (topS 81)) (defScope (topS 81)) dV kV doc pm an cdv ct) ["_law_ask"] []
theorem GHd.of (F : FP K "_law_heard" "_law_heard" (topS 81) [] f fd) (hm : mg "_law_heard" = some (.ref f)) : GHd P w K mg base := by
  have b := FunD.bindsN (ps := ["_law_ask"]) F fun _ _ _ _ _ _ us hl => match us, hl with | [_], _ => rfl
  obtain ⟨oc, od, dV, kV, doc, pm, an, cdv, ct, osl, rfl, lk, hcd, _, _⟩ := F.ex
  exact ⟨f, oc, od, dV, kV, doc, pm, an, cdv, ct, osl, hm, F.kp, lk, hcd, b⟩
theorem pe_heard {X : Cx} {T : List (Addr × Str)} {c P : Addr} {k : Nat} {params : Arguments} {body : Expr} {scope : Scope} {t : XK → TE} {p lpos pos : Pos} (G : GHd X.prog X.w X.K X.mg X.base) (E : GE X.K X.mg) (hg : Gl X "_law_heard")
    (TB : LamX.TabB X.base X.mg c P) (hcode : X.env.code = .ref c) (hmT : (P, X.env.qual ++ "<lambda>") ∈ T) (hu : ∀ p ∈ T, p.1 = P → p.2 = X.env.qual ++ "<lambda>") (hr : Room (k + 2) X.A) (hr3 : Room 3 X.A) (L : LamX.LamS X.env.scope scope) (hdef : defaultsOf params X.env = ([], []))
    (hbind : ∀ (q : Str) (cl : List (Str × Addr)) (pm cv ctv : Value), bindArgs (PySem.W.kla_fn "<lambda>" q params body scope cl pm cv ctv) ⟨[], []⟩ = pure [])
    (hbody : ∀ (A : Around) (outer : List PySem.Env) (s : Shared) (H : Hp) (E : XK) (f c' : Addr), Room k (A.deeper (LamX.lamEnv X scope s.heap.objs.size f c')) → PE (LamX.lamCx X A outer s H E scope f c') body (t E)) :
    PE X (.Call (.Name "_law_heard" p) [.Lambda params body scope lpos] [] pos) (tLam T (TH X.K) t) := by
  obtain ⟨g, oc, od, dV, kV, doc, pm, an, cdv, ct, osl, hm, hk, lk, hcd, hb⟩ := G.ex
  exact ⟨fun pins s σ H Q I z => (LamX.pe_lamcall (Ng := ["_law_ask", "_law_heard_here", "error"]) hg hm hk lk hcd hb sc_heard rfl (Or.inl rfl) (heard_gives E) TB hcode hmT hu hr L hdef hbind hbody).run pins s σ H Q I z.un⟩
structure OuS (sa a D : Addr) (w : Int) (i : Nat) (σ : L2.St) (L : List (V × Dt)) : Prop where
  ex : ∃ y4 y5 y6, σ = [some (.ref sa), some (.ref a), some (.int w), some (.ref D), y4, y5, y6, none, none, none] ∧ L = []
structure InS (sa a D : Addr) (w : Int) (x4 x5 : Option V) (i : Nat) (σ : L2.St) (L : List (V × Dt)) : Prop where
  ex : ∃ y6, σ = [some (.ref sa), some (.ref a), some (.int w), some (.ref D), x4, x5, y6, none, none, none] ∧ L = []
theorem sc_law : FnScope ["_law_script", "_law_pail_here", "_law_whole", "_law_roads", "_law_at", "_law_one", "_law_other", "_law_heard_here", "_law_odd", "_law_road_here"] ["_law_script"] (defScope (topS 82)) := ⟨rfl, rfl, rfl, by decide +kernel, rfl, by decide +kernel, by decide +kernel⟩
include g_common g_is_ahead g_l_dip g_l_kin g_l_pail g_l_pair_right g_l_parts_right g_l_road g_l_runs g_mRatio g_mRoad in
theorem ok_law {c Pt : Addr} (gEr : GE K mg) (gHd : GHd P w K mg base) (hTB : LamX.TabB base mg c Pt) (hmT : (Pt, ("law" : Str) ++ ".<locals>." ++ "<lambda>") ∈ T) (huT : ∀ p ∈ T, p.1 = Pt → p.2 = ("law" : Str) ++ ".<locals>." ++ "<lambda>") (hfc : fd.code = .ref c) (G : G0 K mg csL tsL) (F : FP K "law" "law" (topS 82) [] f fd) : FnOk P w K mg base (L2.CX P w) 19 f fd ["_law_script"] (spLaw K T) := by
  have nd := sc_law.nd
  refine okC F hfc sc_law (fun vs H Q E h => by obtain ⟨_, _, rfl, _⟩ := h; rfl) (fun A outer s H vs Q E hr h => ⟨_, pss_cons (toSet (ps_set (i := 1) nd rfl (Or.inl rfl) (pe_gd g_l_pail (hr.mono (by decide)) rfl (pxE rfl rfl rfl rfl) (pa_cons (pv 0) (pa_nil))))) (pss_cons (toSet (ps_set (i := 2) nd rfl (Or.inl rfl) (pe_op op_sub (pe_gd g_l_dip (hr.mono (by decide)) rfl (pxE rfl rfl rfl rfl) (pa_cons (pv 1) (pa_cons (pe_int) (pa_nil)))) (pe_int)))) (pss_cons (toSet (ps_set (i := 3) nd rfl (Or.inl rfl) (pe_lstD (pa_cons (pe_gd g_l_road (hr.mono (by decide)) rfl (pxE rfl rfl rfl rfl) (pa_cons (pv 1) (pa_cons (pv 2) (pa_nil)))) (pa_cons (pe_gd g_l_road (hr.mono (by decide)) rfl (pxE rfl rfl rfl rfl) (pa_cons (pv 1) (pa_cons (pe_op op_add (pv 2) (pe_callTy call_int1b rfl G.nm.int (by decide +kernel) (pa_cons (pe_cmpR op_eq (pe_gd g_l_dip (hr.mono (by decide)) rfl (pxE rfl rfl rfl rfl) (pa_cons (pv 1) (pa_cons (pe_int) (pa_nil)))) (pe_int) (nomark _)) (pa_nil)))) (pa_nil)))) (pa_nil)))))) (pss_cons (ps_expr (pe_bm PySem.F.plainAttrs_list PySem.F.slot_list_append PySem.F.type_list_append mt_append (pv 3) (pa_cons (pe_gd g_l_kin (hr.mono (by decide)) rfl (pxE rfl rfl rfl rfl) (pa_cons (pv 1) (pa_cons (pe_ix ix_list (pv 3) (pe_int) (fun _ _ => rfl)) (pa_nil)))) (pa_nil)))) (pss_cons (ps_expr (pe_bm PySem.F.plainAttrs_list PySem.F.slot_list_append PySem.F.type_list_append mt_append (pv 3) (pa_cons (pe_gd g_l_kin (hr.mono (by decide)) rfl (pxE rfl rfl rfl rfl) (pa_cons (pv 1) (pa_cons (pe_ix ix_list (pv 3) (pe_gd g_l_dip (hr.mono (by decide)) rfl (pxE rfl rfl rfl rfl) (pa_cons (pv 1) (pa_cons (pe_int) (pa_nil)))) (fun _ _ => rfl)) (pa_nil)))) (pa_nil)))) (pss_cons (ps_forD (passes_of rfl) rfl (pi_enumW rfl G.nm.enumerate (pa_cons (pv 3) pa_nil)) (pg_tup rfl (pgs_cons (toG (pg_name (i := 4) nd rfl (Or.inl rfl))) (pgs_cons (toG (pg_name (i := 5) nd rfl (Or.inl rfl))) (pgs_nil)))) (pss_one (ps_forD (passes_of rfl) rfl (pi_listW (pe_slice sl_listS (pv 3) (po_some (pv 4)) (po_none))) (toG (pg_name (i := 6) nd rfl (Or.inl rfl))) (pss_one (ps_if (pt_not (pt_val (pe_gd g_l_pair_right (hr.mono (by decide)) rfl (pxE rfl rfl rfl rfl) (pa_cons (pv 5) (pa_cons (pv 6) (pa_nil)))))) (pss_one (ps_ret (pe_bl))) (pss_nil)))))) (pss_cons (ps_if (pt_not (pt_val (pe_gd g_l_parts_right (hr.mono (by decide)) rfl (pxE rfl rfl rfl rfl) (pa_cons (pv 1) (pa_cons (pv 2) (pa_cons (pe_gd g_l_runs (hr.mono (by decide)) rfl (pxE rfl rfl rfl rfl) (pa_cons (pv 1) (pa_nil))) (pa_cons (pe_gd g_l_runs (hr.mono (by decide)) rfl (pxE rfl rfl rfl rfl) (pa_cons (pv 1) (pa_nil))) (pa_nil)))))))) (pss_one (ps_ret (pe_bl))) (pss_nil)) (pss_cons (ps_asg (pe_tupE (pa_cons (pe_ix ix_tup (pe_tupE (pa_cons (pe_non) (pa_cons (pe_ix ix_list (pv 3) (pe_int) (fun _ _ => rfl)) (pa_cons (pe_int) (pa_cons (pe_str) (pa_cons (pe_makeD g_mRatio (hr.mono (by decide)) rfl (pxE rfl rfl rfl rfl) (pa_cons (pe_int) (pa_cons (pe_int) (pa_nil)))) (pa_nil))))))) (pe_gd g_l_dip (hr.mono (by decide)) rfl (pxE rfl rfl rfl rfl) (pa_cons (pv 1) (pa_cons (pe_int) (pa_nil)))) (fun _ _ => rfl)) (pa_cons (pe_makeD g_mRoad (hr.mono (by decide)) rfl (pxE rfl rfl rfl rfl) (pa_cons (pv 2) (pa_cons (pe_tupE (pa_nil)) (pa_cons (pe_str) (pa_nil))))) (pa_nil)))) (pg_tup rfl (pgs_cons (toG (pg_name (i := 8) nd rfl (Or.inr rfl))) (pgs_cons (toG (pg_name (i := 9) nd rfl (Or.inr rfl))) (pgs_nil))))) (pss_cons (toSet (ps_set (i := 7) nd rfl (Or.inl rfl) (pe_lstD (pa_cons (pe_heard (X := cxOf (L2.CX P w) P w K mg base _ _ _ f (.ref c) A outer s H E) (k := 14) gHd gEr rfl hTB rfl hmT huT (hr.mono (by decide)) (hr.mono (by decide)) (LamX.lamS_by (sc := defScope (topS 82)) (by decide +kernel)) rfl (fun _ _ _ _ _ => rfl) (fun Al ol sl Hl El fl cl hr => pe_gd g_is_ahead (hr.mono (by decide)) rfl (pxE rfl rfl rfl rfl) (pa_cons (pv 8) (pa_cons (pv 8) (pa_nil))))) (pa_cons (pe_heard (X := cxOf (L2.CX P w) P w K mg base _ _ _ f (.ref c) A outer s H E) (k := 14) gHd gEr rfl hTB rfl hmT huT (hr.mono (by decide)) (hr.mono (by decide)) (LamX.lamS_by (sc := defScope (topS 82)) (by decide +kernel)) rfl (fun _ _ _ _ _ => rfl) (fun Al ol sl Hl El fl cl hr => pe_gd g_is_ahead (hr.mono (by decide)) rfl (pxE rfl rfl rfl rfl) (pa_cons (pv 9) (pa_cons (pv 8) (pa_nil))))) (pa_cons (pe_heard (X := cxOf (L2.CX P w) P w K mg base _ _ _ f (.ref c) A outer s H E) (k := 14) gHd gEr rfl hTB rfl hmT huT (hr.mono (by decide)) (hr.mono (by decide)) (LamX.lamS_by (sc := defScope (topS 82)) (by decide +kernel)) rfl (fun _ _ _ _ _ => rfl) (fun Al ol sl Hl El fl cl hr => pe_gd g_common (hr.mono (by decide)) rfl (pxE rfl rfl rfl rfl) (pa_cons (pv 8) (pa_cons (pv 8) (pa_nil))))) (pa_nil))))))) (pss_one (ps_ret (pe_and (pe_cmpR (op_eqD hr.units) (pv 7) (pe_lstD (pa_cons (pe_str) (pa_cons (pe_str) (pa_cons (pe_str) (pa_nil))))) (nomark _)) (pe_one (pe_cmpR (op_eqD hr.units) (pe_heard (X := cxOf (L2.CX P w) P w K mg base _ _ _ f (.ref c) A outer s H E) (k := 14) gHd gEr rfl hTB rfl hmT huT (hr.mono (by decide)) (hr.mono (by decide)) (LamX.lamS_by (sc := defScope (topS 82)) (by decide +kernel)) rfl (fun _ _ _ _ _ => rfl) (fun Al ol sl Hl El fl cl hr => pe_gd g_common (hr.mono (by decide)) rfl (pxE rfl rfl rfl rfl) (pa_cons (pv 9) (pa_cons (pv 8) (pa_nil))))) (pe_str) (nomark _)))))))))))))), ?_⟩)
  obtain ⟨sa, ns, rfl, hS, hT, q⟩ := h
  refine BodyS.un (bodyS ?_)
  walk_at "rd"
  intro a H1 s1 _ hp
  obtain ⟨c, p1⟩ := hp
  have e0 : Env K (.law T (some (a, c, 0))) H1 H1 [] := Env.ofP (hT.ext s1) p1
  clear hT hS s1 p1
  walk_at "rd"
  rename_i d0 H2 b0 l0 u0 e1
  have hw : (d0 - 9).natAbs < 2 ^ 8 := by omega
  walk_at "rd"
  intro v1 H3 d r e2
  obtain ⟨w', rs1, k1, hw', rfl, ok1, le1⟩ := r
  cases hw'
  walk_at "rd"
  rename_i d1 H4 b1 l1 u1 e3
  have j1 := if01 (decide (V.int d1 = V.int 0))
  have bj : Bi (if decide (V.int d1 = V.int 0) = true then (1 : Int) else 0) 1 := ⟨by omega⟩
  have hw2 : (d0 - 9 + (if decide (V.int d1 = V.int 0) = true then (1 : Int) else 0)).natAbs < 2 ^ 8 := by omega
  walk_at "rd"
  intro v2 H5 d r e4
  obtain ⟨w', rs2, k2, hw', rfl, ok2, le2⟩ := r
  cases hw'
  generalize hw3 : d0 - 9 + (if decide (V.int d1 = V.int 0) = true then (1 : Int) else 0) = w2 at *
  have rn1 := ok1.rn
  have rn2 := ok2.rn
  have le1' : rs1.length ≤ 5 := by omega
  have bw2 : Bi w2 8 := ⟨hw2⟩
  refine lstDN e4 (by walk_at "isvs") rfl fun D H6 nd e5 => ?_
  clear e0 e1 e2 e3 e4
  walk_at "rd"
  intro v3 H7 d r e6
  obtain ⟨w', rs', rs3, k', k3, hw', rfl, ok3, le3⟩ := r
  have hw4 := (Dt.int.inj (List.cons.inj (Dt.tup.inj (List.cons.inj hw').1)).1)
  subst hw4
  clear hw'
  have all2 := all2 (P := Rdq) (.mk' ok1 le1') (.mk' ok2 (by omega))
  have all3 := allApp all2 (.mk' ok3 le3)
  have g0 : ([dRd (d0 - 9) rs1 k1.str, dRd w2 rs2 k2.str] ++ [dRd (d0 - 9) rs3 k3.str])[0]? = some (dRd (d0 - 9) rs1 k1.str) := rfl
  have g1 : ([dRd (d0 - 9) rs1 k1.str, dRd w2 rs2 k2.str] ++ [dRd (d0 - 9) rs3 k3.str]).length = 3 := rfl
  refine appG e6 (nd.le (by walk_at "mdle")) (e6.get (by walk_at "mem")) (e6.get List.mem_cons_self) (noLs_q all3) (show 2 ≤ 1000 by decide) [] (fun _ i => by cases i) fun H8 e7 => ?_
  clear e5 e6
  generalize [dRd (d0 - 9) rs1 k1.str, dRd w2 rs2 k2.str] ++ [dRd (d0 - 9) rs3 k3.str] = ds at *
  walk_at "rd"
  rename_i d2 H9 b2 l2 u2 e8
  refine ixLAny (e8.get (by walk_at "mem")) (by omega) (by rw [g1]; omega) fun v5 d5 m5 i5 => ?_
  obtain ⟨w5, rs5, k5, rfl, ok5, le5⟩ := (all3 d5 m5).ex
  have rn5 := ok5.rn
  have bw5 : Bi w5 8 := ⟨ok5.w⟩
  have e9 := e8.add i5
  clear e7 e8
  walk_at "rd"
  intro v6 H10 d r e10
  obtain ⟨w6, rs6, rs7, k6, k7, hw6, rfl, ok7, le7⟩ := r
  have all4 := allApp all3 (.mk' ok7 le7)
  have g2 : (ds ++ [dRd w6 rs7 k7.str])[0]? = some (dRd (d0 - 9) rs1 k1.str) := by rw [List.getElem?_append_left (by omega)]; exact g0
  have g3 : (ds ++ [dRd w6 rs7 k7.str]).length = 4 := by rw [List.length_append, g1]; rfl
  refine appG e10 (nd.le (by walk_at "mdle")) (e10.get (by walk_at "mem")) (e10.get List.mem_cons_self) (noLs_q all4) (by omega) [] (fun _ i => by cases i) fun H11 e11 => ?_
  clear e9 e10 all3
  generalize ds ++ [dRd w6 rs7 k7.str] = es at *
  walk_at "rd"
  rename_i J wd
  refine forI (fun _ => .law T (some (a, c, 0 + 1 + 15 + 1 + 15 + 3 + 1 + 3))) (OuS sa a D (d0 - 9)) [] e11 wd (subL1 (by walk_at "mem")) ⟨_, _, _, rfl, rfl⟩ (fun i d x σ L' Hh hd hS en => ?_) (fun σ L' Hh hS en => ?_)
  · obtain ⟨y4, y5, y6, rfl, rfl⟩ := hS.ex
    obtain ⟨d', hg, rfl⟩ := enmD_get _ _ _ _ hd
    obtain ⟨w8, rs8, k8, rfl, ok8, le8⟩ := (all4 _ (List.mem_of_getElem? hg)).ex
    clear hS hd e11 wd
    walk_at "rd"
    rename_i e12 J2 wd2
    refine forI (fun _ => .law T (some (a, c, 0 + 1 + 15 + 1 + 15 + 3 + 1 + 3))) (InS sa a D (d0 - 9) _ _) [] e12 wd2 (subL1 (by walk_at "mem")) ⟨_, rfl, rfl⟩ (fun j d2 x2 σ L2 Hi hd2 hS2 en2 => ?_) (fun σ L2 Hi hS2 en2 => ?_)
    · obtain ⟨y6, rfl, rfl⟩ := hS2.ex
      obtain ⟨w9, rs9, k9, rfl, ok9, le9⟩ := (all4 _ (cut_mem (List.mem_of_getElem? hd2))).ex
      have pr := RPairR.mk ok8 ok9
      have rn8 := ok8.rn
      have rn9 := ok9.rn
      have bw8 : Bi w8 8 := ⟨ok8.w⟩
      have bw9 : Bi w9 8 := ⟨ok9.w⟩
      clear hS2 hd2 e12 wd2
      walk_at "rd"
      rename_i e14
      exact loopI [] ⟨_, rfl, rfl⟩ (e14.sub' fun e i => List.mem_cons_of_mem _ i)
    · obtain ⟨y6, rfl, rfl⟩ := hS2.ex
      clear hS2 e12 wd2
      exact loopI [] ⟨_, _, _, rfl, rfl⟩ (en2.sub' fun e i => List.mem_cons_of_mem _ (List.mem_cons_of_mem _ (List.mem_cons_of_mem _ i)))
  · obtain ⟨y4, y5, y6, rfl, rfl⟩ := hS.ex
    clear hS e11 wd
    walk_at "rd"
    intro v7 H12 d r e12
    obtain ⟨rs10, rfl, rk10⟩ := r
    walk_at "rd"
    intro v8 H13 d r e13
    obtain ⟨rs11, rfl, rk11⟩ := r
    have rn10 := rk10.rn
    have rn11 := rk11.rn
    walk_at "rd"
    intro v9 H14 d r e14
    subst r
    obtain rfl := (e14.get List.mem_cons_self).blE
    have i9 : RInitRd [.int (d0 - 9), .tup [], .str "edge"] (.ok (dRoad (d0 - 9) [] "edge")) := RInitRd.ok (rs := []) (k := .edge) ⟨hw, (Rk.nil 4).rn, fun _ => rfl⟩
    have iR : RInitR [.int 1, .int 2] (.ok (.rat (Rat.divInt 1 2))) := .ok (by decide)
    clear e12 e13
    walk_at "rd"
    refine ixLD (j := 0) (e14.get (by walk_at "mem")) rfl g2 ?_
    walk_at "rd"
    rename_i e15
    refine ixTAny (e15.get (by walk_at "mem")) (by assumption) (by show _ < (5 : Int); assumption) fun vo od hm iv => ?_
    have bq : Bq (Rat.divInt 1 2) 4 := ⟨sz_divInt (by decide) (by decide) (by decide)⟩
    have hod : od.is .Road = false ∧ okT csL tsL od = true ∧ SzD 100000 od := by
      simp only [List.mem_cons, List.not_mem_nil, or_false] at hm
      rcases hm with rfl | rfl | rfl | rfl | rfl
      all_goals exact ⟨rfl, by walk_at "okt", by first | exact trivial | exact biI _ | exact bqI _ | exact (bqI (m := 100000) 4) | walk_at "dsok" | skip⟩
    obtain ⟨os, oo, oz⟩ := hod
    have e16 := e15.add iv
    have ro : RAhead [dRoad (d0 - 9) [] "edge", od] (.err "BadRoad" (part "other")) := RAhead.oth (k := .edge) os
    have co : RCommon [dRoad (d0 - 9) [] "edge", od] (.err "BadRoad" (part "other")) := RCommon.oth (k := .edge) os
    have r1 : RAhead [od, od] (.err "BadRoad" (part "one")) := RAhead.one os
    have c1 : RCommon [od, od] (.err "BadRoad" (part "one")) := RCommon.one os
    clear e15 hm
    walk_at "rd"
    have z : PyData.eqv (.str "other") (.str "other") = true := by decide +kernel
    show Q (V.bl (PyData.eqv (.str "other") (.str "other"))) _
    rw [z]
    exact q _
end
end Sp
end
section
set_option Elab.async false
set_option linter.all false
set_option maxRecDepth 100000
set_option maxHeartbeats 0
namespace Sp
open PySem PySem.Spec PyProof.Rows L2
open PySem.W (Frag)
theorem sc_xBadRatio : FnScope ["self", "part"] ["self", "part"] (defScope (inClass (topS 4) 0)) := ⟨rfl, rfl, rfl, by decide +kernel, rfl, by decide +kernel, by decide +kernel⟩
theorem sc_xBadStep : FnScope ["self", "part"] ["self", "part"] (defScope (inClass (topS 5) 0)) := ⟨rfl, rfl, rfl, by decide +kernel, rfl, by decide +kernel, by decide +kernel⟩
theorem sc_xBadNet : FnScope ["self", "part"] ["self", "part"] (defScope (inClass (topS 6) 0)) := ⟨rfl, rfl, rfl, by decide +kernel, rfl, by decide +kernel, by decide +kernel⟩
theorem sc_xBadRoad : FnScope ["self", "part"] ["self", "part"] (defScope (inClass (topS 7) 0)) := ⟨rfl, rfl, rfl, by decide +kernel, rfl, by decide +kernel, by decide +kernel⟩
theorem sc_xBadNumber : FnScope ["self", "part"] ["self", "part"] (defScope (inClass (topS 8) 0)) := ⟨rfl, rfl, rfl, by decide +kernel, rfl, by decide +kernel, by decide +kernel⟩
theorem sc_xRound : FnScope ["self", "part"] ["self", "part"] (defScope (inClass (topS 9) 0)) := ⟨rfl, rfl, rfl, by decide +kernel, rfl, by decide +kernel, by decide +kernel⟩
theorem sc_xNotNeighbours : FnScope ["self", "one", "other"] ["self", "one", "other"] (defScope (inClass (topS 10) 0)) := ⟨rfl, rfl, rfl, by decide +kernel, rfl, by decide +kernel, by decide +kernel⟩
theorem sc_xUnlike : FnScope ["self", "what"] ["self", "what"] (defScope (inClass (topS 11) 0)) := ⟨rfl, rfl, rfl, by decide +kernel, rfl, by decide +kernel, by decide +kernel⟩
theorem sc_xTooMany : FnScope ["self", "what", "most"] ["self", "what", "most"] (defScope (inClass (topS 12) 0)) := ⟨rfl, rfl, rfl, by decide +kernel, rfl, by decide +kernel, by decide +kernel⟩
def TT (K : Frag) : List (Addr × Str) := tfL.map fun d => ((He.cT K d).2, (d.1 : Str) ++ ".<locals>." ++ "<lambda>")
theorem tmem {K : Frag} (x : Str) (h : (x, none) ∈ tfL) : He.cT K (x, none) ∈ tfL.map (He.cT K) := List.mem_map.mpr ⟨_, h, rfl⟩
theorem tmem2 {K : Frag} (x : Str) (h : (x, none) ∈ tfL) : ((He.cT K (x, none)).2, x ++ ".<locals>." ++ "<lambda>") ∈ TT K := List.mem_map.mpr ⟨_, h, rfl⟩
theorem law_ok {P : Program} {w : World} {K : Frag} {mg : Str → Option Value} {base h : Heap} (c : SaysB h K) (KB : K.In base) (NB : base.Ns mainGlobals mg) (AP : apB K = true)
    (TB : ∀ p ∈ tfL.map (He.cT K), LamX.TabB base mg p.1 p.2) {fd_law : FuncData} (F_law : FP K "law" "law" (topS 82) [] (He.ga K "law") fd_law) : FnOk P w K mg base (L2.CX P w) 19 (He.ga K "law") fd_law ["_law_script"] (spLaw K (TT K)) := by
  have fx : ∀ (i : Nat) (f : Frag → Bool), exL[i]? = some f → f K = true := fun i f h => c.ex f (List.mem_of_getElem? h)
  have gl : ∀ x : Str, x ∈ glL → mg x = some (.ref (He.ga K x)) := fun x hx => He.glo_ok KB NB (c.gl x hx)
  have fn : ∀ (i : Nat) (d : He5.DefA), fnL[i]? = some d → ∃ fd, FunD K d.name d.qual d.params d.body d.scope (d.dvs K) (d.kws K) (d.at_ K) fd := fun i d h => (c.fn d (List.mem_of_getElem? h)).elim fun h1 h2 => He5.DefA.funD h2 h1
  have nmf : Nm mg := ⟨He.free_ok KB NB (fx 0 _ rfl), He.free_ok KB NB (fx 1 _ rfl), He.free_ok KB NB (fx 2 _ rfl), He.free_ok KB NB (fx 3 _ rfl), He.free_ok KB NB (fx 4 _ rfl), He.free_ok KB NB (fx 5 _ rfl), He.free_ok KB NB (fx 6 _ rfl), He.free_ok KB NB (fx 7 _ rfl), He.free_ok KB NB (fx 8 _ rfl), He.free_ok KB NB (fx 9 _ rfl)⟩
  have hcs : csB K csL = true := fx 12 _ rfl
  have G0 : G0 K mg csL tsL := ⟨nmf, fun c hc => cfB_ok (List.all_eq_true.mp hcs c hc), fun c hc => He.glo_ok KB NB (cfB_glo (List.all_eq_true.mp hcs c hc)), kitB_ok (fx 13 _ rfl)⟩
  have hu : ∀ x : Str, (x, none) ∈ tfL → ∀ p ∈ TT K, p.1 = (He.cT K (x, none)).2 → p.2 = x ++ ".<locals>." ++ "<lambda>" := fun x hx p hp e => by
    obtain ⟨d, hd, rfl⟩ := List.mem_map.mp hp
    have := of_decide_eq_true (List.all_eq_true.mp (List.all_eq_true.mp AP d hd) _ hx) e
    rw [this]
  obtain ⟨fd_xBadRatio, F_xBadRatio⟩ := fn 0 _ rfl
  have F_xBadRatio : FP K "__init__" "BadRatio.__init__" (inClass (topS 4) 0) [] (He.ma K (He.ga K "BadRatio") "__init__") fd_xBadRatio := F_xBadRatio
  have b_xBadRatio := FunD.bindsN (ps := ["self", "part"]) F_xBadRatio fun _ _ _ _ _ _ us hl => match us, hl with | [_, _], _ => rfl
  have X_BadRatio : XnF K "BadRatio" ["part"] := xnB_ok (fx 15 _ rfl)
  have g_xBadRatio : GXN P w K mg base 1 "BadRatio" ["part"] (cX K "BadRatio") := ⟨X_BadRatio.oex, He.glo_ok KB NB X_BadRatio.glo, _, _, _, X_BadRatio.ini, X_BadRatio.ty, ok_e1 (P := P) (w := w) (mg := mg) (base := base) F_xBadRatio sc_xBadRatio X_BadRatio.oex (X_BadRatio.no "part" (by decide)) (fun _ _ _ _ _ _ => pss_one (ps_ost (pv 0) (pv 1))), b_xBadRatio⟩
  obtain ⟨fd_xBadStep, F_xBadStep⟩ := fn 1 _ rfl
  have F_xBadStep : FP K "__init__" "BadStep.__init__" (inClass (topS 5) 0) [] (He.ma K (He.ga K "BadStep") "__init__") fd_xBadStep := F_xBadStep
  have b_xBadStep := FunD.bindsN (ps := ["self", "part"]) F_xBadStep fun _ _ _ _ _ _ us hl => match us, hl with | [_, _], _ => rfl
  have X_BadStep : XnF K "BadStep" ["part"] := xnB_ok (fx 16 _ rfl)
  have g_xBadStep : GXN P w K mg base 1 "BadStep" ["part"] (cX K "BadStep") := ⟨X_BadStep.oex, He.glo_ok KB NB X_BadStep.glo, _, _, _, X_BadStep.ini, X_BadStep.ty, ok_e1 (P := P) (w := w) (mg := mg) (base := base) F_xBadStep sc_xBadStep X_BadStep.oex (X_BadStep.no "part" (by decide)) (fun _ _ _ _ _ _ => pss_one (ps_ost (pv 0) (pv 1))), b_xBadStep⟩
  obtain ⟨fd_xBadNet, F_xBadNet⟩ := fn 2 _ rfl
  have F_xBadNet : FP K "__init__" "BadNet.__init__" (inClass (topS 6) 0) [] (He.ma K (He.ga K "BadNet") "__init__") fd_xBadNet := F_xBadNet
  have b_xBadNet := FunD.bindsN (ps := ["self", "part"]) F_xBadNet fun _ _ _ _ _ _ us hl => match us, hl with | [_, _], _ => rfl
  have X_BadNet : XnF K "BadNet" ["part"] := xnB_ok (fx 17 _ rfl)
  have g_xBadNet : GXN P w K mg base 1 "BadNet" ["part"] (cX K "BadNet") := ⟨X_BadNet.oex, He.glo_ok KB NB X_BadNet.glo, _, _, _, X_BadNet.ini, X_BadNet.ty, ok_e1 (P := P) (w := w) (mg := mg) (base := base) F_xBadNet sc_xBadNet X_BadNet.oex (X_BadNet.no "part" (by decide)) (fun _ _ _ _ _ _ => pss_one (ps_ost (pv 0) (pv 1))), b_xBadNet⟩
  obtain ⟨fd_xBadRoad, F_xBadRoad⟩ := fn 3 _ rfl
  have F_xBadRoad : FP K "__init__" "BadRoad.__init__" (inClass (topS 7) 0) [] (He.ma K (He.ga K "BadRoad") "__init__") fd_xBadRoad := F_xBadRoad
  have b_xBadRoad := FunD.bindsN (ps := ["self", "part"]) F_xBadRoad fun _ _ _ _ _ _ us hl => match us, hl with | [_, _], _ => rfl
  have X_BadRoad : XnF K "BadRoad" ["part"] := xnB_ok (fx 18 _ rfl)
  have g_xBadRoad : GXN P w K mg base 1 "BadRoad" ["part"] (cX K "BadRoad") := ⟨X_BadRoad.oex, He.glo_ok KB NB X_BadRoad.glo, _, _, _, X_BadRoad.ini, X_BadRoad.ty, ok_e1 (P := P) (w := w) (mg := mg) (base := base) F_xBadRoad sc_xBadRoad X_BadRoad.oex (X_BadRoad.no "part" (by decide)) (fun _ _ _ _ _ _ => pss_one (ps_ost (pv 0) (pv 1))), b_xBadRoad⟩
  obtain ⟨fd_xBadNumber, F_xBadNumber⟩ := fn 4 _ rfl
  have F_xBadNumber : FP K "__init__" "BadNumber.__init__" (inClass (topS 8) 0) [] (He.ma K (He.ga K "BadNumber") "__init__") fd_xBadNumber := F_xBadNumber
  have b_xBadNumber := FunD.bindsN (ps := ["self", "part"]) F_xBadNumber fun _ _ _ _ _ _ us hl => match us, hl with | [_, _], _ => rfl
  have X_BadNumber : XnF K "BadNumber" ["part"] := xnB_ok (fx 19 _ rfl)
  have g_xBadNumber : GXN P w K mg base 1 "BadNumber" ["part"] (cX K "BadNumber") := ⟨X_BadNumber.oex, He.glo_ok KB NB X_BadNumber.glo, _, _, _, X_BadNumber.ini, X_BadNumber.ty, ok_e1 (P := P) (w := w) (mg := mg) (base := base) F_xBadNumber sc_xBadNumber X_BadNumber.oex (X_BadNumber.no "part" (by decide)) (fun _ _ _ _ _ _ => pss_one (ps_ost (pv 0) (pv 1))), b_xBadNumber⟩
  obtain ⟨fd_xRound, F_xRound⟩ := fn 5 _ rfl
  have F_xRound : FP K "__init__" "Round.__init__" (inClass (topS 9) 0) [] (He.ma K (He.ga K "Round") "__init__") fd_xRound := F_xRound
  have b_xRound := FunD.bindsN (ps := ["self", "part"]) F_xRound fun _ _ _ _ _ _ us hl => match us, hl with | [_, _], _ => rfl
  have X_Round : XnF K "Round" ["part"] := xnB_ok (fx 20 _ rfl)
  have g_xRound : GXN P w K mg base 1 "Round" ["part"] (cX K "Round") := ⟨X_Round.oex, He.glo_ok KB NB X_Round.glo, _, _, _, X_Round.ini, X_Round.ty, ok_e1 (P := P) (w := w) (mg := mg) (base := base) F_xRound sc_xRound X_Round.oex (X_Round.no "part" (by decide)) (fun _ _ _ _ _ _ => pss_one (ps_ost (pv 0) (pv 1))), b_xRound⟩
  obtain ⟨fd_xNotNeighbours, F_xNotNeighbours⟩ := fn 6 _ rfl
  have F_xNotNeighbours : FP K "__init__" "NotNeighbours.__init__" (inClass (topS 10) 0) [] (He.ma K (He.ga K "NotNeighbours") "__init__") fd_xNotNeighbours := F_xNotNeighbours
  have b_xNotNeighbours := FunD.bindsN (ps := ["self", "one", "other"]) F_xNotNeighbours fun _ _ _ _ _ _ us hl => match us, hl with | [_, _, _], _ => rfl
  have X_NotNeighbours : XnF K "NotNeighbours" ["one", "other"] := xnB_ok (fx 21 _ rfl)
  have g_xNotNeighbours : GXN P w K mg base 1 "NotNeighbours" ["one", "other"] (cX K "NotNeighbours") := ⟨X_NotNeighbours.oex, He.glo_ok KB NB X_NotNeighbours.glo, _, _, _, X_NotNeighbours.ini, X_NotNeighbours.ty, ok_e2 (P := P) (w := w) (mg := mg) (base := base) F_xNotNeighbours sc_xNotNeighbours X_NotNeighbours.oex (X_NotNeighbours.no "one" (by decide)) (X_NotNeighbours.no "other" (by decide)) (fun _ _ _ _ _ _ => pss_cons (ps_ost (pv 0) (pv 1)) (pss_one (ps_ost (pv 0) (pv 2)))), b_xNotNeighbours⟩
  obtain ⟨fd_xUnlike, F_xUnlike⟩ := fn 7 _ rfl
  have F_xUnlike : FP K "__init__" "Unlike.__init__" (inClass (topS 11) 0) [] (He.ma K (He.ga K "Unlike") "__init__") fd_xUnlike := F_xUnlike
  have b_xUnlike := FunD.bindsN (ps := ["self", "what"]) F_xUnlike fun _ _ _ _ _ _ us hl => match us, hl with | [_, _], _ => rfl
  have X_Unlike : XnF K "Unlike" ["what"] := xnB_ok (fx 22 _ rfl)
  have g_xUnlike : GXN P w K mg base 1 "Unlike" ["what"] (cX K "Unlike") := ⟨X_Unlike.oex, He.glo_ok KB NB X_Unlike.glo, _, _, _, X_Unlike.ini, X_Unlike.ty, ok_e1 (P := P) (w := w) (mg := mg) (base := base) F_xUnlike sc_xUnlike X_Unlike.oex (X_Unlike.no "what" (by decide)) (fun _ _ _ _ _ _ => pss_one (ps_ost (pv 0) (pv 1))), b_xUnlike⟩
  obtain ⟨fd_xTooMany, F_xTooMany⟩ := fn 8 _ rfl
  have F_xTooMany : FP K "__init__" "TooMany.__init__" (inClass (topS 12) 0) [] (He.ma K (He.ga K "TooMany") "__init__") fd_xTooMany := F_xTooMany
  have b_xTooMany := FunD.bindsN (ps := ["self", "what", "most"]) F_xTooMany fun _ _ _ _ _ _ us hl => match us, hl with | [_, _, _], _ => rfl
  have X_TooMany : XnF K "TooMany" ["what", "most"] := xnB_ok (fx 23 _ rfl)
  have g_xTooMany : GXN P w K mg base 1 "TooMany" ["what", "most"] (cX K "TooMany") := ⟨X_TooMany.oex, He.glo_ok KB NB X_TooMany.glo, _, _, _, X_TooMany.ini, X_TooMany.ty, ok_e2 (P := P) (w := w) (mg := mg) (base := base) F_xTooMany sc_xTooMany X_TooMany.oex (X_TooMany.no "what" (by decide)) (X_TooMany.no "most" (by decide)) (fun _ _ _ _ _ _ => pss_cons (ps_ost (pv 0) (pv 1)) (pss_one (ps_ost (pv 0) (pv 2)))), b_xTooMany⟩
  have h_gcd : mg "gcd" = some (.builtin "math.gcd") := PySem.W.mg_of KB NB (of_decide_eq_true (fx 11 _ rfl))
  have h_all : mg "all" = none := He.free_ok KB NB (fx 10 _ rfl)
  have h_zip : mg "zip" = none := He.free_ok KB NB (fx 24 _ rfl)
  have h_sum : mg "sum" = none := He.free_ok KB NB (fx 25 _ rfl)
  have h_min : mg "min" = none := He.free_ok KB NB (fx 26 _ rfl)
  have gE : GE K mg := ⟨fun x hx y hy => of_decide_eq_true (List.all_eq_true.mp (List.all_eq_true.mp (show geB K = true from fx 27 _ rfl) x hx) y hy), fun x hx => xfB_ok (List.all_eq_true.mp (show gfB K = true from fx 28 _ rfl) x hx), fun e he => of_decide_eq_true (List.all_eq_true.mp (show gnB K = true from fx 29 _ rfl) e he), fun x hx => He.glo_ok KB NB (List.all_eq_true.mp (show ggB K = true from fx 30 _ rfl) x hx)⟩
  obtain ⟨tk3, h_runs⟩ := He.int_ok KB NB (fx 31 _ rfl)
  have h_KINDS : mg "KINDS" = some (.ref (He.ga K "KINDS")) := gl "KINDS" (by decide +kernel)
  have t_KINDS : WT K (He.ga K "KINDS") [.str "edge", .str "first", .str "open", .str "ended"] := wtB_ok (fx 32 _ rfl)
  have h_WITHOUT_RUNS : mg "WITHOUT_RUNS" = some (.ref (He.ga K "WITHOUT_RUNS")) := gl "WITHOUT_RUNS" (by decide +kernel)
  have t_WITHOUT_RUNS : WT K (He.ga K "WITHOUT_RUNS") [.str "edge", .str "first"] := wtB_ok (fx 33 _ rfl)
  obtain ⟨fd_l_heard, F_l_heard⟩ := fn 9 _ rfl
  have F_l_heard : FP K "_law_heard" "_law_heard" (topS 81) [] (He.ga K "_law_heard") fd_l_heard := F_l_heard
  have gHd : GHd P w K mg base := GHd.of F_l_heard (gl "_law_heard" (by decide +kernel))
  have c_law : fd_law.code = .ref (He.cT K ("law", none)).1 := code_of F_law
  obtain ⟨fd_is_integer, F_is_integer⟩ := fn 10 _ rfl
  have F_is_integer : FP K "is_integer" "is_integer" (topS 16) [] (He.ga K "is_integer") fd_is_integer := F_is_integer
  have b_is_integer := FunD.bindsN (ps := ["value"]) F_is_integer fun _ _ _ _ _ _ us hl => match us, hl with | [_], _ => rfl
  have o_is_integer := ok_is_integer (P := P) (w := w) (base := base) G0 F_is_integer
  have g_is_integer : GD P w K mg base (L2.CX P w) 1 "is_integer" ["value"] [] (spR K csL tsL 3900 RIsInt) := ⟨_, _, [], o_is_integer, gl "is_integer" (by decide +kernel), F_is_integer.kp, b_is_integer, .nil⟩
  obtain ⟨fd_sign_of, F_sign_of⟩ := fn 11 _ rfl
  have F_sign_of : FP K "sign_of" "sign_of" (topS 27) [] (He.ga K "sign_of") fd_sign_of := F_sign_of
  have b_sign_of := FunD.bindsN (ps := ["number"]) F_sign_of fun _ _ _ _ _ _ us hl => match us, hl with | [_], _ => rfl
  have o_sign_of := ok_sign_of (P := P) (w := w) (base := base) G0 F_sign_of
  have g_sign_of : GD P w K mg base (L2.CX P w) 1 "sign_of" ["number"] [] (spR K csL tsL 100000 RSign) := ⟨_, _, [], o_sign_of, gl "sign_of" (by decide +kernel), F_sign_of.kp, b_sign_of, .nil⟩
  obtain ⟨fd_Ratio_below, F_Ratio_below⟩ := fn 12 _ rfl
  have F_Ratio_below : FP K "below" "Ratio.below" (inClass (topS 26) 3) [] (He5.wf K (He.ga K "Ratio") "property" "below") fd_Ratio_below := F_Ratio_below
  have b_Ratio_below := FunD.bindsN (ps := ["self"]) F_Ratio_below fun _ _ _ _ _ _ us hl => match us, hl with | [_], _ => rfl
  have o_Ratio_below := ok_Ratio_below (P := P) (w := w) (base := base) G0 F_Ratio_below
  have g_Ratio_below : GP P w K mg base (L2.CX P w) 1 (ca K .Ratio) "below" (spR K csL tsL 3900 (RPropR fun q => .int q.floor)) := ⟨(G0.cf .Ratio (by decide)).cl, _, _, _, _, propB_ok (fx 34 _ rfl), o_Ratio_below, b_Ratio_below⟩
  obtain ⟨fd_is_upward, F_is_upward⟩ := fn 13 _ rfl
  have F_is_upward : FP K "is_upward" "is_upward" (topS 36) [] (He.ga K "is_upward") fd_is_upward := F_is_upward
  have b_is_upward := FunD.bindsN (ps := ["step"]) F_is_upward fun _ _ _ _ _ _ us hl => match us, hl with | [_], _ => rfl
  have o_is_upward := ok_is_upward (P := P) (w := w) (base := base) G0 F_is_upward
  have g_is_upward : GD P w K mg base (L2.CX P w) 1 "is_upward" ["step"] [] (spR K csL tsL 3900 RIsUp) := ⟨_, _, [], o_is_upward, gl "is_upward" (by decide +kernel), F_is_upward.kp, b_is_upward, .nil⟩
  obtain ⟨fd_Ratio_is_whole, F_Ratio_is_whole⟩ := fn 14 _ rfl
  have F_Ratio_is_whole : FP K "is_whole" "Ratio.is_whole" (inClass (topS 26) 2) [] (He5.wf K (He.ga K "Ratio") "property" "is_whole") fd_Ratio_is_whole := F_Ratio_is_whole
  have b_Ratio_is_whole := FunD.bindsN (ps := ["self"]) F_Ratio_is_whole fun _ _ _ _ _ _ us hl => match us, hl with | [_], _ => rfl
  have o_Ratio_is_whole := ok_Ratio_is_whole (P := P) (w := w) (base := base) G0 F_Ratio_is_whole
  have g_Ratio_is_whole : GP P w K mg base (L2.CX P w) 1 (ca K .Ratio) "is_whole" (spR K csL tsL 3900 (RPropR fun q => .bl (decide (q.den = 1)))) := ⟨(G0.cf .Ratio (by decide)).cl, _, _, _, _, propB_ok (fx 35 _ rfl), o_Ratio_is_whole, b_Ratio_is_whole⟩
  obtain ⟨fd_is_list, F_is_list⟩ := fn 15 _ rfl
  have F_is_list : FP K "is_list" "is_list" (topS 17) [] (He.ga K "is_list") fd_is_list := F_is_list
  have b_is_list := FunD.bindsN (ps := ["value"]) F_is_list fun _ _ _ _ _ _ us hl => match us, hl with | [_], _ => rfl
  have o_is_list := ok_is_list (P := P) (w := w) (base := base) G0 F_is_list
  have g_is_list : GD P w K mg base (L2.CX P w) 1 "is_list" ["value"] [] (spR K csL tsL 100000 RIsList) := ⟨_, _, [], o_is_list, gl "is_list" (by decide +kernel), F_is_list.kp, b_is_list, .nil⟩
  obtain ⟨fd_Road_eq, F_Road_eq⟩ := fn 16 _ rfl
  have F_Road_eq : FP K "__eq__" "Road.__eq__" (inClass (topS 55) 1) [] (He.ma K (He.ga K "Road") "__eq__") fd_Road_eq := F_Road_eq
  have b_Road_eq := FunD.bindsN (ps := ["self", "other"]) F_Road_eq fun _ _ _ _ _ _ us hl => match us, hl with | [_, _], _ => rfl
  have o_Road_eq := ok_Road_eq (P := P) (w := w) (base := base) G0 F_Road_eq
  have g_Road_eq : GN P w K mg base (L2.CX P w) 1 (ca K .Road) "__eq__" (spR K csL tsL 100000 REqRd) := ⟨_, _, _, (nm_ok (fx 36 _ rfl)).1, (nm_ok (fx 36 _ rfl)).2, o_Road_eq, b_Road_eq⟩
  have g_Road_eq_ne : GNe P w K mg base (L2.CX P w) 1 (ca K .Road) (spR K csL tsL 100000 REqRd) := ⟨of_decide_eq_true (fx 37 _ rfl), (G0.cf .Road (by decide)).hm, g_Road_eq⟩
  have nf_Road : ∀ t ∈ tsL, PySem.W.notFirst K (ca K .Road) (tv K t) = true := nfB_ok (fx 38 _ rfl)
  obtain ⟨fd_begin_alike, F_begin_alike⟩ := fn 17 _ rfl
  have F_begin_alike : FP K "begin_alike" "begin_alike" (topS 49) [] (He.ga K "begin_alike") fd_begin_alike := F_begin_alike
  have b_begin_alike := FunD.bindsN (ps := ["one", "other"]) F_begin_alike fun _ _ _ _ _ _ us hl => match us, hl with | [_, _], _ => rfl
  have o_begin_alike := ok_begin_alike (h_min := h_min) (h_zip := h_zip) (P := P) (w := w) (base := base) G0 F_begin_alike
  have g_begin_alike : GD P w K mg base (L2.CX P w) 1 "begin_alike" ["one", "other"] [] (spR K csL tsL 100000 RAlike) := ⟨_, _, [], o_begin_alike, gl "begin_alike" (by decide +kernel), F_begin_alike.kp, b_begin_alike, .nil⟩
  obtain ⟨fd_l_pail, F_l_pail⟩ := fn 18 _ rfl
  have F_l_pail : FP K "_law_pail" "_law_pail" (topS 66) [] (He.ga K "_law_pail") fd_l_pail := F_l_pail
  have b_l_pail := FunD.bindsN (ps := ["_law_script"]) F_l_pail fun _ _ _ _ _ _ us hl => match us, hl with | [_], _ => rfl
  have o_l_pail := ok__law_pail (P := P) (w := w) (base := base) G0 F_l_pail
  have g_l_pail : GD P w K mg base (L2.CX P w) 1 "_law_pail" ["_law_script"] [] (spPail K) := ⟨_, _, [], o_l_pail, gl "_law_pail" (by decide +kernel), F_l_pail.kp, b_l_pail, .nil⟩
  obtain ⟨fd_l_dip, F_l_dip⟩ := fn 19 _ rfl
  have F_l_dip : FP K "_law_dip" "_law_dip" (topS 67) [] (He.ga K "_law_dip") fd_l_dip := F_l_dip
  have b_l_dip := FunD.bindsN (ps := ["_law_pail_here", "_law_many"]) F_l_dip fun _ _ _ _ _ _ us hl => match us, hl with | [_, _], _ => rfl
  have o_l_dip := ok__law_dip (P := P) (w := w) (base := base) G0 F_l_dip
  have g_l_dip : GD P w K mg base (L2.CX P w) 1 "_law_dip" ["_law_pail_here", "_law_many"] [] spDip := ⟨_, _, [], o_l_dip, gl "_law_dip" (by decide +kernel), F_l_dip.kp, b_l_dip, .nil⟩
  obtain ⟨fd_l_less, F_l_less⟩ := fn 20 _ rfl
  have F_l_less : FP K "_law_less" "_law_less" (topS 70) [] (He.ga K "_law_less") fd_l_less := F_l_less
  have b_l_less := FunD.bindsN (ps := ["_law_one", "_law_other"]) F_l_less fun _ _ _ _ _ _ us hl => match us, hl with | [_, _], _ => rfl
  have o_l_less := ok__law_less (P := P) (w := w) (base := base) G0 F_l_less
  have g_l_less : GD P w K mg base (L2.CX P w) 1 "_law_less" ["_law_one", "_law_other"] [] (spR K csL tsL 100000 RLess) := ⟨_, _, [], o_l_less, gl "_law_less" (by decide +kernel), F_l_less.kp, b_l_less, .nil⟩
  obtain ⟨fd_l_ends, F_l_ends⟩ := fn 21 _ rfl
  have F_l_ends : FP K "_law_ends" "_law_ends" (topS 69) [] (He.ga K "_law_ends") fd_l_ends := F_l_ends
  have b_l_ends := FunD.bindsN (ps := ["_law_road_here"]) F_l_ends fun _ _ _ _ _ _ us hl => match us, hl with | [_], _ => rfl
  have o_l_ends := ok__law_ends (P := P) (w := w) (base := base) G0 F_l_ends
  have g_l_ends : GD P w K mg base (L2.CX P w) 1 "_law_ends" ["_law_road_here"] [] (spR K csL tsL 100000 REnds) := ⟨_, _, [], o_l_ends, gl "_law_ends" (by decide +kernel), F_l_ends.kp, b_l_ends, .nil⟩
  obtain ⟨fd_l_told, F_l_told⟩ := fn 22 _ rfl
  have F_l_told : FP K "_law_told" "_law_told" (topS 78) [] (He.ga K "_law_told") fd_l_told := F_l_told
  have b_l_told := FunD.bindsN (ps := ["_law_road_here"]) F_l_told fun _ _ _ _ _ _ us hl => match us, hl with | [_], _ => rfl
  have o_l_told := ok__law_told (P := P) (w := w) (base := base) G0 F_l_told
  have g_l_told : GD P w K mg base (L2.CX P w) 1 "_law_told" ["_law_road_here"] [] (spR K csL tsL 100000 RToldR) := ⟨_, _, [], o_l_told, gl "_law_told" (by decide +kernel), F_l_told.kp, b_l_told, .nil⟩
  obtain ⟨fd_is_ratio, F_is_ratio⟩ := fn 23 _ rfl
  have F_is_ratio : FP K "is_ratio" "is_ratio" (topS 28) [] (He.ga K "is_ratio") fd_is_ratio := F_is_ratio
  have b_is_ratio := FunD.bindsN (ps := ["value"]) F_is_ratio fun _ _ _ _ _ _ us hl => match us, hl with | [_], _ => rfl
  have o_is_ratio := ok_is_ratio (g_is_integer := g_is_integer) (P := P) (w := w) (base := base) G0 F_is_ratio
  have g_is_ratio : GD P w K mg base (L2.CX P w) 2 "is_ratio" ["value"] [] (spR K csL tsL 3900 RIsRat) := ⟨_, _, [], o_is_ratio, gl "is_ratio" (by decide +kernel), F_is_ratio.kp, b_is_ratio, .nil⟩
  obtain ⟨fd_are_runs, F_are_runs⟩ := fn 24 _ rfl
  have F_are_runs : FP K "are_runs" "are_runs" (topS 56) [] (He.ga K "are_runs") fd_are_runs := F_are_runs
  have b_are_runs := FunD.bindsN (ps := ["value"]) F_are_runs fun _ _ _ _ _ _ us hl => match us, hl with | [_], _ => rfl
  have o_are_runs := ok_are_runs (g_is_integer := g_is_integer) (g_is_list := g_is_list) (h_all := h_all) (P := P) (w := w) (base := base) G0 F_are_runs
  have g_are_runs : GD P w K mg base (L2.CX P w) 2 "are_runs" ["value"] [] (spR K csL tsL 100000 RAreRuns) := ⟨_, _, [], o_are_runs, gl "are_runs" (by decide +kernel), F_are_runs.kp, b_are_runs, .nil⟩
  obtain ⟨fd_is_begin, F_is_begin⟩ := fn 25 _ rfl
  have F_is_begin : FP K "is_begin" "is_begin" (topS 50) [] (He.ga K "is_begin") fd_is_begin := F_is_begin
  have b_is_begin := FunD.bindsN (ps := ["one", "other"]) F_is_begin fun _ _ _ _ _ _ us hl => match us, hl with | [_, _], _ => rfl
  have o_is_begin := ok_is_begin (g_begin_alike := g_begin_alike) (P := P) (w := w) (base := base) G0 F_is_begin
  have g_is_begin : GD P w K mg base (L2.CX P w) 2 "is_begin" ["one", "other"] [] (spR K csL tsL 100000 RIsBeg) := ⟨_, _, [], o_is_begin, gl "is_begin" (by decide +kernel), F_is_begin.kp, b_is_begin, .nil⟩
  obtain ⟨fd_l_middle, F_l_middle⟩ := fn 26 _ rfl
  have F_l_middle : FP K "_law_middle" "_law_middle" (topS 71) [] (He.ga K "_law_middle") fd_l_middle := F_l_middle
  have b_l_middle := FunD.bindsN (ps := ["_law_road_here"]) F_l_middle fun _ _ _ _ _ _ us hl => match us, hl with | [_], _ => rfl
  have o_l_middle := ok__law_middle (g_l_ends := g_l_ends) (P := P) (w := w) (base := base) G0 F_l_middle
  have g_l_middle : GD P w K mg base (L2.CX P w) 2 "_law_middle" ["_law_road_here"] [] (spR K csL tsL 100000 RMidd) := ⟨_, _, [], o_l_middle, gl "_law_middle" (by decide +kernel), F_l_middle.kp, b_l_middle, .nil⟩
  obtain ⟨fd_l_runs, F_l_runs⟩ := fn 27 _ rfl
  have F_l_runs : FP K "_law_runs" "_law_runs" (topS 68) [] (He.ga K "_law_runs") fd_l_runs := F_l_runs
  have b_l_runs := FunD.bindsN (ps := ["_law_pail_here"]) F_l_runs fun _ _ _ _ _ _ us hl => match us, hl with | [_], _ => rfl
  have o_l_runs := ok__law_runs (g_l_dip := g_l_dip) (T := TT K) (P := P) (w := w) (base := base) G0 F_l_runs
  have g_l_runs : GD P w K mg base (L2.CX P w) 2 "_law_runs" ["_law_pail_here"] [] (spLP K csL tsL (TT K) 60 950000 14 (fun ds => ds = []) (fun _ d => ∃ rs : List Int, d = .lst (iDs rs) ∧ Rk 4 rs)) := ⟨_, _, [], o_l_runs, gl "_law_runs" (by decide +kernel), F_l_runs.kp, b_l_runs, .nil⟩
  obtain ⟨fd_l_kin, F_l_kin⟩ := fn 28 _ rfl
  have F_l_kin : FP K "_law_kin" "_law_kin" (topS 77) [] (He.ga K "_law_kin") fd_l_kin := F_l_kin
  have b_l_kin := FunD.bindsN (ps := ["_law_pail_here", "_law_road_here"]) F_l_kin fun _ _ _ _ _ _ us hl => match us, hl with | [_, _], _ => rfl
  have o_l_kin := ok__law_kin (g_l_dip := g_l_dip) (T := TT K) (P := P) (w := w) (base := base) G0 F_l_kin
  have g_l_kin : GD P w K mg base (L2.CX P w) 2 "_law_kin" ["_law_pail_here", "_law_road_here"] [] (spLP K csL tsL (TT K) 60 900000 3 (fun ds => ∃ w rs, ∃ k : Kd, ds = [dRd w rs k.str] ∧ RdOk w rs k ∧ rs.length ≤ 5) (fun ds d => ∃ w rs ss, ∃ k l : Kd, ds = [dRd w rs k.str] ∧ d = dRd w ss l.str ∧ RdOk w ss l ∧ ss.length ≤ 5)) := ⟨_, _, [], o_l_kin, gl "_law_kin" (by decide +kernel), F_l_kin.kp, b_l_kin, .nil⟩
  obtain ⟨fd_Ratio_init, F_Ratio_init⟩ := fn 29 _ rfl
  have F_Ratio_init : FP K "__init__" "Ratio.__init__" (inClass (topS 26) 0) [.int 1] (He.ma K (He.ga K "Ratio") "__init__") fd_Ratio_init := F_Ratio_init
  have o_Ratio_init := ok_Ratio_init (g_is_integer := g_is_integer) (g_xBadRatio := g_xBadRatio) (h_gcd := h_gcd) (P := P) (w := w) (base := base) G0 F_Ratio_init
  obtain ⟨ds3, v3, b3⟩ := FunD.binds1 (ps := ["self", "top", "bottom"]) F_Ratio_init 3 1 (by simp) rfl fun T kV doc pm an cdv ct us its hu hi => match us, its, hu, hi with | [_, _, _], [_], _, _ => ⟨_, rfl, rfl⟩
  obtain ⟨ds2, v2, b2⟩ := FunD.binds1 (ps := ["self", "top", "bottom"]) F_Ratio_init 2 0 (by simp) rfl fun T kV doc pm an cdv ct us its hu hi => match us, its, hu, hi with | [_, _], [_], _, _ => ⟨_, rfl, rfl⟩
  have g_mRatio : GM P w K mg base (L2.CX P w) 3 "Ratio" (ca K .Ratio) ["self", "top", "bottom"] [] (spRI K csL tsL .Ratio 3900 RInitR) := ⟨_, _, ds3, o_Ratio_init, He.mkr_ok (fx 39 _ rfl), G0.mgc .Ratio (by decide), b3, v3⟩
  have g_mRatio1 : GM P w K mg base (L2.CX P w) 3 "Ratio" (ca K .Ratio) ["self", "top", "bottom"] [.int 1] (spRI K csL tsL .Ratio 3900 RInitR) := ⟨_, _, ds2, o_Ratio_init, He.mkr_ok (fx 39 _ rfl), G0.mgc .Ratio (by decide), b2, v2⟩
  obtain ⟨fd_Step_init, F_Step_init⟩ := fn 30 _ rfl
  have F_Step_init : FP K "__init__" "Step.__init__" (inClass (topS 34) 0) [] (He.ma K (He.ga K "Step") "__init__") fd_Step_init := F_Step_init
  have b_Step_init := FunD.bindsN (ps := ["self", "studs", "rounds"]) F_Step_init fun _ _ _ _ _ _ us hl => match us, hl with | [_, _, _], _ => rfl
  have o_Step_init := ok_Step_init (g_is_integer := g_is_integer) (g_xBadStep := g_xBadStep) (h_gcd := h_gcd) (P := P) (w := w) (base := base) G0 F_Step_init
  have g_mStep : GM P w K mg base (L2.CX P w) 3 "Step" (ca K .Step) ["self", "studs", "rounds"] [] (spRI K csL tsL .Step 3900 RInitS) := ⟨_, _, [], o_Step_init, He.mkr_ok (fx 40 _ rfl), G0.mgc .Step (by decide), b_Step_init, .nil⟩
  obtain ⟨fd_need_step, F_need_step⟩ := fn 31 _ rfl
  have F_need_step : FP K "need_step" "need_step" (topS 37) [] (He.ga K "need_step") fd_need_step := F_need_step
  have b_need_step := FunD.bindsN (ps := ["value", "part"]) F_need_step fun _ _ _ _ _ _ us hl => match us, hl with | [_, _], _ => rfl
  have o_need_step := ok_need_step (g_xBadStep := g_xBadStep) (P := P) (w := w) (base := base) G0 F_need_step
  have g_need_step : GD P w K mg base (L2.CX P w) 3 "need_step" ["value", "part"] [] (spR K csL tsL 100000 (RNeed .Step "BadStep")) := ⟨_, _, [], o_need_step, gl "need_step" (by decide +kernel), F_need_step.kp, b_need_step, .nil⟩
  obtain ⟨fd_need_studs, F_need_studs⟩ := fn 32 _ rfl
  have F_need_studs : FP K "need_studs" "need_studs" (topS 38) [] (He.ga K "need_studs") fd_need_studs := F_need_studs
  have b_need_studs := FunD.bindsN (ps := ["step", "part"]) F_need_studs fun _ _ _ _ _ _ us hl => match us, hl with | [_, _], _ => rfl
  have o_need_studs := ok_need_studs (g_xRound := g_xRound) (P := P) (w := w) (base := base) G0 F_need_studs
  have g_need_studs : GD P w K mg base (L2.CX P w) 3 "need_studs" ["step", "part"] [] (spR K csL tsL 100000 RNeedK) := ⟨_, _, [], o_need_studs, gl "need_studs" (by decide +kernel), F_need_studs.kp, b_need_studs, .nil⟩
  obtain ⟨fd_need_integer, F_need_integer⟩ := fn 33 _ rfl
  have F_need_integer : FP K "need_integer" "need_integer" (topS 18) [] (He.ga K "need_integer") fd_need_integer := F_need_integer
  have b_need_integer := FunD.bindsN (ps := ["value", "part"]) F_need_integer fun _ _ _ _ _ _ us hl => match us, hl with | [_, _], _ => rfl
  have o_need_integer := ok_need_integer (g_is_integer := g_is_integer) (g_xBadNumber := g_xBadNumber) (P := P) (w := w) (base := base) G0 F_need_integer
  have g_need_integer : GD P w K mg base (L2.CX P w) 3 "need_integer" ["value", "part"] [] (spR K csL tsL 10 RNever) := ⟨_, _, [], o_need_integer, gl "need_integer" (by decide +kernel), F_need_integer.kp, b_need_integer, .nil⟩
  obtain ⟨fd_need_road, F_need_road⟩ := fn 34 _ rfl
  have F_need_road : FP K "need_road" "need_road" (topS 58) [] (He.ga K "need_road") fd_need_road := F_need_road
  have b_need_road := FunD.bindsN (ps := ["value", "part"]) F_need_road fun _ _ _ _ _ _ us hl => match us, hl with | [_, _], _ => rfl
  have o_need_road := ok_need_road (g_xBadRoad := g_xBadRoad) (P := P) (w := w) (base := base) G0 F_need_road
  have g_need_road : GD P w K mg base (L2.CX P w) 3 "need_road" ["value", "part"] [] (spR K csL tsL 100000 (RNeed .Road "BadRoad")) := ⟨_, _, [], o_need_road, gl "need_road" (by decide +kernel), F_need_road.kp, b_need_road, .nil⟩
  obtain ⟨fd_Road_init, F_Road_init⟩ := fn 35 _ rfl
  have F_Road_init : FP K "__init__" "Road.__init__" (inClass (topS 55) 0) [] (He.ma K (He.ga K "Road") "__init__") fd_Road_init := F_Road_init
  have b_Road_init := FunD.bindsN (ps := ["self", "whole", "runs", "kind"]) F_Road_init fun _ _ _ _ _ _ us hl => match us, hl with | [_, _, _, _], _ => rfl
  have o_Road_init := ok_Road_init (g_are_runs := g_are_runs) (g_is_integer := g_is_integer) (g_xBadRoad := g_xBadRoad) (g_xTooMany := g_xTooMany) (h_KINDS := h_KINDS) (h_WITHOUT_RUNS := h_WITHOUT_RUNS) (h_runs := h_runs) (h_sum := h_sum) (t_KINDS := t_KINDS) (t_WITHOUT_RUNS := t_WITHOUT_RUNS) (P := P) (w := w) (base := base) G0 F_Road_init
  have g_mRoad : GM P w K mg base (L2.CX P w) 3 "Road" (ca K .Road) ["self", "whole", "runs", "kind"] [] (spRI K csL tsL .Road 3900 RInitRd) := ⟨_, _, [], o_Road_init, He.mkr_ok (fx 41 _ rfl), G0.mgc .Road (by decide), b_Road_init, .nil⟩
  obtain ⟨fd_l_within, F_l_within⟩ := fn 36 _ rfl
  have F_l_within : FP K "_law_within" "_law_within" (topS 72) [] (He.ga K "_law_within") fd_l_within := F_l_within
  have b_l_within := FunD.bindsN (ps := ["_law_one", "_law_other"]) F_l_within fun _ _ _ _ _ _ us hl => match us, hl with | [_, _], _ => rfl
  have o_l_within := ok__law_within (g_l_ends := g_l_ends) (g_l_less := g_l_less) (g_l_middle := g_l_middle) (P := P) (w := w) (base := base) G0 F_l_within
  have g_l_within : GD P w K mg base (L2.CX P w) 3 "_law_within" ["_law_one", "_law_other"] [] (spR K csL tsL 100000 RWith) := ⟨_, _, [], o_l_within, gl "_law_within" (by decide +kernel), F_l_within.kp, b_l_within, .nil⟩
  obtain ⟨fd_l_side, F_l_side⟩ := fn 37 _ rfl
  have F_l_side : FP K "_law_side" "_law_side" (topS 74) [] (He.ga K "_law_side") fd_l_side := F_l_side
  have b_l_side := FunD.bindsN (ps := ["_law_road_here", "_law_middle_here"]) F_l_side fun _ _ _ _ _ _ us hl => match us, hl with | [_, _], _ => rfl
  have o_l_side := ok__law_side (g_l_ends := g_l_ends) (g_l_less := g_l_less) (g_l_middle := g_l_middle) (P := P) (w := w) (base := base) G0 F_l_side
  have g_l_side : GD P w K mg base (L2.CX P w) 3 "_law_side" ["_law_road_here", "_law_middle_here"] [] (spR K csL tsL 100000 RSide) := ⟨_, _, [], o_l_side, gl "_law_side" (by decide +kernel), F_l_side.kp, b_l_side, .nil⟩
  obtain ⟨fd_l_road, F_l_road⟩ := fn 38 _ rfl
  have F_l_road : FP K "_law_road" "_law_road" (topS 76) [] (He.ga K "_law_road") fd_l_road := F_l_road
  have b_l_road := FunD.bindsN (ps := ["_law_pail_here", "_law_whole"]) F_l_road fun _ _ _ _ _ _ us hl => match us, hl with | [_, _], _ => rfl
  have o_l_road := ok__law_road (g_l_dip := g_l_dip) (g_l_runs := g_l_runs) (T := TT K) (P := P) (w := w) (base := base) G0 F_l_road
  have g_l_road : GD P w K mg base (L2.CX P w) 3 "_law_road" ["_law_pail_here", "_law_whole"] [] (spLP K csL tsL (TT K) 60 900000 15 (fun ds => ∃ w : Int, ds = [.int w] ∧ w.natAbs < 2 ^ 8) (fun ds d => ∃ w rs, ∃ k : Kd, ds = [.int w] ∧ d = dRd w rs k.str ∧ RdOk w rs k ∧ rs.length ≤ 4)) := ⟨_, _, [], o_l_road, gl "_law_road" (by decide +kernel), F_l_road.kp, b_l_road, .nil⟩
  obtain ⟨fd_cross, F_cross⟩ := fn 39 _ rfl
  have F_cross : FP K "cross" "cross" (topS 41) [] (He.ga K "cross") fd_cross := F_cross
  have b_cross := FunD.bindsN (ps := ["one", "other"]) F_cross fun _ _ _ _ _ _ us hl => match us, hl with | [_, _], _ => rfl
  have o_cross := ok_cross (g_need_step := g_need_step) (P := P) (w := w) (base := base) G0 F_cross
  have g_cross : GD P w K mg base (L2.CX P w) 4 "cross" ["one", "other"] [] (spR K csL tsL 1900 RCross) := ⟨_, _, [], o_cross, gl "cross" (by decide +kernel), F_cross.kp, b_cross, .nil⟩
  obtain ⟨fd_is_ahead, F_is_ahead⟩ := fn 40 _ rfl
  have F_is_ahead : FP K "is_ahead" "is_ahead" (topS 62) [] (He.ga K "is_ahead") fd_is_ahead := F_is_ahead
  have b_is_ahead := FunD.bindsN (ps := ["one", "other"]) F_is_ahead fun _ _ _ _ _ _ us hl => match us, hl with | [_, _], _ => rfl
  have o_is_ahead := ok_is_ahead (g_Road_eq := g_Road_eq) (g_is_begin := g_is_begin) (g_need_road := g_need_road) (nf_Road := nf_Road) (P := P) (w := w) (base := base) G0 F_is_ahead
  have g_is_ahead : GD P w K mg base (L2.CX P w) 4 "is_ahead" ["one", "other"] [] (spR K csL tsL 100000 RAhead) := ⟨_, _, [], o_is_ahead, gl "is_ahead" (by decide +kernel), F_is_ahead.kp, b_is_ahead, .nil⟩
  have g_is_ahead_k : GDK P w K mg base (L2.CX P w) 4 "is_ahead" ["one", "other"] 2 [0, 1] (spR K csL tsL 100000 RAhead) := ⟨_, _, ["one", "other"], o_is_ahead, gl "is_ahead" (by decide +kernel), F_is_ahead.kp, gk_2 F_is_ahead rfl (fun _ _ _ _ _ _ _ _ => rfl)⟩
  obtain ⟨fd_l_ahead, F_l_ahead⟩ := fn 41 _ rfl
  have F_l_ahead : FP K "_law_ahead" "_law_ahead" (topS 73) [] (He.ga K "_law_ahead") fd_l_ahead := F_l_ahead
  have b_l_ahead := FunD.bindsN (ps := ["_law_one", "_law_other"]) F_l_ahead fun _ _ _ _ _ _ us hl => match us, hl with | [_, _], _ => rfl
  have o_l_ahead := ok__law_ahead (g_l_within := g_l_within) (P := P) (w := w) (base := base) G0 F_l_ahead
  have g_l_ahead : GD P w K mg base (L2.CX P w) 4 "_law_ahead" ["_law_one", "_law_other"] [] (spR K csL tsL 100000 RAhL) := ⟨_, _, [], o_l_ahead, gl "_law_ahead" (by decide +kernel), F_l_ahead.kp, b_l_ahead, .nil⟩
  obtain ⟨fd_Ratio_of, F_Ratio_of⟩ := fn 42 _ rfl
  have F_Ratio_of : FP K "of" "Ratio.of" (inClass (topS 26) 17) [] (He5.wf K (He.ga K "Ratio") "staticmethod" "of") fd_Ratio_of := F_Ratio_of
  have b_Ratio_of := FunD.bindsN (ps := ["value"]) F_Ratio_of fun _ _ _ _ _ _ us hl => match us, hl with | [_], _ => rfl
  have o_Ratio_of := ok_Ratio_of (g_is_ratio := g_is_ratio) (g_mRatio1 := g_mRatio1) (g_xBadRatio := g_xBadRatio) (P := P) (w := w) (base := base) G0 F_Ratio_of
  have g_Ratio_of : GS P w K mg base (L2.CX P w) 5 (ca K .Ratio) "of" (spR K csL tsL 3900 (ROf "BadRatio" "value")) := ⟨_, _, _, _, _, smB_ok (fx 42 _ rfl), o_Ratio_of, b_Ratio_of⟩
  obtain ⟨fd_summed, F_summed⟩ := fn 43 _ rfl
  have F_summed : FP K "summed" "summed" (topS 35) [] (He.ga K "summed") fd_summed := F_summed
  have b_summed := FunD.bindsN (ps := ["studs", "rounds"]) F_summed fun _ _ _ _ _ _ us hl => match us, hl with | [_, _], _ => rfl
  have o_summed := ok_summed (g_mStep := g_mStep) (g_xBadStep := g_xBadStep) (P := P) (w := w) (base := base) G0 F_summed
  have g_summed : GD P w K mg base (L2.CX P w) 5 "summed" ["studs", "rounds"] [] (spR K csL tsL 3900 RSummed) := ⟨_, _, [], o_summed, gl "summed" (by decide +kernel), F_summed.kp, b_summed, .nil⟩
  obtain ⟨fd_Step_mul, F_Step_mul⟩ := fn 44 _ rfl
  have F_Step_mul : FP K "__mul__" "Step.__mul__" (inClass (topS 34) 7) [] (He.ma K (He.ga K "Step") "__mul__") fd_Step_mul := F_Step_mul
  have b_Step_mul := FunD.bindsN (ps := ["self", "other"]) F_Step_mul fun _ _ _ _ _ _ us hl => match us, hl with | [_, _], _ => rfl
  have o_Step_mul := ok_Step_mul (g_is_integer := g_is_integer) (g_mStep := g_mStep) (g_xBadNumber := g_xBadNumber) (P := P) (w := w) (base := base) G0 F_Step_mul
  have g_Step_Mult : GO P w K mg base (L2.CX P w) 5 (ca K .Step) .Mult (spR K csL tsL 1900 RMulS) := ⟨_, _, _, opB_ok (fx 43 _ rfl), o_Step_mul, b_Step_mul⟩
  obtain ⟨fd_Step_corner, F_Step_corner⟩ := fn 45 _ rfl
  have F_Step_corner : FP K "corner" "Step.corner" (inClass (topS 34) 2) [] (He5.wf K (He.ga K "Step") "property" "corner") fd_Step_corner := F_Step_corner
  have b_Step_corner := FunD.bindsN (ps := ["self"]) F_Step_corner fun _ _ _ _ _ _ us hl => match us, hl with | [_], _ => rfl
  have o_Step_corner := ok_Step_corner (g_mRatio := g_mRatio) (g_need_studs := g_need_studs) (P := P) (w := w) (base := base) G0 F_Step_corner
  have g_Step_corner : GP P w K mg base (L2.CX P w) 5 (ca K .Step) "corner" (spR K csL tsL 3900 RCorner) := ⟨(G0.cf .Step (by decide)).cl, _, _, _, _, propB_ok (fx 44 _ rfl), o_Step_corner, b_Step_corner⟩
  obtain ⟨fd_Step_one_round, F_Step_one_round⟩ := fn 46 _ rfl
  have F_Step_one_round : FP K "one_round" "Step.one_round" (inClass (topS 34) 3) [] (He5.wf K (He.ga K "Step") "staticmethod" "one_round") fd_Step_one_round := F_Step_one_round
  have b_Step_one_round := FunD.bindsN (ps := []) F_Step_one_round fun _ _ _ _ _ _ us hl => match us, hl with | [], _ => rfl
  have o_Step_one_round := ok_Step_one_round (g_mStep := g_mStep) (P := P) (w := w) (base := base) G0 F_Step_one_round
  have g_Step_one_round : GS0 P w K mg base (L2.CX P w) 5 (ca K .Step) "one_round" (spR K csL tsL 3900 ROneR) := ⟨⟨_, _, _, _, _, smB_ok (fx 45 _ rfl), o_Step_one_round, b_Step_one_round⟩⟩
  obtain ⟨fd_common, F_common⟩ := fn 47 _ rfl
  have F_common : FP K "common" "common" (topS 63) [] (He.ga K "common") fd_common := F_common
  have b_common := FunD.bindsN (ps := ["one", "other"]) F_common fun _ _ _ _ _ _ us hl => match us, hl with | [_, _], _ => rfl
  have o_common := ok_common (g_Road_eq := g_Road_eq) (g_begin_alike := g_begin_alike) (g_mRoad := g_mRoad) (g_need_road := g_need_road) (nf_Road := nf_Road) (P := P) (w := w) (base := base) G0 F_common
  have g_common : GD P w K mg base (L2.CX P w) 5 "common" ["one", "other"] [] (spR K csL tsL 100000 RCommon) := ⟨_, _, [], o_common, gl "common" (by decide +kernel), F_common.kp, b_common, .nil⟩
  have g_common_k : GDK P w K mg base (L2.CX P w) 5 "common" ["other", "one"] 2 [1, 0] (spR K csL tsL 100000 RCommon) := ⟨_, _, ["one", "other"], o_common, gl "common" (by decide +kernel), F_common.kp, gk_2 F_common rfl (fun _ _ _ _ _ _ _ _ => rfl)⟩
  obtain ⟨fd_l_last_right, F_l_last_right⟩ := fn 48 _ rfl
  have F_l_last_right : FP K "_law_last_right" "_law_last_right" (topS 75) [] (He.ga K "_law_last_right") fd_l_last_right := F_l_last_right
  have b_l_last_right := FunD.bindsN (ps := ["_law_one", "_law_other", "_law_told_here"]) F_l_last_right fun _ _ _ _ _ _ us hl => match us, hl with | [_, _, _], _ => rfl
  have o_l_last_right := ok__law_last_right (g_l_ahead := g_l_ahead) (g_l_middle := g_l_middle) (g_l_side := g_l_side) (P := P) (w := w) (base := base) G0 F_l_last_right
  have g_l_last_right : GD P w K mg base (L2.CX P w) 5 "_law_last_right" ["_law_one", "_law_other", "_law_told_here"] [] (spR K csL tsL 100000 RLast) := ⟨_, _, [], o_l_last_right, gl "_law_last_right" (by decide +kernel), F_l_last_right.kp, b_l_last_right, .nil⟩
  obtain ⟨fd_at_right, F_at_right⟩ := fn 49 _ rfl
  have F_at_right : FP K "at_right" "at_right" (topS 29) [] (He.ga K "at_right") fd_at_right := F_at_right
  have b_at_right := FunD.bindsN (ps := ["value"]) F_at_right fun _ _ _ _ _ _ us hl => match us, hl with | [_], _ => rfl
  have o_at_right := ok_at_right (g_Ratio_of := g_Ratio_of) (g_is_ratio := g_is_ratio) (g_xBadRatio := g_xBadRatio) (P := P) (w := w) (base := base) G0 F_at_right
  have g_at_right : GD P w K mg base (L2.CX P w) 6 "at_right" ["value"] [] (spR K csL tsL 3900 (ROf "BadRatio" "other")) := ⟨_, _, [], o_at_right, gl "at_right" (by decide +kernel), F_at_right.kp, b_at_right, .nil⟩
  obtain ⟨fd_Step_add, F_Step_add⟩ := fn 50 _ rfl
  have F_Step_add : FP K "__add__" "Step.__add__" (inClass (topS 34) 4) [] (He.ma K (He.ga K "Step") "__add__") fd_Step_add := F_Step_add
  have b_Step_add := FunD.bindsN (ps := ["self", "other"]) F_Step_add fun _ _ _ _ _ _ us hl => match us, hl with | [_, _], _ => rfl
  have o_Step_add := ok_Step_add (g_need_step := g_need_step) (g_summed := g_summed) (P := P) (w := w) (base := base) G0 F_Step_add
  have g_Step_Add : GO P w K mg base (L2.CX P w) 6 (ca K .Step) .Add (spR K csL tsL 1900 (RBinS (· + ·))) := ⟨_, _, _, opB_ok (fx 46 _ rfl), o_Step_add, b_Step_add⟩
  obtain ⟨fd_need_ratio, F_need_ratio⟩ := fn 51 _ rfl
  have F_need_ratio : FP K "need_ratio" "need_ratio" (topS 30) [] (He.ga K "need_ratio") fd_need_ratio := F_need_ratio
  have b_need_ratio := FunD.bindsN (ps := ["value", "part"]) F_need_ratio fun _ _ _ _ _ _ us hl => match us, hl with | [_, _], _ => rfl
  have o_need_ratio := ok_need_ratio (g_Ratio_of := g_Ratio_of) (g_is_ratio := g_is_ratio) (g_xBadNumber := g_xBadNumber) (P := P) (w := w) (base := base) G0 F_need_ratio
  have g_need_ratio : GD P w K mg base (L2.CX P w) 6 "need_ratio" ["value", "part"] [] (spR K csL tsL 3900 RNeedR) := ⟨_, _, [], o_need_ratio, gl "need_ratio" (by decide +kernel), F_need_ratio.kp, b_need_ratio, .nil⟩
  obtain ⟨fd_Ratio_compared, F_Ratio_compared⟩ := fn 52 _ rfl
  have F_Ratio_compared : FP K "compared" "Ratio.compared" (inClass (topS 26) 8) [] (He.ma K (He.ga K "Ratio") "compared") fd_Ratio_compared := F_Ratio_compared
  have b_Ratio_compared := FunD.bindsN (ps := ["self", "other"]) F_Ratio_compared fun _ _ _ _ _ _ us hl => match us, hl with | [_, _], _ => rfl
  have o_Ratio_compared := ok_Ratio_compared (g_at_right := g_at_right) (g_sign_of := g_sign_of) (P := P) (w := w) (base := base) G0 F_Ratio_compared
  have g_Ratio_compared : GH P w K mg base (L2.CX P w) 7 (ca K .Ratio) "compared" ["self", "other"] (spR K csL tsL 1900 RCmp) := ⟨_, _, o_Ratio_compared, metB_ok (fx 47 _ rfl), b_Ratio_compared⟩
  obtain ⟨fd_Net_init, F_Net_init⟩ := fn 53 _ rfl
  have F_Net_init : FP K "__init__" "Net.__init__" (inClass (topS 45) 0) [] (He.ma K (He.ga K "Net") "__init__") fd_Net_init := F_Net_init
  have b_Net_init := FunD.bindsN (ps := ["self", "low", "high"]) F_Net_init fun _ _ _ _ _ _ us hl => match us, hl with | [_, _, _], _ => rfl
  have o_Net_init := ok_Net_init (g_Step_Add := g_Step_Add) (g_cross := g_cross) (g_is_upward := g_is_upward) (g_need_step := g_need_step) (g_xBadNet := g_xBadNet) (g_xNotNeighbours := g_xNotNeighbours) (P := P) (w := w) (base := base) G0 F_Net_init
  have g_mNet : GM P w K mg base (L2.CX P w) 7 "Net" (ca K .Net) ["self", "low", "high"] [] (spRI K csL tsL .Net 1900 RInitN) := ⟨_, _, [], o_Net_init, He.mkr_ok (fx 48 _ rfl), G0.mgc .Net (by decide), b_Net_init, .nil⟩
  obtain ⟨fd_runs_of, F_runs_of⟩ := fn 54 _ rfl
  have F_runs_of : FP K "runs_of" "runs_of" (topS 43) [] (He.ga K "runs_of") fd_runs_of := F_runs_of
  have b_runs_of := FunD.bindsN (ps := ["ratio"]) F_runs_of fun _ _ _ _ _ _ us hl => match us, hl with | [_], _ => rfl
  have o_runs_of := ok_runs_of (g_Ratio_is_whole := g_Ratio_is_whole) (g_need_ratio := g_need_ratio) (g_xUnlike := g_xUnlike) (P := P) (w := w) (base := base) G0 F_runs_of
  have g_runs_of : GD P w K mg base (L2.CX P w) 7 "runs_of" ["ratio"] [] (spR K csL tsL 3900 RRunsOf) := ⟨_, _, [], o_runs_of, gl "runs_of" (by decide +kernel), F_runs_of.kp, b_runs_of, .nil⟩
  obtain ⟨fd_Ratio_is_below, F_Ratio_is_below⟩ := fn 55 _ rfl
  have F_Ratio_is_below : FP K "is_below" "Ratio.is_below" (inClass (topS 26) 9) [] (He.ma K (He.ga K "Ratio") "is_below") fd_Ratio_is_below := F_Ratio_is_below
  have b_Ratio_is_below := FunD.bindsN (ps := ["self", "other"]) F_Ratio_is_below fun _ _ _ _ _ _ us hl => match us, hl with | [_, _], _ => rfl
  have o_Ratio_is_below := ok_Ratio_is_below (g_Ratio_compared := g_Ratio_compared) (P := P) (w := w) (base := base) G0 F_Ratio_is_below
  have g_Ratio_is_below : GH P w K mg base (L2.CX P w) 8 (ca K .Ratio) "is_below" ["self", "other"] (spR K csL tsL 1900 RBelow) := ⟨_, _, o_Ratio_is_below, metB_ok (fx 49 _ rfl), b_Ratio_is_below⟩
  obtain ⟨fd_road_of, F_road_of⟩ := fn 56 _ rfl
  have F_road_of : FP K "road_of" "road_of" (topS 59) [] (He.ga K "road_of") fd_road_of := F_road_of
  have b_road_of := FunD.bindsN (ps := ["ratio"]) F_road_of fun _ _ _ _ _ _ us hl => match us, hl with | [_], _ => rfl
  have o_road_of := ok_road_of (g_Ratio_below := g_Ratio_below) (g_Ratio_is_whole := g_Ratio_is_whole) (g_mRoad := g_mRoad) (g_need_ratio := g_need_ratio) (g_runs_of := g_runs_of) (P := P) (w := w) (base := base) G0 F_road_of
  have g_road_of : GD P w K mg base (L2.CX P w) 8 "road_of" ["ratio"] [] (spR K csL tsL 3900 RRoadOf) := ⟨_, _, [], o_road_of, gl "road_of" (by decide +kernel), F_road_of.kp, b_road_of, .nil⟩
  obtain ⟨fd_Net_first, F_Net_first⟩ := fn 57 _ rfl
  have F_Net_first : FP K "first" "Net.first" (inClass (topS 45) 5) [] (He5.wf K (He.ga K "Net") "staticmethod" "first") fd_Net_first := F_Net_first
  have b_Net_first := FunD.bindsN (ps := ["whole"]) F_Net_first fun _ _ _ _ _ _ us hl => match us, hl with | [_], _ => rfl
  have o_Net_first := ok_Net_first (g_Step_one_round := g_Step_one_round) (g_mNet := g_mNet) (g_mStep := g_mStep) (g_need_integer := g_need_integer) (P := P) (w := w) (base := base) G0 F_Net_first
  have g_Net_first : GS P w K mg base (L2.CX P w) 9 (ca K .Net) "first" (spR K csL tsL 10 RNever) := ⟨_, _, _, _, _, smB_ok (fx 50 _ rfl), o_Net_first, b_Net_first⟩
  obtain ⟨fd_net_of_letters, F_net_of_letters⟩ := fn 58 _ rfl
  have F_net_of_letters : FP K "net_of_letters" "net_of_letters" (topS 48) [] (He.ga K "net_of_letters") fd_net_of_letters := F_net_of_letters
  have b_net_of_letters := FunD.bindsN (ps := ["whole", "runs"]) F_net_of_letters fun _ _ _ _ _ _ us hl => match us, hl with | [_, _], _ => rfl
  have o_net_of_letters := ok_net_of_letters (g_Step_Add := g_Step_Add) (g_Step_Mult := g_Step_Mult) (g_mNet := g_mNet) (g_mStep := g_mStep) (P := P) (w := w) (base := base) G0 F_net_of_letters
  have g_net_of_letters : GD P w K mg base (L2.CX P w) 9 "net_of_letters" ["whole", "runs"] [] (spR K csL tsL 8 RNetL) := ⟨_, _, [], o_net_of_letters, gl "net_of_letters" (by decide +kernel), F_net_of_letters.kp, b_net_of_letters, .nil⟩
  obtain ⟨fd_net_at, F_net_at⟩ := fn 59 _ rfl
  have F_net_at : FP K "net_at" "net_at" (topS 60) [] (He.ga K "net_at") fd_net_at := F_net_at
  have b_net_at := FunD.bindsN (ps := ["road"]) F_net_at fun _ _ _ _ _ _ us hl => match us, hl with | [_], _ => rfl
  have o_net_at := ok_net_at (g_Net_first := g_Net_first) (g_need_road := g_need_road) (g_net_of_letters := g_net_of_letters) (P := P) (w := w) (base := base) G0 F_net_at
  have g_net_at : GD P w K mg base (L2.CX P w) 10 "net_at" ["road"] [] (spR K csL tsL 100000 RNetAt) := ⟨_, _, [], o_net_at, gl "net_at" (by decide +kernel), F_net_at.kp, b_net_at, .nil⟩
  obtain ⟨fd_turns_of, F_turns_of⟩ := fn 60 _ rfl
  have F_turns_of : FP K "turns_of" "turns_of" (topS 61) [] (He.ga K "turns_of") fd_turns_of := F_turns_of
  have b_turns_of := FunD.bindsN (ps := ["road"]) F_turns_of fun _ _ _ _ _ _ us hl => match us, hl with | [_], _ => rfl
  have o_turns_of := ok_turns_of (g_Step_corner := g_Step_corner) (g_mRatio1 := g_mRatio1) (g_need_road := g_need_road) (g_net_at := g_net_at) (P := P) (w := w) (base := base) G0 F_turns_of
  have g_turns_of : GD P w K mg base (L2.CX P w) 11 "turns_of" ["road"] [] (spR K csL tsL 100000 RTurnsOf) := ⟨_, _, [], o_turns_of, gl "turns_of" (by decide +kernel), F_turns_of.kp, b_turns_of, .nil⟩
  obtain ⟨fd_l_pair_right, F_l_pair_right⟩ := fn 61 _ rfl
  have F_l_pair_right : FP K "_law_pair_right" "_law_pair_right" (topS 79) [] (He.ga K "_law_pair_right") fd_l_pair_right := F_l_pair_right
  have b_l_pair_right := FunD.bindsN (ps := ["_law_one", "_law_other"]) F_l_pair_right fun _ _ _ _ _ _ us hl => match us, hl with | [_, _], _ => rfl
  have o_l_pair_right := ok__law_pair_right (g_Road_eq := g_Road_eq) (g_common := g_common) (g_common_k := g_common_k) (g_is_ahead := g_is_ahead) (g_is_ahead_k := g_is_ahead_k) (g_l_ahead := g_l_ahead) (g_l_last_right := g_l_last_right) (g_l_told := g_l_told) (g_mRoad := g_mRoad) (nf_Road := nf_Road) (T := TT K) (P := P) (w := w) (base := base) G0 F_l_pair_right
  have g_l_pair_right : GD P w K mg base (L2.CX P w) 18 "_law_pair_right" ["_law_one", "_law_other"] [] (spL K csL tsL (TT K) 100000 RPairR) := ⟨_, _, [], o_l_pair_right, gl "_law_pair_right" (by decide +kernel), F_l_pair_right.kp, b_l_pair_right, .nil⟩
  obtain ⟨fd_l_parts_right, F_l_parts_right⟩ := fn 62 _ rfl
  have F_l_parts_right : FP K "_law_parts_right" "_law_parts_right" (topS 80) [] (He.ga K "_law_parts_right") fd_l_parts_right := F_l_parts_right
  have b_l_parts_right := FunD.bindsN (ps := ["_law_pail_here", "_law_whole", "_law_one", "_law_other"]) F_l_parts_right fun _ _ _ _ _ _ us hl => match us, hl with | [_, _, _, _], _ => rfl
  have o_l_parts_right := ok__law_parts_right (g_Ratio_compared := g_Ratio_compared) (g_Ratio_is_below := g_Ratio_is_below) (g_Road_eq := g_Road_eq) (g_Step_corner := g_Step_corner) (g_common := g_common) (g_l_middle := g_l_middle) (g_mRatio := g_mRatio) (g_net_at := g_net_at) (g_road_of := g_road_of) (g_turns_of := g_turns_of) (nf_Road := nf_Road) (T := TT K) (P := P) (w := w) (base := base) G0 F_l_parts_right
  have g_l_parts_right : GD P w K mg base (L2.CX P w) 18 "_law_parts_right" ["_law_pail_here", "_law_whole", "_law_one", "_law_other"] [] (spLP K csL tsL (TT K) 60 950000 0 (fun ds => ∃ w rs ss, ds = [.int w, .lst (iDs rs), .lst (iDs ss)] ∧ w.natAbs < 2 ^ 8 ∧ Rn rs ∧ Rn ss) (fun _ d => d = .bl true)) := ⟨_, _, [], o_l_parts_right, gl "_law_parts_right" (by decide +kernel), F_l_parts_right.kp, b_l_parts_right, .nil⟩
  exact ok_law (g_common := g_common) (g_is_ahead := g_is_ahead) (g_l_dip := g_l_dip) (g_l_kin := g_l_kin) (g_l_pail := g_l_pail) (g_l_pair_right := g_l_pair_right) (g_l_parts_right := g_l_parts_right) (g_l_road := g_l_road) (g_l_runs := g_l_runs) (g_mRatio := g_mRatio) (g_mRoad := g_mRoad) (T := TT K) (P := P) (w := w) (base := base) gE gHd (TB _ (tmem "law" (by decide))) (tmem2 "law" (by decide)) (fun p hp e => hu "law" (by decide) p hp e) c_law G0 F_law
end Sp
end
set_option Elab.async false
set_option linter.all false
set_option maxRecDepth 100000
set_option maxHeartbeats 0
namespace Sp
open PySem PySem.Spec PyProof.Rows L2
open PySem.W (Frag)
theorem law_at {w : World} {mg : Str → Option Value} {fa : Addr} {h : Heap} (Y : ∃ K : Frag, K.In h ∧ SaysB h K) (G : h.Ns mainGlobals mg) (hfa : mg "law" = some (.ref fa)) :
    ∃ K : Frag, K.In h ∧ LamX.LawAtS lw w K (L2.CX lw.prog w) 19 63 "_law_script" mg fa h := by
  obtain ⟨K, KX, c⟩ := Y
  have e := hfa.symm.trans (He.glo_ok KX G (c.gl "law" (by decide +kernel)))
  cases e
  obtain ⟨fd, F⟩ := (c.fn _ (List.mem_of_getElem? (show fnL[63]? = some _ from rfl))).elim fun h1 h2 => He5.DefA.funD h2 h1
  have F : FP K "law" "law" (topS 82) [] (He.ga K "law") fd := F
  have b := FunD.bindsA (ps := ["_law_script"]) F fun _ _ _ _ _ _ us hl => match us, hl with | [_], _ => rfl
  have AP : apB K = true := c.ex apB (List.mem_of_getElem? (show exL[14]? = some _ from rfl))
  refine ⟨K, KX, fd, tfL.map (He.cT K), spLaw K (TT K), fun p hp => ?_, fun p hp => ?_, fun p hp => ?_, fun s v => b s [v] rfl, fun H a ns hl _ hH hS => ⟨a, ns, rfl, hS, fun p hp => ?_, fun _ => rfl⟩, fun base KB NB TB => law_ok c KB NB AP TB F⟩
  · obtain ⟨q, hq, rfl⟩ := List.mem_map.mp hp
    exact c.empty q hq
  · obtain ⟨q, hq, rfl⟩ := List.mem_map.mp hp
    exact c.out q hq
  · obtain ⟨q, hq, rfl⟩ := List.mem_map.mp hp
    exact PySem.W.codeHd_of_K KX (c.hd q hq)
  · obtain ⟨d, hd, rfl⟩ := List.mem_map.mp hp
    exact LamX.TabS.nil (hH _ (List.mem_map.mpr ⟨d, hd, rfl⟩))
end Sp
theorem PySem.Challenge.cw_spiralsays_k42_roads_that_part_holds : PySem.Challenge.rw_spiralsays_k42_roads_that_part.Holds :=
  Sp.fin fun Y G h => Sp.law_at Y G h
