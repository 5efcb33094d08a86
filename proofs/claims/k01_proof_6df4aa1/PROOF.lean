import PyProof.Rows.All
import Wide.All
import OpenK.AllK
import Wide.FinOn
import KE.KStateDown
import KE.KMathGC
import KE.KOpsOwn
import Lean
import HandS.ForMost
import HandS.Exc
import HandS.ExcOwn
import HandS.ExcIs
import HandS.TryOnly
import HandS.WordsExc
import HandS.Defaults
import HandS.IsInst
import HandS.Wide
import HandS.WideBits
import HandS.Gcd
import HandS.Property
import HandS.OwnEq
import HandS.Flow
import HandS.Evl
import HandS.Head0
import HandS.Head1
import HandS.Head2
import HandS.Head3
import HandS.HeadEnd
import HandS.HeadHook1
import HandS.HeadHook2
import HandS.HeadHook3
import HandS.HeadHook4
import HandS.Iter
import HandS.TupAny
import HandS.Rev
import HandS.ClsMeth
import HandS.HeadNt
import KE.GoesEnumKw
import PySem.Challenge.RW_certsums_k01_fraction_sums_products
set_option Elab.async false
set_option linter.all false
set_option maxRecDepth 100000
set_option maxHeartbeats 4000000
namespace CB
open PySem PySem.Spec PyProof.Rows L2

/-! ### readings made simpler -/
theorem imp_e {X : Cx} {e : Expr} {t t' : TE} (h : PE X e t) (hi : ∀ σ H Q, t' σ H Q → t σ H Q) : PE X e t' :=
  ⟨fun pins s σ H Q I q => h.run pins s σ H Q I (hi σ H Q q)⟩
theorem imp_s {X : Cx} {e : Stmt} {t t' : TS} (h : PS X e t) (hi : ∀ D σ H, t' D σ H → t D σ H) : PS X e t' :=
  ⟨fun pins s σ H D I q => h.run pins s σ H D I (hi D σ H q)⟩

/-! ### a value is never NotImplemented -/
theorem back_of {P : Value → Shared → Prop} {z : V} {v : Value} {s' : Shared} (r : RelV z v) (h : P v s') : PySem.W.CmpBack P v s' := by
  cases z with
  | non => cases r; exact h
  | bl _ => cases r; exact h
  | int _ => obtain ⟨t, rfl⟩ := r; exact h
  | str _ => obtain ⟨t, rfl⟩ := r; exact h
  | byt _ => obtain ⟨t, rfl⟩ := r; exact h
  | flt _ => obtain ⟨t, rfl⟩ := r; exact h
  | ref _ => cases r; exact h
  | ty _ => cases r; exact h

section
variable {X : Cx} {CX : CXT} {k : Nat} {f C : Addr} {fd : FuncData} {ps : List Str} {sp : Sp} {E : XK}

/-- x op y by the class's own method, both of the class -/
def rOwn2 (C : Addr) (sp : Sp) (E : XK) : R2 := fun x y H Q => ∃ a b dx dy fs gs, x = .ref a ∧ y = .ref b ∧ H a = some (.ins C dx fs) ∧ H b = some (.ins C dy gs) ∧ sp [.ref a, .ref b] H Q E
theorem op_own2 {op : Operator} (hc : PySem.W.selfFirst X.K C = true) (hs : PySem.W.findIn X.K (.ref C) (PySem.dunder op.info.2) = some (some (.ref f))) (hf : PySem.W.isFn X.K (.ref f) = true)
    (F : FnOk X.prog X.w X.K X.mg X.base CX k f fd ps sp) (hr : Room k X.A) (hb : Binds X.K fd ps []) (hx : Passes CX X E) : OpR X (binaryOp op) (rOwn2 C sp E) := by
  intro pins s σ H x y v u Q I rx ry h
  obtain ⟨a, b, dx, dy, fs, gs, rfl, rfl, ha, hb', hq⟩ := h
  cases rx
  cases ry
  obtain ⟨mA, J, _⟩ := ins_get I.hok ha
  obtain ⟨mB, J', _⟩ := ins_get I.hok hb'
  obtain ⟨od, J, _⟩ := J.look
  obtain ⟨od', J', _⟩ := J'.look
  obtain ⟨m, hF⟩ := I.fr
  refine PySem.W.binop_K hF I.ok.mod.kin J J'.type hc hs hf ?_
  refine thn (run_fn (us := [.ref a, .ref b]) (vs := [.ref a, .ref b]) F hr hb .nil hx I (.cons rfl (.cons rfl .nil)) hq) fun w s' h => ?_
  obtain ⟨z, H', I', r, q⟩ := h
  exact back_of r ⟨z, H', I', r, q⟩
/-- - x by the class's own method -/
def rOwn1 (C : Addr) (sp : Sp) (E : XK) : V → Hp → VK → Prop := fun x H Q => ∃ a dx fs, x = .ref a ∧ H a = some (.ins C dx fs) ∧ sp [.ref a] H Q E
theorem un_ownNeg (hs : PySem.W.findIn X.K (.ref C) "__neg__" = some (some (.ref f))) (hf : PySem.W.isFn X.K (.ref f) = true)
    (F : FnOk X.prog X.w X.K X.mg X.base CX k f fd ps sp) (hr : Room k X.A) (hb : Binds X.K fd ps []) (hx : Passes CX X E) : UnR X (unaryOp .USub) (rOwn1 C sp E) := by
  intro pins s σ H x v Q I rx h
  obtain ⟨a, dx, fs, rfl, ha, hq⟩ := h
  cases rx
  obtain ⟨mA, J, _⟩ := ins_get I.hok ha
  obtain ⟨od, J, _⟩ := J.look
  obtain ⟨m, hF⟩ := I.fr
  refine PySem.W.ksp_neg hF I.ok.mod.kin J hs hf ?_
  exact run_fn (us := [.ref a]) (vs := [.ref a]) F hr hb .nil hx I (.cons rfl .nil) hq
/-- the other side of an own ==: what it may be -/
inductive EqTy (K : PySem.W.Frag) (C : Addr) (H : Hp) : V → Prop where
  | int {i : Int} (h : PySem.W.notFirst K C (.type "int") = true) : EqTy K C H (.int i)
  | str {x : Str} (h : PySem.W.notFirst K C (.type "str") = true) : EqTy K C H (.str x)
  | tup {a : Addr} {xs : List V} (e : H a = some (.tup xs)) (h : PySem.W.notFirst K C (.type "tuple") = true) : EqTy K C H (.ref a)
  | lst {a : Addr} {xs : List V} (e : H a = some (.lst xs)) (h : PySem.W.notFirst K C (.type "list") = true) : EqTy K C H (.ref a)
  | own {a dy : Addr} {gs : List (Str × V)} (e : H a = some (.ins C dy gs)) (h : PySem.W.notFirst K C (.ref C) = true) : EqTy K C H (.ref a)
theorem EqTy.look {pins : List (Addr × Obj)} {σ : L2.St} {H : Hp} {s : Shared} {y : V} {u : Value} (I : Inv X pins σ H s) (t : EqTy X.K C H y) (ry : RelV y u) :
    ∃ tb, PySem.W.Looks (model X.prog X.w) s.heap (typeOf u) tb ∧ PySem.W.notFirst X.K C tb = true := by
  cases t with
  | int h => obtain ⟨t, rfl⟩ := ry; exact ⟨_, PySem.W.Looks.of_pure rfl, h⟩
  | str h => obtain ⟨t, rfl⟩ := ry; exact ⟨_, PySem.W.Looks.of_pure rfl, h⟩
  | @tup a xs e h =>
    cases ry
    obtain ⟨_, its, r, o, e1, e2, _⟩ := (show ObjOk X.prog X.w H s.heap a (.tup xs) from I.hok a _ e)
    exact ⟨.type "tuple", fun A Q E s' k q => wpAny_typeOf_ref (k _ _ e1) (by rw [e2]; exact q), h⟩
  | @lst a xs e h =>
    cases ry
    obtain ⟨_, _, n, _, e1⟩ := (show ObjOk X.prog X.w H s.heap a (.lst xs) from I.hok a _ e)
    exact ⟨.type "list", fun A Q E s' k q => wpAny_typeOf_ref (k _ _ e1) q, h⟩
  | @own a dy gs e h =>
    cases ry
    obtain ⟨mB, J', _⟩ := ins_get I.hok e
    obtain ⟨od', J', _⟩ := J'.look
    exact ⟨_, J'.type, h⟩
def rOwnEq (K : PySem.W.Frag) (C : Addr) (sp : Sp) (E : XK) : R2 := fun x y H Q => ∃ a dx fs, x = .ref a ∧ H a = some (.ins C dx fs) ∧ EqTy K C H y ∧ sp [.ref a, y] H Q E
theorem op_ownEq (hs : PySem.W.findIn X.K (.ref C) "__eq__" = some (some (.ref f))) (hf : PySem.W.isFn X.K (.ref f) = true)
    (F : FnOk X.prog X.w X.K X.mg X.base CX k f fd ps sp) (hr : Room k X.A) (hb : Binds X.K fd ps []) (hx : Passes CX X E) : OpR X (compareOp .Eq) (rOwnEq X.K C sp E) := by
  intro pins s σ H x y v u Q I rx ry h
  obtain ⟨a, dx, fs, rfl, ha, ty, hq⟩ := h
  cases rx
  obtain ⟨mA, J, _⟩ := ins_get I.hok ha
  obtain ⟨od, J, _⟩ := J.look
  obtain ⟨m, hF⟩ := I.fr
  obtain ⟨tb, hl, hn⟩ := ty.look I ry
  show wpAny (model X.prog X.w) X.A (richCompare .Eq (.ref a) u) (EP X pins σ Q) X.xe s
  refine PySem.W.cmp_K (op := .Eq) hr.units0 hF I.ok.mod.kin J hl hn hs hf ?_
  refine thn (run_fn (us := [.ref a, u]) (vs := [.ref a, y]) F hr hb .nil hx I (.cons rfl (.cons ry .nil)) hq) fun w s' h => ?_
  obtain ⟨z, H', I', r, q⟩ := h
  exact back_of r ⟨z, H', I', r, q⟩
end

/-! ### whole numbers -/
/-- // by a divisor of any sign below 2 ^ 9000 -/
def CDivZ (_ j : Int) : Prop := j ≠ 0 ∧ j.natAbs.log2 < 9000
section
variable {X : Cx}
theorem op_fdivZ : OpR X (binaryOp .FloorDiv) (rI CDivZ fun i j => .int (i.fdiv j)) := opI fun i j _ _ _ _ _ hc q =>
  floordiv_int hc.1 q (.inl (PyProof.noPylong_of_log2 hc.2))
end

/-! ### small words -/
theorem iteK {c : Bool} {A B : Prop} (h : c = true) (a : A) : if c = true then A else B := by rw [h]; exact iteT a
theorem iteN {c : Bool} {A B : Prop} (h : c = false) (b : B) : if c = true then A else B := by rw [h]; exact iteF b
theorem iteB {c : Bool} {A B : Prop} (h1 : c = true → A) (h2 : c = false → B) : if c = true then A else B := by
  cases c with
  | true => exact iteT (h1 rfl)
  | false => exact iteF (h2 rfl)
theorem iteD {p : Prop} [Decidable p] {A B : Prop} (h1 : p → A) (h2 : ¬ p → B) : if decide p = true then A else B := by
  by_cases h : p
  · rw [decide_eq_true h]; exact iteT (h1 h)
  · rw [decide_eq_false h]; exact iteF (h2 h)
theorem iteDN {p : Prop} [Decidable p] {A B : Prop} (h1 : ¬ p → A) (h2 : p → B) : if (!decide p) = true then A else B := by
  by_cases h : p
  · rw [decide_eq_true h]; exact iteF (h2 h)
  · rw [decide_eq_false h]; exact iteT (h1 h)
theorem iteEq {i j : Int} {A B : Prop} (h1 : i = j → A) (h2 : i ≠ j → B) : if decide (V.int i = V.int j) = true then A else B :=
  iteD (fun h => h1 (V.int.inj h)) fun h => h2 fun e => h (by rw [e])
theorem iteEqN {i j : Int} {A B : Prop} (h1 : i ≠ j → A) (h2 : i = j → B) : if (!decide (V.int i = V.int j)) = true then A else B :=
  iteDN (fun h => h1 fun e => h (by rw [e])) fun h => h2 (V.int.inj h)
theorem iteEqNN {i j : Int} {A B : Prop} (h1 : i = j → A) (h2 : i ≠ j → B) : if (!(!decide (V.int i = V.int j))) = true then A else B := by
  rw [Bool.not_not]; exact iteEq h1 h2
/-- both ways go on alike: the second way shown first -/
theorem iteShare {c : Bool} {A B : Prop} (hb : B) (ha : c = true → B → A) : if c = true then A else B := by
  cases c with
  | true => exact iteT (ha rfl hb)
  | false => exact iteF hb
theorem unF {A B : Prop} (h : if false = true then A else B) : B := by
  rw [if_neg Bool.false_ne_true] at h
  exact h
theorem unT {A B : Prop} (h : if true = true then A else B) : A := by
  rw [if_pos rfl] at h
  exact h
theorem veq {i j : Int} (h : i = j) : decide (V.int i = V.int j) = true := decide_eq_true (by rw [h])
theorem vne {i j : Int} (h : i ≠ j) : decide (V.int i = V.int j) = false := decide_eq_false fun e => h (V.int.inj e)
theorem sm_tup {K : PySem.W.Frag} {H H' : Hp} {a : Addr} {xs : List V} (sm : Same H H') (h : SqT K H a xs) : SqT K H' a xs := by
  rcases h with (h | ⟨o, h⟩) | h
  · exact .inl (.inl (sm _ _ h))
  · exact .inl (.inr ⟨o, sm _ _ h⟩)
  · exact .inr h
theorem kit_same {K : PySem.W.Frag} (t : Value) : PySem.W.kitOne K t t = some true := by
  unfold PySem.W.kitOne
  rw [if_pos (by simp)]
theorem sm_new {H : Hp} {p : Addr} {o : HO} (h : H p = none) : Same H (upd H p o) := fun b x e => by
  rw [upd_ne (ne_of_none e h)]
  exact e
theorem ne_new {H : Hp} {a p : Addr} {o : HO} (h : H a = some o) (hp : H p = none) : a ≠ p := ne_of_none h hp

/-- x = e, e a whole number: behind it the number has a name -/
def tAsgI (te : TE) (i : Nat) : TS := fun D σ H => te σ H fun v H1 => ∃ m : Int, v = .int m ∧ ∀ n : Int, n = m → D.nx (σ.set i (some (.int n))) H1
theorem ps_setI {X : Cx} {i : Nat} {x : Str} {e : Expr} {te : TE} {pos pos' : Pos} (hN : X.N.Nodup) (hi : X.N[i]? = some x) (hx : Loc X.env.scope x) (he : PE X e te) (hs : swapsWith e (some (.Name x pos')) pos.line X.env = pure false := by rfl)
    (hf : X.fn x = true ∨ X.env.scope.names.lookup x = some .local := by first | exact .inl rfl | exact .inr rfl | assumption) : PS X (.Assign [.Name x pos'] e pos) (tAsgI te i) := by
  refine ⟨fun pins s σ H D I h => ?_⟩
  refine wpAny_Assign_Name (thn (he.run pins s σ H _ I h) fun v s1 h1 => ?_) hs
  obtain ⟨y, H1, I1, r1, m, rfl, q1⟩ := h1
  exact store_ok I1 hN hi hx r1 (fun s2 I2 => ⟨_, H1, I2, q1 m rfl⟩) hf

/-! ### defs by where they stand -/
abbrev FnW : Type := He.FnW
/-- one def of the text: where it stands (an address by the written part), its row's parts, its defaults -/
structure DefG where
  at_ : PySem.W.Frag → Addr
  name : Str
  qual : Str
  params : Arguments
  body : List Stmt
  scope : Scope
  dfl : List He.Dv := []
def fnG (K : PySem.W.Frag) (a : Addr) : FnW := match K.lookup a with
  | some ⟨_, _, .func fd, _⟩ => some (fd.name, fd.qualname, fd.params, fd.body, fd.scope, fd.globals, fd.closure, fd.builtins)
  | _ => none
def DefG.val (d : DefG) : FnW := some (d.name, d.qual, d.params, .stmts d.body, d.scope, mainGlobals, [], builtinsNs)
def DefG.dvs (K : PySem.W.Frag) (d : DefG) : List V := d.dfl.map (He.Dv.v K)
def DefG.ok (K : PySem.W.Frag) (d : DefG) : Bool := PySem.W.keepIn K (.ref (d.at_ K)) && (match K.lookup (d.at_ K) with
  | some ⟨_, _, .func fd, _⟩ => PySem.W.codeIn K fd.code d.qual && He.dflB K fd.defaults (d.dvs K)
  | _ => false)
/-- a def of the text, by its datum -/
def Dn (K : PySem.W.Frag) (d : DefG) : Prop := ∃ fd, FunD K d.name d.qual d.params d.body d.scope (d.dvs K) [] (d.at_ K) fd
theorem DefG.funD {K : PySem.W.Frag} {d : DefG} (e : fnG K (d.at_ K) = d.val) (c : d.ok K = true) : Dn K d := by
  obtain ⟨kp, c2⟩ := He.ba c
  unfold fnG at e
  cases q : K.lookup (d.at_ K) with
  | none =>
    rw [q] at c2
    cases c2
  | some o =>
    obtain ⟨oc, od, dt, osl⟩ := o
    rw [q] at c2 e
    cases dt with
    | func fd =>
      obtain ⟨n1, n2, n3, n4, n5, n6, n7, n8, n9, n10, n11, n12, n13, n14, n15⟩ := fd
      have e2 : (some (n1, n2, n3, n4, n5, n6, n7, n15) : FnW) = some (d.name, d.qual, d.params, .stmts d.body, d.scope, mainGlobals, [], builtinsNs) := e
      simp only [Option.some.injEq, Prod.mk.injEq] at e2
      obtain ⟨h1, h2, h3, h4, h5, h6, h7, h8⟩ := e2
      subst h1 h2 h3 h4 h5 h6 h7 h8
      have c3 : (PySem.W.codeIn K n13 d.qual && He.dflB K n8 (d.dvs K)) = true := c2
      obtain ⟨k1, k2⟩ := He.ba c3
      exact ⟨_, ⟨oc, od, n8, n9, n10, n11, n12, n13, n14, osl, rfl, q, k1, He.dflB_ok k2, .inl rfl⟩, kp⟩
    | _ => cases c2

/-! ### the shape of a def's promise: what a caller needs of the def at a -/
/-- the def at a is known by its promise (level k, parameters ps) -/
def OkF (P : Program) (w : World) (K : PySem.W.Frag) (mg : Str → Option Value) (base : Heap) (k : Nat) (a : Addr) (ps : List Str) (sp : Sp) : Prop :=
  ∃ fd : FuncData, FnOk P w K mg base (L2.CX P w) k a fd ps sp ∧ Binds K fd ps [] ∧ PySem.W.keepIn K (.ref a) = true
theorem okF_of {P : Program} {w : World} {K : PySem.W.Frag} {mg : Str → Option Value} {base : Heap} {k : Nat} {d : DefG} {N ps : List Str} {sp : Sp} (D : Dn K d) (hd : d.dfl = []) (S : FnScope N ps d.scope)
    (hb : ∀ (kV doc pm : Value) (an : Option Addr) (cdv ct : Value) (us : List Value), us.length = ps.length → bindArgs (PySem.W.fnOf d.name d.qual d.params d.body d.scope .none kV doc pm an cdv ct) ⟨us, []⟩ = pure (ps.zip us))
    (len : ∀ vs H Q E, sp vs H Q E → vs.length = ps.length)
    (hbody : ∀ (cdv : Value) (A : Around) (outer : List Env) (s : Shared) (H : Hp) (vs : List V) (Q : VK) (E : XK), Room k (A.deeper (envOfC d.qual d.scope s.heap.objs.size (d.at_ K) cdv)) → sp vs H Q E →
      ∃ t, PSs (cxOf (L2.CX P w) P w K mg base N d.qual d.scope (d.at_ K) cdv A outer s H E) d.body t ∧ t { nx := fun _ H' => Q .non H', rt := Q } (start N vs) H) :
    OkF P w K mg base (k + 1) (d.at_ K) ps sp := by
  obtain ⟨fd, F⟩ := D
  have e1 : d.dvs K = [] := by unfold DefG.dvs; rw [hd]; rfl
  rw [e1] at F
  exact ⟨fd, F.ok S len hbody, F.bindsN hb, F.kp⟩
/-- the same of a def with one default, of which all values or all but the last are written -/
def OkD (P : Program) (w : World) (K : PySem.W.Frag) (mg : Str → Option Value) (base : Heap) (k : Nat) (a : Addr) (ps : List Str) (dv : V) (sp : Sp) : Prop :=
  ∃ fd : FuncData, FnOk P w K mg base (L2.CX P w) k a fd ps sp ∧ Binds K fd ps [] ∧ (∃ ds, Vals [dv] ds ∧ Binds K fd ps ds) ∧ PySem.W.keepIn K (.ref a) = true
theorem okD_of {P : Program} {w : World} {K : PySem.W.Frag} {mg : Str → Option Value} {base : Heap} {k : Nat} {d : DefG} {N ps : List Str} {sp : Sp} {dv : He.Dv} (D : Dn K d) (hd : d.dfl = [dv]) (S : FnScope N ps d.scope)
    (hb0 : ∀ (T : Addr) (kV doc pm : Value) (an : Option Addr) (cdv ct : Value) (us its : List Value), us.length = ps.length → its.length = 1 →
      ∃ k, bindArgs (PySem.W.fnOf d.name d.qual d.params d.body d.scope (.ref T) kV doc pm an cdv ct) ⟨us, []⟩ = seqItems? (.ref T) >>= k ∧ k (some its.toArray) = pure (ps.zip (us ++ its.drop 1)))
    (hb1 : ∀ (T : Addr) (kV doc pm : Value) (an : Option Addr) (cdv ct : Value) (us its : List Value), us.length = ps.length - 1 → its.length = 1 →
      ∃ k, bindArgs (PySem.W.fnOf d.name d.qual d.params d.body d.scope (.ref T) kV doc pm an cdv ct) ⟨us, []⟩ = seqItems? (.ref T) >>= k ∧ k (some its.toArray) = pure (ps.zip (us ++ its.drop 0)))
    (hp : 0 < ps.length) (len : ∀ vs H Q E, sp vs H Q E → vs.length = ps.length)
    (hbody : ∀ (cdv : Value) (A : Around) (outer : List Env) (s : Shared) (H : Hp) (vs : List V) (Q : VK) (E : XK), Room k (A.deeper (envOfC d.qual d.scope s.heap.objs.size (d.at_ K) cdv)) → sp vs H Q E →
      ∃ t, PSs (cxOf (L2.CX P w) P w K mg base N d.qual d.scope (d.at_ K) cdv A outer s H E) d.body t ∧ t { nx := fun _ H' => Q .non H', rt := Q } (start N vs) H) :
    OkD P w K mg base (k + 1) (d.at_ K) ps (dv.v K) sp := by
  obtain ⟨fd, F⟩ := D
  have e1 : d.dvs K = [dv.v K] := by unfold DefG.dvs; rw [hd]; rfl
  rw [e1] at F
  obtain ⟨ds0, v0, b0⟩ := FunD.binds1 (ps := ps) F ps.length 1 (by simp) (by simp) fun T kV doc pm an cdv ct us its h1 h2 => hb0 T kV doc pm an cdv ct us its h1 (by simpa using h2)
  obtain ⟨ds1, v1, b1⟩ := FunD.binds1 (ps := ps) F (ps.length - 1) 0 (by simp) (by simp; omega) fun T kV doc pm an cdv ct us its h1 h2 => hb1 T kV doc pm an cdv ct us its h1 (by simpa using h2)
  have z : ds0 = [] := by
    have := v0.length
    simp at this
    exact List.eq_nil_of_length_eq_zero this.symm
  subst z
  exact ⟨fd, F.ok S len hbody, b0, ⟨ds1, v1, b1⟩, F.kp⟩

/-- the law's own def: no exception leaves it -/
theorem okLaw_of {P : Program} {w : World} {K : PySem.W.Frag} {mg : Str → Option Value} {k : Nat} {d : DefG} {N : List Str} {sp : Sp} (D : Dn K d) (hd : d.dfl = []) (S : FnScope N ["script"] d.scope)
    (hb : ∀ (kV doc pm : Value) (an : Option Addr) (cdv ct : Value) (us : List Value), us.length = 1 → bindArgs (PySem.W.fnOf d.name d.qual d.params d.body d.scope .none kV doc pm an cdv ct) ⟨us, []⟩ = pure ((["script"] : List Str).zip us))
    (len : ∀ vs H Q E, sp vs H Q E → vs.length = 1)
    (hbody : ∀ (base : Heap) (cdv : Value) (A : Around) (outer : List Env) (s : Shared) (H : Hp) (vs : List V) (Q : VK) (E : XK), Room k (A.deeper (envOfC d.qual d.scope s.heap.objs.size (d.at_ K) cdv)) → sp vs H Q E →
      ∃ t, PSs (cxOf CX0 P w K mg base N d.qual d.scope (d.at_ K) cdv A outer s H E) d.body t ∧ t { nx := fun _ H' => Q .non H', rt := Q } (start N vs) H) :
    ∃ fd : FuncData, (∀ (s : Shared) (v : Value), BindsTo s fd ⟨[v], []⟩ [("script", v)]) ∧ ∀ base : Heap, FnOk P w K mg base CX0 (k + 1) (d.at_ K) fd ["script"] sp := by
  obtain ⟨fd, F⟩ := D
  have e1 : d.dvs K = [] := by unfold DefG.dvs; rw [hd]; rfl
  rw [e1] at F
  exact ⟨fd, fun s v => FunD.bindsA (ps := ["script"]) F hb s [v] rfl, fun base => F.ok S len (hbody base)⟩
/-- what a law promises: True, of every script -/
def spLaw (K : PySem.W.Frag) : Sp := fun vs H Q _ => ∃ (a : Addr) (ns : List Int), vs = [.ref a] ∧ SqL K H a (ns.map V.int) ∧ ns.length ≤ 63 ∧ ∀ H', Q (.bl true) H'

/-! ### the head's facts by a Hook of our own: defs at any address -/
/-- the getter of a property of a class -/
def prAd (K : PySem.W.Frag) (C : Addr) (x : Str) : Addr := match PySem.W.findIn K (.ref C) x with
  | some (some (.ref p)) => p
  | _ => 0
def gtAd (K : PySem.W.Frag) (C : Addr) (x : Str) : Addr := match PySem.W.recIn K (prAd K C x) "property" with
  | some (.ref g :: _) => g
  | _ => 0
def propB (K : PySem.W.Frag) (C : Addr) (x : Str) : Bool :=
  He.eqO (PySem.W.findIn K (.ref C) x) (some (some (.ref (prAd K C x)))) && (He.eqO (PySem.W.specialIn K (.ref (prAd K C x)) "__get__") (some (some (.builtin "property.__get__"))) && (decide (PySem.W.takesIn K (.ref (prAd K C x)) = some true) &&
    (match PySem.W.recIn K (prAd K C x) "property" with
      | some (.ref _ :: _) => true
      | _ => false)))
theorem propB_ok {K : PySem.W.Frag} {C : Addr} {x : Str} (h : propB K C x = true) : PropOf K C x (prAd K C x) (gtAd K C x) := by
  obtain ⟨h1, h⟩ := He.ba h
  obtain ⟨h2, h⟩ := He.ba h
  obtain ⟨h3, h4⟩ := He.ba h
  refine ⟨He.eqO_ok h1, He.eqO_ok h2, of_decide_eq_true h3, ?_⟩
  unfold gtAd
  cases q : PySem.W.recIn K (prAd K C x) "property" with
  | none => rw [q] at h4; cases h4
  | some l =>
    rw [q] at h4
    cases l with
    | nil => cases h4
    | cons v r =>
      cases v with
      | ref g => exact ⟨r, rfl⟩
      | _ => cases h4
abbrev AlG : Type := Bool × List FnW
def obsG (fa : List He.Fa) (fn : List DefG) (ex : PySem.W.Frag → List Bool) (K : PySem.W.Frag) : AlG := ((fa.all fun f => f.ok K) && ((fn.all fun d => d.ok K) && (ex K).all id), fn.map fun d => fnG K (d.at_ K))
def valG (fn : List DefG) : AlG := (true, fn.map DefG.val)
def SaysG (fa : List He.Fa) (fn : List DefG) (ex : PySem.W.Frag → List Bool) (K : PySem.W.Frag) : Prop := obsG fa fn ex K = valG fn
def obsGG (n : Nat) (fa : List He.Fa) (fn : List DefG) (ex : PySem.W.Frag → List Bool) (g : Addr → Option Obj) : AlG := obsG fa fn ex (He.frG g (He.asD g n ++ [PySem.cStatics]))
def hookG (n : Nat) (fa : List He.Fa) (fn : List DefG) (ex : PySem.W.Frag → List Bool) : PySem.W.Hook where
  α := AlG
  obs := fun s => obsGG n fa fn ex s.heap.get?
  val := fun _ => valG fn
  says := fun _ h => ∃ K : PySem.W.Frag, K.In h ∧ SaysG fa fn ex K
  of := fun _ _ e => ⟨_, He.frG_in, e⟩
  keeps := fun _ _ _ ⟨K, hK, c⟩ k => ⟨K, PySem.W.Frag.In.keeps hK k, c⟩
theorem obsGG_eq {n : Nat} {fa : List He.Fa} {fn : List DefG} {ex : PySem.W.Frag → List Bool} {g : Addr → Option Obj} {s : Shared} (h : ∀ a, g a = s.heap.get? a) : obsGG n fa fn ex g = (hookG n fa fn ex).obs s := by
  have e : g = s.heap.get? := funext h
  rw [e] <;> rfl
section
variable {fa : List He.Fa} {fn : List DefG} {ex : PySem.W.Frag → List Bool} {K : PySem.W.Frag}
theorem SaysG.fact (c : SaysG fa fn ex K) (i : Nat) {f : He.Fa} (h : fa[i]? = some f := by rfl) : f.ok K = true := by
  have c1 := (He.ba (show ((fa.all fun f => f.ok K) && ((fn.all fun d => d.ok K) && (ex K).all id)) = true from congrArg (fun z : AlG => z.1) c)).1
  exact List.all_eq_true.mp c1 f (List.mem_of_getElem? h)
theorem SaysG.more (c : SaysG fa fn ex K) (i : Nat) {b : Bool} (h : (ex K)[i]? = some b := by rfl) : b = true := by
  have c1 := (He.ba (He.ba (show ((fa.all fun f => f.ok K) && ((fn.all fun d => d.ok K) && (ex K).all id)) = true from congrArg (fun z : AlG => z.1) c)).2).2
  exact List.all_eq_true.mp c1 b (List.mem_of_getElem? h)
theorem SaysG.dn (c : SaysG fa fn ex K) (i : Nat) {d : DefG} (h : fn[i]? = some d := by rfl) : Dn K d := by
  have c2 := (He.ba (He.ba (show ((fa.all fun f => f.ok K) && ((fn.all fun d => d.ok K) && (ex K).all id)) = true from congrArg (fun z : AlG => z.1) c)).2).1
  have e : fn.map (fun d => fnG K (d.at_ K)) = fn.map DefG.val := congrArg (fun z : AlG => z.2) c
  have e2 : (fn.map fun d => fnG K (d.at_ K))[i]? = (fn.map DefG.val)[i]? := by rw [e]
  rw [List.getElem?_map, List.getElem?_map, h] at e2
  exact DefG.funD (Option.some.inj e2) (List.all_eq_true.mp c2 d (List.mem_of_getElem? h))
end

/-! ### sizes -/
theorem abs_lt_mul {i j : Int} {a b : Nat} (ha : i.natAbs < 2 ^ a) (hb : j.natAbs < 2 ^ b) : (i * j).natAbs < 2 ^ (a + b) := wide_lt ha hb
theorem abs_lt_add {i j : Int} {a : Nat} (ha : i.natAbs < 2 ^ a) (hb : j.natAbs < 2 ^ a) : (i + j).natAbs < 2 ^ (a + 1) := by
  have := Int.natAbs_add_le i j
  rw [Nat.pow_succ]; omega
theorem abs_mono {i : Int} {a b : Nat} (h : i.natAbs < 2 ^ a) (hab : a ≤ b) : i.natAbs < 2 ^ b := Nat.lt_of_lt_of_le h (Nat.pow_le_pow_right (by decide) hab)
theorem sz_add {i j : Int} {a b : Nat} (ha : i.natAbs < 2 ^ a) (hb : j.natAbs < 2 ^ b) : (i + j).natAbs < 2 ^ (max a b + 1) :=
  abs_lt_add (abs_mono ha (Nat.le_max_left _ _)) (abs_mono hb (Nat.le_max_right _ _))
theorem sz_neg {i : Int} {a : Nat} (ha : i.natAbs < 2 ^ a) : (-i).natAbs < 2 ^ a := by rw [Int.natAbs_neg]; exact ha
theorem sz_sub {i j : Int} {a b : Nat} (ha : i.natAbs < 2 ^ a) (hb : j.natAbs < 2 ^ b) : (i - j).natAbs < 2 ^ (max a b + 1) := by
  rw [Int.sub_eq_add_neg]; exact sz_add ha (sz_neg hb)
theorem sz_pos {i : Int} {a : Nat} (h0 : 0 ≤ i) (h : i < 2 ^ a) : i.natAbs < 2 ^ a := by
  have : ((i.natAbs : Nat) : Int) < ((2 ^ a : Nat) : Int) := by rw [Int.natAbs_of_nonneg h0]; exact_mod_cast h
  exact_mod_cast this
theorem mulW {i j : Int} {a b : Nat} (ha : i.natAbs < 2 ^ a) (hb : j.natAbs < 2 ^ b) (h : a + b + 2 ≤ 1000000) : CMulW i j := wide_mul (a := a + 1) (b := b + 1) (abs_mono ha (by omega)) (abs_mono hb (by omega)) (by omega) (by omega) (by omega)
theorem divW {i j : Int} {b : Nat} (h : 0 < j) (hb : j.natAbs < 2 ^ b) (h9 : b ≤ 8000) : CDivW i j := wide_div (b := b + 1) h (abs_mono hb (by omega)) (by omega) (by omega)
theorem divZ {i j : Int} {b : Nat} (h : j ≠ 0) (hb : j.natAbs < 2 ^ b) (h9 : b ≤ 8000) : CDivZ i j := ⟨h, Nat.lt_of_lt_of_le (PySem.Flt.log2_lt_of (k := b + 1) (by omega) (abs_mono hb (by omega))) (by omega)⟩

/-! ### a new instance, its __init__'s promise taken in another form -/
section
variable {X : Cx} {CX : CXT} {k : Nat} {f C : Addr} {fd : FuncData} {ps : List Str} {sp : Sp} {dvs : List V} {ds : List Value} {E : XK} {x : Str} {p pos : Pos} {e : Expr} {es : List Expr} {t : TA} {B : List V → Hp → VK → Prop}
def tMk (B : List V → Hp → VK → Prop) (t : TA) : TE := fun σ H Q => t σ H fun vs H1 => B vs H1 Q
theorem pe_makeI (M : Mk X.K C f) (F : FnOk X.prog X.w X.K X.mg X.base CX k f fd ps sp) (hr : Room (k + 1) X.A) (hg : Gl X x) (hm : X.mg x = some (.ref C)) (hb : Binds X.K fd ps ds) (hd : Vals dvs ds) (hx : Passes CX X E)
    (conv : ∀ vs H1 Q, B vs H1 Q → ∀ x dx, H1 x = none → H1 dx = none → dx ≠ x → sp (.ref x :: (vs ++ dvs)) (upd (upd H1 dx (.own x)) x (.ins C dx [])) (fun v H2 => v = .non ∧ Q (.ref x) H2) E)
    (ha : PA X (e :: es) t) (hdb : (x == ("__debug__" : Str)) = false := by decide) (he : starEach (e :: es) X.env = (false, eval e X.env) :: starEach es X.env := by rfl) (hpl : (backTo pos (starEach es X.env)).any (·.1) = false := by rfl) :
    PE X (.Call (.Name x p) (e :: es) [] pos) (tMk B t) := by
  refine ⟨fun pins s σ H Q I h => ?_⟩
  refine wpAny_Call_Name_kw (ld_glob I hg hm ?_ hdb)
  refine PySem.W.callWith_K (h₀ := X.base) I.ok.mod.kin M.kp (thn (ha.run pos pins s σ H _ I h) fun us s1 hh => ?_) he hpl
  obtain ⟨vs, H1, I1, r, q⟩ := hh
  exact ⟨I1.kIn, run_make M F hr hb hd hx I1 r (conv vs H1 Q q)⟩
/-- .. in a try's body: what is wished of an exception knows the slots -/
theorem run_makeS {pins : List (Addr × Obj)} {σ : L2.St} {H : Hp} {s : Shared} {Q : VK} {us : List Value} {vs : List V} {E : L2.St → XK} (M : Mk X.K C f) (F : FnOk X.prog X.w X.K X.mg X.base CX k f fd ps sp) (hr : Room (k + 1) X.A) (hb : Binds X.K fd ps ds) (hd : Vals dvs ds)
    (hx : PassesAt CX X σ (E σ)) (I : Inv X pins σ H s) (r : Vals vs us)
    (h : ∀ x dx, H x = none → H dx = none → dx ≠ x → sp (.ref x :: (vs ++ dvs)) (upd (upd H dx (.own x)) x (.ins C dx [])) (fun v H2 => v = .non ∧ Q (.ref x) H2) (E σ)) :
    wpAny (model X.prog X.w) X.A (call (.ref C) us) (EP X pins σ Q) X.xe s := by
  have hq := h (s.heap.objs.size + 1) s.heap.objs.size (I.hok.fresh (Nat.le_succ _)) (I.hok.fresh (Nat.le_refl _)) (Nat.ne_of_lt (Nat.lt_succ_self _))
  have I2 := Inv.made (C := C) I
  have r2 : Vals (V.ref (s.heap.objs.size + 1) :: (vs ++ dvs)) (Value.ref (s.heap.objs.size + 1) :: (us ++ ds)) := .cons rfl (r.append hd)
  have hl : (Value.ref (s.heap.objs.size + 1) :: us ++ ds).length = ps.length := by
    have e := r2.length
    rw [F.len _ _ _ _ hq] at e
    exact e.symm
  refine wpAny_call (make_map (f := f) I.kIn M.makes M.init (beq_iff_eq.mp M.fn) (codeAny_mono (F.run _ X.stack _ _ ⟨Value.ref (s.heap.objs.size + 1) :: us, []⟩ (Value.ref (s.heap.objs.size + 1) :: (us ++ ds)) _ _ (E σ) (hr.make C us [])
    (I2.env0.make C us []) (hb _ (Value.ref (s.heap.objs.size + 1) :: us) I2.kIn hl) r2 hq) fun r s' hq' => ?_))
  cases r with
  | error e => exact hx pins _ _ e s' I2 hq'
  | ok fl =>
    cases fl with
    | ret u =>
      obtain ⟨v, H', I3, rv, ev, q3⟩ := I2.after hq'
      subst ev
      exact ⟨rv, ⟨V.ref (s.heap.objs.size + 1), H', I3, rfl, q3⟩⟩
    | next => exact False.elim hq'
    | brk => exact False.elim hq'
    | cont => exact False.elim hq'
def tMkS (B : L2.St → List V → Hp → VK → Prop) (t : TA) : TE := fun σ H Q => t σ H fun vs H1 => B σ vs H1 Q
theorem pe_makeIS {E : L2.St → XK} {B : L2.St → List V → Hp → VK → Prop} (M : Mk X.K C f) (F : FnOk X.prog X.w X.K X.mg X.base CX k f fd ps sp) (hr : Room (k + 1) X.A) (hg : Gl X x) (hm : X.mg x = some (.ref C)) (hb : Binds X.K fd ps ds) (hd : Vals dvs ds) (hx : ∀ σ, PassesAt CX X σ (E σ))
    (conv : ∀ σ vs H1 Q, B σ vs H1 Q → ∀ x dx, H1 x = none → H1 dx = none → dx ≠ x → sp (.ref x :: (vs ++ dvs)) (upd (upd H1 dx (.own x)) x (.ins C dx [])) (fun v H2 => v = .non ∧ Q (.ref x) H2) (E σ))
    (ha : PA X (e :: es) t) (hdb : (x == ("__debug__" : Str)) = false := by decide) (he : starEach (e :: es) X.env = (false, eval e X.env) :: starEach es X.env := by rfl) (hpl : (backTo pos (starEach es X.env)).any (·.1) = false := by rfl) :
    PE X (.Call (.Name x p) (e :: es) [] pos) (tMkS B t) := by
  refine ⟨fun pins s σ H Q I h => ?_⟩
  refine wpAny_Call_Name_kw (ld_glob I hg hm ?_ hdb)
  refine PySem.W.callWith_K (h₀ := X.base) I.ok.mod.kin M.kp (thn (ha.run pos pins s σ H _ I h) fun us s1 hh => ?_) he hpl
  obtain ⟨vs, H1, I1, r, q⟩ := hh
  exact ⟨I1.kIn, run_makeS M F hr hb hd (hx σ) I1 r (conv σ vs H1 Q q)⟩
end
/-- what a new instance's heap keeps -/
theorem same_made {H : Hp} {p dp C : Addr} {o : HO} (np : H p = none) (nd : H dp = none) (h : dp ≠ p) : Same H (upd (upd (upd H dp (.own p)) p (.ins C dp [])) p o) := fun b x e => by
  rw [upd_ne (ne_of_none e np), upd_ne (ne_of_none e np), upd_ne (ne_of_none e nd)]
  exact e
/-! ### caught errors -/
theorem pss_hyp {X : Cx} {p : Prop} {b : List Stmt} {t : TS} (h : p → PSs X b t) : PSs X b (fun D σ H => p ∧ t D σ H) :=
  ⟨fun pins s σ H D I q => (h q.1).run pins s σ H D I q.2⟩
def excCB (K : PySem.W.Frag) (D : Addr) : Bool :=
  He.eqO (PySem.W.findIn K (.ref D) "__getattribute__") (some (some (.builtin "BaseException.__getattribute__"))) && (He.eqO (PySem.W.findIn K (.ref D) "__getattr__") (some none) && (decide (PySem.W.subIn K (.ref D) (.type "BaseException") = some true) &&
    (PySem.W.hasDictIn K D && (He.eqO (PySem.W.findIn K (.ref D) "__class__") (some (some (.builtin "object.__class__"))) && (He.eqO (PySem.W.specialIn K (.builtin "object.__class__") "__get__") (some (some (.builtin "getset_descriptor.__get__"))) &&
      (decide (PySem.W.takesIn K (.builtin "object.__class__") = some true) && decide (PySem.W.mroIn K D (.type "object") = some true)))))))
theorem excCB_ok {K : PySem.W.Frag} {D : Addr} (h : excCB K D = true) : ExcC K D := by
  obtain ⟨h1, h⟩ := He.ba h
  obtain ⟨h2, h⟩ := He.ba h
  obtain ⟨h3, h⟩ := He.ba h
  obtain ⟨h4, h⟩ := He.ba h
  obtain ⟨h5, h⟩ := He.ba h
  obtain ⟨h6, h⟩ := He.ba h
  obtain ⟨h7, h8⟩ := He.ba h
  exact ⟨He.eqO_ok h1, He.eqO_ok h2, of_decide_eq_true h3, h4, He.eqO_ok h5, He.eqO_ok h6, of_decide_eq_true h7, of_decide_eq_true h8⟩
theorem iff_false {r : Bool} {p : Prop} (h : r = true ↔ p) (n : ¬ p) : r = false := by
  cases r with
  | true => exact absurd (h.mp rfl) n
  | false => rfl
theorem vnn {i j : Int} (h : i = j) : (!decide (V.int i = V.int j)) = false := by rw [veq h]; rfl
theorem vny {i j : Int} (h : i ≠ j) : (!decide (V.int i = V.int j)) = true := by rw [vne h]; rfl
theorem vbi {i j k l : Int} (h : i = j ↔ k = l) : (!decide (V.bl (decide (V.int i = V.int j)) = V.bl (decide (V.int k = V.int l)))) = false := by
  have e : decide (V.int i = V.int j) = decide (V.int k = V.int l) := by
    by_cases c : i = j
    · rw [veq c, veq (h.mp c)]
    · rw [vne c, vne fun z => c (h.mpr z)]
  rw [e]
  simp
/-! ### o.m(e, ..) in a try's body: what is wished of an exception knows the slots -/
def tMethE (C : Addr) (m : Str) (sp : Sp) (E : L2.St → XK) (ta : TE) (t : TA) : TE := fun σ H Q => ta σ H fun x H1 => ∃ a dx fs, x = .ref a ∧ H1 a = some (.ins C dx fs) ∧ fs.lookup m = none ∧
  t σ H1 fun vs H2 => sp (x :: vs) H2 Q (E σ)
section
variable {X : Cx} {CX : CXT} {k : Nat} {f C : Addr} {fd : FuncData} {ps : List Str} {sp : Sp} {x m : Str} {p pos apos : Pos} {e o : Expr} {es : List Expr} {ta : TE} {t : TA} {E : L2.St → XK}
theorem pe_methE {pl : Sem Bool} (he : PE X o ta) (c : Cls X.K C) (hm : Meth X.K C m f) (F : FnOk X.prog X.w X.K X.mg X.base CX k f fd ps sp) (hr : Room k X.A)
    (hb : Binds X.K fd ps []) (hx : ∀ σ, PassesAt CX X σ (E σ)) (ha : PA X (e :: es) t)
    (hst : starEach (e :: es) X.env = (false, eval e X.env) :: starEach es X.env := by rfl)
    (hpl : (backTo pos (starEach es X.env)).any (·.1) = false := by rfl)
    (ht : eval (.Call (.Attribute o m apos) (e :: es) [] pos) X.env = (do
      let ov ← eval o X.env
      standAt apos.atName
      let (f, first) ← holding [ov] (getMethod ov m pl)
      callWith pos f first (backTo pos (starEach (e :: es) X.env)) (backToKw pos (keywordEach [] X.env))) := by rfl) :
    PE X (.Call (.Attribute o m apos) (e :: es) [] pos) (tMethE C m sp E ta t) := by
  refine ⟨fun pins s σ H Q I h => ?_⟩
  refine PySem.W.methodCall_KW (pl := pl) (thn (he.run pins s σ H _ I h) fun u s1 hh => ?_) ht
  obtain ⟨x, H1, I1, rx, a, dx, fs, ex, ea, l, q⟩ := hh
  subst ex
  have eu : u = Value.ref a := rx
  subst eu
  refine getmeth_ok I1 ea c hm l ?_
  refine PySem.W.callWith_K (first := [.ref a]) (h₀ := X.base) I.ok.mod.kin hm.kp (thn (ha.run pos pins s1 σ H1 _ I1 q) fun us s2 h2 => ?_) hst hpl
  obtain ⟨vs, H2, I2, r, q2⟩ := h2
  exact ⟨I2.kIn, run_fnS (us := .ref a :: us) (vs := .ref a :: vs) F hr hb (hx σ) I2 (.cons rfl r) q2⟩
end
theorem bit_one (n : Nat) : PySem.Builtin.bitAnd (n : Int) 1 = ((n % 2 : Nat) : Int) := by
  show ((n &&& 1 : Nat) : Int) = _
  rw [Nat.and_one_is_mod]
/-- the size of a power -/
theorem pow_bits {b : Int} {k : Nat} (h : b.natAbs < 2 ^ k) (r : Nat) : (b ^ r).natAbs < 2 ^ (k * r + 1) := by
  rw [Int.natAbs_pow]
  have z := Nat.pow_le_pow_left (Nat.le_of_lt h) r
  rw [← Nat.pow_mul] at z
  have : 2 ^ (k * r) < 2 ^ (k * r + 1) := Nat.pow_lt_pow_right (by decide) (by omega)
  omega
theorem get_map {ns : List Int} {i : Nat} (h : i < ns.length) : ∃ x, ns[i]? = some x ∧ (ns.map V.int)[i]? = some (.int x) :=
  ⟨ns[i], List.getElem?_eq_getElem h, by rw [List.getElem?_map, List.getElem?_eq_getElem h]; rfl⟩
theorem len_map {ns : List Int} : (ns.map V.int).length = ns.length := List.length_map ..
theorem map_at {ns : List Int} {i : Nat} {x : Int} (h : ns[i]? = some x) : (ns.map V.int)[i]? = some (.int x) := by rw [List.getElem?_map, h]; rfl
theorem cut_lo {xs : List V} {m : Nat} (h : m ≤ xs.length) : cutV xs none (some (m : Int)) = xs.take m := by
  have e : HT.sIx xs.length xs.length (some (m : Int)) = m := by rw [HT.sIx_nat]; omega
  simp [cutV, e, HT.sIx_none]
theorem cut_hi {xs : List V} {m : Nat} (h : m ≤ xs.length) : cutV xs (some (m : Int)) none = xs.drop m := by
  have e : HT.sIx xs.length 0 (some (m : Int)) = m := by rw [HT.sIx_nat]; omega
  simp only [cutV, e, HT.sIx_none]
  exact List.take_of_length_le (by simp)
/-- within a comprehension: the written part said -/
theorem pe_fldK {X : Cx} {K : PySem.W.Frag} {o : Expr} {ta : TE} {f : Str} {pos : Pos} (hK : X.K = K) (h : PE X (.Attribute o f pos) (tFld X.K ta f)) : PE X (.Attribute o f pos) (tFld K ta f) := by
  subst hK
  exact h
end CB

namespace CB
/-- a / b is n / d in lowest terms, with a positive denominator -/
structure Fq (n d a b : Int) : Prop where
  eq : a * d = n * b
  pos : 0 < b
  cop : Nat.gcd a.natAbs b.natAbs = 1

theorem dvd_of_cop {a b c : Int} (h : b ∣ a * c) (g : Nat.gcd a.natAbs b.natAbs = 1) : b ∣ c := by
  have h1 : b.natAbs ∣ a.natAbs * c.natAbs := by rw [← Int.natAbs_mul]; exact Int.natAbs_dvd_natAbs.mpr h
  have h2 : Nat.Coprime b.natAbs a.natAbs := by rw [Nat.coprime_iff_gcd_eq_one, Nat.gcd_comm]; exact g
  exact Int.natAbs_dvd_natAbs.mp (h2.dvd_of_dvd_mul_left h1)
theorem Fq.den_dvd {n d a b : Int} (f : Fq n d a b) : b ∣ d := dvd_of_cop ⟨n, by have := f.eq; grind⟩ f.cop
theorem Fq.num_dvd {n d a b : Int} (f : Fq n d a b) : a ∣ n := by
  have h : a ∣ b * n := ⟨d, by have := f.eq; grind⟩
  exact dvd_of_cop h (by rw [Nat.gcd_comm]; exact f.cop)
theorem natAbs_le_of_dvd {a b : Int} (h : a ∣ b) (hb : b ≠ 0) : a.natAbs ≤ b.natAbs := Nat.le_of_dvd (by omega) (Int.natAbs_dvd_natAbs.mpr h)
theorem Fq.den_le {n d a b : Int} (f : Fq n d a b) (hd : d ≠ 0) : b.natAbs ≤ d.natAbs := natAbs_le_of_dvd f.den_dvd hd
theorem Fq.num_le {n d a b : Int} (f : Fq n d a b) (hd : d ≠ 0) : a.natAbs ≤ n.natAbs := by
  by_cases hn : n = 0
  · have e := f.eq
    rw [hn, Int.zero_mul] at e
    rcases Int.mul_eq_zero.mp e with e | e
    · rw [e]; exact Nat.zero_le _
    · exact absurd e hd
  · exact natAbs_le_of_dvd f.num_dvd hn
theorem Fq.uniq {n d a b a' b' : Int} (f : Fq n d a b) (f' : Fq n d a' b') (hd : d ≠ 0) : a = a' ∧ b = b' := by
  have h1 := f.eq
  have h2 := f'.eq
  have e : a * b' = a' * b := by
    have : (a * b') * d = (a' * b) * d := by grind
    exact Int.eq_of_mul_eq_mul_right hd this
  have p := f.pos
  have p' := f'.pos
  have d1 : b ∣ b' := dvd_of_cop (a := a) ⟨a', by grind⟩ f.cop
  have d2 : b' ∣ b := dvd_of_cop (a := a') ⟨a, by grind⟩ f'.cop
  have e2 : b = b' := by
    have x1 := natAbs_le_of_dvd d1 (by omega)
    have x2 := natAbs_le_of_dvd d2 (by omega)
    omega
  subst e2
  exact ⟨Int.eq_of_mul_eq_mul_right (by omega) e, rfl⟩
/-- the same number by another pair -/
theorem Fq.conv {n d a b n' d' : Int} (f : Fq n d a b) (hd : d ≠ 0) (h : n * d' = n' * d) : Fq n' d' a b := by
  refine ⟨?_, f.pos, f.cop⟩
  have e := f.eq
  have : (a * d') * d = (n' * b) * d := by grind
  exact Int.eq_of_mul_eq_mul_right hd this
theorem Fq.self {a b : Int} (p : 0 < b) (c : Nat.gcd a.natAbs b.natAbs = 1) : Fq a b a b := ⟨rfl, p, c⟩
/-- what __init__ stores -/
theorem fq_init {n d c : Int} (hd : d ≠ 0) (hc : c = if d < 0 then -((Nat.gcd n.natAbs d.natAbs : Nat) : Int) else ((Nat.gcd n.natAbs d.natAbs : Nat) : Int)) : c ≠ 0 ∧ c.natAbs ≤ d.natAbs ∧ Fq n d (n.fdiv c) (d.fdiv c) := by
  have gp : 0 < Nat.gcd n.natAbs d.natAbs := Nat.gcd_pos_of_pos_right _ (by omega)
  have g1 : c.natAbs = Nat.gcd n.natAbs d.natAbs := by rw [hc]; split <;> omega
  have c0 : c ≠ 0 := by omega
  have cn : c ∣ n := Int.natAbs_dvd_natAbs.mp (by rw [g1]; exact Nat.gcd_dvd_left _ _)
  have cd : c ∣ d := Int.natAbs_dvd_natAbs.mp (by rw [g1]; exact Nat.gcd_dvd_right _ _)
  obtain ⟨n', hn⟩ := cn
  obtain ⟨d', hd'⟩ := cd
  have e1 : n.fdiv c = n' := by rw [hn, Int.mul_fdiv_cancel_left _ c0]
  have e2 : d.fdiv c = d' := by rw [hd', Int.mul_fdiv_cancel_left _ c0]
  refine ⟨c0, natAbs_le_of_dvd ⟨d', hd'⟩ hd, ?_⟩
  rw [e1, e2]
  refine ⟨by grind, ?_, ?_⟩
  · refine Decidable.byContradiction fun hn => ?_
    have hn : d' ≤ 0 := by omega
    by_cases h : d < 0
    · have hc' : c < 0 := by rw [hc, if_pos h]; omega
      have z := Int.mul_nonneg (show 0 ≤ -c by omega) (show 0 ≤ -d' by omega)
      rw [Int.neg_mul_neg] at z
      omega
    · have hc' : 0 < c := by rw [hc, if_neg h]; omega
      have z := Int.mul_nonneg (show 0 ≤ c by omega) (show 0 ≤ -d' by omega)
      rw [Int.mul_neg] at z
      omega
  · have z := Nat.gcd_mul_left c.natAbs n'.natAbs d'.natAbs
    rw [← Int.natAbs_mul, ← Int.natAbs_mul, ← hn, ← hd', ← g1] at z
    have : 0 < c.natAbs := by omega
    exact Nat.eq_of_mul_eq_mul_left this (by omega)

abbrev Cop (a b : Int) : Prop := Nat.gcd a.natAbs b.natAbs = 1
theorem Cop.dvd {a b d : Int} (h : Cop a b) (h1 : d ∣ a) (h2 : d ∣ b) : d ∣ 1 := by
  have z := Nat.dvd_gcd (Int.natAbs_dvd_natAbs.mpr h1) (Int.natAbs_dvd_natAbs.mpr h2)
  have z2 : d.natAbs ∣ (1 : Int).natAbs := by rw [h] at z; exact z
  exact Int.natAbs_dvd_natAbs.mp z2
theorem cop_of {a b : Int} (h : ∀ d : Int, d ∣ a → d ∣ b → d ∣ 1) : Cop a b := by
  have z := h ((Nat.gcd a.natAbs b.natAbs : Nat) : Int) (Int.natAbs_dvd_natAbs.mp (by rw [Int.natAbs_natCast]; exact Nat.gcd_dvd_left _ _)) (Int.natAbs_dvd_natAbs.mp (by rw [Int.natAbs_natCast]; exact Nat.gcd_dvd_right _ _))
  have z2 := Int.natAbs_dvd_natAbs.mpr z
  rw [Int.natAbs_natCast] at z2
  exact Nat.eq_one_of_dvd_one z2
theorem Cop.symm {a b : Int} (h : Cop a b) : Cop b a := by unfold Cop; rw [Nat.gcd_comm]; exact h
theorem Cop.left {a a' b : Int} (h : Cop a b) (d : a' ∣ a) : Cop a' b := cop_of fun x h1 h2 => h.dvd (Int.dvd_trans h1 d) h2
theorem Cop.right {a b b' : Int} (h : Cop a b) (d : b' ∣ b) : Cop a b' := cop_of fun x h1 h2 => h.dvd h1 (Int.dvd_trans h2 d)
theorem Cop.mul {a b c : Int} (h1 : Cop a b) (h2 : Cop a c) : Cop a (b * c) := cop_of fun x k1 k2 => by
  have k3 : x ∣ c := dvd_of_cop (a := b) k2 (cop_of fun y y1 y2 => h1.dvd (Int.dvd_trans y2 k1) y1)
  exact h2.dvd k1 k3
theorem Cop.mull {a b c : Int} (h1 : Cop a c) (h2 : Cop b c) : Cop (a * b) c := (h1.symm.mul h2.symm).symm
theorem cop_one {a : Int} : Cop a 1 := cop_of fun _ _ h => h
/-- two numbers by their greatest common divisor -/
theorem gcd_parts {n d : Int} (h : n ≠ 0 ∨ d ≠ 0) : ∃ (g x y : Int), g = ((Nat.gcd n.natAbs d.natAbs : Nat) : Int) ∧ 0 < g ∧ n = g * x ∧ d = g * y ∧ Cop x y ∧ n / g = x ∧ d / g = y := by
  have gp : 0 < Nat.gcd n.natAbs d.natAbs := by
    rcases h with h | h
    · exact Nat.gcd_pos_of_pos_left _ (by omega)
    · exact Nat.gcd_pos_of_pos_right _ (by omega)
  obtain ⟨x, hx⟩ : ((Nat.gcd n.natAbs d.natAbs : Nat) : Int) ∣ n := Int.natAbs_dvd_natAbs.mp (by rw [Int.natAbs_natCast]; exact Nat.gcd_dvd_left _ _)
  obtain ⟨y, hy⟩ : ((Nat.gcd n.natAbs d.natAbs : Nat) : Int) ∣ d := Int.natAbs_dvd_natAbs.mp (by rw [Int.natAbs_natCast]; exact Nat.gcd_dvd_right _ _)
  generalize hg : ((Nat.gcd n.natAbs d.natAbs : Nat) : Int) = g at hx hy
  have g0 : 0 < g := by omega
  refine ⟨g, x, y, rfl, g0, hx, hy, ?_, ?_, ?_⟩
  · have z := Nat.gcd_mul_left g.natAbs x.natAbs y.natAbs
    rw [← Int.natAbs_mul, ← Int.natAbs_mul, ← hx, ← hy] at z
    have g1 : g.natAbs = Nat.gcd n.natAbs d.natAbs := by rw [← hg, Int.natAbs_natCast]
    rw [← g1] at z
    have : 0 < g.natAbs := by omega
    exact Nat.eq_of_mul_eq_mul_left this (by omega)
  · rw [hx, Int.mul_ediv_cancel_left _ (by omega)]
  · rw [hy, Int.mul_ediv_cancel_left _ (by omega)]
/-- the sum as the program reckons it -/
theorem fq_add {a1 b1 a2 b2 g sc num sh : Int} (p1 : 0 < b1) (p2 : 0 < b2) (c1 : Cop a1 b1) (c2 : Cop a2 b2) (hg : g = ((Nat.gcd b1.natAbs b2.natAbs : Nat) : Int)) (hs : sc = b2 / g) (hn : num = a1 * sc + a2 * (b1 / g))
    (hh : sh = ((Nat.gcd num.natAbs g.natAbs : Nat) : Int)) : 0 < g ∧ 0 < sh ∧ Fq (a1 * b2 + a2 * b1) (b1 * b2) (num / sh) (b1 / sh * sc) := by
  obtain ⟨g', x, y, e1, g0, ex, ey, cxy, dx, dy⟩ := gcd_parts (n := b1) (d := b2) (.inl (by omega))
  rw [← hg] at e1
  subst e1
  rw [dx] at hn
  rw [dy] at hs
  subst hs
  obtain ⟨s', m, t, e2, s0, em, et, cmt, dm, dt⟩ := gcd_parts (n := num) (d := g') (.inr (by omega))
  rw [← hh] at e2
  subst e2
  have ebs : b1 / s' = t * x := by
    have e : b1 = s' * (t * x) := by rw [ex, et]; grind
    rw [e, Int.mul_ediv_cancel_left _ (by omega)]
  refine ⟨g0, s0, ?_⟩
  rw [dm, ebs]
  have x0 : 0 < x := Decidable.byContradiction fun h => by
    have z := Int.mul_nonneg (show 0 ≤ g' by omega) (show 0 ≤ -x by omega)
    rw [Int.mul_neg] at z
    omega
  have y0 : 0 < sc := Decidable.byContradiction fun h => by
    have z := Int.mul_nonneg (show 0 ≤ g' by omega) (show 0 ≤ -sc by omega)
    rw [Int.mul_neg] at z
    omega
  have t0 : 0 < t := Decidable.byContradiction fun h => by
    have z := Int.mul_nonneg (show 0 ≤ s' by omega) (show 0 ≤ -t by omega)
    rw [Int.mul_neg] at z
    omega
  refine ⟨by grind, Int.mul_pos (Int.mul_pos t0 x0) y0, ?_⟩
  have nx : Cop num x := cop_of fun d k1 k2 => by
    have k3 : d ∣ a1 * sc := by
      have : a1 * sc = num - a2 * x := by rw [hn]; omega
      rw [this]
      exact Int.dvd_sub k1 (Int.dvd_mul_of_dvd_right k2)
    have k4 : d ∣ sc := dvd_of_cop (a := a1) k3 ((c1.right ⟨g', by rw [ex]; grind⟩ : Cop a1 x).right k2)
    exact cxy.dvd k2 k4
  have ny : Cop num sc := cop_of fun d k1 k2 => by
    have k3 : d ∣ a2 * x := by
      have : a2 * x = num - a1 * sc := by rw [hn]; omega
      rw [this]
      exact Int.dvd_sub k1 (Int.dvd_mul_of_dvd_right k2)
    have k4 : d ∣ x := dvd_of_cop (a := a2) k3 ((c2.right ⟨g', by rw [ey]; grind⟩ : Cop a2 sc).right k2)
    exact cxy.dvd k4 k2
  have md : m ∣ num := ⟨s', by rw [em]; grind⟩
  exact (cmt.mul (nx.left md)).mul (ny.left md)
/-- the product as the program reckons it -/
theorem fq_mul {a1 b1 a2 b2 l r : Int} (p1 : 0 < b1) (p2 : 0 < b2) (c1 : Cop a1 b1) (c2 : Cop a2 b2) (hl : l = ((Nat.gcd a1.natAbs b2.natAbs : Nat) : Int)) (hr : r = ((Nat.gcd a2.natAbs b1.natAbs : Nat) : Int)) :
    0 < l ∧ 0 < r ∧ Fq (a1 * a2) (b1 * b2) (a1 / l * (a2 / r)) (b1 / r * (b2 / l)) := by
  obtain ⟨l', x, y, e1, l0, ex, ey, cxy, dx, dy⟩ := gcd_parts (n := a1) (d := b2) (.inr (by omega))
  rw [← hl] at e1
  subst e1
  obtain ⟨r', z, w, e2, r0, ez, ew, czw, dz, dw⟩ := gcd_parts (n := a2) (d := b1) (.inr (by omega))
  rw [← hr] at e2
  subst e2
  rw [dx, dy, dz, dw]
  have y0 : 0 < y := Decidable.byContradiction fun h => by
    have q := Int.mul_nonneg (show 0 ≤ l' by omega) (show 0 ≤ -y by omega)
    rw [Int.mul_neg] at q
    omega
  have w0 : 0 < w := Decidable.byContradiction fun h => by
    have q := Int.mul_nonneg (show 0 ≤ r' by omega) (show 0 ≤ -w by omega)
    rw [Int.mul_neg] at q
    omega
  refine ⟨l0, r0, by grind, Int.mul_pos w0 y0, ?_⟩
  have xw : Cop x w := (c1.left ⟨l', by rw [ex]; grind⟩).right ⟨r', by rw [ew]; grind⟩
  have zy : Cop z y := (c2.left ⟨r', by rw [ez]; grind⟩).right ⟨l', by rw [ey]; grind⟩
  exact (xw.mull czw).mul (cxy.mull zy)
theorem fq_neg {a b : Int} (p : 0 < b) (c : Cop a b) : Fq (-a) b (-a) b := ⟨rfl, p, by unfold Cop at c; rw [Int.natAbs_neg]; exact c⟩
/-- two pairs in lowest terms of the same number -/
theorem Fq.same {n d a b n' d' a' b' : Int} (f : Fq n d a b) (f' : Fq n' d' a' b') (hd : d ≠ 0) (hd' : d' ≠ 0) (h : n * d' = n' * d) : a = a' ∧ b = b' :=
  (f.conv hd h).uniq f' hd'
theorem Fq.back {n d a b n' d' a' b' : Int} (f : Fq n d a b) (f' : Fq n' d' a' b') (h : a = a' ∧ b = b') : n * d' = n' * d := by
  obtain ⟨rfl, rfl⟩ := h
  have e1 := f.eq
  have e2 := f'.eq
  have p := f.pos
  have : (n * d') * b = (n' * d) * b := by grind
  exact Int.eq_of_mul_eq_mul_right (by omega) this
theorem Fq.zero_iff {n d a b : Int} (f : Fq n d a b) (hd : d ≠ 0) : a = 0 ↔ n = 0 := by
  have e := f.eq
  have p := f.pos
  constructor
  · rintro rfl
    rw [Int.zero_mul] at e
    rcases Int.mul_eq_zero.mp e.symm with z | z
    · exact z
    · omega
  · rintro rfl
    rw [Int.zero_mul] at e
    rcases Int.mul_eq_zero.mp e with z | z
    · exact z
    · exact absurd z hd
theorem pos_of_mul {a b : Int} (h : 0 < a * b) (hb : 0 < b) : 0 < a := Decidable.byContradiction fun c => by
  have z := Int.mul_nonneg (show 0 ≤ -a by omega) (show 0 ≤ b by omega)
  rw [Int.neg_mul] at z
  omega
theorem nonneg_of_mul {a b : Int} (h : 0 ≤ a * b) (hb : 0 < b) : 0 ≤ a := Decidable.byContradiction fun c => by
  have z := Int.mul_pos (show 0 < -a by omega) hb
  rw [Int.neg_mul] at z
  omega
theorem Fq.pos_iff {n d a b : Int} (f : Fq n d a b) (hd : 0 < d) : 0 < a ↔ 0 < n := by
  have e := f.eq
  have p := f.pos
  constructor
  · intro h
    exact pos_of_mul (by rw [← e]; exact Int.mul_pos h hd) p
  · intro h
    exact pos_of_mul (by rw [e]; exact Int.mul_pos h p) hd
/-- the floor, by the pair that was given -/
theorem Fq.low {n d a b : Int} (f : Fq n d a b) (hd : 0 < d) : a / b * d ≤ n ∧ n < (a / b + 1) * d := by
  have e := f.eq
  have p := f.pos
  have h1 := Int.ediv_mul_le a (show b ≠ 0 by omega)
  have h2 := Int.lt_ediv_add_one_mul_self a p
  generalize a / b = q at h1 h2 ⊢
  constructor
  · have z := nonneg_of_mul (a := n - q * d) (b := b) (by
      have z := Int.mul_nonneg (show 0 ≤ a - q * b by omega) (show 0 ≤ d by omega)
      have e2 : (n - q * d) * b = (a - q * b) * d := by grind
      omega) p
    omega
  · have z := pos_of_mul (a := (q + 1) * d - n) (b := b) (by
      have z := Int.mul_pos (show 0 < (q + 1) * b - a by omega) hd
      have e2 : ((q + 1) * d - n) * b = ((q + 1) * b - a) * d := by grind
      omega) p
    omega
/-- whole where the denominator is 1 -/
theorem Fq.whole_iff {n d a b : Int} (f : Fq n d a b) (hd : 0 < d) : b = 1 ↔ a / b * d = n := by
  constructor
  · rintro rfl
    rw [Int.ediv_one]
    have e := f.eq
    omega
  · intro h
    have g : Fq n d (a / b) 1 := ⟨by rw [h, Int.mul_one], by decide, cop_one⟩
    exact (f.uniq g (by omega)).2
theorem Cop.powl {a b : Int} (h : Cop a b) (n : Nat) : Cop (a ^ n) b := by
  induction n with
  | zero => rw [Int.pow_zero]; exact cop_one.symm
  | succ n ih => rw [Int.pow_succ]; exact ih.mull h
theorem Cop.pow {a b : Int} (h : Cop a b) (n : Nat) : Cop (a ^ n) (b ^ n) := ((h.powl n).symm.powl n).symm
theorem fq_pow {a b : Int} (p : 0 < b) (c : Cop a b) (n : Nat) : Fq (a ^ n) (b ^ n) (a ^ n) (b ^ n) := ⟨rfl, Int.pow_pos p, c.pow n⟩
theorem mul_pow_int (a b : Int) (n : Nat) : (a * b) ^ n = a ^ n * b ^ n := by
  induction n with
  | zero => rw [Int.pow_zero, Int.pow_zero, Int.pow_zero, Int.mul_one]
  | succ n ih => rw [Int.pow_succ, Int.pow_succ, Int.pow_succ, ih]; grind
/-- the same power of an equal pair -/
theorem Fq.pow {n d a b n' d' : Int} (f : Fq n d a b) (hd : d ≠ 0) (e : Nat) (h1 : n' = n ^ e) (h2 : d' = d ^ e) : Fq n' d' (a ^ e) (b ^ e) := by
  subst h1 h2
  refine ⟨?_, Int.pow_pos f.pos, Cop.pow f.cop e⟩
  rw [← mul_pow_int, ← mul_pow_int, f.eq]
theorem pow_ne {a : Int} (h : a ≠ 0) (n : Nat) : a ^ n ≠ 0 := by
  induction n with
  | zero => rw [Int.pow_zero]; decide
  | succ n ih => rw [Int.pow_succ]; exact Int.mul_ne_zero ih h
/-- the sum of two numbers, by other pairs of theirs -/
theorem Fq.add {a b n1 d1 x y n2 d2 n d : Int} (f1 : Fq a b n1 d1) (f2 : Fq x y n2 d2) (f : Fq (n1 * d2 + n2 * d1) (d1 * d2) n d) : Fq (a * y + x * b) (b * y) n d := by
  have p1 := f1.pos
  have p2 := f2.pos
  have e1 := f1.eq
  have e2 := f2.eq
  refine f.conv (Int.mul_ne_zero (by omega) (by omega)) ?_
  grind
theorem Fq.mul {a b n1 d1 x y n2 d2 n d : Int} (f1 : Fq a b n1 d1) (f2 : Fq x y n2 d2) (f : Fq (n1 * n2) (d1 * d2) n d) : Fq (a * x) (b * y) n d := by
  have p1 := f1.pos
  have p2 := f2.pos
  have e1 := f1.eq
  have e2 := f2.eq
  refine f.conv (Int.mul_ne_zero (by omega) (by omega)) ?_
  grind
end CB

namespace CB
open PySem PySem.Spec PyProof.Rows L2
def rComb : List V → Hp → VK → Prop := fun vs H Q => ∃ a b : Int, vs = [.int a, .int b] ∧ 0 ≤ a ∧ 0 ≤ b ∧ a < 2 ^ 64 ∧ (b ≤ 9000 ∨ a ≤ 18000) ∧ Q (.int (PySem.W.mcComb a b)) H
theorem cr_comb {X : Cx} : CallR X (.builtin "math.comb") rComb := by
  intro pins s σ H vs us Q I r h
  obtain ⟨a, b, rfl, h1, h2, h3, h4, q⟩ := h
  obtain ⟨t, u, rfl⟩ := Vals.int2 r
  exact PySem.W.mc_comb h1 h2 h3 h4 fun _ => ⟨.int _, H, I.tok _, ⟨_, rfl⟩, q⟩
def rPerm : List V → Hp → VK → Prop := fun vs H Q => ∃ a b : Int, vs = [.int a, .int b] ∧ 0 ≤ a ∧ 0 ≤ b ∧ a < 2 ^ 64 ∧ b ≤ 20000 ∧ Q (.int (PySem.W.mcPerm a b)) H
theorem cr_perm {X : Cx} : CallR X (.builtin "math.perm") rPerm := by
  intro pins s σ H vs us Q I r h
  obtain ⟨a, b, rfl, h1, h2, h3, h4, q⟩ := h
  obtain ⟨t, u, rfl⟩ := Vals.int2 r
  exact PySem.W.mc_perm h1 h2 h3 h4 fun _ => ⟨.int _, H, I.tok _, ⟨_, rfl⟩, q⟩
def rLcm : List V → Hp → VK → Prop := fun vs H Q => ∃ a b : Int, vs = [.int a, .int b] ∧ a.natAbs < 2 ^ 64 ∧ b.natAbs < 2 ^ 64 ∧ Q (.int ((Nat.lcm a.natAbs b.natAbs : Nat) : Int)) H
theorem cr_lcm {X : Cx} : CallR X (.builtin "math.lcm") rLcm := by
  intro pins s σ H vs us Q I r h
  obtain ⟨a, b, rfl, h1, h2, q⟩ := h
  obtain ⟨t, u, rfl⟩ := Vals.int2 r
  exact PySem.W.mc_lcm h1 h2 fun _ => ⟨.int _, H, I.tok _, ⟨_, rfl⟩, q⟩
/-- the triangle's entry -/
def chs : Nat → Nat → Nat
  | _, 0 => 1
  | 0, _ + 1 => 0
  | n + 1, k + 1 => chs n k + chs n (k + 1)
def fac : Nat → Nat
  | 0 => 1
  | n + 1 => (n + 1) * fac n
theorem fac_pos (n : Nat) : 0 < fac n := by
  induction n with
  | zero => decide
  | succ n ih => exact Nat.mul_pos (Nat.succ_pos n) ih
theorem chs_above : ∀ {n k : Nat}, n < k → chs n k = 0
  | _, 0, h => absurd h (Nat.not_lt_zero _)
  | 0, k + 1, _ => by simp [chs]
  | n + 1, k + 1, h => by rw [chs, chs_above (by omega), chs_above (by omega)]
theorem chs_zero (n : Nat) : chs n 0 = 1 := by cases n <;> rfl
theorem chs_self : ∀ n : Nat, chs n n = 1
  | 0 => rfl
  | n + 1 => by rw [chs, chs_self n, chs_above (Nat.lt_succ_self n)]
theorem chs_fac : ∀ {n k : Nat}, k ≤ n → chs n k * (fac k * fac (n - k)) = fac n
  | n, 0, _ => by rw [chs_zero]; simp [fac]
  | n + 1, k + 1, h => by
    have h1 := chs_fac (n := n) (k := k) (by omega)
    rw [chs, fac, show n + 1 - (k + 1) = n - k by omega]
    by_cases e : k = n
    · subst e
      rw [chs_above (Nat.lt_succ_self k), chs_self, Nat.sub_self]
      simp [fac]
    · have h2 := chs_fac (n := n) (k := k + 1) (by omega)
      have e2 : fac (n - k) = (n - k) * fac (n - (k + 1)) := by
        have : n - k = (n - (k + 1)) + 1 := by omega
        rw [this]
        rfl
      obtain ⟨d, hd⟩ : ∃ d, n - k = d := ⟨_, rfl⟩
      have e3 : n = k + d := by omega
      rw [e2] at h1 ⊢
      rw [fac] at h2
      rw [show fac (n + 1) = (n + 1) * fac n from rfl]
      rw [hd] at h1 ⊢
      generalize fac (n - (k + 1)) = x at *
      generalize fac k = y at *
      generalize chs n k = u at *
      generalize chs n (k + 1) = v at *
      generalize fac n = z at *
      subst e3
      grind
theorem chs_symm {n k : Nat} (h : k ≤ n) : chs n (n - k) = chs n k := by
  have h1 := chs_fac h
  have h2 := chs_fac (n := n) (k := n - k) (by omega)
  rw [show n - (n - k) = k by omega] at h2
  have p := Nat.mul_pos (fac_pos k) (fac_pos (n - k))
  refine Nat.eq_of_mul_eq_mul_right p ?_
  rw [h1, ← h2]
  grind
open PySem.W in
theorem fp_fac (n : Nat) : ∀ k : Nat, k ≤ n → PySem.Builtin.Math.fallingProduct (n : Int) k * (fac (n - k) : Int) = (fac n : Int)
  | 0, _ => by rw [mc_fp_zero]; simp
  | k + 1, h => by
    have ih := fp_fac n k (by omega)
    rw [mc_fp_succ]
    have e : fac (n - k) = (n - k) * fac (n - (k + 1)) := by
      have : n - k = (n - (k + 1)) + 1 := by omega
      rw [this]
      rfl
    rw [e] at ih
    rw [← ih, Int.natCast_mul]
    have : ((n - k : Nat) : Int) = (n : Int) - (k : Int) := by omega
    rw [this]
    grind
theorem fp_chs {n k : Nat} (h : k ≤ n) : PySem.Builtin.Math.fallingProduct (n : Int) k = (chs n k : Int) * (fac k : Int) := by
  have h1 := fp_fac n k h
  have h2 := chs_fac h
  have p := fac_pos (n - k)
  refine Int.eq_of_mul_eq_mul_right (a := (fac (n - k) : Int)) (by omega) ?_
  rw [h1, ← h2, Int.natCast_mul, Int.natCast_mul]
  grind
theorem fp_self (k : Nat) : PySem.Builtin.Math.fallingProduct (k : Int) k = (fac k : Int) := by
  rw [fp_chs (Nat.le_refl k), chs_self]
  simp
theorem comb_chs (n k : Nat) : PySem.W.mcComb (n : Int) (k : Int) = (chs n k : Int) := by
  by_cases h : k ≤ n
  · have one : ∀ m : Nat, m ≤ n → PySem.Builtin.Math.fallingProduct (n : Int) m / PySem.Builtin.Math.fallingProduct (m : Int) m = (chs n m : Int) := fun m hm => by
      rw [fp_chs hm, fp_self]
      exact Int.mul_ediv_cancel _ (by have := fac_pos m; omega)
    by_cases c : k ≤ n - k
    · rw [PySem.W.mcComb_at (by omega) (by omega) (m := (k : Int)) (by omega), Int.toNat_natCast]
      exact one k h
    · rw [PySem.W.mcComb_at (by omega) (by omega) (m := ((n - k : Nat) : Int)) (by omega), Int.toNat_natCast, one (n - k) (by omega), chs_symm h]
  · rw [PySem.W.mcComb_above (by omega), chs_above (by omega)]
    rfl
theorem perm_fac (n : Nat) : PySem.W.mcPerm (n : Int) (n : Int) = (fac n : Int) := by
  rw [PySem.W.mcPerm_at (by omega), Int.toNat_natCast, fp_self]
theorem chs_le (n k : Nat) : chs n k ≤ 2 ^ n := by
  induction n generalizing k with
  | zero => cases k <;> simp [chs]
  | succ n ih =>
    cases k with
    | zero => rw [chs_zero]; exact Nat.pos_of_ne_zero (by simp)
    | succ k =>
      rw [chs, Nat.pow_succ]
      have h1 := ih k
      have h2 := ih (k + 1)
      omega
theorem fac_le (n : Nat) : n ≤ 256 → fac n ≤ 2 ^ (8 * n) := by
  induction n with
  | zero => intro _; decide
  | succ n ih =>
    intro h
    have h1 := ih (by omega)
    have h2 := Nat.mul_le_mul (show n + 1 ≤ 2 ^ 8 by simpa using h) h1
    rw [← Nat.pow_add] at h2
    rw [fac, show 8 * (n + 1) = 8 + 8 * n by omega]
    exact h2
end CB


namespace CB
open PySem PySem.Spec PyProof.Rows L2 
local macro_rules | `(tactic| walk_at "cb sz") => `(tactic| first
  | assumption
  | (apply abs_lt_mul <;> walk_at "cb sz")
  | (apply sz_add <;> walk_at "cb sz")
  | (apply sz_sub <;> walk_at "cb sz")
  | (apply sz_neg <;> walk_at "cb sz")
  | (show _ < 2 ^ 64; decide)
  | (show _ < 2 ^ 128; decide)
  | (show _ < 2 ^ 144; decide)
  | (show _ < 2 ^ 250; decide))
local macro_rules | `(tactic| walk_at "cb size") => `(tactic| (apply abs_mono <;> first | walk_at "cb sz" | decide))
local macro_rules | `(tactic| walk_at "cb mul") => `(tactic| (apply mulW <;> first | walk_at "cb sz" | decide))
local macro_rules | `(tactic| walk_at "cb ne") => `(tactic| first
  | omega
  | (apply Int.mul_ne_zero <;> walk_at "cb ne"))
def top (i : Nat) : Stmt := PySem.Challenge.pw_certsums_k01_fraction_sums_products.main.body.getD i (.Pass ⟨0, 0, 0, 0⟩)
abbrev mth (i j : Nat) : Stmt := inClass (top i) j
abbrev s__law_numbers : Stmt := top 9
abbrev N__law_numbers : List Str := ["script", "count", "rest", "by_digits", "numbers", "k", "cell"]
theorem sc__law_numbers : FnScope N__law_numbers ["script", "count"] (defScope s__law_numbers) := ⟨rfl, rfl, rfl, by decide +kernel, rfl, by decide +kernel, by decide +kernel⟩
abbrev d__law_numbers : DefG := ⟨fun K => He.fAd K ("_law_numbers", none), "_law_numbers", "_law_numbers", defArgs s__law_numbers, defBody s__law_numbers, defScope s__law_numbers, []⟩
abbrev s_Fraction___init__ : Stmt := mth 6 0
abbrev N_Fraction___init__ : List Str := ["self", "num", "den", "common"]
theorem sc_Fraction___init__ : FnScope N_Fraction___init__ ["self", "num", "den"] (defScope s_Fraction___init__) := ⟨rfl, rfl, rfl, by decide +kernel, rfl, by decide +kernel, by decide +kernel⟩
abbrev d_Fraction___init__ : DefG := ⟨fun K => He.fAd K ("Fraction", some "__init__"), "__init__", "Fraction.__init__", defArgs s_Fraction___init__, defBody s_Fraction___init__, defScope s_Fraction___init__, [.int 1]⟩
abbrev s__in_lowest_terms : Stmt := top 7
abbrev N__in_lowest_terms : List Str := ["num", "den", "made"]
theorem sc__in_lowest_terms : FnScope N__in_lowest_terms ["num", "den"] (defScope s__in_lowest_terms) := ⟨rfl, rfl, rfl, by decide +kernel, rfl, by decide +kernel, by decide +kernel⟩
abbrev d__in_lowest_terms : DefG := ⟨fun K => He.fAd K ("_in_lowest_terms", none), "_in_lowest_terms", "_in_lowest_terms", defArgs s__in_lowest_terms, defBody s__in_lowest_terms, defScope s__in_lowest_terms, []⟩
abbrev s_Fraction___add__ : Stmt := mth 6 2
abbrev N_Fraction___add__ : List Str := ["self", "other", "common", "scale", "num", "shared"]
theorem sc_Fraction___add__ : FnScope N_Fraction___add__ ["self", "other"] (defScope s_Fraction___add__) := ⟨rfl, rfl, rfl, by decide +kernel, rfl, by decide +kernel, by decide +kernel⟩
abbrev d_Fraction___add__ : DefG := ⟨fun K => He.fAd K ("Fraction", some "__add__"), "__add__", "Fraction.__add__", defArgs s_Fraction___add__, defBody s_Fraction___add__, defScope s_Fraction___add__, []⟩
abbrev s__law_is_integer : Stmt := top 10
abbrev N__law_is_integer : List Str := ["x"]
theorem sc__law_is_integer : FnScope N__law_is_integer ["x"] (defScope s__law_is_integer) := ⟨rfl, rfl, rfl, by decide +kernel, rfl, by decide +kernel, by decide +kernel⟩
abbrev d__law_is_integer : DefG := ⟨fun K => He.fAd K ("_law_is_integer", none), "_law_is_integer", "_law_is_integer", defArgs s__law_is_integer, defBody s__law_is_integer, defScope s__law_is_integer, []⟩
abbrev s__law_divisor : Stmt := top 11
abbrev N__law_divisor : List Str := ["a", "b", "rest"]
theorem sc__law_divisor : FnScope N__law_divisor ["a", "b"] (defScope s__law_divisor) := ⟨rfl, rfl, rfl, by decide +kernel, rfl, by decide +kernel, by decide +kernel⟩
abbrev d__law_divisor : DefG := ⟨fun K => He.fAd K ("_law_divisor", none), "_law_divisor", "_law_divisor", defArgs s__law_divisor, defBody s__law_divisor, defScope s__law_divisor, []⟩
abbrev s__law_is : Stmt := top 12
abbrev N__law_is : List Str := ["x", "num", "den"]
theorem sc__law_is : FnScope N__law_is ["x", "num", "den"] (defScope s__law_is) := ⟨rfl, rfl, rfl, by decide +kernel, rfl, by decide +kernel, by decide +kernel⟩
abbrev d__law_is : DefG := ⟨fun K => He.fAd K ("_law_is", none), "_law_is", "_law_is", defArgs s__law_is, defBody s__law_is, defScope s__law_is, []⟩
abbrev s_Fraction___neg__ : Stmt := mth 6 5
abbrev N_Fraction___neg__ : List Str := ["self"]
theorem sc_Fraction___neg__ : FnScope N_Fraction___neg__ ["self"] (defScope s_Fraction___neg__) := ⟨rfl, rfl, rfl, by decide +kernel, rfl, by decide +kernel, by decide +kernel⟩
abbrev d_Fraction___neg__ : DefG := ⟨fun K => He.fAd K ("Fraction", some "__neg__"), "__neg__", "Fraction.__neg__", defArgs s_Fraction___neg__, defBody s_Fraction___neg__, defScope s_Fraction___neg__, []⟩
abbrev s_Fraction___sub__ : Stmt := mth 6 3
abbrev N_Fraction___sub__ : List Str := ["self", "other"]
theorem sc_Fraction___sub__ : FnScope N_Fraction___sub__ ["self", "other"] (defScope s_Fraction___sub__) := ⟨rfl, rfl, rfl, by decide +kernel, rfl, by decide +kernel, by decide +kernel⟩
abbrev d_Fraction___sub__ : DefG := ⟨fun K => He.fAd K ("Fraction", some "__sub__"), "__sub__", "Fraction.__sub__", defArgs s_Fraction___sub__, defBody s_Fraction___sub__, defScope s_Fraction___sub__, []⟩
abbrev s_Fraction___mul__ : Stmt := mth 6 4
abbrev N_Fraction___mul__ : List Str := ["self", "other", "left", "right", "num"]
theorem sc_Fraction___mul__ : FnScope N_Fraction___mul__ ["self", "other"] (defScope s_Fraction___mul__) := ⟨rfl, rfl, rfl, by decide +kernel, rfl, by decide +kernel, by decide +kernel⟩
abbrev d_Fraction___mul__ : DefG := ⟨fun K => He.fAd K ("Fraction", some "__mul__"), "__mul__", "Fraction.__mul__", defArgs s_Fraction___mul__, defBody s_Fraction___mul__, defScope s_Fraction___mul__, []⟩
abbrev s_law : Stmt := top 13
abbrev N_law : List Str := ["script", "numbers", "a", "b", "c", "d", "x", "y"]
theorem sc_law : FnScope N_law ["script"] (defScope s_law) := ⟨rfl, rfl, rfl, by decide +kernel, rfl, by decide +kernel, by decide +kernel⟩
abbrev d_law : DefG := ⟨fun K => He.fAd K ("law", none), "law", "law", defArgs s_law, defBody s_law, defScope s_law, []⟩
/-- what the written part says of this text -/
structure Tx (K : PySem.W.Frag) (mg : Str → Option Value) : Prop where
  cls_Fraction : Cls K (He.ga K "Fraction")
  d_Fraction___add__ : Dn K d_Fraction___add__
  d_Fraction___init__ : Dn K d_Fraction___init__
  d_Fraction___mul__ : Dn K d_Fraction___mul__
  d_Fraction___neg__ : Dn K d_Fraction___neg__
  d_Fraction___sub__ : Dn K d_Fraction___sub__
  d__in_lowest_terms : Dn K d__in_lowest_terms
  d__law_divisor : Dn K d__law_divisor
  d__law_is : Dn K d__law_is
  d__law_is_integer : Dn K d__law_is_integer
  d__law_numbers : Dn K d__law_numbers
  d_law : Dn K d_law
  f_Fraction___add__ : PySem.W.isFn K (.ref (He.fAd K ("Fraction", some "__add__"))) = true
  f_Fraction___mul__ : PySem.W.isFn K (.ref (He.fAd K ("Fraction", some "__mul__"))) = true
  f_Fraction___neg__ : PySem.W.isFn K (.ref (He.fAd K ("Fraction", some "__neg__"))) = true
  f_Fraction___sub__ : PySem.W.isFn K (.ref (He.fAd K ("Fraction", some "__sub__"))) = true
  first_Fraction : PySem.W.selfFirst K (He.ga K "Fraction") = true
  g_DivisionByZero : mg "DivisionByZero" = some (.ref (He.ga K "DivisionByZero"))
  g_Fraction : mg "Fraction" = some (.ref (He.ga K "Fraction"))
  g__in_lowest_terms : mg "_in_lowest_terms" = some (.ref (He.fAd K ("_in_lowest_terms", none)))
  g__law_divisor : mg "_law_divisor" = some (.ref (He.fAd K ("_law_divisor", none)))
  g__law_is : mg "_law_is" = some (.ref (He.fAd K ("_law_is", none)))
  g__law_is_integer : mg "_law_is_integer" = some (.ref (He.fAd K ("_law_is_integer", none)))
  g__law_numbers : mg "_law_numbers" = some (.ref (He.fAd K ("_law_numbers", none)))
  g_gcd : mg "gcd" = some (.builtin "math.gcd")
  g_law : mg "law" = some (.ref (He.fAd K ("law", none)))
  k_DivisionByZero : PySem.W.keepIn K (.ref (He.ga K "DivisionByZero")) = true
  mk_Fraction : Mk K (He.ga K "Fraction") (He.fAd K ("Fraction", some "__init__"))
  n_Fraction_den : NoAttr K (He.ga K "Fraction") "den"
  n_Fraction_num : NoAttr K (He.ga K "Fraction") "num"
  r_DivisionByZero : ∀ {X : Cx}, X.K = K → Raises X (.ref (He.ga K "DivisionByZero"))
  s_Fraction___add__ : PySem.W.findIn K (.ref (He.ga K "Fraction")) "__add__" = some (some (.ref (He.fAd K ("Fraction", some "__add__"))))
  s_Fraction___mul__ : PySem.W.findIn K (.ref (He.ga K "Fraction")) "__mul__" = some (some (.ref (He.fAd K ("Fraction", some "__mul__"))))
  s_Fraction___neg__ : PySem.W.findIn K (.ref (He.ga K "Fraction")) "__neg__" = some (some (.ref (He.fAd K ("Fraction", some "__neg__"))))
  s_Fraction___sub__ : PySem.W.findIn K (.ref (He.ga K "Fraction")) "__sub__" = some (some (.ref (He.fAd K ("Fraction", some "__sub__"))))
  ty_Fraction : ∀ {H : Hp} {a dx : Addr} {fs : List (Str × V)}, H a = some (.ins (He.ga K "Fraction") dx fs) → TyX K H (.ref a) (.ref (He.ga K "Fraction"))
  x_DivisionByZero : PySem.W.excIn K (He.ga K "DivisionByZero") He.veBase "ValueError.__new__" = true
  z_abs : mg "abs" = none
  z_bool : mg "bool" = none
  z_int : mg "int" = none
  z_isinstance : mg "isinstance" = none
  z_len : mg "len" = none
  z_range : mg "range" = none

/-! ### what the defs promise -/
abbrev CF (K : PySem.W.Frag) : Addr := He.ga K "Fraction"
abbrev CD (K : PySem.W.Frag) : Value := .ref (He.ga K "DivisionByZero")
/-- a Fraction at a: its numerator and denominator -/
abbrev fsF (n d : Int) : List (Str × V) := [("num", .int n), ("den", .int d)]
/-- in lowest terms and of at most k bits -/
structure Lw (k : Nat) (n d : Int) : Prop where
  pos : 0 < d
  cop : Cop n d
  bn : n.natAbs < 2 ^ k
  bd : d.natAbs < 2 ^ k
theorem Lw.fq {k : Nat} {n d : Int} (l : Lw k n d) : Fq n d n d := ⟨rfl, l.pos, l.cop⟩
theorem Lw.ne {k : Nat} {n d : Int} (l : Lw k n d) : d ≠ 0 := by have := l.pos; omega
theorem Lw.mono {k j : Nat} {n d : Int} (l : Lw k n d) (h : k ≤ j) : Lw j n d := ⟨l.pos, l.cop, abs_mono l.bn h, abs_mono l.bd h⟩
theorem lw_of {k : Nat} {n d a b : Int} (f : Fq n d a b) (hd : d ≠ 0) (hn : n.natAbs < 2 ^ k) (hk : d.natAbs < 2 ^ k) : Lw k a b :=
  ⟨f.pos, f.cop, Nat.lt_of_le_of_lt (f.num_le hd) hn, Nat.lt_of_le_of_lt (f.den_le hd) hk⟩
/-- the value is a new Fraction n / d -/
theorem same_mut {H H2 : Hp} {p : Addr} {o : HO} (sm : Same H H2) (np : H p = none) : Same H (upd H2 p o) := fun b x e => by
  rw [upd_ne (ne_of_none e np)]
  exact sm _ _ e
theorem same_made0 {H : Hp} {p dp C : Addr} (np : H p = none) (nd : H dp = none) : Same H (upd (upd H dp (.own p)) p (.ins C dp [])) := fun b x e => by
  rw [upd_ne (ne_of_none e np), upd_ne (ne_of_none e nd)]
  exact e
/-- Fraction(..), its values all written or with the default; nothing is raised -/
def mkFr (K : PySem.W.Frag) (dvs : List V) : List V → Hp → VK → Prop := fun vs H1 Q => ∃ (n d : Int) (k : Nat), vs ++ dvs = [.int n, .int d] ∧ d.natAbs < 2 ^ k ∧ k ≤ 8000 ∧ d ≠ 0 ∧
  ∀ p dp H2 a b, Same H1 H2 → H1 p = none → H2 p = some (.ins (CF K) dp (fsF a b)) → Fq n d a b → Q (.ref p) H2
/-- .. in a try's body: W is wished of an exception, with the slots -/
def mkFrS (K : PySem.W.Frag) (dvs : List V) (W : WX) : L2.St → List V → Hp → VK → Prop := fun σ vs H1 Q => ∃ (n d : Int) (k : Nat), vs ++ dvs = [.int n, .int d] ∧ d.natAbs < 2 ^ k ∧ k ≤ 8000 ∧ (d = 0 → ∀ H2, Same H1 H2 → W (CD K) none σ H2) ∧
  (d ≠ 0 → ∀ p dp H2 a b, Same H1 H2 → H1 p = none → H2 p = some (.ins (CF K) dp (fsF a b)) → Fq n d a b → Q (.ref p) H2)
def RF (K : PySem.W.Frag) (H : Hp) (Q : VK) (R : Int → Int → Prop) : Prop := ∀ p dp H' n d, Same H H' → H p = none → H' p = some (.ins (CF K) dp (fsF n d)) → R n d → Q (.ref p) H'

/-- a new list of c numbers from 0 to 999999 -/
def spNums (K : PySem.W.Frag) : Sp := fun vs H Q _ => ∃ (a : Addr) (c : Int) (ns : List Int), vs = [.ref a, .int c] ∧ SqL K H a (ns.map V.int) ∧ ns.length ≤ 63 ∧ 0 ≤ c ∧ c ≤ 100 ∧
  ∀ p H' (ms : List Int), Same H H' → H p = none → H' p = some (.lst (ms.map V.int)) → ms.length = c.toNat → (∀ m ∈ ms, 0 ≤ m ∧ m < 1000000) → Q (.ref p) H'
def spInit (K : PySem.W.Frag) : Sp := fun vs H Q E => ∃ (x dx : Addr) (n d : Int) (k : Nat), vs = [.ref x, .int n, .int d] ∧ H x = some (.ins (CF K) dx []) ∧ d.natAbs < 2 ^ k ∧ k ≤ 8000 ∧
  (d = 0 → E (CD K) none H) ∧ (d ≠ 0 → ∀ a b, Fq n d a b → Q .non (upd H x (.ins (CF K) dx (fsF a b))))
theorem mkFr_conv (K : PySem.W.Frag) (dvs : List V) (vs : List V) (H1 : Hp) (Q : VK) (h : mkFr K dvs vs H1 Q) (x dx : Addr) (nx : H1 x = none) (nd : H1 dx = none) (ne : dx ≠ x) :
    spInit K (.ref x :: (vs ++ dvs)) (upd (upd H1 dx (.own x)) x (.ins (CF K) dx [])) (fun v H2 => v = .non ∧ Q (.ref x) H2) E0 := by
  obtain ⟨n, d, k, e, hb, hk, hd, q⟩ := h
  rw [e]
  exact ⟨x, dx, n, d, k, rfl, upd_same, hb, hk, fun z => absurd z hd, fun _ a b f => ⟨rfl, q x dx _ a b (same_made nx nd ne) nx upd_same f⟩⟩
theorem mkFrS_conv (K : PySem.W.Frag) (dvs : List V) (W : WX) (σ : L2.St) (vs : List V) (H1 : Hp) (Q : VK) (h : mkFrS K dvs W σ vs H1 Q) (x dx : Addr) (nx : H1 x = none) (nd : H1 dx = none) (ne : dx ≠ x) :
    spInit K (.ref x :: (vs ++ dvs)) (upd (upd H1 dx (.own x)) x (.ins (CF K) dx [])) (fun v H2 => v = .non ∧ Q (.ref x) H2) (WE W σ) := by
  obtain ⟨n, d, k, e, hb, hk, h0, q⟩ := h
  rw [e]
  exact ⟨x, dx, n, d, k, rfl, upd_same, hb, hk, fun z => h0 z _ (same_made0 nx nd), fun hd a b f => ⟨rfl, q hd x dx _ a b (same_made nx nd ne) nx upd_same f⟩⟩
def spLow (K : PySem.W.Frag) : Sp := fun vs H Q _ => ∃ n d : Int, vs = [.int n, .int d] ∧ RF K H Q (fun a b => a = n ∧ b = d)
def spAdd (K : PySem.W.Frag) : Sp := fun vs H Q _ => ∃ (a b da db : Addr) (n1 d1 n2 d2 : Int) (k : Nat), vs = [.ref a, .ref b] ∧ H a = some (.ins (CF K) da (fsF n1 d1)) ∧ H b = some (.ins (CF K) db (fsF n2 d2)) ∧ Lw k n1 d1 ∧ Lw k n2 d2 ∧ k ≤ 8000 ∧
  RF K H Q (Fq (n1 * d2 + n2 * d1) (d1 * d2))
def spIsInt (K : PySem.W.Frag) : Sp := fun vs H Q _ => ∃ n : Int, vs = [.int n] ∧ Q (.bl true) H
def spGcd (K : PySem.W.Frag) : Sp := fun vs H Q _ => ∃ a b : Int, vs = [.int a, .int b] ∧ Q (.int ((Nat.gcd a.natAbs b.natAbs : Nat) : Int)) H
theorem abs_if (a : Int) : (if a < 0 then -a else a) = (a.natAbs : Int) := by split <;> omega
structure IsOk (k : Nat) (num den n d : Int) : Prop where
  f : Fq num den n d
  a : n.natAbs < 2 ^ k
  b : d.natAbs < 2 ^ k
  c : num.natAbs < 2 ^ k
  e : den.natAbs < 2 ^ k
theorem isOk {k : Nat} {num den n d : Int} (f : Fq num den n d) (hd : den ≠ 0) (h1 : num.natAbs < 2 ^ k) (h2 : den.natAbs < 2 ^ k) : IsOk k num den n d :=
  ⟨f, Nat.lt_of_le_of_lt (f.num_le hd) h1, Nat.lt_of_le_of_lt (f.den_le hd) h2, h1, h2⟩
/-- the check holds: x is num / den in lowest terms -/
def spIs (K : PySem.W.Frag) : Sp := fun vs H Q _ => ∃ (a da : Addr) (n d num den : Int) (k : Nat), vs = [.ref a, .int num, .int den] ∧ H a = some (.ins (CF K) da (fsF n d)) ∧ Fq num den n d ∧ n.natAbs < 2 ^ k ∧ d.natAbs < 2 ^ k ∧ num.natAbs < 2 ^ k ∧ den.natAbs < 2 ^ k ∧ k ≤ 400000 ∧ Q (.bl true) H
def spNeg (K : PySem.W.Frag) : Sp := fun vs H Q _ => ∃ (a da : Addr) (n1 d1 : Int), vs = [.ref a] ∧ H a = some (.ins (CF K) da (fsF n1 d1)) ∧ RF K H Q (fun n d => n = -n1 ∧ d = d1)
def spSub (K : PySem.W.Frag) : Sp := fun vs H Q _ => ∃ (a b da db : Addr) (n1 d1 n2 d2 : Int) (k : Nat), vs = [.ref a, .ref b] ∧ H a = some (.ins (CF K) da (fsF n1 d1)) ∧ H b = some (.ins (CF K) db (fsF n2 d2)) ∧ Lw k n1 d1 ∧ Lw k n2 d2 ∧ k ≤ 8000 ∧
  RF K H Q (Fq (n1 * d2 - n2 * d1) (d1 * d2))
theorem lw_neg {k : Nat} {n d : Int} (l : Lw k n d) : Lw k (-n) d := ⟨l.pos, (fq_neg l.pos l.cop).cop, by rw [Int.natAbs_neg]; exact l.bn, l.bd⟩
def spMul (K : PySem.W.Frag) : Sp := fun vs H Q _ => ∃ (a b da db : Addr) (n1 d1 n2 d2 : Int) (k : Nat), vs = [.ref a, .ref b] ∧ H a = some (.ins (CF K) da (fsF n1 d1)) ∧ H b = some (.ins (CF K) db (fsF n2 d2)) ∧ Lw k n1 d1 ∧ Lw k n2 d2 ∧ k ≤ 8000 ∧
  RF K H Q (Fq (n1 * n2) (d1 * d2))
theorem take6 {ms : List Int} (h : ms.length = (6 : Int).toNat) (hb : ∀ m ∈ ms, 0 ≤ m ∧ m < 1000000) : ∃ m0 m1 m2 m3 m4 m5 : Int, ms = [m0, m1, m2, m3, m4, m5] ∧ (0 ≤ m0 ∧ m0 < 1000000) ∧ (0 ≤ m1 ∧ m1 < 1000000) ∧ (0 ≤ m2 ∧ m2 < 1000000) ∧ (0 ≤ m3 ∧ m3 < 1000000) ∧ (0 ≤ m4 ∧ m4 < 1000000) ∧ (0 ≤ m5 ∧ m5 < 1000000) :=
  match ms, h with
  | [m0, m1, m2, m3, m4, m5], _ => ⟨m0, m1, m2, m3, m4, m5, rfl, hb _ (by simp), hb _ (by simp), hb _ (by simp), hb _ (by simp), hb _ (by simp), hb _ (by simp)⟩

section
variable {P : Program} {w : World} {K : PySem.W.Frag} {mg : Str → Option Value} {base : Heap}
theorem ok__law_numbers (T : Tx K mg) : OkF P w K mg base 1 (He.fAd K ("_law_numbers", none)) ["script", "count"] (spNums K) := by
  refine okF_of (d := d__law_numbers) T.d__law_numbers rfl sc__law_numbers (fun _ _ _ _ _ _ us hl => match us, hl with | [_, _], _ => rfl) (fun vs H Q E h => ?_) (fun cdv A outer s H vs Q E hr h => ?_)
  · first | (obtain ⟨_, rfl, _⟩ := h; rfl) | (obtain ⟨_, _, rfl, _⟩ := h; rfl) | (obtain ⟨_, _, _, rfl, _⟩ := h; rfl) | (obtain ⟨_, _, _, _, rfl, _⟩ := h; rfl) | (obtain ⟨_, _, _, _, _, rfl, _⟩ := h; rfl) | (obtain ⟨_, _, _, _, _, _, rfl, _⟩ := h; rfl) | (obtain ⟨_, _, _, _, _, _, _, rfl, _⟩ := h; rfl) | (obtain ⟨_, _, _, _, _, _, _, _, rfl, _⟩ := h; rfl) | (obtain ⟨_, _, _, _, _, _, _, _, _, rfl, _⟩ := h; rfl) | (obtain ⟨_, _, _, _, _, _, _, _, _, _, rfl, _⟩ := h; rfl)
  · obtain ⟨a, c, ns, rfl, hS, hl, hc0, hc1, q⟩ := h
    refine ⟨_, (pss_cons (ps_setI (i := 2) sc__law_numbers.nd rfl (Or.inl rfl) pe_int)
      (Evl.pss_cut (ps_if (pt_cmpR op_gt (pe_callB call_len_seq (by rfl) T.z_len PySem.boot_len (pa_cons (pv 0) pa_nil)) pe_int (nomark _)) (pss_one (ps_setI (i := 2) sc__law_numbers.nd rfl (Or.inl rfl) (pe_ix ix_list (pv 0) pe_int (fun _ _ => rfl)))) pss_nil)
      (pss_cons (ps_set (i := 3) sc__law_numbers.nd rfl (Or.inl rfl) (pe_cmpR op_ge (pv 2) (pe_op op_pow pe_int pe_int) (nomark _)))
      (pss_cons (ps_set (i := 4) sc__law_numbers.nd rfl (Or.inl rfl) (pe_lst pa_nil))
      (pss_cons (ps_for PassesOwn.leaving rfl (pi_range1 rfl T.z_range (pa_cons (pv 1) pa_nil)) (pg_name (i := 5) sc__law_numbers.nd rfl (Or.inl rfl)) (pss_one (ps_if (PW.pt (pw_and (pt_val (pv 3)) (pw_and1 (pt_cmpR op_gt (pv 2) pe_int (nomark _))))) (pss_cons (ps_expr (pe_bm PySem.F.plainAttrs_list PySem.F.slot_list_append PySem.F.type_list_append mt_append (pv 4) (pa_cons (pe_op op_mod (pv 2) pe_int) pa_nil)))
      (pss_one (ps_setI (i := 2) sc__law_numbers.nd rfl (Or.inl rfl) (pe_op op_fdiv (pv 2) pe_int)))) (pss_cons (ps_setI (i := 6) sc__law_numbers.nd rfl (Or.inl rfl) pe_int)
      (Evl.pss_cut (ps_if (pt_cmpR op_gt (pe_callB call_len_seq (by rfl) T.z_len PySem.boot_len (pa_cons (pv 0) pa_nil)) pe_int (nomark _)) (pss_one (ps_setI (i := 6) sc__law_numbers.nd rfl (Or.inl rfl) (pe_op op_add (pe_ix ix_list (pv 0) (pe_op op_mod (pv 5) (pe_callB call_len_seq (by rfl) T.z_len PySem.boot_len (pa_cons (pv 0) pa_nil))) (fun _ _ => rfl)) (pe_op op_mul pe_int (pv 5))))) pss_nil)
      (pss_one (ps_expr (pe_bm PySem.F.plainAttrs_list PySem.F.slot_list_append PySem.F.type_list_append mt_append (pv 4) (pa_cons (pe_op op_mod (pe_op op_mod (pe_op op_mul (pe_op op_mod (pe_op op_mul (pv 6) pe_int) pe_int) pe_int) pe_int) pe_int) pa_nil)))))))))
      (pss_one (ps_ret (pv 4)))))))), ?_⟩
    refine ⟨_, rfl, fun r0 _ => ?_⟩
    refine ⟨fun σ' H' => H = H' ∧ ∃ r : Int, σ' = [some (.ref a), some (.int c), some (.int r), none, none, none, none], ?_, ?_⟩
    · refine ⟨_, rfl, _, _, rfl, .inl hS, _, _, rfl, rfl, _, rfl, iteD (fun h1 => ?_) (fun h1 => ?_)⟩
      · rw [len_map] at h1
        obtain ⟨x, _, hx⟩ := get_map (ns := ns) (i := 0) (by omega)
        exact ⟨_, rfl, _, _, _, _, rfl, rfl, hS, atI_nat (j := 0) hx, _, rfl, fun r _ => ⟨rfl, r, rfl⟩⟩
      · exact ⟨rfl, r0, rfl⟩
    rintro _ _ ⟨rfl, r, rfl⟩
    refine ⟨_, rfl, _, _, rfl, rfl, ⟨by decide, by decide, by decide⟩, _, _, rfl, rfl, ?_⟩
    obtain ⟨bd, hbd⟩ : ∃ bd : Bool, bd = decide ((10 : Int) ^ (18 : Int).toNat ≤ r) := ⟨_, rfl⟩
    refine ⟨Nat.zero_le _, fun p np => ?_⟩
    refine ⟨_, rfl, _, rfl, by omega, by omega, for_range (lo := 0) (n := c.toNat) (fun i σ' H' => ∃ (r : Int) (ms : List Int) (y5 y6 : Option V), σ' = [some (.ref a), some (.int c), some (.int r), some (.bl bd), some (.ref p), y5, y6] ∧
      Same H H' ∧ H' p = some (.lst (ms.map V.int)) ∧ ms.length = i ∧ ∀ m ∈ ms, 0 ≤ m ∧ m < 1000000) ⟨r, [], none, none, by rw [hbd]; rfl, sm_new np, upd_same, rfl, fun m hm => absurd hm (by simp)⟩ (fun i σ' H1 hi hI => ?_) (fun σ' H1 hI => ?_)⟩
    · obtain ⟨r, ms, y5, y6, rfl, sm, hp, hm, hb⟩ := hI
      have hz : (ms.map V.int).length < sizeLine := by rw [len_map]; exact small1000 (by omega)
      have more : ∀ (x r : Int) (y5 y6 : Option V), 0 ≤ x → x < 1000000 → ∃ (r' : Int) (ms' : List Int) (y5' y6' : Option V), [some (.ref a), some (.int c), some (.int r), some (.bl bd), some (.ref p), y5, y6] = [some (.ref a), some (.int c), some (.int r'), some (.bl bd), some (.ref p), y5', y6'] ∧
          Same H (upd H1 p (.lst (ms.map V.int ++ [.int x]))) ∧ (upd H1 p (.lst (ms.map V.int ++ [.int x]))) p = some (.lst (ms'.map V.int)) ∧ ms'.length = i + 1 ∧ ∀ m ∈ ms', 0 ≤ m ∧ m < 1000000 := fun x r y5 y6 h0 h1 =>
        ⟨r, ms ++ [x], y5, y6, rfl, same_mut sm np, by rw [upd_same, List.map_append]; rfl, by rw [List.length_append, hm]; rfl, fun m hm => by
          rcases List.mem_append.mp hm with hm | hm
          · exact hb m hm
          · rw [List.mem_singleton.mp hm]; exact ⟨h0, h1⟩⟩
      have e0 : (0 : Int) + (i : Int) = (i : Int) := Int.zero_add _
      rw [e0]
      refine ⟨_, rfl, _, rfl, iteShare (iteF ?_) (fun h1 els => ?_)⟩
      · refine ⟨_, rfl, fun c0 _ => ?_⟩
        refine ⟨fun σ' H' => H1 = H' ∧ ∃ z : Int, σ' = [some (.ref a), some (.int c), some (.int r), some (.bl bd), some (.ref p), some (.int (i : Int)), some (.int z)], ?_, ?_⟩
        · refine ⟨_, rfl, _, _, rfl, .inl (sm.seq hS), _, _, rfl, rfl, _, rfl, iteD (fun h1 => ?_) (fun h1 => ?_)⟩
          · have h1' : (0 : Int) < ((ns.map V.int).length : Int) := h1
            have h2 : 0 ≤ (i : Int) % ((ns.map V.int).length : Int) := Int.emod_nonneg _ (by omega)
            have h3 : (i : Int) % ((ns.map V.int).length : Int) < ((ns.map V.int).length : Int) := Int.emod_lt_of_pos _ h1'
            obtain ⟨x, _, hx⟩ := get_map (ns := ns) (i := ((i : Int) % ((ns.map V.int).length : Int)).toNat) (by rw [len_map] at *; omega)
            exact ⟨_, rfl, _, rfl, _, rfl, _, _, rfl, .inl (sm.seq hS), _, _, rfl, rfl, h1', _, _, _, _, rfl, rfl, sm.seq hS, at_of (by omega) hx, _, rfl, _, _, rfl, rfl, .inl ⟨by decide, by decide⟩, _, _, rfl, rfl, _, rfl, fun z _ => ⟨rfl, z, rfl⟩⟩
          · exact ⟨rfl, c0, rfl⟩
        rintro _ _ ⟨rfl, z, rfl⟩
        refine ⟨_, rfl, .inl ⟨rfl, _, SqL.of hp⟩, _, rfl, _, _, rfl, rfl, .inr ⟨by decide, by decide⟩, _, _, rfl, rfl, (show (0 : Int) < 2147483647 by decide), _, _, rfl, rfl, .inr ⟨by decide, by decide⟩, _, _, rfl, rfl, (show (0 : Int) < 2147483629 by decide), _, _, rfl, rfl, (show (0 : Int) < 1000000 by decide), _, _, _, rfl, rfl, hp, hz, ?_⟩
        exact more (z * 48271 % 2147483647 * 69621 % 2147483629 % 1000000) r (some (.int (i : Int))) (some (.int z)) (Int.emod_nonneg _ (by decide)) (Int.emod_lt_of_pos _ (by decide))
      · refine ⟨_, rfl, _, _, rfl, rfl, _, rfl, iteD (fun h2 => ?_) (fun h2 => unF els)⟩
        refine ⟨_, rfl, .inl ⟨rfl, _, SqL.of hp⟩, _, rfl, _, _, rfl, rfl, (show (0 : Int) < 1000000 by decide), _, _, _, rfl, rfl, hp, hz, ?_⟩
        refine ⟨_, rfl, _, _, rfl, rfl, ⟨by decide, by decide⟩, _, rfl, fun r2 _ => ?_⟩
        exact more (r % 1000000) r2 (some (.int (i : Int))) y6 (Int.emod_nonneg _ (by decide)) (Int.emod_lt_of_pos _ (by decide))
    · obtain ⟨r, ms, y5, y6, rfl, sm, hp, hm, hb⟩ := hI
      exact ⟨_, rfl, q p H1 ms sm np hp hm hb⟩

theorem ok_Fraction___init__ (T : Tx K mg) : OkD P w K mg base 1 (He.fAd K ("Fraction", some "__init__")) ["self", "num", "den"] (He.Dv.v K (.int 1)) (spInit K) := by
  refine okD_of (d := d_Fraction___init__) (dv := .int 1) T.d_Fraction___init__ rfl sc_Fraction___init__ (fun _ _ _ _ _ _ _ us its h1 h2 => match us, its, h1, h2 with | [_, _, _], [_], _, _ => ⟨_, rfl, rfl⟩) (fun _ _ _ _ _ _ _ us its h1 h2 => match us, its, h1, h2 with | [_, _], [_], _, _ => ⟨_, rfl, rfl⟩) (by decide) (fun vs H Q E h => ?_) (fun cdv A outer s H vs Q E hr h => ?_)
  · first | (obtain ⟨_, rfl, _⟩ := h; rfl) | (obtain ⟨_, _, rfl, _⟩ := h; rfl) | (obtain ⟨_, _, _, rfl, _⟩ := h; rfl) | (obtain ⟨_, _, _, _, rfl, _⟩ := h; rfl) | (obtain ⟨_, _, _, _, _, rfl, _⟩ := h; rfl) | (obtain ⟨_, _, _, _, _, _, rfl, _⟩ := h; rfl) | (obtain ⟨_, _, _, _, _, _, _, rfl, _⟩ := h; rfl) | (obtain ⟨_, _, _, _, _, _, _, _, rfl, _⟩ := h; rfl) | (obtain ⟨_, _, _, _, _, _, _, _, _, rfl, _⟩ := h; rfl) | (obtain ⟨_, _, _, _, _, _, _, _, _, _, rfl, _⟩ := h; rfl)
  · obtain ⟨x, dx, n, d, k, rfl, hx, hb, hk, hE, q⟩ := h
    refine ⟨_, (pss_cons (ps_if (pt_cmpR op_eq (pv 2) pe_int (nomark _)) (pss_one (ps_raise rfl (takes_of rfl rfl rfl rfl) (pmk_own PySem.F.excBase_ValueError T.x_DivisionByZero T.g_DivisionByZero T.k_DivisionByZero (T.r_DivisionByZero rfl) rfl))) pss_nil)
      (pss_cons (ps_setI (i := 3) sc_Fraction___init__.nd rfl (Or.inl rfl) (pe_callBfun cr_gcd rfl T.g_gcd (pa_cons (pv 1) (pa_cons (pv 2) pa_nil))))
      (Evl.pss_cut (ps_if (pt_cmpR op_lt (pv 2) pe_int (nomark _)) (pss_one (ps_setI (i := 3) sc_Fraction___init__.nd rfl (Or.inl rfl) (pe_un un_neg (pv 3)))) pss_nil)
      (pss_cons (ps_fld (pv 0) (pe_op op_fdivZ (pv 1) (pv 3)) rfl)
      (pss_one (ps_fld (pv 0) (pe_op op_fdivZ (pv 2) (pv 3)) rfl)))))), ?_⟩
    refine ⟨_, rfl, rfl, _, rfl, iteEq (fun c => ?_) (fun c => ?_)⟩
    · exact hE c
    refine ⟨_, rfl, _, rfl, _, _, rfl, _, rfl, fun common e_common => ?_⟩
    refine ⟨fun σ' H' => H = H' ∧ ∃ c : Int, σ' = [some (.ref x), some (.int n), some (.int d), some (.int c)] ∧ c = if d < 0 then -common else common, ?_, ?_⟩
    · refine ⟨_, rfl, _, _, rfl, rfl, _, rfl, iteD (fun h1 => ?_) (fun h1 => ?_)⟩
      · exact ⟨_, rfl, _, rfl, _, rfl, fun c e => ⟨rfl, c, rfl, by rw [if_pos h1, e]⟩⟩
      · exact ⟨rfl, common, rfl, by rw [if_neg h1]⟩
    rintro _ _ ⟨rfl, cc, rfl, hc⟩
    rw [e_common] at hc
    obtain ⟨c0, cl, f⟩ := fq_init c hc
    have dz : CDivZ n cc := divZ c0 (Nat.lt_of_le_of_lt cl hb) hk
    have dz2 : CDivZ d cc := divZ c0 (Nat.lt_of_le_of_lt cl hb) hk
    refine ⟨_, rfl, _, rfl, _, _, rfl, rfl, dz, _, rfl, x, _, dx, [], rfl, hx, T.cls_Fraction, T.n_Fraction_num, by decide, ?_⟩
    refine ⟨_, rfl, _, rfl, _, _, rfl, rfl, dz2, _, rfl, x, _, dx, _, rfl, upd_same, T.cls_Fraction, T.n_Fraction_den, (show (1 : Nat) < 1000 by decide), ?_⟩
    have z := q c _ _ f
    rw [← upd_upd (H := H) (a := x) (o := .ins (CF K) dx (putF "num" (.int (n.fdiv cc)) []))] at z
    exact z

theorem ok__in_lowest_terms (T : Tx K mg) (O_Fraction___init__ : OkD P w K mg base 1 (He.fAd K ("Fraction", some "__init__")) ["self", "num", "den"] (He.Dv.v K (.int 1)) (spInit K)) : OkF P w K mg base 3 (He.fAd K ("_in_lowest_terms", none)) ["num", "den"] (spLow K) := by
  obtain ⟨_, G_Fraction___init__, b_Fraction___init__, ⟨_, v_Fraction___init__, bd_Fraction___init__⟩, k_Fraction___init__⟩ := O_Fraction___init__
  refine okF_of (d := d__in_lowest_terms) T.d__in_lowest_terms rfl sc__in_lowest_terms (fun _ _ _ _ _ _ us hl => match us, hl with | [_, _], _ => rfl) (fun vs H Q E h => ?_) (fun cdv A outer s H vs Q E hr h => ?_)
  · first | (obtain ⟨_, rfl, _⟩ := h; rfl) | (obtain ⟨_, _, rfl, _⟩ := h; rfl) | (obtain ⟨_, _, _, rfl, _⟩ := h; rfl) | (obtain ⟨_, _, _, _, rfl, _⟩ := h; rfl) | (obtain ⟨_, _, _, _, _, rfl, _⟩ := h; rfl) | (obtain ⟨_, _, _, _, _, _, rfl, _⟩ := h; rfl) | (obtain ⟨_, _, _, _, _, _, _, rfl, _⟩ := h; rfl) | (obtain ⟨_, _, _, _, _, _, _, _, rfl, _⟩ := h; rfl) | (obtain ⟨_, _, _, _, _, _, _, _, _, rfl, _⟩ := h; rfl) | (obtain ⟨_, _, _, _, _, _, _, _, _, _, rfl, _⟩ := h; rfl)
  · obtain ⟨n, d, rfl, q⟩ := h
    refine ⟨_, (pss_cons (ps_set (i := 2) sc__in_lowest_terms.nd rfl (Or.inl rfl) (pe_makeI T.mk_Fraction G_Fraction___init__ (hr.mono (by decide)) (by rfl) T.g_Fraction bd_Fraction___init__ v_Fraction___init__ passL (mkFr_conv K [_]) (pa_cons pe_int pa_nil)))
      (pss_cons (ps_fld (pv 2) (pv 0) rfl)
      (pss_cons (ps_fld (pv 2) (pv 1) rfl)
      (pss_one (ps_ret (pv 2)))))), ?_⟩
    refine ⟨0, 1, 1, rfl, by decide, by decide, by decide, fun p dp H2 a b sm np hp fq => ?_⟩
    refine ⟨_, rfl, _, rfl, p, _, dp, _, rfl, hp, T.cls_Fraction, T.n_Fraction_num, (show (2 : Nat) < 1000 by decide), ?_⟩
    refine ⟨_, rfl, _, rfl, p, _, dp, _, rfl, upd_same, T.cls_Fraction, T.n_Fraction_den, (show (2 : Nat) < 1000 by decide), ?_⟩
    exact ⟨_, rfl, q p dp _ n d (same_mut (same_mut sm np) np) np upd_same ⟨rfl, rfl⟩⟩

theorem ok_Fraction___add__ (T : Tx K mg) (O__in_lowest_terms : OkF P w K mg base 3 (He.fAd K ("_in_lowest_terms", none)) ["num", "den"] (spLow K)) : OkF P w K mg base 4 (He.fAd K ("Fraction", some "__add__")) ["self", "other"] (spAdd K) := by
  obtain ⟨_, G__in_lowest_terms, b__in_lowest_terms, k__in_lowest_terms⟩ := O__in_lowest_terms
  refine okF_of (d := d_Fraction___add__) T.d_Fraction___add__ rfl sc_Fraction___add__ (fun _ _ _ _ _ _ us hl => match us, hl with | [_, _], _ => rfl) (fun vs H Q E h => ?_) (fun cdv A outer s H vs Q E hr h => ?_)
  · first | (obtain ⟨_, rfl, _⟩ := h; rfl) | (obtain ⟨_, _, rfl, _⟩ := h; rfl) | (obtain ⟨_, _, _, rfl, _⟩ := h; rfl) | (obtain ⟨_, _, _, _, rfl, _⟩ := h; rfl) | (obtain ⟨_, _, _, _, _, rfl, _⟩ := h; rfl) | (obtain ⟨_, _, _, _, _, _, rfl, _⟩ := h; rfl) | (obtain ⟨_, _, _, _, _, _, _, rfl, _⟩ := h; rfl) | (obtain ⟨_, _, _, _, _, _, _, _, rfl, _⟩ := h; rfl) | (obtain ⟨_, _, _, _, _, _, _, _, _, rfl, _⟩ := h; rfl) | (obtain ⟨_, _, _, _, _, _, _, _, _, _, rfl, _⟩ := h; rfl)
  · obtain ⟨a, b, da, db, n1, d1, n2, d2, k, rfl, ha, hb, l1, l2, hk, q⟩ := h
    refine ⟨_, (pss_cons (ps_setI (i := 2) sc_Fraction___add__.nd rfl (Or.inl rfl) (pe_callBfun cr_gcd rfl T.g_gcd (pa_cons (pe_fld (pv 0) rfl) (pa_cons (pe_fld (pv 1) rfl) pa_nil))))
      (pss_cons (ps_setI (i := 3) sc_Fraction___add__.nd rfl (Or.inl rfl) (pe_op op_fdivW (pe_fld (pv 1) rfl) (pv 2)))
      (pss_cons (ps_setI (i := 4) sc_Fraction___add__.nd rfl (Or.inl rfl) (pe_op op_add (pe_op op_mulW (pe_fld (pv 0) rfl) (pv 3)) (pe_op op_mulW (pe_fld (pv 1) rfl) (pe_op op_fdivW (pe_fld (pv 0) rfl) (pv 2)))))
      (pss_cons (ps_setI (i := 5) sc_Fraction___add__.nd rfl (Or.inl rfl) (pe_callBfun cr_gcd rfl T.g_gcd (pa_cons (pv 4) (pa_cons (pv 2) pa_nil))))
      (pss_one (ps_ret (pe_call G__in_lowest_terms (hr.mono (by decide)) (by rfl) T.g__in_lowest_terms k__in_lowest_terms b__in_lowest_terms .nil passL (pa_cons (pe_op op_fdivW (pv 4) (pv 5)) (pa_cons (pe_op op_mulW (pe_op op_fdivW (pe_fld (pv 0) rfl) (pv 5)) (pv 3)) pa_nil))))))))), ?_⟩
    refine ⟨_, rfl, _, _, _, _, _, rfl, ha, T.cls_Fraction, T.n_Fraction_den, rfl, _, rfl, _, _, _, _, _, rfl, hb, T.cls_Fraction, T.n_Fraction_den, rfl, _, _, rfl, _, rfl, fun g eg => ?_⟩
    obtain ⟨g0, s0, f⟩ := fq_add l1.pos l2.pos l1.cop l2.cop eg rfl rfl rfl
    have gl : g.natAbs ≤ d1.natAbs := by
      rw [eg, Int.natAbs_natCast]
      exact Nat.le_of_dvd (by have := l1.pos; omega) (Nat.gcd_dvd_left _ _)
    have gb : g.natAbs < 2 ^ k := Nat.lt_of_le_of_lt gl l1.bd
    have b1 : (d1 / g).natAbs < 2 ^ k := Nat.lt_of_le_of_lt (Int.natAbs_ediv_le_natAbs _ _) l1.bd
    have b2 : (d2 / g).natAbs < 2 ^ k := Nat.lt_of_le_of_lt (Int.natAbs_ediv_le_natAbs _ _) l2.bd
    refine ⟨_, rfl, _, _, _, _, _, rfl, hb, T.cls_Fraction, T.n_Fraction_den, rfl, _, rfl, _, _, rfl, rfl, divW g0 gb hk, _, rfl, fun sc es => ?_⟩
    subst es
    refine ⟨_, rfl, _, _, _, _, _, rfl, ha, T.cls_Fraction, T.n_Fraction_num, rfl, _, rfl, _, _, rfl, rfl, mulW l1.bn b2 (by omega), _, rfl, _, _, _, _, _, rfl, hb, T.cls_Fraction, T.n_Fraction_num, rfl, _, rfl, _, _, _, _, _, rfl, ha, T.cls_Fraction, T.n_Fraction_den, rfl, _, rfl, _, _, rfl, rfl, divW g0 gb hk, _, _, rfl, rfl, mulW l2.bn b1 (by omega), _, _, rfl, rfl, _, rfl, fun num en => ?_⟩
    rw [← en] at s0 f
    refine ⟨_, rfl, _, rfl, _, _, rfl, _, rfl, fun sh eh => ?_⟩
    rw [← eh] at s0 f
    have shl : sh.natAbs ≤ g.natAbs := by
      rw [eh, Int.natAbs_natCast]
      exact Nat.le_of_dvd (by omega) (Nat.gcd_dvd_right _ _)
    have shb : sh.natAbs < 2 ^ k := Nat.lt_of_le_of_lt shl gb
    have b3 : (d1 / sh).natAbs < 2 ^ k := Nat.lt_of_le_of_lt (Int.natAbs_ediv_le_natAbs _ _) l1.bd
    refine ⟨_, rfl, _, rfl, _, _, rfl, rfl, divW s0 shb hk, _, rfl, _, _, _, _, _, rfl, ha, T.cls_Fraction, T.n_Fraction_den, rfl, _, rfl, _, _, rfl, rfl, divW s0 shb hk, _, rfl, _, _, rfl, rfl, mulW b3 b2 (by omega), _, _, rfl, fun p dp H' n d sm np hp e => ?_⟩
    obtain ⟨rfl, rfl⟩ := e
    exact q p dp H' _ _ sm np hp f

theorem ok__law_is_integer (T : Tx K mg) : OkF P w K mg base 1 (He.fAd K ("_law_is_integer", none)) ["x"] (spIsInt K) := by
  refine okF_of (d := d__law_is_integer) T.d__law_is_integer rfl sc__law_is_integer (fun _ _ _ _ _ _ us hl => match us, hl with | [_], _ => rfl) (fun vs H Q E h => ?_) (fun cdv A outer s H vs Q E hr h => ?_)
  · first | (obtain ⟨_, rfl, _⟩ := h; rfl) | (obtain ⟨_, _, rfl, _⟩ := h; rfl) | (obtain ⟨_, _, _, rfl, _⟩ := h; rfl) | (obtain ⟨_, _, _, _, rfl, _⟩ := h; rfl) | (obtain ⟨_, _, _, _, _, rfl, _⟩ := h; rfl) | (obtain ⟨_, _, _, _, _, _, rfl, _⟩ := h; rfl) | (obtain ⟨_, _, _, _, _, _, _, rfl, _⟩ := h; rfl) | (obtain ⟨_, _, _, _, _, _, _, _, rfl, _⟩ := h; rfl) | (obtain ⟨_, _, _, _, _, _, _, _, _, rfl, _⟩ := h; rfl) | (obtain ⟨_, _, _, _, _, _, _, _, _, _, rfl, _⟩ := h; rfl)
  · obtain ⟨n, rfl, q⟩ := h
    refine ⟨_, (pss_one (ps_ret (pe_and (pe_callB call_isi (by rfl) T.z_isinstance (by decide +kernel) (pa_cons (pv 0) (pa_cons (pe_bltn (v := .ty "int") rfl T.z_int (by decide +kernel) rfl) pa_nil))) (pe_one (pe_not (pe_callB call_isi (by rfl) T.z_isinstance (by decide +kernel) (pa_cons (pv 0) (pa_cons (pe_bltn (v := .ty "bool") rfl T.z_bool (by decide +kernel) rfl) pa_nil)))))))), ?_⟩
    exact ⟨_, rfl, _, _, _, _, true, rfl, .ty _, .base (.int _), kit_ty (by decide +kernel), _, rfl, iteK rfl ⟨_, rfl, _, _, _, _, false, rfl, .ty _, .base (.int _), kit_ty (by decide +kernel), _, rfl, q⟩⟩

theorem ok__law_divisor (T : Tx K mg) : OkF P w K mg base 1 (He.fAd K ("_law_divisor", none)) ["a", "b"] (spGcd K) := by
  refine okF_of (d := d__law_divisor) T.d__law_divisor rfl sc__law_divisor (fun _ _ _ _ _ _ us hl => match us, hl with | [_, _], _ => rfl) (fun vs H Q E h => ?_) (fun cdv A outer s H vs Q E hr h => ?_)
  · first | (obtain ⟨_, rfl, _⟩ := h; rfl) | (obtain ⟨_, _, rfl, _⟩ := h; rfl) | (obtain ⟨_, _, _, rfl, _⟩ := h; rfl) | (obtain ⟨_, _, _, _, rfl, _⟩ := h; rfl) | (obtain ⟨_, _, _, _, _, rfl, _⟩ := h; rfl) | (obtain ⟨_, _, _, _, _, _, rfl, _⟩ := h; rfl) | (obtain ⟨_, _, _, _, _, _, _, rfl, _⟩ := h; rfl) | (obtain ⟨_, _, _, _, _, _, _, _, rfl, _⟩ := h; rfl) | (obtain ⟨_, _, _, _, _, _, _, _, _, rfl, _⟩ := h; rfl) | (obtain ⟨_, _, _, _, _, _, _, _, _, _, rfl, _⟩ := h; rfl)
  · obtain ⟨a, b, rfl, q⟩ := h
    refine ⟨_, (pss_cons (ps_setI (i := 0) sc__law_divisor.nd rfl (Or.inl rfl) (pe_callB call_abs (by rfl) T.z_abs (by decide +kernel) (pa_cons (pv 0) pa_nil)))
      (pss_cons (ps_setI (i := 1) sc__law_divisor.nd rfl (Or.inl rfl) (pe_callB call_abs (by rfl) T.z_abs (by decide +kernel) (pa_cons (pv 1) pa_nil)))
      (pss_cons (ps_while PassesOwn.leaving (pt_cmpR op_gt (pv 1) pe_int (nomark _)) (pss_cons (ps_setI (i := 2) sc__law_divisor.nd rfl (Or.inl rfl) (pe_op op_mod (pe_callTy call_int1 (by rfl) T.z_int (by decide +kernel) (pa_cons (pv 0) pa_nil)) (pv 1)))
      (pss_cons (ps_setI (i := 0) sc__law_divisor.nd rfl (Or.inl rfl) (pv 1))
      (pss_one (ps_setI (i := 1) sc__law_divisor.nd rfl (Or.inl rfl) (pv 2))))))
      (pss_one (ps_ret (pv 0)))))), ?_⟩
    refine ⟨_, rfl, _, rfl, _, rfl, fun a1 e1 => ?_⟩
    refine ⟨_, rfl, _, rfl, _, rfl, fun b1 e2 => ?_⟩
    rw [abs_if] at e1 e2
    refine ⟨fun m σ' H' => H = H' ∧ ∃ (x y : Nat) (z : Option V), σ' = [some (.int (x : Int)), some (.int (y : Int)), z] ∧ m = y ∧ Nat.gcd x y = Nat.gcd a.natAbs b.natAbs, ⟨_, rfl, a.natAbs, b.natAbs, none, by rw [e1, e2]; rfl, rfl, rfl⟩, ?_⟩
    rintro m _ _ ⟨rfl, x, y, z, rfl, rfl, hg⟩
    refine ⟨_, rfl, _, _, rfl, rfl, _, rfl, iteD (fun h1 => ?_) (fun h1 => ?_)⟩
    · refine ⟨fun σ2 H2 => ∃ m', m' < m ∧ H = H2 ∧ ∃ (x y : Nat) (z : Option V), σ2 = [some (.int (x : Int)), some (.int (y : Int)), z] ∧ m' = y ∧ Nat.gcd x y = Nat.gcd a.natAbs b.natAbs, fun _ _ h => h, ?_⟩
      refine ⟨_, rfl, .inl ⟨_, rfl, _, rfl, _, _, rfl, rfl, h1, _, rfl, fun r er => ?_⟩⟩
      refine ⟨_, rfl, _, rfl, fun x2 ex => ?_⟩
      refine ⟨_, rfl, _, rfl, fun y2 ey => ?_⟩
      subst ex ey er
      have hm : 0 < m := by omega
      exact ⟨x % m, Nat.mod_lt _ hm, rfl, m, x % m, some (.int ((x : Int) % (m : Int))), by rw [Int.natCast_emod]; rfl, rfl, by rw [← hg, Nat.gcd_comm m, ← Nat.gcd_rec, Nat.gcd_comm]⟩
    · have z : m = 0 := by omega
      subst z
      rw [Nat.gcd_zero_right] at hg
      rw [← hg] at q
      exact ⟨_, rfl, q⟩

theorem ok__law_is (T : Tx K mg) (O__law_is_integer : OkF P w K mg base 1 (He.fAd K ("_law_is_integer", none)) ["x"] (spIsInt K)) (O__law_divisor : OkF P w K mg base 1 (He.fAd K ("_law_divisor", none)) ["a", "b"] (spGcd K)) : OkF P w K mg base 2 (He.fAd K ("_law_is", none)) ["x", "num", "den"] (spIs K) := by
  obtain ⟨_, G__law_is_integer, b__law_is_integer, k__law_is_integer⟩ := O__law_is_integer
  obtain ⟨_, G__law_divisor, b__law_divisor, k__law_divisor⟩ := O__law_divisor
  refine okF_of (d := d__law_is) T.d__law_is rfl sc__law_is (fun _ _ _ _ _ _ us hl => match us, hl with | [_, _, _], _ => rfl) (fun vs H Q E h => ?_) (fun cdv A outer s H vs Q E hr h => ?_)
  · first | (obtain ⟨_, rfl, _⟩ := h; rfl) | (obtain ⟨_, _, rfl, _⟩ := h; rfl) | (obtain ⟨_, _, _, rfl, _⟩ := h; rfl) | (obtain ⟨_, _, _, _, rfl, _⟩ := h; rfl) | (obtain ⟨_, _, _, _, _, rfl, _⟩ := h; rfl) | (obtain ⟨_, _, _, _, _, _, rfl, _⟩ := h; rfl) | (obtain ⟨_, _, _, _, _, _, _, rfl, _⟩ := h; rfl) | (obtain ⟨_, _, _, _, _, _, _, _, rfl, _⟩ := h; rfl) | (obtain ⟨_, _, _, _, _, _, _, _, _, rfl, _⟩ := h; rfl) | (obtain ⟨_, _, _, _, _, _, _, _, _, _, rfl, _⟩ := h; rfl)
  · obtain ⟨a, da, n, d, num, den, k, rfl, ha, f, b1, b2, b3, b4, hk, q⟩ := h
    have dp := f.pos
    refine ⟨_, (pss_cons (ps_if (PW.pt (pw_or (pt_not (pt_val (pe_callB call_isi (by rfl) T.z_isinstance (by decide +kernel) (pa_cons (pv 0) (pa_cons (pe_glob (v := .ref (He.ga K "Fraction")) rfl T.g_Fraction rfl) pa_nil))))) (pw_or (pt_not (pt_val (pe_call G__law_is_integer (hr.mono (by decide)) (by rfl) T.g__law_is_integer k__law_is_integer b__law_is_integer .nil passL (pa_cons (pe_fld (pv 0) rfl) pa_nil)))) (pw_or1 (pt_not (pt_val (pe_call G__law_is_integer (hr.mono (by decide)) (by rfl) T.g__law_is_integer k__law_is_integer b__law_is_integer .nil passL (pa_cons (pe_fld (pv 0) rfl) pa_nil)))))))) (pss_one (ps_ret pe_bl)) pss_nil)
      (pss_cons (ps_if (PW.pt (pw_or (pt_cmpR op_lt (pe_fld (pv 0) rfl) pe_int (nomark _)) (pw_or1 (pt_cmpR op_ne (pe_call G__law_divisor (hr.mono (by decide)) (by rfl) T.g__law_divisor k__law_divisor b__law_divisor .nil passL (pa_cons (pe_fld (pv 0) rfl) (pa_cons (pe_fld (pv 0) rfl) pa_nil))) pe_int (nomark _))))) (pss_one (ps_ret pe_bl)) pss_nil)
      (pss_one (ps_ret (pe_cmpR op_eq (pe_op op_mulW (pe_fld (pv 0) rfl) (pv 2)) (pe_op op_mulW (pv 1) (pe_fld (pv 0) rfl)) (nomark _)))))), ?_⟩
    refine ⟨_, rfl, _, _, _, _, true, rfl, .own _, T.ty_Fraction ha, kit_same _, _, rfl, iteN rfl ?_⟩
    refine ⟨_, rfl, _, _, _, _, _, rfl, ha, T.cls_Fraction, T.n_Fraction_num, rfl, _, rfl, _, rfl, iteN rfl ?_⟩
    refine ⟨_, rfl, _, _, _, _, _, rfl, ha, T.cls_Fraction, T.n_Fraction_den, rfl, _, rfl, _, rfl, iteN rfl ?_⟩
    refine ⟨_, rfl, _, _, _, _, _, rfl, ha, T.cls_Fraction, T.n_Fraction_den, rfl, _, _, rfl, rfl, _, rfl, iteN (decide_eq_false (by omega)) ?_⟩
    refine ⟨_, rfl, _, _, _, _, _, rfl, ha, T.cls_Fraction, T.n_Fraction_num, rfl, _, rfl, _, _, _, _, _, rfl, ha, T.cls_Fraction, T.n_Fraction_den, rfl, _, _, rfl, ?_⟩
    refine ⟨rfl, _, rfl, ?_⟩
    rw [f.cop]
    refine iteN rfl ?_
    refine ⟨_, rfl, _, _, _, _, _, rfl, ha, T.cls_Fraction, T.n_Fraction_num, rfl, _, rfl, _, _, rfl, rfl, mulW b1 b4 (by omega), _, rfl, _, rfl, _, _, _, _, _, rfl, ha, T.cls_Fraction, T.n_Fraction_den, rfl, _, _, rfl, rfl, mulW b3 b2 (by omega), rfl, ?_⟩
    rw [veq f.eq]
    exact q

theorem ok_Fraction___neg__ (T : Tx K mg) (O__in_lowest_terms : OkF P w K mg base 3 (He.fAd K ("_in_lowest_terms", none)) ["num", "den"] (spLow K)) : OkF P w K mg base 4 (He.fAd K ("Fraction", some "__neg__")) ["self"] (spNeg K) := by
  obtain ⟨_, G__in_lowest_terms, b__in_lowest_terms, k__in_lowest_terms⟩ := O__in_lowest_terms
  refine okF_of (d := d_Fraction___neg__) T.d_Fraction___neg__ rfl sc_Fraction___neg__ (fun _ _ _ _ _ _ us hl => match us, hl with | [_], _ => rfl) (fun vs H Q E h => ?_) (fun cdv A outer s H vs Q E hr h => ?_)
  · first | (obtain ⟨_, rfl, _⟩ := h; rfl) | (obtain ⟨_, _, rfl, _⟩ := h; rfl) | (obtain ⟨_, _, _, rfl, _⟩ := h; rfl) | (obtain ⟨_, _, _, _, rfl, _⟩ := h; rfl) | (obtain ⟨_, _, _, _, _, rfl, _⟩ := h; rfl) | (obtain ⟨_, _, _, _, _, _, rfl, _⟩ := h; rfl) | (obtain ⟨_, _, _, _, _, _, _, rfl, _⟩ := h; rfl) | (obtain ⟨_, _, _, _, _, _, _, _, rfl, _⟩ := h; rfl) | (obtain ⟨_, _, _, _, _, _, _, _, _, rfl, _⟩ := h; rfl) | (obtain ⟨_, _, _, _, _, _, _, _, _, _, rfl, _⟩ := h; rfl)
  · obtain ⟨a, da, n1, d1, rfl, ha, q⟩ := h
    refine ⟨_, (pss_one (ps_ret (pe_call G__in_lowest_terms (hr.mono (by decide)) (by rfl) T.g__in_lowest_terms k__in_lowest_terms b__in_lowest_terms .nil passL (pa_cons (pe_un un_neg (pe_fld (pv 0) rfl)) (pa_cons (pe_fld (pv 0) rfl) pa_nil))))), ?_⟩
    refine ⟨_, rfl, _, _, _, _, _, rfl, ha, T.cls_Fraction, T.n_Fraction_num, rfl, _, rfl, _, rfl, _, _, _, _, _, rfl, ha, T.cls_Fraction, T.n_Fraction_den, rfl, _, _, rfl, fun p dp H' n d sm np hp e => ?_⟩
    exact q p dp H' _ _ sm np hp e

theorem ok_Fraction___sub__ (T : Tx K mg) (O_Fraction___neg__ : OkF P w K mg base 4 (He.fAd K ("Fraction", some "__neg__")) ["self"] (spNeg K)) (O_Fraction___add__ : OkF P w K mg base 4 (He.fAd K ("Fraction", some "__add__")) ["self", "other"] (spAdd K)) : OkF P w K mg base 5 (He.fAd K ("Fraction", some "__sub__")) ["self", "other"] (spSub K) := by
  obtain ⟨_, G_Fraction___neg__, b_Fraction___neg__, k_Fraction___neg__⟩ := O_Fraction___neg__
  obtain ⟨_, G_Fraction___add__, b_Fraction___add__, k_Fraction___add__⟩ := O_Fraction___add__
  refine okF_of (d := d_Fraction___sub__) T.d_Fraction___sub__ rfl sc_Fraction___sub__ (fun _ _ _ _ _ _ us hl => match us, hl with | [_, _], _ => rfl) (fun vs H Q E h => ?_) (fun cdv A outer s H vs Q E hr h => ?_)
  · first | (obtain ⟨_, rfl, _⟩ := h; rfl) | (obtain ⟨_, _, rfl, _⟩ := h; rfl) | (obtain ⟨_, _, _, rfl, _⟩ := h; rfl) | (obtain ⟨_, _, _, _, rfl, _⟩ := h; rfl) | (obtain ⟨_, _, _, _, _, rfl, _⟩ := h; rfl) | (obtain ⟨_, _, _, _, _, _, rfl, _⟩ := h; rfl) | (obtain ⟨_, _, _, _, _, _, _, rfl, _⟩ := h; rfl) | (obtain ⟨_, _, _, _, _, _, _, _, rfl, _⟩ := h; rfl) | (obtain ⟨_, _, _, _, _, _, _, _, _, rfl, _⟩ := h; rfl) | (obtain ⟨_, _, _, _, _, _, _, _, _, _, rfl, _⟩ := h; rfl)
  · obtain ⟨a, b, da, db, n1, d1, n2, d2, k, rfl, ha, hb, l1, l2, hk, q⟩ := h
    refine ⟨_, (pss_one (ps_ret (pe_op (op_own2 T.first_Fraction T.s_Fraction___add__ T.f_Fraction___add__ G_Fraction___add__ (hr.mono (by decide)) b_Fraction___add__ passL) (pv 0) (pe_un (un_ownNeg T.s_Fraction___neg__ T.f_Fraction___neg__ G_Fraction___neg__ (hr.mono (by decide)) b_Fraction___neg__ passL) (pv 1))))), ?_⟩
    refine ⟨_, rfl, _, rfl, _, _, _, rfl, hb, _, _, _, _, rfl, hb, fun p dp H1 n d sm np hp e => ?_⟩
    obtain ⟨rfl, rfl⟩ := e
    have ha1 := sm _ _ ha
    refine ⟨_, _, _, _, _, _, rfl, rfl, ha1, hp, _, _, _, _, _, _, _, _, k, rfl, ha1, hp, l1, lw_neg l2, hk, fun p2 dp2 H2 n d3 sm2 np2 hp2 e2 => ?_⟩
    refine q p2 dp2 H2 _ _ (sm.trans sm2) (sm.free np2) hp2 ?_
    have z : n1 * d - n2 * d1 = n1 * d + -n2 * d1 := by grind
    rw [z]
    exact e2

theorem ok_Fraction___mul__ (T : Tx K mg) (O__in_lowest_terms : OkF P w K mg base 3 (He.fAd K ("_in_lowest_terms", none)) ["num", "den"] (spLow K)) : OkF P w K mg base 4 (He.fAd K ("Fraction", some "__mul__")) ["self", "other"] (spMul K) := by
  obtain ⟨_, G__in_lowest_terms, b__in_lowest_terms, k__in_lowest_terms⟩ := O__in_lowest_terms
  refine okF_of (d := d_Fraction___mul__) T.d_Fraction___mul__ rfl sc_Fraction___mul__ (fun _ _ _ _ _ _ us hl => match us, hl with | [_, _], _ => rfl) (fun vs H Q E h => ?_) (fun cdv A outer s H vs Q E hr h => ?_)
  · first | (obtain ⟨_, rfl, _⟩ := h; rfl) | (obtain ⟨_, _, rfl, _⟩ := h; rfl) | (obtain ⟨_, _, _, rfl, _⟩ := h; rfl) | (obtain ⟨_, _, _, _, rfl, _⟩ := h; rfl) | (obtain ⟨_, _, _, _, _, rfl, _⟩ := h; rfl) | (obtain ⟨_, _, _, _, _, _, rfl, _⟩ := h; rfl) | (obtain ⟨_, _, _, _, _, _, _, rfl, _⟩ := h; rfl) | (obtain ⟨_, _, _, _, _, _, _, _, rfl, _⟩ := h; rfl) | (obtain ⟨_, _, _, _, _, _, _, _, _, rfl, _⟩ := h; rfl) | (obtain ⟨_, _, _, _, _, _, _, _, _, _, rfl, _⟩ := h; rfl)
  · obtain ⟨a, b, da, db, n1, d1, n2, d2, k, rfl, ha, hb, l1, l2, hk, q⟩ := h
    refine ⟨_, (pss_cons (ps_setI (i := 2) sc_Fraction___mul__.nd rfl (Or.inl rfl) (pe_callBfun cr_gcd rfl T.g_gcd (pa_cons (pe_fld (pv 0) rfl) (pa_cons (pe_fld (pv 1) rfl) pa_nil))))
      (pss_cons (ps_setI (i := 3) sc_Fraction___mul__.nd rfl (Or.inl rfl) (pe_callBfun cr_gcd rfl T.g_gcd (pa_cons (pe_fld (pv 1) rfl) (pa_cons (pe_fld (pv 0) rfl) pa_nil))))
      (pss_cons (ps_setI (i := 4) sc_Fraction___mul__.nd rfl (Or.inl rfl) (pe_op op_mulW (pe_op op_fdivW (pe_fld (pv 0) rfl) (pv 2)) (pe_op op_fdivW (pe_fld (pv 1) rfl) (pv 3))))
      (pss_one (ps_ret (pe_call G__in_lowest_terms (hr.mono (by decide)) (by rfl) T.g__in_lowest_terms k__in_lowest_terms b__in_lowest_terms .nil passL (pa_cons (pv 4) (pa_cons (pe_op op_mulW (pe_op op_fdivW (pe_fld (pv 0) rfl) (pv 3)) (pe_op op_fdivW (pe_fld (pv 1) rfl) (pv 2))) pa_nil)))))))), ?_⟩
    refine ⟨_, rfl, _, _, _, _, _, rfl, ha, T.cls_Fraction, T.n_Fraction_num, rfl, _, rfl, _, _, _, _, _, rfl, hb, T.cls_Fraction, T.n_Fraction_den, rfl, _, _, rfl, _, rfl, fun l el => ?_⟩
    refine ⟨_, rfl, _, _, _, _, _, rfl, hb, T.cls_Fraction, T.n_Fraction_num, rfl, _, rfl, _, _, _, _, _, rfl, ha, T.cls_Fraction, T.n_Fraction_den, rfl, _, _, rfl, _, rfl, fun r er => ?_⟩
    obtain ⟨l0, r0, f⟩ := fq_mul l1.pos l2.pos l1.cop l2.cop el er
    have lb : l.natAbs < 2 ^ k := Nat.lt_of_le_of_lt (by
      rw [el, Int.natAbs_natCast]
      exact Nat.le_of_dvd (by have := l2.pos; omega) (Nat.gcd_dvd_right _ _)) l2.bd
    have rb : r.natAbs < 2 ^ k := Nat.lt_of_le_of_lt (by
      rw [er, Int.natAbs_natCast]
      exact Nat.le_of_dvd (by have := l1.pos; omega) (Nat.gcd_dvd_right _ _)) l1.bd
    have b1 : (n1 / l).natAbs < 2 ^ k := Nat.lt_of_le_of_lt (Int.natAbs_ediv_le_natAbs _ _) l1.bn
    have b2 : (n2 / r).natAbs < 2 ^ k := Nat.lt_of_le_of_lt (Int.natAbs_ediv_le_natAbs _ _) l2.bn
    have b3 : (d1 / r).natAbs < 2 ^ k := Nat.lt_of_le_of_lt (Int.natAbs_ediv_le_natAbs _ _) l1.bd
    have b4 : (d2 / l).natAbs < 2 ^ k := Nat.lt_of_le_of_lt (Int.natAbs_ediv_le_natAbs _ _) l2.bd
    refine ⟨_, rfl, _, _, _, _, _, rfl, ha, T.cls_Fraction, T.n_Fraction_num, rfl, _, rfl, _, _, rfl, rfl, divW l0 lb hk, _, rfl, _, _, _, _, _, rfl, hb, T.cls_Fraction, T.n_Fraction_num, rfl, _, rfl, _, _, rfl, rfl, divW r0 rb hk, _, _, rfl, rfl, mulW b1 b2 (by omega), _, rfl, fun num en => ?_⟩
    refine ⟨_, rfl, _, rfl, _, _, _, _, _, rfl, ha, T.cls_Fraction, T.n_Fraction_den, rfl, _, rfl, _, _, rfl, rfl, divW r0 rb hk, _, rfl, _, _, _, _, _, rfl, hb, T.cls_Fraction, T.n_Fraction_den, rfl, _, rfl, _, _, rfl, rfl, divW l0 lb hk, _, _, rfl, rfl, mulW b3 b4 (by omega), _, _, rfl, fun p dp H' n d sm np hp e => ?_⟩
    obtain ⟨rfl, rfl⟩ := e
    rw [← en] at f
    exact q p dp H' _ _ sm np hp f

end
section
variable {P : Program} {w : World} {K : PySem.W.Frag} {mg : Str → Option Value}
theorem ok_law (T : Tx K mg) (O__law_numbers : ∀ base, OkF P w K mg base 1 (He.fAd K ("_law_numbers", none)) ["script", "count"] (spNums K)) (O_Fraction___init__ : ∀ base, OkD P w K mg base 1 (He.fAd K ("Fraction", some "__init__")) ["self", "num", "den"] (He.Dv.v K (.int 1)) (spInit K)) (O_Fraction___add__ : ∀ base, OkF P w K mg base 4 (He.fAd K ("Fraction", some "__add__")) ["self", "other"] (spAdd K)) (O__law_is : ∀ base, OkF P w K mg base 2 (He.fAd K ("_law_is", none)) ["x", "num", "den"] (spIs K)) (O_Fraction___sub__ : ∀ base, OkF P w K mg base 5 (He.fAd K ("Fraction", some "__sub__")) ["self", "other"] (spSub K)) (O_Fraction___mul__ : ∀ base, OkF P w K mg base 4 (He.fAd K ("Fraction", some "__mul__")) ["self", "other"] (spMul K)) (O_Fraction___neg__ : ∀ base, OkF P w K mg base 4 (He.fAd K ("Fraction", some "__neg__")) ["self"] (spNeg K)) : ∃ fd : FuncData, (∀ (s : Shared) (v : Value), BindsTo s fd ⟨[v], []⟩ [("script", v)]) ∧ ∀ base : Heap, FnOk P w K mg base CX0 6 (He.fAd K ("law", none)) fd ["script"] (spLaw K) := by
  refine okLaw_of (d := d_law) T.d_law rfl sc_law (fun _ _ _ _ _ _ us hl => match us, hl with | [_], _ => rfl) (fun vs H Q E h => by obtain ⟨_, _, rfl, _⟩ := h; rfl) (fun base cdv A outer s H vs Q E hr h => ?_)
  · obtain ⟨_, G__law_numbers, b__law_numbers, k__law_numbers⟩ := O__law_numbers base
    obtain ⟨_, G_Fraction___init__, b_Fraction___init__, ⟨_, v_Fraction___init__, bd_Fraction___init__⟩, k_Fraction___init__⟩ := O_Fraction___init__ base
    obtain ⟨_, G_Fraction___add__, b_Fraction___add__, k_Fraction___add__⟩ := O_Fraction___add__ base
    obtain ⟨_, G__law_is, b__law_is, k__law_is⟩ := O__law_is base
    obtain ⟨_, G_Fraction___sub__, b_Fraction___sub__, k_Fraction___sub__⟩ := O_Fraction___sub__ base
    obtain ⟨_, G_Fraction___mul__, b_Fraction___mul__, k_Fraction___mul__⟩ := O_Fraction___mul__ base
    obtain ⟨_, G_Fraction___neg__, b_Fraction___neg__, k_Fraction___neg__⟩ := O_Fraction___neg__ base
    obtain ⟨aS, ns, rfl, hS, hl, q⟩ := h
    refine ⟨_, (pss_cons (ps_set (i := 1) sc_law.nd rfl (Or.inl rfl) (pe_call G__law_numbers (hr.mono (by decide)) (by rfl) T.g__law_numbers k__law_numbers b__law_numbers .nil passL (pa_cons (pv 0) (pa_cons pe_int pa_nil))))
      (pss_cons (ps_setI (i := 2) sc_law.nd rfl (Or.inl rfl) (pe_op op_sub (pe_op op_mod (pe_ix ix_list (pv 1) pe_int (fun _ _ => rfl)) pe_int) pe_int))
      (pss_cons (ps_setI (i := 3) sc_law.nd rfl (Or.inl rfl) (pe_op op_add (pe_op op_mod (pe_ix ix_list (pv 1) pe_int (fun _ _ => rfl)) pe_int) pe_int))
      (pss_cons (ps_setI (i := 4) sc_law.nd rfl (Or.inl rfl) (pe_op op_sub (pe_op op_mod (pe_ix ix_list (pv 1) pe_int (fun _ _ => rfl)) pe_int) pe_int))
      (pss_cons (ps_setI (i := 5) sc_law.nd rfl (Or.inl rfl) (pe_op op_add (pe_op op_mod (pe_ix ix_list (pv 1) pe_int (fun _ _ => rfl)) pe_int) pe_int))
      (Evl.pss_cut (ps_if (pt_cmpR op_eq (pe_op op_mod (pe_ix ix_list (pv 1) pe_int (fun _ _ => rfl)) pe_int) pe_int (nomark _)) (pss_one (ps_setI (i := 2) sc_law.nd rfl (Or.inl rfl) (pe_op op_add (pv 2) (pe_op op_mulW (pe_op op_pow pe_int pe_int) (pv 3))))) pss_nil)
      (Evl.pss_cut (ps_if (pt_cmpR op_eq (pe_op op_mod (pe_ix ix_list (pv 1) pe_int (fun _ _ => rfl)) pe_int) pe_int (nomark _)) (pss_cons (ps_setI (i := 4) sc_law.nd rfl (Or.inl rfl) (pv 2))
      (pss_one (ps_setI (i := 5) sc_law.nd rfl (Or.inl rfl) (pv 3)))) pss_nil)
      (Evl.pss_cut (ps_if (pt_cmpR op_eq (pe_op op_mod (pe_ix ix_list (pv 1) pe_int (fun _ _ => rfl)) pe_int) pe_int (nomark _)) (pss_cons (ps_setI (i := 4) sc_law.nd rfl (Or.inl rfl) (pe_un un_neg (pv 2)))
      (pss_one (ps_setI (i := 5) sc_law.nd rfl (Or.inl rfl) (pv 3)))) pss_nil)
      (pss_cons (ps_set (i := 6) sc_law.nd rfl (Or.inl rfl) (pe_makeI T.mk_Fraction G_Fraction___init__ (hr.mono (by decide)) (by rfl) T.g_Fraction b_Fraction___init__ .nil passL (mkFr_conv K []) (pa_cons (pv 2) (pa_cons (pv 3) pa_nil))))
      (pss_cons (ps_set (i := 7) sc_law.nd rfl (Or.inl rfl) (pe_makeI T.mk_Fraction G_Fraction___init__ (hr.mono (by decide)) (by rfl) T.g_Fraction b_Fraction___init__ .nil passL (mkFr_conv K []) (pa_cons (pv 4) (pa_cons (pv 5) pa_nil))))
      (pss_cons (ps_if (PW.pt (pw_or (pt_not (pt_val (pe_call G__law_is (hr.mono (by decide)) (by rfl) T.g__law_is k__law_is b__law_is .nil passL (pa_cons (pe_op (op_own2 T.first_Fraction T.s_Fraction___add__ T.f_Fraction___add__ G_Fraction___add__ (hr.mono (by decide)) b_Fraction___add__ passL) (pv 6) (pv 7)) (pa_cons (pe_op op_add (pe_op op_mulW (pv 2) (pv 5)) (pe_op op_mulW (pv 4) (pv 3))) (pa_cons (pe_op op_mulW (pv 3) (pv 5)) pa_nil)))))) (pw_or1 (pt_not (pt_val (pe_call G__law_is (hr.mono (by decide)) (by rfl) T.g__law_is k__law_is b__law_is .nil passL (pa_cons (pe_op (op_own2 T.first_Fraction T.s_Fraction___sub__ T.f_Fraction___sub__ G_Fraction___sub__ (hr.mono (by decide)) b_Fraction___sub__ passL) (pv 6) (pv 7)) (pa_cons (pe_op op_sub (pe_op op_mulW (pv 2) (pv 5)) (pe_op op_mulW (pv 4) (pv 3))) (pa_cons (pe_op op_mulW (pv 3) (pv 5)) pa_nil))))))))) (pss_one (ps_ret pe_bl)) pss_nil)
      (pss_cons (ps_if (PW.pt (pw_or (pt_not (pt_val (pe_call G__law_is (hr.mono (by decide)) (by rfl) T.g__law_is k__law_is b__law_is .nil passL (pa_cons (pe_op (op_own2 T.first_Fraction T.s_Fraction___mul__ T.f_Fraction___mul__ G_Fraction___mul__ (hr.mono (by decide)) b_Fraction___mul__ passL) (pv 6) (pv 7)) (pa_cons (pe_op op_mulW (pv 2) (pv 4)) (pa_cons (pe_op op_mulW (pv 3) (pv 5)) pa_nil)))))) (pw_or (pt_not (pt_val (pe_call G__law_is (hr.mono (by decide)) (by rfl) T.g__law_is k__law_is b__law_is .nil passL (pa_cons (pe_un (un_ownNeg T.s_Fraction___neg__ T.f_Fraction___neg__ G_Fraction___neg__ (hr.mono (by decide)) b_Fraction___neg__ passL) (pv 6)) (pa_cons (pe_un un_neg (pv 2)) (pa_cons (pv 3) pa_nil)))))) (pw_or1 (pt_not (pt_val (pe_call G__law_is (hr.mono (by decide)) (by rfl) T.g__law_is k__law_is b__law_is .nil passL (pa_cons (pe_un (un_ownNeg T.s_Fraction___neg__ T.f_Fraction___neg__ G_Fraction___neg__ (hr.mono (by decide)) b_Fraction___neg__ passL) (pv 7)) (pa_cons (pe_un un_neg (pv 4)) (pa_cons (pv 5) pa_nil)))))))))) (pss_one (ps_ret pe_bl)) pss_nil)
      (pss_one (ps_ret (pe_and (pe_call G__law_is (hr.mono (by decide)) (by rfl) T.g__law_is k__law_is b__law_is .nil passL (pa_cons (pv 6) (pa_cons (pv 2) (pa_cons (pv 3) pa_nil)))) (pe_one (pe_call G__law_is (hr.mono (by decide)) (by rfl) T.g__law_is k__law_is b__law_is .nil passL (pa_cons (pv 7) (pa_cons (pv 4) (pa_cons (pv 5) pa_nil)))))))))))))))))))), ?_⟩
    refine ⟨_, rfl, _, _, ns, rfl, hS, hl, by decide, by decide, fun pnum H1 ms sm npn hnum hlen hb => ?_⟩
    replace hS := sm.seq hS
    obtain ⟨m0, m1, m2, m3, m4, m5, rfl, b_m0, b_m1, b_m2, b_m3, b_m4, b_m5⟩ := take6 hlen hb
    have s_m0 : m0.natAbs < 2 ^ 20 := by omega
    have s_m1 : m1.natAbs < 2 ^ 20 := by omega
    have s_m2 : m2.natAbs < 2 ^ 20 := by omega
    have s_m3 : m3.natAbs < 2 ^ 20 := by omega
    have s_m4 : m4.natAbs < 2 ^ 20 := by omega
    have s_m5 : m5.natAbs < 2 ^ 20 := by omega
    refine ⟨_, rfl, _, _, _, _, rfl, rfl, (SqL.of hnum), atI_nat (j := 0) rfl, _, _, rfl, rfl, (show (0 : Int) < 81 by decide), _, _, rfl, rfl, _, rfl, fun a e_a => ?_⟩
    have sa : a.natAbs < 2 ^ 8 := by omega
    refine ⟨_, rfl, _, _, _, _, rfl, rfl, (SqL.of hnum), atI_nat (j := 1) rfl, _, _, rfl, rfl, (show (0 : Int) < 24 by decide), _, _, rfl, rfl, _, rfl, fun b e_b => ?_⟩
    have rb : 1 ≤ b ∧ b ≤ 24 := by omega
    have sb : b.natAbs < 2 ^ 8 := by omega
    refine ⟨_, rfl, _, _, _, _, rfl, rfl, (SqL.of hnum), atI_nat (j := 2) rfl, _, _, rfl, rfl, (show (0 : Int) < 81 by decide), _, _, rfl, rfl, _, rfl, fun c e_c => ?_⟩
    have sc : c.natAbs < 2 ^ 8 := by omega
    refine ⟨_, rfl, _, _, _, _, rfl, rfl, (SqL.of hnum), atI_nat (j := 3) rfl, _, _, rfl, rfl, (show (0 : Int) < 24 by decide), _, _, rfl, rfl, _, rfl, fun d e_d => ?_⟩
    have rd : 1 ≤ d ∧ d ≤ 24 := by omega
    have sd : d.natAbs < 2 ^ 8 := by omega
    refine ⟨fun σ' H' => H1 = H' ∧ ∃ a1 : Int, σ' = [some (.ref aS), some (.ref pnum), some (.int a1), some (.int b), some (.int c), some (.int d), none, none] ∧ (a1.natAbs < 2 ^ 140), ?_, ?_⟩
    · skip
      refine ⟨_, rfl, _, _, _, _, rfl, rfl, (SqL.of hnum), atI_nat (j := 4) rfl, _, _, rfl, rfl, (show (0 : Int) < 4 by decide), rfl, _, rfl, iteEq (fun c1 => ?_) (fun c1 => ?_)⟩
      · skip
        refine ⟨_, rfl, _, _, rfl, rfl, ⟨by decide, by decide, by decide⟩, _, rfl, _, _, rfl, rfl, ?_, ?_⟩
        · walk_at "cb mul"
        refine ⟨_, _, rfl, rfl, _, rfl, fun a_2 e_a_2 => ?_⟩
        exact ⟨rfl, _, rfl, by rw [e_a_2]; walk_at "cb size"⟩
      · skip
        exact ⟨rfl, _, rfl, abs_mono sa (by decide)⟩
    rintro _ _ ⟨rfl, a1, rfl, sa1⟩
    refine ⟨fun σ' H' => H1 = H' ∧ ∃ c1 : Int, ∃ d1 : Int, σ' = [some (.ref aS), some (.ref pnum), some (.int a1), some (.int b), some (.int c1), some (.int d1), none, none] ∧ (c1.natAbs < 2 ^ 140) ∧ (1 ≤ d1 ∧ d1 ≤ 24), ?_, ?_⟩
    · skip
      refine ⟨_, rfl, _, _, _, _, rfl, rfl, (SqL.of hnum), atI_nat (j := 5) rfl, _, _, rfl, rfl, (show (0 : Int) < 8 by decide), rfl, _, rfl, iteEq (fun c2 => ?_) (fun c2 => ?_)⟩
      · skip
        refine ⟨_, rfl, _, rfl, fun c_2 e_c_2 => ?_⟩
        refine ⟨_, rfl, _, rfl, fun d_2 e_d_2 => ?_⟩
        exact ⟨rfl, _, _, rfl, by rw [e_c_2]; exact sa1, by rw [e_d_2]; exact rb⟩
      · skip
        exact ⟨rfl, _, _, rfl, abs_mono sc (by decide), rd⟩
    rintro _ _ ⟨rfl, c1, d1, rfl, sc1, rd1⟩
    refine ⟨fun σ' H' => H1 = H' ∧ ∃ c2 : Int, ∃ d2 : Int, σ' = [some (.ref aS), some (.ref pnum), some (.int a1), some (.int b), some (.int c2), some (.int d2), none, none] ∧ (c2.natAbs < 2 ^ 140) ∧ (1 ≤ d2 ∧ d2 ≤ 24), ?_, ?_⟩
    · skip
      refine ⟨_, rfl, _, _, _, _, rfl, rfl, (SqL.of hnum), atI_nat (j := 5) rfl, _, _, rfl, rfl, (show (0 : Int) < 8 by decide), rfl, _, rfl, iteEq (fun c3 => ?_) (fun c3 => ?_)⟩
      · skip
        refine ⟨_, rfl, _, rfl, _, rfl, fun c_3 e_c_3 => ?_⟩
        refine ⟨_, rfl, _, rfl, fun d_3 e_d_3 => ?_⟩
        exact ⟨rfl, _, _, rfl, by rw [e_c_3, Int.natAbs_neg]; exact sa1, by rw [e_d_3]; exact rb⟩
      · skip
        exact ⟨rfl, _, _, rfl, sc1, rd1⟩
    rintro _ _ ⟨rfl, c2, d2, rfl, sc2, rd2⟩
    have sd2 : d2.natAbs < 2 ^ 8 := by omega
    refine ⟨_, rfl, _, rfl, _, _, 8, rfl, ?_, by decide, ?_, ?_⟩
    · exact sb
    · omega
    refine fun p_x dp_x H2 n_x d_x sm np_x h_x q_x => ?_
    replace hS := sm.seq hS
    replace hnum := sm _ _ hnum
    have l_x : Lw 140 n_x d_x := lw_of q_x (by omega) sa1 (abs_mono sb (by decide))
    refine ⟨_, rfl, _, rfl, _, _, 8, rfl, ?_, by decide, ?_, ?_⟩
    · exact sd2
    · omega
    refine fun p_y dp_y H3 n_y d_y sm np_y h_y q_y => ?_
    replace hS := sm.seq hS
    replace hnum := sm _ _ hnum
    replace h_x := sm _ _ h_x
    have l_y : Lw 140 n_y d_y := lw_of q_y (by omega) sc2 (abs_mono sd2 (by decide))
    have zx := q_x.eq
    have zy := q_y.eq
    have px := l_x.pos
    have py := l_y.pos
    refine ⟨_, rfl, _, rfl, _, _, _, _, _, _, rfl, rfl, h_x, h_y, _, _, _, _, _, _, _, _, _, rfl, h_x, h_y, l_x, l_y, by decide, fun p_f dp_f H4 n_f d_f sm np_f h_f q_f => ?_⟩
    replace hS := sm.seq hS
    replace hnum := sm _ _ hnum
    replace h_x := sm _ _ h_x
    replace h_y := sm _ _ h_y
    refine ⟨_, rfl, _, rfl, _, _, rfl, rfl, ?_, ?_⟩
    · walk_at "cb mul"
    refine ⟨_, rfl, _, rfl, _, _, rfl, rfl, ?_, ?_⟩
    · walk_at "cb mul"
    refine ⟨_, _, rfl, rfl, _, rfl, _, rfl, _, _, rfl, rfl, ?_, ?_⟩
    · walk_at "cb mul"
    have z1 : IsOk 1000 ((a1 * d2) + (c2 * b)) (b * d2) n_f d_f := by
      refine isOk ?_ ?_ ?_ ?_
      · exact q_f.conv (Int.mul_ne_zero (by omega) (by omega)) (by grind)
      · walk_at "cb ne"
      · walk_at "cb size"
      · walk_at "cb size"
    refine ⟨_, _, _, _, _, _, 1000, rfl, h_f, z1.f, z1.a, z1.b, z1.c, z1.e, by decide, _, rfl, iteN rfl ?_⟩
    refine ⟨_, rfl, _, rfl, _, _, _, _, _, _, rfl, rfl, h_x, h_y, _, _, _, _, _, _, _, _, _, rfl, h_x, h_y, l_x, l_y, by decide, fun p_f_2 dp_f_2 H5 n_f_2 d_f_2 sm np_f_2 h_f_2 q_f_2 => ?_⟩
    replace hS := sm.seq hS
    replace hnum := sm _ _ hnum
    replace h_x := sm _ _ h_x
    replace h_y := sm _ _ h_y
    refine ⟨_, rfl, _, rfl, _, _, rfl, rfl, ?_, ?_⟩
    · walk_at "cb mul"
    refine ⟨_, rfl, _, rfl, _, _, rfl, rfl, ?_, ?_⟩
    · walk_at "cb mul"
    refine ⟨_, _, rfl, rfl, _, rfl, _, rfl, _, _, rfl, rfl, ?_, ?_⟩
    · walk_at "cb mul"
    have z2 : IsOk 1000 ((a1 * d2) - (c2 * b)) (b * d2) n_f_2 d_f_2 := by
      refine isOk ?_ ?_ ?_ ?_
      · exact q_f_2.conv (Int.mul_ne_zero (by omega) (by omega)) (by grind)
      · walk_at "cb ne"
      · walk_at "cb size"
      · walk_at "cb size"
    refine ⟨_, _, _, _, _, _, 1000, rfl, h_f_2, z2.f, z2.a, z2.b, z2.c, z2.e, by decide, _, rfl, iteN rfl ?_⟩
    refine ⟨_, rfl, _, rfl, _, _, _, _, _, _, rfl, rfl, h_x, h_y, _, _, _, _, _, _, _, _, _, rfl, h_x, h_y, l_x, l_y, by decide, fun p_f_3 dp_f_3 H6 n_f_3 d_f_3 sm np_f_3 h_f_3 q_f_3 => ?_⟩
    replace hS := sm.seq hS
    replace hnum := sm _ _ hnum
    replace h_x := sm _ _ h_x
    replace h_y := sm _ _ h_y
    refine ⟨_, rfl, _, rfl, _, _, rfl, rfl, ?_, ?_⟩
    · walk_at "cb mul"
    refine ⟨_, rfl, _, rfl, _, _, rfl, rfl, ?_, ?_⟩
    · walk_at "cb mul"
    have z3 : IsOk 1000 (a1 * c2) (b * d2) n_f_3 d_f_3 := by
      refine isOk ?_ ?_ ?_ ?_
      · exact q_f_3.conv (Int.mul_ne_zero (by omega) (by omega)) (by grind)
      · walk_at "cb ne"
      · walk_at "cb size"
      · walk_at "cb size"
    refine ⟨_, _, _, _, _, _, 1000, rfl, h_f_3, z3.f, z3.a, z3.b, z3.c, z3.e, by decide, _, rfl, iteN rfl ?_⟩
    refine ⟨_, rfl, _, _, _, rfl, h_x, _, _, _, _, rfl, h_x, fun p_f_4 dp_f_4 H7 n_f_4 d_f_4 sm np_f_4 h_f_4 q_f_4 => ?_⟩
    replace hS := sm.seq hS
    replace hnum := sm _ _ hnum
    replace h_x := sm _ _ h_x
    replace h_y := sm _ _ h_y
    have z4 : IsOk 1000 (-a1) (b) n_f_4 d_f_4 := by
      refine isOk ?_ ?_ ?_ ?_
      · have f := fq_neg l_x.pos l_x.cop
        rw [q_f_4.1, q_f_4.2]
        exact f.conv (by omega) (by grind)
      · walk_at "cb ne"
      · walk_at "cb size"
      · walk_at "cb size"
    refine ⟨_, rfl, _, rfl, _, rfl, _, _, _, _, _, _, 1000, rfl, h_f_4, z4.f, z4.a, z4.b, z4.c, z4.e, by decide, _, rfl, iteN rfl ?_⟩
    refine ⟨_, rfl, _, _, _, rfl, h_y, _, _, _, _, rfl, h_y, fun p_f_5 dp_f_5 H8 n_f_5 d_f_5 sm np_f_5 h_f_5 q_f_5 => ?_⟩
    replace hS := sm.seq hS
    replace hnum := sm _ _ hnum
    replace h_x := sm _ _ h_x
    replace h_y := sm _ _ h_y
    have z5 : IsOk 1000 (-c2) (d2) n_f_5 d_f_5 := by
      refine isOk ?_ ?_ ?_ ?_
      · have f := fq_neg l_y.pos l_y.cop
        rw [q_f_5.1, q_f_5.2]
        exact f.conv (by omega) (by grind)
      · walk_at "cb ne"
      · walk_at "cb size"
      · walk_at "cb size"
    refine ⟨_, rfl, _, rfl, _, rfl, _, _, _, _, _, _, 1000, rfl, h_f_5, z5.f, z5.a, z5.b, z5.c, z5.e, by decide, _, rfl, iteN rfl ?_⟩
    have z6 : IsOk 1000 (a1) (b) n_x d_x := by
      refine isOk ?_ ?_ ?_ ?_
      · exact q_x
      · walk_at "cb ne"
      · walk_at "cb size"
      · walk_at "cb size"
    refine ⟨_, rfl, _, rfl, _, rfl, _, _, _, _, _, _, 1000, rfl, h_x, z6.f, z6.a, z6.b, z6.c, z6.e, by decide, _, rfl, iteK rfl ?_⟩
    have z7 : IsOk 1000 (c2) (d2) n_y d_y := by
      refine isOk ?_ ?_ ?_ ?_
      · exact q_y
      · walk_at "cb ne"
      · walk_at "cb size"
      · walk_at "cb size"
    refine ⟨_, rfl, _, rfl, _, rfl, _, _, _, _, _, _, 1000, rfl, h_y, z7.f, z7.a, z7.b, z7.c, z7.e, by decide, ?_⟩
    exact q _
theorem whole (T : Tx K mg) : ∃ fd : FuncData, (∀ (s : Shared) (v : Value), BindsTo s fd ⟨[v], []⟩ [("script", v)]) ∧ ∀ base : Heap, FnOk P w K mg base CX0 6 (He.fAd K ("law", none)) fd ["script"] (spLaw K) := by
  have O__law_numbers : ∀ base, OkF P w K mg base 1 (He.fAd K ("_law_numbers", none)) ["script", "count"] (spNums K) := fun base => ok__law_numbers T
  have O_Fraction___init__ : ∀ base, OkD P w K mg base 1 (He.fAd K ("Fraction", some "__init__")) ["self", "num", "den"] (He.Dv.v K (.int 1)) (spInit K) := fun base => ok_Fraction___init__ T
  have O__in_lowest_terms : ∀ base, OkF P w K mg base 3 (He.fAd K ("_in_lowest_terms", none)) ["num", "den"] (spLow K) := fun base => ok__in_lowest_terms T (O_Fraction___init__ base)
  have O_Fraction___add__ : ∀ base, OkF P w K mg base 4 (He.fAd K ("Fraction", some "__add__")) ["self", "other"] (spAdd K) := fun base => ok_Fraction___add__ T (O__in_lowest_terms base)
  have O__law_is_integer : ∀ base, OkF P w K mg base 1 (He.fAd K ("_law_is_integer", none)) ["x"] (spIsInt K) := fun base => ok__law_is_integer T
  have O__law_divisor : ∀ base, OkF P w K mg base 1 (He.fAd K ("_law_divisor", none)) ["a", "b"] (spGcd K) := fun base => ok__law_divisor T
  have O__law_is : ∀ base, OkF P w K mg base 2 (He.fAd K ("_law_is", none)) ["x", "num", "den"] (spIs K) := fun base => ok__law_is T (O__law_is_integer base) (O__law_divisor base)
  have O_Fraction___neg__ : ∀ base, OkF P w K mg base 4 (He.fAd K ("Fraction", some "__neg__")) ["self"] (spNeg K) := fun base => ok_Fraction___neg__ T (O__in_lowest_terms base)
  have O_Fraction___sub__ : ∀ base, OkF P w K mg base 5 (He.fAd K ("Fraction", some "__sub__")) ["self", "other"] (spSub K) := fun base => ok_Fraction___sub__ T (O_Fraction___neg__ base) (O_Fraction___add__ base)
  have O_Fraction___mul__ : ∀ base, OkF P w K mg base 4 (He.fAd K ("Fraction", some "__mul__")) ["self", "other"] (spMul K) := fun base => ok_Fraction___mul__ T (O__in_lowest_terms base)
  exact ok_law T O__law_numbers O_Fraction___init__ O_Fraction___add__ O__law_is O_Fraction___sub__ O_Fraction___mul__ O_Fraction___neg__
end
/-! ### the head -/
abbrev DN__law_numbers : Nat := 0
abbrev DN_Fraction___init__ : Nat := 1
abbrev DN__in_lowest_terms : Nat := 2
abbrev DN_Fraction___add__ : Nat := 3
abbrev DN__law_is_integer : Nat := 4
abbrev DN__law_divisor : Nat := 5
abbrev DN__law_is : Nat := 6
abbrev DN_Fraction___neg__ : Nat := 7
abbrev DN_Fraction___sub__ : Nat := 8
abbrev DN_Fraction___mul__ : Nat := 9
abbrev DN_law : Nat := 10
def fnL : List DefG := [d__law_numbers, d_Fraction___init__, d__in_lowest_terms, d_Fraction___add__, d__law_is_integer, d__law_divisor, d__law_is, d_Fraction___neg__, d_Fraction___sub__, d_Fraction___mul__, d_law]
def faL : List He.Fa := [.cls "Fraction", .meth "Fraction" "__add__", .meth "Fraction" "__mul__", .meth "Fraction" "__neg__", .meth "Fraction" "__sub__", .glo "DivisionByZero", .glo "Fraction", .glo "_in_lowest_terms", .glo "_law_divisor", .glo "_law_is", .glo "_law_is_integer", .glo "_law_numbers", .glo "law", .exc "DivisionByZero", .mkr "Fraction", .noat "Fraction" "den", .noat "Fraction" "num", .free "abs", .free "bool", .free "int", .free "isinstance", .free "len", .free "range"]
def exL (K : PySem.W.Frag) : List Bool := [PySem.W.selfFirst K (He.ga K "Fraction"),
  He.eqO (PySem.W.nsIn K mainGlobals "gcd") (some (some (.builtin "math.gcd"))),
  He.eqO (PySem.W.findIn K (.ref (He.ga K "Fraction")) "__class__") (some (some (.builtin "object.__class__"))),
  He.eqO (PySem.W.specialIn K (.builtin "object.__class__") "__get__") (some (some (.builtin "getset_descriptor.__get__"))),
  decide (PySem.W.takesIn K (.builtin "object.__class__") = some true),
  decide (PySem.W.mroIn K (He.ga K "Fraction") (.type "object") = some true)]
abbrev R : PySem.W.OpenRow := PySem.W.OpenLaw.row PySem.Challenge.rw_certsums_k01_fraction_sums_products
abbrev hk : PySem.W.Hook := hookG 6 faL fnL exL
def ob (s : PySem.W.SharedT) : AlG := obsGG 6 faL fnL exL (HandSHeadRun.getT s)
theorem ob_eq (s : PySem.W.SharedT) : ob s = hk.obs s.abs := obsGG_eq (HandSHeadRun.getT_eq s)
def names : List Str := (["_wall", "SummationError", "DivisionByZero", "Fraction", "_in_lowest_terms", "_law_numbers", "_law_is_integer", "_law_divisor", "_law_is"] : List Str)
set_option maxHeartbeats 0 in
theorem run (w : World) : HandSHeadRun.RunEqI R (PySem.W.view R.prog [0, 13]) hk ob 20000 names w := by
  unfold HandSHeadRun.RunEqI
  kernel_rfl
theorem tx_of {K : PySem.W.Frag} {h : Heap} {mg : Str → Option Value} (X : K.In h) (G : h.Ns mainGlobals mg) (c : SaysG faL fnL exL K) : Tx K mg :=
  ⟨He.cls_ok (c.fact 0),
   c.dn DN_Fraction___add__,
   c.dn DN_Fraction___init__,
   c.dn DN_Fraction___mul__,
   c.dn DN_Fraction___neg__,
   c.dn DN_Fraction___sub__,
   c.dn DN__in_lowest_terms,
   c.dn DN__law_divisor,
   c.dn DN__law_is,
   c.dn DN__law_is_integer,
   c.dn DN__law_numbers,
   c.dn DN_law,
   (He.meth_ok (c.fact 1)).fn,
   (He.meth_ok (c.fact 2)).fn,
   (He.meth_ok (c.fact 3)).fn,
   (He.meth_ok (c.fact 4)).fn,
   c.more 0,
   He.glo_ok X G (c.fact 5),
   He.glo_ok X G (c.fact 6),
   He.glo_ok X G (c.fact 7),
   He.glo_ok X G (c.fact 8),
   He.glo_ok X G (c.fact 9),
   He.glo_ok X G (c.fact 10),
   He.glo_ok X G (c.fact 11),
   PySem.W.mg_of X G (He.eqO_ok (c.more 1)),
   He.glo_ok X G (c.fact 12),
   (He.exc_ok (c.fact 13)).2.1,
   He.mkr_ok (c.fact 14),
   He.noat_ok (c.fact 15),
   He.noat_ok (c.fact 16),
   @fun X e => by subst e; exact raises_own (He.exc_ok (c.fact 13)).2.2.1 (He.exc_ok (c.fact 13)).2.2.2,
   (He.meth_ok (c.fact 1)).at_,
   (He.meth_ok (c.fact 2)).at_,
   (He.meth_ok (c.fact 3)).at_,
   (He.meth_ok (c.fact 4)).at_,
   @fun H a dx fs e => .base (.ins e (He.cls_ok (c.fact 0)) (He.eqO_ok (c.more 2)) (He.eqO_ok (c.more 3)) (of_decide_eq_true (c.more 4)) (of_decide_eq_true (c.more 5))),
   (He.exc_ok (c.fact 13)).1,
   He.free_ok X G (c.fact 17),
   He.free_ok X G (c.fact 18),
   He.free_ok X G (c.fact 19),
   He.free_ok X G (c.fact 20),
   He.free_ok X G (c.fact 21),
   He.free_ok X G (c.fact 22)⟩
end CB
open PySem PySem.W PyProof.Rows
set_option maxHeartbeats 0 in
theorem PySem.Challenge.cw_certsums_k01_fraction_sums_products_holds : PySem.Challenge.rw_certsums_k01_fraction_sums_products.Holds := by
  w_on; o_law
  refine HandSHeadRun.head_imp (r := CB.R) (q := view CB.R.prog [0, 13]) (H := CB.hk) (ob := CB.ob) (M := 20000) (loose := CB.names) (d := HandSHeadRun.topDef CB.R.prog 13) (kwd := []) CB.ob_eq
    CB.run (by kernel_rfl) (by kernel_rfl) (by kernel_rfl) (by rfl) (by first | assumption | decide +kernel) (by decide +kernel) ⟨rfl, rfl, rfl, rfl, rfl, by decide +kernel⟩ ?hw ?hc
  case hw => w_witness2
  case hc =>
    refine L2.walk_ofE (l := PySem.Challenge.rw_certsums_k01_fraction_sums_products) (n := 63) (k := 6) (x := "script") (CX := L2.CX0) rfl (by decide) (by kernel_rfl) ⟨rfl, by decide, by decide⟩ ?F (fun _ _ _ _ z => z)
    intro w mg fa h Y G hmg0
    obtain ⟨K, KX, c⟩ := Y
    have hmg : mg ("law" : PySem.Str) = some (.ref fa) := by
      have e : (HandSHeadRun.topDef CB.R.prog 13).name = ("law" : PySem.Str) := by kernel_rfl
      rw [← e]
      exact hmg0
    have T : CB.Tx K mg := CB.tx_of KX G c
    obtain ⟨fd, hb, hF⟩ := CB.whole (P := (PySem.Challenge.rw_certsums_k01_fraction_sums_products).prog) (w := w) T
    cases (T.g_law.symm.trans hmg)
    exact ⟨K, fd, CB.spLaw K, KX, hb, fun H a ns hl _ hS => ⟨a, ns, rfl, hS, hl, fun _ => rfl⟩, fun base _ _ => hF base⟩
