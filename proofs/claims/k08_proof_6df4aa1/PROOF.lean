import PyProof.Rows.All
import Wide.All
import OpenK.AllK
import Wide.FinOn
import KE.KStateDown
import KE.KMathGC
import KE.KOpsOwn
import Lean
import HandS.ForMost
import HandS.Exc
import HandS.ExcOwn
import HandS.ExcIs
import HandS.TryOnly
import HandS.WordsExc
import HandS.Defaults
import HandS.IsInst
import HandS.Wide
import HandS.WideBits
import HandS.Gcd
import HandS.Property
import HandS.OwnEq
import HandS.Flow
import HandS.Evl
import HandS.Head0
import HandS.Head1
import HandS.Head2
import HandS.Head3
import HandS.HeadEnd
import HandS.HeadHook1
import HandS.HeadHook2
import HandS.HeadHook3
import HandS.HeadHook4
import HandS.Iter
import HandS.TupAny
import HandS.List
import HandS.Rev
import HandS.ClsMeth
import HandS.HeadNt
import KE.GoesEnumKw
import PySem.Challenge.RW_certsums_k08_poly_values
set_option Elab.async false
set_option linter.all false
set_option maxRecDepth 100000
set_option maxHeartbeats 4000000
namespace CB
open PySem PySem.Spec PyProof.Rows L2

/-! ### readings made simpler -/
theorem imp_e {X : Cx} {e : Expr} {t t' : TE} (h : PE X e t) (hi : ∀ σ H Q, t' σ H Q → t σ H Q) : PE X e t' :=
  ⟨fun pins s σ H Q I q => h.run pins s σ H Q I (hi σ H Q q)⟩
theorem imp_s {X : Cx} {e : Stmt} {t t' : TS} (h : PS X e t) (hi : ∀ D σ H, t' D σ H → t D σ H) : PS X e t' :=
  ⟨fun pins s σ H D I q => h.run pins s σ H D I (hi D σ H q)⟩

/-! ### a value is never NotImplemented -/
theorem back_of {P : Value → Shared → Prop} {z : V} {v : Value} {s' : Shared} (r : RelV z v) (h : P v s') : PySem.W.CmpBack P v s' := by
  cases z with
  | non => cases r; exact h
  | bl _ => cases r; exact h
  | int _ => obtain ⟨t, rfl⟩ := r; exact h
  | str _ => obtain ⟨t, rfl⟩ := r; exact h
  | byt _ => obtain ⟨t, rfl⟩ := r; exact h
  | flt _ => obtain ⟨t, rfl⟩ := r; exact h
  | ref _ => cases r; exact h
  | ty _ => cases r; exact h

section
variable {X : Cx} {CX : CXT} {k : Nat} {f C : Addr} {fd : FuncData} {ps : List Str} {sp : Sp} {E : XK}

/-- x op y by the class's own method, both of the class -/
def rOwn2 (C : Addr) (sp : Sp) (E : XK) : R2 := fun x y H Q => ∃ a b dx dy fs gs, x = .ref a ∧ y = .ref b ∧ H a = some (.ins C dx fs) ∧ H b = some (.ins C dy gs) ∧ sp [.ref a, .ref b] H Q E
theorem op_own2 {op : Operator} (hc : PySem.W.selfFirst X.K C = true) (hs : PySem.W.findIn X.K (.ref C) (PySem.dunder op.info.2) = some (some (.ref f))) (hf : PySem.W.isFn X.K (.ref f) = true)
    (F : FnOk X.prog X.w X.K X.mg X.base CX k f fd ps sp) (hr : Room k X.A) (hb : Binds X.K fd ps []) (hx : Passes CX X E) : OpR X (binaryOp op) (rOwn2 C sp E) := by
  intro pins s σ H x y v u Q I rx ry h
  obtain ⟨a, b, dx, dy, fs, gs, rfl, rfl, ha, hb', hq⟩ := h
  cases rx
  cases ry
  obtain ⟨mA, J, _⟩ := ins_get I.hok ha
  obtain ⟨mB, J', _⟩ := ins_get I.hok hb'
  obtain ⟨od, J, _⟩ := J.look
  obtain ⟨od', J', _⟩ := J'.look
  obtain ⟨m, hF⟩ := I.fr
  refine PySem.W.binop_K hF I.ok.mod.kin J J'.type hc hs hf ?_
  refine thn (run_fn (us := [.ref a, .ref b]) (vs := [.ref a, .ref b]) F hr hb .nil hx I (.cons rfl (.cons rfl .nil)) hq) fun w s' h => ?_
  obtain ⟨z, H', I', r, q⟩ := h
  exact back_of r ⟨z, H', I', r, q⟩
/-- - x by the class's own method -/
def rOwn1 (C : Addr) (sp : Sp) (E : XK) : V → Hp → VK → Prop := fun x H Q => ∃ a dx fs, x = .ref a ∧ H a = some (.ins C dx fs) ∧ sp [.ref a] H Q E
theorem un_ownNeg (hs : PySem.W.findIn X.K (.ref C) "__neg__" = some (some (.ref f))) (hf : PySem.W.isFn X.K (.ref f) = true)
    (F : FnOk X.prog X.w X.K X.mg X.base CX k f fd ps sp) (hr : Room k X.A) (hb : Binds X.K fd ps []) (hx : Passes CX X E) : UnR X (unaryOp .USub) (rOwn1 C sp E) := by
  intro pins s σ H x v Q I rx h
  obtain ⟨a, dx, fs, rfl, ha, hq⟩ := h
  cases rx
  obtain ⟨mA, J, _⟩ := ins_get I.hok ha
  obtain ⟨od, J, _⟩ := J.look
  obtain ⟨m, hF⟩ := I.fr
  refine PySem.W.ksp_neg hF I.ok.mod.kin J hs hf ?_
  exact run_fn (us := [.ref a]) (vs := [.ref a]) F hr hb .nil hx I (.cons rfl .nil) hq
/-- the other side of an own ==: what it may be -/
inductive EqTy (K : PySem.W.Frag) (C : Addr) (H : Hp) : V → Prop where
  | int {i : Int} (h : PySem.W.notFirst K C (.type "int") = true) : EqTy K C H (.int i)
  | str {x : Str} (h : PySem.W.notFirst K C (.type "str") = true) : EqTy K C H (.str x)
  | tup {a : Addr} {xs : List V} (e : H a = some (.tup xs)) (h : PySem.W.notFirst K C (.type "tuple") = true) : EqTy K C H (.ref a)
  | lst {a : Addr} {xs : List V} (e : H a = some (.lst xs)) (h : PySem.W.notFirst K C (.type "list") = true) : EqTy K C H (.ref a)
  | own {a dy : Addr} {gs : List (Str × V)} (e : H a = some (.ins C dy gs)) (h : PySem.W.notFirst K C (.ref C) = true) : EqTy K C H (.ref a)
theorem EqTy.look {pins : List (Addr × Obj)} {σ : L2.St} {H : Hp} {s : Shared} {y : V} {u : Value} (I : Inv X pins σ H s) (t : EqTy X.K C H y) (ry : RelV y u) :
    ∃ tb, PySem.W.Looks (model X.prog X.w) s.heap (typeOf u) tb ∧ PySem.W.notFirst X.K C tb = true := by
  cases t with
  | int h => obtain ⟨t, rfl⟩ := ry; exact ⟨_, PySem.W.Looks.of_pure rfl, h⟩
  | str h => obtain ⟨t, rfl⟩ := ry; exact ⟨_, PySem.W.Looks.of_pure rfl, h⟩
  | @tup a xs e h =>
    cases ry
    obtain ⟨_, its, r, o, e1, e2, _⟩ := (show ObjOk X.prog X.w H s.heap a (.tup xs) from I.hok a _ e)
    exact ⟨.type "tuple", fun A Q E s' k q => wpAny_typeOf_ref (k _ _ e1) (by rw [e2]; exact q), h⟩
  | @lst a xs e h =>
    cases ry
    obtain ⟨_, _, n, _, e1⟩ := (show ObjOk X.prog X.w H s.heap a (.lst xs) from I.hok a _ e)
    exact ⟨.type "list", fun A Q E s' k q => wpAny_typeOf_ref (k _ _ e1) q, h⟩
  | @own a dy gs e h =>
    cases ry
    obtain ⟨mB, J', _⟩ := ins_get I.hok e
    obtain ⟨od', J', _⟩ := J'.look
    exact ⟨_, J'.type, h⟩
def rOwnEq (K : PySem.W.Frag) (C : Addr) (sp : Sp) (E : XK) : R2 := fun x y H Q => ∃ a dx fs, x = .ref a ∧ H a = some (.ins C dx fs) ∧ EqTy K C H y ∧ sp [.ref a, y] H Q E
theorem op_ownEq (hs : PySem.W.findIn X.K (.ref C) "__eq__" = some (some (.ref f))) (hf : PySem.W.isFn X.K (.ref f) = true)
    (F : FnOk X.prog X.w X.K X.mg X.base CX k f fd ps sp) (hr : Room k X.A) (hb : Binds X.K fd ps []) (hx : Passes CX X E) : OpR X (compareOp .Eq) (rOwnEq X.K C sp E) := by
  intro pins s σ H x y v u Q I rx ry h
  obtain ⟨a, dx, fs, rfl, ha, ty, hq⟩ := h
  cases rx
  obtain ⟨mA, J, _⟩ := ins_get I.hok ha
  obtain ⟨od, J, _⟩ := J.look
  obtain ⟨m, hF⟩ := I.fr
  obtain ⟨tb, hl, hn⟩ := ty.look I ry
  show wpAny (model X.prog X.w) X.A (richCompare .Eq (.ref a) u) (EP X pins σ Q) X.xe s
  refine PySem.W.cmp_K (op := .Eq) hr.units0 hF I.ok.mod.kin J hl hn hs hf ?_
  refine thn (run_fn (us := [.ref a, u]) (vs := [.ref a, y]) F hr hb .nil hx I (.cons rfl (.cons ry .nil)) hq) fun w s' h => ?_
  obtain ⟨z, H', I', r, q⟩ := h
  exact back_of r ⟨z, H', I', r, q⟩
end

/-! ### whole numbers -/
/-- // by a divisor of any sign below 2 ^ 9000 -/
def CDivZ (_ j : Int) : Prop := j ≠ 0 ∧ j.natAbs.log2 < 9000
section
variable {X : Cx}
theorem op_fdivZ : OpR X (binaryOp .FloorDiv) (rI CDivZ fun i j => .int (i.fdiv j)) := opI fun i j _ _ _ _ _ hc q =>
  floordiv_int hc.1 q (.inl (PyProof.noPylong_of_log2 hc.2))
end

/-! ### small words -/
theorem iteK {c : Bool} {A B : Prop} (h : c = true) (a : A) : if c = true then A else B := by rw [h]; exact iteT a
theorem iteN {c : Bool} {A B : Prop} (h : c = false) (b : B) : if c = true then A else B := by rw [h]; exact iteF b
theorem iteB {c : Bool} {A B : Prop} (h1 : c = true → A) (h2 : c = false → B) : if c = true then A else B := by
  cases c with
  | true => exact iteT (h1 rfl)
  | false => exact iteF (h2 rfl)
theorem iteD {p : Prop} [Decidable p] {A B : Prop} (h1 : p → A) (h2 : ¬ p → B) : if decide p = true then A else B := by
  by_cases h : p
  · rw [decide_eq_true h]; exact iteT (h1 h)
  · rw [decide_eq_false h]; exact iteF (h2 h)
theorem iteDN {p : Prop} [Decidable p] {A B : Prop} (h1 : ¬ p → A) (h2 : p → B) : if (!decide p) = true then A else B := by
  by_cases h : p
  · rw [decide_eq_true h]; exact iteF (h2 h)
  · rw [decide_eq_false h]; exact iteT (h1 h)
theorem iteEq {i j : Int} {A B : Prop} (h1 : i = j → A) (h2 : i ≠ j → B) : if decide (V.int i = V.int j) = true then A else B :=
  iteD (fun h => h1 (V.int.inj h)) fun h => h2 fun e => h (by rw [e])
theorem iteEqN {i j : Int} {A B : Prop} (h1 : i ≠ j → A) (h2 : i = j → B) : if (!decide (V.int i = V.int j)) = true then A else B :=
  iteDN (fun h => h1 fun e => h (by rw [e])) fun h => h2 (V.int.inj h)
theorem iteEqNN {i j : Int} {A B : Prop} (h1 : i = j → A) (h2 : i ≠ j → B) : if (!(!decide (V.int i = V.int j))) = true then A else B := by
  rw [Bool.not_not]; exact iteEq h1 h2
/-- both ways go on alike: the second way shown first -/
theorem iteShare {c : Bool} {A B : Prop} (hb : B) (ha : c = true → B → A) : if c = true then A else B := by
  cases c with
  | true => exact iteT (ha rfl hb)
  | false => exact iteF hb
theorem unF {A B : Prop} (h : if false = true then A else B) : B := by
  rw [if_neg Bool.false_ne_true] at h
  exact h
theorem unT {A B : Prop} (h : if true = true then A else B) : A := by
  rw [if_pos rfl] at h
  exact h
theorem veq {i j : Int} (h : i = j) : decide (V.int i = V.int j) = true := decide_eq_true (by rw [h])
theorem vne {i j : Int} (h : i ≠ j) : decide (V.int i = V.int j) = false := decide_eq_false fun e => h (V.int.inj e)
theorem sm_tup {K : PySem.W.Frag} {H H' : Hp} {a : Addr} {xs : List V} (sm : Same H H') (h : SqT K H a xs) : SqT K H' a xs := by
  rcases h with (h | ⟨o, h⟩) | h
  · exact .inl (.inl (sm _ _ h))
  · exact .inl (.inr ⟨o, sm _ _ h⟩)
  · exact .inr h
theorem kit_same {K : PySem.W.Frag} (t : Value) : PySem.W.kitOne K t t = some true := by
  unfold PySem.W.kitOne
  rw [if_pos (by simp)]
theorem sm_new {H : Hp} {p : Addr} {o : HO} (h : H p = none) : Same H (upd H p o) := fun b x e => by
  rw [upd_ne (ne_of_none e h)]
  exact e
theorem ne_new {H : Hp} {a p : Addr} {o : HO} (h : H a = some o) (hp : H p = none) : a ≠ p := ne_of_none h hp

/-- x = e, e a whole number: behind it the number has a name -/
def tAsgI (te : TE) (i : Nat) : TS := fun D σ H => te σ H fun v H1 => ∃ m : Int, v = .int m ∧ ∀ n : Int, n = m → D.nx (σ.set i (some (.int n))) H1
theorem ps_setI {X : Cx} {i : Nat} {x : Str} {e : Expr} {te : TE} {pos pos' : Pos} (hN : X.N.Nodup) (hi : X.N[i]? = some x) (hx : Loc X.env.scope x) (he : PE X e te) (hs : swapsWith e (some (.Name x pos')) pos.line X.env = pure false := by rfl)
    (hf : X.fn x = true ∨ X.env.scope.names.lookup x = some .local := by first | exact .inl rfl | exact .inr rfl | assumption) : PS X (.Assign [.Name x pos'] e pos) (tAsgI te i) := by
  refine ⟨fun pins s σ H D I h => ?_⟩
  refine wpAny_Assign_Name (thn (he.run pins s σ H _ I h) fun v s1 h1 => ?_) hs
  obtain ⟨y, H1, I1, r1, m, rfl, q1⟩ := h1
  exact store_ok I1 hN hi hx r1 (fun s2 I2 => ⟨_, H1, I2, q1 m rfl⟩) hf

/-! ### defs by where they stand -/
abbrev FnW : Type := He.FnW
/-- one def of the text: where it stands (an address by the written part), its row's parts, its defaults -/
structure DefG where
  at_ : PySem.W.Frag → Addr
  name : Str
  qual : Str
  params : Arguments
  body : List Stmt
  scope : Scope
  dfl : List He.Dv := []
def fnG (K : PySem.W.Frag) (a : Addr) : FnW := match K.lookup a with
  | some ⟨_, _, .func fd, _⟩ => some (fd.name, fd.qualname, fd.params, fd.body, fd.scope, fd.globals, fd.closure, fd.builtins)
  | _ => none
def DefG.val (d : DefG) : FnW := some (d.name, d.qual, d.params, .stmts d.body, d.scope, mainGlobals, [], builtinsNs)
def DefG.dvs (K : PySem.W.Frag) (d : DefG) : List V := d.dfl.map (He.Dv.v K)
def DefG.ok (K : PySem.W.Frag) (d : DefG) : Bool := PySem.W.keepIn K (.ref (d.at_ K)) && (match K.lookup (d.at_ K) with
  | some ⟨_, _, .func fd, _⟩ => PySem.W.codeIn K fd.code d.qual && He.dflB K fd.defaults (d.dvs K)
  | _ => false)
/-- a def of the text, by its datum -/
def Dn (K : PySem.W.Frag) (d : DefG) : Prop := ∃ fd, FunD K d.name d.qual d.params d.body d.scope (d.dvs K) [] (d.at_ K) fd
theorem DefG.funD {K : PySem.W.Frag} {d : DefG} (e : fnG K (d.at_ K) = d.val) (c : d.ok K = true) : Dn K d := by
  obtain ⟨kp, c2⟩ := He.ba c
  unfold fnG at e
  cases q : K.lookup (d.at_ K) with
  | none =>
    rw [q] at c2
    cases c2
  | some o =>
    obtain ⟨oc, od, dt, osl⟩ := o
    rw [q] at c2 e
    cases dt with
    | func fd =>
      obtain ⟨n1, n2, n3, n4, n5, n6, n7, n8, n9, n10, n11, n12, n13, n14, n15⟩ := fd
      have e2 : (some (n1, n2, n3, n4, n5, n6, n7, n15) : FnW) = some (d.name, d.qual, d.params, .stmts d.body, d.scope, mainGlobals, [], builtinsNs) := e
      simp only [Option.some.injEq, Prod.mk.injEq] at e2
      obtain ⟨h1, h2, h3, h4, h5, h6, h7, h8⟩ := e2
      subst h1 h2 h3 h4 h5 h6 h7 h8
      have c3 : (PySem.W.codeIn K n13 d.qual && He.dflB K n8 (d.dvs K)) = true := c2
      obtain ⟨k1, k2⟩ := He.ba c3
      exact ⟨_, ⟨oc, od, n8, n9, n10, n11, n12, n13, n14, osl, rfl, q, k1, He.dflB_ok k2, .inl rfl⟩, kp⟩
    | _ => cases c2

/-! ### the shape of a def's promise: what a caller needs of the def at a -/
/-- the def at a is known by its promise (level k, parameters ps) -/
def OkF (P : Program) (w : World) (K : PySem.W.Frag) (mg : Str → Option Value) (base : Heap) (k : Nat) (a : Addr) (ps : List Str) (sp : Sp) : Prop :=
  ∃ fd : FuncData, FnOk P w K mg base (L2.CX P w) k a fd ps sp ∧ Binds K fd ps [] ∧ PySem.W.keepIn K (.ref a) = true
theorem okF_of {P : Program} {w : World} {K : PySem.W.Frag} {mg : Str → Option Value} {base : Heap} {k : Nat} {d : DefG} {N ps : List Str} {sp : Sp} (D : Dn K d) (hd : d.dfl = []) (S : FnScope N ps d.scope)
    (hb : ∀ (kV doc pm : Value) (an : Option Addr) (cdv ct : Value) (us : List Value), us.length = ps.length → bindArgs (PySem.W.fnOf d.name d.qual d.params d.body d.scope .none kV doc pm an cdv ct) ⟨us, []⟩ = pure (ps.zip us))
    (len : ∀ vs H Q E, sp vs H Q E → vs.length = ps.length)
    (hbody : ∀ (cdv : Value) (A : Around) (outer : List Env) (s : Shared) (H : Hp) (vs : List V) (Q : VK) (E : XK), Room k (A.deeper (envOfC d.qual d.scope s.heap.objs.size (d.at_ K) cdv)) → sp vs H Q E →
      ∃ t, PSs (cxOf (L2.CX P w) P w K mg base N d.qual d.scope (d.at_ K) cdv A outer s H E) d.body t ∧ t { nx := fun _ H' => Q .non H', rt := Q } (start N vs) H) :
    OkF P w K mg base (k + 1) (d.at_ K) ps sp := by
  obtain ⟨fd, F⟩ := D
  have e1 : d.dvs K = [] := by unfold DefG.dvs; rw [hd]; rfl
  rw [e1] at F
  exact ⟨fd, F.ok S len hbody, F.bindsN hb, F.kp⟩
/-- the same of a def with one default, of which all values or all but the last are written -/
def OkD (P : Program) (w : World) (K : PySem.W.Frag) (mg : Str → Option Value) (base : Heap) (k : Nat) (a : Addr) (ps : List Str) (dv : V) (sp : Sp) : Prop :=
  ∃ fd : FuncData, FnOk P w K mg base (L2.CX P w) k a fd ps sp ∧ Binds K fd ps [] ∧ (∃ ds, Vals [dv] ds ∧ Binds K fd ps ds) ∧ PySem.W.keepIn K (.ref a) = true
theorem okD_of {P : Program} {w : World} {K : PySem.W.Frag} {mg : Str → Option Value} {base : Heap} {k : Nat} {d : DefG} {N ps : List Str} {sp : Sp} {dv : He.Dv} (D : Dn K d) (hd : d.dfl = [dv]) (S : FnScope N ps d.scope)
    (hb0 : ∀ (T : Addr) (kV doc pm : Value) (an : Option Addr) (cdv ct : Value) (us its : List Value), us.length = ps.length → its.length = 1 →
      ∃ k, bindArgs (PySem.W.fnOf d.name d.qual d.params d.body d.scope (.ref T) kV doc pm an cdv ct) ⟨us, []⟩ = seqItems? (.ref T) >>= k ∧ k (some its.toArray) = pure (ps.zip (us ++ its.drop 1)))
    (hb1 : ∀ (T : Addr) (kV doc pm : Value) (an : Option Addr) (cdv ct : Value) (us its : List Value), us.length = ps.length - 1 → its.length = 1 →
      ∃ k, bindArgs (PySem.W.fnOf d.name d.qual d.params d.body d.scope (.ref T) kV doc pm an cdv ct) ⟨us, []⟩ = seqItems? (.ref T) >>= k ∧ k (some its.toArray) = pure (ps.zip (us ++ its.drop 0)))
    (hp : 0 < ps.length) (len : ∀ vs H Q E, sp vs H Q E → vs.length = ps.length)
    (hbody : ∀ (cdv : Value) (A : Around) (outer : List Env) (s : Shared) (H : Hp) (vs : List V) (Q : VK) (E : XK), Room k (A.deeper (envOfC d.qual d.scope s.heap.objs.size (d.at_ K) cdv)) → sp vs H Q E →
      ∃ t, PSs (cxOf (L2.CX P w) P w K mg base N d.qual d.scope (d.at_ K) cdv A outer s H E) d.body t ∧ t { nx := fun _ H' => Q .non H', rt := Q } (start N vs) H) :
    OkD P w K mg base (k + 1) (d.at_ K) ps (dv.v K) sp := by
  obtain ⟨fd, F⟩ := D
  have e1 : d.dvs K = [dv.v K] := by unfold DefG.dvs; rw [hd]; rfl
  rw [e1] at F
  obtain ⟨ds0, v0, b0⟩ := FunD.binds1 (ps := ps) F ps.length 1 (by simp) (by simp) fun T kV doc pm an cdv ct us its h1 h2 => hb0 T kV doc pm an cdv ct us its h1 (by simpa using h2)
  obtain ⟨ds1, v1, b1⟩ := FunD.binds1 (ps := ps) F (ps.length - 1) 0 (by simp) (by simp; omega) fun T kV doc pm an cdv ct us its h1 h2 => hb1 T kV doc pm an cdv ct us its h1 (by simpa using h2)
  have z : ds0 = [] := by
    have := v0.length
    simp at this
    exact List.eq_nil_of_length_eq_zero this.symm
  subst z
  exact ⟨fd, F.ok S len hbody, b0, ⟨ds1, v1, b1⟩, F.kp⟩

/-- the law's own def: no exception leaves it -/
theorem okLaw_of {P : Program} {w : World} {K : PySem.W.Frag} {mg : Str → Option Value} {k : Nat} {d : DefG} {N : List Str} {sp : Sp} (D : Dn K d) (hd : d.dfl = []) (S : FnScope N ["script"] d.scope)
    (hb : ∀ (kV doc pm : Value) (an : Option Addr) (cdv ct : Value) (us : List Value), us.length = 1 → bindArgs (PySem.W.fnOf d.name d.qual d.params d.body d.scope .none kV doc pm an cdv ct) ⟨us, []⟩ = pure ((["script"] : List Str).zip us))
    (len : ∀ vs H Q E, sp vs H Q E → vs.length = 1)
    (hbody : ∀ (base : Heap) (cdv : Value) (A : Around) (outer : List Env) (s : Shared) (H : Hp) (vs : List V) (Q : VK) (E : XK), Room k (A.deeper (envOfC d.qual d.scope s.heap.objs.size (d.at_ K) cdv)) → sp vs H Q E →
      ∃ t, PSs (cxOf CX0 P w K mg base N d.qual d.scope (d.at_ K) cdv A outer s H E) d.body t ∧ t { nx := fun _ H' => Q .non H', rt := Q } (start N vs) H) :
    ∃ fd : FuncData, (∀ (s : Shared) (v : Value), BindsTo s fd ⟨[v], []⟩ [("script", v)]) ∧ ∀ base : Heap, FnOk P w K mg base CX0 (k + 1) (d.at_ K) fd ["script"] sp := by
  obtain ⟨fd, F⟩ := D
  have e1 : d.dvs K = [] := by unfold DefG.dvs; rw [hd]; rfl
  rw [e1] at F
  exact ⟨fd, fun s v => FunD.bindsA (ps := ["script"]) F hb s [v] rfl, fun base => F.ok S len (hbody base)⟩
/-- what a law promises: True, of every script -/
def spLaw (K : PySem.W.Frag) : Sp := fun vs H Q _ => ∃ (a : Addr) (ns : List Int), vs = [.ref a] ∧ SqL K H a (ns.map V.int) ∧ ns.length ≤ 63 ∧ ∀ H', Q (.bl true) H'

/-! ### the head's facts by a Hook of our own: defs at any address -/
/-- the getter of a property of a class -/
def prAd (K : PySem.W.Frag) (C : Addr) (x : Str) : Addr := match PySem.W.findIn K (.ref C) x with
  | some (some (.ref p)) => p
  | _ => 0
def gtAd (K : PySem.W.Frag) (C : Addr) (x : Str) : Addr := match PySem.W.recIn K (prAd K C x) "property" with
  | some (.ref g :: _) => g
  | _ => 0
def propB (K : PySem.W.Frag) (C : Addr) (x : Str) : Bool :=
  He.eqO (PySem.W.findIn K (.ref C) x) (some (some (.ref (prAd K C x)))) && (He.eqO (PySem.W.specialIn K (.ref (prAd K C x)) "__get__") (some (some (.builtin "property.__get__"))) && (decide (PySem.W.takesIn K (.ref (prAd K C x)) = some true) &&
    (match PySem.W.recIn K (prAd K C x) "property" with
      | some (.ref _ :: _) => true
      | _ => false)))
theorem propB_ok {K : PySem.W.Frag} {C : Addr} {x : Str} (h : propB K C x = true) : PropOf K C x (prAd K C x) (gtAd K C x) := by
  obtain ⟨h1, h⟩ := He.ba h
  obtain ⟨h2, h⟩ := He.ba h
  obtain ⟨h3, h4⟩ := He.ba h
  refine ⟨He.eqO_ok h1, He.eqO_ok h2, of_decide_eq_true h3, ?_⟩
  unfold gtAd
  cases q : PySem.W.recIn K (prAd K C x) "property" with
  | none => rw [q] at h4; cases h4
  | some l =>
    rw [q] at h4
    cases l with
    | nil => cases h4
    | cons v r =>
      cases v with
      | ref g => exact ⟨r, rfl⟩
      | _ => cases h4
abbrev AlG : Type := Bool × List FnW
def obsG (fa : List He.Fa) (fn : List DefG) (ex : PySem.W.Frag → List Bool) (K : PySem.W.Frag) : AlG := ((fa.all fun f => f.ok K) && ((fn.all fun d => d.ok K) && (ex K).all id), fn.map fun d => fnG K (d.at_ K))
def valG (fn : List DefG) : AlG := (true, fn.map DefG.val)
def SaysG (fa : List He.Fa) (fn : List DefG) (ex : PySem.W.Frag → List Bool) (K : PySem.W.Frag) : Prop := obsG fa fn ex K = valG fn
def obsGG (n : Nat) (fa : List He.Fa) (fn : List DefG) (ex : PySem.W.Frag → List Bool) (g : Addr → Option Obj) : AlG := obsG fa fn ex (He.frG g (He.asD g n ++ [PySem.cStatics]))
def hookG (n : Nat) (fa : List He.Fa) (fn : List DefG) (ex : PySem.W.Frag → List Bool) : PySem.W.Hook where
  α := AlG
  obs := fun s => obsGG n fa fn ex s.heap.get?
  val := fun _ => valG fn
  says := fun _ h => ∃ K : PySem.W.Frag, K.In h ∧ SaysG fa fn ex K
  of := fun _ _ e => ⟨_, He.frG_in, e⟩
  keeps := fun _ _ _ ⟨K, hK, c⟩ k => ⟨K, PySem.W.Frag.In.keeps hK k, c⟩
theorem obsGG_eq {n : Nat} {fa : List He.Fa} {fn : List DefG} {ex : PySem.W.Frag → List Bool} {g : Addr → Option Obj} {s : Shared} (h : ∀ a, g a = s.heap.get? a) : obsGG n fa fn ex g = (hookG n fa fn ex).obs s := by
  have e : g = s.heap.get? := funext h
  rw [e] <;> rfl
section
variable {fa : List He.Fa} {fn : List DefG} {ex : PySem.W.Frag → List Bool} {K : PySem.W.Frag}
theorem SaysG.fact (c : SaysG fa fn ex K) (i : Nat) {f : He.Fa} (h : fa[i]? = some f := by rfl) : f.ok K = true := by
  have c1 := (He.ba (show ((fa.all fun f => f.ok K) && ((fn.all fun d => d.ok K) && (ex K).all id)) = true from congrArg (fun z : AlG => z.1) c)).1
  exact List.all_eq_true.mp c1 f (List.mem_of_getElem? h)
theorem SaysG.more (c : SaysG fa fn ex K) (i : Nat) {b : Bool} (h : (ex K)[i]? = some b := by rfl) : b = true := by
  have c1 := (He.ba (He.ba (show ((fa.all fun f => f.ok K) && ((fn.all fun d => d.ok K) && (ex K).all id)) = true from congrArg (fun z : AlG => z.1) c)).2).2
  exact List.all_eq_true.mp c1 b (List.mem_of_getElem? h)
theorem SaysG.dn (c : SaysG fa fn ex K) (i : Nat) {d : DefG} (h : fn[i]? = some d := by rfl) : Dn K d := by
  have c2 := (He.ba (He.ba (show ((fa.all fun f => f.ok K) && ((fn.all fun d => d.ok K) && (ex K).all id)) = true from congrArg (fun z : AlG => z.1) c)).2).1
  have e : fn.map (fun d => fnG K (d.at_ K)) = fn.map DefG.val := congrArg (fun z : AlG => z.2) c
  have e2 : (fn.map fun d => fnG K (d.at_ K))[i]? = (fn.map DefG.val)[i]? := by rw [e]
  rw [List.getElem?_map, List.getElem?_map, h] at e2
  exact DefG.funD (Option.some.inj e2) (List.all_eq_true.mp c2 d (List.mem_of_getElem? h))
end

/-! ### sizes -/
theorem abs_lt_mul {i j : Int} {a b : Nat} (ha : i.natAbs < 2 ^ a) (hb : j.natAbs < 2 ^ b) : (i * j).natAbs < 2 ^ (a + b) := wide_lt ha hb
theorem abs_lt_add {i j : Int} {a : Nat} (ha : i.natAbs < 2 ^ a) (hb : j.natAbs < 2 ^ a) : (i + j).natAbs < 2 ^ (a + 1) := by
  have := Int.natAbs_add_le i j
  rw [Nat.pow_succ]; omega
theorem abs_mono {i : Int} {a b : Nat} (h : i.natAbs < 2 ^ a) (hab : a ≤ b) : i.natAbs < 2 ^ b := Nat.lt_of_lt_of_le h (Nat.pow_le_pow_right (by decide) hab)
theorem sz_add {i j : Int} {a b : Nat} (ha : i.natAbs < 2 ^ a) (hb : j.natAbs < 2 ^ b) : (i + j).natAbs < 2 ^ (max a b + 1) :=
  abs_lt_add (abs_mono ha (Nat.le_max_left _ _)) (abs_mono hb (Nat.le_max_right _ _))
theorem sz_neg {i : Int} {a : Nat} (ha : i.natAbs < 2 ^ a) : (-i).natAbs < 2 ^ a := by rw [Int.natAbs_neg]; exact ha
theorem sz_sub {i j : Int} {a b : Nat} (ha : i.natAbs < 2 ^ a) (hb : j.natAbs < 2 ^ b) : (i - j).natAbs < 2 ^ (max a b + 1) := by
  rw [Int.sub_eq_add_neg]; exact sz_add ha (sz_neg hb)
theorem sz_pos {i : Int} {a : Nat} (h0 : 0 ≤ i) (h : i < 2 ^ a) : i.natAbs < 2 ^ a := by
  have : ((i.natAbs : Nat) : Int) < ((2 ^ a : Nat) : Int) := by rw [Int.natAbs_of_nonneg h0]; exact_mod_cast h
  exact_mod_cast this
theorem mulW {i j : Int} {a b : Nat} (ha : i.natAbs < 2 ^ a) (hb : j.natAbs < 2 ^ b) (h : a + b + 2 ≤ 1000000) : CMulW i j := wide_mul (a := a + 1) (b := b + 1) (abs_mono ha (by omega)) (abs_mono hb (by omega)) (by omega) (by omega) (by omega)
theorem divW {i j : Int} {b : Nat} (h : 0 < j) (hb : j.natAbs < 2 ^ b) (h9 : b ≤ 8000) : CDivW i j := wide_div (b := b + 1) h (abs_mono hb (by omega)) (by omega) (by omega)
theorem divZ {i j : Int} {b : Nat} (h : j ≠ 0) (hb : j.natAbs < 2 ^ b) (h9 : b ≤ 8000) : CDivZ i j := ⟨h, Nat.lt_of_lt_of_le (PySem.Flt.log2_lt_of (k := b + 1) (by omega) (abs_mono hb (by omega))) (by omega)⟩

/-! ### a new instance, its __init__'s promise taken in another form -/
section
variable {X : Cx} {CX : CXT} {k : Nat} {f C : Addr} {fd : FuncData} {ps : List Str} {sp : Sp} {dvs : List V} {ds : List Value} {E : XK} {x : Str} {p pos : Pos} {e : Expr} {es : List Expr} {t : TA} {B : List V → Hp → VK → Prop}
def tMk (B : List V → Hp → VK → Prop) (t : TA) : TE := fun σ H Q => t σ H fun vs H1 => B vs H1 Q
theorem pe_makeI (M : Mk X.K C f) (F : FnOk X.prog X.w X.K X.mg X.base CX k f fd ps sp) (hr : Room (k + 1) X.A) (hg : Gl X x) (hm : X.mg x = some (.ref C)) (hb : Binds X.K fd ps ds) (hd : Vals dvs ds) (hx : Passes CX X E)
    (conv : ∀ vs H1 Q, B vs H1 Q → ∀ x dx, H1 x = none → H1 dx = none → dx ≠ x → sp (.ref x :: (vs ++ dvs)) (upd (upd H1 dx (.own x)) x (.ins C dx [])) (fun v H2 => v = .non ∧ Q (.ref x) H2) E)
    (ha : PA X (e :: es) t) (hdb : (x == ("__debug__" : Str)) = false := by decide) (he : starEach (e :: es) X.env = (false, eval e X.env) :: starEach es X.env := by rfl) (hpl : (backTo pos (starEach es X.env)).any (·.1) = false := by rfl) :
    PE X (.Call (.Name x p) (e :: es) [] pos) (tMk B t) := by
  refine ⟨fun pins s σ H Q I h => ?_⟩
  refine wpAny_Call_Name_kw (ld_glob I hg hm ?_ hdb)
  refine PySem.W.callWith_K (h₀ := X.base) I.ok.mod.kin M.kp (thn (ha.run pos pins s σ H _ I h) fun us s1 hh => ?_) he hpl
  obtain ⟨vs, H1, I1, r, q⟩ := hh
  exact ⟨I1.kIn, run_make M F hr hb hd hx I1 r (conv vs H1 Q q)⟩
/-- .. in a try's body: what is wished of an exception knows the slots -/
theorem run_makeS {pins : List (Addr × Obj)} {σ : L2.St} {H : Hp} {s : Shared} {Q : VK} {us : List Value} {vs : List V} {E : L2.St → XK} (M : Mk X.K C f) (F : FnOk X.prog X.w X.K X.mg X.base CX k f fd ps sp) (hr : Room (k + 1) X.A) (hb : Binds X.K fd ps ds) (hd : Vals dvs ds)
    (hx : PassesAt CX X σ (E σ)) (I : Inv X pins σ H s) (r : Vals vs us)
    (h : ∀ x dx, H x = none → H dx = none → dx ≠ x → sp (.ref x :: (vs ++ dvs)) (upd (upd H dx (.own x)) x (.ins C dx [])) (fun v H2 => v = .non ∧ Q (.ref x) H2) (E σ)) :
    wpAny (model X.prog X.w) X.A (call (.ref C) us) (EP X pins σ Q) X.xe s := by
  have hq := h (s.heap.objs.size + 1) s.heap.objs.size (I.hok.fresh (Nat.le_succ _)) (I.hok.fresh (Nat.le_refl _)) (Nat.ne_of_lt (Nat.lt_succ_self _))
  have I2 := Inv.made (C := C) I
  have r2 : Vals (V.ref (s.heap.objs.size + 1) :: (vs ++ dvs)) (Value.ref (s.heap.objs.size + 1) :: (us ++ ds)) := .cons rfl (r.append hd)
  have hl : (Value.ref (s.heap.objs.size + 1) :: us ++ ds).length = ps.length := by
    have e := r2.length
    rw [F.len _ _ _ _ hq] at e
    exact e.symm
  refine wpAny_call (make_map (f := f) I.kIn M.makes M.init (beq_iff_eq.mp M.fn) (codeAny_mono (F.run _ X.stack _ _ ⟨Value.ref (s.heap.objs.size + 1) :: us, []⟩ (Value.ref (s.heap.objs.size + 1) :: (us ++ ds)) _ _ (E σ) (hr.make C us [])
    (I2.env0.make C us []) (hb _ (Value.ref (s.heap.objs.size + 1) :: us) I2.kIn hl) r2 hq) fun r s' hq' => ?_))
  cases r with
  | error e => exact hx pins _ _ e s' I2 hq'
  | ok fl =>
    cases fl with
    | ret u =>
      obtain ⟨v, H', I3, rv, ev, q3⟩ := I2.after hq'
      subst ev
      exact ⟨rv, ⟨V.ref (s.heap.objs.size + 1), H', I3, rfl, q3⟩⟩
    | next => exact False.elim hq'
    | brk => exact False.elim hq'
    | cont => exact False.elim hq'
def tMkS (B : L2.St → List V → Hp → VK → Prop) (t : TA) : TE := fun σ H Q => t σ H fun vs H1 => B σ vs H1 Q
theorem pe_makeIS {E : L2.St → XK} {B : L2.St → List V → Hp → VK → Prop} (M : Mk X.K C f) (F : FnOk X.prog X.w X.K X.mg X.base CX k f fd ps sp) (hr : Room (k + 1) X.A) (hg : Gl X x) (hm : X.mg x = some (.ref C)) (hb : Binds X.K fd ps ds) (hd : Vals dvs ds) (hx : ∀ σ, PassesAt CX X σ (E σ))
    (conv : ∀ σ vs H1 Q, B σ vs H1 Q → ∀ x dx, H1 x = none → H1 dx = none → dx ≠ x → sp (.ref x :: (vs ++ dvs)) (upd (upd H1 dx (.own x)) x (.ins C dx [])) (fun v H2 => v = .non ∧ Q (.ref x) H2) (E σ))
    (ha : PA X (e :: es) t) (hdb : (x == ("__debug__" : Str)) = false := by decide) (he : starEach (e :: es) X.env = (false, eval e X.env) :: starEach es X.env := by rfl) (hpl : (backTo pos (starEach es X.env)).any (·.1) = false := by rfl) :
    PE X (.Call (.Name x p) (e :: es) [] pos) (tMkS B t) := by
  refine ⟨fun pins s σ H Q I h => ?_⟩
  refine wpAny_Call_Name_kw (ld_glob I hg hm ?_ hdb)
  refine PySem.W.callWith_K (h₀ := X.base) I.ok.mod.kin M.kp (thn (ha.run pos pins s σ H _ I h) fun us s1 hh => ?_) he hpl
  obtain ⟨vs, H1, I1, r, q⟩ := hh
  exact ⟨I1.kIn, run_makeS M F hr hb hd (hx σ) I1 r (conv σ vs H1 Q q)⟩
end
/-- what a new instance's heap keeps -/
theorem same_made {H : Hp} {p dp C : Addr} {o : HO} (np : H p = none) (nd : H dp = none) (h : dp ≠ p) : Same H (upd (upd (upd H dp (.own p)) p (.ins C dp [])) p o) := fun b x e => by
  rw [upd_ne (ne_of_none e np), upd_ne (ne_of_none e np), upd_ne (ne_of_none e nd)]
  exact e
/-! ### caught errors -/
theorem pss_hyp {X : Cx} {p : Prop} {b : List Stmt} {t : TS} (h : p → PSs X b t) : PSs X b (fun D σ H => p ∧ t D σ H) :=
  ⟨fun pins s σ H D I q => (h q.1).run pins s σ H D I q.2⟩
def excCB (K : PySem.W.Frag) (D : Addr) : Bool :=
  He.eqO (PySem.W.findIn K (.ref D) "__getattribute__") (some (some (.builtin "BaseException.__getattribute__"))) && (He.eqO (PySem.W.findIn K (.ref D) "__getattr__") (some none) && (decide (PySem.W.subIn K (.ref D) (.type "BaseException") = some true) &&
    (PySem.W.hasDictIn K D && (He.eqO (PySem.W.findIn K (.ref D) "__class__") (some (some (.builtin "object.__class__"))) && (He.eqO (PySem.W.specialIn K (.builtin "object.__class__") "__get__") (some (some (.builtin "getset_descriptor.__get__"))) &&
      (decide (PySem.W.takesIn K (.builtin "object.__class__") = some true) && decide (PySem.W.mroIn K D (.type "object") = some true)))))))
theorem excCB_ok {K : PySem.W.Frag} {D : Addr} (h : excCB K D = true) : ExcC K D := by
  obtain ⟨h1, h⟩ := He.ba h
  obtain ⟨h2, h⟩ := He.ba h
  obtain ⟨h3, h⟩ := He.ba h
  obtain ⟨h4, h⟩ := He.ba h
  obtain ⟨h5, h⟩ := He.ba h
  obtain ⟨h6, h⟩ := He.ba h
  obtain ⟨h7, h8⟩ := He.ba h
  exact ⟨He.eqO_ok h1, He.eqO_ok h2, of_decide_eq_true h3, h4, He.eqO_ok h5, He.eqO_ok h6, of_decide_eq_true h7, of_decide_eq_true h8⟩
theorem iff_false {r : Bool} {p : Prop} (h : r = true ↔ p) (n : ¬ p) : r = false := by
  cases r with
  | true => exact absurd (h.mp rfl) n
  | false => rfl
theorem vnn {i j : Int} (h : i = j) : (!decide (V.int i = V.int j)) = false := by rw [veq h]; rfl
theorem vny {i j : Int} (h : i ≠ j) : (!decide (V.int i = V.int j)) = true := by rw [vne h]; rfl
theorem vbi {i j k l : Int} (h : i = j ↔ k = l) : (!decide (V.bl (decide (V.int i = V.int j)) = V.bl (decide (V.int k = V.int l)))) = false := by
  have e : decide (V.int i = V.int j) = decide (V.int k = V.int l) := by
    by_cases c : i = j
    · rw [veq c, veq (h.mp c)]
    · rw [vne c, vne fun z => c (h.mpr z)]
  rw [e]
  simp
/-! ### o.m(e, ..) in a try's body: what is wished of an exception knows the slots -/
def tMethE (C : Addr) (m : Str) (sp : Sp) (E : L2.St → XK) (ta : TE) (t : TA) : TE := fun σ H Q => ta σ H fun x H1 => ∃ a dx fs, x = .ref a ∧ H1 a = some (.ins C dx fs) ∧ fs.lookup m = none ∧
  t σ H1 fun vs H2 => sp (x :: vs) H2 Q (E σ)
section
variable {X : Cx} {CX : CXT} {k : Nat} {f C : Addr} {fd : FuncData} {ps : List Str} {sp : Sp} {x m : Str} {p pos apos : Pos} {e o : Expr} {es : List Expr} {ta : TE} {t : TA} {E : L2.St → XK}
theorem pe_methE {pl : Sem Bool} (he : PE X o ta) (c : Cls X.K C) (hm : Meth X.K C m f) (F : FnOk X.prog X.w X.K X.mg X.base CX k f fd ps sp) (hr : Room k X.A)
    (hb : Binds X.K fd ps []) (hx : ∀ σ, PassesAt CX X σ (E σ)) (ha : PA X (e :: es) t)
    (hst : starEach (e :: es) X.env = (false, eval e X.env) :: starEach es X.env := by rfl)
    (hpl : (backTo pos (starEach es X.env)).any (·.1) = false := by rfl)
    (ht : eval (.Call (.Attribute o m apos) (e :: es) [] pos) X.env = (do
      let ov ← eval o X.env
      standAt apos.atName
      let (f, first) ← holding [ov] (getMethod ov m pl)
      callWith pos f first (backTo pos (starEach (e :: es) X.env)) (backToKw pos (keywordEach [] X.env))) := by rfl) :
    PE X (.Call (.Attribute o m apos) (e :: es) [] pos) (tMethE C m sp E ta t) := by
  refine ⟨fun pins s σ H Q I h => ?_⟩
  refine PySem.W.methodCall_KW (pl := pl) (thn (he.run pins s σ H _ I h) fun u s1 hh => ?_) ht
  obtain ⟨x, H1, I1, rx, a, dx, fs, ex, ea, l, q⟩ := hh
  subst ex
  have eu : u = Value.ref a := rx
  subst eu
  refine getmeth_ok I1 ea c hm l ?_
  refine PySem.W.callWith_K (first := [.ref a]) (h₀ := X.base) I.ok.mod.kin hm.kp (thn (ha.run pos pins s1 σ H1 _ I1 q) fun us s2 h2 => ?_) hst hpl
  obtain ⟨vs, H2, I2, r, q2⟩ := h2
  exact ⟨I2.kIn, run_fnS (us := .ref a :: us) (vs := .ref a :: vs) F hr hb (hx σ) I2 (.cons rfl r) q2⟩
end
theorem bit_one (n : Nat) : PySem.Builtin.bitAnd (n : Int) 1 = ((n % 2 : Nat) : Int) := by
  show ((n &&& 1 : Nat) : Int) = _
  rw [Nat.and_one_is_mod]
/-- the size of a power -/
theorem pow_bits {b : Int} {k : Nat} (h : b.natAbs < 2 ^ k) (r : Nat) : (b ^ r).natAbs < 2 ^ (k * r + 1) := by
  rw [Int.natAbs_pow]
  have z := Nat.pow_le_pow_left (Nat.le_of_lt h) r
  rw [← Nat.pow_mul] at z
  have : 2 ^ (k * r) < 2 ^ (k * r + 1) := Nat.pow_lt_pow_right (by decide) (by omega)
  omega
theorem get_map {ns : List Int} {i : Nat} (h : i < ns.length) : ∃ x, ns[i]? = some x ∧ (ns.map V.int)[i]? = some (.int x) :=
  ⟨ns[i], List.getElem?_eq_getElem h, by rw [List.getElem?_map, List.getElem?_eq_getElem h]; rfl⟩
theorem len_map {ns : List Int} : (ns.map V.int).length = ns.length := List.length_map ..
theorem map_at {ns : List Int} {i : Nat} {x : Int} (h : ns[i]? = some x) : (ns.map V.int)[i]? = some (.int x) := by rw [List.getElem?_map, h]; rfl
theorem cut_lo {xs : List V} {m : Nat} (h : m ≤ xs.length) : cutV xs none (some (m : Int)) = xs.take m := by
  have e : HT.sIx xs.length xs.length (some (m : Int)) = m := by rw [HT.sIx_nat]; omega
  simp [cutV, e, HT.sIx_none]
theorem cut_hi {xs : List V} {m : Nat} (h : m ≤ xs.length) : cutV xs (some (m : Int)) none = xs.drop m := by
  have e : HT.sIx xs.length 0 (some (m : Int)) = m := by rw [HT.sIx_nat]; omega
  simp only [cutV, e, HT.sIx_none]
  exact List.take_of_length_le (by simp)
/-- within a comprehension: the written part said -/
theorem pe_fldK {X : Cx} {K : PySem.W.Frag} {o : Expr} {ta : TE} {f : Str} {pos : Pos} (hK : X.K = K) (h : PE X (.Attribute o f pos) (tFld X.K ta f)) : PE X (.Attribute o f pos) (tFld K ta f) := by
  subst hK
  exact h
end CB

namespace CB
/-- a / b is n / d in lowest terms, with a positive denominator -/
structure Fq (n d a b : Int) : Prop where
  eq : a * d = n * b
  pos : 0 < b
  cop : Nat.gcd a.natAbs b.natAbs = 1

theorem dvd_of_cop {a b c : Int} (h : b ∣ a * c) (g : Nat.gcd a.natAbs b.natAbs = 1) : b ∣ c := by
  have h1 : b.natAbs ∣ a.natAbs * c.natAbs := by rw [← Int.natAbs_mul]; exact Int.natAbs_dvd_natAbs.mpr h
  have h2 : Nat.Coprime b.natAbs a.natAbs := by rw [Nat.coprime_iff_gcd_eq_one, Nat.gcd_comm]; exact g
  exact Int.natAbs_dvd_natAbs.mp (h2.dvd_of_dvd_mul_left h1)
theorem Fq.den_dvd {n d a b : Int} (f : Fq n d a b) : b ∣ d := dvd_of_cop ⟨n, by have := f.eq; grind⟩ f.cop
theorem Fq.num_dvd {n d a b : Int} (f : Fq n d a b) : a ∣ n := by
  have h : a ∣ b * n := ⟨d, by have := f.eq; grind⟩
  exact dvd_of_cop h (by rw [Nat.gcd_comm]; exact f.cop)
theorem natAbs_le_of_dvd {a b : Int} (h : a ∣ b) (hb : b ≠ 0) : a.natAbs ≤ b.natAbs := Nat.le_of_dvd (by omega) (Int.natAbs_dvd_natAbs.mpr h)
theorem Fq.den_le {n d a b : Int} (f : Fq n d a b) (hd : d ≠ 0) : b.natAbs ≤ d.natAbs := natAbs_le_of_dvd f.den_dvd hd
theorem Fq.num_le {n d a b : Int} (f : Fq n d a b) (hd : d ≠ 0) : a.natAbs ≤ n.natAbs := by
  by_cases hn : n = 0
  · have e := f.eq
    rw [hn, Int.zero_mul] at e
    rcases Int.mul_eq_zero.mp e with e | e
    · rw [e]; exact Nat.zero_le _
    · exact absurd e hd
  · exact natAbs_le_of_dvd f.num_dvd hn
theorem Fq.uniq {n d a b a' b' : Int} (f : Fq n d a b) (f' : Fq n d a' b') (hd : d ≠ 0) : a = a' ∧ b = b' := by
  have h1 := f.eq
  have h2 := f'.eq
  have e : a * b' = a' * b := by
    have : (a * b') * d = (a' * b) * d := by grind
    exact Int.eq_of_mul_eq_mul_right hd this
  have p := f.pos
  have p' := f'.pos
  have d1 : b ∣ b' := dvd_of_cop (a := a) ⟨a', by grind⟩ f.cop
  have d2 : b' ∣ b := dvd_of_cop (a := a') ⟨a, by grind⟩ f'.cop
  have e2 : b = b' := by
    have x1 := natAbs_le_of_dvd d1 (by omega)
    have x2 := natAbs_le_of_dvd d2 (by omega)
    omega
  subst e2
  exact ⟨Int.eq_of_mul_eq_mul_right (by omega) e, rfl⟩
/-- the same number by another pair -/
theorem Fq.conv {n d a b n' d' : Int} (f : Fq n d a b) (hd : d ≠ 0) (h : n * d' = n' * d) : Fq n' d' a b := by
  refine ⟨?_, f.pos, f.cop⟩
  have e := f.eq
  have : (a * d') * d = (n' * b) * d := by grind
  exact Int.eq_of_mul_eq_mul_right hd this
theorem Fq.self {a b : Int} (p : 0 < b) (c : Nat.gcd a.natAbs b.natAbs = 1) : Fq a b a b := ⟨rfl, p, c⟩
/-- what __init__ stores -/
theorem fq_init {n d c : Int} (hd : d ≠ 0) (hc : c = if d < 0 then -((Nat.gcd n.natAbs d.natAbs : Nat) : Int) else ((Nat.gcd n.natAbs d.natAbs : Nat) : Int)) : c ≠ 0 ∧ c.natAbs ≤ d.natAbs ∧ Fq n d (n.fdiv c) (d.fdiv c) := by
  have gp : 0 < Nat.gcd n.natAbs d.natAbs := Nat.gcd_pos_of_pos_right _ (by omega)
  have g1 : c.natAbs = Nat.gcd n.natAbs d.natAbs := by rw [hc]; split <;> omega
  have c0 : c ≠ 0 := by omega
  have cn : c ∣ n := Int.natAbs_dvd_natAbs.mp (by rw [g1]; exact Nat.gcd_dvd_left _ _)
  have cd : c ∣ d := Int.natAbs_dvd_natAbs.mp (by rw [g1]; exact Nat.gcd_dvd_right _ _)
  obtain ⟨n', hn⟩ := cn
  obtain ⟨d', hd'⟩ := cd
  have e1 : n.fdiv c = n' := by rw [hn, Int.mul_fdiv_cancel_left _ c0]
  have e2 : d.fdiv c = d' := by rw [hd', Int.mul_fdiv_cancel_left _ c0]
  refine ⟨c0, natAbs_le_of_dvd ⟨d', hd'⟩ hd, ?_⟩
  rw [e1, e2]
  refine ⟨by grind, ?_, ?_⟩
  · refine Decidable.byContradiction fun hn => ?_
    have hn : d' ≤ 0 := by omega
    by_cases h : d < 0
    · have hc' : c < 0 := by rw [hc, if_pos h]; omega
      have z := Int.mul_nonneg (show 0 ≤ -c by omega) (show 0 ≤ -d' by omega)
      rw [Int.neg_mul_neg] at z
      omega
    · have hc' : 0 < c := by rw [hc, if_neg h]; omega
      have z := Int.mul_nonneg (show 0 ≤ c by omega) (show 0 ≤ -d' by omega)
      rw [Int.mul_neg] at z
      omega
  · have z := Nat.gcd_mul_left c.natAbs n'.natAbs d'.natAbs
    rw [← Int.natAbs_mul, ← Int.natAbs_mul, ← hn, ← hd', ← g1] at z
    have : 0 < c.natAbs := by omega
    exact Nat.eq_of_mul_eq_mul_left this (by omega)

abbrev Cop (a b : Int) : Prop := Nat.gcd a.natAbs b.natAbs = 1
theorem Cop.dvd {a b d : Int} (h : Cop a b) (h1 : d ∣ a) (h2 : d ∣ b) : d ∣ 1 := by
  have z := Nat.dvd_gcd (Int.natAbs_dvd_natAbs.mpr h1) (Int.natAbs_dvd_natAbs.mpr h2)
  have z2 : d.natAbs ∣ (1 : Int).natAbs := by rw [h] at z; exact z
  exact Int.natAbs_dvd_natAbs.mp z2
theorem cop_of {a b : Int} (h : ∀ d : Int, d ∣ a → d ∣ b → d ∣ 1) : Cop a b := by
  have z := h ((Nat.gcd a.natAbs b.natAbs : Nat) : Int) (Int.natAbs_dvd_natAbs.mp (by rw [Int.natAbs_natCast]; exact Nat.gcd_dvd_left _ _)) (Int.natAbs_dvd_natAbs.mp (by rw [Int.natAbs_natCast]; exact Nat.gcd_dvd_right _ _))
  have z2 := Int.natAbs_dvd_natAbs.mpr z
  rw [Int.natAbs_natCast] at z2
  exact Nat.eq_one_of_dvd_one z2
theorem Cop.symm {a b : Int} (h : Cop a b) : Cop b a := by unfold Cop; rw [Nat.gcd_comm]; exact h
theorem Cop.left {a a' b : Int} (h : Cop a b) (d : a' ∣ a) : Cop a' b := cop_of fun x h1 h2 => h.dvd (Int.dvd_trans h1 d) h2
theorem Cop.right {a b b' : Int} (h : Cop a b) (d : b' ∣ b) : Cop a b' := cop_of fun x h1 h2 => h.dvd h1 (Int.dvd_trans h2 d)
theorem Cop.mul {a b c : Int} (h1 : Cop a b) (h2 : Cop a c) : Cop a (b * c) := cop_of fun x k1 k2 => by
  have k3 : x ∣ c := dvd_of_cop (a := b) k2 (cop_of fun y y1 y2 => h1.dvd (Int.dvd_trans y2 k1) y1)
  exact h2.dvd k1 k3
theorem Cop.mull {a b c : Int} (h1 : Cop a c) (h2 : Cop b c) : Cop (a * b) c := (h1.symm.mul h2.symm).symm
theorem cop_one {a : Int} : Cop a 1 := cop_of fun _ _ h => h
/-- two numbers by their greatest common divisor -/
theorem gcd_parts {n d : Int} (h : n ≠ 0 ∨ d ≠ 0) : ∃ (g x y : Int), g = ((Nat.gcd n.natAbs d.natAbs : Nat) : Int) ∧ 0 < g ∧ n = g * x ∧ d = g * y ∧ Cop x y ∧ n / g = x ∧ d / g = y := by
  have gp : 0 < Nat.gcd n.natAbs d.natAbs := by
    rcases h with h | h
    · exact Nat.gcd_pos_of_pos_left _ (by omega)
    · exact Nat.gcd_pos_of_pos_right _ (by omega)
  obtain ⟨x, hx⟩ : ((Nat.gcd n.natAbs d.natAbs : Nat) : Int) ∣ n := Int.natAbs_dvd_natAbs.mp (by rw [Int.natAbs_natCast]; exact Nat.gcd_dvd_left _ _)
  obtain ⟨y, hy⟩ : ((Nat.gcd n.natAbs d.natAbs : Nat) : Int) ∣ d := Int.natAbs_dvd_natAbs.mp (by rw [Int.natAbs_natCast]; exact Nat.gcd_dvd_right _ _)
  generalize hg : ((Nat.gcd n.natAbs d.natAbs : Nat) : Int) = g at hx hy
  have g0 : 0 < g := by omega
  refine ⟨g, x, y, rfl, g0, hx, hy, ?_, ?_, ?_⟩
  · have z := Nat.gcd_mul_left g.natAbs x.natAbs y.natAbs
    rw [← Int.natAbs_mul, ← Int.natAbs_mul, ← hx, ← hy] at z
    have g1 : g.natAbs = Nat.gcd n.natAbs d.natAbs := by rw [← hg, Int.natAbs_natCast]
    rw [← g1] at z
    have : 0 < g.natAbs := by omega
    exact Nat.eq_of_mul_eq_mul_left this (by omega)
  · rw [hx, Int.mul_ediv_cancel_left _ (by omega)]
  · rw [hy, Int.mul_ediv_cancel_left _ (by omega)]
/-- the sum as the program reckons it -/
theorem fq_add {a1 b1 a2 b2 g sc num sh : Int} (p1 : 0 < b1) (p2 : 0 < b2) (c1 : Cop a1 b1) (c2 : Cop a2 b2) (hg : g = ((Nat.gcd b1.natAbs b2.natAbs : Nat) : Int)) (hs : sc = b2 / g) (hn : num = a1 * sc + a2 * (b1 / g))
    (hh : sh = ((Nat.gcd num.natAbs g.natAbs : Nat) : Int)) : 0 < g ∧ 0 < sh ∧ Fq (a1 * b2 + a2 * b1) (b1 * b2) (num / sh) (b1 / sh * sc) := by
  obtain ⟨g', x, y, e1, g0, ex, ey, cxy, dx, dy⟩ := gcd_parts (n := b1) (d := b2) (.inl (by omega))
  rw [← hg] at e1
  subst e1
  rw [dx] at hn
  rw [dy] at hs
  subst hs
  obtain ⟨s', m, t, e2, s0, em, et, cmt, dm, dt⟩ := gcd_parts (n := num) (d := g') (.inr (by omega))
  rw [← hh] at e2
  subst e2
  have ebs : b1 / s' = t * x := by
    have e : b1 = s' * (t * x) := by rw [ex, et]; grind
    rw [e, Int.mul_ediv_cancel_left _ (by omega)]
  refine ⟨g0, s0, ?_⟩
  rw [dm, ebs]
  have x0 : 0 < x := Decidable.byContradiction fun h => by
    have z := Int.mul_nonneg (show 0 ≤ g' by omega) (show 0 ≤ -x by omega)
    rw [Int.mul_neg] at z
    omega
  have y0 : 0 < sc := Decidable.byContradiction fun h => by
    have z := Int.mul_nonneg (show 0 ≤ g' by omega) (show 0 ≤ -sc by omega)
    rw [Int.mul_neg] at z
    omega
  have t0 : 0 < t := Decidable.byContradiction fun h => by
    have z := Int.mul_nonneg (show 0 ≤ s' by omega) (show 0 ≤ -t by omega)
    rw [Int.mul_neg] at z
    omega
  refine ⟨by grind, Int.mul_pos (Int.mul_pos t0 x0) y0, ?_⟩
  have nx : Cop num x := cop_of fun d k1 k2 => by
    have k3 : d ∣ a1 * sc := by
      have : a1 * sc = num - a2 * x := by rw [hn]; omega
      rw [this]
      exact Int.dvd_sub k1 (Int.dvd_mul_of_dvd_right k2)
    have k4 : d ∣ sc := dvd_of_cop (a := a1) k3 ((c1.right ⟨g', by rw [ex]; grind⟩ : Cop a1 x).right k2)
    exact cxy.dvd k2 k4
  have ny : Cop num sc := cop_of fun d k1 k2 => by
    have k3 : d ∣ a2 * x := by
      have : a2 * x = num - a1 * sc := by rw [hn]; omega
      rw [this]
      exact Int.dvd_sub k1 (Int.dvd_mul_of_dvd_right k2)
    have k4 : d ∣ x := dvd_of_cop (a := a2) k3 ((c2.right ⟨g', by rw [ey]; grind⟩ : Cop a2 sc).right k2)
    exact cxy.dvd k4 k2
  have md : m ∣ num := ⟨s', by rw [em]; grind⟩
  exact (cmt.mul (nx.left md)).mul (ny.left md)
/-- the product as the program reckons it -/
theorem fq_mul {a1 b1 a2 b2 l r : Int} (p1 : 0 < b1) (p2 : 0 < b2) (c1 : Cop a1 b1) (c2 : Cop a2 b2) (hl : l = ((Nat.gcd a1.natAbs b2.natAbs : Nat) : Int)) (hr : r = ((Nat.gcd a2.natAbs b1.natAbs : Nat) : Int)) :
    0 < l ∧ 0 < r ∧ Fq (a1 * a2) (b1 * b2) (a1 / l * (a2 / r)) (b1 / r * (b2 / l)) := by
  obtain ⟨l', x, y, e1, l0, ex, ey, cxy, dx, dy⟩ := gcd_parts (n := a1) (d := b2) (.inr (by omega))
  rw [← hl] at e1
  subst e1
  obtain ⟨r', z, w, e2, r0, ez, ew, czw, dz, dw⟩ := gcd_parts (n := a2) (d := b1) (.inr (by omega))
  rw [← hr] at e2
  subst e2
  rw [dx, dy, dz, dw]
  have y0 : 0 < y := Decidable.byContradiction fun h => by
    have q := Int.mul_nonneg (show 0 ≤ l' by omega) (show 0 ≤ -y by omega)
    rw [Int.mul_neg] at q
    omega
  have w0 : 0 < w := Decidable.byContradiction fun h => by
    have q := Int.mul_nonneg (show 0 ≤ r' by omega) (show 0 ≤ -w by omega)
    rw [Int.mul_neg] at q
    omega
  refine ⟨l0, r0, by grind, Int.mul_pos w0 y0, ?_⟩
  have xw : Cop x w := (c1.left ⟨l', by rw [ex]; grind⟩).right ⟨r', by rw [ew]; grind⟩
  have zy : Cop z y := (c2.left ⟨r', by rw [ez]; grind⟩).right ⟨l', by rw [ey]; grind⟩
  exact (xw.mull czw).mul (cxy.mull zy)
theorem fq_neg {a b : Int} (p : 0 < b) (c : Cop a b) : Fq (-a) b (-a) b := ⟨rfl, p, by unfold Cop at c; rw [Int.natAbs_neg]; exact c⟩
/-- two pairs in lowest terms of the same number -/
theorem Fq.same {n d a b n' d' a' b' : Int} (f : Fq n d a b) (f' : Fq n' d' a' b') (hd : d ≠ 0) (hd' : d' ≠ 0) (h : n * d' = n' * d) : a = a' ∧ b = b' :=
  (f.conv hd h).uniq f' hd'
theorem Fq.back {n d a b n' d' a' b' : Int} (f : Fq n d a b) (f' : Fq n' d' a' b') (h : a = a' ∧ b = b') : n * d' = n' * d := by
  obtain ⟨rfl, rfl⟩ := h
  have e1 := f.eq
  have e2 := f'.eq
  have p := f.pos
  have : (n * d') * b = (n' * d) * b := by grind
  exact Int.eq_of_mul_eq_mul_right (by omega) this
theorem Fq.zero_iff {n d a b : Int} (f : Fq n d a b) (hd : d ≠ 0) : a = 0 ↔ n = 0 := by
  have e := f.eq
  have p := f.pos
  constructor
  · rintro rfl
    rw [Int.zero_mul] at e
    rcases Int.mul_eq_zero.mp e.symm with z | z
    · exact z
    · omega
  · rintro rfl
    rw [Int.zero_mul] at e
    rcases Int.mul_eq_zero.mp e with z | z
    · exact z
    · exact absurd z hd
theorem pos_of_mul {a b : Int} (h : 0 < a * b) (hb : 0 < b) : 0 < a := Decidable.byContradiction fun c => by
  have z := Int.mul_nonneg (show 0 ≤ -a by omega) (show 0 ≤ b by omega)
  rw [Int.neg_mul] at z
  omega
theorem nonneg_of_mul {a b : Int} (h : 0 ≤ a * b) (hb : 0 < b) : 0 ≤ a := Decidable.byContradiction fun c => by
  have z := Int.mul_pos (show 0 < -a by omega) hb
  rw [Int.neg_mul] at z
  omega
theorem Fq.pos_iff {n d a b : Int} (f : Fq n d a b) (hd : 0 < d) : 0 < a ↔ 0 < n := by
  have e := f.eq
  have p := f.pos
  constructor
  · intro h
    exact pos_of_mul (by rw [← e]; exact Int.mul_pos h hd) p
  · intro h
    exact pos_of_mul (by rw [e]; exact Int.mul_pos h p) hd
/-- the floor, by the pair that was given -/
theorem Fq.low {n d a b : Int} (f : Fq n d a b) (hd : 0 < d) : a / b * d ≤ n ∧ n < (a / b + 1) * d := by
  have e := f.eq
  have p := f.pos
  have h1 := Int.ediv_mul_le a (show b ≠ 0 by omega)
  have h2 := Int.lt_ediv_add_one_mul_self a p
  generalize a / b = q at h1 h2 ⊢
  constructor
  · have z := nonneg_of_mul (a := n - q * d) (b := b) (by
      have z := Int.mul_nonneg (show 0 ≤ a - q * b by omega) (show 0 ≤ d by omega)
      have e2 : (n - q * d) * b = (a - q * b) * d := by grind
      omega) p
    omega
  · have z := pos_of_mul (a := (q + 1) * d - n) (b := b) (by
      have z := Int.mul_pos (show 0 < (q + 1) * b - a by omega) hd
      have e2 : ((q + 1) * d - n) * b = ((q + 1) * b - a) * d := by grind
      omega) p
    omega
/-- whole where the denominator is 1 -/
theorem Fq.whole_iff {n d a b : Int} (f : Fq n d a b) (hd : 0 < d) : b = 1 ↔ a / b * d = n := by
  constructor
  · rintro rfl
    rw [Int.ediv_one]
    have e := f.eq
    omega
  · intro h
    have g : Fq n d (a / b) 1 := ⟨by rw [h, Int.mul_one], by decide, cop_one⟩
    exact (f.uniq g (by omega)).2
theorem Cop.powl {a b : Int} (h : Cop a b) (n : Nat) : Cop (a ^ n) b := by
  induction n with
  | zero => rw [Int.pow_zero]; exact cop_one.symm
  | succ n ih => rw [Int.pow_succ]; exact ih.mull h
theorem Cop.pow {a b : Int} (h : Cop a b) (n : Nat) : Cop (a ^ n) (b ^ n) := ((h.powl n).symm.powl n).symm
theorem fq_pow {a b : Int} (p : 0 < b) (c : Cop a b) (n : Nat) : Fq (a ^ n) (b ^ n) (a ^ n) (b ^ n) := ⟨rfl, Int.pow_pos p, c.pow n⟩
theorem mul_pow_int (a b : Int) (n : Nat) : (a * b) ^ n = a ^ n * b ^ n := by
  induction n with
  | zero => rw [Int.pow_zero, Int.pow_zero, Int.pow_zero, Int.mul_one]
  | succ n ih => rw [Int.pow_succ, Int.pow_succ, Int.pow_succ, ih]; grind
/-- the same power of an equal pair -/
theorem Fq.pow {n d a b n' d' : Int} (f : Fq n d a b) (hd : d ≠ 0) (e : Nat) (h1 : n' = n ^ e) (h2 : d' = d ^ e) : Fq n' d' (a ^ e) (b ^ e) := by
  subst h1 h2
  refine ⟨?_, Int.pow_pos f.pos, Cop.pow f.cop e⟩
  rw [← mul_pow_int, ← mul_pow_int, f.eq]
theorem pow_ne {a : Int} (h : a ≠ 0) (n : Nat) : a ^ n ≠ 0 := by
  induction n with
  | zero => rw [Int.pow_zero]; decide
  | succ n ih => rw [Int.pow_succ]; exact Int.mul_ne_zero ih h
/-- the sum of two numbers, by other pairs of theirs -/
theorem Fq.add {a b n1 d1 x y n2 d2 n d : Int} (f1 : Fq a b n1 d1) (f2 : Fq x y n2 d2) (f : Fq (n1 * d2 + n2 * d1) (d1 * d2) n d) : Fq (a * y + x * b) (b * y) n d := by
  have p1 := f1.pos
  have p2 := f2.pos
  have e1 := f1.eq
  have e2 := f2.eq
  refine f.conv (Int.mul_ne_zero (by omega) (by omega)) ?_
  grind
theorem Fq.mul {a b n1 d1 x y n2 d2 n d : Int} (f1 : Fq a b n1 d1) (f2 : Fq x y n2 d2) (f : Fq (n1 * n2) (d1 * d2) n d) : Fq (a * x) (b * y) n d := by
  have p1 := f1.pos
  have p2 := f2.pos
  have e1 := f1.eq
  have e2 := f2.eq
  refine f.conv (Int.mul_ne_zero (by omega) (by omega)) ?_
  grind
end CB

namespace CB
open PySem PySem.Spec PyProof.Rows L2
def rComb : List V → Hp → VK → Prop := fun vs H Q => ∃ a b : Int, vs = [.int a, .int b] ∧ 0 ≤ a ∧ 0 ≤ b ∧ a < 2 ^ 64 ∧ (b ≤ 9000 ∨ a ≤ 18000) ∧ Q (.int (PySem.W.mcComb a b)) H
theorem cr_comb {X : Cx} : CallR X (.builtin "math.comb") rComb := by
  intro pins s σ H vs us Q I r h
  obtain ⟨a, b, rfl, h1, h2, h3, h4, q⟩ := h
  obtain ⟨t, u, rfl⟩ := Vals.int2 r
  exact PySem.W.mc_comb h1 h2 h3 h4 fun _ => ⟨.int _, H, I.tok _, ⟨_, rfl⟩, q⟩
def rPerm : List V → Hp → VK → Prop := fun vs H Q => ∃ a b : Int, vs = [.int a, .int b] ∧ 0 ≤ a ∧ 0 ≤ b ∧ a < 2 ^ 64 ∧ b ≤ 20000 ∧ Q (.int (PySem.W.mcPerm a b)) H
theorem cr_perm {X : Cx} : CallR X (.builtin "math.perm") rPerm := by
  intro pins s σ H vs us Q I r h
  obtain ⟨a, b, rfl, h1, h2, h3, h4, q⟩ := h
  obtain ⟨t, u, rfl⟩ := Vals.int2 r
  exact PySem.W.mc_perm h1 h2 h3 h4 fun _ => ⟨.int _, H, I.tok _, ⟨_, rfl⟩, q⟩
def rLcm : List V → Hp → VK → Prop := fun vs H Q => ∃ a b : Int, vs = [.int a, .int b] ∧ a.natAbs < 2 ^ 64 ∧ b.natAbs < 2 ^ 64 ∧ Q (.int ((Nat.lcm a.natAbs b.natAbs : Nat) : Int)) H
theorem cr_lcm {X : Cx} : CallR X (.builtin "math.lcm") rLcm := by
  intro pins s σ H vs us Q I r h
  obtain ⟨a, b, rfl, h1, h2, q⟩ := h
  obtain ⟨t, u, rfl⟩ := Vals.int2 r
  exact PySem.W.mc_lcm h1 h2 fun _ => ⟨.int _, H, I.tok _, ⟨_, rfl⟩, q⟩
/-- the triangle's entry -/
def chs : Nat → Nat → Nat
  | _, 0 => 1
  | 0, _ + 1 => 0
  | n + 1, k + 1 => chs n k + chs n (k + 1)
def fac : Nat → Nat
  | 0 => 1
  | n + 1 => (n + 1) * fac n
theorem fac_pos (n : Nat) : 0 < fac n := by
  induction n with
  | zero => decide
  | succ n ih => exact Nat.mul_pos (Nat.succ_pos n) ih
theorem chs_above : ∀ {n k : Nat}, n < k → chs n k = 0
  | _, 0, h => absurd h (Nat.not_lt_zero _)
  | 0, k + 1, _ => by simp [chs]
  | n + 1, k + 1, h => by rw [chs, chs_above (by omega), chs_above (by omega)]
theorem chs_zero (n : Nat) : chs n 0 = 1 := by cases n <;> rfl
theorem chs_self : ∀ n : Nat, chs n n = 1
  | 0 => rfl
  | n + 1 => by rw [chs, chs_self n, chs_above (Nat.lt_succ_self n)]
theorem chs_fac : ∀ {n k : Nat}, k ≤ n → chs n k * (fac k * fac (n - k)) = fac n
  | n, 0, _ => by rw [chs_zero]; simp [fac]
  | n + 1, k + 1, h => by
    have h1 := chs_fac (n := n) (k := k) (by omega)
    rw [chs, fac, show n + 1 - (k + 1) = n - k by omega]
    by_cases e : k = n
    · subst e
      rw [chs_above (Nat.lt_succ_self k), chs_self, Nat.sub_self]
      simp [fac]
    · have h2 := chs_fac (n := n) (k := k + 1) (by omega)
      have e2 : fac (n - k) = (n - k) * fac (n - (k + 1)) := by
        have : n - k = (n - (k + 1)) + 1 := by omega
        rw [this]
        rfl
      obtain ⟨d, hd⟩ : ∃ d, n - k = d := ⟨_, rfl⟩
      have e3 : n = k + d := by omega
      rw [e2] at h1 ⊢
      rw [fac] at h2
      rw [show fac (n + 1) = (n + 1) * fac n from rfl]
      rw [hd] at h1 ⊢
      generalize fac (n - (k + 1)) = x at *
      generalize fac k = y at *
      generalize chs n k = u at *
      generalize chs n (k + 1) = v at *
      generalize fac n = z at *
      subst e3
      grind
theorem chs_symm {n k : Nat} (h : k ≤ n) : chs n (n - k) = chs n k := by
  have h1 := chs_fac h
  have h2 := chs_fac (n := n) (k := n - k) (by omega)
  rw [show n - (n - k) = k by omega] at h2
  have p := Nat.mul_pos (fac_pos k) (fac_pos (n - k))
  refine Nat.eq_of_mul_eq_mul_right p ?_
  rw [h1, ← h2]
  grind
open PySem.W in
theorem fp_fac (n : Nat) : ∀ k : Nat, k ≤ n → PySem.Builtin.Math.fallingProduct (n : Int) k * (fac (n - k) : Int) = (fac n : Int)
  | 0, _ => by rw [mc_fp_zero]; simp
  | k + 1, h => by
    have ih := fp_fac n k (by omega)
    rw [mc_fp_succ]
    have e : fac (n - k) = (n - k) * fac (n - (k + 1)) := by
      have : n - k = (n - (k + 1)) + 1 := by omega
      rw [this]
      rfl
    rw [e] at ih
    rw [← ih, Int.natCast_mul]
    have : ((n - k : Nat) : Int) = (n : Int) - (k : Int) := by omega
    rw [this]
    grind
theorem fp_chs {n k : Nat} (h : k ≤ n) : PySem.Builtin.Math.fallingProduct (n : Int) k = (chs n k : Int) * (fac k : Int) := by
  have h1 := fp_fac n k h
  have h2 := chs_fac h
  have p := fac_pos (n - k)
  refine Int.eq_of_mul_eq_mul_right (a := (fac (n - k) : Int)) (by omega) ?_
  rw [h1, ← h2, Int.natCast_mul, Int.natCast_mul]
  grind
theorem fp_self (k : Nat) : PySem.Builtin.Math.fallingProduct (k : Int) k = (fac k : Int) := by
  rw [fp_chs (Nat.le_refl k), chs_self]
  simp
theorem comb_chs (n k : Nat) : PySem.W.mcComb (n : Int) (k : Int) = (chs n k : Int) := by
  by_cases h : k ≤ n
  · have one : ∀ m : Nat, m ≤ n → PySem.Builtin.Math.fallingProduct (n : Int) m / PySem.Builtin.Math.fallingProduct (m : Int) m = (chs n m : Int) := fun m hm => by
      rw [fp_chs hm, fp_self]
      exact Int.mul_ediv_cancel _ (by have := fac_pos m; omega)
    by_cases c : k ≤ n - k
    · rw [PySem.W.mcComb_at (by omega) (by omega) (m := (k : Int)) (by omega), Int.toNat_natCast]
      exact one k h
    · rw [PySem.W.mcComb_at (by omega) (by omega) (m := ((n - k : Nat) : Int)) (by omega), Int.toNat_natCast, one (n - k) (by omega), chs_symm h]
  · rw [PySem.W.mcComb_above (by omega), chs_above (by omega)]
    rfl
theorem perm_fac (n : Nat) : PySem.W.mcPerm (n : Int) (n : Int) = (fac n : Int) := by
  rw [PySem.W.mcPerm_at (by omega), Int.toNat_natCast, fp_self]
theorem chs_le (n k : Nat) : chs n k ≤ 2 ^ n := by
  induction n generalizing k with
  | zero => cases k <;> simp [chs]
  | succ n ih =>
    cases k with
    | zero => rw [chs_zero]; exact Nat.pos_of_ne_zero (by simp)
    | succ k =>
      rw [chs, Nat.pow_succ]
      have h1 := ih k
      have h2 := ih (k + 1)
      omega
theorem fac_le (n : Nat) : n ≤ 256 → fac n ≤ 2 ^ (8 * n) := by
  induction n with
  | zero => intro _; decide
  | succ n ih =>
    intro h
    have h1 := ih (by omega)
    have h2 := Nat.mul_le_mul (show n + 1 ≤ 2 ^ 8 by simpa using h) h1
    rw [← Nat.pow_add] at h2
    rw [fac, show 8 * (n + 1) = 8 + 8 * n by omega]
    exact h2
end CB

namespace CB.Z
open PySem
abbrev TZ : String := "itertools.zip_longest"
theorem zMro : mroOf (.type "itertools.zip_longest") = pure [.type "itertools.zip_longest", .type "object"] := by
  rw [mroOf_type]
  kernel_rfl
theorem zNew : typeLookup (.type "itertools.zip_longest") "__new__" = pure (some (.builtin "itertools.zip_longest.__new__")) := by
  rw [typeLookup_type, builtinLookup_eq_fast]
  kernel_rfl
theorem zSub : isSubtype (.type "itertools.zip_longest") (.type "itertools.zip_longest") = pure true := by
  rw [isSubtype_type]
  kernel_rfl
theorem zSlotInit : Slot "itertools.zip_longest" "__init__" "object.__init__" := by
  refine Slot.of (owner := "object") (n := "__init__") ?_ (by decide +kernel) (by decide +kernel) (by decide +kernel) (.inl (by decide +kernel)) ?_
  · rw [typeLookup_type, builtinLookup_eq_fast]
    kernel_rfl
  · rw [isSubtype_type]
    kernel_rfl
theorem zSlotNext : Slot "itertools.zip_longest" "__next__" "itertools.zip_longest.__next__" := by
  refine Slot.of (owner := "itertools.zip_longest") (n := "__next__") ?_ (by decide +kernel) (by decide +kernel) (by decide +kernel) (by first | exact .inr (by decide +kernel) | exact .inl (by decide +kernel)) zSub
  rw [typeLookup_type, builtinLookup_eq_fast]
  kernel_rfl
theorem zSlotIter : Slot "itertools.zip_longest" "__iter__" "itertools.zip_longest.__iter__" := by
  refine Slot.of (owner := "itertools.zip_longest") (n := "__iter__") ?_ (by decide +kernel) (by decide +kernel) (by decide +kernel) (by first | exact .inr (by decide +kernel) | exact .inl (by decide +kernel)) zSub
  rw [typeLookup_type, builtinLookup_eq_fast]
  kernel_rfl
theorem zCalled : TypeCalled "itertools.zip_longest" "itertools.zip_longest.__new__" "object.__init__" :=
  ⟨by decide +kernel, by decide +kernel, ⟨_, _, zMro⟩, madeBy_type zMro zNew (by decide +kernel), by decide +kernel, zSub, zSlotInit⟩
theorem zTypeCall (a b c : Value) : checkTypeCall "itertools.zip_longest" ⟨[a, b], [(Str.ofString "fillvalue", c)]⟩ = pure () := by kernel_rfl
theorem zNewCall (a b c : Value) : checkBuiltinCall "itertools.zip_longest.__new__" ⟨[.type "itertools.zip_longest", a, b], [(Str.ofString "fillvalue", c)]⟩ = pure () := by kernel_rfl
theorem zInitArgs (o a b c : Value) : argsOk "object.__init__" ⟨[o, a, b], [(Str.ofString "fillvalue", c)]⟩ := by
  unfold argsOk
  kernel_rfl
theorem zEntryNew : entryFor table "itertools.zip_longest.__new__" = some Builtin.«itertools.zip_longest.__new__» := entryFor_of_tree (by kernel_rfl)
theorem zEntryNext : entryFor table "itertools.zip_longest.__next__" = some Builtin.«itertools.zip_longest.__next__» := entryFor_of_tree (by kernel_rfl)
theorem zArgsNext (a : Value) : argsOk "itertools.zip_longest.__next__" ⟨[a], []⟩ := by
  unfold argsOk
  kernel_rfl
theorem zArgsIter (a : Value) : argsOk "itertools.zip_longest.__iter__" ⟨[a], []⟩ := by
  unfold argsOk
  kernel_rfl
/-! ### it is made -/
abbrev ItO (l : Addr) : Obj := { cls := .type "list_iterator", data := .fields #[.ref l, .int 0 0] }
abbrev TuO (a b : Value) : Obj := { cls := .type "tuple", data := .seq #[a, b] }
abbrev ZlO (f0 fill : Value) (run : Int) (TI TO : Addr) : Obj := { cls := .type "itertools.zip_longest", dict := none, data := .fields #[f0, .bool false, fill, rawInt run, .ref TI, .ref TO], slots := #[] }
abbrev zA (h : Heap) (l1 : Addr) : Heap := h.push (ItO l1)
abbrev zB (h : Heap) (l1 l2 : Addr) : Heap := (zA h l1).push (ItO l2)
abbrev zC (h : Heap) (l1 l2 : Addr) : Heap := (zB h l1 l2).push (TuO (.ref h.objs.size) (.ref (zA h l1).objs.size))
abbrev zD (h : Heap) (l1 l2 : Addr) : Heap := (zC h l1 l2).push (TuO .none .none)
abbrev zH (h : Heap) (l1 l2 : Addr) (c : Value) : Heap := (zD h l1 l2).push (ZlO .none c 2 (zB h l1 l2).objs.size (zC h l1 l2).objs.size)
set_option maxHeartbeats 8000000 in
theorem zMeetsNew (l1 l2 : Addr) (xs ys : Array Value) (c : Value) :
    Meets (Builtin.«itertools.zip_longest.__new__» ⟨[.type "itertools.zip_longest", .ref l1, .ref l2], [(Str.ofString "fillvalue", c)]⟩) (fun _ R s => s.heap.IsList l1 xs ∧ s.heap.IsList l2 ys ∧
      R (.ok (.ret (.ref (zD s.heap l1 l2).objs.size))) { s with heap := zH s.heap l1 l2 c }) :=
  .of_wp fun prog w A R s h => by
    obtain ⟨hp, g, d, tk, os⟩ := s
    obtain ⟨hl1, hl2, h⟩ := h
    have hsub : isSubtype (.type "itertools.zip_longest") (.type ("itertools." ++ "zip_longest")) = pure true := by
      rw [show "itertools." ++ "zip_longest" = "itertools.zip_longest" by decide]
      exact zSub
    have q1 : Heap.IsList (Shared.heap ⟨hp, g, d, tk, os⟩) l1 xs := hl1
    have q2 : Heap.IsList (Shared.heap ⟨hp.push (ItO l1), g, d, tk, os⟩) l2 ys := Heap.IsList.push hl2 _
    have e1 : (Str.ofString "fillvalue" == ("fillvalue" : Str)) = true := by decide +kernel
    wp_walk using wpAny_pyIter_list q1, wpAny_pyIter_list q2
    exact ⟨_, rfl, h⟩
end CB.Z

namespace CB.Z
open PySem
abbrev IsZl (h : Heap) (z TI TO : Addr) (f0 c : Value) (run : Int) : Prop := h.get? z = some (ZlO f0 c run TI TO)
abbrev IsTu (h : Heap) (T : Addr) (a b : Value) : Prop := h.get? T = some (TuO a b)
section
variable {prog : Program} {w : World} {A : Around} {E : Value → Shared → Prop} {s : Shared}
theorem zPool {T : Addr} {a b : Value} {Q : Array Value → Shared → Prop} (hT : IsTu s.heap T a b) (h : Q #[a, b] s) : wpAny (model prog w) A (Builtin.Itertools.itPoolItems (.ref T)) Q E s :=
  wpAny_bind (wpAny_seqItems hT rfl (wpAny_pure h))
theorem zInt {z TI TO : Addr} {f0 c : Value} {run : Int} {Q : Int → Shared → Prop} (hz : IsZl s.heap z TI TO f0 c run) (h : Q run s) : wpAny (model prog w) A (Builtin.Itertools.itIntField (.ref z) 3) Q E s :=
  wpAny_bind (wpAny_field hz rfl (x := rawInt run) rfl (wpAny_pure h))
theorem zFree {z TI TO : Addr} {c : Value} {run : Int} {Q : Bool → Shared → Prop} (hz : IsZl s.heap z TI TO .none c run) (h : Q true s) : wpAny (model prog w) A (Builtin.Itertools.itOwnedIsFree (.ref z)) Q E s :=
  wpAny_bind (wpAny_field hz rfl (x := .none) rfl (wpAny_pure h))
theorem zSet0 {z TI TO : Addr} {f0 c : Value} {run : Int} {v : Value} {Q : Unit → Shared → Prop} (hz : IsZl s.heap z TI TO f0 c run) (h : ∀ h', IsZl h' z TI TO v c run → Heap.SameBut z s.heap h' → Q () { s with heap := h' }) :
    wpAny (model prog w) A (setField (.ref z) 0 v) Q E s :=
  wpAny_setField_rec hz (by simp) fun h' z' k' => h h' z' k'
theorem zSet3 {z TI TO : Addr} {f0 c : Value} {run r2 : Int} {Q : Unit → Shared → Prop} (hz : IsZl s.heap z TI TO f0 c run) (h : ∀ h', IsZl h' z TI TO f0 c r2 → Heap.SameBut z s.heap h' → Q () { s with heap := h' }) :
    wpAny (model prog w) A (setField (.ref z) 3 (rawInt r2)) Q E s :=
  wpAny_setField_rec hz (by simp) fun h' z' k' => h h' z' k'
theorem zOut {z TI TO T : Addr} {f0 c : Value} {run : Int} {Q : Unit → Shared → Prop} (hz : IsZl s.heap z TI TO f0 c run)
    (h : ∀ h', IsZl h' z TI TO (rawInt T) c run → Heap.ExtBut z s.heap h' → h'.objs.size = s.heap.objs.size → Q () { s with heap := h' }) : wpAny (model prog w) A (Builtin.Itertools.itOwnedHandOut (.ref z) (.ref T)) Q E s := by
  unfold Builtin.Itertools.itOwnedHandOut
  refine wpAny_bind (zSet0 hz fun h1 z1 k1 => ?_)
  refine wpAny_setField_rec z1 (by simp) fun h2 z2 k2 => ?_
  exact h h2 z2 (fun b o nb e => k2.extBut _ _ nb (k1.extBut _ _ nb e)) (by rw [k2.1, k1.1])
def Gone (h : Heap) (it : Addr) : Prop := ∃ o vs, h.get? it = some o ∧ o.data = .fields vs
theorem zEnd {it l : Addr} {i : Nat} {xs : Array Value} {Q : Option Value → Shared → Prop} (hh : A.handled = none) (hi : s.heap.IsListIter it l i) (hl : s.heap.IsList l xs) (hx : xs[i]? = none)
    (h : ∀ h', Heap.ExtBut it s.heap h' → s.heap.objs.size ≤ h'.objs.size → Gone h' it → Q none { s with heap := h' }) : wpAny (model prog w) A (pyNext (.ref it)) Q E s := by
  obtain ⟨o, ho, hc, hd⟩ := id hi
  obtain ⟨p, hp, _, n, hdl⟩ := hl
  unfold pyNext
  have slot := slot_listiter_next
  refine wpAny_bind (wpAny_attempt (wpAny_callSpecial?_slot (name := Str.ofString "__next__") hi.typeIs slot (wpAny_call_entry slot hi.typeIs entry_listiter_next ?_ (args_listiter_next _))))
  show wpAny _ _ (field (.ref it) 0 >>= _) _ _ _
  refine wpAny_bind (wpAny_field ho hd (x := .ref l) rfl (show wpAny _ _ (if (Value.ref l == Value.none) = true then _ else _) _ _ _ from ?_))
  rw [if_neg (fun z : (Value.ref l == Value.none) = true => Bool.false_ne_true z)]
  refine wpAny_bind (wpAny_field ho hd (x := .int i 0) rfl (show wpAny _ _ (seqItems? (.ref l) >>= _) _ _ _ from ?_))
  refine wpAny_bind (wpAny_seqItems hp hdl ?_)
  simp only [Int.toNat_natCast, hx]
  refine wpAny_bind (wpAny_rule (wpAny_bind (wpAny_setField ho hd (by simp) (show wpAny _ _ (newExc (.type "StopIteration") [] >>= _) _ _ _ from ?_))))
  refine wpAny_bind ?_
  simp only [newExc, newTuple]
  refine wpAny_bind (wpAny_newObj_type ?_ (by size_fits))
  refine wpAny_bind (m := firstArgMember _ _) (wpAny_of_eq (a := Value.none) (by first | rfl | (simp only [firstArgMember] <;> rfl)) ?_)
  refine wpAny_newObj_type ?_ (by size_fits)
  unfold raiseNew
  refine wpAny_bind (wpAny_handled ?_)
  have e : A.in1.handled = none := hh
  rw [e]
  refine wpAny_bind (wpAny_pure (wpAny_throw ?_))
  refine wpAny_bind ?_
  refine wpAny_isInstance (T := "StopIteration") (b := true) ⟨_, Heap.get?_push_size _ rfl, rfl⟩ isSubtype_stop ?_
  refine wpAny_pure (h _ (((Heap.SameBut.update ..).extBut.push _).push _) ?_ ⟨_, _, Heap.get?_push_of_some _ (Heap.get?_push_of_some _ (Heap.get?_update_self _ ho (Obj.isFreed_of_fields (Obj.data_mapFields hd _)))), Obj.data_mapFields hd _⟩)
  rw [Heap.size_push, Heap.size_push]
  exact Nat.le_trans (Nat.le_of_eq (Heap.SameBut.update s.heap it _).1.symm) (Nat.le_add_right _ 2)
/-- a column: its entry, live or not -/
def Col (h : Heap) (e : Value) (it l : Addr) (n i : Nat) : Prop := (e = .ref it ∧ h.IsListIter it l i ∧ i ≤ n) ∨ (e = .none ∧ n < i ∧ Gone h it)
theorem Col.ext {h h' : Heap} {e : Value} {it l : Addr} {n i : Nat} (c : Col h e it l n i) (k : ∀ o, h.get? it = some o → h'.get? it = some o) : Col h' e it l n i := by
  rcases c with ⟨e, q, le⟩ | ⟨e, lt, o, vs, g, d⟩
  · exact .inl ⟨e, q.at k, le⟩
  · exact .inr ⟨e, lt, o, vs, k _ g, d⟩
def lives (n i : Nat) : Int := if i ≤ n then 1 else 0
structure ZA (z TI TO i1 i2 l1 l2 : Addr) : Prop extends ZipApart z TI TO i1 i2 l1 l2 where
  l1TI : l1 ≠ TI
  l2TI : l2 ≠ TI
structure ZCol (h : Heap) (TI i1 i2 l1 l2 : Addr) (n1 j1 n2 j2 : Nat) : Prop where
  ex : ∃ a b, IsTu h TI a b ∧ Col h a i1 l1 n1 j1 ∧ Col h b i2 l2 n2 j2
/-- all but z, the tuples and the iterators stays -/
def Kp (z TI TO i1 i2 : Addr) (h h' : Heap) : Prop := ∀ b o, b ≠ z → b ≠ TI → b ≠ TO → b ≠ i1 → b ≠ i2 → h.get? b = some o → h'.get? b = some o
theorem zItem {z TI TO i1 i2 l1 l2 : Addr} {c : Value} {i : Nat} {xs ys : Array Value} {Q : Value → Shared → Prop} (hh : A.handled = none) (D : ZA z TI TO i1 i2 l1 l2)
    (hz : IsZl s.heap z TI TO .none c (lives xs.size i + lives ys.size i)) (hc : ZCol s.heap TI i1 i2 l1 l2 xs.size i ys.size i) (hT : ∃ a b, IsTu s.heap TO a b)
    (hl1 : s.heap.IsList l1 xs) (hl2 : s.heap.IsList l2 ys) (hi : i < xs.size ∨ i < ys.size)
    (hQ : ∀ h' T, s.heap.objs.size ≤ T → IsZl h' z TI TO (rawInt T) c (lives xs.size (i + 1) + lives ys.size (i + 1)) → ZCol h' TI i1 i2 l1 l2 xs.size (i + 1) ys.size (i + 1) → (∃ a b, IsTu h' TO a b) →
      IsTu h' T (xs.getD i c) (ys.getD i c) → Kp z TI TO i1 i2 s.heap h' → Q (.ref T) { s with heap := h' }) :
    wpAny (model prog w) A (Builtin.«itertools.zip_longest.__next__» ⟨[.ref z], []⟩) (fun fin s' => ∃ v, fin = .done (.ret v) ∧ Q v s') E s := by
  obtain ⟨a0, b0, hTO⟩ := hT
  obtain ⟨⟨a, b, hTI, ca, cb⟩⟩ := hc
  have run0 : ¬ ((lives xs.size i + lives ys.size i == 0) = true) := by
    unfold lives
    rcases hi with h | h
    · rw [if_pos (show i ≤ xs.size by omega)]
      split <;> decide
    · rw [if_pos (show i ≤ ys.size by omega)]
      split <;> decide
  show wpAny _ _ (Builtin.Itertools.itIntField (.ref z) 3 >>= _) _ _ _
  refine wpAny_bind (zInt hz ?_)
  show wpAny _ _ (if (lives xs.size i + lives ys.size i == 0) = true then _ else _) _ _ _
  rw [if_neg run0]
  show wpAny _ _ (field (.ref z) 4 >>= _) _ _ _
  refine wpAny_bind (wpAny_field hz rfl (x := .ref TI) rfl ?_)
  refine wpAny_bind (zPool hTI ?_)
  refine wpAny_bind (zFree hz ?_)
  simp only [if_true]
  refine wpAny_bind (wpAny_rule ?_)
  refine wpAny_bind (wpAny_field hz rfl (x := .ref TO) rfl ?_)
  refine wpAny_bind (zSet0 hz fun h1 hz1 k1 => ?_)
  rw [show List.range (#[a, b] : Array Value).size = [0, 1] from rfl]
  simp only [List.forIn_cons, List.forIn_nil]
  refine wpAny_bind ?_
  refine wpAny_bind ?_
  refine wpAny_bind (wpAny_mono (Q := fun r s' => r = some (xs.getD i c) ∧ ∃ h2, s' = { s with heap := h2 } ∧ IsZl h2 z TI TO .ellipsis c (lives xs.size (i + 1) + lives ys.size i) ∧ ZCol h2 TI i1 i2 l1 l2 xs.size (i + 1) ys.size i ∧ IsTu h2 TO a0 b0 ∧
    Kp z TI TO i1 i2 s.heap h2 ∧ s.heap.objs.size ≤ h2.objs.size) (E := E) (wpAny_onRaise ?d1) ?r1 (fun _ _ x => x))
  case d1 =>
    have hTI1 : IsTu h1 TI a b := k1.extBut _ _ D.TIz hTI
    have hTO1 : IsTu h1 TO a0 b0 := k1.extBut _ _ D.TOz hTO
    have sz1 : h1.objs.size = s.heap.objs.size := k1.1
    show wpAny _ _ (field (.ref z) 4 >>= _) _ _ _
    refine wpAny_bind (wpAny_field hz1 rfl (x := .ref TI) rfl ?_)
    refine wpAny_bind (zPool hTI1 ?_)
    refine wpAny_bind (wpAny_field hz1 rfl (x := c) rfl ?_)
    have cb1 : Col h1 b i2 l2 ys.size i := cb.ext fun o e => k1.extBut _ _ D.i2z e
    rcases ca with ⟨rfl, q, le⟩ | ⟨rfl, lt, gn⟩
    · show wpAny _ _ (if (Value.ref i1 == Value.none) = true then _ else _) _ _ _
      rw [if_neg (fun z : (Value.ref i1 == Value.none) = true => Bool.false_ne_true z)]
      cases hx : xs[i]? with
      | some x =>
        refine wpAny_bind (wpAny_onRaise (wpAny_pyNext_list_item (q.extBut k1.extBut D.i1z) (hl1.extBut k1.extBut D.l1z) hx fun h2 q2 k2 => wpAny_pure ?_))
        have lt : i < xs.size := by
          obtain ⟨h, _⟩ := Array.getElem?_eq_some_iff.mp hx
          exact h
        have e1 : lives xs.size (i + 1) = lives xs.size i := by unfold lives; rw [if_pos (by omega), if_pos (by omega)]
        refine ⟨by rw [Array.getD_eq_getD_getElem?, hx]; rfl, h2, rfl, by rw [e1]; exact k2.extBut _ _ D.i1z.symm hz1, ⟨_, _, k2.extBut _ _ D.TIi1 hTI1, .inl ⟨rfl, q2, lt⟩, ?_⟩, k2.extBut _ _ D.TOi1 hTO1, fun p o n1 n2 n3 n4 n5 e => k2.extBut _ _ n4 (k1.extBut _ _ n1 e), Nat.le_of_eq (sz1.symm.trans k2.1.symm)⟩
        exact cb1.ext fun o e => k2.extBut _ _ D.i12.symm e
      | none =>
        have ex : i = xs.size := by
          have := Array.getElem?_eq_none_iff.mp hx
          omega
        have iy : i < ys.size := by omega
        have e1 : lives xs.size i + lives ys.size i = 2 := by unfold lives; rw [if_pos (by omega), if_pos (by omega)]; rfl
        have e2 : lives xs.size (i + 1) + lives ys.size i = 1 := by unfold lives; rw [if_neg (by omega), if_pos (by omega)]; rfl
        rw [e1] at hz1
        rw [e2]
        refine wpAny_bind (wpAny_onRaise (zEnd hh (q.extBut k1.extBut D.i1z) (hl1.extBut k1.extBut D.l1z) hx fun h2 k2 g2 gone2 => ?_))
        have hz2 := k2 _ _ D.i1z.symm hz1
        have hTI2 : IsTu h2 TI (.ref i1) b := k2 _ _ D.TIi1 hTI1
        show wpAny _ _ (Builtin.Itertools.itPoolItems (.ref TI) >>= _) _ _ _
        refine wpAny_bind (zPool hTI2 ?_)
        show wpAny _ _ (if (Value.ref i1 == Value.none) = true then _ else _) _ _ _
        rw [if_neg (fun z : (Value.ref i1 == Value.none) = true => Bool.false_ne_true z)]
        refine wpAny_bind (zInt hz2 ?_)
        refine wpAny_bind (zSet3 hz2 fun h3 hz3 k3 => ?_)
        have hTI3 : IsTu h3 TI (.ref i1) b := k3.extBut _ _ D.TIz hTI2
        show wpAny _ _ (rule _ >>= _) _ _ _
        refine wpAny_bind (wpAny_rule ?_)
        refine wpAny_bind (wpAny_updateSeq_pair hTI3 fun h4 hTI4 k4 => ?_)
        refine wpAny_bind (wpAny_letGo (wpAny_pure ?_))
        have kp : ∀ p o, p ≠ z → p ≠ TI → p ≠ TO → p ≠ i1 → p ≠ i2 → h1.get? p = some o → h4.get? p = some o := fun p o n1 n2 n3 n4 n5 e => k4.extBut _ _ n2 (k3.extBut _ _ n1 (k2 _ _ n4 e))
        refine ⟨by rw [Array.getD_eq_getD_getElem?, hx]; rfl, h4, rfl, k4.extBut _ _ D.TIz.symm hz3, ⟨_, _, hTI4, .inr ⟨rfl, by omega, ?_⟩, ?_⟩, k4.extBut _ _ D.TITO.symm (k3.extBut _ _ D.TOz (k2 _ _ D.TOi1 hTO1)),
          fun p o n1 n2 n3 n4 n5 e => kp p o n1 n2 n3 n4 n5 (k1.extBut _ _ n1 e), ?_⟩
        · obtain ⟨o, vs, g, d⟩ := gone2
          exact ⟨o, vs, k4.extBut _ _ D.TIi1.symm (k3.extBut _ _ D.i1z g), d⟩
        · exact cb1.ext fun o e => k4.extBut _ _ D.TIi2.symm (k3.extBut _ _ D.i2z (k2 _ _ D.i12.symm e))
        · have g3 : h3.objs.size = h2.objs.size := k3.1
          have g4 : h4.objs.size = h3.objs.size := k4.1
          have g5 : h1.objs.size ≤ h2.objs.size := g2
          omega
    · show wpAny _ _ (if (Value.none == Value.none) = true then _ else _) _ _ _
      rw [if_pos (show (Value.none == Value.none) = true by rfl)]
      have e1 : lives xs.size (i + 1) = lives xs.size i := by unfold lives; rw [if_neg (by omega), if_neg (by omega)]
      refine wpAny_pure ⟨?_, h1, rfl, by rw [e1]; exact hz1, ⟨_, _, hTI1, .inr ⟨rfl, by omega, (by obtain ⟨o, vs, g, d⟩ := gn; exact ⟨o, vs, k1.extBut _ _ D.i1z g, d⟩)⟩, cb1⟩, hTO1, fun p o n1 n2 n3 n4 n5 e => k1.extBut _ _ n1 e, Nat.le_of_eq sz1.symm⟩
      rw [Array.getD_eq_getD_getElem?, Array.getElem?_eq_none_iff.mpr (by omega)]
      rfl
  rintro r _ ⟨rfl, h2, rfl, hz2, hc2, hTO2, kp2, sz2⟩
  show wpAny _ _ (Builtin.Itertools.itPoolItems (.ref TO) >>= _) _ _ _
  refine wpAny_bind (zPool hTO2 ?_)
  refine wpAny_bind (wpAny_updateSeq_pair hTO2 fun h3 hTO3 k3 => ?_)
  refine wpAny_bind (wpAny_letGo (wpAny_pure ?_))
  replace hTO3 : IsTu h3 TO (xs.getD i c) b0 := hTO3
  have hz3 := k3.extBut _ _ D.TOz.symm hz2
  obtain ⟨⟨a2, b2, hTI2, ca2, cb2⟩⟩ := hc2
  have hTI3 : IsTu h3 TI a2 b2 := k3.extBut _ _ D.TITO hTI2
  have ca3 : Col h3 a2 i1 l1 xs.size (i + 1) := ca2.ext fun o e => k3.extBut _ _ D.TOi1.symm e
  have kp3 : Kp z TI TO i1 i2 s.heap h3 := fun p o n1 n2 n3 n4 n5 e => k3.extBut _ _ n3 (kp2 p o n1 n2 n3 n4 n5 e)
  have sz3 : s.heap.objs.size ≤ h3.objs.size := Nat.le_trans sz2 (Nat.le_of_eq k3.1.symm)
  have hl23 : h3.IsList l2 ys := hl2.at fun o e => kp3 _ _ D.l2z D.l2TI D.l2TO D.l2i1 D.l2i2 e
  show wpAny _ _ (_ >>= _) _ _ _
  refine wpAny_bind ?_
  refine wpAny_bind (wpAny_mono (Q := fun r s' => r = some (ys.getD i c) ∧ ∃ h4, s' = { s with heap := h4 } ∧ IsZl h4 z TI TO .ellipsis c (lives xs.size (i + 1) + lives ys.size (i + 1)) ∧ ZCol h4 TI i1 i2 l1 l2 xs.size (i + 1) ys.size (i + 1) ∧ IsTu h4 TO (xs.getD i c) b0 ∧
    Kp z TI TO i1 i2 s.heap h4 ∧ s.heap.objs.size ≤ h4.objs.size) (E := E) (wpAny_onRaise ?d2) ?r2 (fun _ _ x => x))
  case d2 =>
    show wpAny _ _ (field (.ref z) 4 >>= _) _ _ _
    refine wpAny_bind (wpAny_field hz3 rfl (x := .ref TI) rfl ?_)
    refine wpAny_bind (zPool hTI3 ?_)
    refine wpAny_bind (wpAny_field hz3 rfl (x := c) rfl ?_)
    rcases cb2 with ⟨rfl, q, le⟩ | ⟨rfl, lt, gn⟩
    · show wpAny _ _ (if (Value.ref i2 == Value.none) = true then _ else _) _ _ _
      rw [if_neg (fun z : (Value.ref i2 == Value.none) = true => Bool.false_ne_true z)]
      cases hy : ys[i]? with
      | some y =>
        refine wpAny_bind (wpAny_onRaise (wpAny_pyNext_list_item (q.extBut k3.extBut D.TOi2.symm) hl23 hy fun h4 q4 k4 => wpAny_pure ?_))
        have lt : i < ys.size := by
          obtain ⟨h, _⟩ := Array.getElem?_eq_some_iff.mp hy
          exact h
        have e1 : lives ys.size (i + 1) = lives ys.size i := by unfold lives; rw [if_pos (by omega), if_pos (by omega)]
        refine ⟨by rw [Array.getD_eq_getD_getElem?, hy]; rfl, h4, rfl, by rw [e1]; exact k4.extBut _ _ D.i2z.symm hz3, ⟨_, _, k4.extBut _ _ D.TIi2 hTI3, ?_, .inl ⟨rfl, q4, lt⟩⟩, k4.extBut _ _ D.TOi2 hTO3, fun p o n1 n2 n3 n4 n5 e => k4.extBut _ _ n5 (kp3 p o n1 n2 n3 n4 n5 e), Nat.le_trans sz3 (Nat.le_of_eq k4.1.symm)⟩
        exact ca3.ext fun o e => k4.extBut _ _ D.i12 e
      | none =>
        have ex : i = ys.size := by
          have := Array.getElem?_eq_none_iff.mp hy
          omega
        have ix : i < xs.size := by omega
        have e1 : lives xs.size (i + 1) + lives ys.size i = 2 := by unfold lives; rw [if_pos (by omega), if_pos (by omega)]; rfl
        have e2 : lives xs.size (i + 1) + lives ys.size (i + 1) = 1 := by unfold lives; rw [if_pos (by omega), if_neg (by omega)]; rfl
        rw [e1] at hz3
        rw [e2]
        refine wpAny_bind (wpAny_onRaise (zEnd hh (q.extBut k3.extBut D.TOi2.symm) hl23 hy fun h4 k4 g4 gone4 => ?_))
        have hz4 := k4 _ _ D.i2z.symm hz3
        have hTI4 : IsTu h4 TI a2 (.ref i2) := k4 _ _ D.TIi2 hTI3
        show wpAny _ _ (Builtin.Itertools.itPoolItems (.ref TI) >>= _) _ _ _
        refine wpAny_bind (zPool hTI4 ?_)
        show wpAny _ _ (if (Value.ref i2 == Value.none) = true then _ else _) _ _ _
        rw [if_neg (fun z : (Value.ref i2 == Value.none) = true => Bool.false_ne_true z)]
        refine wpAny_bind (zInt hz4 ?_)
        refine wpAny_bind (zSet3 hz4 fun h5 hz5 k5 => ?_)
        have hTI5 : IsTu h5 TI a2 (.ref i2) := k5.extBut _ _ D.TIz hTI4
        show wpAny _ _ (rule _ >>= _) _ _ _
        refine wpAny_bind (wpAny_rule ?_)
        refine wpAny_bind (wpAny_updateSeq_pair hTI5 fun h6 hTI6 k6 => ?_)
        refine wpAny_bind (wpAny_letGo (wpAny_pure ?_))
        refine ⟨by rw [Array.getD_eq_getD_getElem?, hy]; rfl, h6, rfl, k6.extBut _ _ D.TIz.symm hz5, ⟨_, _, hTI6, ?_, .inr ⟨rfl, by omega, ?_⟩⟩, k6.extBut _ _ D.TITO.symm (k5.extBut _ _ D.TOz (k4 _ _ D.TOi2 hTO3)),
          fun p o n1 n2 n3 n4 n5 e => k6.extBut _ _ n2 (k5.extBut _ _ n1 (k4 _ _ n5 (kp3 p o n1 n2 n3 n4 n5 e))), ?_⟩
        · exact ca3.ext fun o e => k6.extBut _ _ D.TIi1.symm (k5.extBut _ _ D.i1z (k4 _ _ D.i12 e))
        · obtain ⟨o, vs, g, d⟩ := gone4
          exact ⟨o, vs, k6.extBut _ _ D.TIi2.symm (k5.extBut _ _ D.i2z g), d⟩
        · have g5 : h5.objs.size = h4.objs.size := k5.1
          have g6 : h6.objs.size = h5.objs.size := k6.1
          have g7 : h3.objs.size ≤ h4.objs.size := g4
          omega
    · show wpAny _ _ (if (Value.none == Value.none) = true then _ else _) _ _ _
      rw [if_pos (show (Value.none == Value.none) = true by rfl)]
      have e1 : lives ys.size (i + 1) = lives ys.size i := by unfold lives; rw [if_neg (by omega), if_neg (by omega)]
      refine wpAny_pure ⟨?_, h3, rfl, by rw [e1]; exact hz3, ⟨_, _, hTI3, ca3, .inr ⟨rfl, by omega, (by obtain ⟨o, vs, g, d⟩ := gn; exact ⟨o, vs, k3.extBut _ _ D.TOi2.symm g, d⟩)⟩⟩, hTO3, kp3, sz3⟩
      rw [Array.getD_eq_getD_getElem?, Array.getElem?_eq_none_iff.mpr (by omega)]
      rfl
  rintro r _ ⟨rfl, h4, rfl, hz4, hc4, hTO4, kp4, sz4⟩
  show wpAny _ _ (Builtin.Itertools.itPoolItems (.ref TO) >>= _) _ _ _
  refine wpAny_bind (zPool hTO4 ?_)
  refine wpAny_bind (wpAny_updateSeq_pair hTO4 fun h5 hTO5 k5 => ?_)
  refine wpAny_bind (wpAny_letGo (wpAny_pure (wpAny_pure ?_)))
  replace hTO5 : IsTu h5 TO (xs.getD i c) (ys.getD i c) := hTO5
  have hz5 := k5.extBut _ _ D.TOz.symm hz4
  refine wpAny_bind (zPool hTO5 ?_)
  refine wpAny_bind (wpAny_newTuple ?_)
  have hz6 : IsZl (h5.push (TuO (xs.getD i c) (ys.getD i c))) z TI TO .ellipsis c (lives xs.size (i + 1) + lives ys.size (i + 1)) := Heap.get?_push_of_some _ hz5
  refine wpAny_bind (zOut (T := h5.objs.size) hz6 fun h7 hz7 k7 g7 => ?_)
  have kz : h5.objs.size ≠ z := Nat.ne_of_gt (Heap.lt_size hz5)
  have up : ∀ p o, p ≠ z → h5.get? p = some o → h7.get? p = some o := fun p o n e => k7 _ _ n (Heap.get?_push_of_some _ e)
  refine wpAny_pure ⟨_, rfl, hQ h7 h5.objs.size (Nat.le_trans sz4 (Nat.le_of_eq k5.1.symm)) hz7 ?_ ⟨_, _, up _ _ D.TOz hTO5⟩ (k7 _ _ kz (Heap.get?_push_size _ rfl)) fun p o n1 n2 n3 n4 n5 e => up _ _ n1 (k5.extBut _ _ n3 (kp4 p o n1 n2 n3 n4 n5 e))⟩
  obtain ⟨⟨a4, b4, hTI5, ca4, cb4⟩⟩ := hc4
  refine ⟨_, _, up _ _ D.TIz (k5.extBut _ _ D.TITO hTI5), ?_, ?_⟩
  · exact ca4.ext fun o e => up _ _ D.i1z (k5.extBut _ _ D.TOi1.symm e)
  · exact cb4.ext fun o e => up _ _ D.i2z (k5.extBut _ _ D.TOi2.symm e)
theorem zRaise {α : Type} {Q : α → Shared → Prop} (hh : A.handled = none) (h : ∀ h' e, (∀ b o, s.heap.get? b = some o → h'.get? b = some o) → (∃ o, h'.get? e = some o ∧ o.cls = .type "StopIteration") → E (.ref e) { s with heap := h' }) :
    wpAny (model prog w) A (Builtin.Itertools.itStop : Sem α) Q E s := by
  unfold Builtin.Itertools.itStop
  refine wpAny_bind ?_
  simp only [newExc, newTuple]
  refine wpAny_bind (wpAny_newObj_type ?_ (by size_fits))
  refine wpAny_bind (m := firstArgMember _ _) (wpAny_of_eq (a := Value.none) (by first | rfl | (simp only [firstArgMember] <;> rfl)) ?_)
  refine wpAny_newObj_type ?_ (by size_fits)
  unfold raiseNew
  refine wpAny_bind (wpAny_handled ?_)
  rw [hh]
  refine wpAny_bind (wpAny_pure (wpAny_throw ?_))
  exact h _ _ (fun b o e => Heap.get?_push_of_some _ (Heap.get?_push_of_some _ e)) ⟨_, Heap.get?_push_size _ rfl, rfl⟩
theorem zLast {z TI TO i1 i2 l1 l2 : Addr} {c : Value} {i : Nat} {xs ys : Array Value} {Q : Fin → Shared → Prop} (hh : A.handled = none) (D : ZA z TI TO i1 i2 l1 l2)
    (hz : IsZl s.heap z TI TO .none c (lives xs.size i + lives ys.size i)) (hc : ZCol s.heap TI i1 i2 l1 l2 xs.size i ys.size i) (hT : ∃ a b, IsTu s.heap TO a b)
    (hl1 : s.heap.IsList l1 xs) (hl2 : s.heap.IsList l2 ys) (hi : xs.size ≤ i ∧ ys.size ≤ i) (hj : i ≤ xs.size ∨ i ≤ ys.size)
    (hE : ∀ h' e, Kp z TI TO i1 i2 s.heap h' → (∃ o, h'.get? e = some o ∧ o.cls = .type "StopIteration") → E (.ref e) { s with heap := h' }) :
    wpAny (model prog w) A (Builtin.«itertools.zip_longest.__next__» ⟨[.ref z], []⟩) Q E s := by
  obtain ⟨a0, b0, hTO⟩ := hT
  obtain ⟨⟨a, b, hTI, ca, cb⟩⟩ := hc
  have run0 : ¬ ((lives xs.size i + lives ys.size i == 0) = true) := by
    unfold lives
    rcases hj with h | h
    · rw [if_pos (show i ≤ xs.size by omega)]
      split <;> decide
    · rw [if_pos (show i ≤ ys.size by omega)]
      split <;> decide
  show wpAny _ _ (Builtin.Itertools.itIntField (.ref z) 3 >>= _) _ _ _
  refine wpAny_bind (zInt hz ?_)
  show wpAny _ _ (if (lives xs.size i + lives ys.size i == 0) = true then _ else _) _ _ _
  rw [if_neg run0]
  show wpAny _ _ (field (.ref z) 4 >>= _) _ _ _
  refine wpAny_bind (wpAny_field hz rfl (x := .ref TI) rfl ?_)
  refine wpAny_bind (zPool hTI ?_)
  refine wpAny_bind (zFree hz ?_)
  simp only [if_true]
  refine wpAny_bind (wpAny_rule ?_)
  refine wpAny_bind (wpAny_field hz rfl (x := .ref TO) rfl ?_)
  refine wpAny_bind (zSet0 hz fun h1 hz1 k1 => ?_)
  rw [show List.range (#[a, b] : Array Value).size = [0, 1] from rfl]
  simp only [List.forIn_cons, List.forIn_nil]
  refine wpAny_bind ?_
  refine wpAny_bind ?_
  have hTI1 : IsTu h1 TI a b := k1.extBut _ _ D.TIz hTI
  have hTO1 : IsTu h1 TO a0 b0 := k1.extBut _ _ D.TOz hTO
  have kp1 : Kp z TI TO i1 i2 s.heap h1 := fun p o n1 n2 n3 n4 n5 e => k1.extBut _ _ n1 e
  have fin : ∀ {β : Type} {Q : β → Shared → Prop} (h2 : Heap) (run : Int), IsZl h2 z TI TO .ellipsis c run → Kp z TI TO i1 i2 s.heap h2 → ∀ f : Unit → Sem β,
      wpAny (model prog w) A (setField (.ref z) 0 Value.none >>= fun _ => (Builtin.Itertools.itStop : Sem Unit) >>= f) Q E { s with heap := h2 } := fun h2 run hz2 kp2 f => by
    refine wpAny_bind (zSet0 hz2 fun h3 hz3 k3 => ?_)
    exact wpAny_bind (zRaise hh fun h4 e k4 he => hE h4 e (fun p o n1 n2 n3 n4 n5 e => k4 _ _ (k3.extBut _ _ n1 (kp2 p o n1 n2 n3 n4 n5 e))) he)
  refine wpAny_bind (wpAny_mono (Q := fun r s' => (r = none ∧ ∃ h2, s' = { s with heap := h2 } ∧ IsZl h2 z TI TO .ellipsis c 0 ∧ Kp z TI TO i1 i2 s.heap h2) ∨ (r = some c ∧ ∃ h2, s' = { s with heap := h2 } ∧ IsZl h2 z TI TO .ellipsis c 1 ∧ (∃ a', IsTu h2 TI a' (.ref i2)) ∧
    h2.IsListIter i2 l2 i ∧ IsTu h2 TO a0 b0 ∧ Kp z TI TO i1 i2 s.heap h2)) (E := E) (wpAny_onRaise ?d1) ?r1 (fun _ _ x => x))
  case d1 =>
    show wpAny _ _ (field (.ref z) 4 >>= _) _ _ _
    refine wpAny_bind (wpAny_field hz1 rfl (x := .ref TI) rfl ?_)
    refine wpAny_bind (zPool hTI1 ?_)
    refine wpAny_bind (wpAny_field hz1 rfl (x := c) rfl ?_)
    rcases ca with ⟨rfl, q, le⟩ | ⟨rfl, lt, gn⟩
    · show wpAny _ _ (if (Value.ref i1 == Value.none) = true then _ else _) _ _ _
      rw [if_neg (fun z : (Value.ref i1 == Value.none) = true => Bool.false_ne_true z)]
      refine wpAny_bind (wpAny_onRaise (zEnd hh (q.extBut k1.extBut D.i1z) (hl1.extBut k1.extBut D.l1z) (Array.getElem?_eq_none_iff.mpr (by omega)) fun h2 k2 g2 _ => ?_))
      have hz2 := k2 _ _ D.i1z.symm hz1
      have hTI2 : IsTu h2 TI (.ref i1) b := k2 _ _ D.TIi1 hTI1
      show wpAny _ _ (Builtin.Itertools.itPoolItems (.ref TI) >>= _) _ _ _
      refine wpAny_bind (zPool hTI2 ?_)
      show wpAny _ _ (if (Value.ref i1 == Value.none) = true then _ else _) _ _ _
      rw [if_neg (fun z : (Value.ref i1 == Value.none) = true => Bool.false_ne_true z)]
      refine wpAny_bind (zInt hz2 ?_)
      rcases cb with ⟨rfl, r, le2⟩ | ⟨rfl, lt2, _⟩
      · have e1 : lives xs.size i + lives ys.size i = 2 := by unfold lives; rw [if_pos (by omega), if_pos (by omega)]; rfl
        rw [e1] at hz2 ⊢
        refine wpAny_bind (zSet3 hz2 fun h3 hz3 k3 => ?_)
        have hTI3 : IsTu h3 TI (.ref i1) (.ref i2) := k3.extBut _ _ D.TIz hTI2
        show wpAny _ _ (rule _ >>= _) _ _ _
        refine wpAny_bind (wpAny_rule ?_)
        refine wpAny_bind (wpAny_updateSeq_pair hTI3 fun h4 hTI4 k4 => ?_)
        refine wpAny_bind (wpAny_letGo (wpAny_pure ?_))
        exact .inr ⟨rfl, h4, rfl, k4.extBut _ _ D.TIz.symm hz3, ⟨_, hTI4⟩, (((r.extBut k1.extBut D.i2z).at fun o e => k2 _ _ D.i12.symm e).extBut k3.extBut D.i2z).extBut k4.extBut D.TIi2.symm,
          k4.extBut _ _ D.TITO.symm (k3.extBut _ _ D.TOz (k2 _ _ D.TOi1 hTO1)), fun p o n1 n2 n3 n4 n5 e => k4.extBut _ _ n2 (k3.extBut _ _ n1 (k2 _ _ n4 (kp1 p o n1 n2 n3 n4 n5 e)))⟩
      · have e1 : lives xs.size i + lives ys.size i = 1 := by unfold lives; rw [if_pos (by omega), if_neg (by omega)]; rfl
        rw [e1] at hz2 ⊢
        refine wpAny_bind (zSet3 hz2 fun h3 hz3 k3 => ?_)
        exact wpAny_pure (.inl ⟨rfl, h3, rfl, hz3, fun p o n1 n2 n3 n4 n5 e => k3.extBut _ _ n1 (k2 _ _ n4 (kp1 p o n1 n2 n3 n4 n5 e))⟩)
    · show wpAny _ _ (if (Value.none == Value.none) = true then _ else _) _ _ _
      rw [if_pos (show (Value.none == Value.none) = true by rfl)]
      rcases cb with ⟨rfl, r, le2⟩ | ⟨rfl, lt2, _⟩
      · have e1 : lives xs.size i + lives ys.size i = 1 := by unfold lives; rw [if_neg (by omega), if_pos (by omega)]; rfl
        rw [e1] at hz1
        exact wpAny_pure (.inr ⟨rfl, h1, rfl, hz1, ⟨_, hTI1⟩, r.extBut k1.extBut D.i2z, hTO1, kp1⟩)
      · omega
  rintro r _ (⟨rfl, h2, rfl, hz2, kp2⟩ | ⟨rfl, h2, rfl, hz2, ⟨a', hTI2⟩, q2, hTO2, kp2⟩)
  · exact fin h2 0 hz2 kp2 _
  show wpAny _ _ (Builtin.Itertools.itPoolItems (.ref TO) >>= _) _ _ _
  refine wpAny_bind (zPool hTO2 ?_)
  refine wpAny_bind (wpAny_updateSeq_pair hTO2 fun h3 hTO3 k3 => ?_)
  refine wpAny_bind (wpAny_letGo (wpAny_pure ?_))
  have hz3 := k3.extBut _ _ D.TOz.symm hz2
  have hTI3 : IsTu h3 TI a' (.ref i2) := k3.extBut _ _ D.TITO hTI2
  have kp3 : Kp z TI TO i1 i2 s.heap h3 := fun p o n1 n2 n3 n4 n5 e => k3.extBut _ _ n3 (kp2 p o n1 n2 n3 n4 n5 e)
  have hl23 : h3.IsList l2 ys := hl2.at fun o e => kp3 _ _ D.l2z D.l2TI D.l2TO D.l2i1 D.l2i2 e
  show wpAny _ _ (_ >>= _) _ _ _
  refine wpAny_bind ?_
  refine wpAny_bind (wpAny_mono (Q := fun r s' => r = none ∧ ∃ h2, s' = { s with heap := h2 } ∧ IsZl h2 z TI TO .ellipsis c 0 ∧ Kp z TI TO i1 i2 s.heap h2) (E := E) (wpAny_onRaise ?d2) ?r2 (fun _ _ x => x))
  case d2 =>
    show wpAny _ _ (field (.ref z) 4 >>= _) _ _ _
    refine wpAny_bind (wpAny_field hz3 rfl (x := .ref TI) rfl ?_)
    refine wpAny_bind (zPool hTI3 ?_)
    refine wpAny_bind (wpAny_field hz3 rfl (x := c) rfl ?_)
    show wpAny _ _ (if (Value.ref i2 == Value.none) = true then _ else _) _ _ _
    rw [if_neg (fun z : (Value.ref i2 == Value.none) = true => Bool.false_ne_true z)]
    refine wpAny_bind (wpAny_onRaise (zEnd hh (q2.extBut k3.extBut D.TOi2.symm) hl23 (Array.getElem?_eq_none_iff.mpr (by omega)) fun h4 k4 g4 _ => ?_))
    have hz4 := k4 _ _ D.i2z.symm hz3
    have hTI4 : IsTu h4 TI a' (.ref i2) := k4 _ _ D.TIi2 hTI3
    show wpAny _ _ (Builtin.Itertools.itPoolItems (.ref TI) >>= _) _ _ _
    refine wpAny_bind (zPool hTI4 ?_)
    show wpAny _ _ (if (Value.ref i2 == Value.none) = true then _ else _) _ _ _
    rw [if_neg (fun z : (Value.ref i2 == Value.none) = true => Bool.false_ne_true z)]
    refine wpAny_bind (zInt hz4 ?_)
    refine wpAny_bind (zSet3 hz4 fun h5 hz5 k5 => ?_)
    exact wpAny_pure ⟨rfl, h5, rfl, hz5, fun p o n1 n2 n3 n4 n5 e => k5.extBut _ _ n1 (k4 _ _ n5 (kp3 p o n1 n2 n3 n4 n5 e))⟩
  rintro r _ ⟨rfl, h4, rfl, hz4, kp4⟩
  exact fin h4 0 hz4 kp4 _
end
end CB.Z

namespace CB.Z
open PySem PySem.Spec PyProof.Rows L2
theorem zEntryIter : entryFor table "itertools.zip_longest.__iter__" = some Builtin.«dict_keyiterator.__iter__» :=
  entryFor_alias (id' := "dict_keyiterator.__iter__") (by kernel_rfl) (by first | decide +kernel | (unfold String.splitOn; simp +decide [String.splitOnAux])) (by decide +kernel) (by kernel_rfl)
section
variable {prog : Program} {w : World} {A : Around} {E : Value → Shared → Prop} {s : Shared}
theorem zNextItem {z TI TO i1 i2 l1 l2 : Addr} {c : Value} {i : Nat} {xs ys : Array Value} {Q : Option Value → Shared → Prop} (hh : A.handled = none) (D : ZA z TI TO i1 i2 l1 l2)
    (hz : IsZl s.heap z TI TO .none c (lives xs.size i + lives ys.size i)) (hc : ZCol s.heap TI i1 i2 l1 l2 xs.size i ys.size i) (hT : ∃ a b, IsTu s.heap TO a b)
    (hl1 : s.heap.IsList l1 xs) (hl2 : s.heap.IsList l2 ys) (hi : i < xs.size ∨ i < ys.size)
    (hQ : ∀ h' T, s.heap.objs.size ≤ T → IsZl h' z TI TO (rawInt T) c (lives xs.size (i + 1) + lives ys.size (i + 1)) → ZCol h' TI i1 i2 l1 l2 xs.size (i + 1) ys.size (i + 1) → (∃ a b, IsTu h' TO a b) →
      IsTu h' T (xs.getD i c) (ys.getD i c) → Kp z TI TO i1 i2 s.heap h' → Q (some (.ref T)) { s with heap := h' }) : wpAny (model prog w) A (pyNext (.ref z)) Q E s := by
  have ty : s.TypeIs (.ref z) "itertools.zip_longest" := ⟨_, hz, rfl⟩
  unfold pyNext
  refine wpAny_bind (wpAny_attempt (wpAny_callSpecial?_slot (name := Str.ofString "__next__") ty zSlotNext (wpAny_call_entry zSlotNext ty zEntryNext ?_ (zArgsNext _))))
  exact zItem hh D hz hc hT hl1 hl2 hi fun h' T g a1 a2 a3 a4 a5 => wpAny_pure (hQ h' T g a1 a2 a3 a4 a5)
theorem zNextLast {z TI TO i1 i2 l1 l2 : Addr} {c : Value} {i : Nat} {xs ys : Array Value} {Q : Option Value → Shared → Prop} (hh : A.handled = none) (D : ZA z TI TO i1 i2 l1 l2)
    (hz : IsZl s.heap z TI TO .none c (lives xs.size i + lives ys.size i)) (hc : ZCol s.heap TI i1 i2 l1 l2 xs.size i ys.size i) (hT : ∃ a b, IsTu s.heap TO a b)
    (hl1 : s.heap.IsList l1 xs) (hl2 : s.heap.IsList l2 ys) (hi : xs.size ≤ i ∧ ys.size ≤ i) (hj : i ≤ xs.size ∨ i ≤ ys.size)
    (hQ : ∀ h', Kp z TI TO i1 i2 s.heap h' → Q none { s with heap := h' }) : wpAny (model prog w) A (pyNext (.ref z)) Q E s := by
  have ty : s.TypeIs (.ref z) "itertools.zip_longest" := ⟨_, hz, rfl⟩
  unfold pyNext
  refine wpAny_bind (wpAny_attempt (wpAny_callSpecial?_slot (name := Str.ofString "__next__") ty zSlotNext (wpAny_call_entry zSlotNext ty zEntryNext ?_ (zArgsNext _))))
  refine zLast hh D hz hc hT hl1 hl2 hi hj fun h' e k he => ?_
  obtain ⟨o, ho, hc⟩ := he
  refine wpAny_bind (wpAny_isInstance (T := "StopIteration") (b := true) ⟨o, ho, hc⟩ isSubtype_stop ?_)
  exact wpAny_pure (hQ _ k)
theorem zGo {elts : List Expr} {x1 : Nat} {pos : Pos} {z TI TO T : Addr} {c : Value} {run : Int} {Q : Unit → Shared → Prop} (hz : IsZl s.heap z TI TO (rawInt T) c run)
    (hQ : ∀ h', IsZl h' z TI TO .none c run → Heap.SameBut z s.heap h' → Q () { s with heap := h' }) : wpAny (model prog w) A (letOwnedTupleGo (.Tuple elts x1 pos) (.ref z) (.ref T)) Q E s := by
  unfold letOwnedTupleGo
  refine wpAny_bind (wpAny_load hz ?_)
  show wpAny _ _ (if (_ && (#[rawInt T, .bool false, c, rawInt run, .ref TI, .ref TO] : Array Value)[0]? == some (rawInt T)) = true then _ else _) Q E s
  rw [if_pos (by simp)]
  refine wpAny_bind (wpAny_rule ?_)
  exact zSet0 hz hQ
theorem zIter {z TI TO : Addr} {f0 c : Value} {run : Int} {Q : Value → Shared → Prop} (hz : IsZl s.heap z TI TO f0 c run) (h : Q (.ref z) s) : wpAny (model prog w) A (pyIter (.ref z)) Q E s := by
  have ty : s.TypeIs (.ref z) "itertools.zip_longest" := ⟨_, hz, rfl⟩
  refine wpAny_pyIter_slot ty zSlotIter (wpAny_call_entry zSlotIter ty zEntryIter ?_ (zArgsIter _))
  exact wpAny_pure ⟨_, rfl, "itertools.zip_longest", _, ty, zSlotNext.lookup, h⟩
theorem zCall {l1 l2 : Addr} {xs ys : Array Value} {c : Value} {Q : Value → Shared → Prop} (hl1 : s.heap.IsList l1 xs) (hl2 : s.heap.IsList l2 ys)
    (h : ∀ h', IsZl h' (s.heap.objs.size + 4) (s.heap.objs.size + 2) (s.heap.objs.size + 3) .none c 2 → IsTu h' (s.heap.objs.size + 2) (.ref s.heap.objs.size) (.ref (s.heap.objs.size + 1)) →
      IsTu h' (s.heap.objs.size + 3) .none .none → h'.IsListIter s.heap.objs.size l1 0 → h'.IsListIter (s.heap.objs.size + 1) l2 0 → (∀ b o, s.heap.get? b = some o → h'.get? b = some o) → Q (.ref (s.heap.objs.size + 4)) { s with heap := h' }) :
    wpAny (model prog w) A (call (.type "itertools.zip_longest") [.ref l1, .ref l2] [(Str.ofString "fillvalue", c)]) Q E s := by
  refine callType_newKw zCalled (by decide) (zTypeCall _ _ _) (zNewCall _ _ _) (fun obj => zInitArgs obj _ _ _) zEntryNew (zMeetsNew l1 l2 xs ys c) ⟨hl1, hl2, ?_⟩
  generalize hn : s.heap.objs.size = n at h ⊢
  have a1 : (zA s.heap l1).objs.size = n + 1 := by rw [Heap.size_push, hn]
  have a2 : (zB s.heap l1 l2).objs.size = n + 2 := by rw [Heap.size_push, a1]
  have a3 : (zC s.heap l1 l2).objs.size = n + 3 := by rw [Heap.size_push, a2]
  have a4 : (zD s.heap l1 l2).objs.size = n + 4 := by rw [Heap.size_push, a3]
  have b1 := Heap.get?_push_size s.heap (o := ItO l1) rfl
  have b2 := Heap.get?_push_size (zA s.heap l1) (o := ItO l2) rfl
  have b3 := Heap.get?_push_size (zB s.heap l1 l2) (o := TuO (.ref s.heap.objs.size) (.ref (zA s.heap l1).objs.size)) rfl
  have b4 := Heap.get?_push_size (zC s.heap l1 l2) (o := TuO .none .none) rfl
  have b5 := Heap.get?_push_size (zD s.heap l1 l2) (o := ZlO .none c 2 (zB s.heap l1 l2).objs.size (zC s.heap l1 l2).objs.size) rfl
  have up : ∀ b o, s.heap.get? b = some o → (zH s.heap l1 l2 c).get? b = some o := fun b o e => Heap.get?_push_of_some _ (Heap.get?_push_of_some _ (Heap.get?_push_of_some _ (Heap.get?_push_of_some _ (Heap.get?_push_of_some _ e))))
  have u1 : (zH s.heap l1 l2 c).get? s.heap.objs.size = some _ := Heap.get?_push_of_some _ (Heap.get?_push_of_some _ (Heap.get?_push_of_some _ (Heap.get?_push_of_some _ b1)))
  have u2 : (zH s.heap l1 l2 c).get? (zA s.heap l1).objs.size = some _ := Heap.get?_push_of_some _ (Heap.get?_push_of_some _ (Heap.get?_push_of_some _ b2))
  have u3 : (zH s.heap l1 l2 c).get? (zB s.heap l1 l2).objs.size = some _ := Heap.get?_push_of_some _ (Heap.get?_push_of_some _ b3)
  have u4 : (zH s.heap l1 l2 c).get? (zC s.heap l1 l2).objs.size = some _ := Heap.get?_push_of_some _ b4
  have u5 : (zH s.heap l1 l2 c).get? (zD s.heap l1 l2).objs.size = some _ := b5
  show _ ∧ _
  rw [hn] at u1
  rw [a1] at u2
  rw [a2, hn, a1] at u3
  rw [a3] at u4
  rw [a4, a2, a3] at u5
  rw [a4]
  exact ⟨⟨_, u5, rfl⟩, h _ u5 u3 u4 ⟨_, u1, rfl, rfl⟩ ⟨_, u2, rfl, rfl⟩ up⟩
end
end CB.Z

namespace CB.Z
open PySem PySem.Spec PyProof.Rows L2
/-- the lists xs at a and ys at b in step, the shorter one filled up -/
def ItZl (K : PySem.W.Frag) (a b : Addr) (xs ys : List V) (n : Int) : It :=
  ⟨fun i H => SqL K H a xs ∧ SqL K H b ys ∧ (i < xs.length ∨ i < ys.length),
    fun i H v H' => ∃ T, v = .ref T ∧ H T = none ∧ H' = upd H T (.tup [xs.getD i (.int n), ys.getD i (.int n)]),
    fun i H => SqL K H a xs ∧ SqL K H b ys ∧ xs.length ≤ i ∧ ys.length ≤ i⟩
theorem relGetD {xs : List V} {us : List Value} {n : Int} {t : Tok} (r : Vals xs us) (i : Nat) : RelV (xs.getD i (.int n)) (us.toArray.getD i (.int n t)) := by
  have l := r.length
  by_cases h : i < xs.length
  · obtain ⟨u, hu, ru⟩ := r.get (List.getElem?_eq_getElem h)
    have e1 : xs.getD i (.int n) = xs[i] := by rw [List.getD_eq_getElem?_getD, List.getElem?_eq_getElem h]; rfl
    have e2 : us.toArray.getD i (.int n t) = u := by rw [Array.getD_eq_getD_getElem?]; simp [hu]
    rw [e1, e2]
    exact ru
  · have e1 : xs.getD i (.int n) = .int n := by rw [List.getD_eq_getElem?_getD, List.getElem?_eq_none (by omega)]; rfl
    have e2 : us.toArray.getD i (.int n t) = .int n t := by
      rw [Array.getD_eq_getD_getElem?, Array.getElem?_eq_none (by simp; omega)]
      rfl
    rw [e1, e2]
    exact ⟨t, rfl⟩
theorem turnZl {P : Program} {w : World} {K : PySem.W.Frag} {elts : List Expr} {kk : Nat} {tpos : Pos} {a b z TI TO i1 i2 : Addr} {xs ys : List V} {n : Int} {t : Tok} (D : ZA z TI TO i1 i2 a b) :
    Turn P w K (.Tuple elts kk tpos) (ItZl K a b xs ys n) [z, TI, TO, i1, i2] z (fun i h => IsZl h z TI TO .none (.int n t) (lives xs.length i + lives ys.length i) ∧ ZCol h TI i1 i2 a b xs.length i ys.length i ∧ (∃ x y, IsTu h TO x y) ∧ (i ≤ xs.length ∨ i ≤ ys.length)) where
  mem := by simp
  obj := fun i h st c hc => by
    obtain ⟨hz, ⟨⟨x, y, hTI, ca, cb⟩⟩, ⟨x2, y2, hTO⟩, _⟩ := st
    have gone : ∀ {e : Value} {it l : Addr} {m j : Nat}, Col h e it l m j → ∃ o, h.get? it = some o ∧ ∀ v, o.data ≠ .cell v := fun c => by
      rcases c with ⟨_, ⟨o, g, _, d⟩, _⟩ | ⟨_, _, o, vs, g, d⟩
      · exact ⟨o, g, fun v q => by rw [d] at q; cases q⟩
      · exact ⟨o, g, fun v q => by rw [d] at q; cases q⟩
    simp only [List.mem_cons, List.not_mem_nil, or_false] at hc
    rcases hc with rfl | rfl | rfl | rfl | rfl
    · exact ⟨_, hz, fun v q => nomatch q⟩
    · exact ⟨_, hTI, fun v q => nomatch q⟩
    · exact ⟨_, hTO, fun v q => nomatch q⟩
    · exact gone ca
    · exact gone cb
  keep := fun i h h' st k => by
    obtain ⟨hz, ⟨⟨x, y, hTI, ca, cb⟩⟩, ⟨x2, y2, hTO⟩, q⟩ := st
    exact ⟨k z (by simp) _ hz, ⟨_, _, k TI (by simp) _ hTI, ca.ext fun o e => k i1 (by simp) o e, cb.ext fun o e => k i2 (by simp) o e⟩, ⟨_, _, k TO (by simp) _ hTO⟩, q⟩
  item := by
    intro X hP hw hK hc i pins s σ H E I hf st hg
    subst hP hw hK
    obtain ⟨hz, hcol, hTO, hij⟩ := st
    obtain ⟨hqx, hqy, hi⟩ := hg
    obtain ⟨us, rv, p, _⟩ := I.list hqx
    obtain ⟨us2, rv2, p2, _⟩ := I.list hqy
    have n1 : us.toArray.size = xs.length := by rw [List.size_toArray, rv.length]
    have n2 : us2.toArray.size = ys.length := by rw [List.size_toArray, rv2.length]
    rw [← n1, ← n2] at hz hcol hi
    refine zNextItem (I.ok.hd hc) D hz hcol hTO p.isList p2.isList hi fun h' T hle hz' hcol' hTO' hT kp => ?_
    refine ⟨_, rfl, zGo (s := { s with heap := h' }) hz' fun h'' hz'' sb => ?_⟩
    have zlt : z < s.heap.objs.size := Heap.lt_size hz
    have Tz : T ≠ z := Nat.ne_of_gt (Nat.lt_of_lt_of_le zlt hle)
    have hT2 : h''.get? T = some (TuO (us.toArray.getD i (.int n t)) (us2.toArray.getD i (.int n t))) := sb.extBut _ _ Tz hT
    have new : ObjOk X.prog X.w (upd H T (.tup [xs.getD i (.int n), ys.getD i (.int n)])) h'' T (.tup [xs.getD i (.int n), ys.getD i (.int n)]) :=
      ⟨by show 2 ≤ sizeLine; decide, [us.toArray.getD i (.int n t), us2.toArray.getD i (.int n t)], .cons (relGetD rv i) (.cons (relGetD rv2 i) .nil), ⟨_, hT2, rfl, _, rfl⟩⟩
    have I1 : Inv X pins σ (upd H T (.tup [xs.getD i (.int n), ys.getD i (.int n)])) { s with heap := h'' } :=
      I.turnedNew (t' := s.toks) (ch := [z, TI, TO, i1, i2]) (fun c o hb q => sb.extBut _ _ (fun e => hb (by simp [e])) (kp c o (fun e => hb (by simp [e])) (fun e => hb (by simp [e])) (fun e => hb (by simp [e])) (fun e => hb (by simp [e])) (fun e => hb (by simp [e])) q)) hf hle new
    rw [n1, n2] at hz'' hcol'
    obtain ⟨⟨x3, y3, hTI3, ca3, cb3⟩⟩ := hcol'
    obtain ⟨x4, y4, hTO4⟩ := hTO'
    refine ⟨.ref T, _, I1, rfl, ⟨T, rfl, I.hok.fresh hle, rfl⟩, ⟨hz'', ⟨_, _, sb.extBut _ _ D.TIz hTI3, ca3.ext fun o e => sb.extBut _ _ D.i1z e, cb3.ext fun o e => sb.extBut _ _ D.i2z e⟩, ⟨_, _, sb.extBut _ _ D.TOz hTO4⟩, by omega⟩, fun c hcm => ?_⟩
    have hcn := (hf c hcm).1
    have ne : c ≠ T := fun e => by
      obtain ⟨o, g, _⟩ : ∃ o, s.heap.get? c = some o ∧ True := by
        obtain ⟨⟨x5, y5, hTI5, ca5, cb5⟩⟩ := hcol
        obtain ⟨x6, y6, hTO6⟩ := hTO
        have gone : ∀ {e : Value} {it l : Addr} {m j : Nat}, Col s.heap e it l m j → ∃ o, s.heap.get? it = some o ∧ True := fun c => by
          rcases c with ⟨_, ⟨o, g, _, d⟩, _⟩ | ⟨_, _, o, vs, g, d⟩
          · exact ⟨o, g, trivial⟩
          · exact ⟨o, g, trivial⟩
        simp only [List.mem_cons, List.not_mem_nil, or_false] at hcm
        rcases hcm with rfl | rfl | rfl | rfl | rfl
        · exact ⟨_, hz, trivial⟩
        · exact ⟨_, hTI5, trivial⟩
        · exact ⟨_, hTO6, trivial⟩
        · exact gone ca5
        · exact gone cb5
      have := Heap.lt_size g
      rw [e] at this
      exact absurd (Nat.lt_of_lt_of_le this hle) (Nat.lt_irrefl _)
    rw [upd_ne ne]
    exact hcn
  done := by
    intro X hP hw hK hc i pins s σ H E I hf st hg
    subst hP hw hK
    obtain ⟨hz, hcol, hTO, hij⟩ := st
    obtain ⟨hqx, hqy, hi⟩ := hg
    obtain ⟨us, rv, p, _⟩ := I.list hqx
    obtain ⟨us2, rv2, p2, _⟩ := I.list hqy
    have n1 : us.toArray.size = xs.length := by rw [List.size_toArray, rv.length]
    have n2 : us2.toArray.size = ys.length := by rw [List.size_toArray, rv2.length]
    rw [← n1, ← n2] at hz hcol hi hij
    exact zNextLast (I.ok.hd hc) D hz hcol hTO p.isList p2.isList hi hij fun h' kp => ⟨rfl, I.turnedL (t' := s.toks) (ch := [z, TI, TO, i1, i2]) (fun c o hb q =>
      kp c o (fun e => hb (by simp [e])) (fun e => hb (by simp [e])) (fun e => hb (by simp [e])) (fun e => hb (by simp [e])) (fun e => hb (by simp [e])) q) hf⟩
  self := fun A i s Q E st h => zIter st.1 h
def iZipL (K : PySem.W.Frag) (ta tk : TA) : TI := fun σ H R => ta σ H fun vs H1 => tk σ H1 fun ks H2 => ∃ a b xs ys n, vs = [.ref a, .ref b] ∧ ks = [.int n] ∧ SqL K H2 a xs ∧ SqL K H2 b ys ∧ R (ItZl K a b xs ys n) H2
theorem callTK {M : Model} {A : Around} {E : Value → Shared → Prop} {s : Shared} {env : Env} {pos : Pos} {T : String} {e : Expr} {rest : List Expr} {kws : List Keyword} {Q : Value → Shared → Prop}
    (h : wpAny M A (spliced (backTo pos (starEach (e :: rest) env))) (fun vs s₁ => wpAny M A (evalAll ((backToKw pos (keywordEach kws env)).map (·.2)))
      (fun ws s₂ => wpAny M A (call (.type T) vs (((backToKw pos (keywordEach kws env)).filterMap (·.1)).zip ws)) Q E s₂) E s₁) E s)
    (h1 : backTo pos (starEach (e :: rest) env) = (false, eval e env) :: backTo pos (starEach rest env)) (h2 : (backTo pos (starEach (e :: rest) env)).any (·.1) = false)
    (h3 : (backToKw pos (keywordEach kws env)).all (·.1.isSome) = true) (h4 : (backToKw pos (keywordEach kws env)).any (·.1.isNone) = false) :
    wpAny M A (callWith pos (.type T) [] (backTo pos (starEach (e :: rest) env)) (backToKw pos (keywordEach kws env))) Q E s := by
  have g : wpAny M A (evalArgs (.type T) true (backTo pos (starEach (e :: rest) env)) (backToKw pos (keywordEach kws env))) (fun a s₁ => wpAny M A (call (.type T) ([] ++ a.pos) a.kw) Q E s₁) E s := by
    rw [h1] at h ⊢
    exact evalArgs_kwB h3 h
  unfold callWith
  refine wpAny_bind (wpAny_holding (wpAny_mono g (fun a s₁ q => wpAny_bind (wpAny_standAt ?_)) fun _ _ x => x))
  simp only [h2, h4, Bool.or_false]
  refine wpAny_bind (wpAny_pure (wpAny_bind (wpAny_mono q (fun r s₂ hr => ?_) fun _ _ x => x)))
  exact wpAny_bind (wpAny_holding (wpAny_point (wpAny_pure hr)))
theorem pi_zipL {X : Cx} {e e2 ev : Expr} {ta tk : TA} {p pos tpos kp : Pos} {elts : List Expr} {kk : Nat} (hg : Gl X "zip_longest") (hm : X.mg "zip_longest" = some (.type "itertools.zip_longest")) (ha : PA X [e, e2] ta)
    (hk : PK X [⟨some "fillvalue", ev, kp⟩] tk) (h1 : backTo pos (starEach [e, e2] X.env) = (false, eval e X.env) :: backTo pos (starEach [e2] X.env) := by rfl) (h2 : (backTo pos (starEach [e, e2] X.env)).any (·.1) = false := by rfl) :
    PI X (.Tuple elts kk tpos) (.Call (.Name "zip_longest" p) [e, e2] [⟨some "fillvalue", ev, kp⟩] pos) (iZipL X.K ta tk) := by
  refine ⟨fun pins s σ H R I h => ?_⟩
  refine wpAny_Call_Name_kw (ld_glob I hg hm ?_ (by decide))
  refine callTK (thn (ha.run pos pins s σ H _ I h) fun us s1 q => ?_) h1 h2 rfl rfl
  obtain ⟨vs, H1, I1, r1, q1⟩ := q
  refine thn (hk.run pos pins s1 σ H1 _ I1 q1) fun ws s2 q => ?_
  obtain ⟨ks, H2, I2, r2, a, b, xs, ys, n, ev, ek, hqx, hqy, q2⟩ := q
  subst ev ek
  cases r1 with
  | cons ra rr =>
    cases rr with
    | cons rb rr =>
      cases rr
      cases ra
      cases rb
      cases r2 with
      | cons rn rr =>
        cases rr
        obtain ⟨t, rfl⟩ := rn
        obtain ⟨us, rv, p1, _⟩ := I2.list hqx
        obtain ⟨us2, rv2, p2, _⟩ := I2.list hqy
        have la : a < s2.heap.objs.size := p1.lt
        have lb : b < s2.heap.objs.size := p2.lt
        refine zCall p1.isList p2.isList fun h' hz hTI hTO h1 h2 hk => zIter hz ?_
        have D : ZA (s2.heap.objs.size + 4) (s2.heap.objs.size + 2) (s2.heap.objs.size + 3) s2.heap.objs.size (s2.heap.objs.size + 1) a b :=
          { toZipApart := PySem.W.ktu_apart s2.heap.objs.size a b la lb, l1TI := Nat.ne_of_lt (Nat.lt_add_right 2 la), l2TI := Nat.ne_of_lt (Nat.lt_add_right 2 lb) }
        have I3 : Inv X pins σ H2 { s2 with heap := h' } := I2.kept (t' := s2.toks) hk
        refine ⟨s2.heap.objs.size + 4, [s2.heap.objs.size + 4, s2.heap.objs.size + 2, s2.heap.objs.size + 3, s2.heap.objs.size, s2.heap.objs.size + 1], _, _, H2, rfl, I3, turnZl (xs := xs) (ys := ys) (n := n) (t := t) D,
          ⟨by unfold lives; rw [if_pos (Nat.zero_le _), if_pos (Nat.zero_le _)]; exact hz, ⟨_, _, hTI, .inl ⟨rfl, h1, Nat.zero_le _⟩, .inl ⟨rfl, h2, Nat.zero_le _⟩⟩, ⟨_, _, hTO⟩, .inl (Nat.zero_le _)⟩, fun c hcm => ?_, q2⟩
        have hle : s2.heap.objs.size ≤ c := by
          simp only [List.mem_cons, List.not_mem_nil, or_false] at hcm
          rcases hcm with z | z | z | z | z <;> (rw [z]; omega)
        exact I2.fpOk hle (I2.hok.fresh hle)
end CB.Z

namespace CB.Z
open PySem PySem.Spec PyProof.Rows L2
/-- the reading of a comprehension over zip_longest -/
theorem lc_zl {K : PySem.W.Frag} {a b : Addr} {xs ys : List V} {n : Int} {g : TG} {tt : TT} {te : TE} {vs : List Nat} {σ : L2.St} {H1 : Hp} {D : Addr} {Qd : Hp → Prop} (Pv : Nat → Hp → Prop) (h0 : Pv 0 (upd H1 D (.lst [])))
    (hq : ∀ i H, Pv i H → SqL K H a xs ∧ SqL K H b ys)
    (hs : ∀ i T H, (i < xs.length ∨ i < ys.length) → Pv i H → H T = none → g (.ref T) (wipe σ vs) (upd H T (.tup [xs.getD i (.int n), ys.getD i (.int n)])) fun σ2 H2 => wipe σ2 vs = wipe σ vs ∧ tt σ2 H2 fun k H3 =>
      if k = true then te σ2 H3 fun y H4 => ∃ acc, H4 D = some (.lst acc) ∧ acc.length < sizeLine ∧ Pv (i + 1) (upd H4 D (.lst (acc ++ [y]))) else Pv (i + 1) H3)
    (hd : ∀ H, Pv (max xs.length ys.length) H → Qd H) :
    ∃ W : Nat → Nat → Hp → Prop, (∃ m, W 0 m (upd H1 D (.lst []))) ∧ ∀ i m H, W i m H →
      ((ItZl K a b xs ys n).stop i H ∧ Qd H) ∨ ((ItZl K a b xs ys n).go i H ∧ ∃ Nx : Hp → Prop, (∀ H', Nx H' → ∃ m', m' < m ∧ W (i + 1) m' H') ∧
        ∀ x H', (ItZl K a b xs ys n).yld i H x H' → g x (wipe σ vs) H' fun σ2 H2 => wipe σ2 vs = wipe σ vs ∧ tt σ2 H2 fun k H3 =>
          if k = true then te σ2 H3 fun y H4 => ∃ acc, H4 D = some (.lst acc) ∧ acc.length < sizeLine ∧ Nx (upd H4 D (.lst (acc ++ [y]))) else Nx H3) := by
  refine ⟨fun i m H => m = max xs.length ys.length - i ∧ i ≤ max xs.length ys.length ∧ Pv i H, ⟨_, rfl, Nat.zero_le _, h0⟩, fun i m H hw => ?_⟩
  obtain ⟨rfl, hi, p⟩ := hw
  obtain ⟨qa, qb⟩ := hq i H p
  by_cases lt : i < max xs.length ys.length
  · refine .inr ⟨⟨qa, qb, by omega⟩, Pv (i + 1), fun H' p' => ⟨_, by omega, rfl, lt, p'⟩, fun x H' y => ?_⟩
    obtain ⟨T, rfl, nT, rfl⟩ := y
    exact hs i T H (by omega) p nT
  · have e : i = max xs.length ys.length := by omega
    subst e
    exact .inl ⟨⟨qa, qb, by omega, by omega⟩, hd H p⟩
end CB.Z

namespace CB
open PySem PySem.Spec PyProof.Rows L2
/-- n is where xs ends without its last zeros -/
structure Trim (xs : List Int) (n : Nat) : Prop where
  le : n ≤ xs.length
  up : ∀ k, n ≤ k → xs.getD k 0 = 0
  at_ : n = 0 ∨ xs.getD (n - 1) 0 ≠ 0
theorem getD_take {xs : List Int} {n k : Nat} : (xs.take n).getD k 0 = if k < n then xs.getD k 0 else 0 := by
  rw [List.getD_eq_getElem?_getD, List.getD_eq_getElem?_getD, List.getElem?_take]
  split <;> rfl
theorem Trim.take {xs : List Int} {n : Nat} (t : Trim xs n) (k : Nat) : (xs.take n).getD k 0 = xs.getD k 0 := by
  rw [getD_take]
  split
  · rfl
  · exact (t.up k (by omega)).symm
theorem getD_map {f : Int → Int} (h : f 0 = 0) (xs : List Int) (k : Nat) : (xs.map f).getD k 0 = f (xs.getD k 0) := by
  rw [List.getD_eq_getElem?_getD, List.getD_eq_getElem?_getD, List.getElem?_map]
  cases xs[k]? with
  | none => exact h.symm
  | some x => rfl
theorem getD_mem {xs : List Int} {k : Nat} (h : k < xs.length) : xs.getD k 0 ∈ xs := by
  rw [List.getD_eq_getElem?_getD, List.getElem?_eq_getElem h]
  exact List.getElem_mem h
theorem getD_of {xs : List Int} {k : Nat} {x : Int} (h : xs[k]? = some x) : xs.getD k 0 = x := by rw [List.getD_eq_getElem?_getD, h]; rfl
theorem getD_end {xs : List Int} {k : Nat} (h : xs.length ≤ k) : xs.getD k 0 = 0 := by rw [List.getD_eq_getElem?_getD, List.getElem?_eq_none h]; rfl
theorem get_of_lt {xs : List Int} {k : Nat} (h : k < xs.length) : xs[k]? = some (xs.getD k 0) := by rw [List.getD_eq_getElem?_getD, List.getElem?_eq_getElem h]; rfl
theorem list_ext {xs ys : List Int} (h : xs.length = ys.length) (e : ∀ k, xs.getD k 0 = ys.getD k 0) : xs = ys := by
  refine List.ext_getElem? fun k => ?_
  by_cases c : k < xs.length
  · rw [get_of_lt c, get_of_lt (by omega), e]
  · rw [List.getElem?_eq_none (by omega), List.getElem?_eq_none (by omega)]
/-! ### the greatest common divisor of a list -/
def gcdL (xs : List Int) : Nat := xs.foldl (fun g x => Nat.gcd g x.natAbs) 0
theorem foldg_dvd (xs : List Int) : ∀ g : Nat, xs.foldl (fun g x => Nat.gcd g x.natAbs) g ∣ g ∧ ∀ x ∈ xs, xs.foldl (fun g x => Nat.gcd g x.natAbs) g ∣ x.natAbs := by
  induction xs with
  | nil => intro g; exact ⟨Nat.dvd_refl _, fun x h => absurd h (by simp)⟩
  | cons y r ih =>
    intro g
    obtain ⟨h1, h2⟩ := ih (Nat.gcd g y.natAbs)
    refine ⟨Nat.dvd_trans h1 (Nat.gcd_dvd_left _ _), fun x hx => ?_⟩
    rcases List.mem_cons.mp hx with rfl | hx
    · exact Nat.dvd_trans h1 (Nat.gcd_dvd_right _ _)
    · exact h2 x hx
theorem foldg_great (xs : List Int) {d : Nat} : ∀ g : Nat, d ∣ g → (∀ x ∈ xs, d ∣ x.natAbs) → d ∣ xs.foldl (fun g x => Nat.gcd g x.natAbs) g := by
  induction xs with
  | nil => intro g h _; exact h
  | cons y r ih => intro g h h2; exact ih _ (Nat.dvd_gcd h (h2 y (by simp))) fun x hx => h2 x (by simp [hx])
theorem gcdL_dvd {xs : List Int} {x : Int} (h : x ∈ xs) : gcdL xs ∣ x.natAbs := (foldg_dvd xs 0).2 x h
theorem gcdL_great {xs : List Int} {d : Nat} (h : ∀ x ∈ xs, d ∣ x.natAbs) : d ∣ gcdL xs := foldg_great xs 0 (Nat.dvd_zero d) h
theorem gcdL_more {xs : List Int} {i : Nat} {x : Int} (h : xs[i]? = some x) : gcdL (xs.take (i + 1)) = Nat.gcd (gcdL (xs.take i)) x.natAbs := by
  unfold gcdL
  rw [List.take_succ, h, List.foldl_append]
  rfl
theorem gcdL_one {xs : List Int} {i : Nat} (h : gcdL (xs.take i) = 1) : gcdL xs = 1 := by
  have z : gcdL xs ∣ gcdL (xs.take i) := gcdL_great fun x hx => gcdL_dvd (List.mem_of_mem_take hx)
  rw [h] at z
  exact Nat.eq_one_of_dvd_one z
/-! ### the one form -/
/-- ks / e is the one form of cs / d -/
structure Pq (cs : List Int) (d : Int) (ks : List Int) (e : Int) : Prop where
  eq : ∀ i, ks.getD i 0 * d = cs.getD i 0 * e
  pos : 0 < e
  last : ks = [] ∨ ks.getD (ks.length - 1) 0 ≠ 0
  cop : ∀ g : Int, g ∣ e → (∀ i, g ∣ ks.getD i 0) → g ∣ 1
theorem Pq.len {cs : List Int} {d : Int} {ks : List Int} {e : Int} (p : Pq cs d ks e) (hd : d ≠ 0) : ks.length ≤ cs.length := Decidable.byContradiction fun c => by
  rcases p.last with h | h
  · rw [h] at c; simp at c
  · have z := p.eq (ks.length - 1)
    rw [getD_end (xs := cs) (by omega), Int.zero_mul] at z
    rcases Int.mul_eq_zero.mp z with z | z
    · exact h z
    · exact hd z
/-- the same polynomial by another pair -/
theorem Pq.conv {cs cs' : List Int} {d d' : Int} {ks : List Int} {e : Int} (p : Pq cs d ks e) (hd : d ≠ 0) (h : ∀ i, cs.getD i 0 * d' = cs'.getD i 0 * d) : Pq cs' d' ks e := by
  refine ⟨fun i => ?_, p.pos, p.last, p.cop⟩
  have z := p.eq i
  have z2 := h i
  have : (ks.getD i 0 * d') * d = (cs'.getD i 0 * e) * d := by grind
  exact Int.eq_of_mul_eq_mul_right hd this
theorem Pq.den_dvd {cs : List Int} {d : Int} {ks ks' : List Int} {e e' : Int} (p : Pq cs d ks e) (p' : Pq cs d ks' e') (hd : d ≠ 0) : e ∣ e' := by
  have cross : ∀ i, ks.getD i 0 * e' = ks'.getD i 0 * e := fun i => by
    have z := p.eq i
    have z2 := p'.eq i
    have : (ks.getD i 0 * e') * d = (ks'.getD i 0 * e) * d := by grind
    exact Int.eq_of_mul_eq_mul_right hd this
  have pe := p.pos
  obtain ⟨g, x, y, _, g0, ex, ey, cxy, _, _⟩ := gcd_parts (n := e) (d := e') (.inl (by omega))
  have hx : ∀ i, x ∣ ks.getD i 0 := fun i => by
    have z := cross i
    rw [ex, ey] at z
    have z2 : ks.getD i 0 * y = ks'.getD i 0 * x := by
      have : (ks.getD i 0 * y) * g = (ks'.getD i 0 * x) * g := by grind
      exact Int.eq_of_mul_eq_mul_right (by omega) this
    exact dvd_of_cop (a := y) ⟨ks'.getD i 0, by grind⟩ cxy.symm
  have h1 := p.cop x ⟨g, by rw [ex]; grind⟩ hx
  obtain ⟨u, hu⟩ := h1
  refine ⟨y * u, ?_⟩
  rw [ey, ex]
  grind
theorem Pq.uniq {cs : List Int} {d : Int} {ks ks' : List Int} {e e' : Int} (p : Pq cs d ks e) (p' : Pq cs d ks' e') (hd : d ≠ 0) : ks = ks' ∧ e = e' := by
  have h1 := p.den_dvd p' hd
  have h2 := p'.den_dvd p hd
  have q1 := p.pos
  have q2 := p'.pos
  have ee : e = e' := by
    have z1 := natAbs_le_of_dvd h1 (by omega)
    have z2 := natAbs_le_of_dvd h2 (by omega)
    omega
  subst ee
  have same : ∀ i, ks.getD i 0 = ks'.getD i 0 := fun i => by
    have z1 := p.eq i
    have z2 := p'.eq i
    exact Int.eq_of_mul_eq_mul_right hd (z1.trans z2.symm)
  refine ⟨list_ext ?_ same, rfl⟩
  have le : ∀ {as bs : List Int}, (∀ i, as.getD i 0 = bs.getD i 0) → (as = [] ∨ as.getD (as.length - 1) 0 ≠ 0) → as.length ≤ bs.length := fun {as bs} h l => Decidable.byContradiction fun c => by
    rcases l with l | l
    · rw [l] at c; simp at c
    · rw [h, getD_end (by omega)] at l
      exact l rfl
  exact Nat.le_antisymm (le same p.last) (le (fun i => (same i).symm) p'.last)
theorem fdiv_dvd {c x : Int} (hc : c ≠ 0) (h : c ∣ x) : x.fdiv c * c = x := by
  obtain ⟨y, rfl⟩ := h
  rw [Int.mul_fdiv_cancel_left _ hc]
  grind
/-- what __init__ stores -/
theorem pq_init {cs : List Int} {d c : Int} {n : Nat} (hd : d ≠ 0) (t : Trim cs n) (hc : c = if d < 0 then -((gcdL (d :: cs.take n) : Nat) : Int) else ((gcdL (d :: cs.take n) : Nat) : Int)) :
    c ≠ 0 ∧ c.natAbs ≤ d.natAbs ∧ Pq cs d ((cs.take n).map fun x => x.fdiv c) (d.fdiv c) := by
  have dv : ∀ x ∈ d :: cs.take n, gcdL (d :: cs.take n) ∣ x.natAbs := fun x hx => gcdL_dvd hx
  have gd := dv d (by simp)
  have g0 : 0 < gcdL (d :: cs.take n) := Nat.pos_of_dvd_of_pos gd (by omega)
  have ca : c.natAbs = gcdL (d :: cs.take n) := by rw [hc]; split <;> omega
  have c0 : c ≠ 0 := by omega
  have cd : ∀ x ∈ d :: cs.take n, c ∣ x := fun x hx => Int.natAbs_dvd_natAbs.mp (by rw [ca]; exact dv x hx)
  have e1 := fdiv_dvd c0 (cd d (by simp))
  have f0 : (0 : Int).fdiv c = 0 := Int.zero_fdiv c
  have e2 : ∀ i, ((cs.take n).map fun x => x.fdiv c).getD i 0 * c = cs.getD i 0 := fun i => by
    rw [getD_map f0, t.take]
    by_cases h : i < n
    · refine fdiv_dvd c0 (cd _ (List.mem_cons_of_mem _ ?_))
      rw [← t.take i]
      refine getD_mem ?_
      rw [List.length_take]
      have := t.le
      omega
    · rw [t.up i (by omega), f0, Int.zero_mul]
  have sgn : 0 < d.fdiv c := Decidable.byContradiction fun hn => by
    have hn : d.fdiv c ≤ 0 := by omega
    generalize d.fdiv c = u at *
    by_cases h : d < 0
    · have : c < 0 := by rw [hc, if_pos h]; omega
      have z := Int.mul_nonneg (show 0 ≤ -u by omega) (show 0 ≤ -c by omega)
      rw [Int.neg_mul_neg] at z
      omega
    · have : 0 < c := by rw [hc, if_neg h]; omega
      have z := Int.mul_nonneg (show 0 ≤ -u by omega) (show 0 ≤ c by omega)
      rw [Int.neg_mul] at z
      omega
  refine ⟨c0, by rw [ca]; exact Nat.le_of_dvd (by omega) gd, fun i => ?_, sgn, ?_, fun g h1 h2 => ?_⟩
  · have z := e2 i
    generalize ((cs.take n).map fun x => x.fdiv c).getD i 0 = u at *
    rw [← z]
    generalize d.fdiv c = v at *
    rw [← e1]
    grind
  · have ln : ((cs.take n).map fun x => x.fdiv c).length = n := by
      rw [List.length_map, List.length_take]
      have := t.le
      omega
    rcases t.at_ with h | h
    · left
      exact List.eq_nil_of_length_eq_zero (by omega)
    · right
      rw [ln]
      intro z
      have z2 := e2 (n - 1)
      rw [z, Int.zero_mul] at z2
      exact h z2.symm
  · -- g c divides all
    have k1 : (g * c).natAbs ∣ gcdL (d :: cs.take n) := gcdL_great fun x hx => Int.natAbs_dvd_natAbs.mpr (by
      rcases List.mem_cons.mp hx with rfl | hx
      · obtain ⟨u, hu⟩ := h1
        exact ⟨u, by rw [← e1, hu]; grind⟩
      · obtain ⟨i, hi, rfl⟩ := List.mem_iff_getElem.mp hx
        have z := e2 i
        rw [← t.take i] at z
        obtain ⟨u, hu⟩ := h2 i
        refine ⟨u, ?_⟩
        have z3 : (cs.take n)[i] = (cs.take n).getD i 0 := by rw [List.getD_eq_getElem?_getD, List.getElem?_eq_getElem hi]; rfl
        rw [z3, ← z, hu]
        grind)
    rw [← ca, Int.natAbs_mul] at k1
    have k2 : g.natAbs * c.natAbs ≤ 1 * c.natAbs := by
      rw [Nat.one_mul]
      exact Nat.le_of_dvd (by omega) k1
    have k3 : g.natAbs ≤ 1 := Nat.le_of_mul_le_mul_right k2 (by omega)
    have k4 : g ≠ 0 := fun z => by
      rw [z] at h1
      obtain ⟨u, hu⟩ := h1
      rw [Int.zero_mul] at hu
      omega
    have : g.natAbs = 1 := by omega
    exact Int.natAbs_dvd_natAbs.mp (by rw [this]; exact Nat.one_dvd _)
/-! ### == of tuples of whole numbers -/
theorem eqvA (xs ys : List Int) : PyData.eqvAll (xs.map PyData.int) (ys.map PyData.int) = decide (xs = ys) := by
  induction xs generalizing ys with
  | nil => cases ys <;> simp [PyData.eqvAll]
  | cons x r ih =>
    cases ys with
    | nil => simp [PyData.eqvAll]
    | cons y s =>
      have e : (x == y) = decide (x = y) := rfl
      simp [PyData.eqvAll, PyData.eqv, ih, e]
theorem eqvT (xs ys : List Int) : PyData.eqv (.tuple (xs.map PyData.int)) (.tuple (ys.map PyData.int)) = decide (xs = ys) := by
  rw [← eqvA]
  simp [PyData.eqv]
theorem eqvL (xs ys : List Int) : PyData.eqv (.list (xs.map PyData.int)) (.list (ys.map PyData.int)) = decide (xs = ys) := by
  rw [← eqvA]
  simp [PyData.eqv]
theorem dpI {K : PySem.W.Frag} {H : Hp} : ∀ xs : List Int, DpAll K H (xs.map V.int) (xs.map PyData.int)
  | [] => .nil
  | x :: r => .cons (.int x) (dpI r)
theorem layI (xs : List Int) : PyData.canLayAll0 (xs.map PyData.int) = true := by
  induction xs with
  | nil => rfl
  | cons x r ih => simp [PyData.canLayAll0, PyData.canLay0, ih]
theorem depI (xs : List Int) : PyData.depthAll (xs.map PyData.int) ≤ 1 := by
  induction xs with
  | nil => decide
  | cons x r ih =>
    simp only [List.map_cons, PyData.depthAll, PyData.depth]
    omega
theorem shT (xs : List Int) : SeqAt.shaped (.tuple (xs.map PyData.int)) = true := by
  have d := depI xs
  unfold SeqAt.shaped
  simp [PyData.canLay0, layI, PyData.depth]
  omega
theorem shL (xs : List Int) : SeqAt.shaped (.list (xs.map PyData.int)) = true := by
  have d := depI xs
  unfold SeqAt.shaped
  simp [PyData.canLay0, layI, PyData.depth]
  omega
/-! ### sums -/
def addL (xs ys : List Int) : List Int := (List.range (max xs.length ys.length)).map fun i => xs.getD i 0 + ys.getD i 0
theorem addL_at (xs ys : List Int) (i : Nat) : (addL xs ys).getD i 0 = xs.getD i 0 + ys.getD i 0 := by
  unfold addL
  by_cases h : i < max xs.length ys.length
  · rw [List.getD_eq_getElem?_getD, List.getElem?_map, List.getElem?_range h]
    rfl
  · rw [getD_end (by rw [List.length_map, List.length_range]; omega), getD_end (xs := xs) (by omega), getD_end (xs := ys) (by omega)]
    rfl
theorem addL_len (xs ys : List Int) : (addL xs ys).length = max xs.length ys.length := by rw [addL, List.length_map, List.length_range]
theorem mul_at (xs : List Int) (c : Int) (i : Nat) : (xs.map fun x => x * c).getD i 0 = xs.getD i 0 * c := getD_map (f := fun x => x * c) (Int.zero_mul c) xs i
theorem neg_at (xs : List Int) (i : Nat) : (xs.map fun x => -x).getD i 0 = -(xs.getD i 0) := getD_map (f := fun x => -x) rfl xs i
/-- cs / d + cs' / d' -/
abbrev sumP (cs : List Int) (d : Int) (cs' : List Int) (d' : Int) : List Int := addL (cs.map fun x => x * d') (cs'.map fun x => x * d)
theorem sumP_at (cs : List Int) (d : Int) (cs' : List Int) (d' : Int) (i : Nat) : (sumP cs d cs' d').getD i 0 = cs.getD i 0 * d' + cs'.getD i 0 * d := by rw [addL_at, mul_at, mul_at]
/-- sums by other pairs -/
theorem Pq.add {a b : Int} {as bs ks js ms : List Int} {e f g : Int} (p1 : Pq as a ks e) (p2 : Pq bs b js f) (p : Pq (sumP ks e js f) (e * f) ms g) : Pq (sumP as a bs b) (a * b) ms g := by
  have q1 := p1.pos
  have q2 := p2.pos
  refine p.conv (Int.mul_ne_zero (by omega) (by omega)) fun i => ?_
  rw [sumP_at, sumP_at]
  have e1 := p1.eq i
  have e2 := p2.eq i
  grind
theorem Pq.neg {as ks ms : List Int} {a e g : Int} (p1 : Pq as a ks e) (p : Pq (ks.map fun x => -x) e ms g) : Pq (as.map fun x => -x) a ms g := by
  refine p.conv (by have := p1.pos; omega) fun i => ?_
  rw [neg_at, neg_at]
  have e1 := p1.eq i
  grind
theorem Pq.self {cs : List Int} {d : Int} {ks : List Int} {e : Int} (p : Pq cs d ks e) : Pq ks e ks e := ⟨fun i => rfl, p.pos, p.last, p.cop⟩
theorem pq_neg_self {js : List Int} {f : Int} (s : Pq js f js f) : Pq (js.map fun x => -x) f (js.map fun x => -x) f := by
  refine ⟨fun i => rfl, s.pos, ?_, fun g h1 h2 => s.cop g h1 fun i => ?_⟩
  · rcases s.last with h | h
    · left; rw [h]; rfl
    · right
      rw [List.length_map, neg_at]
      omega
  · have z := h2 i
    rw [neg_at] at z
    exact Int.dvd_neg.mp z
/-- the denominator of the one form divides the one that was given -/
theorem Pq.den_dvd1 {cs ks : List Int} {d e : Int} (p : Pq cs d ks e) (hd : d ≠ 0) : e ∣ d := by
  have pe := p.pos
  obtain ⟨g, x, y, _, g0, ex, ey, cxy, _, _⟩ := gcd_parts (n := e) (d := d) (.inl (by omega))
  have hx : ∀ i, x ∣ ks.getD i 0 := fun i => by
    have z := p.eq i
    rw [ex, ey] at z
    have z2 : ks.getD i 0 * y = cs.getD i 0 * x := by
      have : (ks.getD i 0 * y) * g = (cs.getD i 0 * x) * g := by grind
      exact Int.eq_of_mul_eq_mul_right (by omega) this
    exact dvd_of_cop (a := y) ⟨cs.getD i 0, by grind⟩ cxy.symm
  obtain ⟨u, hu⟩ := p.cop x ⟨g, by rw [ex]; grind⟩ hx
  refine ⟨y * u, ?_⟩
  rw [ey, ex]
  grind
theorem Pq.den_le {cs ks : List Int} {d e : Int} (p : Pq cs d ks e) (hd : d ≠ 0) : e.natAbs ≤ d.natAbs := natAbs_le_of_dvd (p.den_dvd1 hd) hd
theorem at_last {xs : List V} {v : V} (h : xs[xs.length - 1]? = some v) : atI xs (-1) = some v := by
  have hj : xs.length - 1 < xs.length := (List.getElem?_eq_some_iff.mp h).1
  have e : ixN xs.length (-1) = some (xs.length - 1) := by
    unfold ixN
    rw [if_neg (by decide), if_pos (by omega)]
    congr 1
    omega
  unfold atI
  rw [e]
  exact h
theorem gcd_one_of {ks : List Int} {e : Int} (pos : 0 < e) (cop : ∀ g : Int, g ∣ e → (∀ i, g ∣ ks.getD i 0) → g ∣ 1) : gcdL (e :: ks) = 1 := by
  have z := cop ((gcdL (e :: ks) : Nat) : Int) (Int.natAbs_dvd_natAbs.mp (by rw [Int.natAbs_natCast]; exact gcdL_dvd (by simp))) fun i => by
    by_cases c : i < ks.length
    · exact Int.natAbs_dvd_natAbs.mp (by rw [Int.natAbs_natCast]; exact gcdL_dvd (List.mem_cons_of_mem _ (getD_mem c)))
    · rw [getD_end (by omega)]; exact Int.dvd_zero _
  have z2 := Int.natAbs_dvd_natAbs.mpr z
  rw [Int.natAbs_natCast] at z2
  exact Nat.eq_one_of_dvd_one z2
theorem getD_pad {xs : List Int} {n i : Nat} : (xs ++ List.replicate n (0 : Int)).getD i 0 = xs.getD i 0 := by
  rw [List.getD_eq_getElem?_getD, List.getD_eq_getElem?_getD]
  by_cases h : i < xs.length
  · rw [List.getElem?_append_left h]
  · rw [List.getElem?_append_right (by omega), List.getElem?_eq_none (l := xs) (by omega), List.getElem?_replicate]
    split <;> rfl
end CB

namespace CB
open PySem PySem.Spec PyProof.Rows L2
/-- the def of a staticmethod of a class -/
def stAd (K : PySem.W.Frag) (C : Addr) (m : Str) : Addr := He5.wf K C "staticmethod" m
def statB (K : PySem.W.Frag) (C : Addr) (m : Str) : Bool := He5.wrapB K C "staticmethod" "staticmethod.__get__" m && (PySem.W.readsIn K C (.type "type") && He.eqO (PySem.W.specialIn K (.ref C) "__getattribute__") (some (some (.builtin "type.__getattribute__"))))
structure Stat (K : PySem.W.Frag) (C : Addr) (m : Str) : Prop where
  at_ : PySem.W.findCls K (.ref C) (.type "type") m = some (.get (.builtin "staticmethod.__get__") (.ref (He.ma K C m)) .none (.ref C))
  rc : ∃ rest, PySem.W.recIn K (He.ma K C m) "staticmethod" = some (.ref (stAd K C m) :: rest)
  rd : ClX.CRead K C (.type "type")
theorem statB_ok {K : PySem.W.Frag} {C : Addr} {m : Str} (h : statB K C m = true) : Stat K C m := by
  obtain ⟨h1, h⟩ := He.ba h
  obtain ⟨h2, h3⟩ := He.ba h
  obtain ⟨k1, k2⟩ := He5.wrapB_ok h1
  exact ⟨k1, k2, h2, He.eqO_ok h3⟩
def tSta (C : Addr) (sp : Sp) (E : XK) (ta : TE) (t : TA) : TE := fun σ H Q => ta σ H fun x H1 => x = .ref C ∧ t σ H1 fun vs H2 => sp vs H2 Q E
section
variable {X : Cx} {CX : CXT} {k : Nat} {C : Addr} {fd : FuncData} {ps : List Str} {sp : Sp} {E : XK} {m : Str} {p pos apos : Pos} {e o : Expr} {es : List Expr} {ta : TE} {t : TA}
theorem getSta {pl : Sem Bool} {pins : List (Addr × Obj)} {σ : L2.St} {H : Hp} {s : Shared} {A : Around} {E : Value → Shared → Prop} {Q : Value × List Value → Shared → Prop} (I : Inv X pins σ H s) (S : Stat X.K C m)
    (h : ∀ s', Inv X pins σ H s' → Q (.ref (stAd X.K C m), []) s') : wpAny (model X.prog X.w) A (getMethod (.ref C) m pl) Q E s := by
  obtain ⟨rest, hp⟩ := S.rc
  refine PySem.W.method_cls I.kIn S.rd.ga ?_
  refine PySem.W.cls_bind I.kIn S.rd.rd S.at_ ?_
  exact wpAny_call (PySem.W.sm_get (s := { s with toks := s.toks + 1 }) I.kIn hp (PySem.W.handed_on rfl (h _ (I.tok _))))
theorem pe_stat {pl : Sem Bool} (he : PE X o ta) (S : Stat X.K C m) (kp : PySem.W.keepIn X.K (.ref (stAd X.K C m)) = true) (F : FnOk X.prog X.w X.K X.mg X.base CX k (stAd X.K C m) fd ps sp) (hr : Room k X.A)
    (hb : Binds X.K fd ps []) (hx : Passes CX X E) (ha : PA X (e :: es) t)
    (hst : starEach (e :: es) X.env = (false, eval e X.env) :: starEach es X.env := by rfl)
    (hpl : (backTo pos (starEach es X.env)).any (·.1) = false := by rfl)
    (ht : eval (.Call (.Attribute o m apos) (e :: es) [] pos) X.env = (do
      let ov ← eval o X.env
      standAt apos.atName
      let (f, first) ← holding [ov] (getMethod ov m pl)
      callWith pos f first (backTo pos (starEach (e :: es) X.env)) (backToKw pos (keywordEach [] X.env))) := by rfl) :
    PE X (.Call (.Attribute o m apos) (e :: es) [] pos) (tSta C sp E ta t) := by
  refine ⟨fun pins s σ H Q I h => ?_⟩
  refine PySem.W.methodCall_KW (pl := pl) (thn (he.run pins s σ H _ I h) fun u s1 hh => ?_) ht
  obtain ⟨x, H1, I1, rx, ex, q⟩ := hh
  subst ex
  have eu : u = Value.ref C := rx
  subst eu
  refine getSta I1 S fun s2 I2 => ?_
  refine PySem.W.callWith_K (first := []) (h₀ := X.base) I.ok.mod.kin kp (thn (ha.run pos pins s2 σ H1 _ I2 q) fun us s3 h3 => ?_) hst hpl
  obtain ⟨vs, H2, I3, r, q2⟩ := h3
  exact ⟨I3.kIn, run_fn (ds := []) (dvs := []) F hr hb .nil hx I3 r (by rw [List.append_nil]; exact q2)⟩
end
end CB

namespace CB.Z
open PySem PySem.Spec PyProof.Rows L2
/-! ### enumerate(a tuple): own work -/
abbrev TuIt (t : Addr) : Obj := { cls := .type "tuple_iterator", data := .fields #[.ref t, .int 0 0] }
abbrev EnOb (it : Addr) : Obj := { cls := .type "enumerate", data := .fields #[.none, .bool false, .ref it, rawInt 0, .none, .none] }
set_option maxHeartbeats 8000000 in
theorem enNewT (t : Addr) (us : Array Value) :
    Meets (Builtin.«enumerate.__new__» ⟨[.type "enumerate", .ref t], []⟩) (fun _ R s => s.heap.IsTuple t us ∧ R (.ok (.ret (.ref (s.heap.push (TuIt t)).objs.size))) { s with heap := (s.heap.push (TuIt t)).push (EnOb s.heap.objs.size) }) :=
  .of_wp fun pr wo A R s hyp => by
    obtain ⟨hp, gl, dr, tk, os⟩ := s
    obtain ⟨ht, hyp⟩ := hyp
    have hs1 := sub_enumerate
    have go : ∀ {A' : Around} {E : Value → Shared → Prop} {Q : Value → Shared → Prop}, Q (.ref hp.objs.size) ⟨hp.push (TuIt t), gl, dr, tk, os⟩ → wpAny (model pr wo) A' (pyIter (.ref t)) Q E ⟨hp, gl, dr, tk, os⟩ := fun q => (begins_tuple t us).iter pr wo _ _ ⟨hp, gl, dr, tk, os⟩ _ ht q
    wp_walk using go
    refine wpAny_stack_any fun st => wpAny_pure ?_
    split
    · rename_i c _ _ _ _ _
      cases (c == Value.type "enumerate") <;> (wp_walk using go; exact ⟨_, rfl, hyp⟩)
    · wp_walk using go
      exact ⟨_, rfl, hyp⟩
theorem callEnT {pr : Program} {wo : World} {A : Around} {E : Value → Shared → Prop} {s : Shared} {t : Addr} {us : Array Value} {Q : Value → Shared → Prop} (ht : s.heap.IsTuple t us)
    (q : ∀ h2, IsEnum h2 (s.heap.objs.size + 1) s.heap.objs.size 0 .none → h2.IsTupleIter s.heap.objs.size t 0 → (∀ b o, s.heap.get? b = some o → h2.get? b = some o) → Q (.ref (s.heap.objs.size + 1)) { s with heap := h2 }) :
    wpAny (model pr wo) A (call (.type "enumerate") [.ref t]) Q E s := by
  refine callType_new F.called_enumerate (by decide) (F.typeCall_enumerate_1 _) (F.newCall_enumerate_1 _) (fun obj => F.args_object_init_2 obj _) F.entry_enumerate_new (enNewT t us) ⟨ht, ?_⟩
  have z1 : (s.heap.push (TuIt t)).objs.size = s.heap.objs.size + 1 := Heap.size_push ..
  show _ ∧ _
  rw [z1]
  have gE : IsEnum ((s.heap.push (TuIt t)).push (EnOb s.heap.objs.size)) (s.heap.objs.size + 1) s.heap.objs.size 0 .none := by
    have := Heap.get?_push_size (s.heap.push (TuIt t)) (o := EnOb s.heap.objs.size) rfl
    rw [z1] at this
    exact this
  exact ⟨⟨_, gE, rfl⟩, q _ gE ⟨_, Heap.get?_push_of_some _ (Heap.get?_push_size _ rfl), rfl, rfl⟩ fun b o x => Heap.get?_push_of_some _ (Heap.get?_push_of_some _ x)⟩
/-- the tuple xs at a, each item in a new pair with its number -/
def IteT (K : PySem.W.Frag) (a : Addr) (xs : List V) : It :=
  ⟨fun i H => SqT K H a xs ∧ i < xs.length, fun i H v H' => ∃ T x, xs[i]? = some x ∧ v = .ref T ∧ H T = none ∧ H' = upd H T (.tup [.int (i : Nat), x]), fun i H => SqT K H a xs ∧ xs.length ≤ i⟩
theorem turnEnT {P : Program} {w : World} {K : PySem.W.Frag} {elts : List Expr} {kk : Nat} {tpos : Pos} {a e it : Addr} {xs : List V} (ea : e ≠ it) (ta : a ≠ it) :
    Turn P w K (.Tuple elts kk tpos) (IteT K a xs) [e, it] e (fun i h => (∃ old, IsEnum h e it ((i : Nat) : Int) old) ∧ h.IsTupleIter it a i) where
  mem := by simp
  obj := fun i h st b hb => by
    obtain ⟨⟨old, he⟩, o, ho, hc, hd⟩ := st
    simp only [List.mem_cons, List.not_mem_nil, or_false] at hb
    rcases hb with rfl | rfl
    · exact ⟨_, he, fun v q => nomatch q⟩
    · exact ⟨o, ho, fun v q => by rw [hd] at q; cases q⟩
  keep := fun i h h' st k => by
    obtain ⟨⟨old, he⟩, hi⟩ := st
    exact ⟨⟨old, k e (by simp) _ he⟩, hi.at fun o q => k it (by simp) o q⟩
  item := by
    intro X hP hw hK hc i pins s σ H E I hf st hg
    subst hP hw hK
    obtain ⟨⟨old, he⟩, hit⟩ := st
    obtain ⟨hq, hlt⟩ := hg
    obtain ⟨us, rv, p, hz⟩ := I.tuple hq
    have n1 : us.toArray.size = xs.length := by rw [List.size_toArray, rv.length]
    have ne : e ≠ a := fun z => by
      obtain ⟨o, ho, hcl, _⟩ := p
      rw [← z] at ho
      have g := ho.symm.trans he
      obtain rfl := Option.some.inj g
      exact absurd (Value.type.inj hcl) (by decide)
    have D := Draws.tuple (prog := X.prog) (w := X.w) (A := X.A.in1) (show X.A.in1.handled = none from I.ok.hd hc) it a ta us.toArray
    refine wpAny_pyNext_enum_itemD D he ⟨hit, p⟩ (by rw [n1]; exact hlt) ea (by simp [ea, ne]) fun u h2 tk hu ho hit2 hT hsz hk => ?_
    have elt : e < s.heap.objs.size := Heap.lt_size he
    have ilt : it < s.heap.objs.size := by obtain ⟨_, q, _⟩ := hit; exact Heap.lt_size q
    have hx : xs[i]? = some xs[i] := List.getElem?_eq_getElem hlt
    obtain ⟨u', hu', ru⟩ := rv.get hx
    have eu : u' = u := by
      rw [List.getElem?_toArray] at hu
      rw [hu] at hu'
      exact (Option.some.inj hu').symm
    subst eu
    refine ⟨_, rfl, wpAny_letOwnedTupleGo_enum (s := { s with heap := h2, toks := tk + 1 }) ho fun h3 he3 sb => ?_⟩
    have hT3 : h3.get? s.heap.objs.size = some { cls := .type "tuple", data := .seq #[.int i tk, u'] } := (sb.2 _ (Nat.ne_of_gt elt)).trans hT
    have new : ObjOk X.prog X.w (upd H s.heap.objs.size (.tup [.int (i : Nat), xs[i]])) h3 s.heap.objs.size (.tup [.int (i : Nat), xs[i]]) :=
      ⟨by show 2 ≤ sizeLine; decide, [.int i tk, u'], .cons ⟨_, rfl⟩ (.cons ru .nil), ⟨_, hT3, rfl, _, rfl⟩⟩
    have I1 : Inv X pins σ (upd H s.heap.objs.size (.tup [.int (i : Nat), xs[i]])) { s with heap := h3, toks := tk + 1 } :=
      I.turnedNew (ch := [e, it]) (fun b ob hb q => (sb.2 b fun z => hb (by simp [z])).trans (hk b ob (fun z => hb (by simp [z])) (fun z => hb (by simp [z])) q)) hf (Nat.le_refl _) new
    refine ⟨.ref s.heap.objs.size, _, I1, rfl, ⟨_, _, hx, rfl, I.hok.fresh (Nat.le_refl _), rfl⟩, ⟨⟨u', ?_⟩, hit2.1.at fun o q => (sb.2 it (Ne.symm ea)).trans q⟩, fun b hb => ?_⟩
    · have e1 : ((i + 1 : Nat) : Int) = (i : Int) + 1 := by omega
      rw [e1]
      exact he3
    · have hb2 : b < s.heap.objs.size := by
        simp only [List.mem_cons, List.not_mem_nil, or_false] at hb
        rcases hb with rfl | rfl
        · exact elt
        · exact ilt
      rw [upd_ne (Nat.ne_of_lt hb2)]
      exact (hf b hb).1
  done := by
    intro X hP hw hK hc i pins s σ H E I hf st hg
    subst hP hw hK
    obtain ⟨⟨old, he⟩, hit⟩ := st
    obtain ⟨hq, hle⟩ := hg
    obtain ⟨us, rv, p, hz⟩ := I.tuple hq
    have n1 : us.toArray.size = xs.length := by rw [List.size_toArray, rv.length]
    obtain ⟨f0, f1, f2, f3, f4, f5⟩ := hf it (by simp)
    have hT : s.TypeIs (.ref e) "enumerate" := ⟨_, he, rfl⟩
    unfold pyNext
    refine wpAny_bind (wpAny_attempt (wpAny_callSpecial?_slot (name := Str.ofString "__next__") hT F.slot_enumerate_next (wpAny_call_entry F.slot_enumerate_next hT F.entry_enumerate_next ?_ (F.args_enumerate_next_1 _))))
    show wpAny _ _ (field (.ref e) 2 >>= _) _ _ _
    refine wpAny_bind (wpAny_field he rfl (x := .ref it) rfl ?_)
    refine wpAny_bind (PySem.wpAny_nextOf_tuple_end (I.ok.hd hc) hit p (by rw [List.getElem?_toArray]; exact List.getElem?_eq_none (by rw [← rv.length]; exact hle)) fun h2 x eb ⟨o, ho, hcl⟩ => ?_)
    refine wpAny_bind (wpAny_isInstance (T := "StopIteration") (b := true) ⟨o, ho, hcl⟩ isSubtype_stop ?_)
    exact wpAny_pure ⟨rfl, I.turned (t' := s.toks) (fun b o hb q => eb b o hb q) f0 f1 f3 f4 f5⟩
  self := fun A i s Q E st h => let ⟨⟨_, he⟩, _⟩ := st; wpAny_pyIter_enum he h
def iEnumT (K : PySem.W.Frag) (ta : TA) : TI := fun σ H R => ta σ H fun vs H1 => ∃ a xs, vs = [.ref a] ∧ SqT K H1 a xs ∧ R (IteT K a xs) H1
theorem pi_enumT {X : Cx} {e : Expr} {ta : TA} {p pos tpos : Pos} {elts : List Expr} {kk : Nat} (hg : Gl X "enumerate") (hm : X.mg "enumerate" = none) (ha : PA X [e] ta) (hs : starEach [e] X.env = [(false, eval e X.env)] := by rfl) : PI X (.Tuple elts kk tpos) (.Call (.Name "enumerate" p) [e] [] pos) (iEnumT X.K ta) := by
  refine ⟨fun pins s σ H R I h => ?_⟩
  refine Call_ (ld_blt I hg hm boot_enumerate (PyProof.Rows.callWith_type1 (thn (ha.run pos pins s σ H _ I h) fun us s1 ⟨vs, H1, I1, r1, q1⟩ => ?_) hs rfl))
  obtain ⟨a, xs, rfl, hq, q⟩ := q1
  cases r1 with
  | cons r rr =>
    cases rr
    cases r
    obtain ⟨its, rv, p', hz⟩ := I1.tuple hq
    have alt : a < s1.heap.objs.size := by obtain ⟨_, g, _⟩ := id p'; exact Heap.lt_size g
    refine callEnT p' fun h2 he hit hk => wpAny_pyIter_enum he ?_
    have I2 : Inv X pins σ H1 { s1 with heap := h2 } := I1.kept (t' := s1.toks) hk
    refine ⟨s1.heap.objs.size + 1, [s1.heap.objs.size + 1, s1.heap.objs.size], _, _, H1, rfl, I2, turnEnT (e := s1.heap.objs.size + 1) (it := s1.heap.objs.size) (Nat.succ_ne_self _) (Nat.ne_of_lt alt), ⟨⟨.none, he⟩, hit⟩, fun b hb => ?_, q⟩
    have hle : s1.heap.objs.size ≤ b := by
      simp only [List.mem_cons, List.not_mem_nil, or_false] at hb
      rcases hb with rfl | rfl <;> omega
    exact I1.fpOk hle (I1.hok.fresh hle)
/-- a loop over enumerate of a tuple -/
theorem for_enT {K : PySem.W.Frag} {a : Addr} {xs : List V} {g : TG} {tb : TS} {D : Ends} {σ : L2.St} {H : Hp} (Pv : Nat → L2.St → Hp → Prop) (h0 : Pv 0 σ H) (hq : ∀ i σ H, Pv i σ H → SqT K H a xs)
    (hs : ∀ (i : Nat) (x : V) (T : Addr) (σ : L2.St) (H : Hp), xs[i]? = some x → Pv i σ H → H T = none → g (.ref T) σ (upd H T (.tup [.int (i : Nat), x])) fun σ2 H2 => tb { D with nx := Pv (i + 1), ct := Pv (i + 1), bk := D.nx } σ2 H2) (hd : ∀ σ H, Pv xs.length σ H → D.nx σ H) :
    ∃ W : Nat → Nat → L2.St → Hp → Prop, (∃ m, W 0 m σ H) ∧ ∀ i m σ H, W i m σ H →
      ((IteT K a xs).stop i H ∧ D.nx σ H) ∨ ((IteT K a xs).go i H ∧ ∃ N : L2.St → Hp → Prop, (∀ σ' H', N σ' H' → ∃ m', m' < m ∧ W (i + 1) m' σ' H') ∧ ∀ v H', (IteT K a xs).yld i H v H' → g v σ H' fun σ2 H2 => tb { D with nx := N, ct := N, bk := D.nx } σ2 H2) := by
  refine ⟨fun i m σ H => m = xs.length - i ∧ i ≤ xs.length ∧ Pv i σ H, ⟨_, rfl, Nat.zero_le _, h0⟩, fun i m σ H hw => ?_⟩
  obtain ⟨rfl, hi, p⟩ := hw
  by_cases lt : i < xs.length
  · refine .inr ⟨⟨hq i σ H p, lt⟩, Pv (i + 1), fun σ' H' p' => ⟨_, by omega, rfl, lt, p'⟩, fun v H' y => ?_⟩
    obtain ⟨T, x, hx, rfl, hT, rfl⟩ := y
    exact hs i x T σ H hx p hT
  · have e : i = xs.length := by omega
    subst e
    exact .inl ⟨⟨hq _ σ H p, Nat.le_refl _⟩, hd σ H p⟩
end CB.Z

namespace CB
open PySem PySem.Spec PyProof.Rows L2
/-! ### products of polynomials -/
/-- what the first i coefficients of xs give to the coefficient k of the product -/
def cvS (xs ys : List Int) : Nat → Nat → Int
  | 0, _ => 0
  | i + 1, k => cvS xs ys i k + if i ≤ k then xs.getD i 0 * ys.getD (k - i) 0 else 0
/-- the coefficient k of the product -/
def cv (xs ys : List Int) (k : Nat) : Int := cvS xs ys xs.length k
theorem cvS_end {xs ys : List Int} (k n : Nat) : cvS xs ys (xs.length + n) k = cv xs ys k := by
  induction n with
  | zero => rfl
  | succ n ih =>
    show cvS xs ys (xs.length + n) k + _ = _
    rw [ih, getD_end (xs := xs) (by show xs.length ≤ xs.length + n; omega)]
    simp
theorem cvS_ge {xs ys : List Int} {k n : Nat} (h : xs.length ≤ n) : cvS xs ys n k = cv xs ys k := by
  obtain ⟨m, rfl⟩ : ∃ m, n = xs.length + m := ⟨n - xs.length, by omega⟩
  exact cvS_end k m
theorem cvS_zero {xs ys : List Int} {k : Nat} (h : xs.length + ys.length ≤ k + 1) : ∀ n, n ≤ xs.length → cvS xs ys n k = 0
  | 0, _ => rfl
  | n + 1, hn => by
    rw [cvS, cvS_zero h n (by omega)]
    split
    · rw [getD_end (xs := ys) (by omega), Int.mul_zero]; rfl
    · rfl
theorem cv_zero {xs ys : List Int} {k : Nat} (h : xs.length + ys.length ≤ k + 1) : cv xs ys k = 0 := cvS_zero h _ (Nat.le_refl _)
theorem cvS_nil {xs ys : List Int} (h : ys.length = 0) (k : Nat) : ∀ n, cvS xs ys n k = 0
  | 0 => rfl
  | n + 1 => by
    rw [cvS, cvS_nil h k n]
    split
    · rw [getD_end (xs := ys) (by omega), Int.mul_zero]; rfl
    · rfl
theorem cv_nil {xs ys : List Int} (h : xs.length = 0 ∨ ys.length = 0) (k : Nat) : cv xs ys k = 0 := by
  rcases h with h | h
  · unfold cv; rw [h]; rfl
  · exact cvS_nil h k _
/-- the product of other pairs -/
theorem cvS_conv {as bs xs ys : List Int} {a b e f : Int} (h1 : ∀ i, as.getD i 0 * e = xs.getD i 0 * a) (h2 : ∀ i, bs.getD i 0 * f = ys.getD i 0 * b) (k : Nat) : ∀ n, cvS as bs n k * (e * f) = cvS xs ys n k * (a * b)
  | 0 => by simp [cvS]
  | n + 1 => by
    have ih := cvS_conv h1 h2 k n
    rw [cvS, cvS, Int.add_mul, Int.add_mul, ih]
    congr 1
    split
    · have e1 := h1 n
      have e2 := h2 (k - n)
      grind
    · simp
theorem cv_conv {as bs xs ys : List Int} {a b e f : Int} (h1 : ∀ i, as.getD i 0 * e = xs.getD i 0 * a) (h2 : ∀ i, bs.getD i 0 * f = ys.getD i 0 * b) (k : Nat) : cv as bs k * (e * f) = cv xs ys k * (a * b) := by
  have z := cvS_conv h1 h2 k (max as.length xs.length)
  rwa [cvS_ge (by omega), cvS_ge (by omega)] at z
theorem cvS_bits {xs ys : List Int} {p q : Nat} (h1 : ∀ i, (xs.getD i 0).natAbs < 2 ^ p) (h2 : ∀ i, (ys.getD i 0).natAbs < 2 ^ q) (k : Nat) : ∀ n, (cvS xs ys n k).natAbs < 2 ^ (p + q + n)
  | 0 => Nat.pow_pos (by decide)
  | n + 1 => by
    have ih := cvS_bits h1 h2 k n
    rw [cvS]
    have t : (if n ≤ k then xs.getD n 0 * ys.getD (k - n) 0 else 0).natAbs < 2 ^ (p + q) := by
      split
      · exact abs_lt_mul (h1 n) (h2 _)
      · exact Nat.pow_pos (by decide)
    refine abs_mono (sz_add ih t) ?_
    omega
/-- zs is the product of xs and ys -/
structure IsMul (zs xs ys : List Int) : Prop where
  at_ : ∀ k, zs.getD k 0 = cv xs ys k
  len : zs.length ≤ xs.length + ys.length
theorem Pq.mul {a b : Int} {as bs ks js ms zs ws : List Int} {e f g : Int} (p1 : Pq as a ks e) (p2 : Pq bs b js f) (z : IsMul zs ks js) (w : IsMul ws as bs) (p : Pq zs (e * f) ms g) : Pq ws (a * b) ms g := by
  have q1 := p1.pos
  have q2 := p2.pos
  refine p.conv (Int.mul_ne_zero (by omega) (by omega)) fun i => ?_
  rw [z.at_, w.at_]
  exact cv_conv p1.eq p2.eq i
/-- the list while it is made: i rows are added, and j items of the next one -/
structure MulAt (fs xs ys : List Int) (N i j : Nat) : Prop where
  len : fs.length = N
  at_ : ∀ k, fs.getD k 0 = cvS xs ys i k + if i ≤ k ∧ k - i < j then xs.getD i 0 * ys.getD (k - i) 0 else 0
theorem MulAt.start {xs ys : List Int} {N : Nat} : MulAt (List.replicate N 0) xs ys N 0 0 := ⟨List.length_replicate, fun k => by
  have z : (List.replicate N (0 : Int)).getD k 0 = 0 := by
    rw [List.getD_eq_getElem?_getD, List.getElem?_replicate]
    split <;> rfl
  rw [z]
  simp [cvS]⟩
theorem MulAt.row {fs xs ys : List Int} {N i j : Nat} (m : MulAt fs xs ys N i j) (h : ys.length ≤ j) : MulAt fs xs ys N (i + 1) 0 := ⟨m.len, fun k => by
  rw [m.at_ k, cvS]
  simp only [Nat.not_lt_zero, and_false, if_false, Int.add_zero]
  congr 1
  by_cases c : i ≤ k
  · by_cases c2 : k - i < j
    · rw [if_pos ⟨c, c2⟩, if_pos c]
    · rw [if_neg (fun z => c2 z.2), if_pos c, getD_end (xs := ys) (by omega), Int.mul_zero]
  · rw [if_neg (fun z => c z.1), if_neg c]⟩
theorem MulAt.skip {fs xs ys : List Int} {N i : Nat} (m : MulAt fs xs ys N i 0) (h : xs.getD i 0 = 0) : MulAt fs xs ys N (i + 1) 0 := ⟨m.len, fun k => by
  rw [m.at_ k, cvS, h]
  simp⟩
theorem getD_set {fs : List Int} {n k : Nat} {v : Int} (h : n < fs.length) : (fs.set n v).getD k 0 = if k = n then v else fs.getD k 0 := by
  rw [List.getD_eq_getElem?_getD, List.getD_eq_getElem?_getD, List.getElem?_set]
  by_cases c : n = k
  · subst c
    rw [if_pos rfl, if_pos h, if_pos rfl]
    rfl
  · rw [if_neg c, if_neg (fun z => c z.symm)]
theorem MulAt.step {fs xs ys : List Int} {N i j : Nat} {v : Int} (m : MulAt fs xs ys N i j) (h : i + j < N) (hv : v = fs.getD (i + j) 0 + xs.getD i 0 * ys.getD j 0) : MulAt (fs.set (i + j) v) xs ys N i (j + 1) := ⟨by rw [List.length_set, m.len], fun k => by
  rw [getD_set (by rw [m.len]; exact h)]
  by_cases c : k = i + j
  · subst c
    rw [if_pos rfl, hv, m.at_, if_neg (by omega), if_pos (by omega)]
    have e : i + j - i = j := by omega
    rw [e, Int.add_zero]
  · rw [if_neg c, m.at_]
    congr 1
    by_cases c2 : i ≤ k ∧ k - i < j
    · rw [if_pos c2, if_pos (by omega)]
    · rw [if_neg c2, if_neg (by omega)]⟩
theorem MulAt.fin {fs xs ys : List Int} {N i : Nat} (m : MulAt fs xs ys N i 0) (h : xs.length ≤ i) (hN : N ≤ xs.length + ys.length) : IsMul fs xs ys := ⟨fun k => by
  rw [m.at_, cvS_ge h]
  simp, by rw [m.len]; exact hN⟩
theorem get_map_int {xs : List Int} {i : Nat} {x : V} (h : (xs.map V.int)[i]? = some x) : ∃ c, xs[i]? = some c ∧ x = .int c := by
  rw [List.getElem?_map] at h
  cases e : xs[i]? with
  | none => rw [e] at h; cases h
  | some u => rw [e] at h; cases h; exact ⟨u, rfl, rfl⟩
/-- a name of the module that holds a number -/
theorem pe_globI {X : Cx} {x : Str} {n : Int} {p : Pos} (hg : Gl X x) (h : ∃ t, X.mg x = some (.int n t)) (hd : (x == ("__debug__" : Str)) = false := by decide) : PE X (.Name x p) (tC (.int n)) := by
  obtain ⟨t, h⟩ := h
  exact pe_glob (v := .int n) hg h ⟨_, rfl⟩ hd
/-- what no reading reaches -/
theorem pss_dead {X : Cx} {st : List Stmt} : PSs X st (fun _ _ _ => False) := ⟨fun _ _ _ _ _ _ h => h.elim⟩
theorem map_set_V {xs : List Int} {n : Nat} {x : Int} : (xs.map V.int).set n (.int x) = (xs.set n x).map V.int := by rw [List.map_set]
theorem ixN_at {n j : Nat} {i : Int} (h : i = j) (l : j < n) : ixN n i = some j := by
  subst h
  unfold ixN
  rw [if_pos (by omega), if_pos (by omega)]
  rfl
end CB

namespace CB
open PySem PySem.Spec PyProof.Rows L2
/-! ### finite sums -/
def sumTo (f : Nat → Int) : Nat → Int
  | 0 => 0
  | n + 1 => sumTo f n + f n
theorem sumTo_congr {f g : Nat → Int} : ∀ n, (∀ i, i < n → f i = g i) → sumTo f n = sumTo g n
  | 0, _ => rfl
  | n + 1, h => by rw [sumTo, sumTo, sumTo_congr n fun i hi => h i (by omega), h n (by omega)]
theorem sumTo_add (f g : Nat → Int) : ∀ n, sumTo (fun i => f i + g i) n = sumTo f n + sumTo g n
  | 0 => rfl
  | n + 1 => by rw [sumTo, sumTo, sumTo, sumTo_add f g n]; omega
theorem sumTo_mul (c : Int) (f : Nat → Int) : ∀ n, sumTo (fun i => c * f i) n = c * sumTo f n
  | 0 => by simp [sumTo]
  | n + 1 => by rw [sumTo, sumTo, sumTo_mul c f n, Int.mul_add]
theorem sumTo_zero {f : Nat → Int} : ∀ n, (∀ i, i < n → f i = 0) → sumTo f n = 0
  | 0, _ => rfl
  | n + 1, h => by rw [sumTo, sumTo_zero n fun i hi => h i (by omega), h n (by omega)]; rfl
theorem sumTo_first (f : Nat → Int) : ∀ n, sumTo f (n + 1) = f 0 + sumTo (fun i => f (i + 1)) n
  | 0 => by simp [sumTo]
  | n + 1 => by rw [sumTo, sumTo_first f n, sumTo]; omega
theorem sumTo_swap (f : Nat → Nat → Int) (m : Nat) : ∀ n, sumTo (fun i => sumTo (fun j => f i j) m) n = sumTo (fun j => sumTo (fun i => f i j) n) m
  | 0 => (sumTo_zero m fun _ _ => rfl).symm
  | n + 1 => by
    rw [sumTo, sumTo_swap f m n, ← sumTo_add]
    exact sumTo_congr m fun i _ => rfl
theorem sumTo_one {f : Nat → Int} {k : Nat} : ∀ n, k < n → (∀ i, i < n → i ≠ k → f i = 0) → sumTo f n = f k
  | 0, h, _ => absurd h (Nat.not_lt_zero _)
  | n + 1, h, z => by
    rw [sumTo]
    by_cases c : k = n
    · subst c
      rw [sumTo_zero k fun i hi => z i (by omega) (by omega)]
      omega
    · rw [sumTo_one n (by omega) fun i hi ne => z i (by omega) ne, z n (by omega) (fun e => c e.symm)]
      omega
/-! ### the powers of x + s -/
def pw (s : Int) : Nat → Nat → Int
  | 0, 0 => 1
  | 0, _ + 1 => 0
  | i + 1, 0 => s * pw s i 0
  | i + 1, k + 1 => s * pw s i (k + 1) + pw s i k
theorem pw_high (s : Int) : ∀ i k, i < k → pw s i k = 0
  | 0, k + 1, _ => rfl
  | i + 1, k + 1, h => by
    rw [pw, pw_high s i (k + 1) (by omega), pw_high s i k (by omega)]
    simp
theorem pw_zero : ∀ i k, pw 0 i k = if i = k then 1 else 0
  | 0, 0 => rfl
  | 0, k + 1 => rfl
  | i + 1, 0 => by rw [pw, Int.zero_mul, if_neg (by omega)]
  | i + 1, k + 1 => by
    rw [pw, Int.zero_mul, pw_zero i k, Int.zero_add]
    by_cases c : i = k
    · rw [if_pos c, if_pos (by omega)]
    · rw [if_neg c, if_neg (by omega)]
/-- the coefficient k of f(x + s), f with n coefficients -/
def shV (s : Int) (f : Nat → Int) (n k : Nat) : Int := sumTo (fun i => f i * pw s i k) n
theorem shV_more {s : Int} {f : Nat → Int} {n : Nat} (k m : Nat) (h : ∀ i, n ≤ i → f i = 0) : shV s f (n + m) k = shV s f n k := by
  induction m with
  | zero => rfl
  | succ m ih =>
    show sumTo _ (n + m) + f (n + m) * _ = _
    rw [h (n + m) (by omega), Int.zero_mul, Int.add_zero]
    exact ih
theorem shV_ge {s : Int} {f : Nat → Int} {n m : Nat} (k : Nat) (h : ∀ i, n ≤ i → f i = 0) (l : n ≤ m) : shV s f m k = shV s f n k := by
  obtain ⟨j, rfl⟩ : ∃ j, m = n + j := ⟨m - n, by omega⟩
  exact shV_more k j h
theorem shV_mul {s c : Int} {f : Nat → Int} {n : Nat} (k : Nat) : shV s (fun i => c * f i) n k = c * shV s f n k := by
  unfold shV
  rw [← sumTo_mul]
  exact sumTo_congr n fun i _ => by grind
theorem shV_congr {s : Int} {f g : Nat → Int} {n : Nat} (k : Nat) (h : ∀ i, i < n → f i = g i) : shV s f n k = shV s g n k := sumTo_congr n fun i hi => by rw [h i hi]
/-- (x + s) ^ j, moved back -/
theorem pw_back (s : Int) : ∀ (j k m : Nat), j < m → sumTo (fun i => pw s j i * pw (-s) i k) m = if j = k then 1 else 0
  | 0, k, m, h => by
    rw [sumTo_one (k := 0) m h fun i hi ne => by
      cases i with
      | zero => exact absurd rfl ne
      | succ i => rw [pw, Int.zero_mul]]
    cases k with
    | zero => rfl
    | succ k => simp [pw]
  | j + 1, k, m, h => by
    obtain ⟨m, rfl⟩ : ∃ n, m = n + 1 := ⟨m - 1, by omega⟩
    -- the part of s
    have e1 : sumTo (fun i => pw s (j + 1) i * pw (-s) i k) (m + 1) = s * sumTo (fun i => pw s j i * pw (-s) i k) (m + 1) + sumTo (fun i => pw s j i * pw (-s) (i + 1) k) m := by
      rw [sumTo_first, sumTo_first (fun i => pw s j i * pw (-s) i k), Int.mul_add, ← sumTo_mul, Int.add_assoc, ← sumTo_add]
      congr 1
      · show pw s (j + 1) 0 * _ = _
        rw [pw]
        grind
      · exact sumTo_congr m fun i _ => by
          show pw s (j + 1) (i + 1) * _ = _
          rw [pw]
          grind
    have b := pw_back s j k (m + 1) (by omega)
    have b1 := pw_back s j k m (by omega)
    rw [e1, b]
    cases k with
    | zero =>
      have e2 : sumTo (fun i => pw s j i * pw (-s) (i + 1) 0) m = -s * sumTo (fun i => pw s j i * pw (-s) i 0) m := by
        rw [← sumTo_mul]
        exact sumTo_congr m fun i _ => by
          rw [pw]
          grind
      rw [e2, b1]
      by_cases c : j = 0
      · rw [if_pos c, if_neg (by omega)]; grind
      · rw [if_neg c, if_neg (by omega)]; grind
    | succ k =>
      have e2 : sumTo (fun i => pw s j i * pw (-s) (i + 1) (k + 1)) m = -s * sumTo (fun i => pw s j i * pw (-s) i (k + 1)) m + sumTo (fun i => pw s j i * pw (-s) i k) m := by
        rw [← sumTo_mul, ← sumTo_add]
        exact sumTo_congr m fun i _ => by
          rw [pw]
          grind
      rw [e2, b1, pw_back s j k m (by omega)]
      by_cases c : j = k
      · rw [if_pos c, if_pos (show j + 1 = k + 1 by omega), if_neg (show ¬ j = k + 1 by omega)]; grind
      · rw [if_neg c, if_neg (show ¬ j + 1 = k + 1 by omega)]
        split <;> grind
/-- moved and moved back -/
theorem shV_back {s : Int} {f : Nat → Int} {n k : Nat} (h : ∀ i, n ≤ i → f i = 0) : shV (-s) (fun i => shV s f n i) n k = f k := by
  have e : shV (-s) (fun i => shV s f n i) n k = sumTo (fun j => f j * sumTo (fun i => pw s j i * pw (-s) i k) n) n := by
    unfold shV
    have z : ∀ i, sumTo (fun j => f j * pw s j i) n * pw (-s) i k = sumTo (fun j => pw (-s) i k * (f j * pw s j i)) n := fun i => by rw [sumTo_mul]; grind
    rw [sumTo_congr n fun i _ => z i, sumTo_swap]
    exact sumTo_congr n fun j _ => by
      rw [← sumTo_mul]
      exact sumTo_congr n fun i _ => by grind
  rw [e]
  by_cases c : k < n
  · rw [sumTo_one (k := k) n c fun i hi ne => by rw [pw_back s i k n hi, if_neg ne, Int.mul_zero], pw_back s k k n c, if_pos rfl, Int.mul_one]
  · rw [h k (by omega)]
    exact sumTo_zero n fun i hi => by rw [pw_back s i k n hi, if_neg (by omega), Int.mul_zero]
/-! ### by the first coefficient -/
def shC (s : Int) : List Int → Nat → Int
  | [], _ => 0
  | c :: r, 0 => c + s * shC s r 0
  | c :: r, k + 1 => shC s r k + s * shC s r (k + 1)
theorem shC_eq (s : Int) : ∀ (cs : List Int) (k : Nat), shC s cs k = shV s (fun i => cs.getD i 0) cs.length k
  | [], _ => rfl
  | c :: r, k => by
    unfold shV
    rw [List.length_cons, sumTo_first]
    cases k with
    | zero =>
      show c + s * shC s r 0 = c * 1 + sumTo (fun i => r.getD i 0 * (s * pw s i 0)) r.length
      rw [shC_eq s r 0, Int.mul_one]
      congr 1
      unfold shV
      rw [← sumTo_mul]
      exact sumTo_congr _ fun i _ => by grind
    | succ k =>
      show shC s r k + s * shC s r (k + 1) = c * 0 + sumTo (fun i => r.getD i 0 * (s * pw s i (k + 1) + pw s i k)) r.length
      rw [shC_eq s r k, shC_eq s r (k + 1), Int.mul_zero, Int.zero_add]
      unfold shV
      rw [← sumTo_mul, ← sumTo_add]
      exact sumTo_congr _ fun i _ => by grind
/-- one pass of the division by x - s -/
def hornL (s : Int) : List Int → List Int
  | [] => []
  | c :: r => (c + s * shC s r 0) :: hornL s r
theorem hornL_len (s : Int) : ∀ r, (hornL s r).length = r.length
  | [] => rfl
  | c :: r => by rw [hornL, List.length_cons, List.length_cons, hornL_len s r]
theorem hornL_at (s : Int) : ∀ (r : List Int) (k : Nat), (hornL s r).getD k 0 = shC s (r.drop k) 0
  | [], k => by cases k <;> rfl
  | c :: r, 0 => rfl
  | c :: r, k + 1 => hornL_at s r k
theorem shC_step (s : Int) : ∀ (r : List Int) (c : Int) (k : Nat), shC s (c :: r) (k + 1) = shC s (hornL s r) k
  | [], c, k => by cases k <;> simp [shC, hornL]
  | d :: r, c, 0 => by
    have e := shC_step s r d 0
    show shC s (d :: r) 0 + s * shC s (d :: r) (0 + 1) = (d + s * shC s r 0) + s * shC s (hornL s r) 0
    rw [e]
    rfl
  | d :: r, c, k + 1 => by
    have e1 := shC_step s r d k
    have e2 := shC_step s r d (k + 1)
    show shC s (d :: r) (k + 1) + s * shC s (d :: r) (k + 1 + 1) = shC s (hornL s r) k + s * shC s (hornL s r) (k + 1)
    rw [e1, e2]
theorem drop_one {fs : List Int} {i : Nat} (h : i < fs.length) : fs.drop i = fs.getD i 0 :: fs.drop (i + 1) := by
  rw [List.drop_eq_getElem_cons h]
  congr 1
  rw [List.getD_eq_getElem?_getD, List.getElem?_eq_getElem h]
  rfl
/-- i passes are done -/
structure ShAt (s : Int) (cs fs : List Int) (i : Nat) : Prop where
  len : fs.length = cs.length
  lo : ∀ k, k < i → fs.getD k 0 = shC s cs k
  hi : ∀ k, shC s cs (i + k) = shC s (fs.drop i) k
/-- within a pass: the places from j on are done -/
structure ShIn (s : Int) (fs gs : List Int) (j : Nat) : Prop where
  len : gs.length = fs.length
  lo : ∀ k, k < j → gs.getD k 0 = fs.getD k 0
  hi : ∀ k, j ≤ k → gs.getD k 0 = shC s (fs.drop k) 0
theorem ShAt.start {s : Int} {cs : List Int} : ShAt s cs cs 0 := ⟨rfl, fun k h => absurd h (Nat.not_lt_zero _), fun k => by rw [Nat.zero_add, List.drop_zero]⟩
theorem ShIn.start {s : Int} {fs : List Int} : ShIn s fs fs (fs.length - 1) := ⟨rfl, fun _ _ => rfl, fun k h => by
  by_cases c : k < fs.length
  · rw [drop_one c, show fs.drop (k + 1) = [] from List.drop_of_length_le (by omega)]
    simp [shC]
  · rw [getD_end (by omega), List.drop_of_length_le (by omega)]
    rfl⟩
theorem ShIn.step {s v : Int} {fs gs : List Int} {j : Nat} (m : ShIn s fs gs (j + 1)) (h : j + 1 < fs.length) (hv : v = gs.getD j 0 + s * gs.getD (j + 1) 0) : ShIn s fs (gs.set j v) j := by
  have hj : j < gs.length := by rw [m.len]; omega
  refine ⟨by rw [List.length_set, m.len], fun k hk => ?_, fun k hk => ?_⟩
  · rw [getD_set hj, if_neg (by omega)]
    exact m.lo k (by omega)
  · rw [getD_set hj]
    by_cases c : k = j
    · subst c
      rw [if_pos rfl, hv, m.lo k (by omega), m.hi (k + 1) (Nat.le_refl _), drop_one (i := k) (by omega)]
      rfl
    · rw [if_neg c]
      exact m.hi k (by omega)
theorem ShAt.pass {s : Int} {cs fs gs : List Int} {i : Nat} (a : ShAt s cs fs i) (m : ShIn s fs gs i) (h : i < fs.length) : ShAt s cs gs (i + 1) := by
  refine ⟨by rw [m.len, a.len], fun k hk => ?_, fun k => ?_⟩
  · by_cases c : k = i
    · subst c
      rw [m.hi k (Nat.le_refl _)]
      exact (a.hi 0).symm
    · rw [m.lo k (by omega)]
      exact a.lo k (by omega)
  · have e : gs.drop (i + 1) = hornL s (fs.drop (i + 1)) := by
      refine list_ext (by rw [hornL_len, List.length_drop, List.length_drop, m.len]) fun k => ?_
      rw [hornL_at, List.drop_drop, List.getD_eq_getElem?_getD, List.getElem?_drop, ← List.getD_eq_getElem?_getD]
      exact m.hi _ (by omega)
    rw [e, ← shC_step s (fs.drop (i + 1)) (fs.getD i 0) k, ← drop_one h, ← a.hi (k + 1)]
    congr 1
    omega
theorem ShAt.fin {s : Int} {cs fs : List Int} {i : Nat} (a : ShAt s cs fs i) (h : cs.length ≤ i + 1) (k : Nat) : fs.getD k 0 = shC s cs k := by
  by_cases c : k < i
  · exact a.lo k c
  · have e := a.hi (k - i)
    rw [show i + (k - i) = k by omega] at e
    rw [e]
    by_cases c2 : i < fs.length
    · rw [drop_one c2, show fs.drop (i + 1) = [] from List.drop_of_length_le (by rw [a.len]; omega)]
      obtain ⟨m, hm⟩ : ∃ m, k - i = m := ⟨_, rfl⟩
      rw [hm]
      cases m with
      | zero => rw [show k = i by omega]; simp [shC]
      | succ m => rw [getD_end (by rw [a.len]; omega)]; simp [shC]
    · rw [List.drop_of_length_le (by omega), getD_end (by omega)]
      rfl
/-- zs is cs moved by s -/
structure IsSh (s : Int) (zs cs : List Int) : Prop where
  at_ : ∀ k, zs.getD k 0 = shV s (fun i => cs.getD i 0) cs.length k
  len : zs.length = cs.length
theorem shV_list {s : Int} {cs : List Int} {n : Nat} (h : cs.length ≤ n) (k : Nat) : shV s (fun i => cs.getD i 0) n k = shV s (fun i => cs.getD i 0) cs.length k := shV_ge k (fun i hi => getD_end hi) h
theorem shV_pair {s : Int} {as xs : List Int} {a e : Int} (h : ∀ i, as.getD i 0 * e = xs.getD i 0 * a) (k : Nat) :
    shV s (fun i => as.getD i 0) as.length k * e = shV s (fun i => xs.getD i 0) xs.length k * a := by
  rw [← shV_list (n := max as.length xs.length) (by omega), ← shV_list (cs := xs) (n := max as.length xs.length) (by omega), Int.mul_comm, Int.mul_comm _ a, ← shV_mul, ← shV_mul]
  exact shV_congr k fun i _ => by
    have := h i
    grind
theorem Pq.shift {s a e g : Int} {as ks zs ws ms : List Int} (p : Pq as a ks e) (z : IsSh s zs ks) (w : ∀ k, ws.getD k 0 = shV s (fun i => as.getD i 0) as.length k) (q : Pq zs e ms g) : Pq ws a ms g := by
  refine q.conv (by have := p.pos; omega) fun i => ?_
  rw [z.at_, w]
  exact shV_pair p.eq i
/-- back again -/
theorem Pq.unshift {s a e g f : Int} {as ks zs ms ys js : List Int} (p : Pq as a ks e) (z : IsSh s zs ks) (q : Pq zs e ms g) (y : IsSh (-s) ys ms) (r : Pq ys g js f) : Pq as a js f := by
  have e0 := p.pos
  have g0 := q.pos
  refine r.conv (by omega) fun i => ?_
  have h1 := shV_pair (s := -s) q.eq i
  rw [← y.at_] at h1
  -- zs moved back is ks
  have h2 : shV (-s) (fun i => zs.getD i 0) zs.length i = ks.getD i 0 := by
    rw [z.len, shV_congr i fun j _ => z.at_ j]
    exact shV_back fun i hi => getD_end hi
  rw [h2] at h1
  have h3 := p.eq i
  have : (ys.getD i 0 * a) * e = (as.getD i 0 * g) * e := by grind
  exact Int.eq_of_mul_eq_mul_right (by omega) this
theorem IsSh.zero {zs cs : List Int} (z : IsSh 0 zs cs) (k : Nat) : zs.getD k 0 = cs.getD k 0 := by
  rw [z.at_]
  by_cases c : k < cs.length
  · unfold shV
    rw [sumTo_one (k := k) _ c fun i hi ne => by rw [pw_zero, if_neg ne, Int.mul_zero], pw_zero, if_pos rfl, Int.mul_one]
  · rw [getD_end (xs := cs) (by omega)]
    exact sumTo_zero _ fun i hi => by rw [pw_zero, if_neg (by omega), Int.mul_zero]
/-! ### the powers of x + s as products -/
theorem cvS_lin {xs : List Int} {s : Int} (k : Nat) : ∀ n, cvS xs [s, 1] n k = (if k < n then s * xs.getD k 0 else 0) + if 0 < k ∧ k - 1 < n then xs.getD (k - 1) 0 else 0
  | 0 => by simp [cvS]
  | n + 1 => by
    rw [cvS, cvS_lin k n]
    by_cases c1 : n = k
    · subst c1
      rw [if_pos (Nat.le_refl _), Nat.sub_self, if_neg (Nat.lt_irrefl _), if_pos (Nat.lt_succ_self _)]
      show 0 + _ + xs.getD n 0 * s = _
      by_cases c2 : 0 < n
      · rw [if_pos ⟨c2, by omega⟩, if_pos ⟨c2, by omega⟩]; grind
      · rw [if_neg (fun z => c2 z.1), if_neg (fun z => c2 z.1)]; grind
    · by_cases c2 : n + 1 = k
      · subst c2
        rw [if_pos (show n ≤ n + 1 by omega), if_neg (show ¬ n + 1 < n by omega), if_neg (show ¬ (0 < n + 1 ∧ n + 1 - 1 < n) by omega), if_neg (show ¬ n + 1 < n + 1 by omega), if_pos (show 0 < n + 1 ∧ n + 1 - 1 < n + 1 by omega), show n + 1 - n = 1 by omega, show n + 1 - 1 = n by omega]
        show 0 + 0 + xs.getD n 0 * 1 = _
        omega
      · have e : (if n ≤ k then xs.getD n 0 * [s, 1].getD (k - n) 0 else 0) = 0 := by
          split
          · rw [getD_end (xs := [s, 1]) (by show 2 ≤ k - n; omega), Int.mul_zero]
          · rfl
        rw [e, Int.add_zero]
        congr 1
        · by_cases c3 : k < n
          · rw [if_pos c3, if_pos (by omega)]
          · rw [if_neg c3, if_neg (by omega)]
        · by_cases c3 : 0 < k ∧ k - 1 < n
          · rw [if_pos c3, if_pos (by omega)]
          · rw [if_neg c3, if_neg (by omega)]
theorem pw_next {s : Int} {ps qs : List Int} {i : Nat} (h : ∀ k, ps.getD k 0 = pw s i k) (m : IsMul qs ps [s, 1]) (k : Nat) : qs.getD k 0 = pw s (i + 1) k := by
  rw [m.at_]
  have e := cvS_lin (xs := ps) (s := s) k (ps.length + k + 1)
  rw [cvS_ge (by omega)] at e
  rw [e, if_pos (by omega)]
  cases k with
  | zero => rw [if_neg (by omega), h, pw]; omega
  | succ k => rw [if_pos (by omega), h, show k + 1 - 1 = k by omega, h, pw]
end CB

namespace CB
open PySem PySem.Spec PyProof.Rows L2
/-! ### division with remainder -/
theorem cvS_set {xs ys : List Int} {a : Nat} {v : Int} (h : a < xs.length) (k : Nat) : ∀ n, cvS (xs.set a v) ys n k = cvS xs ys n k + if a < n ∧ a ≤ k then (v - xs.getD a 0) * ys.getD (k - a) 0 else 0
  | 0 => by rw [if_neg (by omega)]; rfl
  | n + 1 => by
    rw [cvS, cvS, cvS_set h k n, getD_set h]
    by_cases c : n = a
    · subst c
      rw [if_pos rfl, if_neg (show ¬ (n < n ∧ n ≤ k) by omega)]
      by_cases c2 : n ≤ k
      · rw [if_pos c2, if_pos c2, if_pos (show n < n + 1 ∧ n ≤ k by omega), Int.sub_mul]
        omega
      · rw [if_neg c2, if_neg c2, if_neg (show ¬ (n < n + 1 ∧ n ≤ k) by omega)]
    · rw [if_neg c]
      by_cases c2 : a < n ∧ a ≤ k
      · rw [if_pos c2, if_pos (show a < n + 1 ∧ a ≤ k by omega)]
        omega
      · rw [if_neg c2, if_neg (show ¬ (a < n + 1 ∧ a ≤ k) by omega)]
        omega
theorem cv_set {xs ys : List Int} {a : Nat} {v : Int} (h : a < xs.length) (k : Nat) : cv (xs.set a v) ys k = cv xs ys k + if a ≤ k then (v - xs.getD a 0) * ys.getD (k - a) 0 else 0 := by
  unfold cv
  rw [List.length_set, cvS_set h]
  congr 1
  by_cases c : a ≤ k
  · rw [if_pos ⟨h, c⟩, if_pos c]
  · rw [if_neg (fun z => c z.2), if_neg c]
theorem cv_scale {xs ys : List Int} {s : Int} (k : Nat) : cv (xs.map fun x => x * s) ys k = cv xs ys k * s := by
  have z := cv_conv (as := xs.map fun x => x * s) (bs := ys) (xs := xs) (ys := ys) (a := s) (b := 1) (e := 1) (f := 1) (fun i => by rw [mul_at, Int.mul_one]) (fun i => rfl) k
  rwa [Int.mul_one, Int.mul_one, Int.mul_one] at z
theorem cv_rep {ys : List Int} {n : Nat} (k : Nat) : cv (List.replicate n 0) ys k = 0 := by
  have z : ∀ m, cvS (List.replicate n (0 : Int)) ys m k = 0 := by
    intro m
    induction m with
    | zero => rfl
    | succ m ih =>
      rw [cvS, ih]
      have e : (List.replicate n (0 : Int)).getD m 0 = 0 := by
        rw [List.getD_eq_getElem?_getD, List.getElem?_replicate]
        split <;> rfl
      rw [e, Int.zero_mul]
      split <;> rfl
  exact z _
/-- the quotient and the rest while they are made: the places below n are still to do -/
structure DivAt (f : Int) (xs qs rs ys : List Int) (n : Nat) : Prop where
  f0 : f ≠ 0
  rl : rs.length = xs.length
  eq : ∀ k, f * xs.getD k 0 = cv qs ys k + rs.getD k 0
  lo : ∀ i, i < n → qs.getD i 0 = 0
  hi : ∀ k, n + ys.length ≤ k + 1 → rs.getD k 0 = 0
theorem DivAt.start {xs ys : List Int} {n : Nat} (h : (n : Int) = xs.length - ys.length + 1 ∨ (n = 0 ∧ xs.length + 1 ≤ ys.length)) : DivAt 1 xs (List.replicate n 0) xs ys n :=
  ⟨by decide, rfl, fun k => by rw [cv_rep]; omega, fun i _ => by
    rw [List.getD_eq_getElem?_getD, List.getElem?_replicate]
    split <;> rfl, fun k hk => getD_end (by omega)⟩
theorem DivAt.scale {f s : Int} {xs qs rs ys : List Int} {n : Nat} (m : DivAt f xs qs rs ys n) (h : s ≠ 0) : DivAt (f * s) xs (qs.map fun x => x * s) (rs.map fun x => x * s) ys n :=
  ⟨Int.mul_ne_zero m.f0 h, by rw [List.length_map, m.rl], fun k => by
    rw [cv_scale, mul_at]
    have := m.eq k
    grind, fun i hi => by rw [mul_at, m.lo i hi, Int.zero_mul], fun k hk => by rw [mul_at, m.hi k hk, Int.zero_mul]⟩
/-- the rest while a multiple is taken from it -/
structure SubAt (zs rs ys : List Int) (v : Int) (a j : Nat) : Prop where
  len : zs.length = rs.length
  at_ : ∀ k, zs.getD k 0 = rs.getD k 0 - if a ≤ k ∧ k - a < j then v * ys.getD (k - a) 0 else 0
theorem SubAt.start {rs ys : List Int} {v : Int} {a : Nat} : SubAt rs rs ys v a 0 := ⟨rfl, fun k => by rw [if_neg (by omega), Int.sub_zero]⟩
theorem SubAt.step {zs rs ys : List Int} {v u : Int} {a j : Nat} (m : SubAt zs rs ys v a j) (h : a + j < rs.length) (hu : u = zs.getD (a + j) 0 - v * ys.getD j 0) : SubAt (zs.set (a + j) u) rs ys v a (j + 1) := ⟨by rw [List.length_set, m.len], fun k => by
  rw [getD_set (by rw [m.len]; exact h)]
  by_cases c : k = a + j
  · subst c
    rw [if_pos rfl, hu, m.at_, if_neg (by omega), if_pos (by omega), show a + j - a = j by omega, Int.sub_zero]
  · rw [if_neg c, m.at_]
    congr 1
    by_cases c2 : a ≤ k ∧ k - a < j
    · rw [if_pos c2, if_pos (by omega)]
    · rw [if_neg c2, if_neg (by omega)]⟩
theorem SubAt.fin {zs rs ys : List Int} {v : Int} {a : Nat} (m : SubAt zs rs ys v a ys.length) (k : Nat) : zs.getD k 0 = rs.getD k 0 - if a ≤ k then v * ys.getD (k - a) 0 else 0 := by
  rw [m.at_]
  congr 1
  by_cases c : a ≤ k
  · by_cases c2 : k - a < ys.length
    · rw [if_pos ⟨c, c2⟩, if_pos c]
    · rw [if_neg (fun z => c2 z.2), if_pos c, getD_end (xs := ys) (by omega), Int.mul_zero]
  · rw [if_neg (fun z => c z.1), if_neg c]
theorem DivAt.step {f v : Int} {xs qs rs zs ys : List Int} {n : Nat} (m : DivAt f xs qs rs ys (n + 1)) (h : n < qs.length) (hy : 0 < ys.length) (hv : v * ys.getD (ys.length - 1) 0 = rs.getD (n + ys.length - 1) 0) (zl : zs.length = rs.length)
    (hz : ∀ k, zs.getD k 0 = rs.getD k 0 - if n ≤ k then v * ys.getD (k - n) 0 else 0) : DivAt f xs (qs.set n v) zs ys n :=
  ⟨m.f0, by rw [zl, m.rl], fun k => by
    rw [cv_set h, hz, m.eq k, m.lo n (by omega), Int.sub_zero]
    split <;> omega, fun i hi => by
    rw [getD_set h, if_neg (by omega)]
    exact m.lo i (by omega), fun k hk => by
    rw [hz, if_pos (show n ≤ k by omega)]
    by_cases c : k = n + ys.length - 1
    · subst c
      rw [show n + ys.length - 1 - n = ys.length - 1 by omega, hv]
      omega
    · rw [m.hi k (by omega), getD_end (xs := ys) (by omega), Int.mul_zero]
      rfl⟩
theorem dvd_scale {t l g s : Int} (hg : g = ((Nat.gcd t.natAbs l.natAbs : Nat) : Int)) (hl : l ≠ 0) (hs : s = l.fdiv g) : g ≠ 0 ∧ g.natAbs ≤ l.natAbs ∧ s ≠ 0 ∧ s.natAbs ≤ l.natAbs ∧ l ∣ t * s := by
  have d1 : g ∣ l := by rw [hg]; exact Int.natAbs_dvd_natAbs.mp (by rw [Int.natAbs_natCast]; exact Nat.gcd_dvd_right _ _)
  have d2 : g ∣ t := by rw [hg]; exact Int.natAbs_dvd_natAbs.mp (by rw [Int.natAbs_natCast]; exact Nat.gcd_dvd_left _ _)
  have g0 : g ≠ 0 := fun z => by rw [z] at d1; exact hl (Int.zero_dvd.mp d1)
  have e := fdiv_dvd g0 d1
  rw [← hs] at e
  have s0 : s ≠ 0 := fun z => by rw [z, Int.zero_mul] at e; exact hl e.symm
  refine ⟨g0, natAbs_le_of_dvd d1 hl, s0, natAbs_le_of_dvd ⟨g, e.symm⟩ hl, ?_⟩
  obtain ⟨u, rfl⟩ := d2
  exact ⟨u, by rw [← e]; grind⟩
theorem dvd_of_fmod {a b : Int} (h : a.fmod b = 0) : b ∣ a := Int.dvd_of_fmod_eq_zero h
theorem bits_mulE {k : Nat} {xs : List Int} {s : Int} {j : Nat} (h : ∀ x ∈ xs, x.natAbs < 2 ^ k) (hs : s.natAbs < 2 ^ j) : ∀ x ∈ (xs.map fun x => x * s), x.natAbs < 2 ^ (k + j) := fun x hx => by
  obtain ⟨y, hy, rfl⟩ := List.mem_map.mp hx
  exact abs_lt_mul (h y hy) hs
theorem SubAt.bits {zs rs ys : List Int} {v : Int} {a j p q : Nat} (m : SubAt zs rs ys v a j) (h1 : ∀ i, (rs.getD i 0).natAbs < 2 ^ (p + q)) (h2 : v.natAbs < 2 ^ p) (h3 : ∀ i, (ys.getD i 0).natAbs < 2 ^ q) (k : Nat) : (zs.getD k 0).natAbs < 2 ^ (p + q + 1) := by
  rw [m.at_]
  have t : (if a ≤ k ∧ k - a < j then v * ys.getD (k - a) 0 else 0).natAbs < 2 ^ (p + q) := by
    split
    · exact abs_lt_mul h2 (h3 _)
    · exact Nat.pow_pos (by decide)
  have z := sz_sub (h1 k) t
  rwa [Nat.max_self] at z
end CB
namespace CB
open PySem PySem.Spec PyProof.Rows L2
/-! ### a quotient is the only one -/
theorem cvS_top {ts js : List Int} {n : Nat} (j0 : 0 < js.length) (h : ∀ i, n < i → ts.getD i 0 = 0) : ∀ m, cvS ts js m (n + js.length - 1) = if n < m then ts.getD n 0 * js.getD (js.length - 1) 0 else 0
  | 0 => by rw [if_neg (by omega)]; rfl
  | m + 1 => by
    rw [cvS, cvS_top j0 h m]
    by_cases c : m = n
    · subst c
      rw [if_neg (Nat.lt_irrefl _), if_pos (show m ≤ m + js.length - 1 by omega), if_pos (show m < m + 1 by omega), show m + js.length - 1 - m = js.length - 1 by omega, Int.zero_add]
    · by_cases c2 : n < m
      · rw [if_pos c2, if_pos (show n < m + 1 by omega), h m c2]
        simp
      · rw [if_neg c2, if_neg (show ¬ n < m + 1 by omega), Int.zero_add]
        split
        · rw [getD_end (xs := js) (by omega), Int.mul_zero]
        · rfl
theorem cv_top {ts js : List Int} {n : Nat} (j0 : 0 < js.length) (h : ∀ i, n < i → ts.getD i 0 = 0) : cv ts js (n + js.length - 1) = ts.getD n 0 * js.getD (js.length - 1) 0 := by
  unfold cv
  rw [cvS_top j0 h]
  by_cases c : n < ts.length
  · rw [if_pos c]
  · rw [if_neg c, getD_end (by omega), Int.zero_mul]
/-- a product that is shorter than the second factor has the first factor 0 -/
theorem cv_cancel {ts js : List Int} (j0 : 0 < js.length) (lz : js.getD (js.length - 1) 0 ≠ 0) (h : ∀ k, js.length ≤ k + 1 → cv ts js k = 0) : ∀ i, ts.getD i 0 = 0 := by
  have main : ∀ d n, ts.length ≤ n + d → ∀ i, n ≤ i → ts.getD i 0 = 0 := by
    intro d
    induction d with
    | zero => intro n hn i hi; exact getD_end (by omega)
    | succ d ih =>
      intro n hn i hi
      have up := ih (n + 1) (by omega)
      by_cases c : i = n
      · subst c
        have z := h (i + js.length - 1) (by omega)
        rw [cv_top j0 (fun k hk => up k (by omega))] at z
        rcases Int.mul_eq_zero.mp z with z | z
        · exact z
        · exact absurd z lz
      · exact up i (by omega)
  exact fun i => main ts.length 0 (by omega) i (Nat.zero_le _)
def linL (xs ys : List Int) (A B : Int) : List Int := (List.range (max xs.length ys.length)).map fun i => xs.getD i 0 * A - ys.getD i 0 * B
theorem linL_at (xs ys : List Int) (A B : Int) (i : Nat) : (linL xs ys A B).getD i 0 = xs.getD i 0 * A - ys.getD i 0 * B := by
  unfold linL
  by_cases c : i < max xs.length ys.length
  · rw [List.getD_eq_getElem?_getD, List.getElem?_map, List.getElem?_range c]; rfl
  · rw [getD_end (xs := xs) (by omega), getD_end (xs := ys) (by omega), getD_end (by rw [List.length_map, List.length_range]; omega)]
    omega
theorem cvS_lin2 {xs ys js : List Int} {A B : Int} (k : Nat) : ∀ n, cvS (linL xs ys A B) js n k = cvS xs js n k * A - cvS ys js n k * B
  | 0 => by simp [cvS]
  | n + 1 => by
    rw [cvS, cvS, cvS, cvS_lin2 k n, linL_at]
    split <;> grind
theorem cv_lin2 {xs ys js : List Int} {A B : Int} (k : Nat) : cv (linL xs ys A B) js k = cv xs js k * A - cv ys js k * B := by
  have l : (linL xs ys A B).length = max xs.length ys.length := by rw [linL, List.length_map, List.length_range]
  have z := cvS_lin2 (xs := xs) (ys := ys) (js := js) (A := A) (B := B) k (max xs.length ys.length)
  rwa [cvS_ge (by omega), cvS_ge (by omega), cvS_ge (by omega)] at z
/-- the quotient of a multiple is the factor -/
theorem quot_uniq {fc qc cs ks js qs rs : List Int} {pd qd e f F : Int} (j0 : 0 < js.length) (lz : js.getD (js.length - 1) 0 ≠ 0) (hcs : ∀ k, cs.getD k 0 = cv fc qc k)
    (hp : ∀ i, ks.getD i 0 * pd = cs.getD i 0 * e) (hq : ∀ i, js.getD i 0 * qd = qc.getD i 0 * f) (heq : ∀ k, F * ks.getD k 0 = cv qs js k + rs.getD k 0) (hhi : ∀ k, js.length ≤ k + 1 → rs.getD k 0 = 0) :
    ∀ i, qs.getD i 0 * f * pd = fc.getD i 0 * qd * (F * e) := by
  have z := cv_cancel (ts := linL qs fc (f * pd) (qd * (F * e))) j0 lz (fun k hk => by
    rw [cv_lin2]
    have h1 := heq k
    rw [hhi k hk, Int.add_zero] at h1
    have h2 : cv fc qc k * f = cv fc js k * qd := by
      have z := cv_conv (as := fc) (bs := qc) (xs := fc) (ys := js) (a := 1) (b := qd) (e := 1) (f := f) (fun i => rfl) (fun i => (hq i).symm) k
      rwa [Int.one_mul, Int.one_mul] at z
    have h3 := hp k
    rw [hcs] at h3
    rw [← h1]
    grind)
  intro i
  have y := z i
  rw [linL_at] at y
  grind
end CB

namespace CB
open PySem PySem.Spec PyProof.Rows L2
/-! ### products and powers of coefficient functions -/
def cf (f g : Nat → Int) (k : Nat) : Int := sumTo (fun i => f i * g (k - i)) (k + 1)
theorem sumTo_rev (F : Nat → Int) : ∀ n, sumTo F n = sumTo (fun i => F (n - 1 - i)) n
  | 0 => rfl
  | n + 1 => by
    rw [sumTo_first (fun i => F (n + 1 - 1 - i)) n]
    show sumTo F n + F n = F (n + 1 - 1 - 0) + sumTo (fun i => F (n + 1 - 1 - (i + 1))) n
    rw [sumTo_rev F n, Int.add_comm]
    have e : n + 1 - 1 - 0 = n := by omega
    rw [e]
    congr 1
    exact sumTo_congr n fun i hi => by
      have : n + 1 - 1 - (i + 1) = n - 1 - i := by omega
      rw [this]
theorem cf_comm (f g : Nat → Int) (k : Nat) : cf f g k = cf g f k := by
  unfold cf
  rw [sumTo_rev]
  exact sumTo_congr _ fun i hi => by
    have e1 : k + 1 - 1 - i = k - i := by omega
    have e2 : k - (k - i) = i := by omega
    rw [e1, e2, Int.mul_comm]
theorem sumTo_tri (F : Nat → Nat → Int) : ∀ n, sumTo (fun i => sumTo (fun j => F i j) (i + 1)) n = sumTo (fun j => sumTo (fun m => F (j + m) j) (n - j)) n
  | 0 => rfl
  | n + 1 => by
    show sumTo (fun i => sumTo (fun j => F i j) (i + 1)) n + sumTo (fun j => F n j) (n + 1) = _
    rw [sumTo_tri F n]
    have e : sumTo (fun j => sumTo (fun m => F (j + m) j) (n + 1 - j)) (n + 1) = sumTo (fun j => sumTo (fun m => F (j + m) j) (n - j) + F n j) (n + 1) := sumTo_congr _ fun j hj => by
      have z : n + 1 - j = (n - j) + 1 := by omega
      rw [z]
      show _ + F (j + (n - j)) j = _
      rw [show j + (n - j) = n by omega]
    rw [e, sumTo_add]
    congr 1
    show _ = sumTo (fun j => sumTo (fun m => F (j + m) j) (n - j)) n + sumTo (fun m => F (n + m) n) (n - n)
    rw [Nat.sub_self]
    exact (Int.add_zero _).symm
theorem sumTo_mulr (c : Int) (f : Nat → Int) (n : Nat) : sumTo (fun i => f i * c) n = sumTo f n * c := by
  rw [Int.mul_comm, ← sumTo_mul]
  exact sumTo_congr n fun i _ => Int.mul_comm _ _
theorem cf_assoc (f g h : Nat → Int) (k : Nat) : cf (cf f g) h k = cf f (cf g h) k := by
  unfold cf
  have e1 : sumTo (fun i => sumTo (fun i_1 => f i_1 * g (i - i_1)) (i + 1) * h (k - i)) (k + 1) = sumTo (fun i => sumTo (fun j => f j * g (i - j) * h (k - i)) (i + 1)) (k + 1) := sumTo_congr _ fun i _ => (sumTo_mulr _ _ _).symm
  rw [e1, sumTo_tri (fun i j => f j * g (i - j) * h (k - i)) (k + 1)]
  exact sumTo_congr _ fun j hj => by
    rw [← sumTo_mul, show k + 1 - j = k - j + 1 by omega]
    exact sumTo_congr _ fun m hm => by
      rw [show j + m - j = m by omega, show k - (j + m) = k - j - m by omega, Int.mul_assoc]
theorem cf_congr {f f' g g' : Nat → Int} (h1 : ∀ i, f i = f' i) (h2 : ∀ i, g i = g' i) (k : Nat) : cf f g k = cf f' g' k := by
  have e1 : f = f' := funext h1
  have e2 : g = g' := funext h2
  rw [e1, e2]
theorem cf_add (f g h : Nat → Int) (k : Nat) : cf f (fun i => g i + h i) k = cf f g k + cf f h k := by
  unfold cf
  rw [← sumTo_add]
  exact sumTo_congr _ fun i _ => Int.mul_add _ _ _
theorem cf_scale (f g : Nat → Int) (c : Int) (k : Nat) : cf f (fun i => c * g i) k = c * cf f g k := by
  unfold cf
  rw [← sumTo_mul]
  exact sumTo_congr _ fun i _ => by rw [Int.mul_left_comm]
/-- the derivative -/
def dv (f : Nat → Int) (k : Nat) : Int := ((k : Int) + 1) * f (k + 1)
theorem dv_cf (f g : Nat → Int) (k : Nat) : dv (cf f g) k = cf (dv f) g k + cf f (dv g) k := by
  -- (k+1) sum_{i<k+2} f i g (k+1-i) = sum i f i g(k+1-i) + sum (k+1-i) f i g (k+1-i)
  have e1 : dv (cf f g) k = sumTo (fun i => (i : Int) * f i * g (k + 1 - i) + (((k + 1 - i : Nat)) : Int) * f i * g (k + 1 - i)) (k + 2) := by
    unfold dv cf
    rw [← sumTo_mul]
    exact sumTo_congr _ fun i hi => by
      have : ((k + 1 - i : Nat) : Int) = (k : Int) + 1 - i := by omega
      rw [this]
      grind
  rw [e1, sumTo_add]
  congr 1
  · rw [sumTo_first]
    rw [show ((0 : Nat) : Int) * f 0 * g (k + 1 - 0) = 0 by simp, Int.zero_add]
    unfold cf dv
    exact sumTo_congr _ fun i hi => by
      rw [show k + 1 - (i + 1) = k - i by omega]
      push_cast
      rfl
  · show sumTo _ (k + 1) + ((k + 1 - (k + 1) : Nat) : Int) * f (k + 1) * g (k + 1 - (k + 1)) = _
    rw [show ((k + 1 - (k + 1) : Nat) : Int) * f (k + 1) * g (k + 1 - (k + 1)) = 0 by rw [Nat.sub_self]; simp, Int.add_zero]
    unfold cf dv
    exact sumTo_congr _ fun i hi => by
      rw [show k + 1 - i = k - i + 1 by omega]
      push_cast
      grind
/-- powers -/
def pwf (f : Nat → Int) : Nat → Nat → Int
  | 0, k => if k = 0 then 1 else 0
  | e + 1, k => cf (pwf f e) f k
theorem pwf_dv (f : Nat → Int) : ∀ e k, cf f (dv (pwf f e)) k = (e : Int) * cf (dv f) (pwf f e) k
  | 0, k => by
    have z : ∀ i, dv (pwf f 0) i = 0 := fun i => by
      unfold dv pwf
      rw [if_neg (by omega), Int.mul_zero]
    have : cf f (dv (pwf f 0)) k = 0 := by
      unfold cf
      exact sumTo_zero _ fun i _ => by rw [z, Int.mul_zero]
    rw [this]
    simp
  | e + 1, k => by
    have ih := pwf_dv f e
    have e1 : ∀ i, dv (pwf f (e + 1)) i = cf (dv (pwf f e)) f i + cf (pwf f e) (dv f) i := fun i => dv_cf (pwf f e) f i
    rw [cf_congr (fun _ => rfl) e1, cf_add]
    have a1 : cf f (cf (dv (pwf f e)) f) k = (e : Int) * cf (dv f) (pwf f (e + 1)) k := by
      rw [← cf_assoc, cf_congr ih (fun _ => rfl), cf_comm, cf_scale, cf_comm, cf_assoc]
      rfl
    have a2 : cf f (cf (pwf f e) (dv f)) k = cf (dv f) (pwf f (e + 1)) k := by
      rw [← cf_assoc, cf_comm, cf_congr (fun _ => rfl) (fun i => cf_comm f (pwf f e) i)]
      rfl
    rw [a1, a2]
    push_cast
    grind
/-- each coefficient of a power from those before it -/
theorem pwf_rec (f : Nat → Int) (e k : Nat) : ((k : Int) + 1) * f 0 * pwf f e (k + 1) = sumTo (fun i => (((e : Int) + 1) * ((i : Int) + 1) - ((k : Int) + 1)) * f (i + 1) * pwf f e (k - i)) (k + 1) := by
  have h := pwf_dv f e k
  unfold cf at h
  rw [sumTo_first, ← sumTo_mul] at h
  -- h: f 0 * dv q k + sum_{i<k} f (i+1) dv q (k-(i+1)) = sum_{i<k+1} e * (dv f i * q (k-i))
  have e1 : sumTo (fun i => (((e : Int) + 1) * ((i : Int) + 1) - ((k : Int) + 1)) * f (i + 1) * pwf f e (k - i)) (k + 1) = sumTo (fun i => (e : Int) * (dv f i * pwf f e (k - i)) + -(((k - i : Nat) : Int) * f (i + 1) * pwf f e (k - i))) (k + 1) := sumTo_congr _ fun i hi => by
    unfold dv
    have : ((k - i : Nat) : Int) = (k : Int) - i := by omega
    rw [this]
    grind
  rw [e1, sumTo_add, ← h]
  have e2 : sumTo (fun i => -(((k - i : Nat) : Int) * f (i + 1) * pwf f e (k - i))) (k + 1) = -sumTo (fun i => f (i + 1) * dv (pwf f e) (k - (i + 1))) k := by
    show sumTo _ k + -(((k - k : Nat) : Int) * f (k + 1) * pwf f e (k - k)) = _
    rw [Nat.sub_self, show -(((0 : Nat) : Int) * f (k + 1) * pwf f e 0) = 0 by simp, Int.add_zero, show -sumTo (fun i => f (i + 1) * dv (pwf f e) (k - (i + 1))) k = (-1) * sumTo (fun i => f (i + 1) * dv (pwf f e) (k - (i + 1))) k by omega, ← sumTo_mul]
    exact sumTo_congr _ fun i hi => by
      unfold dv
      have a : k - (i + 1) + 1 = k - i := by omega
      have b : ((k - (i + 1) : Nat) : Int) + 1 = ((k - i : Nat) : Int) := by omega
      rw [a, b]
      grind
  rw [e2]
  unfold dv
  rw [Nat.sub_zero]
  grind
theorem pwf_zero (f : Nat → Int) : ∀ e, pwf f e 0 = f 0 ^ e
  | 0 => by unfold pwf; rw [if_pos rfl, Int.pow_zero]
  | e + 1 => by
    show cf (pwf f e) f 0 = _
    unfold cf
    show 0 + pwf f e 0 * f 0 = _
    rw [pwf_zero f e, Int.pow_succ, Int.zero_add]
/-- moved up by z places -/
def up (z : Nat) (f : Nat → Int) (k : Nat) : Int := if k < z then 0 else f (k - z)
theorem up_lt {z : Nat} {f : Nat → Int} {k : Nat} (h : k < z) : up z f k = 0 := if_pos h
theorem up_ge {z : Nat} {f : Nat → Int} {k : Nat} (h : ¬ k < z) : up z f k = f (k - z) := if_neg h
theorem sumTo_app (F : Nat → Int) (p : Nat) : ∀ q, sumTo F (p + q) = sumTo F p + sumTo (fun i => F (p + i)) q
  | 0 => (Int.add_zero _).symm
  | q + 1 => by show sumTo F (p + q) + F (p + q) = _ + (_ + _); rw [sumTo_app F p q, Int.add_assoc]
theorem cf_up (f g : Nat → Int) (a b k : Nat) : cf (up a f) (up b g) k = up (a + b) (cf f g) k := by
  by_cases c : k < a + b
  · rw [up_lt c]
    unfold cf
    exact sumTo_zero _ fun i hi => by
      by_cases c1 : i < a
      · rw [up_lt c1, Int.zero_mul]
      · rw [up_lt (show k - i < b by omega), Int.mul_zero]
  · rw [up_ge c]
    unfold cf
    rw [show k + 1 = a + ((k - (a + b) + 1) + b) by omega, sumTo_app, sumTo_app, sumTo_zero a fun i hi => by rw [up_lt hi, Int.zero_mul], sumTo_zero b fun i hi => by
      rw [up_lt (show k - (a + (k - (a + b) + 1 + i)) < b by omega), Int.mul_zero], Int.zero_add, Int.add_zero]
    exact sumTo_congr _ fun i hi => by
      rw [up_ge (show ¬ a + i < a by omega), up_ge (show ¬ k - (a + i) < b by omega), show a + i - a = i by omega, show k - (a + i) - b = k - (a + b) - i by omega]
theorem pwf_up (f : Nat → Int) (z : Nat) : ∀ e k, pwf (up z f) e k = up (z * e) (pwf f e) k
  | 0, k => by
    rw [Nat.mul_zero, up_ge (Nat.not_lt_zero _)]
    rfl
  | e + 1, k => by
    show cf (pwf (up z f) e) (up z f) k = _
    rw [cf_congr (pwf_up f z e) (fun _ => rfl), cf_up, Nat.mul_add, Nat.mul_one]
    rfl
theorem pwf_congr {f g : Nat → Int} (h : ∀ i, f i = g i) (e k : Nat) : pwf f e k = pwf g e k := by
  have : f = g := funext h
  rw [this]
/-- a power's coefficients end -/
theorem pwf_end {f : Nat → Int} {d : Nat} (h : ∀ i, d < i → f i = 0) : ∀ e k, d * e < k → pwf f e k = 0
  | 0, k, hk => by
    unfold pwf
    rw [if_neg (by omega)]
  | e + 1, k, hk => by
    show cf (pwf f e) f k = 0
    unfold cf
    refine sumTo_zero _ fun i hi => ?_
    rw [Nat.mul_add, Nat.mul_one] at hk
    by_cases c : d * e < i
    · rw [pwf_end h e i c, Int.zero_mul]
    · rw [h (k - i) (by omega), Int.mul_zero]
/-- lists -/
abbrev ff (xs : List Int) : Nat → Int := fun i => xs.getD i 0
theorem cvS_sum (xs ys : List Int) (k : Nat) : ∀ n, cvS xs ys n k = sumTo (fun i => if i ≤ k then xs.getD i 0 * ys.getD (k - i) 0 else 0) n
  | 0 => rfl
  | n + 1 => by rw [cvS, cvS_sum xs ys k n]; rfl
theorem sumTo_more {F : Nat → Int} {n : Nat} (h : ∀ i, n ≤ i → F i = 0) : ∀ m, sumTo F (n + m) = sumTo F n
  | 0 => rfl
  | m + 1 => by
    show sumTo F (n + m) + F (n + m) = _
    rw [sumTo_more h m, h _ (by omega), Int.add_zero]
theorem cv_cf (xs ys : List Int) (k : Nat) : cv xs ys k = cf (ff xs) (ff ys) k := by
  have z : cv xs ys k = cvS xs ys (xs.length + (k + 1)) k := (cvS_end k (k + 1)).symm
  rw [z, cvS_sum, Nat.add_comm, sumTo_more fun i hi => if_neg (by omega)]
  unfold cf
  exact sumTo_congr _ fun i hi => if_pos (by omega)
/-- zs is the power e of cs -/
structure IsPow (zs cs : List Int) (e : Nat) : Prop where
  at_ : ∀ k, zs.getD k 0 = pwf (ff cs) e k
theorem IsPow.one {cs : List Int} : IsPow [1] cs 0 := ⟨fun k => by
  unfold pwf
  cases k with
  | zero => rfl
  | succ k => rw [if_neg (by omega), getD_end (by simp)]⟩
theorem IsPow.more {zs ps cs : List Int} {e : Nat} (p : IsPow ps cs e) (m : IsMul zs ps cs) : IsPow zs cs (e + 1) := ⟨fun k => by
  rw [m.at_, cv_cf]
  exact cf_congr p.at_ (fun _ => rfl) k⟩
/-- the power of another pair -/
theorem pwf_conv {f g : Nat → Int} {a b : Int} (h : ∀ i, f i * a = g i * b) : ∀ e k, pwf f e k * a ^ e = pwf g e k * b ^ e
  | 0, k => by rw [Int.pow_zero, Int.pow_zero]; rfl
  | e + 1, k => by
    have ih := pwf_conv h e
    show cf (pwf f e) f k * _ = cf (pwf g e) g k * _
    unfold cf
    rw [← sumTo_mulr, ← sumTo_mulr]
    exact sumTo_congr _ fun i _ => by
      have z1 := ih i
      have z2 := h (k - i)
      rw [Int.pow_succ, Int.pow_succ]
      grind
theorem Pq.power {as ks zs ws ms : List Int} {a b g : Int} {e : Nat} (p : Pq as a ks b) (z : IsPow zs ks e) (w : IsPow ws as e) (q : Pq zs (b ^ e) ms g) : Pq ws (a ^ e) ms g := by
  have b0 := p.pos
  refine q.conv (pow_ne (by omega) e) fun i => ?_
  rw [z.at_, w.at_]
  exact pwf_conv (f := ff ks) (g := ff as) p.eq e i
end CB

namespace CB.Z
open PySem PySem.Spec PyProof.Rows L2
/-- the reading of a comprehension over enumerate of a tuple -/
theorem lc_enT {K : PySem.W.Frag} {a : Addr} {xs : List V} {g : TG} {tt : TT} {te : TE} {vs : List Nat} {σ : L2.St} {H1 : Hp} {D : Addr} {Qd : Hp → Prop} (Pv : Nat → Hp → Prop) (h0 : Pv 0 (upd H1 D (.lst [])))
    (hq : ∀ i H, Pv i H → SqT K H a xs)
    (hs : ∀ i x T H, xs[i]? = some x → Pv i H → H T = none → g (.ref T) (wipe σ vs) (upd H T (.tup [.int (i : Nat), x])) fun σ2 H2 => wipe σ2 vs = wipe σ vs ∧ tt σ2 H2 fun k H3 =>
      if k = true then te σ2 H3 fun y H4 => ∃ acc, H4 D = some (.lst acc) ∧ acc.length < sizeLine ∧ Pv (i + 1) (upd H4 D (.lst (acc ++ [y]))) else Pv (i + 1) H3)
    (hd : ∀ H, Pv xs.length H → Qd H) :
    ∃ W : Nat → Nat → Hp → Prop, (∃ m, W 0 m (upd H1 D (.lst []))) ∧ ∀ i m H, W i m H →
      ((IteT K a xs).stop i H ∧ Qd H) ∨ ((IteT K a xs).go i H ∧ ∃ Nx : Hp → Prop, (∀ H', Nx H' → ∃ m', m' < m ∧ W (i + 1) m' H') ∧
        ∀ x H', (IteT K a xs).yld i H x H' → g x (wipe σ vs) H' fun σ2 H2 => wipe σ2 vs = wipe σ vs ∧ tt σ2 H2 fun k H3 =>
          if k = true then te σ2 H3 fun y H4 => ∃ acc, H4 D = some (.lst acc) ∧ acc.length < sizeLine ∧ Nx (upd H4 D (.lst (acc ++ [y]))) else Nx H3) := by
  refine ⟨fun i m H => m = xs.length - i ∧ i ≤ xs.length ∧ Pv i H, ⟨_, rfl, Nat.zero_le _, h0⟩, fun i m H hw => ?_⟩
  obtain ⟨rfl, hi, p⟩ := hw
  have qa := hq i H p
  by_cases lt : i < xs.length
  · refine .inr ⟨⟨qa, lt⟩, Pv (i + 1), fun H' p' => ⟨_, by omega, rfl, lt, p'⟩, fun x H' y => ?_⟩
    obtain ⟨T, z, hz, rfl, nT, rfl⟩ := y
    exact hs i z T H hz p nT
  · have e : i = xs.length := by omega
    subst e
    exact .inl ⟨⟨qa, Nat.le_refl _⟩, hd H p⟩
end CB.Z
namespace CB
open PySem PySem.Spec PyProof.Rows L2 CB.Z
/-! ### the power's terms -/
def tS (g : Int → Int) : List (Addr × Int × Int) → Int
  | [] => 0
  | t :: r => g t.2.1 * t.2.2 + tS g r
theorem tS_app (g : Int → Int) (t : Addr × Int × Int) : ∀ xs, tS g (xs ++ [t]) = tS g xs + g t.2.1 * t.2.2
  | [] => by simp [tS]
  | x :: r => by
    show _ + tS g (r ++ [t]) = _ + _ + _
    rw [tS_app g t r, Int.add_assoc]
theorem sumTo_bits {F : Nat → Int} {b : Nat} : ∀ n, (∀ i, i < n → (F i).natAbs < 2 ^ b) → (sumTo F n).natAbs < 2 ^ (b + n)
  | 0, _ => Nat.pow_pos (by decide)
  | n + 1, h => by
    have ih := sumTo_bits n fun i hi => h i (by omega)
    refine abs_mono (sz_add ih (h n (by omega))) ?_
    omega
theorem pwf_bits {f : Nat → Int} {k n : Nat} (h1 : ∀ i, (f i).natAbs < 2 ^ k) (h2 : ∀ i, n ≤ i → f i = 0) : ∀ e j, (pwf f e j).natAbs < 2 ^ ((k + n) * e + 1)
  | 0, j => by
    unfold pwf
    split
    · exact Nat.lt_of_lt_of_le (show 1 < 2 ^ 1 by decide) (Nat.pow_le_pow_right (by decide) (by omega))
    · exact Nat.pow_pos (by decide)
  | e + 1, j => by
    show (cf (pwf f e) f j).natAbs < _
    rw [cf_comm]
    unfold cf
    have ih := pwf_bits h1 h2 e
    have tb : ∀ i, (f i * pwf f e (j - i)).natAbs < 2 ^ (k + ((k + n) * e + 1)) := fun i => abs_lt_mul (h1 i) (ih _)
    have e1 : (k + n) * (e + 1) = (k + n) * e + (k + n) := by rw [Nat.mul_add, Nat.mul_one]
    by_cases c : n ≤ j + 1
    · rw [show j + 1 = n + (j + 1 - n) by omega, sumTo_more fun i hi => by rw [h2 i hi, Int.zero_mul]]
      exact abs_mono (sumTo_bits n fun i _ => tb i) (by omega)
    · exact abs_mono (sumTo_bits (j + 1) fun i _ => tb i) (by omega)
/-- the next coefficient, by the terms -/
theorem pow_next {f : Nat → Int} {e k d : Nat} {q : Nat → Int} (hq : ∀ i, i < k + 1 → q i = pwf f e i) (S : Int) (hf : ∀ i, d < i → f i = 0)
    (hS : S = sumTo (fun t => if 0 < t then (if (t : Int) ≤ ((k + 1 : Nat) : Int) then (((e : Int) + 1) * (t : Int) - ((k + 1 : Nat) : Int)) * q (k + 1 - t) else 0) * f t else 0) (d + 1)) :
    S = (((k + 1 : Nat) : Int) * f 0) * pwf f e (k + 1) := by
  have r := pwf_rec f e k
  rw [show (((k + 1 : Nat) : Int)) = (k : Int) + 1 by omega, r, hS, sumTo_first, if_neg (Nat.lt_irrefl 0), Int.zero_add]
  -- both sides over max
  have a1 : sumTo (fun i => if 0 < i + 1 then (if ((i + 1 : Nat) : Int) ≤ ((k + 1 : Nat) : Int) then (((e : Int) + 1) * ((i + 1 : Nat) : Int) - ((k + 1 : Nat) : Int)) * q (k + 1 - (i + 1)) else 0) * f (i + 1) else 0) d
      = sumTo (fun i => (if i < k + 1 then (((e : Int) + 1) * ((i : Int) + 1) - ((k : Int) + 1)) * f (i + 1) * pwf f e (k - i) else 0)) d := sumTo_congr d fun i hi => by
    rw [if_pos (by omega)]
    by_cases c : i < k + 1
    · rw [if_pos (by omega), if_pos c, hq _ (by omega), show k + 1 - (i + 1) = k - i by omega]
      push_cast
      grind
    · rw [if_neg (by omega), if_neg c, Int.zero_mul]
  rw [a1]
  by_cases c : d ≤ k + 1
  · rw [show k + 1 = d + (k + 1 - d) by omega, sumTo_more fun i hi => by rw [hf (i + 1) (by omega)]; simp]
    exact sumTo_congr d fun i hi => by rw [if_pos (by omega)]
  · rw [show d = (k + 1) + (d - (k + 1)) by omega, sumTo_more fun i hi => if_neg (by omega)]
    exact sumTo_congr _ fun i hi => by rw [if_pos hi]
theorem fdiv_exact {a b c : Int} (h : a = b * c) (hb : b ≠ 0) : a.fdiv b = c := by
  rw [h]
  exact Int.mul_fdiv_cancel_left c hb
/-- the power of a polynomial whose first coefficients are 0 -/
theorem pow_zeros {cs : List Int} {z e : Nat} (h : ∀ i, i < z → cs.getD i 0 = 0) (k : Nat) : pwf (ff cs) e k = up (z * e) (pwf (fun i => cs.getD (z + i) 0) e) k := by
  rw [← pwf_up]
  refine pwf_congr (fun i => ?_) e k
  by_cases c : i < z
  · rw [up_lt c]; exact h i c
  · rw [up_ge c]
    show cs.getD i 0 = cs.getD (z + (i - z)) 0
    rw [show z + (i - z) = i by omega]
end CB

namespace CB
open PySem PySem.Spec PyProof.Rows L2
/-! ### values of polynomials -/
/-- the value of a polynomial, from the highest power -/
def evL (x : Int) : List Int → Int
  | [] => 0
  | c :: r => evL x r * x + c
theorem evL_bits {x : Int} {k j : Nat} (hx : x.natAbs < 2 ^ j) : ∀ {cs : List Int}, (∀ c ∈ cs, c.natAbs < 2 ^ k) → (evL x cs).natAbs < 2 ^ (k + (j + 1) * cs.length + 1)
  | [], _ => by simp [evL]; exact Nat.pow_pos (by decide)
  | c :: r, h => by
    have ih := evL_bits hx (cs := r) fun y hy => h y (by simp [hy])
    have z := sz_add (abs_lt_mul ih hx) (h c (by simp))
    rw [evL]
    refine abs_mono z ?_
    rw [List.length_cons]
    have : (j + 1) * (r.length + 1) = (j + 1) * r.length + (j + 1) := by rw [Nat.mul_add, Nat.mul_one]
    omega
theorem drop_rev {cs : List Int} {i : Nat} {c : Int} (h : cs[cs.length - 1 - i]? = some c) (hi : i < cs.length) : cs.drop (cs.length - (i + 1)) = c :: cs.drop (cs.length - i) := by
  have e : cs.length - (i + 1) = cs.length - 1 - i := by omega
  have lt : cs.length - 1 - i < cs.length := by omega
  rw [e, List.drop_eq_getElem_cons lt]
  rw [List.getElem?_eq_getElem lt] at h
  rw [Option.some.inj h]
  congr 2
  omega
/-- the value at num / den, times den to the length -/
def vaL (num den : Int) : List Int → Int
  | [] => 0
  | c :: r => vaL num den r * num + c * den ^ (r.length + 1)
def vaT (num den : Int) (cs : List Int) (N : Nat) (j : Nat) : Int := cs.getD j 0 * num ^ j * den ^ (N - j)
theorem vaL_sum (num den : Int) : ∀ cs : List Int, vaL num den cs = sumTo (vaT num den cs cs.length) cs.length
  | [] => rfl
  | c :: r => by
    show vaL num den r * num + c * den ^ (r.length + 1) = sumTo _ (r.length + 1)
    rw [sumTo_first, vaL_sum num den r, ← sumTo_mulr, Int.add_comm]
    congr 1
    · show _ = c * num ^ 0 * den ^ (r.length + 1 - 0)
      rw [Int.pow_zero, Int.mul_one, Nat.sub_zero]
    · exact sumTo_congr _ fun i hi => by
        show r.getD i 0 * num ^ i * den ^ (r.length - i) * num = r.getD i 0 * num ^ (i + 1) * den ^ (r.length + 1 - (i + 1))
        rw [Int.pow_succ, show r.length + 1 - (i + 1) = r.length - i by omega]
        grind
/-- values of equal polynomials at equal numbers -/
theorem va_conv {ks cs : List Int} {n f u b d e : Int} (hc : ∀ i, ks.getD i 0 * d = cs.getD i 0 * e) (hx : n * b = u * f) (d0 : d ≠ 0) (e0 : e ≠ 0) :
    vaL n f ks * (d * b ^ cs.length) = vaL u b cs * (e * f ^ ks.length) := by
  have pw_ : ∀ j, n ^ j * b ^ j = u ^ j * f ^ j := fun j => by rw [← mul_pow_int, ← mul_pow_int, hx]
  have e1 : vaL n f ks = sumTo (vaT n f ks ks.length) (ks.length + cs.length) := by rw [vaL_sum, sumTo_more fun i hi => by unfold vaT; rw [getD_end hi]; simp]
  have e2 : vaL u b cs = sumTo (vaT u b cs cs.length) (ks.length + cs.length) := by rw [vaL_sum, Nat.add_comm, sumTo_more fun i hi => by unfold vaT; rw [getD_end hi]; simp]
  rw [e1, e2, ← sumTo_mulr, ← sumTo_mulr]
  refine sumTo_congr _ fun j _ => ?_
  unfold vaT
  have h := hc j
  by_cases c1 : j < ks.length
  · by_cases c2 : j < cs.length
    · have a1 : b ^ cs.length = b ^ j * b ^ (cs.length - j) := by rw [← Int.pow_add]; congr 1; omega
      have a2 : f ^ ks.length = f ^ j * f ^ (ks.length - j) := by rw [← Int.pow_add]; congr 1; omega
      rw [a1, a2]
      have a3 := pw_ j
      calc _ = (ks.getD j 0 * d) * (n ^ j * b ^ j) * (f ^ (ks.length - j) * b ^ (cs.length - j)) := by grind
        _ = (cs.getD j 0 * e) * (u ^ j * f ^ j) * (f ^ (ks.length - j) * b ^ (cs.length - j)) := by rw [h, a3]
        _ = _ := by grind
    · rw [getD_end (xs := cs) (by omega), Int.zero_mul] at h
      have z : ks.getD j 0 = 0 := by rcases Int.mul_eq_zero.mp h with z | z; exact z; exact absurd z d0
      rw [z, getD_end (xs := cs) (by omega)]
      simp
  · rw [getD_end (xs := ks) (by omega), Int.zero_mul] at h
    have z : cs.getD j 0 = 0 := by rcases Int.mul_eq_zero.mp h.symm with z | z; exact z; exact absurd z e0
    rw [z, getD_end (xs := ks) (by omega)]
    simp
theorem evL_va (x : Int) : ∀ cs, evL x cs = vaL x 1 cs
  | [] => rfl
  | c :: r => by
    show evL x r * x + c = vaL x 1 r * x + c * 1 ^ (r.length + 1)
    rw [evL_va x r, Int.one_pow, Int.mul_one]
/-- what the law's sum says -/
structure DuAt (num den : Int) (cs : List Int) (top bl : Int) : Prop where
  eq : top * den ^ cs.length = bl * vaL num den cs
  b0 : 0 < bl
  tb : top.natAbs < 2 ^ 4000
  bb : bl.natAbs < 2 ^ 2000
theorem DuAt.fq {n f u b d e top bl : Int} {ks cs : List Int} (m : DuAt u b cs top bl) (hc : ∀ i, ks.getD i 0 * d = cs.getD i 0 * e) (hx : n * b = u * f) (d0 : d ≠ 0) (e0 : e ≠ 0) (b0 : b ≠ 0) :
    vaL n f ks * (bl * d) = top * (e * f ^ ks.length) := by
  have h := va_conv hc hx d0 e0
  have h2 := m.eq
  apply Int.eq_of_mul_eq_mul_right (pow_ne b0 cs.length)
  calc _ = bl * (vaL n f ks * (d * b ^ cs.length)) := by grind
    _ = (bl * vaL u b cs) * (e * f ^ ks.length) := by rw [h]; grind
    _ = _ := by rw [← h2]; grind
end CB

namespace CB
open PySem PySem.Spec PyProof.Rows L2 CB.Z
local macro_rules | `(tactic| walk_at "cb sz") => `(tactic| first
  | assumption
  | (apply abs_lt_mul <;> walk_at "cb sz")
  | (apply sz_add <;> walk_at "cb sz")
  | (apply sz_sub <;> walk_at "cb sz")
  | (apply sz_neg <;> walk_at "cb sz")
  | (show _ < 2 ^ 64; decide)
  | (show _ < 2 ^ 128; decide)
  | (show _ < 2 ^ 144; decide)
  | (show _ < 2 ^ 250; decide))
local macro_rules | `(tactic| walk_at "cb size") => `(tactic| (apply abs_mono <;> first | walk_at "cb sz" | decide))
local macro_rules | `(tactic| walk_at "cb mul") => `(tactic| (apply mulW <;> first | walk_at "cb sz" | decide))
local macro_rules | `(tactic| walk_at "cb ne") => `(tactic| first
  | omega
  | (apply Int.mul_ne_zero <;> walk_at "cb ne"))
def top (i : Nat) : Stmt := PySem.Challenge.pw_certsums_k08_poly_values.main.body.getD i (.Pass ⟨0, 0, 0, 0⟩)
abbrev mth (i j : Nat) : Stmt := inClass (top i) j
abbrev s__law_numbers : Stmt := top 27
abbrev N__law_numbers : List Str := ["script", "count", "rest", "by_digits", "numbers", "k", "cell"]
theorem sc__law_numbers : FnScope N__law_numbers ["script", "count"] (defScope s__law_numbers) := ⟨rfl, rfl, rfl, by decide +kernel, rfl, by decide +kernel, by decide +kernel⟩
abbrev d__law_numbers : DefG := ⟨fun K => He.fAd K ("_law_numbers", none), "_law_numbers", "_law_numbers", defArgs s__law_numbers, defBody s__law_numbers, defScope s__law_numbers, []⟩
abbrev s_trimmed : Stmt := top 10
abbrev N_trimmed : List Str := ["coefs", "length"]
theorem sc_trimmed : FnScope N_trimmed ["coefs"] (defScope s_trimmed) := ⟨rfl, rfl, rfl, by decide +kernel, rfl, by decide +kernel, by decide +kernel⟩
abbrev d_trimmed : DefG := ⟨fun K => He.fAd K ("trimmed", none), "trimmed", "trimmed", defArgs s_trimmed, defBody s_trimmed, defScope s_trimmed, []⟩
abbrev s_common_factor : Stmt := top 9
abbrev N_common_factor : List Str := ["numbers", "found", "number"]
theorem sc_common_factor : FnScope N_common_factor ["numbers"] (defScope s_common_factor) := ⟨rfl, rfl, rfl, by decide +kernel, rfl, by decide +kernel, by decide +kernel⟩
abbrev d_common_factor : DefG := ⟨fun K => He.fAd K ("common_factor", none), "common_factor", "common_factor", defArgs s_common_factor, defBody s_common_factor, defScope s_common_factor, []⟩
abbrev s_Poly___init__ : Stmt := mth 24 0
abbrev N_Poly___init__ : List Str := ["self", "coefs", "den", "kept", "common", "c"]
theorem sc_Poly___init__ : FnScope N_Poly___init__ ["self", "coefs", "den"] (defScope s_Poly___init__) := ⟨rfl, rfl, rfl, by decide +kernel, rfl, by decide +kernel, by decide +kernel⟩
abbrev d_Poly___init__ : DefG := ⟨fun K => He.fAd K ("Poly", some "__init__"), "__init__", "Poly.__init__", defArgs s_Poly___init__, defBody s_Poly___init__, defScope s_Poly___init__, [.int 1]⟩
abbrev s__law_sum_at : Stmt := top 32
abbrev N__law_sum_at : List Str := ["coefs", "num", "den", "top", "below", "power_num", "power_den", "number"]
theorem sc__law_sum_at : FnScope N__law_sum_at ["coefs", "num", "den"] (defScope s__law_sum_at) := ⟨rfl, rfl, rfl, by decide +kernel, rfl, by decide +kernel, by decide +kernel⟩
abbrev d__law_sum_at : DefG := ⟨fun K => He.fAd K ("_law_sum_at", none), "_law_sum_at", "_law_sum_at", defArgs s__law_sum_at, defBody s__law_sum_at, defScope s__law_sum_at, []⟩
abbrev s_evaluated : Stmt := top 12
abbrev N_evaluated : List Str := ["coefs", "at", "total", "c"]
theorem sc_evaluated : FnScope N_evaluated ["coefs", "at"] (defScope s_evaluated) := ⟨rfl, rfl, rfl, by decide +kernel, rfl, by decide +kernel, by decide +kernel⟩
abbrev d_evaluated : DefG := ⟨fun K => He.fAd K ("evaluated", none), "evaluated", "evaluated", defArgs s_evaluated, defBody s_evaluated, defScope s_evaluated, []⟩
abbrev s_Fraction___init__ : Stmt := mth 21 0
abbrev N_Fraction___init__ : List Str := ["self", "num", "den", "common"]
theorem sc_Fraction___init__ : FnScope N_Fraction___init__ ["self", "num", "den"] (defScope s_Fraction___init__) := ⟨rfl, rfl, rfl, by decide +kernel, rfl, by decide +kernel, by decide +kernel⟩
abbrev d_Fraction___init__ : DefG := ⟨fun K => He.fAd K ("Fraction", some "__init__"), "__init__", "Fraction.__init__", defArgs s_Fraction___init__, defBody s_Fraction___init__, defScope s_Fraction___init__, [.int 1]⟩
abbrev s_Poly_at : Stmt := mth 24 10
abbrev N_Poly_at : List Str := ["self", "k"]
theorem sc_Poly_at : FnScope N_Poly_at ["self", "k"] (defScope s_Poly_at) := ⟨rfl, rfl, rfl, by decide +kernel, rfl, by decide +kernel, by decide +kernel⟩
abbrev d_Poly_at : DefG := ⟨fun K => He.fAd K ("Poly", some "at"), "at", "Poly.at", defArgs s_Poly_at, defBody s_Poly_at, defScope s_Poly_at, []⟩
abbrev s__law_is_integer : Stmt := top 28
abbrev N__law_is_integer : List Str := ["x"]
theorem sc__law_is_integer : FnScope N__law_is_integer ["x"] (defScope s__law_is_integer) := ⟨rfl, rfl, rfl, by decide +kernel, rfl, by decide +kernel, by decide +kernel⟩
abbrev d__law_is_integer : DefG := ⟨fun K => He.fAd K ("_law_is_integer", none), "_law_is_integer", "_law_is_integer", defArgs s__law_is_integer, defBody s__law_is_integer, defScope s__law_is_integer, []⟩
abbrev s__law_divisor : Stmt := top 29
abbrev N__law_divisor : List Str := ["a", "b", "rest"]
theorem sc__law_divisor : FnScope N__law_divisor ["a", "b"] (defScope s__law_divisor) := ⟨rfl, rfl, rfl, by decide +kernel, rfl, by decide +kernel, by decide +kernel⟩
abbrev d__law_divisor : DefG := ⟨fun K => He.fAd K ("_law_divisor", none), "_law_divisor", "_law_divisor", defArgs s__law_divisor, defBody s__law_divisor, defScope s__law_divisor, []⟩
abbrev s__law_is : Stmt := top 31
abbrev N__law_is : List Str := ["x", "num", "den"]
theorem sc__law_is : FnScope N__law_is ["x", "num", "den"] (defScope s__law_is) := ⟨rfl, rfl, rfl, by decide +kernel, rfl, by decide +kernel, by decide +kernel⟩
abbrev d__law_is : DefG := ⟨fun K => He.fAd K ("_law_is", none), "_law_is", "_law_is", defArgs s__law_is, defBody s__law_is, defScope s__law_is, []⟩
abbrev s_Poly_value : Stmt := mth 24 11
abbrev N_Poly_value : List Str := ["self", "x", "total", "scale", "c"]
theorem sc_Poly_value : FnScope N_Poly_value ["self", "x"] (defScope s_Poly_value) := ⟨rfl, rfl, rfl, by decide +kernel, rfl, by decide +kernel, by decide +kernel⟩
abbrev d_Poly_value : DefG := ⟨fun K => He.fAd K ("Poly", some "value"), "value", "Poly.value", defArgs s_Poly_value, defBody s_Poly_value, defScope s_Poly_value, []⟩
abbrev s_Poly_scaled : Stmt := mth 24 12
abbrev N_Poly_scaled : List Str := ["self", "factor", "c"]
theorem sc_Poly_scaled : FnScope N_Poly_scaled ["self", "factor"] (defScope s_Poly_scaled) := ⟨rfl, rfl, rfl, by decide +kernel, rfl, by decide +kernel, by decide +kernel⟩
abbrev d_Poly_scaled : DefG := ⟨fun K => He.fAd K ("Poly", some "scaled"), "scaled", "Poly.scaled", defArgs s_Poly_scaled, defBody s_Poly_scaled, defScope s_Poly_scaled, []⟩
abbrev s__law_poly_is : Stmt := top 30
abbrev N__law_poly_is : List Str := ["p", "coefs", "den", "shared", "number", "size", "mine", "due", "k"]
theorem sc__law_poly_is : FnScope N__law_poly_is ["p", "coefs", "den"] (defScope s__law_poly_is) := ⟨rfl, rfl, rfl, by decide +kernel, rfl, by decide +kernel, by decide +kernel⟩
abbrev d__law_poly_is : DefG := ⟨fun K => He.fAd K ("_law_poly_is", none), "_law_poly_is", "_law_poly_is", defArgs s__law_poly_is, defBody s__law_poly_is, defScope s__law_poly_is, []⟩
abbrev s__law_product : Stmt := top 33
abbrev N__law_product : List Str := ["a", "b", "result", "i", "j", "k"]
theorem sc__law_product : FnScope N__law_product ["a", "b"] (defScope s__law_product) := ⟨rfl, rfl, rfl, by decide +kernel, rfl, by decide +kernel, by decide +kernel⟩
abbrev d__law_product : DefG := ⟨fun K => He.fAd K ("_law_product", none), "_law_product", "_law_product", defArgs s__law_product, defBody s__law_product, defScope s__law_product, []⟩
abbrev s_power_of : Stmt := top 8
abbrev N_power_of : List Str := ["base", "exponent", "found"]
theorem sc_power_of : FnScope N_power_of ["base", "exponent"] (defScope s_power_of) := ⟨rfl, rfl, rfl, by decide +kernel, rfl, by decide +kernel, by decide +kernel⟩
abbrev d_power_of : DefG := ⟨fun K => He.fAd K ("power_of", none), "power_of", "power_of", defArgs s_power_of, defBody s_power_of, defScope s_power_of, []⟩
abbrev s_powered : Stmt := top 19
abbrev N_powered : List Str := ["coefs", "exponent", "zeros", "first", "terms", "found", "k", "total", "i", "c"]
theorem sc_powered : FnScope N_powered ["coefs", "exponent"] (defScope s_powered) := ⟨rfl, rfl, rfl, by decide +kernel, rfl, by decide +kernel, by decide +kernel⟩
abbrev d_powered : DefG := ⟨fun K => He.fAd K ("powered", none), "powered", "powered", defArgs s_powered, defBody s_powered, defScope s_powered, []⟩
abbrev s_Poly_power : Stmt := mth 24 14
abbrev N_Poly_power : List Str := ["self", "exponent"]
theorem sc_Poly_power : FnScope N_Poly_power ["self", "exponent"] (defScope s_Poly_power) := ⟨rfl, rfl, rfl, by decide +kernel, rfl, by decide +kernel, by decide +kernel⟩
abbrev d_Poly_power : DefG := ⟨fun K => He.fAd K ("Poly", some "power"), "power", "Poly.power", defArgs s_Poly_power, defBody s_Poly_power, defScope s_Poly_power, []⟩
abbrev s_law : Stmt := top 34
abbrev N_law : List Str := ["script", "numbers", "coefs", "k", "den", "p", "due", "num", "below", "exponent", "product", "scale", "i", "number"]
theorem sc_law : FnScope N_law ["script"] (defScope s_law) := ⟨rfl, rfl, rfl, by decide +kernel, rfl, by decide +kernel, by decide +kernel⟩
abbrev d_law : DefG := ⟨fun K => He.fAd K ("law", none), "law", "law", defArgs s_law, defBody s_law, defScope s_law, []⟩
/-- what the written part says of this text -/
structure Tx (K : PySem.W.Frag) (mg : Str → Option Value) : Prop where
  cls_Fraction : Cls K (He.ga K "Fraction")
  cls_Poly : Cls K (He.ga K "Poly")
  d_Fraction___init__ : Dn K d_Fraction___init__
  d_Poly___init__ : Dn K d_Poly___init__
  d_Poly_at : Dn K d_Poly_at
  d_Poly_power : Dn K d_Poly_power
  d_Poly_scaled : Dn K d_Poly_scaled
  d_Poly_value : Dn K d_Poly_value
  d__law_divisor : Dn K d__law_divisor
  d__law_is : Dn K d__law_is
  d__law_is_integer : Dn K d__law_is_integer
  d__law_numbers : Dn K d__law_numbers
  d__law_poly_is : Dn K d__law_poly_is
  d__law_product : Dn K d__law_product
  d__law_sum_at : Dn K d__law_sum_at
  d_common_factor : Dn K d_common_factor
  d_evaluated : Dn K d_evaluated
  d_law : Dn K d_law
  d_power_of : Dn K d_power_of
  d_powered : Dn K d_powered
  d_trimmed : Dn K d_trimmed
  g_DivisionByZero : mg "DivisionByZero" = some (.ref (He.ga K "DivisionByZero"))
  g_Fraction : mg "Fraction" = some (.ref (He.ga K "Fraction"))
  g_Poly : mg "Poly" = some (.ref (He.ga K "Poly"))
  g__law_divisor : mg "_law_divisor" = some (.ref (He.fAd K ("_law_divisor", none)))
  g__law_is : mg "_law_is" = some (.ref (He.fAd K ("_law_is", none)))
  g__law_is_integer : mg "_law_is_integer" = some (.ref (He.fAd K ("_law_is_integer", none)))
  g__law_numbers : mg "_law_numbers" = some (.ref (He.fAd K ("_law_numbers", none)))
  g__law_poly_is : mg "_law_poly_is" = some (.ref (He.fAd K ("_law_poly_is", none)))
  g__law_product : mg "_law_product" = some (.ref (He.fAd K ("_law_product", none)))
  g__law_sum_at : mg "_law_sum_at" = some (.ref (He.fAd K ("_law_sum_at", none)))
  g_common_factor : mg "common_factor" = some (.ref (He.fAd K ("common_factor", none)))
  g_evaluated : mg "evaluated" = some (.ref (He.fAd K ("evaluated", none)))
  g_gcd : mg "gcd" = some (.builtin "math.gcd")
  g_law : mg "law" = some (.ref (He.fAd K ("law", none)))
  g_power_of : mg "power_of" = some (.ref (He.fAd K ("power_of", none)))
  g_powered : mg "powered" = some (.ref (He.fAd K ("powered", none)))
  g_trimmed : mg "trimmed" = some (.ref (He.fAd K ("trimmed", none)))
  k_DivisionByZero : PySem.W.keepIn K (.ref (He.ga K "DivisionByZero")) = true
  m_Poly_at : Meth K (He.ga K "Poly") "at" (He.fAd K ("Poly", some "at"))
  m_Poly_power : Meth K (He.ga K "Poly") "power" (He.fAd K ("Poly", some "power"))
  m_Poly_scaled : Meth K (He.ga K "Poly") "scaled" (He.fAd K ("Poly", some "scaled"))
  m_Poly_value : Meth K (He.ga K "Poly") "value" (He.fAd K ("Poly", some "value"))
  mk_Fraction : Mk K (He.ga K "Fraction") (He.fAd K ("Fraction", some "__init__"))
  mk_Poly : Mk K (He.ga K "Poly") (He.fAd K ("Poly", some "__init__"))
  n_Fraction_den : NoAttr K (He.ga K "Fraction") "den"
  n_Fraction_num : NoAttr K (He.ga K "Fraction") "num"
  n_Poly_coefs : NoAttr K (He.ga K "Poly") "coefs"
  n_Poly_den : NoAttr K (He.ga K "Poly") "den"
  r_DivisionByZero : ∀ {X : Cx}, X.K = K → Raises X (.ref (He.ga K "DivisionByZero"))
  ty_Fraction : ∀ {H : Hp} {a dx : Addr} {fs : List (Str × V)}, H a = some (.ins (He.ga K "Fraction") dx fs) → TyX K H (.ref a) (.ref (He.ga K "Fraction"))
  ty_Poly : ∀ {H : Hp} {a dx : Addr} {fs : List (Str × V)}, H a = some (.ins (He.ga K "Poly") dx fs) → TyX K H (.ref a) (.ref (He.ga K "Poly"))
  x_DivisionByZero : PySem.W.excIn K (He.ga K "DivisionByZero") He.veBase "ValueError.__new__" = true
  z_abs : mg "abs" = none
  z_bool : mg "bool" = none
  z_enumerate : mg "enumerate" = none
  z_int : mg "int" = none
  z_isinstance : mg "isinstance" = none
  z_len : mg "len" = none
  z_list : mg "list" = none
  z_max : mg "max" = none
  z_range : mg "range" = none
  z_reversed : mg "reversed" = none
  z_sum : mg "sum" = none
  z_tuple : mg "tuple" = none

/-! ### what the defs promise -/
abbrev CF (K : PySem.W.Frag) : Addr := He.ga K "Fraction"
abbrev CD (K : PySem.W.Frag) : Value := .ref (He.ga K "DivisionByZero")
/-- a Fraction at a: its numerator and denominator -/
abbrev fsF (n d : Int) : List (Str × V) := [("num", .int n), ("den", .int d)]
/-- in lowest terms and of at most k bits -/
structure Lw (k : Nat) (n d : Int) : Prop where
  pos : 0 < d
  cop : Cop n d
  bn : n.natAbs < 2 ^ k
  bd : d.natAbs < 2 ^ k
theorem Lw.fq {k : Nat} {n d : Int} (l : Lw k n d) : Fq n d n d := ⟨rfl, l.pos, l.cop⟩
theorem Lw.ne {k : Nat} {n d : Int} (l : Lw k n d) : d ≠ 0 := by have := l.pos; omega
theorem Lw.mono {k j : Nat} {n d : Int} (l : Lw k n d) (h : k ≤ j) : Lw j n d := ⟨l.pos, l.cop, abs_mono l.bn h, abs_mono l.bd h⟩
theorem lw_of {k : Nat} {n d a b : Int} (f : Fq n d a b) (hd : d ≠ 0) (hn : n.natAbs < 2 ^ k) (hk : d.natAbs < 2 ^ k) : Lw k a b :=
  ⟨f.pos, f.cop, Nat.lt_of_le_of_lt (f.num_le hd) hn, Nat.lt_of_le_of_lt (f.den_le hd) hk⟩
/-- the value is a new Fraction n / d -/
theorem same_mut {H H2 : Hp} {p : Addr} {o : HO} (sm : Same H H2) (np : H p = none) : Same H (upd H2 p o) := fun b x e => by
  rw [upd_ne (ne_of_none e np)]
  exact sm _ _ e
theorem same_made0 {H : Hp} {p dp C : Addr} (np : H p = none) (nd : H dp = none) : Same H (upd (upd H dp (.own p)) p (.ins C dp [])) := fun b x e => by
  rw [upd_ne (ne_of_none e np), upd_ne (ne_of_none e nd)]
  exact e
/-- Fraction(..), its values all written or with the default; nothing is raised -/
def mkFr (K : PySem.W.Frag) (dvs : List V) : List V → Hp → VK → Prop := fun vs H1 Q => ∃ (n d : Int) (k : Nat), vs ++ dvs = [.int n, .int d] ∧ d.natAbs < 2 ^ k ∧ k ≤ 8000 ∧ d ≠ 0 ∧
  ∀ p dp H2 a b, Same H1 H2 → H1 p = none → H2 p = some (.ins (CF K) dp (fsF a b)) → Fq n d a b → Q (.ref p) H2
/-- .. in a try's body: W is wished of an exception, with the slots -/
def mkFrS (K : PySem.W.Frag) (dvs : List V) (W : WX) : L2.St → List V → Hp → VK → Prop := fun σ vs H1 Q => ∃ (n d : Int) (k : Nat), vs ++ dvs = [.int n, .int d] ∧ d.natAbs < 2 ^ k ∧ k ≤ 8000 ∧ (d = 0 → ∀ H2, Same H1 H2 → W (CD K) none σ H2) ∧
  (d ≠ 0 → ∀ p dp H2 a b, Same H1 H2 → H1 p = none → H2 p = some (.ins (CF K) dp (fsF a b)) → Fq n d a b → Q (.ref p) H2)
def RF (K : PySem.W.Frag) (H : Hp) (Q : VK) (R : Int → Int → Prop) : Prop := ∀ p dp H' n d, Same H H' → H p = none → H' p = some (.ins (CF K) dp (fsF n d)) → R n d → Q (.ref p) H'


/-! ### lists of fractions -/
/-- the list's items are the fractions qs -/
structure FrL (K : PySem.W.Frag) (H : Hp) (xs : List V) (qs : List (Int × Int)) : Prop where
  len : xs.length = qs.length
  at_ : ∀ (i : Nat) (q : Int × Int), qs[i]? = some q → ∃ a dx, xs[i]? = some (.ref a) ∧ H a = some (.ins (CF K) dx (fsF q.1 q.2))
theorem FrL.mono {K : PySem.W.Frag} {H H' : Hp} {xs : List V} {qs : List (Int × Int)} (f : FrL K H xs qs) (sm : Same H H') : FrL K H' xs qs :=
  ⟨f.len, fun i q h => by obtain ⟨a, dx, e, h2⟩ := f.at_ i q h; exact ⟨a, dx, e, sm _ _ h2⟩⟩
theorem FrL.nil {K : PySem.W.Frag} {H : Hp} : FrL K H [] [] := ⟨rfl, fun i q h => by simp at h⟩
theorem FrL.snoc {K : PySem.W.Frag} {H : Hp} {xs : List V} {qs : List (Int × Int)} {a dx : Addr} {n d : Int} (f : FrL K H xs qs) (h : H a = some (.ins (CF K) dx (fsF n d))) : FrL K H (xs ++ [.ref a]) (qs ++ [(n, d)]) := by
  refine ⟨by simp [f.len], fun i q hq => ?_⟩
  by_cases c : i < qs.length
  · rw [List.getElem?_append_left c] at hq
    obtain ⟨b, dy, e, h2⟩ := f.at_ i q hq
    exact ⟨b, dy, by rw [List.getElem?_append_left (by rw [f.len]; exact c)]; exact e, h2⟩
  · rw [List.getElem?_append_right (by omega)] at hq
    have c0 : i - qs.length = 0 := by
      refine Decidable.byContradiction fun z => ?_
      rw [List.getElem?_eq_none (by simp; omega)] at hq
      cases hq
    rw [c0] at hq
    cases hq
    exact ⟨a, dx, by rw [List.getElem?_append_right (by rw [f.len]; omega), f.len, c0]; rfl, h⟩
theorem FrL.upd {K : PySem.W.Frag} {H : Hp} {xs : List V} {qs : List (Int × Int)} {D : Addr} {ys : List V} {o : HO} (f : FrL K H xs qs) (h : H D = some (.lst ys)) : FrL K (upd H D o) xs qs :=
  ⟨f.len, fun i q e => by
    obtain ⟨a, dx, e1, e2⟩ := f.at_ i q e
    have ne : a ≠ D := fun z => by rw [z, h] at e2; cases e2
    exact ⟨a, dx, e1, by rw [upd_ne ne]; exact e2⟩⟩
theorem FrL.take {K : PySem.W.Frag} {H : Hp} {xs : List V} {qs : List (Int × Int)} (f : FrL K H xs qs) (m : Nat) : FrL K H (xs.take m) (qs.take m) := by
  refine ⟨by simp [f.len], fun i q h => ?_⟩
  rw [List.getElem?_take] at h
  by_cases c : i < m
  · rw [if_pos c] at h
    obtain ⟨a, dx, e, h2⟩ := f.at_ i q h
    exact ⟨a, dx, by rw [List.getElem?_take, if_pos c]; exact e, h2⟩
  · rw [if_neg c] at h
    cases h
theorem FrL.drop {K : PySem.W.Frag} {H : Hp} {xs : List V} {qs : List (Int × Int)} (f : FrL K H xs qs) (m : Nat) : FrL K H (xs.drop m) (qs.drop m) := by
  refine ⟨by simp [f.len], fun i q h => ?_⟩
  rw [List.getElem?_drop] at h
  obtain ⟨a, dx, e, h2⟩ := f.at_ _ q h
  exact ⟨a, dx, by rw [List.getElem?_drop]; exact e, h2⟩
/-- the sum of pairs, not in lowest terms -/
def sumQ : List (Int × Int) → Int × Int
  | [] => (0, 1)
  | q :: r => (q.1 * (sumQ r).2 + (sumQ r).1 * q.2, q.2 * (sumQ r).2)
def prodQ : List (Int × Int) → Int × Int
  | [] => (1, 1)
  | q :: r => (q.1 * (prodQ r).1, q.2 * (prodQ r).2)
theorem sumQ_append (xs ys : List (Int × Int)) : sumQ (xs ++ ys) = ((sumQ xs).1 * (sumQ ys).2 + (sumQ ys).1 * (sumQ xs).2, (sumQ xs).2 * (sumQ ys).2) := by
  induction xs with
  | nil => simp [sumQ]
  | cons q r ih =>
    rw [List.cons_append, sumQ, ih, sumQ]
    refine Prod.ext ?_ ?_ <;> dsimp only <;> grind
theorem prodQ_append (xs ys : List (Int × Int)) : prodQ (xs ++ ys) = ((prodQ xs).1 * (prodQ ys).1, (prodQ xs).2 * (prodQ ys).2) := by
  induction xs with
  | nil => simp [prodQ]
  | cons q r ih =>
    rw [List.cons_append, prodQ, ih, prodQ]
    refine Prod.ext ?_ ?_ <;> dsimp only <;> grind
abbrev AllLw (k : Nat) (qs : List (Int × Int)) : Prop := ∀ q ∈ qs, Lw k q.1 q.2
theorem sumQ_pos {k : Nat} : ∀ {qs : List (Int × Int)}, AllLw k qs → 0 < (sumQ qs).2
  | [], _ => by simp [sumQ]
  | q :: r, h => Int.mul_pos (h q (by simp)).pos (sumQ_pos fun x hx => h x (by simp [hx]))
theorem prodQ_pos {k : Nat} : ∀ {qs : List (Int × Int)}, AllLw k qs → 0 < (prodQ qs).2
  | [], _ => by simp [prodQ]
  | q :: r, h => Int.mul_pos (h q (by simp)).pos (prodQ_pos fun x hx => h x (by simp [hx]))
theorem sumQ_bits {k : Nat} : ∀ {qs : List (Int × Int)}, AllLw k qs → (sumQ qs).1.natAbs < 2 ^ ((k + 1) * qs.length + 1) ∧ (sumQ qs).2.natAbs < 2 ^ ((k + 1) * qs.length + 1)
  | [], _ => by simp [sumQ]
  | q :: r, h => by
    have l := h q (by simp)
    obtain ⟨h1, h2⟩ := sumQ_bits (qs := r) fun x hx => h x (by simp [hx])
    have e : (k + 1) * (q :: r).length + 1 = (k + ((k + 1) * r.length + 1)) + 1 := by rw [List.length_cons]; grind
    have a1 := abs_lt_mul l.bn h2
    have a2 := abs_lt_mul h1 l.bd
    have a3 := abs_lt_mul l.bd h2
    rw [Nat.add_comm _ k] at a2
    rw [e]
    constructor
    · have z := sz_add a1 a2
      rw [Nat.max_self] at z
      exact z
    · exact abs_mono a3 (by omega)
theorem prodQ_bits {k : Nat} : ∀ {qs : List (Int × Int)}, AllLw k qs → (prodQ qs).1.natAbs < 2 ^ (k * qs.length + 1) ∧ (prodQ qs).2.natAbs < 2 ^ (k * qs.length + 1)
  | [], _ => by simp [prodQ]
  | q :: r, h => by
    have l := h q (by simp)
    obtain ⟨h1, h2⟩ := prodQ_bits (qs := r) fun x hx => h x (by simp [hx])
    have e : k * (q :: r).length + 1 = k + (k * r.length + 1) := by rw [List.length_cons]; grind
    rw [e]
    exact ⟨abs_lt_mul l.bn h1, abs_lt_mul l.bd h2⟩
theorem AllLw.take {k : Nat} {qs : List (Int × Int)} (h : AllLw k qs) (m : Nat) : AllLw k (qs.take m) := fun q hq => h q (List.mem_of_mem_take hq)
theorem AllLw.drop {k : Nat} {qs : List (Int × Int)} (h : AllLw k qs) (m : Nat) : AllLw k (qs.drop m) := fun q hq => h q (List.mem_of_mem_drop hq)
/-- the answer is a fraction, new or not -/
def RS (K : PySem.W.Frag) (H : Hp) (Q : VK) (R : Int → Int → Prop) : Prop := ∀ p dp H' n d, Same H H' → H' p = some (.ins (CF K) dp (fsF n d)) → R n d → Q (.ref p) H'


/-! ### polynomials -/
abbrev CP (K : PySem.W.Frag) : Addr := He.ga K "Poly"
abbrev fsP (t : Addr) (e : Int) : List (Str × V) := [("coefs", .ref t), ("den", .int e)]
/-- a Poly at p: its coefficients and denominator -/
def PoA (K : PySem.W.Frag) (H : Hp) (p : Addr) (ks : List Int) (e : Int) : Prop := ∃ dp t, H p = some (.ins (CP K) dp (fsP t e)) ∧ H t = some (.tup (ks.map V.int))
theorem PoA.mono {K : PySem.W.Frag} {H H' : Hp} {p : Addr} {ks : List Int} {e : Int} (h : PoA K H p ks e) (sm : Same H H') : PoA K H' p ks e := by
  obtain ⟨dp, t, h1, h2⟩ := h
  exact ⟨dp, t, sm _ _ h1, sm _ _ h2⟩
/-- a list or a tuple of whole numbers -/
def Sq (K : PySem.W.Frag) (H : Hp) (a : Addr) (xs : List Int) : Prop := SqL K H a (xs.map V.int) ∨ SqT K H a (xs.map V.int)
structure Bits (k : Nat) (xs : List Int) : Prop where
  all : ∀ x ∈ xs, x.natAbs < 2 ^ k
theorem Bits.getD {k : Nat} {xs : List Int} (h : Bits k xs) (i : Nat) : (xs.getD i 0).natAbs < 2 ^ k := by
  by_cases c : i < xs.length
  · exact h.all _ (getD_mem c)
  · rw [getD_end (by omega)]
    exact Nat.pow_pos (by decide)
theorem bits_of_at {k : Nat} {xs : List Int} (h : ∀ i, (xs.getD i 0).natAbs < 2 ^ k) : Bits k xs := ⟨fun x hx => by
  obtain ⟨i, hi, rfl⟩ := List.mem_iff_getElem.mp hx
  have z := h i
  rwa [List.getD_eq_getElem?_getD, List.getElem?_eq_getElem hi] at z⟩
theorem bits_put {k : Nat} {xs : List Int} {n : Nat} {x : Int} (h1 : Bits k xs) (h : x.natAbs < 2 ^ k) : Bits k (xs.set n x) := ⟨fun y hy => by
  rcases List.mem_or_eq_of_mem_set hy with hy | hy
  · exact h1.all y hy
  · rw [hy]; exact h⟩
theorem Bits.mono {k j : Nat} {xs : List Int} (h : Bits k xs) (c : k ≤ j) : Bits j xs := ⟨fun x hx => abs_mono (h.all x hx) c⟩
theorem Bits.neg {k : Nat} {xs : List Int} (h : Bits k xs) : Bits k (xs.map fun x => -x) := ⟨fun x hx => by
  obtain ⟨y, hy, rfl⟩ := List.mem_map.mp hx
  rw [Int.natAbs_neg]
  exact h.all y hy⟩
theorem Bits.mul {k j : Nat} {xs : List Int} {c : Int} (h : Bits k xs) (hc : c.natAbs < 2 ^ j) : Bits (k + j) (xs.map fun x => x * c) := ⟨fun x hx => by
  obtain ⟨y, hy, rfl⟩ := List.mem_map.mp hx
  exact abs_lt_mul (h.all y hy) hc⟩
theorem Bits.add {k : Nat} {xs ys : List Int} (h : Bits k xs) (h2 : Bits k ys) : Bits (k + 1) (addL xs ys) := ⟨fun x hx => by
  unfold addL at hx
  obtain ⟨i, _, rfl⟩ := List.mem_map.mp hx
  have z := sz_add (h.getD i) (h2.getD i)
  rw [Nat.max_self] at z
  exact z⟩
theorem Pq.bits {cs ks : List Int} {d e : Int} {k : Nat} (p : Pq cs d ks e) (hd : d ≠ 0) (h : Bits k cs) : Bits k ks := ⟨fun x hx => by
  obtain ⟨i, hi, rfl⟩ := List.mem_iff_getElem.mp hx
  have z : ks[i] = ks.getD i 0 := by rw [List.getD_eq_getElem?_getD, List.getElem?_eq_getElem hi]; rfl
  have c := h.getD i
  have q := p.eq i
  rw [z]
  have p0 := p.pos
  -- e divides d
  have dv := p.den_dvd1 hd
  obtain ⟨u, hu⟩ := dv
  have u0 : u ≠ 0 := fun w => by rw [w] at hu; omega
  have e1 : cs.getD i 0 = ks.getD i 0 * u := by
    rw [hu] at q
    have : cs.getD i 0 * e = (ks.getD i 0 * u) * e := by grind
    exact Int.eq_of_mul_eq_mul_right (by omega) this
  rw [e1, Int.natAbs_mul] at c
  exact Nat.lt_of_le_of_lt (Nat.le_mul_of_pos_right _ (by omega)) c⟩
/-- all that a check of a polynomial asks -/
structure POk (k : Nat) (cs : List Int) (den : Int) (ks : List Int) (e : Int) : Prop where
  pq : Pq cs den ks e
  l1 : ks.length ≤ 400
  l2 : cs.length ≤ 400
  b1 : ∀ x ∈ ks, x.natAbs < 2 ^ k
  b2 : ∀ x ∈ cs, x.natAbs < 2 ^ k
  b3 : e.natAbs < 2 ^ k
  b4 : den.natAbs < 2 ^ k
theorem pOk {k : Nat} {cs : List Int} {den : Int} {ks : List Int} {e : Int} (pq : Pq cs den ks e) (hd : den ≠ 0) (l : cs.length ≤ 400) (b : Bits k cs) (b4 : den.natAbs < 2 ^ k) : POk k cs den ks e :=
  ⟨pq, Nat.le_trans (pq.len hd) l, l, (pq.bits hd b).all, b.all, Nat.lt_of_le_of_lt (pq.den_le hd) b4, b4⟩
theorem PoA.upd {K : PySem.W.Frag} {H : Hp} {p D : Addr} {ks : List Int} {e : Int} {ys : List V} {o : HO} (h : PoA K H p ks e) (hD : H D = some (.lst ys)) : PoA K (upd H D o) p ks e := by
  obtain ⟨dp, t, h1, h2⟩ := h
  have n1 : p ≠ D := fun z => by rw [z, hD] at h1; cases h1
  have n2 : t ≠ D := fun z => by rw [z, hD] at h2; cases h2
  exact ⟨dp, t, by rw [upd_ne n1]; exact h1, by rw [upd_ne n2]; exact h2⟩
def mkPo (K : PySem.W.Frag) (dvs : List V) : List V → Hp → VK → Prop := fun vs H1 Q => ∃ (a : Addr) (cs : List Int) (d : Int) (k : Nat), vs ++ dvs = [.ref a, .int d] ∧ Sq K H1 a cs ∧ cs.length ≤ 900 ∧ d.natAbs < 2 ^ k ∧ k ≤ 8000 ∧ d ≠ 0 ∧
  ∀ p H2 ks e, Same H1 H2 → H1 p = none → PoA K H2 p ks e → Pq cs d ks e → Q (.ref p) H2
/-- .. in a try's body -/
def mkPoS (K : PySem.W.Frag) (dvs : List V) (W : WX) : L2.St → List V → Hp → VK → Prop := fun σ vs H1 Q => ∃ (a : Addr) (cs : List Int) (d : Int) (k : Nat), vs ++ dvs = [.ref a, .int d] ∧ Sq K H1 a cs ∧ cs.length ≤ 900 ∧ d.natAbs < 2 ^ k ∧ k ≤ 8000 ∧ (d = 0 → ∀ H2, Same H1 H2 → W (CD K) none σ H2) ∧
  (d ≠ 0 → ∀ p H2 ks e, Same H1 H2 → H1 p = none → PoA K H2 p ks e → Pq cs d ks e → Q (.ref p) H2)
/-- the answer is a new polynomial -/
def RP (K : PySem.W.Frag) (H : Hp) (Q : VK) (R : List Int → Int → Prop) : Prop := ∀ p H' ks e, Same H H' → H p = none → PoA K H' p ks e → R ks e → Q (.ref p) H'

/-- a new list of c numbers from 0 to 999999 -/
def spNums (K : PySem.W.Frag) : Sp := fun vs H Q _ => ∃ (a : Addr) (c : Int) (ns : List Int), vs = [.ref a, .int c] ∧ SqL K H a (ns.map V.int) ∧ ns.length ≤ 63 ∧ 0 ≤ c ∧ c ≤ 100 ∧
  ∀ p H' (ms : List Int), Same H H' → H p = none → H' p = some (.lst (ms.map V.int)) → ms.length = c.toNat → (∀ m ∈ ms, 0 ≤ m ∧ m < 1000000) → Q (.ref p) H'
def spTrim (K : PySem.W.Frag) : Sp := fun vs H Q _ => ∃ (a : Addr) (xs : List Int), vs = [.ref a] ∧ (SqL K H a (xs.map V.int) ∨ SqT K H a (xs.map V.int)) ∧
  ∀ p H' n, Same H H' → H p = none → H' p = some (.lst ((xs.take n).map V.int)) → Trim xs n → Q (.ref p) H'
def spCom (K : PySem.W.Frag) : Sp := fun vs H Q _ => ∃ (a : Addr) (xs : List Int), vs = [.ref a] ∧ SqL K H a (xs.map V.int) ∧ Q (.int ((gcdL xs : Nat) : Int)) H
def spPInit (K : PySem.W.Frag) : Sp := fun vs H Q E => ∃ (x dx a : Addr) (cs : List Int) (d : Int) (k : Nat), vs = [.ref x, .ref a, .int d] ∧ H x = some (.ins (CP K) dx []) ∧ Sq K H a cs ∧ cs.length ≤ 900 ∧ d.natAbs < 2 ^ k ∧ k ≤ 8000 ∧
  (d = 0 → E (CD K) none H) ∧ (d ≠ 0 → ∀ H' t ks e, Same H H' → H' t = some (.tup (ks.map V.int)) → t ≠ x → Pq cs d ks e → Q .non (upd H' x (.ins (CP K) dx (fsP t e))))
theorem mkPo_conv (K : PySem.W.Frag) (dvs : List V) (vs : List V) (H1 : Hp) (Q : VK) (h : mkPo K dvs vs H1 Q) (x dx : Addr) (nx : H1 x = none) (nd : H1 dx = none) (ne : dx ≠ x) :
    spPInit K (.ref x :: (vs ++ dvs)) (upd (upd H1 dx (.own x)) x (.ins (CP K) dx [])) (fun v H2 => v = .non ∧ Q (.ref x) H2) E0 := by
  obtain ⟨a, cs, d, k, e, hS, hl, hb, hk, hd, q⟩ := h
  have s0 : Same H1 (upd (upd H1 dx (.own x)) x (.ins (CP K) dx [])) := same_made0 nx nd
  rw [e]
  refine ⟨x, dx, a, cs, d, k, rfl, upd_same, ?_, hl, hb, hk, fun z => absurd z hd, fun _ H' t ks e sm ht tx pq => ⟨rfl, ?_⟩⟩
  · rcases hS with h | h
    · exact .inl (s0.seq h)
    · exact .inr (sm_tup s0 h)
  · exact q x _ ks e (same_mut (s0.trans sm) nx) nx ⟨dx, t, upd_same, by rw [upd_ne tx]; exact ht⟩ pq
theorem mkPoS_conv (K : PySem.W.Frag) (dvs : List V) (W : WX) (σ : L2.St) (vs : List V) (H1 : Hp) (Q : VK) (h : mkPoS K dvs W σ vs H1 Q) (x dx : Addr) (nx : H1 x = none) (nd : H1 dx = none) (ne : dx ≠ x) :
    spPInit K (.ref x :: (vs ++ dvs)) (upd (upd H1 dx (.own x)) x (.ins (CP K) dx [])) (fun v H2 => v = .non ∧ Q (.ref x) H2) (WE W σ) := by
  obtain ⟨a, cs, d, k, e, hS, hl, hb, hk, h0, q⟩ := h
  have s0 : Same H1 (upd (upd H1 dx (.own x)) x (.ins (CP K) dx [])) := same_made0 nx nd
  rw [e]
  refine ⟨x, dx, a, cs, d, k, rfl, upd_same, ?_, hl, hb, hk, fun z => h0 z _ s0, fun hd H' t ks e sm ht tx pq => ⟨rfl, ?_⟩⟩
  · rcases hS with h | h
    · exact .inl (s0.seq h)
    · exact .inr (sm_tup s0 h)
  · exact q hd x _ ks e (same_mut (s0.trans sm) nx) nx ⟨dx, t, upd_same, by rw [upd_ne tx]; exact ht⟩ pq
def spSumAt (K : PySem.W.Frag) : Sp := fun vs H Q _ => ∃ (a : Addr) (cs : List Int) (num den : Int), vs = [.ref a, .int num, .int den] ∧ SqL K H a (cs.map V.int) ∧ Bits 4 cs ∧ cs.length ≤ 6 ∧ num.natAbs < 2 ^ 46 ∧ den.natAbs < 2 ^ 46 ∧ 0 < den ∧
  ∀ p H' top bl, Same H H' → H p = none → H' p = some (.lst [.int top, .int bl]) → DuAt num den cs top bl → Q (.ref p) H'
def spEval (K : PySem.W.Frag) : Sp := fun vs H Q _ => ∃ (a : Addr) (cs : List Int) (x : Int) (k j : Nat), vs = [.ref a, .int x] ∧ SqT K H a (cs.map V.int) ∧ (∀ c ∈ cs, c.natAbs < 2 ^ k) ∧ x.natAbs < 2 ^ j ∧ k + (j + 1) * (cs.length + 1) ≤ 900000 ∧ Q (.int (evL x cs)) H
def spInit (K : PySem.W.Frag) : Sp := fun vs H Q E => ∃ (x dx : Addr) (n d : Int) (k : Nat), vs = [.ref x, .int n, .int d] ∧ H x = some (.ins (CF K) dx []) ∧ d.natAbs < 2 ^ k ∧ k ≤ 8000 ∧
  (d = 0 → E (CD K) none H) ∧ (d ≠ 0 → ∀ a b, Fq n d a b → Q .non (upd H x (.ins (CF K) dx (fsF a b))))
theorem mkFr_conv (K : PySem.W.Frag) (dvs : List V) (vs : List V) (H1 : Hp) (Q : VK) (h : mkFr K dvs vs H1 Q) (x dx : Addr) (nx : H1 x = none) (nd : H1 dx = none) (ne : dx ≠ x) :
    spInit K (.ref x :: (vs ++ dvs)) (upd (upd H1 dx (.own x)) x (.ins (CF K) dx [])) (fun v H2 => v = .non ∧ Q (.ref x) H2) E0 := by
  obtain ⟨n, d, k, e, hb, hk, hd, q⟩ := h
  rw [e]
  exact ⟨x, dx, n, d, k, rfl, upd_same, hb, hk, fun z => absurd z hd, fun _ a b f => ⟨rfl, q x dx _ a b (same_made nx nd ne) nx upd_same f⟩⟩
theorem mkFrS_conv (K : PySem.W.Frag) (dvs : List V) (W : WX) (σ : L2.St) (vs : List V) (H1 : Hp) (Q : VK) (h : mkFrS K dvs W σ vs H1 Q) (x dx : Addr) (nx : H1 x = none) (nd : H1 dx = none) (ne : dx ≠ x) :
    spInit K (.ref x :: (vs ++ dvs)) (upd (upd H1 dx (.own x)) x (.ins (CF K) dx [])) (fun v H2 => v = .non ∧ Q (.ref x) H2) (WE W σ) := by
  obtain ⟨n, d, k, e, hb, hk, h0, q⟩ := h
  rw [e]
  exact ⟨x, dx, n, d, k, rfl, upd_same, hb, hk, fun z => h0 z _ (same_made0 nx nd), fun hd a b f => ⟨rfl, q hd x dx _ a b (same_made nx nd ne) nx upd_same f⟩⟩
def spPAt (K : PySem.W.Frag) : Sp := fun vs H Q _ => ∃ (a : Addr) (ks : List Int) (e x : Int) (k j : Nat), vs = [.ref a, .int x] ∧ PoA K H a ks e ∧ 0 < e ∧ e.natAbs < 2 ^ 8000 ∧ Bits k ks ∧ x.natAbs < 2 ^ j ∧ k + (j + 1) * (ks.length + 1) ≤ 900000 ∧ RF K H Q (Fq (evL x ks) e)
def spIsInt (K : PySem.W.Frag) : Sp := fun vs H Q _ => ∃ n : Int, vs = [.int n] ∧ Q (.bl true) H
def spGcd (K : PySem.W.Frag) : Sp := fun vs H Q _ => ∃ a b : Int, vs = [.int a, .int b] ∧ Q (.int ((Nat.gcd a.natAbs b.natAbs : Nat) : Int)) H
theorem abs_if (a : Int) : (if a < 0 then -a else a) = (a.natAbs : Int) := by split <;> omega
structure IsOk (k : Nat) (num den n d : Int) : Prop where
  f : Fq num den n d
  a : n.natAbs < 2 ^ k
  b : d.natAbs < 2 ^ k
  c : num.natAbs < 2 ^ k
  e : den.natAbs < 2 ^ k
theorem isOk {k : Nat} {num den n d : Int} (f : Fq num den n d) (hd : den ≠ 0) (h1 : num.natAbs < 2 ^ k) (h2 : den.natAbs < 2 ^ k) : IsOk k num den n d :=
  ⟨f, Nat.lt_of_le_of_lt (f.num_le hd) h1, Nat.lt_of_le_of_lt (f.den_le hd) h2, h1, h2⟩
/-- the check holds: x is num / den in lowest terms -/
def spIs (K : PySem.W.Frag) : Sp := fun vs H Q _ => ∃ (a da : Addr) (n d num den : Int) (k : Nat), vs = [.ref a, .int num, .int den] ∧ H a = some (.ins (CF K) da (fsF n d)) ∧ Fq num den n d ∧ n.natAbs < 2 ^ k ∧ d.natAbs < 2 ^ k ∧ num.natAbs < 2 ^ k ∧ den.natAbs < 2 ^ k ∧ k ≤ 400000 ∧ Q (.bl true) H
theorem vaL_bits {num den : Int} {k j : Nat} (h1 : num.natAbs < 2 ^ j) (h2 : den.natAbs < 2 ^ j) : ∀ {cs : List Int}, (∀ c ∈ cs, c.natAbs < 2 ^ k) → (vaL num den cs).natAbs < 2 ^ (k + 1 + (j + 1) * cs.length)
  | [], _ => by simp [vaL]; exact Nat.pow_pos (by decide)
  | c :: r, h => by
    have ih := vaL_bits h1 h2 (cs := r) fun y hy => h y (by simp [hy])
    have t1 := abs_lt_mul ih h1
    have t2 := abs_lt_mul (h c (by simp)) (pow_bits h2 (r.length + 1))
    refine abs_mono (sz_add t1 t2) ?_
    rw [List.length_cons]
    have e1 : (j + 1) * (r.length + 1) = (j + 1) * r.length + (j + 1) := by rw [Nat.mul_add, Nat.mul_one]
    have e2 : j * (r.length + 1) = j * r.length + j := by rw [Nat.mul_add, Nat.mul_one]
    have e3 : (j + 1) * r.length = j * r.length + r.length := by rw [Nat.add_mul, Nat.one_mul]
    omega
def spPVal (K : PySem.W.Frag) : Sp := fun vs H Q _ => ∃ (a b db : Addr) (ks : List Int) (e n d : Int) (k j : Nat), vs = [.ref a, .ref b] ∧ PoA K H a ks e ∧ H b = some (.ins (CF K) db (fsF n d)) ∧ 0 < e ∧ e.natAbs < 2 ^ 60 ∧ 0 < d ∧ Bits k ks ∧ n.natAbs < 2 ^ j ∧ d.natAbs < 2 ^ j ∧ k + 1 + (j + 1) * (ks.length + 1) ≤ 7000 ∧ RF K H Q (Fq (vaL n d ks) (e * d ^ ks.length))
def spPSca (K : PySem.W.Frag) : Sp := fun vs H Q _ => ∃ (a b db : Addr) (ks : List Int) (e n d : Int) (k : Nat), vs = [.ref a, .ref b] ∧ PoA K H a ks e ∧ H b = some (.ins (CF K) db (fsF n d)) ∧ 0 < e ∧ e.natAbs < 2 ^ k ∧ d ≠ 0 ∧ Bits k ks ∧ n.natAbs < 2 ^ k ∧ d.natAbs < 2 ^ k ∧ ks.length ≤ 400 ∧ k ≤ 4000 ∧ RP K H Q (fun ms g => Pq (ks.map fun x => x * n) (e * d) ms g)
/-- the check holds: p is coefs / den in its one form -/
def spPIs (K : PySem.W.Frag) : Sp := fun vs H Q _ => ∃ (a b : Addr) (ks cs : List Int) (e den : Int) (k : Nat), vs = [.ref a, .ref b, .int den] ∧ PoA K H a ks e ∧ Sq K H b cs ∧ Pq cs den ks e ∧ ks.length ≤ 400 ∧ cs.length ≤ 400 ∧
  (∀ x ∈ ks, x.natAbs < 2 ^ k) ∧ (∀ x ∈ cs, x.natAbs < 2 ^ k) ∧ e.natAbs < 2 ^ k ∧ den.natAbs < 2 ^ k ∧ k ≤ 400000 ∧ ∀ H', Same H H' → Q (.bl true) H'
def spLPr (K : PySem.W.Frag) : Sp := fun vs H Q _ => ∃ (a b : Addr) (xs ys : List Int) (k : Nat), vs = [.ref a, .ref b] ∧ SqL K H a (xs.map V.int) ∧ SqL K H b (ys.map V.int) ∧ Bits k xs ∧ Bits k ys ∧ xs.length ≤ 400 ∧ ys.length ≤ 400 ∧ k ≤ 400000 ∧
  ∀ p H' zs, Same H H' → H p = none → H' p = some (.lst (zs.map V.int)) → IsMul zs xs ys → zs.length = xs.length + ys.length → Q (.ref p) H'
def spPowI (K : PySem.W.Frag) : Sp := fun vs H Q _ => ∃ (b e : Int) (k : Nat), vs = [.int b, .int e] ∧ 0 ≤ e ∧ b.natAbs < 2 ^ k ∧ k * e.toNat + 10 ≤ 900000 ∧ Q (.int (b ^ e.toNat)) H
theorem pow_side {b x y : Int} {k r s n : Nat} (hb : b.natAbs < 2 ^ k) (hk : k * n + 10 ≤ 900000) (h : r + s ≤ n) (hx : x = b ^ r) (hy : y = b ^ s) : CMulW x y := by
  rw [hx, hy]
  have z := Nat.mul_le_mul_left k h
  rw [Nat.mul_add] at z
  exact mulW (pow_bits hb r) (pow_bits hb s) (by omega)
/-- the bits of a power's coefficients -/
def pwB (k n e : Nat) : Nat := (k + n) * e + 1
theorem pwB_le {k n d e : Nat} (h : d ≤ e) : pwB k n d ≤ pwB k n e := Nat.add_le_add_right (Nat.mul_le_mul_left _ h) _
def spPowd (K : PySem.W.Frag) : Sp := fun vs H Q _ => ∃ (a : Addr) (cs : List Int) (e k : Nat), vs = [.ref a, .int (e : Int)] ∧ SqT K H a (cs.map V.int) ∧ (cs = [] ∨ cs.getD (cs.length - 1) 0 ≠ 0) ∧ Bits k cs ∧ cs.length * e + 1 ≤ 900 ∧ cs.length ≤ 900 ∧ e ≤ 900 ∧ k ≤ 2000 ∧ pwB k cs.length e ≤ 400000 ∧
  ∀ p H' zs, Same H H' → H p = none → H' p = some (.lst (zs.map V.int)) → IsPow zs cs e → Bits (pwB k cs.length e) zs → zs.length ≤ cs.length * e + 1 → Q (.ref p) H'
theorem pow_nil {e : Nat} (h : e ≠ 0) : IsPow [] [] e := ⟨fun k => by
  cases e with
  | zero => exact absurd rfl h
  | succ e =>
    show 0 = cf (pwf (ff []) e) (ff []) k
    unfold cf
    exact (sumTo_zero _ fun i _ => Int.mul_zero _).symm⟩
def spPPow (K : PySem.W.Frag) : Sp := fun vs H Q _ => ∃ (a : Addr) (ks : List Int) (f : Int) (e k : Nat), vs = [.ref a, .int (e : Int)] ∧ PoA K H a ks f ∧ 0 < f ∧ f.natAbs < 2 ^ k ∧ (ks = [] ∨ ks.getD (ks.length - 1) 0 ≠ 0) ∧ Bits k ks ∧ ks.length * e + 1 ≤ 900 ∧ ks.length ≤ 900 ∧ e ≤ 900 ∧ k ≤ 2000 ∧ pwB k ks.length e ≤ 400000 ∧ k * e + 1 ≤ 8000 ∧
  RP K H Q (fun ms g => ∃ zs, IsPow zs ks e ∧ Pq zs (f ^ e) ms g)
theorem take14 {ms : List Int} (h : ms.length = (14 : Int).toNat) (hb : ∀ m ∈ ms, 0 ≤ m ∧ m < 1000000) : ∃ m0 m1 m2 m3 m4 m5 m6 m7 m8 m9 m10 m11 m12 m13 : Int, ms = [m0, m1, m2, m3, m4, m5, m6, m7, m8, m9, m10, m11, m12, m13] ∧ (0 ≤ m0 ∧ m0 < 1000000) ∧ (0 ≤ m1 ∧ m1 < 1000000) ∧ (0 ≤ m2 ∧ m2 < 1000000) ∧ (0 ≤ m3 ∧ m3 < 1000000) ∧ (0 ≤ m4 ∧ m4 < 1000000) ∧ (0 ≤ m5 ∧ m5 < 1000000) ∧ (0 ≤ m6 ∧ m6 < 1000000) ∧ (0 ≤ m7 ∧ m7 < 1000000) ∧ (0 ≤ m8 ∧ m8 < 1000000) ∧ (0 ≤ m9 ∧ m9 < 1000000) ∧ (0 ≤ m10 ∧ m10 < 1000000) ∧ (0 ≤ m11 ∧ m11 < 1000000) ∧ (0 ≤ m12 ∧ m12 < 1000000) ∧ (0 ≤ m13 ∧ m13 < 1000000) :=
  match ms, h with
  | [m0, m1, m2, m3, m4, m5, m6, m7, m8, m9, m10, m11, m12, m13], _ => ⟨m0, m1, m2, m3, m4, m5, m6, m7, m8, m9, m10, m11, m12, m13, rfl, hb _ (by simp), hb _ (by simp), hb _ (by simp), hb _ (by simp), hb _ (by simp), hb _ (by simp), hb _ (by simp), hb _ (by simp), hb _ (by simp), hb _ (by simp), hb _ (by simp), hb _ (by simp), hb _ (by simp), hb _ (by simp)⟩

structure Cb8 (n : Nat) (cs : List Int) : Prop where
  l : cs.length = n
  r : ∀ c ∈ cs, -12 ≤ c ∧ c ≤ 12
theorem Cb8.more {n : Nat} {cs : List Int} {c : Int} (h : Cb8 n cs) (hc : -12 ≤ c ∧ c ≤ 12) : Cb8 (n + 1) (cs ++ [c]) := by
  refine ⟨by simp [h.l], fun x hx => ?_⟩
  rcases List.mem_append.mp hx with hx | hx
  · exact h.r x hx
  · rw [List.mem_singleton.mp hx]; exact hc
theorem mulbits {a b n : Nat} {xs ys zs : List Int} (h1 : Bits a xs) (h2 : Bits b ys) (h : IsMul zs xs ys) (hn : a + b + xs.length ≤ n) : Bits n zs := bits_of_at fun i => by
  rw [h.at_]
  exact abs_mono (cvS_bits h1.getD h2.getD i xs.length) hn

section
variable {P : Program} {w : World} {K : PySem.W.Frag} {mg : Str → Option Value} {base : Heap}
theorem ok__law_numbers (T : Tx K mg) : OkF P w K mg base 1 (He.fAd K ("_law_numbers", none)) ["script", "count"] (spNums K) := by
  refine okF_of (d := d__law_numbers) T.d__law_numbers rfl sc__law_numbers (fun _ _ _ _ _ _ us hl => match us, hl with | [_, _], _ => rfl) (fun vs H Q E h => ?_) (fun cdv A outer s H vs Q E hr h => ?_)
  · first | (obtain ⟨_, rfl, _⟩ := h; rfl) | (obtain ⟨_, _, rfl, _⟩ := h; rfl) | (obtain ⟨_, _, _, rfl, _⟩ := h; rfl) | (obtain ⟨_, _, _, _, rfl, _⟩ := h; rfl) | (obtain ⟨_, _, _, _, _, rfl, _⟩ := h; rfl) | (obtain ⟨_, _, _, _, _, _, rfl, _⟩ := h; rfl) | (obtain ⟨_, _, _, _, _, _, _, rfl, _⟩ := h; rfl) | (obtain ⟨_, _, _, _, _, _, _, _, rfl, _⟩ := h; rfl) | (obtain ⟨_, _, _, _, _, _, _, _, _, rfl, _⟩ := h; rfl) | (obtain ⟨_, _, _, _, _, _, _, _, _, _, rfl, _⟩ := h; rfl)
  · obtain ⟨a, c, ns, rfl, hS, hl, hc0, hc1, q⟩ := h
    refine ⟨_, (pss_cons (ps_setI (i := 2) sc__law_numbers.nd rfl (Or.inl rfl) pe_int)
      (Evl.pss_cut (ps_if (pt_cmpR op_gt (pe_callB call_len_seq (by rfl) T.z_len PySem.boot_len (pa_cons (pv 0) pa_nil)) pe_int (nomark _)) (pss_one (ps_setI (i := 2) sc__law_numbers.nd rfl (Or.inl rfl) (pe_ix ix_list (pv 0) pe_int (fun _ _ => rfl)))) pss_nil)
      (pss_cons (ps_set (i := 3) sc__law_numbers.nd rfl (Or.inl rfl) (pe_cmpR op_ge (pv 2) (pe_op op_pow pe_int pe_int) (nomark _)))
      (pss_cons (ps_set (i := 4) sc__law_numbers.nd rfl (Or.inl rfl) (pe_lst pa_nil))
      (pss_cons (ps_for PassesOwn.leaving rfl (pi_range1 rfl T.z_range (pa_cons (pv 1) pa_nil)) (pg_name (i := 5) sc__law_numbers.nd rfl (Or.inl rfl)) (pss_one (ps_if (PW.pt (pw_and (pt_val (pv 3)) (pw_and1 (pt_cmpR op_gt (pv 2) pe_int (nomark _))))) (pss_cons (ps_expr (pe_bm PySem.F.plainAttrs_list PySem.F.slot_list_append PySem.F.type_list_append mt_append (pv 4) (pa_cons (pe_op op_mod (pv 2) pe_int) pa_nil)))
      (pss_one (ps_setI (i := 2) sc__law_numbers.nd rfl (Or.inl rfl) (pe_op op_fdiv (pv 2) pe_int)))) (pss_cons (ps_setI (i := 6) sc__law_numbers.nd rfl (Or.inl rfl) pe_int)
      (Evl.pss_cut (ps_if (pt_cmpR op_gt (pe_callB call_len_seq (by rfl) T.z_len PySem.boot_len (pa_cons (pv 0) pa_nil)) pe_int (nomark _)) (pss_one (ps_setI (i := 6) sc__law_numbers.nd rfl (Or.inl rfl) (pe_op op_add (pe_ix ix_list (pv 0) (pe_op op_mod (pv 5) (pe_callB call_len_seq (by rfl) T.z_len PySem.boot_len (pa_cons (pv 0) pa_nil))) (fun _ _ => rfl)) (pe_op op_mul pe_int (pv 5))))) pss_nil)
      (pss_one (ps_expr (pe_bm PySem.F.plainAttrs_list PySem.F.slot_list_append PySem.F.type_list_append mt_append (pv 4) (pa_cons (pe_op op_mod (pe_op op_mod (pe_op op_mul (pe_op op_mod (pe_op op_mul (pv 6) pe_int) pe_int) pe_int) pe_int) pe_int) pa_nil)))))))))
      (pss_one (ps_ret (pv 4)))))))), ?_⟩
    refine ⟨_, rfl, fun r0 _ => ?_⟩
    refine ⟨fun σ' H' => H = H' ∧ ∃ r : Int, σ' = [some (.ref a), some (.int c), some (.int r), none, none, none, none], ?_, ?_⟩
    · refine ⟨_, rfl, _, _, rfl, .inl hS, _, _, rfl, rfl, _, rfl, iteD (fun h1 => ?_) (fun h1 => ?_)⟩
      · rw [len_map] at h1
        obtain ⟨x, _, hx⟩ := get_map (ns := ns) (i := 0) (by omega)
        exact ⟨_, rfl, _, _, _, _, rfl, rfl, hS, atI_nat (j := 0) hx, _, rfl, fun r _ => ⟨rfl, r, rfl⟩⟩
      · exact ⟨rfl, r0, rfl⟩
    rintro _ _ ⟨rfl, r, rfl⟩
    refine ⟨_, rfl, _, _, rfl, rfl, ⟨by decide, by decide, by decide⟩, _, _, rfl, rfl, ?_⟩
    obtain ⟨bd, hbd⟩ : ∃ bd : Bool, bd = decide ((10 : Int) ^ (18 : Int).toNat ≤ r) := ⟨_, rfl⟩
    refine ⟨Nat.zero_le _, fun p np => ?_⟩
    refine ⟨_, rfl, _, rfl, by omega, by omega, for_range (lo := 0) (n := c.toNat) (fun i σ' H' => ∃ (r : Int) (ms : List Int) (y5 y6 : Option V), σ' = [some (.ref a), some (.int c), some (.int r), some (.bl bd), some (.ref p), y5, y6] ∧
      Same H H' ∧ H' p = some (.lst (ms.map V.int)) ∧ ms.length = i ∧ ∀ m ∈ ms, 0 ≤ m ∧ m < 1000000) ⟨r, [], none, none, by rw [hbd]; rfl, sm_new np, upd_same, rfl, fun m hm => absurd hm (by simp)⟩ (fun i σ' H1 hi hI => ?_) (fun σ' H1 hI => ?_)⟩
    · obtain ⟨r, ms, y5, y6, rfl, sm, hp, hm, hb⟩ := hI
      have hz : (ms.map V.int).length < sizeLine := by rw [len_map]; exact small1000 (by omega)
      have more : ∀ (x r : Int) (y5 y6 : Option V), 0 ≤ x → x < 1000000 → ∃ (r' : Int) (ms' : List Int) (y5' y6' : Option V), [some (.ref a), some (.int c), some (.int r), some (.bl bd), some (.ref p), y5, y6] = [some (.ref a), some (.int c), some (.int r'), some (.bl bd), some (.ref p), y5', y6'] ∧
          Same H (upd H1 p (.lst (ms.map V.int ++ [.int x]))) ∧ (upd H1 p (.lst (ms.map V.int ++ [.int x]))) p = some (.lst (ms'.map V.int)) ∧ ms'.length = i + 1 ∧ ∀ m ∈ ms', 0 ≤ m ∧ m < 1000000 := fun x r y5 y6 h0 h1 =>
        ⟨r, ms ++ [x], y5, y6, rfl, same_mut sm np, by rw [upd_same, List.map_append]; rfl, by rw [List.length_append, hm]; rfl, fun m hm => by
          rcases List.mem_append.mp hm with hm | hm
          · exact hb m hm
          · rw [List.mem_singleton.mp hm]; exact ⟨h0, h1⟩⟩
      have e0 : (0 : Int) + (i : Int) = (i : Int) := Int.zero_add _
      rw [e0]
      refine ⟨_, rfl, _, rfl, iteShare (iteF ?_) (fun h1 els => ?_)⟩
      · refine ⟨_, rfl, fun c0 _ => ?_⟩
        refine ⟨fun σ' H' => H1 = H' ∧ ∃ z : Int, σ' = [some (.ref a), some (.int c), some (.int r), some (.bl bd), some (.ref p), some (.int (i : Int)), some (.int z)], ?_, ?_⟩
        · refine ⟨_, rfl, _, _, rfl, .inl (sm.seq hS), _, _, rfl, rfl, _, rfl, iteD (fun h1 => ?_) (fun h1 => ?_)⟩
          · have h1' : (0 : Int) < ((ns.map V.int).length : Int) := h1
            have h2 : 0 ≤ (i : Int) % ((ns.map V.int).length : Int) := Int.emod_nonneg _ (by omega)
            have h3 : (i : Int) % ((ns.map V.int).length : Int) < ((ns.map V.int).length : Int) := Int.emod_lt_of_pos _ h1'
            obtain ⟨x, _, hx⟩ := get_map (ns := ns) (i := ((i : Int) % ((ns.map V.int).length : Int)).toNat) (by rw [len_map] at *; omega)
            exact ⟨_, rfl, _, rfl, _, rfl, _, _, rfl, .inl (sm.seq hS), _, _, rfl, rfl, h1', _, _, _, _, rfl, rfl, sm.seq hS, at_of (by omega) hx, _, rfl, _, _, rfl, rfl, .inl ⟨by decide, by decide⟩, _, _, rfl, rfl, _, rfl, fun z _ => ⟨rfl, z, rfl⟩⟩
          · exact ⟨rfl, c0, rfl⟩
        rintro _ _ ⟨rfl, z, rfl⟩
        refine ⟨_, rfl, .inl ⟨rfl, _, SqL.of hp⟩, _, rfl, _, _, rfl, rfl, .inr ⟨by decide, by decide⟩, _, _, rfl, rfl, (show (0 : Int) < 2147483647 by decide), _, _, rfl, rfl, .inr ⟨by decide, by decide⟩, _, _, rfl, rfl, (show (0 : Int) < 2147483629 by decide), _, _, rfl, rfl, (show (0 : Int) < 1000000 by decide), _, _, _, rfl, rfl, hp, hz, ?_⟩
        exact more (z * 48271 % 2147483647 * 69621 % 2147483629 % 1000000) r (some (.int (i : Int))) (some (.int z)) (Int.emod_nonneg _ (by decide)) (Int.emod_lt_of_pos _ (by decide))
      · refine ⟨_, rfl, _, _, rfl, rfl, _, rfl, iteD (fun h2 => ?_) (fun h2 => unF els)⟩
        refine ⟨_, rfl, .inl ⟨rfl, _, SqL.of hp⟩, _, rfl, _, _, rfl, rfl, (show (0 : Int) < 1000000 by decide), _, _, _, rfl, rfl, hp, hz, ?_⟩
        refine ⟨_, rfl, _, _, rfl, rfl, ⟨by decide, by decide⟩, _, rfl, fun r2 _ => ?_⟩
        exact more (r % 1000000) r2 (some (.int (i : Int))) y6 (Int.emod_nonneg _ (by decide)) (Int.emod_lt_of_pos _ (by decide))
    · obtain ⟨r, ms, y5, y6, rfl, sm, hp, hm, hb⟩ := hI
      exact ⟨_, rfl, q p H1 ms sm np hp hm hb⟩

theorem ok_trimmed (T : Tx K mg) : OkF P w K mg base 1 (He.fAd K ("trimmed", none)) ["coefs"] (spTrim K) := by
  refine okF_of (d := d_trimmed) T.d_trimmed rfl sc_trimmed (fun _ _ _ _ _ _ us hl => match us, hl with | [_], _ => rfl) (fun vs H Q E h => ?_) (fun cdv A outer s H vs Q E hr h => ?_)
  · first | (obtain ⟨_, rfl, _⟩ := h; rfl) | (obtain ⟨_, _, rfl, _⟩ := h; rfl) | (obtain ⟨_, _, _, rfl, _⟩ := h; rfl) | (obtain ⟨_, _, _, _, rfl, _⟩ := h; rfl) | (obtain ⟨_, _, _, _, _, rfl, _⟩ := h; rfl) | (obtain ⟨_, _, _, _, _, _, rfl, _⟩ := h; rfl) | (obtain ⟨_, _, _, _, _, _, _, rfl, _⟩ := h; rfl) | (obtain ⟨_, _, _, _, _, _, _, _, rfl, _⟩ := h; rfl) | (obtain ⟨_, _, _, _, _, _, _, _, _, rfl, _⟩ := h; rfl) | (obtain ⟨_, _, _, _, _, _, _, _, _, _, rfl, _⟩ := h; rfl)
  · obtain ⟨a, xs, rfl, hS, q⟩ := h
    rcases hS with hS | hS
    · refine ⟨_, (pss_cons (ps_setI (i := 1) sc_trimmed.nd rfl (Or.inl rfl) (pe_callB call_len_seq (by rfl) T.z_len PySem.boot_len (pa_cons (pv 0) pa_nil)))
      (pss_cons (ps_while PassesOwn.leaving (PW.pt (pw_and (pt_cmpR op_gt (pv 1) pe_int (nomark _)) (pw_and1 (pt_cmpR op_eq (pe_ix ix_list (pv 0) (pe_op op_sub (pv 1) pe_int) (fun _ _ => rfl)) pe_int (nomark _))))) (pss_one (ps_setI (i := 1) sc_trimmed.nd rfl (Or.inl rfl) (pe_op op_sub (pv 1) pe_int))))
      (pss_one (ps_ret (pe_callTy call_list_of (by rfl) T.z_list (by decide +kernel) (pa_cons (pe_slice sl_list (pv 0) po_none (po_some (pv 1))) pa_nil)))))), ?_⟩
      refine ⟨_, rfl, _, _, rfl, .inl hS, _, rfl, fun l0 el => ?_⟩
      rw [len_map] at el
      refine ⟨fun m σ' H' => H = H' ∧ ∃ n : Nat, σ' = [some (.ref a), some (.int (n : Int))] ∧ m = n ∧ n ≤ xs.length ∧ ∀ k, n ≤ k → xs.getD k 0 = 0, ⟨_, rfl, xs.length, by rw [el]; rfl, rfl, Nat.le_refl _, fun k hk => getD_end hk⟩, ?_⟩
      rintro m _ _ ⟨rfl, n, rfl, rfl, hn, hz⟩
      have fin : (m = 0 ∨ xs.getD (m - 1) 0 ≠ 0) → Trim xs m := fun h => ⟨hn, hz, h⟩
      refine ⟨_, rfl, _, _, rfl, rfl, _, rfl, iteD (fun h1 => ?_) (fun h1 => ?_)⟩
      · have hm : m - 1 < xs.length := by omega
        refine ⟨_, rfl, _, rfl, _, _, rfl, rfl, _, _, _, _, rfl, rfl, hS, at_of (j := m - 1) (by omega) (map_at (get_of_lt hm)), rfl, _, rfl, iteEq (fun h2 => ?_) (fun h2 => ?_)⟩
        · refine ⟨fun σ2 H2 => ∃ m', m' < m ∧ H = H2 ∧ ∃ n : Nat, σ2 = [some (.ref a), some (.int (n : Int))] ∧ m' = n ∧ n ≤ xs.length ∧ ∀ k, n ≤ k → xs.getD k 0 = 0, fun _ _ h => h, ?_⟩
          refine ⟨_, rfl, _, _, rfl, rfl, _, rfl, fun l1 e1 => ?_⟩
          refine ⟨m - 1, by omega, rfl, m - 1, by rw [e1, show (m : Int) - 1 = ((m - 1 : Nat) : Int) by omega]; rfl, rfl, by omega, fun k hk => ?_⟩
          by_cases c : k = m - 1
          · rw [c]; exact h2
          · exact hz k (by omega)
        · have t := fin (.inr h2)
          refine ⟨_, rfl, _, rfl, _, rfl, _, _, rfl, hS, fun p np => ?_⟩
          rw [cut_lo (by rw [len_map]; exact hn), ← List.map_take]
          exact ⟨_, _, rfl, .inl (SqL.of upd_same), fun l nl => q l _ m ((sm_new np).trans (sm_new nl)) ((sm_new np).free nl) upd_same t⟩
      · have t := fin (.inl (by omega))
        refine ⟨_, rfl, _, rfl, _, rfl, _, _, rfl, hS, fun p np => ?_⟩
        rw [cut_lo (by rw [len_map]; exact hn), ← List.map_take]
        exact ⟨_, _, rfl, .inl (SqL.of upd_same), fun l nl => q l _ m ((sm_new np).trans (sm_new nl)) ((sm_new np).free nl) upd_same t⟩
    · refine ⟨_, (pss_cons (ps_setI (i := 1) sc_trimmed.nd rfl (Or.inl rfl) (pe_callB call_len_seq (by rfl) T.z_len PySem.boot_len (pa_cons (pv 0) pa_nil)))
      (pss_cons (ps_while PassesOwn.leaving (PW.pt (pw_and (pt_cmpR op_gt (pv 1) pe_int (nomark _)) (pw_and1 (pt_cmpR op_eq (pe_ix ix_tup (pv 0) (pe_op op_sub (pv 1) pe_int) (fun _ _ => rfl)) pe_int (nomark _))))) (pss_one (ps_setI (i := 1) sc_trimmed.nd rfl (Or.inl rfl) (pe_op op_sub (pv 1) pe_int))))
      (pss_one (ps_ret (pe_callTy call_list_of (by rfl) T.z_list (by decide +kernel) (pa_cons (pe_slice sl_tupA (pv 0) po_none (po_some (pv 1))) pa_nil)))))), ?_⟩
      refine ⟨_, rfl, _, _, rfl, .inr hS, _, rfl, fun l0 el => ?_⟩
      rw [len_map] at el
      refine ⟨fun m σ' H' => H = H' ∧ ∃ n : Nat, σ' = [some (.ref a), some (.int (n : Int))] ∧ m = n ∧ n ≤ xs.length ∧ ∀ k, n ≤ k → xs.getD k 0 = 0, ⟨_, rfl, xs.length, by rw [el]; rfl, rfl, Nat.le_refl _, fun k hk => getD_end hk⟩, ?_⟩
      rintro m _ _ ⟨rfl, n, rfl, rfl, hn, hz⟩
      have fin : (m = 0 ∨ xs.getD (m - 1) 0 ≠ 0) → Trim xs m := fun h => ⟨hn, hz, h⟩
      refine ⟨_, rfl, _, _, rfl, rfl, _, rfl, iteD (fun h1 => ?_) (fun h1 => ?_)⟩
      · have hm : m - 1 < xs.length := by omega
        refine ⟨_, rfl, _, rfl, _, _, rfl, rfl, _, _, _, _, rfl, rfl, hS, at_of (j := m - 1) (by omega) (map_at (get_of_lt hm)), rfl, _, rfl, iteEq (fun h2 => ?_) (fun h2 => ?_)⟩
        · refine ⟨fun σ2 H2 => ∃ m', m' < m ∧ H = H2 ∧ ∃ n : Nat, σ2 = [some (.ref a), some (.int (n : Int))] ∧ m' = n ∧ n ≤ xs.length ∧ ∀ k, n ≤ k → xs.getD k 0 = 0, fun _ _ h => h, ?_⟩
          refine ⟨_, rfl, _, _, rfl, rfl, _, rfl, fun l1 e1 => ?_⟩
          refine ⟨m - 1, by omega, rfl, m - 1, by rw [e1, show (m : Int) - 1 = ((m - 1 : Nat) : Int) by omega]; rfl, rfl, by omega, fun k hk => ?_⟩
          by_cases c : k = m - 1
          · rw [c]; exact h2
          · exact hz k (by omega)
        · have t := fin (.inr h2)
          refine ⟨_, rfl, _, rfl, _, rfl, _, _, rfl, hS, fun w => ?_, fun w p np => ?_⟩
          · have e : xs.take m = xs := by
              have z := w.2
              rw [HT.sIx_nat, len_map] at z
              exact List.take_of_length_le (by omega)
            exact ⟨_, _, rfl, .inr hS, fun l nl => q l _ m (sm_new nl) nl (by rw [e]; exact upd_same) t⟩
          · rw [cut_lo (by rw [len_map]; exact hn), ← List.map_take]
            exact ⟨_, _, rfl, .inr (SqT.of upd_same), fun l nl => q l _ m ((sm_new np).trans (sm_new nl)) ((sm_new np).free nl) upd_same t⟩
      · have t := fin (.inl (by omega))
        refine ⟨_, rfl, _, rfl, _, rfl, _, _, rfl, hS, fun w => ?_, fun w p np => ?_⟩
        · have e : xs.take m = xs := by
            have z := w.2
            rw [HT.sIx_nat, len_map] at z
            exact List.take_of_length_le (by omega)
          exact ⟨_, _, rfl, .inr hS, fun l nl => q l _ m (sm_new nl) nl (by rw [e]; exact upd_same) t⟩
        · rw [cut_lo (by rw [len_map]; exact hn), ← List.map_take]
          exact ⟨_, _, rfl, .inr (SqT.of upd_same), fun l nl => q l _ m ((sm_new np).trans (sm_new nl)) ((sm_new np).free nl) upd_same t⟩

theorem ok_common_factor (T : Tx K mg) : OkF P w K mg base 1 (He.fAd K ("common_factor", none)) ["numbers"] (spCom K) := by
  refine okF_of (d := d_common_factor) T.d_common_factor rfl sc_common_factor (fun _ _ _ _ _ _ us hl => match us, hl with | [_], _ => rfl) (fun vs H Q E h => ?_) (fun cdv A outer s H vs Q E hr h => ?_)
  · first | (obtain ⟨_, rfl, _⟩ := h; rfl) | (obtain ⟨_, _, rfl, _⟩ := h; rfl) | (obtain ⟨_, _, _, rfl, _⟩ := h; rfl) | (obtain ⟨_, _, _, _, rfl, _⟩ := h; rfl) | (obtain ⟨_, _, _, _, _, rfl, _⟩ := h; rfl) | (obtain ⟨_, _, _, _, _, _, rfl, _⟩ := h; rfl) | (obtain ⟨_, _, _, _, _, _, _, rfl, _⟩ := h; rfl) | (obtain ⟨_, _, _, _, _, _, _, _, rfl, _⟩ := h; rfl) | (obtain ⟨_, _, _, _, _, _, _, _, _, rfl, _⟩ := h; rfl) | (obtain ⟨_, _, _, _, _, _, _, _, _, _, rfl, _⟩ := h; rfl)
  · obtain ⟨a, xs, rfl, hS, q⟩ := h
    refine ⟨_, (pss_cons (ps_setI (i := 1) sc_common_factor.nd rfl (Or.inl rfl) pe_int)
      (pss_cons (ps_for PassesOwn.leaving rfl (pi_list (pv 0)) (pg_name (i := 2) sc_common_factor.nd rfl (Or.inl rfl)) (pss_cons (ps_setI (i := 1) sc_common_factor.nd rfl (Or.inl rfl) (pe_callBfun cr_gcd rfl T.g_gcd (pa_cons (pv 1) (pa_cons (pv 2) pa_nil))))
      (pss_one (ps_if (pt_cmpR op_eq (pv 1) pe_int (nomark _)) (pss_one (ps_ret pe_int)) pss_nil))))
      (pss_one (ps_ret (pv 1))))), ?_⟩
    refine ⟨_, rfl, fun f0 ef => ?_⟩
    refine ⟨_, rfl, _, rfl, ⟨_, hS⟩, for_list (K := K) (a := a) (xs := xs.map V.int) (fun i σ' H' => H = H' ∧ ∃ y : Option V, σ' = [some (.ref a), some (.int ((gcdL (xs.take i) : Nat) : Int)), y]) ⟨rfl, _, by rw [ef]; rfl⟩ (fun i σ' H' hi hI => ?_) (fun i x σ' H' hi hI => ?_) (fun σ' H' hI => ?_)⟩
    · obtain ⟨rfl, y, rfl⟩ := hI
      exact hS
    · obtain ⟨rfl, y, rfl⟩ := hI
      obtain ⟨n, hn, rfl⟩ : ∃ n, xs[i]? = some n ∧ x = V.int n := by
        rw [List.getElem?_map] at hi
        cases e : xs[i]? with
        | none => rw [e] at hi; cases hi
        | some n => rw [e] at hi; cases hi; exact ⟨n, rfl, rfl⟩
      refine ⟨_, rfl, _, rfl, _, _, rfl, _, rfl, fun f1 e1 => ?_⟩
      rw [Int.natAbs_natCast, ← gcdL_more hn] at e1
      refine ⟨_, rfl, rfl, _, rfl, iteEq (fun c => ?_) (fun c => ?_)⟩
      · have g1 : gcdL xs = 1 := gcdL_one (i := i + 1) (by omega)
        rw [g1] at q
        exact q
      · exact ⟨rfl, _, by rw [e1]; rfl⟩
    · obtain ⟨rfl, y, rfl⟩ := hI
      rw [len_map, List.take_length]
      exact ⟨_, rfl, q⟩

theorem ok_Poly___init__ (T : Tx K mg) (O_trimmed : OkF P w K mg base 1 (He.fAd K ("trimmed", none)) ["coefs"] (spTrim K)) (O_common_factor : OkF P w K mg base 1 (He.fAd K ("common_factor", none)) ["numbers"] (spCom K)) : OkD P w K mg base 2 (He.fAd K ("Poly", some "__init__")) ["self", "coefs", "den"] (He.Dv.v K (.int 1)) (spPInit K) := by
  obtain ⟨_, G_trimmed, b_trimmed, k_trimmed⟩ := O_trimmed
  obtain ⟨_, G_common_factor, b_common_factor, k_common_factor⟩ := O_common_factor
  refine okD_of (d := d_Poly___init__) (dv := .int 1) T.d_Poly___init__ rfl sc_Poly___init__ (fun _ _ _ _ _ _ _ us its h1 h2 => match us, its, h1, h2 with | [_, _, _], [_], _, _ => ⟨_, rfl, rfl⟩) (fun _ _ _ _ _ _ _ us its h1 h2 => match us, its, h1, h2 with | [_, _], [_], _, _ => ⟨_, rfl, rfl⟩) (by decide) (fun vs H Q E h => ?_) (fun cdv A outer s H vs Q E hr h => ?_)
  · first | (obtain ⟨_, rfl, _⟩ := h; rfl) | (obtain ⟨_, _, rfl, _⟩ := h; rfl) | (obtain ⟨_, _, _, rfl, _⟩ := h; rfl) | (obtain ⟨_, _, _, _, rfl, _⟩ := h; rfl) | (obtain ⟨_, _, _, _, _, rfl, _⟩ := h; rfl) | (obtain ⟨_, _, _, _, _, _, rfl, _⟩ := h; rfl) | (obtain ⟨_, _, _, _, _, _, _, rfl, _⟩ := h; rfl) | (obtain ⟨_, _, _, _, _, _, _, _, rfl, _⟩ := h; rfl) | (obtain ⟨_, _, _, _, _, _, _, _, _, rfl, _⟩ := h; rfl) | (obtain ⟨_, _, _, _, _, _, _, _, _, _, rfl, _⟩ := h; rfl)
  · obtain ⟨x, dx, a, cs, d, k, rfl, hx, hS, hlen, hb, hk, hE, q⟩ := h
    refine ⟨_, (pss_cons (ps_if (pt_cmpR op_eq (pv 2) pe_int (nomark _)) (pss_one (ps_raise rfl (takes_of rfl rfl rfl rfl) (pmk_own PySem.F.excBase_ValueError T.x_DivisionByZero T.g_DivisionByZero T.k_DivisionByZero (T.r_DivisionByZero rfl) rfl))) pss_nil)
      (pss_cons (ps_set (i := 3) sc_Poly___init__.nd rfl (Or.inl rfl) (pe_call G_trimmed (hr.mono (by decide)) (by rfl) T.g_trimmed k_trimmed b_trimmed .nil passL (pa_cons (pv 1) pa_nil)))
      (pss_cons (ps_setI (i := 4) sc_Poly___init__.nd rfl (Or.inr rfl) (pe_call G_common_factor (hr.mono (by decide)) (by rfl) T.g_common_factor k_common_factor b_common_factor .nil passL (pa_cons (pe_op op_cat (pe_lst (pa_cons (pv 2) pa_nil)) (pv 3)) pa_nil)))
      (Evl.pss_cut (ps_if (pt_cmpR op_lt (pv 2) pe_int (nomark _)) (pss_one (ps_setI (i := 4) sc_Poly___init__.nd rfl (Or.inr rfl) (pe_un un_neg (pv 4)))) pss_nil)
      (pss_cons (ps_fld (pv 0) (pe_callTy call_tuple_of (by rfl) T.z_tuple (by decide +kernel) (pa_cons (pe_lc (own := [("c", 5)]) (g := gName 5) rfl sc_Poly___init__.nd (pi_list (pv 3)) (blkOk_by (own := [("c", 5)]) (N := N_Poly___init__) (sc := defScope s_Poly___init__) (by decide +kernel)) (fun _ _ _ _ _ => (pg_name (i := 5) sc_Poly___init__.nd rfl (Or.inl rfl))) (fun _ _ _ _ _ => pts_nil) (fun _ _ _ _ _ => (pe_op op_fdivZ (pv 5) (pv 4)))) pa_nil)) rfl)
      (pss_one (ps_fld (pv 0) (pe_op op_fdivZ (pv 2) (pv 4)) rfl))))))), ?_⟩
    refine ⟨_, rfl, rfl, _, rfl, iteEq (fun c => ?_) (fun c => ?_)⟩
    · exact hE c
    refine ⟨_, rfl, a, cs, rfl, hS, fun p1 H1 n sm1 np1 hp1 tr => ?_⟩
    refine ⟨_, rfl, by show 1 ≤ sizeLine; decide, fun p2 np2 => ?_⟩
    have s2 := sm_new (o := .lst [.int d]) np2
    have lt : (cs.take n).length ≤ 900 := by rw [List.length_take]; omega
    refine ⟨_, rfl, _, _, _, _, rfl, rfl, upd_same, s2 _ _ hp1, (by show 1 + ((cs.take n).map V.int).length ≤ sizeLine; rw [len_map]; exact Nat.le_of_lt (small1000 (by omega))), fun p3 np3 => ?_⟩
    have s3 := sm_new (o := .lst ([.int d] ++ (cs.take n).map V.int)) np3
    refine ⟨_, d :: cs.take n, rfl, SqL.of upd_same, _, rfl, fun c0 ec => ?_⟩
    generalize hG : upd (upd H1 p2 (.lst [.int d])) p3 (.lst ([.int d] ++ (cs.take n).map V.int)) = G at s3
    have s4 : Same H1 G := s2.trans s3
    refine ⟨fun σ' H' => G = H' ∧ ∃ c : Int, σ' = [some (.ref x), some (.ref a), some (.int d), some (.ref p1), some (.int c), none] ∧ c = if d < 0 then -c0 else c0, ?_, ?_⟩
    · refine ⟨_, rfl, _, _, rfl, rfl, _, rfl, iteD (fun h1 => ?_) (fun h1 => ?_)⟩
      · exact ⟨_, rfl, _, rfl, _, rfl, fun c e => ⟨rfl, c, rfl, by rw [if_pos h1, e]⟩⟩
      · exact ⟨rfl, c0, rfl, by rw [if_neg h1]⟩
    rintro _ _ ⟨rfl, cc, rfl, hc⟩
    rw [ec] at hc
    obtain ⟨cn0, cl, pq⟩ := pq_init c tr hc
    have dz : ∀ u, CDivZ u cc := fun u => divZ cn0 (Nat.lt_of_le_of_lt cl hb) hk
    have hp1G := s4 _ _ hp1
    refine ⟨_, rfl, _, rfl, ⟨_, SqL.of hp1G⟩, fun D nD => lc_list (K := K) (a := p1) (xs := (cs.take n).map V.int) (fun i H' => Same G H' ∧ H' D = some (.lst ((((cs.take n).map fun x => x.fdiv cc).take i).map V.int))) ⟨sm_new nD, by rw [upd_same]; rfl⟩ (fun i H' hi hP => SqL.of (hP.1 _ _ hp1G)) (fun i y H' hi hP => ?_) (fun H' hP => ?_)⟩
    · obtain ⟨sm, hD⟩ := hP
      obtain ⟨u, hu, rfl⟩ : ∃ u, (cs.take n)[i]? = some u ∧ y = V.int u := by
        rw [List.getElem?_map] at hi
        cases e : (cs.take n)[i]? with
        | none => rw [e] at hi; cases hi
        | some u => rw [e] at hi; cases hi; exact ⟨u, rfl, rfl⟩
      refine ⟨rfl, ?_⟩
      unfold tYes
      refine iteK rfl ?_
      refine ⟨_, rfl, _, rfl, _, _, rfl, rfl, dz u, _, hD, ?_, same_mut sm nD, ?_⟩
      · rw [len_map, List.length_take, List.length_map]
        exact small1000 (by omega)
      · rw [upd_same, List.take_succ, List.map_append, List.getElem?_map, hu]
        rfl
    · obtain ⟨sm, hD⟩ := hP
      have e : ((cs.take n).map fun x => x.fdiv cc).take ((cs.take n).map V.int).length = (cs.take n).map fun x => x.fdiv cc := List.take_of_length_le (by rw [List.length_map, List.length_map]; exact Nat.le_refl _)
      rw [e] at hD
      refine ⟨D, _, rfl, .inl ⟨SqL.of hD, fun t nt => ?_⟩⟩
      have s5 : Same H (upd H' t (.tup (((cs.take n).map fun x => x.fdiv cc).map V.int))) := ((sm1.trans s4).trans sm).trans (sm_new nt)
      refine ⟨_, rfl, x, _, dx, [], rfl, s5 _ _ hx, T.cls_Poly, T.n_Poly_coefs, by decide, ?_⟩
      refine ⟨_, rfl, _, rfl, _, _, rfl, rfl, dz d, _, rfl, x, _, dx, _, rfl, upd_same, T.cls_Poly, T.n_Poly_den, (show (1 : Nat) < 1000 by decide), ?_⟩
      have tx : t ≠ x := fun z => by
        have := ((sm1.trans s4).trans sm) _ _ hx
        rw [z, this] at nt
        cases nt
      have z := q c _ t _ _ s5 upd_same tx pq
      rw [← upd_upd (a := x) (o := .ins (CP K) dx (putF "coefs" (.ref t) []))] at z
      exact z

theorem ok__law_sum_at (T : Tx K mg) : OkF P w K mg base 1 (He.fAd K ("_law_sum_at", none)) ["coefs", "num", "den"] (spSumAt K) := by
  refine okF_of (d := d__law_sum_at) T.d__law_sum_at rfl sc__law_sum_at (fun _ _ _ _ _ _ us hl => match us, hl with | [_, _, _], _ => rfl) (fun vs H Q E h => ?_) (fun cdv A outer s H vs Q E hr h => ?_)
  · (obtain ⟨_, _, _, _, rfl, _⟩ := h; rfl)
  · obtain ⟨a, cs, num, den, rfl, hA, hb, hl, hn, hd, d0, q⟩ := h
    refine ⟨_, (pss_cons (ps_setI (i := 3) sc__law_sum_at.nd rfl (Or.inl rfl) pe_int)
      (pss_cons (ps_setI (i := 4) sc__law_sum_at.nd rfl (Or.inl rfl) pe_int)
      (pss_cons (ps_setI (i := 5) sc__law_sum_at.nd rfl (Or.inl rfl) pe_int)
      (pss_cons (ps_setI (i := 6) sc__law_sum_at.nd rfl (Or.inl rfl) pe_int)
      (pss_cons (ps_for PassesOwn.leaving rfl (pi_list (pv 0)) (pg_name (i := 7) sc__law_sum_at.nd rfl (Or.inl rfl)) (pss_cons (ps_setI (i := 3) sc__law_sum_at.nd rfl (Or.inl rfl) (pe_op op_add (pe_op op_mulW (pv 3) (pv 6)) (pe_op op_mulW (pe_op op_mulW (pv 7) (pv 5)) (pv 4))))
      (pss_cons (ps_setI (i := 4) sc__law_sum_at.nd rfl (Or.inl rfl) (pe_op op_mulW (pv 4) (pv 6)))
      (pss_cons (ps_setI (i := 5) sc__law_sum_at.nd rfl (Or.inl rfl) (pe_op op_mulW (pv 5) (pv 1)))
      (pss_one (ps_setI (i := 6) sc__law_sum_at.nd rfl (Or.inl rfl) (pe_op op_mulW (pv 6) (pv 2))))))))
      (pss_one (ps_ret (pe_lst (pa_cons (pv 3) (pa_cons (pv 4) pa_nil)))))))))), ?_⟩
    refine ⟨_, rfl, fun t0 et => ?_⟩
    refine ⟨_, rfl, fun b0 eb => ?_⟩
    refine ⟨_, rfl, fun pn0 epn => ?_⟩
    refine ⟨_, rfl, fun pd0 epd => ?_⟩
    refine ⟨_, rfl, _, rfl, ⟨_, hA⟩, for_list (K := K) (a := a) (xs := cs.map V.int) (fun i σ' H' => H = H' ∧ ∃ (tp bl pn pd : Int) (y : Option V), σ' = [some (.ref a), some (.int num), some (.int den), some (.int tp), some (.int bl), some (.int pn), some (.int pd), y] ∧ pn = num ^ i ∧ pd = den ^ i ∧ 0 < bl ∧ bl.natAbs < 2 ^ (277 * i + 1) ∧ tp.natAbs < 2 ^ (600 * i + 300) ∧ tp * den ^ cs.length = bl * sumTo (vaT num den cs cs.length) i)
      ⟨rfl, t0, b0, pn0, pd0, none, rfl, by rw [epn, Int.pow_zero], by rw [epd, Int.pow_zero], by omega, by rw [eb]; decide, by rw [et]; exact Nat.pow_pos (by decide), by rw [et, Int.zero_mul]; exact (Int.mul_zero _).symm⟩ (fun i σ' H' hi hI => ?_) (fun i x σ' H' hi hI => ?_) (fun σ' H' hI => ?_)⟩
    · exact hI.1 ▸ hA
    · obtain ⟨rfl, tp, bl, pn, pd, y, rfl, hpn, hpd, bp, bb, tb, eq⟩ := hI
      obtain ⟨c, hc, rfl⟩ := get_map_int hi
      have il : i < cs.length := (List.getElem?_eq_some_iff.mp hc).1
      have ec := getD_of hc
      have pnb : pn.natAbs < 2 ^ 277 := by rw [hpn]; exact abs_mono (pow_bits hn i) (by omega)
      have pdb : pd.natAbs < 2 ^ 277 := by rw [hpd]; exact abs_mono (pow_bits hd i) (by omega)
      have cb := hb.all c (List.mem_of_getElem? hc)
      have x1 := abs_lt_mul tb pdb
      have x2 := abs_lt_mul cb pnb
      have x3 := abs_lt_mul x2 bb
      have pd0 : 0 < pd := by rw [hpd]; exact Int.pow_pos d0
      refine ⟨_, rfl, _, rfl, _, _, rfl, rfl, mulW tb pdb (by omega), _, rfl, _, rfl, _, _, rfl, rfl, mulW cb pnb (by omega), _, rfl, _, _, rfl, rfl, mulW x2 bb (by omega), _, _, rfl, rfl, _, rfl, fun t1 et1 => ?_⟩
      refine ⟨_, rfl, _, rfl, _, _, rfl, rfl, mulW bb pdb (by omega), _, rfl, fun b1 eb1 => ?_⟩
      refine ⟨_, rfl, _, rfl, _, _, rfl, rfl, mulW pnb hn (by omega), _, rfl, fun n1 en1 => ?_⟩
      refine ⟨_, rfl, _, rfl, _, _, rfl, rfl, mulW pdb hd (by omega), _, rfl, fun d1 ed1 => ?_⟩
      refine ⟨rfl, t1, b1, n1, d1, _, rfl, by rw [en1, hpn, Int.pow_succ], by rw [ed1, hpd, Int.pow_succ], by rw [eb1]; exact Int.mul_pos bp pd0, by rw [eb1]; exact abs_mono (abs_lt_mul bb pdb) (by omega), by rw [et1]; exact abs_mono (sz_add x1 x3) (by omega), ?_⟩
      show _ = b1 * (sumTo _ i + vaT num den cs cs.length i)
      unfold vaT
      rw [et1, eb1, ec, Int.mul_add, hpn]
      have a1 : den ^ cs.length = pd * den ^ (cs.length - i) := by rw [hpd, ← Int.pow_add]; congr 1; omega
      have a2 : (tp * pd + c * num ^ i * bl) * den ^ cs.length = (tp * den ^ cs.length) * pd + (c * num ^ i * bl) * (pd * den ^ (cs.length - i)) := by rw [← a1]; grind
      rw [a2, eq]
      unfold vaT
      grind
    · obtain ⟨rfl, tp, bl, pn, pd, y, rfl, hpn, hpd, bp, bb, tb, eq⟩ := hI
      rw [len_map] at eq bb tb
      rw [← vaL_sum] at eq
      exact ⟨_, rfl, _, rfl, by show 2 ≤ sizeLine; decide, fun p np => q p _ tp bl (sm_new np) np upd_same ⟨eq, bp, abs_mono tb (by omega), abs_mono bb (by omega)⟩⟩

theorem ok_evaluated (T : Tx K mg) : OkF P w K mg base 1 (He.fAd K ("evaluated", none)) ["coefs", "at"] (spEval K) := by
  refine okF_of (d := d_evaluated) T.d_evaluated rfl sc_evaluated (fun _ _ _ _ _ _ us hl => match us, hl with | [_, _], _ => rfl) (fun vs H Q E h => ?_) (fun cdv A outer s H vs Q E hr h => ?_)
  · first | (obtain ⟨_, rfl, _⟩ := h; rfl) | (obtain ⟨_, _, rfl, _⟩ := h; rfl) | (obtain ⟨_, _, _, rfl, _⟩ := h; rfl) | (obtain ⟨_, _, _, _, rfl, _⟩ := h; rfl) | (obtain ⟨_, _, _, _, _, rfl, _⟩ := h; rfl) | (obtain ⟨_, _, _, _, _, _, rfl, _⟩ := h; rfl) | (obtain ⟨_, _, _, _, _, _, _, rfl, _⟩ := h; rfl) | (obtain ⟨_, _, _, _, _, _, _, _, rfl, _⟩ := h; rfl) | (obtain ⟨_, _, _, _, _, _, _, _, _, rfl, _⟩ := h; rfl) | (obtain ⟨_, _, _, _, _, _, _, _, _, _, rfl, _⟩ := h; rfl)
  · obtain ⟨a, cs, x, k, j, rfl, hS, hb, hx, hk, q⟩ := h
    refine ⟨_, (pss_cons (ps_setI (i := 2) sc_evaluated.nd rfl (Or.inl rfl) pe_int)
      (pss_cons (ps_for PassesOwn.leaving rfl (RT.pi_revA (by rfl) T.z_reversed (pv 0)) (pg_name (i := 3) sc_evaluated.nd rfl (Or.inl rfl)) (pss_one (ps_setI (i := 2) sc_evaluated.nd rfl (Or.inl rfl) (pe_op op_add (pe_op op_mulW (pv 2) (pv 1)) (pv 3)))))
      (pss_one (ps_ret (pv 2))))), ?_⟩
    refine ⟨_, rfl, fun t0 et => ?_⟩
    refine ⟨_, rfl, _, _, rfl, .inr ⟨hS, RT.for_ItvT (K := K) (a := a) (xs := cs.map V.int) (fun i σ' H' => H = H' ∧ ∃ (t : Int) (y : Option V), σ' = [some (.ref a), some (.int x), some (.int t), y] ∧ t = evL x (cs.drop (cs.length - i)))
      ⟨rfl, t0, none, rfl, by rw [et, Nat.sub_zero, List.drop_length]; rfl⟩ (fun i σ' H' hI => ?_) (fun i y σ' H' hlt hi hI => ?_) (fun σ' H' hI => ?_)⟩⟩
    · obtain ⟨rfl, t, y, rfl, ht⟩ := hI
      exact hS
    · obtain ⟨rfl, t, y0, rfl, ht⟩ := hI
      rw [len_map] at hlt hi
      obtain ⟨c, hc, rfl⟩ : ∃ c, cs[cs.length - 1 - i]? = some c ∧ y = V.int c := by
        rw [List.getElem?_map] at hi
        cases e : cs[cs.length - 1 - i]? with
        | none => rw [e] at hi; cases hi
        | some u => rw [e] at hi; cases hi; exact ⟨u, rfl, rfl⟩
      have tb := evL_bits hx (k := k) (cs := cs.drop (cs.length - i)) fun z hz => hb z (List.mem_of_mem_drop hz)
      rw [← ht, List.length_drop] at tb
      have le : (j + 1) * (cs.length - (cs.length - i)) ≤ (j + 1) * cs.length := Nat.mul_le_mul_left _ (by omega)
      rw [Nat.mul_add] at hk
      refine ⟨_, rfl, _, rfl, _, _, rfl, rfl, mulW tb hx (by omega), _, rfl, _, _, rfl, rfl, _, rfl, fun t2 e2 => ?_⟩
      refine ⟨rfl, t2, _, rfl, ?_⟩
      rw [e2, ht, drop_rev hc hlt]
      rfl
    · obtain ⟨rfl, t, y, rfl, ht⟩ := hI
      rw [len_map, Nat.sub_self, List.drop_zero] at ht
      rw [← ht] at q
      exact ⟨_, rfl, q⟩

theorem ok_Fraction___init__ (T : Tx K mg) : OkD P w K mg base 1 (He.fAd K ("Fraction", some "__init__")) ["self", "num", "den"] (He.Dv.v K (.int 1)) (spInit K) := by
  refine okD_of (d := d_Fraction___init__) (dv := .int 1) T.d_Fraction___init__ rfl sc_Fraction___init__ (fun _ _ _ _ _ _ _ us its h1 h2 => match us, its, h1, h2 with | [_, _, _], [_], _, _ => ⟨_, rfl, rfl⟩) (fun _ _ _ _ _ _ _ us its h1 h2 => match us, its, h1, h2 with | [_, _], [_], _, _ => ⟨_, rfl, rfl⟩) (by decide) (fun vs H Q E h => ?_) (fun cdv A outer s H vs Q E hr h => ?_)
  · first | (obtain ⟨_, rfl, _⟩ := h; rfl) | (obtain ⟨_, _, rfl, _⟩ := h; rfl) | (obtain ⟨_, _, _, rfl, _⟩ := h; rfl) | (obtain ⟨_, _, _, _, rfl, _⟩ := h; rfl) | (obtain ⟨_, _, _, _, _, rfl, _⟩ := h; rfl) | (obtain ⟨_, _, _, _, _, _, rfl, _⟩ := h; rfl) | (obtain ⟨_, _, _, _, _, _, _, rfl, _⟩ := h; rfl) | (obtain ⟨_, _, _, _, _, _, _, _, rfl, _⟩ := h; rfl) | (obtain ⟨_, _, _, _, _, _, _, _, _, rfl, _⟩ := h; rfl) | (obtain ⟨_, _, _, _, _, _, _, _, _, _, rfl, _⟩ := h; rfl)
  · obtain ⟨x, dx, n, d, k, rfl, hx, hb, hk, hE, q⟩ := h
    refine ⟨_, (pss_cons (ps_if (pt_cmpR op_eq (pv 2) pe_int (nomark _)) (pss_one (ps_raise rfl (takes_of rfl rfl rfl rfl) (pmk_own PySem.F.excBase_ValueError T.x_DivisionByZero T.g_DivisionByZero T.k_DivisionByZero (T.r_DivisionByZero rfl) rfl))) pss_nil)
      (pss_cons (ps_setI (i := 3) sc_Fraction___init__.nd rfl (Or.inl rfl) (pe_callBfun cr_gcd rfl T.g_gcd (pa_cons (pv 1) (pa_cons (pv 2) pa_nil))))
      (Evl.pss_cut (ps_if (pt_cmpR op_lt (pv 2) pe_int (nomark _)) (pss_one (ps_setI (i := 3) sc_Fraction___init__.nd rfl (Or.inl rfl) (pe_un un_neg (pv 3)))) pss_nil)
      (pss_cons (ps_fld (pv 0) (pe_op op_fdivZ (pv 1) (pv 3)) rfl)
      (pss_one (ps_fld (pv 0) (pe_op op_fdivZ (pv 2) (pv 3)) rfl)))))), ?_⟩
    refine ⟨_, rfl, rfl, _, rfl, iteEq (fun c => ?_) (fun c => ?_)⟩
    · exact hE c
    refine ⟨_, rfl, _, rfl, _, _, rfl, _, rfl, fun common e_common => ?_⟩
    refine ⟨fun σ' H' => H = H' ∧ ∃ c : Int, σ' = [some (.ref x), some (.int n), some (.int d), some (.int c)] ∧ c = if d < 0 then -common else common, ?_, ?_⟩
    · refine ⟨_, rfl, _, _, rfl, rfl, _, rfl, iteD (fun h1 => ?_) (fun h1 => ?_)⟩
      · exact ⟨_, rfl, _, rfl, _, rfl, fun c e => ⟨rfl, c, rfl, by rw [if_pos h1, e]⟩⟩
      · exact ⟨rfl, common, rfl, by rw [if_neg h1]⟩
    rintro _ _ ⟨rfl, cc, rfl, hc⟩
    rw [e_common] at hc
    obtain ⟨c0, cl, f⟩ := fq_init c hc
    have dz : CDivZ n cc := divZ c0 (Nat.lt_of_le_of_lt cl hb) hk
    have dz2 : CDivZ d cc := divZ c0 (Nat.lt_of_le_of_lt cl hb) hk
    refine ⟨_, rfl, _, rfl, _, _, rfl, rfl, dz, _, rfl, x, _, dx, [], rfl, hx, T.cls_Fraction, T.n_Fraction_num, by decide, ?_⟩
    refine ⟨_, rfl, _, rfl, _, _, rfl, rfl, dz2, _, rfl, x, _, dx, _, rfl, upd_same, T.cls_Fraction, T.n_Fraction_den, (show (1 : Nat) < 1000 by decide), ?_⟩
    have z := q c _ _ f
    rw [← upd_upd (H := H) (a := x) (o := .ins (CF K) dx (putF "num" (.int (n.fdiv cc)) []))] at z
    exact z

theorem ok_Poly_at (T : Tx K mg) (O_evaluated : OkF P w K mg base 1 (He.fAd K ("evaluated", none)) ["coefs", "at"] (spEval K)) (O_Fraction___init__ : OkD P w K mg base 1 (He.fAd K ("Fraction", some "__init__")) ["self", "num", "den"] (He.Dv.v K (.int 1)) (spInit K)) : OkF P w K mg base 3 (He.fAd K ("Poly", some "at")) ["self", "k"] (spPAt K) := by
  obtain ⟨_, G_evaluated, b_evaluated, k_evaluated⟩ := O_evaluated
  obtain ⟨_, G_Fraction___init__, b_Fraction___init__, ⟨_, v_Fraction___init__, bd_Fraction___init__⟩, k_Fraction___init__⟩ := O_Fraction___init__
  refine okF_of (d := d_Poly_at) T.d_Poly_at rfl sc_Poly_at (fun _ _ _ _ _ _ us hl => match us, hl with | [_, _], _ => rfl) (fun vs H Q E h => ?_) (fun cdv A outer s H vs Q E hr h => ?_)
  · first | (obtain ⟨_, rfl, _⟩ := h; rfl) | (obtain ⟨_, _, rfl, _⟩ := h; rfl) | (obtain ⟨_, _, _, rfl, _⟩ := h; rfl) | (obtain ⟨_, _, _, _, rfl, _⟩ := h; rfl) | (obtain ⟨_, _, _, _, _, rfl, _⟩ := h; rfl) | (obtain ⟨_, _, _, _, _, _, rfl, _⟩ := h; rfl) | (obtain ⟨_, _, _, _, _, _, _, rfl, _⟩ := h; rfl) | (obtain ⟨_, _, _, _, _, _, _, _, rfl, _⟩ := h; rfl) | (obtain ⟨_, _, _, _, _, _, _, _, _, rfl, _⟩ := h; rfl) | (obtain ⟨_, _, _, _, _, _, _, _, _, _, rfl, _⟩ := h; rfl)
  · obtain ⟨a, ks, e, x, k, j, rfl, hp, e0, eb, hb, hx, hk, q⟩ := h
    obtain ⟨da, t, ha, ht⟩ := hp
    refine ⟨_, (pss_one (ps_ret (pe_makeI T.mk_Fraction G_Fraction___init__ (hr.mono (by decide)) (by rfl) T.g_Fraction b_Fraction___init__ .nil passL (mkFr_conv K []) (pa_cons (pe_call G_evaluated (hr.mono (by decide)) (by rfl) T.g_evaluated k_evaluated b_evaluated .nil passL (pa_cons (pe_fld (pv 0) rfl) (pa_cons (pv 1) pa_nil))) (pa_cons (pe_fld (pv 0) rfl) pa_nil))))), ?_⟩
    refine ⟨_, rfl, _, _, _, _, _, rfl, ha, T.cls_Poly, T.n_Poly_coefs, rfl, _, rfl, _, ks, x, k, j, rfl, SqT.of ht, hb.all, hx, hk, ?_⟩
    exact ⟨_, rfl, _, _, _, _, _, rfl, ha, T.cls_Poly, T.n_Poly_den, rfl, _, _, 8000, rfl, eb, by decide, by omega, q⟩

theorem ok__law_is_integer (T : Tx K mg) : OkF P w K mg base 1 (He.fAd K ("_law_is_integer", none)) ["x"] (spIsInt K) := by
  refine okF_of (d := d__law_is_integer) T.d__law_is_integer rfl sc__law_is_integer (fun _ _ _ _ _ _ us hl => match us, hl with | [_], _ => rfl) (fun vs H Q E h => ?_) (fun cdv A outer s H vs Q E hr h => ?_)
  · first | (obtain ⟨_, rfl, _⟩ := h; rfl) | (obtain ⟨_, _, rfl, _⟩ := h; rfl) | (obtain ⟨_, _, _, rfl, _⟩ := h; rfl) | (obtain ⟨_, _, _, _, rfl, _⟩ := h; rfl) | (obtain ⟨_, _, _, _, _, rfl, _⟩ := h; rfl) | (obtain ⟨_, _, _, _, _, _, rfl, _⟩ := h; rfl) | (obtain ⟨_, _, _, _, _, _, _, rfl, _⟩ := h; rfl) | (obtain ⟨_, _, _, _, _, _, _, _, rfl, _⟩ := h; rfl) | (obtain ⟨_, _, _, _, _, _, _, _, _, rfl, _⟩ := h; rfl) | (obtain ⟨_, _, _, _, _, _, _, _, _, _, rfl, _⟩ := h; rfl)
  · obtain ⟨n, rfl, q⟩ := h
    refine ⟨_, (pss_one (ps_ret (pe_and (pe_callB call_isi (by rfl) T.z_isinstance (by decide +kernel) (pa_cons (pv 0) (pa_cons (pe_bltn (v := .ty "int") rfl T.z_int (by decide +kernel) rfl) pa_nil))) (pe_one (pe_not (pe_callB call_isi (by rfl) T.z_isinstance (by decide +kernel) (pa_cons (pv 0) (pa_cons (pe_bltn (v := .ty "bool") rfl T.z_bool (by decide +kernel) rfl) pa_nil)))))))), ?_⟩
    exact ⟨_, rfl, _, _, _, _, true, rfl, .ty _, .base (.int _), kit_ty (by decide +kernel), _, rfl, iteK rfl ⟨_, rfl, _, _, _, _, false, rfl, .ty _, .base (.int _), kit_ty (by decide +kernel), _, rfl, q⟩⟩

theorem ok__law_divisor (T : Tx K mg) : OkF P w K mg base 1 (He.fAd K ("_law_divisor", none)) ["a", "b"] (spGcd K) := by
  refine okF_of (d := d__law_divisor) T.d__law_divisor rfl sc__law_divisor (fun _ _ _ _ _ _ us hl => match us, hl with | [_, _], _ => rfl) (fun vs H Q E h => ?_) (fun cdv A outer s H vs Q E hr h => ?_)
  · first | (obtain ⟨_, rfl, _⟩ := h; rfl) | (obtain ⟨_, _, rfl, _⟩ := h; rfl) | (obtain ⟨_, _, _, rfl, _⟩ := h; rfl) | (obtain ⟨_, _, _, _, rfl, _⟩ := h; rfl) | (obtain ⟨_, _, _, _, _, rfl, _⟩ := h; rfl) | (obtain ⟨_, _, _, _, _, _, rfl, _⟩ := h; rfl) | (obtain ⟨_, _, _, _, _, _, _, rfl, _⟩ := h; rfl) | (obtain ⟨_, _, _, _, _, _, _, _, rfl, _⟩ := h; rfl) | (obtain ⟨_, _, _, _, _, _, _, _, _, rfl, _⟩ := h; rfl) | (obtain ⟨_, _, _, _, _, _, _, _, _, _, rfl, _⟩ := h; rfl)
  · obtain ⟨a, b, rfl, q⟩ := h
    refine ⟨_, (pss_cons (ps_setI (i := 0) sc__law_divisor.nd rfl (Or.inl rfl) (pe_callB call_abs (by rfl) T.z_abs (by decide +kernel) (pa_cons (pv 0) pa_nil)))
      (pss_cons (ps_setI (i := 1) sc__law_divisor.nd rfl (Or.inl rfl) (pe_callB call_abs (by rfl) T.z_abs (by decide +kernel) (pa_cons (pv 1) pa_nil)))
      (pss_cons (ps_while PassesOwn.leaving (pt_cmpR op_gt (pv 1) pe_int (nomark _)) (pss_cons (ps_setI (i := 2) sc__law_divisor.nd rfl (Or.inl rfl) (pe_op op_mod (pe_callTy call_int1 (by rfl) T.z_int (by decide +kernel) (pa_cons (pv 0) pa_nil)) (pv 1)))
      (pss_cons (ps_setI (i := 0) sc__law_divisor.nd rfl (Or.inl rfl) (pv 1))
      (pss_one (ps_setI (i := 1) sc__law_divisor.nd rfl (Or.inl rfl) (pv 2))))))
      (pss_one (ps_ret (pv 0)))))), ?_⟩
    refine ⟨_, rfl, _, rfl, _, rfl, fun a1 e1 => ?_⟩
    refine ⟨_, rfl, _, rfl, _, rfl, fun b1 e2 => ?_⟩
    rw [abs_if] at e1 e2
    refine ⟨fun m σ' H' => H = H' ∧ ∃ (x y : Nat) (z : Option V), σ' = [some (.int (x : Int)), some (.int (y : Int)), z] ∧ m = y ∧ Nat.gcd x y = Nat.gcd a.natAbs b.natAbs, ⟨_, rfl, a.natAbs, b.natAbs, none, by rw [e1, e2]; rfl, rfl, rfl⟩, ?_⟩
    rintro m _ _ ⟨rfl, x, y, z, rfl, rfl, hg⟩
    refine ⟨_, rfl, _, _, rfl, rfl, _, rfl, iteD (fun h1 => ?_) (fun h1 => ?_)⟩
    · refine ⟨fun σ2 H2 => ∃ m', m' < m ∧ H = H2 ∧ ∃ (x y : Nat) (z : Option V), σ2 = [some (.int (x : Int)), some (.int (y : Int)), z] ∧ m' = y ∧ Nat.gcd x y = Nat.gcd a.natAbs b.natAbs, fun _ _ h => h, ?_⟩
      refine ⟨_, rfl, .inl ⟨_, rfl, _, rfl, _, _, rfl, rfl, h1, _, rfl, fun r er => ?_⟩⟩
      refine ⟨_, rfl, _, rfl, fun x2 ex => ?_⟩
      refine ⟨_, rfl, _, rfl, fun y2 ey => ?_⟩
      subst ex ey er
      have hm : 0 < m := by omega
      exact ⟨x % m, Nat.mod_lt _ hm, rfl, m, x % m, some (.int ((x : Int) % (m : Int))), by rw [Int.natCast_emod]; rfl, rfl, by rw [← hg, Nat.gcd_comm m, ← Nat.gcd_rec, Nat.gcd_comm]⟩
    · have z : m = 0 := by omega
      subst z
      rw [Nat.gcd_zero_right] at hg
      rw [← hg] at q
      exact ⟨_, rfl, q⟩

theorem ok__law_is (T : Tx K mg) (O__law_is_integer : OkF P w K mg base 1 (He.fAd K ("_law_is_integer", none)) ["x"] (spIsInt K)) (O__law_divisor : OkF P w K mg base 1 (He.fAd K ("_law_divisor", none)) ["a", "b"] (spGcd K)) : OkF P w K mg base 2 (He.fAd K ("_law_is", none)) ["x", "num", "den"] (spIs K) := by
  obtain ⟨_, G__law_is_integer, b__law_is_integer, k__law_is_integer⟩ := O__law_is_integer
  obtain ⟨_, G__law_divisor, b__law_divisor, k__law_divisor⟩ := O__law_divisor
  refine okF_of (d := d__law_is) T.d__law_is rfl sc__law_is (fun _ _ _ _ _ _ us hl => match us, hl with | [_, _, _], _ => rfl) (fun vs H Q E h => ?_) (fun cdv A outer s H vs Q E hr h => ?_)
  · first | (obtain ⟨_, rfl, _⟩ := h; rfl) | (obtain ⟨_, _, rfl, _⟩ := h; rfl) | (obtain ⟨_, _, _, rfl, _⟩ := h; rfl) | (obtain ⟨_, _, _, _, rfl, _⟩ := h; rfl) | (obtain ⟨_, _, _, _, _, rfl, _⟩ := h; rfl) | (obtain ⟨_, _, _, _, _, _, rfl, _⟩ := h; rfl) | (obtain ⟨_, _, _, _, _, _, _, rfl, _⟩ := h; rfl) | (obtain ⟨_, _, _, _, _, _, _, _, rfl, _⟩ := h; rfl) | (obtain ⟨_, _, _, _, _, _, _, _, _, rfl, _⟩ := h; rfl) | (obtain ⟨_, _, _, _, _, _, _, _, _, _, rfl, _⟩ := h; rfl)
  · obtain ⟨a, da, n, d, num, den, k, rfl, ha, f, b1, b2, b3, b4, hk, q⟩ := h
    have dp := f.pos
    refine ⟨_, (pss_cons (ps_if (PW.pt (pw_or (pt_not (pt_val (pe_callB call_isi (by rfl) T.z_isinstance (by decide +kernel) (pa_cons (pv 0) (pa_cons (pe_glob (v := .ref (He.ga K "Fraction")) rfl T.g_Fraction rfl) pa_nil))))) (pw_or (pt_not (pt_val (pe_call G__law_is_integer (hr.mono (by decide)) (by rfl) T.g__law_is_integer k__law_is_integer b__law_is_integer .nil passL (pa_cons (pe_fld (pv 0) rfl) pa_nil)))) (pw_or1 (pt_not (pt_val (pe_call G__law_is_integer (hr.mono (by decide)) (by rfl) T.g__law_is_integer k__law_is_integer b__law_is_integer .nil passL (pa_cons (pe_fld (pv 0) rfl) pa_nil)))))))) (pss_one (ps_ret pe_bl)) pss_nil)
      (pss_cons (ps_if (PW.pt (pw_or (pt_cmpR op_lt (pe_fld (pv 0) rfl) pe_int (nomark _)) (pw_or1 (pt_cmpR op_ne (pe_call G__law_divisor (hr.mono (by decide)) (by rfl) T.g__law_divisor k__law_divisor b__law_divisor .nil passL (pa_cons (pe_fld (pv 0) rfl) (pa_cons (pe_fld (pv 0) rfl) pa_nil))) pe_int (nomark _))))) (pss_one (ps_ret pe_bl)) pss_nil)
      (pss_one (ps_ret (pe_cmpR op_eq (pe_op op_mulW (pe_fld (pv 0) rfl) (pv 2)) (pe_op op_mulW (pv 1) (pe_fld (pv 0) rfl)) (nomark _)))))), ?_⟩
    refine ⟨_, rfl, _, _, _, _, true, rfl, .own _, T.ty_Fraction ha, kit_same _, _, rfl, iteN rfl ?_⟩
    refine ⟨_, rfl, _, _, _, _, _, rfl, ha, T.cls_Fraction, T.n_Fraction_num, rfl, _, rfl, _, rfl, iteN rfl ?_⟩
    refine ⟨_, rfl, _, _, _, _, _, rfl, ha, T.cls_Fraction, T.n_Fraction_den, rfl, _, rfl, _, rfl, iteN rfl ?_⟩
    refine ⟨_, rfl, _, _, _, _, _, rfl, ha, T.cls_Fraction, T.n_Fraction_den, rfl, _, _, rfl, rfl, _, rfl, iteN (decide_eq_false (by omega)) ?_⟩
    refine ⟨_, rfl, _, _, _, _, _, rfl, ha, T.cls_Fraction, T.n_Fraction_num, rfl, _, rfl, _, _, _, _, _, rfl, ha, T.cls_Fraction, T.n_Fraction_den, rfl, _, _, rfl, ?_⟩
    refine ⟨rfl, _, rfl, ?_⟩
    rw [f.cop]
    refine iteN rfl ?_
    refine ⟨_, rfl, _, _, _, _, _, rfl, ha, T.cls_Fraction, T.n_Fraction_num, rfl, _, rfl, _, _, rfl, rfl, mulW b1 b4 (by omega), _, rfl, _, rfl, _, _, _, _, _, rfl, ha, T.cls_Fraction, T.n_Fraction_den, rfl, _, _, rfl, rfl, mulW b3 b2 (by omega), rfl, ?_⟩
    rw [veq f.eq]
    exact q

theorem ok_Poly_value (T : Tx K mg) (O_Fraction___init__ : OkD P w K mg base 1 (He.fAd K ("Fraction", some "__init__")) ["self", "num", "den"] (He.Dv.v K (.int 1)) (spInit K)) : OkF P w K mg base 3 (He.fAd K ("Poly", some "value")) ["self", "x"] (spPVal K) := by
  obtain ⟨_, G_Fraction___init__, b_Fraction___init__, ⟨_, v_Fraction___init__, bd_Fraction___init__⟩, k_Fraction___init__⟩ := O_Fraction___init__
  refine okF_of (d := d_Poly_value) T.d_Poly_value rfl sc_Poly_value (fun _ _ _ _ _ _ us hl => match us, hl with | [_, _], _ => rfl) (fun vs H Q E h => ?_) (fun cdv A outer s H vs Q E hr h => ?_)
  · first | (obtain ⟨_, rfl, _⟩ := h; rfl) | (obtain ⟨_, _, rfl, _⟩ := h; rfl) | (obtain ⟨_, _, _, rfl, _⟩ := h; rfl) | (obtain ⟨_, _, _, _, rfl, _⟩ := h; rfl) | (obtain ⟨_, _, _, _, _, rfl, _⟩ := h; rfl) | (obtain ⟨_, _, _, _, _, _, rfl, _⟩ := h; rfl) | (obtain ⟨_, _, _, _, _, _, _, rfl, _⟩ := h; rfl) | (obtain ⟨_, _, _, _, _, _, _, _, rfl, _⟩ := h; rfl) | (obtain ⟨_, _, _, _, _, _, _, _, _, rfl, _⟩ := h; rfl) | (obtain ⟨_, _, _, _, _, _, _, _, _, _, rfl, _⟩ := h; rfl)
  · obtain ⟨a, b, db, ks, e, n, d, k, j, rfl, hp, hbb, e0, eb, d0, hb, hn, hd, hk, q⟩ := h
    obtain ⟨da, t, ha, ht⟩ := hp
    rw [Nat.mul_add, Nat.mul_one] at hk
    refine ⟨_, (pss_cons (ps_setI (i := 2) sc_Poly_value.nd rfl (Or.inl rfl) pe_int)
      (pss_cons (ps_setI (i := 3) sc_Poly_value.nd rfl (Or.inl rfl) pe_int)
      (pss_cons (ps_for PassesOwn.leaving rfl (RT.pi_revA (by rfl) T.z_reversed (pe_fld (pv 0) rfl)) (pg_name (i := 4) sc_Poly_value.nd rfl (Or.inl rfl)) (pss_cons (ps_setI (i := 3) sc_Poly_value.nd rfl (Or.inl rfl) (pe_op op_mulW (pv 3) (pe_fld (pv 1) rfl)))
      (pss_one (ps_setI (i := 2) sc_Poly_value.nd rfl (Or.inl rfl) (pe_op op_add (pe_op op_mulW (pv 2) (pe_fld (pv 1) rfl)) (pe_op op_mulW (pv 4) (pv 3)))))))
      (pss_one (ps_ret (pe_makeI T.mk_Fraction G_Fraction___init__ (hr.mono (by decide)) (by rfl) T.g_Fraction b_Fraction___init__ .nil passL (mkFr_conv K []) (pa_cons (pv 2) (pa_cons (pe_op op_mulW (pe_fld (pv 0) rfl) (pv 3)) pa_nil)))))))), ?_⟩
    refine ⟨_, rfl, fun t0 et => ?_⟩
    refine ⟨_, rfl, fun s0 es => ?_⟩
    have db_ : ∀ i, i ≤ ks.length → (d ^ i).natAbs < 2 ^ (j * ks.length + 1) := fun i hi => abs_mono (pow_bits hd i) (Nat.add_le_add_right (Nat.mul_le_mul_left _ hi) _)
    have jl : j * ks.length + ks.length = (j + 1) * ks.length := by rw [Nat.add_mul, Nat.one_mul]
    refine ⟨_, rfl, _, _, _, _, _, rfl, ha, T.cls_Poly, T.n_Poly_coefs, rfl, _, _, rfl, .inr ⟨SqT.of ht, RT.for_ItvT (K := K) (a := t) (xs := ks.map V.int) (fun i σ' H' => H = H' ∧ ∃ (tt ss : Int) (y : Option V), σ' = [some (.ref a), some (.ref b), some (.int tt), some (.int ss), y] ∧ tt = vaL n d (ks.drop (ks.length - i)) ∧ ss = d ^ i)
      ⟨rfl, t0, s0, none, rfl, by rw [et, Nat.sub_zero, List.drop_length]; rfl, by rw [es, Int.pow_zero]⟩ (fun i σ' H' hI => ?_) (fun i y σ' H' hlt hi hI => ?_) (fun σ' H' hI => ?_)⟩⟩
    · obtain ⟨rfl, _⟩ := hI
      exact SqT.of ht
    · obtain ⟨rfl, tt, ss, y0, rfl, htt, hss⟩ := hI
      rw [len_map] at hlt hi
      obtain ⟨c, hc, rfl⟩ := get_map_int hi
      have tb := vaL_bits hn hd (k := k) (cs := ks.drop (ks.length - i)) fun z hz => hb.all z (List.mem_of_mem_drop hz)
      rw [← htt, List.length_drop] at tb
      have le : (j + 1) * (ks.length - (ks.length - i)) ≤ (j + 1) * ks.length := Nat.mul_le_mul_left _ (by omega)
      have sb : ss.natAbs < 2 ^ (j * ks.length + 1) := by rw [hss]; exact db_ i (by omega)
      have sb2 : (ss * d).natAbs < 2 ^ (j * ks.length + 1) := by rw [hss, ← Int.pow_succ]; exact db_ (i + 1) (by omega)
      refine ⟨_, rfl, _, rfl, _, _, _, _, _, rfl, hbb, T.cls_Fraction, T.n_Fraction_den, rfl, _, _, rfl, rfl, mulW sb hd (by omega), _, rfl, fun s1 es1 => ?_⟩
      rw [← es1] at sb2
      refine ⟨_, rfl, _, rfl, _, _, _, _, _, rfl, hbb, T.cls_Fraction, T.n_Fraction_num, rfl, _, _, rfl, rfl, mulW tb hn (by omega), _, rfl, _, rfl, _, _, rfl, rfl, mulW (hb.all c (List.mem_of_getElem? hc)) sb2 (by omega), _, _, rfl, rfl, _, rfl, fun t1 et1 => ?_⟩
      refine ⟨rfl, t1, s1, _, rfl, ?_, by rw [es1, hss, Int.pow_succ]⟩
      rw [et1, htt, drop_rev hc hlt, es1, hss, ← Int.pow_succ]
      show _ = vaL n d _ * n + c * d ^ ((ks.drop (ks.length - i)).length + 1)
      rw [List.length_drop, show ks.length - (ks.length - i) = i by omega]
    · obtain ⟨rfl, tt, ss, y0, rfl, htt, hss⟩ := hI
      rw [len_map, Nat.sub_self, List.drop_zero] at htt
      rw [len_map] at hss
      have sb : ss.natAbs < 2 ^ (j * ks.length + 1) := by rw [hss]; exact db_ _ (Nat.le_refl _)
      have s00 : 0 < ss := by rw [hss]; exact Int.pow_pos d0
      rw [← htt, ← hss] at q
      exact ⟨_, rfl, _, rfl, _, _, _, _, _, rfl, ha, T.cls_Poly, T.n_Poly_den, rfl, _, rfl, _, _, rfl, rfl, mulW eb sb (by omega), _, _, 60 + (j * ks.length + 1), rfl, abs_lt_mul eb sb, by omega, Int.mul_ne_zero (by omega) (by omega), q⟩

theorem ok_Poly_scaled (T : Tx K mg) (O_Poly___init__ : OkD P w K mg base 2 (He.fAd K ("Poly", some "__init__")) ["self", "coefs", "den"] (He.Dv.v K (.int 1)) (spPInit K)) : OkF P w K mg base 4 (He.fAd K ("Poly", some "scaled")) ["self", "factor"] (spPSca K) := by
  obtain ⟨_, G_Poly___init__, b_Poly___init__, ⟨_, v_Poly___init__, bd_Poly___init__⟩, k_Poly___init__⟩ := O_Poly___init__
  refine okF_of (d := d_Poly_scaled) T.d_Poly_scaled rfl sc_Poly_scaled (fun _ _ _ _ _ _ us hl => match us, hl with | [_, _], _ => rfl) (fun vs H Q E h => ?_) (fun cdv A outer s H vs Q E hr h => ?_)
  · first | (obtain ⟨_, rfl, _⟩ := h; rfl) | (obtain ⟨_, _, rfl, _⟩ := h; rfl) | (obtain ⟨_, _, _, rfl, _⟩ := h; rfl) | (obtain ⟨_, _, _, _, rfl, _⟩ := h; rfl) | (obtain ⟨_, _, _, _, _, rfl, _⟩ := h; rfl) | (obtain ⟨_, _, _, _, _, _, rfl, _⟩ := h; rfl) | (obtain ⟨_, _, _, _, _, _, _, rfl, _⟩ := h; rfl) | (obtain ⟨_, _, _, _, _, _, _, _, rfl, _⟩ := h; rfl) | (obtain ⟨_, _, _, _, _, _, _, _, _, rfl, _⟩ := h; rfl) | (obtain ⟨_, _, _, _, _, _, _, _, _, _, rfl, _⟩ := h; rfl)
  · obtain ⟨a, b, db, ks, e, n, d, k, rfl, hp, hbb, e0, eb, d0, hb, hn, hd, hl, hk, q⟩ := h
    obtain ⟨da, ta, ha, hta⟩ := hp
    refine ⟨_, (pss_one (ps_ret (pe_makeI T.mk_Poly G_Poly___init__ (hr.mono (by decide)) (by rfl) T.g_Poly b_Poly___init__ .nil passL (mkPo_conv K []) (pa_cons (pe_lc (own := [("c", 2)]) (g := gName 2) rfl sc_Poly_scaled.nd (pi_tup (pe_fld (pv 0) rfl)) (blkOk_by (own := [("c", 2)]) (N := N_Poly_scaled) (sc := defScope s_Poly_scaled) (by decide +kernel)) (fun _ _ _ _ _ => (pg_name (i := 2) sc_Poly_scaled.nd rfl (Or.inl rfl))) (fun _ _ _ _ _ => pts_nil) (fun _ _ _ _ _ => (pe_op op_mulW (pv 2) (pe_fldK (K := K) rfl (pe_fld (pv 1) rfl))))) (pa_cons (pe_op op_mulW (pe_fld (pv 0) rfl) (pe_fld (pv 1) rfl)) pa_nil))))), ?_⟩
    refine ⟨_, rfl, _, _, _, _, _, rfl, ha, T.cls_Poly, T.n_Poly_coefs, rfl, _, rfl, ⟨_, SqT.of hta⟩, fun D nD => lc_tup (K := K) (a := ta) (xs := (ks).map V.int) (fun i HL => Same H HL ∧ HL D = some (.lst ((((ks).map (fun x => x * n)).take i).map V.int))) ⟨sm_new nD, by rw [upd_same]; rfl⟩ (fun i HL hi hP => sm_tup hP.1 (SqT.of hta)) (fun i y HL hi hP => ?_) (fun H2 hP => ?_)⟩
    · obtain ⟨sm, hD⟩ := hP
      obtain ⟨u, hu, rfl⟩ := get_map_int hi
      have hum := List.mem_of_getElem? hu
      have hll := (List.getElem?_eq_some_iff.mp hu).1
      refine ⟨rfl, ?_⟩
      unfold tYes
      refine iteK rfl ?_
      refine ⟨_, rfl, _, rfl, _, _, _, _, _, rfl, sm _ _ hbb, T.cls_Fraction, T.n_Fraction_num, rfl, _, _, rfl, rfl, mulW (hb.all u hum) hn (by omega), _, hD, ?_, same_mut sm nD, ?_⟩
      · rw [len_map, List.length_take, List.length_map]; exact small1000 (by omega)
      · rw [upd_same, List.take_succ, List.map_append, List.getElem?_map, hu]; rfl
    obtain ⟨sD, hD⟩ := hP
    rw [List.take_of_length_le (by rw [List.length_map, List.length_map]; exact Nat.le_refl _)] at hD
    refine ⟨_, rfl, _, _, _, _, _, rfl, sD _ _ ha, T.cls_Poly, T.n_Poly_den, rfl, _, rfl, _, _, _, _, _, rfl, sD _ _ hbb, T.cls_Fraction, T.n_Fraction_den, rfl, _, _, rfl, rfl, mulW eb hd (by omega), D, _, _, k + k, rfl, .inl (SqL.of hD), by rw [List.length_map]; omega, abs_lt_mul eb hd, by omega, Int.mul_ne_zero (by omega) d0, fun p H4 ms g s4 np4 hp4 pq => ?_⟩
    exact q p H4 ms g (sD.trans s4) (sD.free np4) hp4 pq

theorem ok__law_poly_is (T : Tx K mg) (O__law_is_integer : OkF P w K mg base 1 (He.fAd K ("_law_is_integer", none)) ["x"] (spIsInt K)) (O__law_divisor : OkF P w K mg base 1 (He.fAd K ("_law_divisor", none)) ["a", "b"] (spGcd K)) : OkF P w K mg base 2 (He.fAd K ("_law_poly_is", none)) ["p", "coefs", "den"] (spPIs K) := by
  obtain ⟨_, G__law_is_integer, b__law_is_integer, k__law_is_integer⟩ := O__law_is_integer
  obtain ⟨_, G__law_divisor, b__law_divisor, k__law_divisor⟩ := O__law_divisor
  refine okF_of (d := d__law_poly_is) T.d__law_poly_is rfl sc__law_poly_is (fun _ _ _ _ _ _ us hl => match us, hl with | [_, _, _], _ => rfl) (fun vs H Q E h => ?_) (fun cdv A outer s H vs Q E hr h => ?_)
  · first | (obtain ⟨_, rfl, _⟩ := h; rfl) | (obtain ⟨_, _, rfl, _⟩ := h; rfl) | (obtain ⟨_, _, _, rfl, _⟩ := h; rfl) | (obtain ⟨_, _, _, _, rfl, _⟩ := h; rfl) | (obtain ⟨_, _, _, _, _, rfl, _⟩ := h; rfl) | (obtain ⟨_, _, _, _, _, _, rfl, _⟩ := h; rfl) | (obtain ⟨_, _, _, _, _, _, _, rfl, _⟩ := h; rfl) | (obtain ⟨_, _, _, _, _, _, _, _, rfl, _⟩ := h; rfl) | (obtain ⟨_, _, _, _, _, _, _, _, _, rfl, _⟩ := h; rfl) | (obtain ⟨_, _, _, _, _, _, _, _, _, _, rfl, _⟩ := h; rfl)
  · obtain ⟨a, b, ks, cs, e, den, k, rfl, ⟨da, t, ha, ht⟩, hB, pq, l1, l2, b1, b2, b3, b4, hk, q⟩ := h
    have e0 := pq.pos
    refine ⟨_, (pss_cons (ps_if (PW.pt (pw_or (pt_not (pt_val (pe_callB call_isi (by rfl) T.z_isinstance (by decide +kernel) (pa_cons (pv 0) (pa_cons (pe_glob (v := .ref (He.ga K "Poly")) rfl T.g_Poly rfl) pa_nil))))) (pw_or (pt_not (pt_val (pe_callB call_isi (by rfl) T.z_isinstance (by decide +kernel) (pa_cons (pe_fld (pv 0) rfl) (pa_cons (pe_bltn (v := .ty "tuple") rfl T.z_tuple (by decide +kernel) rfl) pa_nil))))) (pw_or (pt_not (pt_val (pe_call G__law_is_integer (hr.mono (by decide)) (by rfl) T.g__law_is_integer k__law_is_integer b__law_is_integer .nil passL (pa_cons (pe_fld (pv 0) rfl) pa_nil)))) (pw_or1 (pt_cmpR op_lt (pe_fld (pv 0) rfl) pe_int (nomark _))))))) (pss_one (ps_ret pe_bl)) pss_nil)
      (pss_cons (ps_setI (i := 3) sc__law_poly_is.nd rfl (Or.inl rfl) (pe_fld (pv 0) rfl))
      (pss_cons (ps_for PassesOwn.leaving rfl (pi_tup (pe_fld (pv 0) rfl)) (pg_name (i := 4) sc__law_poly_is.nd rfl (Or.inl rfl)) (pss_cons (ps_if (pt_not (pt_val (pe_call G__law_is_integer (hr.mono (by decide)) (by rfl) T.g__law_is_integer k__law_is_integer b__law_is_integer .nil passL (pa_cons (pv 4) pa_nil)))) (pss_one (ps_ret pe_bl)) pss_nil)
      (pss_one (ps_setI (i := 3) sc__law_poly_is.nd rfl (Or.inl rfl) (pe_call G__law_divisor (hr.mono (by decide)) (by rfl) T.g__law_divisor k__law_divisor b__law_divisor .nil passL (pa_cons (pv 3) (pa_cons (pv 4) pa_nil)))))))
      (Evl.pss_cut (ps_if (PW.pt (pw_or (pt_cmpR op_ne (pv 3) pe_int (nomark _)) (pw_or1 (PW.pt (pw_and (pt_cmpR op_gt (pe_callB call_len_seq (by rfl) T.z_len PySem.boot_len (pa_cons (pe_fld (pv 0) rfl) pa_nil)) pe_int (nomark _)) (pw_and1 (pt_cmpR op_eq (pe_ix ix_tup (pe_fld (pv 0) rfl) (pe_un un_neg pe_int) (fun _ _ => rfl)) pe_int (nomark _)))))))) (pss_one (ps_ret pe_bl)) pss_nil)
      (pss_cons (ps_setI (i := 5) sc__law_poly_is.nd rfl (Or.inl rfl) (pe_callB (call_max2 rfl) (by rfl) T.z_max (by decide +kernel) (pa_cons (pe_callB call_len_seq (by rfl) T.z_len PySem.boot_len (pa_cons (pe_fld (pv 0) rfl) pa_nil)) (pa_cons (pe_callB call_len_seq (by rfl) T.z_len PySem.boot_len (pa_cons (pv 1) pa_nil)) pa_nil))))
      (pss_cons (ps_set (i := 6) sc__law_poly_is.nd rfl (Or.inl rfl) (pe_op op_cat (pe_callTy call_list_of (by rfl) T.z_list (by decide +kernel) (pa_cons (pe_fld (pv 0) rfl) pa_nil)) (pe_lc (own := [("k", 8)]) (g := gName 8) rfl sc__law_poly_is.nd (pi_range1 rfl T.z_range (pa_cons (pe_op op_sub (pv 5) (pe_callB call_len_seq (by rfl) T.z_len PySem.boot_len (pa_cons (pe_fld (pv 0) rfl) pa_nil))) pa_nil)) (blkOk_by (own := [("k", 8)]) (N := N__law_poly_is) (sc := defScope s__law_poly_is) (by decide +kernel)) (fun _ _ _ _ _ => (pg_name (i := 8) sc__law_poly_is.nd rfl (Or.inl rfl))) (fun _ _ _ _ _ => pts_nil) (fun _ _ _ _ _ => pe_int))))
      (pss_cons (ps_set (i := 7) sc__law_poly_is.nd rfl (Or.inl rfl) (pe_op op_cat (pe_callTy call_list_of (by rfl) T.z_list (by decide +kernel) (pa_cons (pv 1) pa_nil)) (pe_lc (own := [("k", 8)]) (g := gName 8) rfl sc__law_poly_is.nd (pi_range1 rfl T.z_range (pa_cons (pe_op op_sub (pv 5) (pe_callB call_len_seq (by rfl) T.z_len PySem.boot_len (pa_cons (pv 1) pa_nil))) pa_nil)) (blkOk_by (own := [("k", 8)]) (N := N__law_poly_is) (sc := defScope s__law_poly_is) (by decide +kernel)) (fun _ _ _ _ _ => (pg_name (i := 8) sc__law_poly_is.nd rfl (Or.inl rfl))) (fun _ _ _ _ _ => pts_nil) (fun _ _ _ _ _ => pe_int))))
      (pss_cons (ps_for PassesOwn.leaving rfl (pi_range1 rfl T.z_range (pa_cons (pv 5) pa_nil)) (pg_name (i := 8) sc__law_poly_is.nd rfl (Or.inl rfl)) (pss_one (ps_if (pt_cmpR op_ne (pe_op op_mulW (pe_ix ix_list (pv 6) (pv 8) (fun _ _ => rfl)) (pv 2)) (pe_op op_mulW (pe_ix ix_list (pv 7) (pv 8) (fun _ _ => rfl)) (pe_fld (pv 0) rfl)) (nomark _)) (pss_one (ps_ret pe_bl)) pss_nil)))
      (pss_one (ps_ret pe_bl)))))))))), ?_⟩
    refine ⟨_, rfl, _, _, _, _, true, rfl, .own _, T.ty_Poly ha, kit_same _, _, rfl, iteN rfl ?_⟩
    refine ⟨_, rfl, _, _, _, _, _, rfl, ha, T.cls_Poly, T.n_Poly_coefs, rfl, _, _, _, _, true, rfl, .ty _, .base (.tup ht), kit_ty (by decide +kernel), _, rfl, iteN rfl ?_⟩
    refine ⟨_, rfl, _, _, _, _, _, rfl, ha, T.cls_Poly, T.n_Poly_den, rfl, _, rfl, _, rfl, iteN rfl ?_⟩
    refine ⟨_, rfl, _, _, _, _, _, rfl, ha, T.cls_Poly, T.n_Poly_den, rfl, _, _, rfl, rfl, _, rfl, iteN (decide_eq_false (by omega)) ?_⟩
    refine ⟨_, rfl, _, _, _, _, _, rfl, ha, T.cls_Poly, T.n_Poly_den, rfl, _, rfl, fun sh0 es => ?_⟩
    have g0 : gcdL [e] = e.natAbs := Nat.gcd_zero_left _
    refine ⟨_, rfl, _, _, _, _, _, rfl, ha, T.cls_Poly, T.n_Poly_coefs, rfl, _, rfl, ⟨_, SqT.of ht⟩, for_tup (K := K) (a := t) (xs := ks.map V.int) (fun i σ' H' => H = H' ∧ ∃ y : Option V, σ' = [some (.ref a), some (.ref b), some (.int den), some (.int ((gcdL ((e :: ks).take (i + 1)) : Nat) : Int)), y, none, none, none, none])
      ⟨rfl, none, by
        have z : sh0 = ((gcdL ((e :: ks).take (0 + 1)) : Nat) : Int) := by
          show sh0 = ((gcdL [e] : Nat) : Int)
          rw [g0, es]
          omega
        rw [z]
        rfl⟩ (fun i σ' H' hi hI => ?_) (fun i y σ' H' hi hI => ?_) (fun σ' H' hI => ?_)⟩
    · obtain ⟨rfl, y, rfl⟩ := hI
      exact SqT.of ht
    · obtain ⟨rfl, y0, rfl⟩ := hI
      obtain ⟨c, hc, rfl⟩ : ∃ c, ks[i]? = some c ∧ y = V.int c := by
        rw [List.getElem?_map] at hi
        cases e : ks[i]? with
        | none => rw [e] at hi; cases hi
        | some u => rw [e] at hi; cases hi; exact ⟨u, rfl, rfl⟩
      refine ⟨_, rfl, _, rfl, _, rfl, iteN rfl ?_⟩
      refine ⟨_, rfl, _, rfl, _, _, rfl, _, rfl, fun s1 e1 => ?_⟩
      rw [Int.natAbs_natCast, ← gcdL_more (xs := e :: ks) (i := i + 1) hc] at e1
      exact ⟨rfl, _, by rw [e1]; rfl⟩
    obtain ⟨rfl, y, rfl⟩ := hI
    have g1 : gcdL ((e :: ks).take ((ks.map V.int).length + 1)) = 1 := by
      rw [len_map, List.take_of_length_le (by rw [List.length_cons]; exact Nat.le_refl _)]
      exact gcd_one_of e0 pq.cop
    refine ⟨fun σ' H' => H = H' ∧ σ' = [some (.ref a), some (.ref b), some (.int den), some (.int ((gcdL ((e :: ks).take ((ks.map V.int).length + 1)) : Nat) : Int)), y, none, none, none, none], ?_, ?_⟩
    · refine ⟨_, rfl, rfl, _, rfl, iteN (vnn (by rw [g1]; rfl)) ?_⟩
      refine ⟨_, rfl, _, _, _, _, _, rfl, ha, T.cls_Poly, T.n_Poly_coefs, rfl, _, _, rfl, .inr (SqT.of ht), _, _, rfl, rfl, _, rfl, iteD (fun c => ?_) (fun c => ?_)⟩
      · rw [len_map] at c
        have lt : ks.length - 1 < ks.length := by omega
        have nz : ks.getD (ks.length - 1) 0 ≠ 0 := by
          rcases pq.last with h | h
          · rw [h] at c; simp at c
          · exact h
        refine ⟨_, rfl, _, _, _, _, _, rfl, ha, T.cls_Poly, T.n_Poly_coefs, rfl, _, rfl, _, _, _, _, rfl, rfl, SqT.of ht, at_last (by rw [len_map]; exact map_at (get_of_lt lt)), rfl, _, rfl, iteEq (fun z => absurd z nz) (fun _ => ?_)⟩
        exact ⟨rfl, rfl⟩
      · exact ⟨rfl, rfl⟩
    rintro _ _ ⟨rfl, rfl⟩
    have hB0 : SqL K H b (cs.map V.int) ∨ SqT K H b (cs.map V.int) := hB
    refine ⟨_, rfl, _, _, _, _, _, rfl, ha, T.cls_Poly, T.n_Poly_coefs, rfl, _, _, rfl, .inr (SqT.of ht), _, rfl, _, _, rfl, hB0, _, _, rfl, _, rfl, fun size esz => ?_⟩
    rw [len_map, len_map] at esz
    obtain ⟨m, rfl⟩ : ∃ m : Nat, size = m := ⟨max ks.length cs.length, by rw [esz]; split <;> omega⟩
    have hm : m = max ks.length cs.length := by
      have z := esz
      split at z <;> omega
    clear esz
    -- mine
    refine ⟨_, rfl, _, _, _, _, _, rfl, ha, T.cls_Poly, T.n_Poly_coefs, rfl, t, _, rfl, .inr (SqT.of ht), fun p1 np1 => ?_⟩
    have s1 := sm_new (o := .lst (ks.map V.int)) np1
    have hp1 : (upd H p1 (.lst (ks.map V.int))) p1 = some (.lst (ks.map V.int)) := upd_same
    generalize upd H p1 (.lst (ks.map V.int)) = H1 at s1 hp1 ⊢
    refine ⟨_, rfl, _, rfl, _, _, _, _, _, rfl, s1 _ _ ha, T.cls_Poly, T.n_Poly_coefs, rfl, _, _, rfl, .inr (SqT.of (s1 _ _ ht)), _, _, rfl, rfl, _, rfl, by rw [len_map]; omega, by rw [len_map]; omega, fun D nD => lc_range (lo := 0) (n := ((m : Int) - ((ks.map V.int).length : Int)).toNat) (fun i H' => Same H1 H' ∧ H' D = some (.lst ((List.replicate i (0 : Int)).map V.int))) ⟨sm_new nD, upd_same⟩ (fun i H' hi hP => ?_) (fun H2 hP => ?_)⟩
    · obtain ⟨sm, hD⟩ := hP
      refine ⟨rfl, ?_⟩
      unfold tYes
      refine iteK rfl ?_
      rw [len_map] at hi
      refine ⟨_, hD, by rw [len_map, List.length_replicate]; exact small1000 (by omega), same_mut sm nD, ?_⟩
      rw [upd_same, List.replicate_succ', List.map_append]
      rfl
    obtain ⟨s2, hD⟩ := hP
    rw [len_map] at hD
    refine ⟨_, _, _, _, rfl, rfl, s2 _ _ hp1, hD, by rw [len_map, len_map, List.length_replicate]; exact Nat.le_of_lt (small1000 (by omega)), fun p3 np3 => ?_⟩
    have s3 := sm_new (o := .lst (ks.map V.int ++ (List.replicate ((m : Int) - (ks.length : Int)).toNat (0 : Int)).map V.int)) np3
    have hp3 : (upd H2 p3 (.lst (ks.map V.int ++ (List.replicate ((m : Int) - (ks.length : Int)).toNat (0 : Int)).map V.int))) p3 = some (.lst ((ks ++ List.replicate ((m : Int) - (ks.length : Int)).toNat (0 : Int)).map V.int)) := by rw [upd_same, List.map_append]
    generalize upd H2 p3 (.lst (ks.map V.int ++ (List.replicate ((m : Int) - (ks.length : Int)).toNat (0 : Int)).map V.int)) = H3 at s3 hp3 ⊢
    have sA : Same H H3 := (s1.trans s2).trans s3
    -- due
    have hB3 : SqL K H3 b (cs.map V.int) ∨ SqT K H3 b (cs.map V.int) := by
      rcases hB0 with h | h
      · exact .inl (sA.seq h)
      · exact .inr (sm_tup sA h)
    refine ⟨_, rfl, b, _, rfl, hB3, fun p4 np4 => ?_⟩
    have s4 := sm_new (o := .lst (cs.map V.int)) np4
    have hp4 : (upd H3 p4 (.lst (cs.map V.int))) p4 = some (.lst (cs.map V.int)) := upd_same
    generalize upd H3 p4 (.lst (cs.map V.int)) = H4 at s4 hp4 ⊢
    have hB4 : SqL K H4 b (cs.map V.int) ∨ SqT K H4 b (cs.map V.int) := by
      rcases hB3 with h | h
      · exact .inl (s4.seq h)
      · exact .inr (sm_tup s4 h)
    refine ⟨_, rfl, _, rfl, _, _, rfl, hB4, _, _, rfl, rfl, _, rfl, by rw [len_map]; omega, by rw [len_map]; omega, fun D2 nD2 => lc_range (lo := 0) (n := ((m : Int) - ((cs.map V.int).length : Int)).toNat) (fun i H' => Same H4 H' ∧ H' D2 = some (.lst ((List.replicate i (0 : Int)).map V.int))) ⟨sm_new nD2, upd_same⟩ (fun i H' hi hP => ?_) (fun H5 hP => ?_)⟩
    · obtain ⟨sm, hD⟩ := hP
      refine ⟨rfl, ?_⟩
      unfold tYes
      refine iteK rfl ?_
      rw [len_map] at hi
      refine ⟨_, hD, by rw [len_map, List.length_replicate]; exact small1000 (by omega), same_mut sm nD2, ?_⟩
      rw [upd_same, List.replicate_succ', List.map_append]
      rfl
    obtain ⟨s5, hD2⟩ := hP
    rw [len_map] at hD2
    refine ⟨_, _, _, _, rfl, rfl, s5 _ _ hp4, hD2, by rw [len_map, len_map, List.length_replicate]; exact Nat.le_of_lt (small1000 (by omega)), fun p6 np6 => ?_⟩
    have s6 := sm_new (o := .lst (cs.map V.int ++ (List.replicate ((m : Int) - (cs.length : Int)).toNat (0 : Int)).map V.int)) np6
    have hp6 : (upd H5 p6 (.lst (cs.map V.int ++ (List.replicate ((m : Int) - (cs.length : Int)).toNat (0 : Int)).map V.int))) p6 = some (.lst ((cs ++ List.replicate ((m : Int) - (cs.length : Int)).toNat (0 : Int)).map V.int)) := by rw [upd_same, List.map_append]
    generalize upd H5 p6 (.lst (cs.map V.int ++ (List.replicate ((m : Int) - (cs.length : Int)).toNat (0 : Int)).map V.int)) = H6 at s6 hp6 ⊢
    have sB : Same H3 H6 := (s4.trans s5).trans s6
    have sC : Same H H6 := sA.trans sB
    have hmine := sB _ _ hp3
    have gb : ∀ {xs : List Int} (i : Nat), (∀ x ∈ xs, x.natAbs < 2 ^ k) → (xs.getD i 0).natAbs < 2 ^ k := fun {xs} i h => by
      by_cases c : i < xs.length
      · exact h _ (getD_mem c)
      · rw [getD_end (by omega)]; exact Nat.pow_pos (by decide)
    refine ⟨_, rfl, _, rfl, by omega, by omega, for_range (lo := 0) (n := m) (fun i σ' H' => H6 = H' ∧ ∃ yk : Option V, σ' = [some (.ref a), some (.ref b), some (.int den), some (.int ((gcdL ((e :: ks).take ((ks.map V.int).length + 1)) : Nat) : Int)), y, some (.int (m : Int)), some (.ref p3), some (.ref p6), yk]) ⟨rfl, _, rfl⟩ (fun i σ' H' hi hI => ?_) (fun σ' H' hI => ?_)⟩
    · obtain ⟨rfl, yk, rfl⟩ := hI
      have lt1 : i < (ks ++ List.replicate ((m : Int) - (ks.length : Int)).toNat (0 : Int)).length := by rw [List.length_append, List.length_replicate]; omega
      have lt2 : i < (cs ++ List.replicate ((m : Int) - (cs.length : Int)).toNat (0 : Int)).length := by rw [List.length_append, List.length_replicate]; omega
      have v1 := map_at (get_of_lt lt1)
      have v2 := map_at (get_of_lt lt2)
      rw [getD_pad] at v1 v2
      refine ⟨_, rfl, _, rfl, _, _, _, _, rfl, rfl, SqL.of hmine, at_of (j := i) (by omega) v1, _, rfl, _, _, rfl, rfl, mulW (gb i b1) b4 (by omega), _, rfl, _, rfl, _, _, _, _, rfl, rfl, SqL.of hp6, at_of (j := i) (by omega) v2, _, rfl, _, _, _, _, _, rfl, sC _ _ ha, T.cls_Poly, T.n_Poly_den, rfl, _, _, rfl, rfl, mulW (gb i b2) b3 (by omega), rfl, _, rfl, iteN (vnn (pq.eq i)) ?_⟩
      exact ⟨rfl, _, rfl⟩
    · obtain ⟨rfl, yk, rfl⟩ := hI
      exact q H6 sC

theorem ok__law_product (T : Tx K mg) : OkF P w K mg base 1 (He.fAd K ("_law_product", none)) ["a", "b"] (spLPr K) := by
  refine okF_of (d := d__law_product) T.d__law_product rfl sc__law_product (fun _ _ _ _ _ _ us hl => match us, hl with | [_, _], _ => rfl) (fun vs H Q E h => ?_) (fun cdv A outer s H vs Q E hr h => ?_)
  · first | (obtain ⟨_, rfl, _⟩ := h; rfl) | (obtain ⟨_, _, rfl, _⟩ := h; rfl) | (obtain ⟨_, _, _, rfl, _⟩ := h; rfl) | (obtain ⟨_, _, _, _, rfl, _⟩ := h; rfl) | (obtain ⟨_, _, _, _, _, rfl, _⟩ := h; rfl) | (obtain ⟨_, _, _, _, _, _, rfl, _⟩ := h; rfl) | (obtain ⟨_, _, _, _, _, _, _, rfl, _⟩ := h; rfl) | (obtain ⟨_, _, _, _, _, _, _, _, rfl, _⟩ := h; rfl) | (obtain ⟨_, _, _, _, _, _, _, _, _, rfl, _⟩ := h; rfl) | (obtain ⟨_, _, _, _, _, _, _, _, _, _, rfl, _⟩ := h; rfl)
  · obtain ⟨a, b, xs, ys, k, rfl, hA, hB, b1, b2, l1, l2, hk, q⟩ := h
    refine ⟨_, (pss_cons (ps_setLc (i := 2) (own := [("k", 5)]) (g := gName 5) rfl sc__law_product.nd rfl rfl (sw_true rfl rfl rfl (by decide +kernel)) (pi_range1 rfl T.z_range (pa_cons (pe_op op_add (pe_callB call_len_seq (by rfl) T.z_len PySem.boot_len (pa_cons (pv 0) pa_nil)) (pe_callB call_len_seq (by rfl) T.z_len PySem.boot_len (pa_cons (pv 1) pa_nil))) pa_nil)) (blkOk_by (own := [("k", 5)]) (N := N__law_product) (sc := defScope s__law_product) (by decide +kernel)) (fun _ _ _ _ _ => (pg_name (i := 5) sc__law_product.nd rfl (Or.inl rfl))) (fun _ _ _ _ _ => pts_nil) (fun _ _ _ _ _ => pe_int))
      (pss_cons (ps_for PassesOwn.leaving rfl (pi_range1 rfl T.z_range (pa_cons (pe_callB call_len_seq (by rfl) T.z_len PySem.boot_len (pa_cons (pv 0) pa_nil)) pa_nil)) (pg_name (i := 3) sc__law_product.nd rfl (Or.inl rfl)) (pss_one (ps_for PassesOwn.leaving rfl (pi_range1 rfl T.z_range (pa_cons (pe_callB call_len_seq (by rfl) T.z_len PySem.boot_len (pa_cons (pv 1) pa_nil)) pa_nil)) (pg_name (i := 4) sc__law_product.nd rfl (Or.inl rfl)) (pss_one (ps_asg (pe_op op_add (pe_ix ix_list (pv 2) (pe_op op_add (pv 3) (pv 4)) (fun _ _ => rfl)) (pe_op op_mulW (pe_ix ix_list (pv 0) (pv 3) (fun _ _ => rfl)) (pe_ix ix_list (pv 1) (pv 4) (fun _ _ => rfl)))) (pg_sub (pv 2) (pe_op op_add (pv 3) (pv 4)) set_list))))))
      (pss_one (ps_ret (pv 2))))), ?_⟩
    refine ⟨_, rfl, _, _, rfl, .inl hA, _, rfl, _, _, rfl, .inl hB, _, _, rfl, rfl, _, rfl, by rw [len_map, len_map]; omega, by rw [len_map, len_map]; omega, fun D nD => lc_range (lo := 0) (n := (((xs.map V.int).length : Int) + ((ys.map V.int).length : Int)).toNat) (fun i H' => Same H H' ∧ H' D = some (.lst ((List.replicate i (0 : Int)).map V.int))) ⟨sm_new nD, upd_same⟩ (fun i H' hi hP => ?_) (fun H1 hP => ?_)⟩
    · obtain ⟨sm, hD⟩ := hP
      refine ⟨rfl, ?_⟩
      unfold tYes
      refine iteK rfl ?_
      rw [len_map, len_map] at hi
      refine ⟨_, hD, by rw [len_map, List.length_replicate]; exact small1000 (by omega), same_mut sm nD, ?_⟩
      rw [upd_same, List.replicate_succ', List.map_append]
      rfl
    obtain ⟨s1, hD⟩ := hP
    rw [len_map, len_map] at hD
    obtain ⟨N, hN⟩ : ∃ N : Nat, ((xs.length : Int) + (ys.length : Int)).toNat = N := ⟨_, rfl⟩
    rw [hN] at hD
    have hN2 : N = xs.length + ys.length := by omega
    refine ⟨_, rfl, _, _, rfl, .inl (s1.seq hA), _, rfl, by rw [len_map]; omega, by rw [len_map]; omega, for_range (lo := 0) (n := ((xs.map V.int).length : Int).toNat) (fun i σ' H' => ∃ (fs : List Int) (yi yj : Option V), σ' = [some (.ref a), some (.ref b), some (.ref D), yi, yj, none] ∧ Same H H' ∧ H' D = some (.lst (fs.map V.int)) ∧ MulAt fs xs ys N i 0)
      ⟨_, none, none, rfl, s1, hD, MulAt.start⟩ (fun i σ' H' hi hI => ?_) (fun σ' H' hI => ?_)⟩
    · obtain ⟨fs, yi, yj, rfl, sm, hf, m⟩ := hI
      rw [len_map] at hi
      refine ⟨_, rfl, _, _, rfl, .inl (sm.seq hB), _, rfl, by rw [len_map]; omega, by rw [len_map]; omega, for_range (lo := 0) (n := ((ys.map V.int).length : Int).toNat) (fun j σ' H' => ∃ (fs : List Int) (yj : Option V), σ' = [some (.ref a), some (.ref b), some (.ref D), some (.int (0 + (i : Int))), yj, none] ∧ Same H H' ∧ H' D = some (.lst (fs.map V.int)) ∧ MulAt fs xs ys N i j)
        ⟨_, _, rfl, sm, hf, m⟩ (fun j σ' H' hj hI => ?_) (fun σ' H' hI => ?_)⟩
      · obtain ⟨fs, yj, rfl, sm, hf, m⟩ := hI
        rw [len_map] at hj
        have il : i < xs.length := by omega
        have jl : j < ys.length := by omega
        have fl : i + j < fs.length := by rw [m.len]; omega
        refine ⟨_, rfl, _, rfl, _, rfl, _, _, rfl, rfl, _, _, _, _, rfl, rfl, SqL.of hf, at_of (j := i + j) (by omega) (map_at (get_of_lt fl)), _, rfl, _, rfl, _, _, _, _, rfl, rfl, sm.seq hA, at_of (j := i) (by omega) (map_at (get_of_lt il)), _, rfl, _, rfl, _, _, _, _, rfl, rfl, sm.seq hB, at_of (j := j) (by omega) (map_at (get_of_lt jl)), _, _, rfl, rfl, mulW (b1.getD i) (b2.getD j) (by omega), _, _, rfl, rfl, _, rfl, _, rfl, _, rfl, _, _, rfl, rfl, D, _, _, i + j, rfl, rfl, hf, ixN_at (by omega) (by rw [len_map]; exact fl), ?_⟩
        exact ⟨_, _, rfl, same_mut sm nD, by rw [upd_same, map_set_V], m.step (by omega) rfl⟩
      · obtain ⟨fs, yj, rfl, sm, hf, m⟩ := hI
        exact ⟨_, _, _, rfl, sm, hf, m.row (by rw [len_map]; omega)⟩
    · obtain ⟨fs, yi, yj, rfl, sm, hf, m⟩ := hI
      exact ⟨_, rfl, q D H' fs sm nD hf (m.fin (by rw [len_map]; omega) (by omega)) (by rw [m.len]; exact hN2)⟩

theorem ok_power_of (T : Tx K mg) : OkF P w K mg base 1 (He.fAd K ("power_of", none)) ["base", "exponent"] (spPowI K) := by
  refine okF_of (d := d_power_of) T.d_power_of rfl sc_power_of (fun _ _ _ _ _ _ us hl => match us, hl with | [_, _], _ => rfl) (fun vs H Q E h => ?_) (fun cdv A outer s H vs Q E hr h => ?_)
  · first | (obtain ⟨_, rfl, _⟩ := h; rfl) | (obtain ⟨_, _, rfl, _⟩ := h; rfl) | (obtain ⟨_, _, _, rfl, _⟩ := h; rfl) | (obtain ⟨_, _, _, _, rfl, _⟩ := h; rfl) | (obtain ⟨_, _, _, _, _, rfl, _⟩ := h; rfl) | (obtain ⟨_, _, _, _, _, _, rfl, _⟩ := h; rfl) | (obtain ⟨_, _, _, _, _, _, _, rfl, _⟩ := h; rfl) | (obtain ⟨_, _, _, _, _, _, _, _, rfl, _⟩ := h; rfl) | (obtain ⟨_, _, _, _, _, _, _, _, _, rfl, _⟩ := h; rfl) | (obtain ⟨_, _, _, _, _, _, _, _, _, _, rfl, _⟩ := h; rfl)
  · obtain ⟨b, e, k, rfl, h0, hb, hk, q⟩ := h
    obtain ⟨n, rfl⟩ : ∃ n : Nat, e = n := ⟨e.toNat, by omega⟩
    rw [Int.toNat_natCast] at hk q
    refine ⟨_, (pss_cons (ps_setI (i := 2) sc_power_of.nd rfl (Or.inl rfl) pe_int)
      (pss_cons (ps_while PassesOwn.leaving (pt_cmpR op_gt (pv 1) pe_int (nomark _)) (Evl.pss_cut (ps_if (pt_truth (pe_op op_and (pv 1) pe_int) (by intro _; rfl)) (pss_one (ps_setI (i := 2) sc_power_of.nd rfl (Or.inl rfl) (pe_op op_mulW (pv 2) (pv 0)))) pss_nil)
      (pss_cons (ps_setI (i := 1) sc_power_of.nd rfl (Or.inl rfl) (pe_op op_shr (pv 1) pe_int))
      (pss_one (ps_if (pt_cmpR op_gt (pv 1) pe_int (nomark _)) (pss_one (ps_setI (i := 0) sc_power_of.nd rfl (Or.inl rfl) (pe_op op_mulW (pv 0) (pv 0)))) pss_nil)))))
      (pss_one (ps_ret (pv 2))))), ?_⟩
    refine ⟨_, rfl, fun f0 ef => ?_⟩
    refine ⟨fun m σ' H' => H = H' ∧ ∃ (x z : Int) (s r : Nat), σ' = [some (.int z), some (.int (m : Int)), some (.int x)] ∧ z = b ^ s ∧ x = b ^ r ∧ r + s * m = n, ⟨n, rfl, f0, b, 1, 0, rfl, (Int.pow_one b).symm, by rw [ef, Int.pow_zero], by omega⟩, ?_⟩
    rintro m _ _ ⟨rfl, x, z, s, r, rfl, hz, hx, he⟩
    refine ⟨_, rfl, _, _, rfl, rfl, _, rfl, iteD (fun h1 => ?_) (fun h1 => ?_)⟩
    · refine ⟨fun σ2 H2 => ∃ m', m' < m ∧ H = H2 ∧ ∃ (x z : Int) (s r : Nat), σ2 = [some (.int z), some (.int (m' : Int)), some (.int x)] ∧ z = b ^ s ∧ x = b ^ r ∧ r + s * m' = n, fun _ _ h => h, ?_⟩
      obtain ⟨p, t, hm, ht⟩ : ∃ p t, m = 2 * p + t ∧ t ≤ 1 := ⟨m / 2, m % 2, by omega, by omega⟩
      have hp : m / 2 = p := by omega
      have ht2 : m % 2 = t := by omega
      have e1 : r + t * s + (s + s) * p = n := by rw [← he, hm]; grind
      refine ⟨fun σ' H' => H = H' ∧ ∃ x2 : Int, σ' = [some (.int z), some (.int (m : Int)), some (.int x2)] ∧ x2 = b ^ (r + t * s), ?_, ?_⟩
      · refine ⟨_, rfl, _, _, rfl, rfl, _, rfl, iteB (fun h2 => ?_) (fun h2 => ?_)⟩
        · rw [bit_one, ht2] at h2
          have t1 : t = 1 := by
            rcases Nat.le_one_iff_eq_zero_or_eq_one.mp ht with e | e
            · rw [e] at h2; cases h2
            · exact e
          subst t1
          refine ⟨_, rfl, _, rfl, _, _, rfl, rfl, pow_side hb hk (by omega) hx hz, _, rfl, fun x2 ex => ⟨rfl, x2, rfl, ?_⟩⟩
          rw [ex, hx, hz, ← Int.pow_add, Nat.one_mul]
        · rw [bit_one, ht2] at h2
          have t0 : t = 0 := by
            rcases Nat.le_one_iff_eq_zero_or_eq_one.mp ht with e | e
            · exact e
            · rw [e] at h2; cases h2
          subst t0
          exact ⟨rfl, x, rfl, by rw [hx]; simp⟩
      rintro _ _ ⟨rfl, x2, rfl, hx2⟩
      refine ⟨_, rfl, _, _, rfl, rfl, (show (0 : Int) ≤ 1 by decide), _, rfl, fun e2 ee => ?_⟩
      have ee2 : e2 = (p : Int) := by
        rw [ee]
        show (m : Int) / 2 = p
        omega
      subst ee2
      refine ⟨_, rfl, _, _, rfl, rfl, _, rfl, iteD (fun h3 => ?_) (fun h3 => ?_)⟩
      · have p0 : 1 ≤ p := by omega
        have e3 := Nat.mul_le_mul_left (s + s) p0
        refine ⟨_, rfl, _, rfl, _, _, rfl, rfl, pow_side hb hk (by omega) hz hz, _, rfl, fun z2 ez => ?_⟩
        exact ⟨p, by omega, rfl, x2, z2, s + s, r + t * s, rfl, by rw [ez, hz, ← Int.pow_add], hx2, e1⟩
      · have p0 : p = 0 := by omega
        subst p0
        exact ⟨0, by omega, rfl, x2, z, s, r + t * s, rfl, hz, hx2, by omega⟩
    · have m0 : m = 0 := by omega
      subst m0
      have rn : r = n := by omega
      rw [rn] at hx
      rw [← hx] at q
      exact ⟨_, rfl, q⟩

theorem ok_powered (T : Tx K mg) (O_power_of : OkF P w K mg base 1 (He.fAd K ("power_of", none)) ["base", "exponent"] (spPowI K)) : OkF P w K mg base 2 (He.fAd K ("powered", none)) ["coefs", "exponent"] (spPowd K) := by
  obtain ⟨_, G_power_of, b_power_of, k_power_of⟩ := O_power_of
  refine okF_of (d := d_powered) T.d_powered rfl sc_powered (fun _ _ _ _ _ _ us hl => match us, hl with | [_, _], _ => rfl) (fun vs H Q E h => ?_) (fun cdv A outer s H vs Q E hr h => ?_)
  · first | (obtain ⟨_, rfl, _⟩ := h; rfl) | (obtain ⟨_, _, rfl, _⟩ := h; rfl) | (obtain ⟨_, _, _, rfl, _⟩ := h; rfl) | (obtain ⟨_, _, _, _, rfl, _⟩ := h; rfl) | (obtain ⟨_, _, _, _, _, rfl, _⟩ := h; rfl) | (obtain ⟨_, _, _, _, _, _, rfl, _⟩ := h; rfl) | (obtain ⟨_, _, _, _, _, _, _, rfl, _⟩ := h; rfl) | (obtain ⟨_, _, _, _, _, _, _, _, rfl, _⟩ := h; rfl) | (obtain ⟨_, _, _, _, _, _, _, _, _, rfl, _⟩ := h; rfl) | (obtain ⟨_, _, _, _, _, _, _, _, _, _, rfl, _⟩ := h; rfl)
  · obtain ⟨a, cs, e, k, rfl, hA, top, hb, he, hl, he2, hk, hB, q⟩ := h
    refine ⟨_, (pss_cons (ps_if (pt_cmpR op_eq (pv 1) pe_int (nomark _)) (pss_one (ps_ret (pe_lst (pa_cons pe_int pa_nil)))) pss_nil)
      (pss_cons (ps_if (pt_cmpR op_eq (pe_callB call_len_seq (by rfl) T.z_len PySem.boot_len (pa_cons (pv 0) pa_nil)) pe_int (nomark _)) (pss_one (ps_ret (pe_lst pa_nil))) pss_nil)
      (pss_cons (ps_setI (i := 2) sc_powered.nd rfl (Or.inr rfl) pe_int)
      (pss_cons (ps_while PassesOwn.leaving (pt_cmpR op_eq (pe_ix ix_tup (pv 0) (pv 2) (fun _ _ => rfl)) pe_int (nomark _)) (pss_one (ps_setI (i := 2) sc_powered.nd rfl (Or.inr rfl) (pe_op op_add (pv 2) pe_int))))
      (pss_cons (ps_setI (i := 3) sc_powered.nd rfl (Or.inl rfl) (pe_ix ix_tup (pv 0) (pv 2) (fun _ _ => rfl)))
      (pss_cons (ps_setLc (i := 4) (own := [("i", 8), ("c", 9)]) (g := gTup K 2 (gCons (gName 8) (gCons (gName 9) gNil))) rfl sc_powered.nd rfl rfl (sw_true rfl rfl rfl (by decide +kernel)) (pi_enumT (by rfl) T.z_enumerate (pa_cons (pv 0) pa_nil)) (blkOk_by (own := [("i", 8), ("c", 9)]) (N := N_powered) (sc := defScope s_powered) (by decide +kernel)) (fun _ _ _ _ _ => (pg_tup rfl (pgs_cons (pg_name (i := 8) sc_powered.nd rfl (Or.inl rfl)) (pgs_cons (pg_name (i := 9) sc_powered.nd rfl (Or.inl rfl)) pgs_nil)))) (fun _ _ _ _ _ => (pts_one (PW.pt (pw_and (pt_cmpR op_gt (pv 8) (pv 2) (nomark _)) (pw_and1 (pt_cmpR op_ne (pv 9) pe_int (nomark _))))))) (fun _ _ _ _ _ => (pe_tup (pa_cons (pe_op op_sub (pv 8) (pv 2)) (pa_cons (pv 9) pa_nil)))))
      (pss_cons (ps_set (i := 5) sc_powered.nd rfl (Or.inr rfl) (pe_lst (pa_cons (pe_call G_power_of (hr.mono (by decide)) (by rfl) T.g_power_of k_power_of b_power_of .nil passL (pa_cons (pv 3) (pa_cons (pv 1) pa_nil))) pa_nil)))
      (pss_cons (ps_for PassesOwn.leaving rfl (pi_range2 rfl T.z_range (pa_cons pe_int (pa_cons (pe_op op_add (pe_op op_mulW (pv 1) (pe_op op_sub (pe_op op_sub (pe_callB call_len_seq (by rfl) T.z_len PySem.boot_len (pa_cons (pv 0) pa_nil)) pe_int) (pv 2))) pe_int) pa_nil))) (pg_name (i := 6) sc_powered.nd rfl (Or.inr rfl)) (pss_cons (ps_setI (i := 7) sc_powered.nd rfl (Or.inl rfl) (pe_callB (cr_sum rfl) (by rfl) T.z_sum (by decide +kernel) (pa_cons (pe_lc (own := [("i", 8), ("c", 9)]) (g := gTup K 2 (gCons (gName 8) (gCons (gName 9) gNil))) rfl sc_powered.nd (pi_list (pv 4)) (blkOk_by (own := [("i", 8), ("c", 9)]) (N := N_powered) (sc := defScope s_powered) (by decide +kernel)) (fun _ _ _ _ _ => (pg_tup rfl (pgs_cons (pg_name (i := 8) sc_powered.nd rfl (Or.inl rfl)) (pgs_cons (pg_name (i := 9) sc_powered.nd rfl (Or.inl rfl)) pgs_nil)))) (fun _ _ _ _ _ => (pts_one (pt_cmpR op_le (pv 8) (pv 6) (nomark _)))) (fun _ _ _ _ _ => (pe_op op_mulW (pe_op op_mulW (pe_op op_sub (pe_op op_mulW (pe_op op_add (pv 1) pe_int) (pv 8)) (pv 6)) (pv 9)) (pe_ix (show IxR _ (rIxL K) from ix_list) (pv 5) (pe_op op_sub (pv 6) (pv 8)) (fun _ _ => rfl))))) pa_nil)))
      (pss_one (ps_expr (pe_bm PySem.F.plainAttrs_list PySem.F.slot_list_append PySem.F.type_list_append mt_append (pv 5) (pa_cons (pe_op op_fdivZ (pv 7) (pe_op op_mulW (pv 6) (pv 3))) pa_nil))))))
      (pss_one (ps_ret (pe_op op_cat (pe_op op_rep (pe_lst (pa_cons pe_int pa_nil)) (pe_op op_mulW (pv 2) (pv 1))) (pv 5)))))))))))), ?_⟩
    refine ⟨_, rfl, rfl, _, rfl, iteEq (fun c0 => ?_) (fun c0 => ?_)⟩
    · have e0 : e = 0 := by omega
      subst e0
      exact ⟨by show 1 ≤ sizeLine; decide, fun p np => q p _ [1] (sm_new np) np upd_same IsPow.one ⟨fun x hx => by rw [List.mem_singleton.mp hx]; exact Nat.lt_of_lt_of_le (show 1 < 2 ^ 1 by decide) (Nat.pow_le_pow_right (by decide) (by unfold pwB; omega))⟩ (by show 1 ≤ _; omega)⟩
    refine ⟨_, rfl, _, _, rfl, .inr hA, rfl, _, rfl, iteEq (fun c1 => ?_) (fun c1 => ?_)⟩
    · rw [len_map] at c1
      have c2 : cs = [] := List.eq_nil_of_length_eq_zero (by omega)
      subst c2
      exact ⟨by show 0 ≤ sizeLine; decide, fun p np => q p _ [] (sm_new np) np upd_same (pow_nil (by omega)) ⟨fun x hx => absurd hx (by simp)⟩ (by show 0 ≤ _; omega)⟩
    rw [len_map] at c1
    have lz : cs.getD (cs.length - 1) 0 ≠ 0 := by
      rcases top with h | h
      · rw [h] at c1; exact absurd rfl c1
      · exact h
    refine ⟨_, rfl, fun z0 ez => ?_⟩
    refine ⟨fun m σ' H' => H = H' ∧ ∃ z : Nat, σ' = [some (.ref a), some (.int (e : Int)), some (.int (z : Int)), none, none, none, none, none, none, none] ∧ m = cs.length - z ∧ z < cs.length ∧ ∀ i, i < z → cs.getD i 0 = 0, ⟨_, rfl, 0, by rw [ez]; rfl, rfl, by omega, fun i hi => absurd hi (Nat.not_lt_zero _)⟩, ?_⟩
    rintro m _ _ ⟨rfl, z, rfl, rfl, zl, hz⟩
    refine ⟨_, rfl, _, rfl, _, _, _, _, rfl, rfl, hA, at_of (j := z) (by omega) (map_at (get_of_lt zl)), rfl, _, rfl, iteEq (fun c2 => ?_) (fun c2 => ?_)⟩
    · refine ⟨fun σ2 H2 => ∃ m', m' < cs.length - z ∧ H = H2 ∧ ∃ z : Nat, σ2 = [some (.ref a), some (.int (e : Int)), some (.int (z : Int)), none, none, none, none, none, none, none] ∧ m' = cs.length - z ∧ z < cs.length ∧ ∀ i, i < z → cs.getD i 0 = 0, fun _ _ h => h, ?_⟩
      refine ⟨_, rfl, _, _, rfl, rfl, _, rfl, fun z1 e1 => ?_⟩
      have zn : z ≠ cs.length - 1 := fun w => by rw [w] at c2; exact lz c2
      refine ⟨cs.length - (z + 1), by omega, rfl, z + 1, by rw [e1, show (z : Int) + 1 = ((z + 1 : Nat) : Int) by omega]; rfl, rfl, by omega, fun i hi => ?_⟩
      by_cases c : i = z
      · rw [c]; exact c2
      · exact hz i (by omega)
    -- behind the while: the first coefficient
    obtain ⟨f, hf⟩ : ∃ f : Nat → Int, f = fun i => cs.getD (z + i) 0 := ⟨_, rfl⟩
    obtain ⟨d, hd⟩ : ∃ d : Nat, d = cs.length - 1 - z := ⟨_, rfl⟩
    have fb : ∀ i, (f i).natAbs < 2 ^ k := fun i => by rw [hf]; exact hb.getD _
    have fe : ∀ i, d < i → f i = 0 := fun i hi => by rw [hf]; exact getD_end (by omega)
    have fe2 : ∀ i, cs.length ≤ i → f i = 0 := fun i hi => fe i (by omega)
    have pb : ∀ j, (pwf f e j).natAbs < 2 ^ (pwB k cs.length e) := pwf_bits fb fe2 e
    refine ⟨_, rfl, _, rfl, _, _, _, _, rfl, rfl, hA, at_of (j := z) (by omega) (map_at (get_of_lt zl)), _, rfl, fun f0 ef0 => ?_⟩
    have f00 : f0 ≠ 0 := by rw [ef0]; exact c2
    have f0e : f 0 = f0 := by rw [hf, ef0]; rfl
    have f0b : f0.natAbs < 2 ^ k := by rw [← f0e]; exact fb 0
    refine ⟨_, rfl, a, _, rfl, hA, fun D nD => lc_enT (K := K) (a := a) (xs := cs.map V.int) (fun i HL => ∃ ts : List (Addr × Int × Int), Same H HL ∧ HL D = some (.lst (ts.map fun t => V.ref t.1)) ∧ (∀ t ∈ ts, HL t.1 = some (.tup [.int t.2.1, .int t.2.2])) ∧ ts.length ≤ i ∧ (∀ t ∈ ts, 0 < t.2.1 ∧ t.2.1 ≤ 1000 ∧ t.2.2.natAbs < 2 ^ k) ∧ ∀ g, tS g ts = sumTo (fun t => if z < t then g ((t : Int) - z) * cs.getD t 0 else 0) i)
      ⟨[], sm_new nD, by rw [upd_same]; rfl, fun t h => absurd h (by simp), Nat.le_refl _, fun t h => absurd h (by simp), fun g => rfl⟩ (fun i HL hP => ?_) (fun i x T HL hi hP nT => ?_) (fun H2 hP => ?_)⟩
    · obtain ⟨ts, sm, _⟩ := hP
      exact sm_tup sm hA
    · obtain ⟨ts, sm, hD, hts, tl, tb, tsum⟩ := hP
      obtain ⟨c, hc, rfl⟩ := get_map_int hi
      have il : i < cs.length := (List.getElem?_eq_some_iff.mp hc).1
      have ec := getD_of hc
      have TD : D ≠ T := ne_of_none hD nT
      have sm2 := sm.trans (sm_new (o := .tup [.int (i : Nat), .int c]) nT)
      have hD2 : (upd HL T (.tup [.int (i : Nat), .int c])) D = some (.lst (ts.map fun t => V.ref t.1)) := by rw [upd_ne TD]; exact hD
      have hts2 : ∀ t ∈ ts, (upd HL T (.tup [.int (i : Nat), .int c])) t.1 = some (.tup [.int t.2.1, .int t.2.2]) := fun t ht => (sm_new nT) _ _ (hts t ht)
      have skip : (¬ z < i ∨ c = 0) → ∀ g, tS g ts = sumTo (fun t => if z < t then g ((t : Int) - z) * cs.getD t 0 else 0) (i + 1) := fun h g => by
        show _ = sumTo _ i + (if z < i then g ((i : Int) - z) * cs.getD i 0 else 0)
        rw [tsum g]
        rcases h with h | h
        · rw [if_neg h, Int.add_zero]
        · rw [ec, h, Int.mul_zero]
          split <;> exact (Int.add_zero _).symm
      refine ⟨T, _, rfl, SqT.of upd_same, rfl, _, _, rfl, _, _, rfl, rfl, ?_⟩
      generalize upd HL T (.tup [.int (i : Nat), .int c]) = G at sm2 hD2 hts2 ⊢
      refine ⟨rfl, ?_⟩
      refine ⟨_, rfl, _, rfl, _, _, rfl, rfl, _, rfl, iteD (fun c3 => ?_) (fun c3 => ?_)⟩
      · refine ⟨_, rfl, rfl, _, rfl, ?_⟩
        refine iteEqN (fun c4 => ?_) (fun c4 => ?_)
        · refine ⟨_, rfl, _, rfl, _, _, rfl, rfl, _, rfl, by show 2 ≤ sizeLine; decide, fun T2 nT2 => ?_⟩
          have T2D : D ≠ T2 := ne_of_none hD2 nT2
          refine ⟨_, by rw [upd_ne T2D]; exact hD2, by rw [List.length_map]; exact small1000 (by omega), ts ++ [(T2, (i : Int) - z, c)], same_mut (sm2.trans (sm_new nT2)) nD, by rw [upd_same, List.map_append]; rfl, fun t ht => ?_, by rw [List.length_append]; show ts.length + 1 ≤ i + 1; omega, fun t ht => ?_, fun g => ?_⟩
          · have nt : t.1 ≠ D := by
              rcases List.mem_append.mp ht with ht | ht
              · intro w
                have := hts2 t ht
                rw [w, hD2] at this
                cases this
              · rw [List.mem_singleton.mp ht]; exact T2D.symm
            rw [upd_ne nt]
            rcases List.mem_append.mp ht with ht | ht
            · exact (sm_new nT2) _ _ (hts2 t ht)
            · rw [List.mem_singleton.mp ht]; exact upd_same
          · rcases List.mem_append.mp ht with ht | ht
            · exact tb t ht
            · rw [List.mem_singleton.mp ht]
              exact ⟨by show 0 < (i : Int) - z; omega, by show (i : Int) - z ≤ 1000; omega, hb.all c (List.mem_of_getElem? hc)⟩
          · rw [tS_app, tsum g]
            show _ = sumTo _ i + (if z < i then g ((i : Int) - z) * cs.getD i 0 else 0)
            rw [if_pos (by omega), ec]
        · exact ⟨ts, sm2, hD2, hts2, by omega, tb, skip (.inr c4)⟩
      · exact iteN rfl ⟨ts, sm2, hD2, hts2, by omega, tb, skip (.inl (by omega))⟩
    obtain ⟨ts, s2, hD, hts, tl, tb, tsum⟩ := hP
    rw [len_map] at tl tsum
    have tsum2 : ∀ g : Int → Int, tS g ts = sumTo (fun t => if 0 < t then g (t : Int) * f t else 0) (d + 1) := fun g => by
      rw [tsum g, show cs.length = z + (d + 1) by omega, sumTo_app, sumTo_zero z fun i hi => if_neg (by omega), Int.zero_add]
      exact sumTo_congr _ fun i hi => by
        rw [hf]
        by_cases c : 0 < i
        · rw [if_pos (by omega), if_pos c, show ((z + i : Nat) : Int) - z = (i : Int) by omega]
        · rw [if_neg (by omega), if_neg c]
    clear tsum
    have hke : k * e + 10 ≤ 900000 := by
      have w := Nat.mul_le_mul_right e (Nat.le_add_right k cs.length)
      unfold pwB at hB
      omega
    refine ⟨_, rfl, _, rfl, _, _, k, rfl, by omega, f0b, by rw [Int.toNat_natCast]; exact hke, by show 1 ≤ sizeLine; decide, fun pf npf => ?_⟩
    rw [Int.toNat_natCast]
    have s3 := s2.trans (sm_new (o := .lst [V.int (f0 ^ e)]) npf)
    have Df : D ≠ pf := ne_of_none hD npf
    have npf0 : H pf = none := s2.free npf
    have hD3 := (sm_new (o := .lst [V.int (f0 ^ e)]) npf) _ _ hD
    have hts3 : ∀ t ∈ ts, (upd H2 pf (.lst [V.int (f0 ^ e)])) t.1 = some (.tup [.int t.2.1, .int t.2.2]) := fun t ht => (sm_new npf) _ _ (hts t ht)
    have hf3 : (upd H2 pf (.lst [V.int (f0 ^ e)])) pf = some (.lst (((List.range 1).map (pwf f e)).map V.int)) := by
      rw [upd_same]
      show _ = some (HO.lst [V.int (pwf f e 0)])
      rw [pwf_zero, f0e]
    generalize upd H2 pf (.lst [V.int (f0 ^ e)]) = H3 at s3 hD3 hts3 hf3 ⊢
    have de : d * e ≤ 900 := by
      have := Nat.mul_le_mul_right e (show d ≤ cs.length by omega)
      omega
    have dd : ((cs.length : Int) - 1 - (z : Int)) = (d : Int) := by omega
    obtain ⟨B, hBe⟩ : ∃ B : Nat, B = pwB k cs.length e := ⟨_, rfl⟩
    rw [← hBe] at pb hB
    have dez : (e : Int) * ((((cs.map V.int).length : Nat) : Int) - 1 - (z : Int)) = ((d * e : Nat) : Int) := by rw [len_map, dd, Int.mul_comm]; push_cast; rfl
    refine ⟨_, rfl, _, rfl, _, _, rfl, .inr (sm_tup s3 hA), _, _, rfl, rfl, _, rfl, _, _, rfl, rfl, _, _, rfl, rfl, mulW (a := 20) (b := 20) (by omega) (by rw [len_map]; omega) (by decide), _, _, rfl, rfl, _, _, rfl, ⟨by omega, by omega, by rw [dez]; omega, by rw [dez]; omega⟩, ?_⟩
    have en : ((e : Int) * ((((cs.map V.int).length : Nat) : Int) - 1 - (z : Int)) + 1 - 1).toNat = d * e := by
      rw [dez]
      omega
    rw [en]
    refine for_range (lo := 1) (n := d * e) (fun i σ' H' => ∃ (y6 y7 : Option V), σ' = [some (.ref a), some (.int (e : Int)), some (.int (z : Int)), some (.int f0), some (.ref D), some (.ref pf), y6, y7, none, none] ∧ Same H H' ∧ H' D = some (.lst (ts.map fun t => V.ref t.1)) ∧ (∀ t ∈ ts, H' t.1 = some (.tup [.int t.2.1, .int t.2.2])) ∧ H' pf = some (.lst (((List.range (i + 1)).map (pwf f e)).map V.int)))
      ⟨none, none, rfl, s3, hD3, hts3, hf3⟩ (fun i σ' H' hi hI => ?_) (fun σ' H' hI => ?_)
    · obtain ⟨y6, y7, rfl, sm, hD4, hts4, hf4⟩ := hI
      obtain ⟨qs, hqs⟩ : ∃ qs : List Int, qs = (List.range (i + 1)).map (pwf f e) := ⟨_, rfl⟩
      have ql : qs.length = i + 1 := by rw [hqs, List.length_map, List.length_range]
      have qat : ∀ j, j < i + 1 → qs.getD j 0 = pwf f e j := fun j hj => by rw [hqs, List.getD_eq_getElem?_getD, List.getElem?_map, List.getElem?_range hj]; rfl
      rw [← hqs] at hf4
      have qb : Bits B qs := bits_of_at fun j => by
        by_cases c : j < i + 1
        · rw [qat j c]; exact pb j
        · rw [getD_end (by omega)]; exact Nat.pow_pos (by decide)
      obtain ⟨kk, hkk⟩ : ∃ kk : Int, kk = 1 + (i : Int) := ⟨_, rfl⟩
      rw [← hkk]
      obtain ⟨g, hg⟩ : ∃ g : Int → Int, g = fun x => if x ≤ kk then (((e : Int) + 1) * x - kk) * qs.getD (kk - x).toNat 0 else 0 := ⟨_, rfl⟩
      refine ⟨_, rfl, _, rfl, ⟨_, SqL.of hD4⟩, fun D2 nD2 => lc_list (K := K) (a := D) (xs := ts.map fun t => V.ref t.1) (fun j HL => Same H' HL ∧ ∃ ys : List Int, HL D2 = some (.lst (ys.map V.int)) ∧ ys.length ≤ j ∧ ys.sum = tS g (ts.take j))
        ⟨sm_new nD2, [], by rw [upd_same]; rfl, Nat.le_refl _, rfl⟩ (fun j HL hj hP => hP.1.seq (SqL.of hD4)) (fun j x HL hj hP => ?_) (fun H5 hP => ?_)⟩
      · obtain ⟨s5, ys, hys, yl, ysum⟩ := hP
        obtain ⟨t, ht, rfl⟩ : ∃ t, ts[j]? = some t ∧ x = V.ref t.1 := by
          rw [List.getElem?_map] at hj
          cases e : ts[j]? with
          | none => rw [e] at hj; cases hj
          | some u => rw [e] at hj; cases hj; exact ⟨u, rfl, rfl⟩
        have tm := List.mem_of_getElem? ht
        obtain ⟨t1, t2, t3⟩ := tb t tm
        have jl : j < ts.length := (List.getElem?_eq_some_iff.mp ht).1
        have tk : ts.take (j + 1) = ts.take j ++ [t] := by rw [List.take_succ, ht]; rfl
        refine ⟨t.1, _, rfl, SqT.of (s5 _ _ (hts4 t tm)), rfl, _, _, rfl, _, _, rfl, rfl, ?_⟩
        refine ⟨rfl, ?_⟩
        refine ⟨_, rfl, _, rfl, _, _, rfl, rfl, _, rfl, iteD (fun c3 => ?_) (fun c3 => ?_)⟩
        · have xb : (((e : Int) + 1) * t.2.1).natAbs < 2 ^ (20 + 20) := abs_lt_mul (by omega) (by omega)
          have x2 := sz_sub xb (show kk.natAbs < 2 ^ 20 by omega)
          have x3 := abs_lt_mul x2 t3
          have il : (kk - t.2.1).toNat < qs.length := by omega
          refine ⟨_, rfl, _, _, rfl, rfl, _, rfl, _, _, rfl, rfl, mulW (a := 20) (b := 20) (by omega) (by omega) (by decide), _, rfl, _, _, rfl, rfl, _, rfl, _, _, rfl, rfl, mulW x2 t3 (by omega), _, rfl, _, rfl, _, rfl, _, _, rfl, rfl, _, _, _, _, rfl, rfl, SqL.of (s5 _ _ hf4), at_of (j := (kk - t.2.1).toNat) (by omega) (map_at (get_of_lt il)), _, _, rfl, rfl, mulW x3 (qb.getD _) (by omega), _, hys, by rw [len_map]; exact small1000 (by omega), same_mut s5 nD2, ys ++ [(((e : Int) + 1) * t.2.1 - kk) * t.2.2 * qs.getD (kk - t.2.1).toNat 0], by rw [upd_same, List.map_append]; rfl, by rw [List.length_append]; show ys.length + 1 ≤ j + 1; omega, ?_⟩
          rw [List.sum_append, ysum, tk, tS_app, hg]
          show _ + (_ + 0) = _ + (if t.2.1 ≤ kk then _ else _) * _
          rw [if_pos c3, Int.add_zero]
          congr 1
          grind
        · refine ⟨s5, ys, hys, by omega, ?_⟩
          rw [ysum, tk, tS_app, hg]
          show _ = _ + (if t.2.1 ≤ kk then _ else _) * _
          rw [if_neg c3, Int.zero_mul, Int.add_zero]
      obtain ⟨s5, ys, hys, yl, ysum⟩ := hP
      rw [List.take_of_length_le (by rw [List.length_map]; exact Nat.le_refl _)] at ysum
      refine ⟨_, _, rfl, SqL.of hys, _, rfl, fun tot etot => ?_⟩
      rw [ysum, tsum2 g] at etot
      have nx := pow_next (e := e) (k := i) (q := fun j => qs.getD j 0) qat tot fe (by
        rw [etot]
        refine sumTo_congr _ fun t ht => ?_
        by_cases c : 0 < t
        · rw [if_pos c, if_pos c, hg]
          show (if (t : Int) ≤ kk then _ else _) * _ = _
          rw [hkk, show (1 : Int) + (i : Int) = ((i + 1 : Nat) : Int) by omega]
          by_cases c2 : (t : Int) ≤ ((i + 1 : Nat) : Int)
          · rw [if_pos c2, if_pos c2, show (((i + 1 : Nat) : Int) - (t : Int)).toNat = i + 1 - t by omega]
          · rw [if_neg c2, if_neg c2]
        · rw [if_neg c, if_neg c])
      rw [f0e, show ((i + 1 : Nat) : Int) = kk by omega] at nx
      have kb : kk.natAbs < 2 ^ 20 := by omega
      have dvb : (kk * f0).natAbs < 2 ^ (20 + k) := abs_lt_mul kb f0b
      have dv0 : kk * f0 ≠ 0 := Int.mul_ne_zero (by omega) f00
      have hf5 := s5 _ _ hf4
      refine ⟨_, rfl, .inl ⟨rfl, _, SqL.of hf5⟩, _, rfl, _, rfl, _, rfl, _, _, rfl, rfl, mulW kb f0b (by omega), _, _, rfl, rfl, divZ dv0 dvb (by omega), _, _, _, rfl, rfl, hf5, by rw [len_map, ql]; exact small1000 (by omega), ?_⟩
      have pfD : pf ≠ D := fun w => by rw [w, hD4] at hf4; exact Df (by rw [w])
      refine ⟨_, _, rfl, same_mut (sm.trans s5) npf0, by rw [upd_ne (by exact fun w => pfD w.symm)]; exact s5 _ _ hD4, fun t ht => ?_, ?_⟩
      · have nt : t.1 ≠ pf := fun w => by
          have := s5 _ _ (hts4 t ht)
          rw [w, hf5] at this
          cases this
        rw [upd_ne nt]
        exact s5 _ _ (hts4 t ht)
      · rw [upd_same]
        show some (HO.lst (qs.map V.int ++ [V.int (tot.fdiv (kk * f0))])) = _
        rw [fdiv_exact nx dv0, List.range_succ (n := i + 1), List.map_append, List.map_append, hqs]
        rfl
    · obtain ⟨y6, y7, rfl, sm, hD4, hts4, hf4⟩ := hI
      obtain ⟨qs, hqs⟩ : ∃ qs : List Int, qs = (List.range (d * e + 1)).map (pwf f e) := ⟨_, rfl⟩
      rw [← hqs] at hf4
      have ql : qs.length = d * e + 1 := by rw [hqs, List.length_map, List.length_range]
      have ze : z * e ≤ 900 := by
        have := Nat.mul_le_mul_right e (show z ≤ cs.length by omega)
        omega
      have zde : z * e + (d * e + 1) ≤ cs.length * e + 1 := by
        have := Nat.mul_le_mul_right e (show z + d ≤ cs.length by omega)
        rw [Nat.add_mul] at this
        omega
      refine ⟨by show 1 ≤ sizeLine; decide, fun p1 np1 => ?_⟩
      have s1 := sm.trans (sm_new (o := .lst [V.int 0]) np1)
      have hf5 := (sm_new (o := .lst [V.int 0]) np1) _ _ hf4
      have zez : ((z : Int) * (e : Int)) = ((z * e : Nat) : Int) := by push_cast; rfl
      refine ⟨_, rfl, _, rfl, _, _, rfl, rfl, mulW (a := 20) (b := 20) (by omega) (by omega) (by decide), _, _, _, rfl, rfl, upd_same, by rw [zez]; omega, by rw [zez]; omega, by rw [zez]; exact Nat.le_of_lt (small1000 (by show 1 * _ ≤ _; omega)), fun p2 np2 => ?_⟩
      have rep : (List.replicate ((z : Int) * (e : Int)).toNat [V.int 0]).flatten = (List.replicate (z * e) (0 : Int)).map V.int := by
        rw [zez, Int.toNat_natCast]
        induction z * e with
        | zero => rfl
        | succ n ih => rw [List.replicate_succ, List.flatten_cons, ih, List.replicate_succ]; rfl
      rw [rep]
      have s6 := s1.trans (sm_new (o := .lst ((List.replicate (z * e) (0 : Int)).map V.int)) np2)
      have hf6 := (sm_new (o := .lst ((List.replicate (z * e) (0 : Int)).map V.int)) np2) _ _ hf5
      refine ⟨_, rfl, _, _, _, _, rfl, rfl, upd_same, hf6, by rw [len_map, len_map, List.length_replicate, ql]; exact Nat.le_of_lt (small1000 (by omega)), fun p3 np3 => ?_⟩
      refine q p3 _ (List.replicate (z * e) 0 ++ qs) (s6.trans (sm_new np3)) (s6.free np3) (by rw [upd_same, List.map_append]) ⟨fun j => ?_⟩ ?_ (by rw [List.length_append, List.length_replicate, ql]; exact zde)
      · rw [pow_zeros hz, ← hf]
        by_cases c : j < z * e
        · rw [up_lt c, List.getD_eq_getElem?_getD, List.getElem?_append_left (by rw [List.length_replicate]; exact c), List.getElem?_replicate, if_pos c]
          rfl
        · rw [up_ge c, List.getD_eq_getElem?_getD, List.getElem?_append_right (by rw [List.length_replicate]; omega), List.length_replicate, ← List.getD_eq_getElem?_getD, hqs]
          by_cases c2 : j - z * e < d * e + 1
          · rw [List.getD_eq_getElem?_getD, List.getElem?_map, List.getElem?_range c2]
            rfl
          · rw [getD_end (by rw [List.length_map, List.length_range]; omega), pwf_end fe e _ (by omega)]
      · rw [← hBe]
        refine ⟨fun x hx => ?_⟩
        rcases List.mem_append.mp hx with hx | hx
        · rw [(List.mem_replicate.mp hx).2]; exact Nat.pow_pos (by decide)
        · rw [hqs] at hx
          obtain ⟨t, _, rfl⟩ := List.mem_map.mp hx
          exact pb t

theorem ok_Poly_power (T : Tx K mg) (O_powered : OkF P w K mg base 2 (He.fAd K ("powered", none)) ["coefs", "exponent"] (spPowd K)) (O_power_of : OkF P w K mg base 1 (He.fAd K ("power_of", none)) ["base", "exponent"] (spPowI K)) (O_Poly___init__ : OkD P w K mg base 2 (He.fAd K ("Poly", some "__init__")) ["self", "coefs", "den"] (He.Dv.v K (.int 1)) (spPInit K)) : OkF P w K mg base 4 (He.fAd K ("Poly", some "power")) ["self", "exponent"] (spPPow K) := by
  obtain ⟨_, G_powered, b_powered, k_powered⟩ := O_powered
  obtain ⟨_, G_power_of, b_power_of, k_power_of⟩ := O_power_of
  obtain ⟨_, G_Poly___init__, b_Poly___init__, ⟨_, v_Poly___init__, bd_Poly___init__⟩, k_Poly___init__⟩ := O_Poly___init__
  refine okF_of (d := d_Poly_power) T.d_Poly_power rfl sc_Poly_power (fun _ _ _ _ _ _ us hl => match us, hl with | [_, _], _ => rfl) (fun vs H Q E h => ?_) (fun cdv A outer s H vs Q E hr h => ?_)
  · first | (obtain ⟨_, rfl, _⟩ := h; rfl) | (obtain ⟨_, _, rfl, _⟩ := h; rfl) | (obtain ⟨_, _, _, rfl, _⟩ := h; rfl) | (obtain ⟨_, _, _, _, rfl, _⟩ := h; rfl) | (obtain ⟨_, _, _, _, _, rfl, _⟩ := h; rfl) | (obtain ⟨_, _, _, _, _, _, rfl, _⟩ := h; rfl) | (obtain ⟨_, _, _, _, _, _, _, rfl, _⟩ := h; rfl) | (obtain ⟨_, _, _, _, _, _, _, _, rfl, _⟩ := h; rfl) | (obtain ⟨_, _, _, _, _, _, _, _, _, rfl, _⟩ := h; rfl) | (obtain ⟨_, _, _, _, _, _, _, _, _, _, rfl, _⟩ := h; rfl)
  · obtain ⟨a, ks, f, e, k, rfl, hp, f0, fb, top, hb, he, hl, he2, hk, hB, hke, q⟩ := h
    obtain ⟨da, ta, ha, hta⟩ := hp
    refine ⟨_, (pss_one (ps_ret (pe_makeI T.mk_Poly G_Poly___init__ (hr.mono (by decide)) (by rfl) T.g_Poly b_Poly___init__ .nil passL (mkPo_conv K []) (pa_cons (pe_call G_powered (hr.mono (by decide)) (by rfl) T.g_powered k_powered b_powered .nil passL (pa_cons (pe_fld (pv 0) rfl) (pa_cons (pv 1) pa_nil))) (pa_cons (pe_call G_power_of (hr.mono (by decide)) (by rfl) T.g_power_of k_power_of b_power_of .nil passL (pa_cons (pe_fld (pv 0) rfl) (pa_cons (pv 1) pa_nil))) pa_nil))))), ?_⟩
    refine ⟨_, rfl, _, _, _, _, _, rfl, ha, T.cls_Poly, T.n_Poly_coefs, rfl, _, rfl, _, ks, e, k, rfl, SqT.of hta, top, hb, he, hl, he2, hk, hB, fun p1 H1 zs s1 np1 hp1 ip bz lz => ?_⟩
    have fe : (f ^ e).natAbs < 2 ^ (k * e + 1) := pow_bits fb e
    refine ⟨_, rfl, _, _, _, _, _, rfl, s1 _ _ ha, T.cls_Poly, T.n_Poly_den, rfl, _, rfl, _, _, k, rfl, by omega, fb, by rw [Int.toNat_natCast]; omega, ?_⟩
    rw [Int.toNat_natCast]
    refine ⟨p1, zs, _, k * e + 1, rfl, .inl (SqL.of hp1), by omega, fe, hke, pow_ne (by omega) e, fun p H4 ms g s4 np4 hp4 pq => ?_⟩
    exact q p H4 ms g (s1.trans s4) (s1.free np4) hp4 ⟨zs, ip, pq⟩

end
section
variable {P : Program} {w : World} {K : PySem.W.Frag} {mg : Str → Option Value}
theorem ok_law (T : Tx K mg) (O__law_numbers : ∀ base, OkF P w K mg base 1 (He.fAd K ("_law_numbers", none)) ["script", "count"] (spNums K)) (O_Poly___init__ : ∀ base, OkD P w K mg base 2 (He.fAd K ("Poly", some "__init__")) ["self", "coefs", "den"] (He.Dv.v K (.int 1)) (spPInit K)) (O__law_sum_at : ∀ base, OkF P w K mg base 1 (He.fAd K ("_law_sum_at", none)) ["coefs", "num", "den"] (spSumAt K)) (O_Poly_at : ∀ base, OkF P w K mg base 3 (He.fAd K ("Poly", some "at")) ["self", "k"] (spPAt K)) (O__law_is : ∀ base, OkF P w K mg base 2 (He.fAd K ("_law_is", none)) ["x", "num", "den"] (spIs K)) (O_Fraction___init__ : ∀ base, OkD P w K mg base 1 (He.fAd K ("Fraction", some "__init__")) ["self", "num", "den"] (He.Dv.v K (.int 1)) (spInit K)) (O_Poly_value : ∀ base, OkF P w K mg base 3 (He.fAd K ("Poly", some "value")) ["self", "x"] (spPVal K)) (O_Poly_scaled : ∀ base, OkF P w K mg base 4 (He.fAd K ("Poly", some "scaled")) ["self", "factor"] (spPSca K)) (O__law_poly_is : ∀ base, OkF P w K mg base 2 (He.fAd K ("_law_poly_is", none)) ["p", "coefs", "den"] (spPIs K)) (O__law_product : ∀ base, OkF P w K mg base 1 (He.fAd K ("_law_product", none)) ["a", "b"] (spLPr K)) (O_Poly_power : ∀ base, OkF P w K mg base 4 (He.fAd K ("Poly", some "power")) ["self", "exponent"] (spPPow K)) : ∃ fd : FuncData, (∀ (s : Shared) (v : Value), BindsTo s fd ⟨[v], []⟩ [("script", v)]) ∧ ∀ base : Heap, FnOk P w K mg base CX0 5 (He.fAd K ("law", none)) fd ["script"] (spLaw K) := by
  refine okLaw_of (d := d_law) T.d_law rfl sc_law (fun _ _ _ _ _ _ us hl => match us, hl with | [_], _ => rfl) (fun vs H Q E h => by obtain ⟨_, _, rfl, _⟩ := h; rfl) (fun base cdv A outer s H vs Q E hr h => ?_)
  · obtain ⟨_, G__law_numbers, b__law_numbers, k__law_numbers⟩ := O__law_numbers base
    obtain ⟨_, G_Poly___init__, b_Poly___init__, ⟨_, v_Poly___init__, bd_Poly___init__⟩, k_Poly___init__⟩ := O_Poly___init__ base
    obtain ⟨_, G__law_sum_at, b__law_sum_at, k__law_sum_at⟩ := O__law_sum_at base
    obtain ⟨_, G_Poly_at, b_Poly_at, k_Poly_at⟩ := O_Poly_at base
    obtain ⟨_, G__law_is, b__law_is, k__law_is⟩ := O__law_is base
    obtain ⟨_, G_Fraction___init__, b_Fraction___init__, ⟨_, v_Fraction___init__, bd_Fraction___init__⟩, k_Fraction___init__⟩ := O_Fraction___init__ base
    obtain ⟨_, G_Poly_value, b_Poly_value, k_Poly_value⟩ := O_Poly_value base
    obtain ⟨_, G_Poly_scaled, b_Poly_scaled, k_Poly_scaled⟩ := O_Poly_scaled base
    obtain ⟨_, G__law_poly_is, b__law_poly_is, k__law_poly_is⟩ := O__law_poly_is base
    obtain ⟨_, G__law_product, b__law_product, k__law_product⟩ := O__law_product base
    obtain ⟨_, G_Poly_power, b_Poly_power, k_Poly_power⟩ := O_Poly_power base
    obtain ⟨aS, ns, rfl, hS, hl, q⟩ := h
    refine ⟨_, (pss_cons (ps_set (i := 1) sc_law.nd rfl (Or.inl rfl) (pe_call G__law_numbers (hr.mono (by decide)) (by rfl) T.g__law_numbers k__law_numbers b__law_numbers .nil passL (pa_cons (pv 0) (pa_cons pe_int pa_nil))))
      (pss_cons (ps_set (i := 2) sc_law.nd rfl (Or.inl rfl) (pe_lst pa_nil))
      (pss_cons (ps_for PassesOwn.leaving rfl (pi_range1 rfl T.z_range (pa_cons (pe_op op_mod (pe_ix ix_list (pv 1) pe_int (fun _ _ => rfl)) pe_int) pa_nil)) (pg_name (i := 3) sc_law.nd rfl (Or.inl rfl)) (pss_one (ps_if (pt_cmpR op_eq (pe_op op_mod (pe_ix ix_list (pv 1) (pe_op op_add pe_int (pv 3)) (fun _ _ => rfl)) pe_int) pe_int (nomark _)) (pss_one (ps_expr (pe_bm PySem.F.plainAttrs_list PySem.F.slot_list_append PySem.F.type_list_append mt_append (pv 2) (pa_cons pe_int pa_nil)))) (pss_one (ps_expr (pe_bm PySem.F.plainAttrs_list PySem.F.slot_list_append PySem.F.type_list_append mt_append (pv 2) (pa_cons (pe_op op_sub (pe_op op_mod (pe_op op_fdiv (pe_ix ix_list (pv 1) (pe_op op_add pe_int (pv 3)) (fun _ _ => rfl)) pe_int) pe_int) pe_int) pa_nil)))))))
      (pss_cons (ps_setI (i := 4) sc_law.nd rfl (Or.inl rfl) (pe_op op_add (pe_op op_mod (pe_ix ix_list (pv 1) pe_int (fun _ _ => rfl)) pe_int) pe_int))
      (pss_cons (ps_set (i := 5) sc_law.nd rfl (Or.inl rfl) (pe_makeI T.mk_Poly G_Poly___init__ (hr.mono (by decide)) (by rfl) T.g_Poly b_Poly___init__ .nil passL (mkPo_conv K []) (pa_cons (pv 2) (pa_cons (pv 4) pa_nil))))
      (pss_cons (ps_setI (i := 3) sc_law.nd rfl (Or.inl rfl) (pe_op op_sub (pe_op op_mod (pe_ix ix_list (pv 1) pe_int (fun _ _ => rfl)) pe_int) pe_int))
      (Evl.pss_cut (ps_if (pt_cmpR op_eq (pe_op op_mod (pe_ix ix_list (pv 1) pe_int (fun _ _ => rfl)) pe_int) pe_int (nomark _)) (pss_one (ps_setI (i := 3) sc_law.nd rfl (Or.inl rfl) (pe_op op_add (pe_op op_mulW (pv 3) (pe_op op_pow pe_int pe_int)) pe_int))) pss_nil)
      (pss_cons (ps_set (i := 6) sc_law.nd rfl (Or.inl rfl) (pe_call G__law_sum_at (hr.mono (by decide)) (by rfl) T.g__law_sum_at k__law_sum_at b__law_sum_at .nil passL (pa_cons (pv 2) (pa_cons (pv 3) (pa_cons pe_int pa_nil)))))
      (pss_cons (ps_if (pt_not (pt_val (pe_call G__law_is (hr.mono (by decide)) (by rfl) T.g__law_is k__law_is b__law_is .nil passL (pa_cons (pe_meth (pv 5) T.cls_Poly T.m_Poly_at G_Poly_at (hr.mono (by decide)) b_Poly_at .nil passL (pa_cons (pv 3) pa_nil)) (pa_cons (pe_ix ix_list (pv 6) pe_int (fun _ _ => rfl)) (pa_cons (pe_op op_mulW (pe_ix ix_list (pv 6) pe_int (fun _ _ => rfl)) (pv 4)) pa_nil)))))) (pss_one (ps_ret pe_bl)) pss_nil)
      (pss_cons (ps_setI (i := 7) sc_law.nd rfl (Or.inr rfl) (pe_op op_sub (pe_op op_mod (pe_ix ix_list (pv 1) pe_int (fun _ _ => rfl)) pe_int) pe_int))
      (pss_cons (ps_setI (i := 8) sc_law.nd rfl (Or.inl rfl) (pe_op op_add (pe_op op_mod (pe_ix ix_list (pv 1) pe_int (fun _ _ => rfl)) pe_int) pe_int))
      (pss_cons (ps_set (i := 6) sc_law.nd rfl (Or.inl rfl) (pe_call G__law_sum_at (hr.mono (by decide)) (by rfl) T.g__law_sum_at k__law_sum_at b__law_sum_at .nil passL (pa_cons (pv 2) (pa_cons (pv 7) (pa_cons (pv 8) pa_nil)))))
      (pss_cons (ps_if (pt_not (pt_val (pe_call G__law_is (hr.mono (by decide)) (by rfl) T.g__law_is k__law_is b__law_is .nil passL (pa_cons (pe_meth (pv 5) T.cls_Poly T.m_Poly_value G_Poly_value (hr.mono (by decide)) b_Poly_value .nil passL (pa_cons (pe_makeI T.mk_Fraction G_Fraction___init__ (hr.mono (by decide)) (by rfl) T.g_Fraction b_Fraction___init__ .nil passL (mkFr_conv K []) (pa_cons (pv 7) (pa_cons (pv 8) pa_nil))) pa_nil)) (pa_cons (pe_ix ix_list (pv 6) pe_int (fun _ _ => rfl)) (pa_cons (pe_op op_mulW (pe_ix ix_list (pv 6) pe_int (fun _ _ => rfl)) (pv 4)) pa_nil)))))) (pss_one (ps_ret pe_bl)) pss_nil)
      (pss_cons (ps_if (pt_not (pt_val (pe_call G__law_poly_is (hr.mono (by decide)) (by rfl) T.g__law_poly_is k__law_poly_is b__law_poly_is .nil passL (pa_cons (pe_meth (pv 5) T.cls_Poly T.m_Poly_scaled G_Poly_scaled (hr.mono (by decide)) b_Poly_scaled .nil passL (pa_cons (pe_makeI T.mk_Fraction G_Fraction___init__ (hr.mono (by decide)) (by rfl) T.g_Fraction b_Fraction___init__ .nil passL (mkFr_conv K []) (pa_cons (pv 7) (pa_cons (pv 8) pa_nil))) pa_nil)) (pa_cons (pe_lc (own := [("number", 13)]) (g := gName 13) rfl sc_law.nd (pi_list (pv 2)) (blkOk_by (own := [("number", 13)]) (N := N_law) (sc := defScope s_law) (by decide +kernel)) (fun _ _ _ _ _ => (pg_name (i := 13) sc_law.nd rfl (Or.inl rfl))) (fun _ _ _ _ _ => pts_nil) (fun _ _ _ _ _ => (pe_op op_mulW (pv 13) (pv 7)))) (pa_cons (pe_op op_mulW (pv 4) (pv 8)) pa_nil)))))) (pss_one (ps_ret pe_bl)) pss_nil)
      (pss_cons (ps_setI (i := 9) sc_law.nd rfl (Or.inl rfl) (pe_op op_mod (pe_ix ix_list (pv 1) pe_int (fun _ _ => rfl)) pe_int))
      (Evl.pss_cut (ps_if (pt_cmpR op_eq (pe_op op_mod (pe_ix ix_list (pv 1) pe_int (fun _ _ => rfl)) pe_int) pe_int (nomark _)) (pss_one (ps_setI (i := 9) sc_law.nd rfl (Or.inl rfl) (pe_op op_mod (pe_ix ix_list (pv 1) pe_int (fun _ _ => rfl)) pe_int))) pss_nil)
      (pss_cons (ps_set (i := 10) sc_law.nd rfl (Or.inl rfl) (pe_lst (pa_cons pe_int pa_nil)))
      (pss_cons (ps_setI (i := 11) sc_law.nd rfl (Or.inl rfl) pe_int)
      (pss_cons (ps_for PassesOwn.leaving rfl (pi_range1 rfl T.z_range (pa_cons (pv 9) pa_nil)) (pg_name (i := 12) sc_law.nd rfl (Or.inl rfl)) (pss_cons (ps_set (i := 10) sc_law.nd rfl (Or.inl rfl) (pe_call G__law_product (hr.mono (by decide)) (by rfl) T.g__law_product k__law_product b__law_product .nil passL (pa_cons (pv 10) (pa_cons (pv 2) pa_nil))))
      (pss_one (ps_setI (i := 11) sc_law.nd rfl (Or.inl rfl) (pe_op op_mulW (pv 11) (pv 4))))))
      (pss_one (ps_ret (pe_and (pe_call G__law_poly_is (hr.mono (by decide)) (by rfl) T.g__law_poly_is k__law_poly_is b__law_poly_is .nil passL (pa_cons (pe_meth (pv 5) T.cls_Poly T.m_Poly_power G_Poly_power (hr.mono (by decide)) b_Poly_power .nil passL (pa_cons (pv 9) pa_nil)) (pa_cons (pv 10) (pa_cons (pv 11) pa_nil)))) (pe_one (pe_call G__law_poly_is (hr.mono (by decide)) (by rfl) T.g__law_poly_is k__law_poly_is b__law_poly_is .nil passL (pa_cons (pv 5) (pa_cons (pv 2) (pa_cons (pv 4) pa_nil))))))))))))))))))))))))))), ?_⟩
    refine ⟨_, rfl, _, _, ns, rfl, hS, hl, by decide, by decide, fun pnum H1 ms sm npn hnum hlen hb => ?_⟩
    replace hS := sm.seq hS
    obtain ⟨m0, m1, m2, m3, m4, m5, m6, m7, m8, m9, m10, m11, m12, m13, rfl, b_m0, b_m1, b_m2, b_m3, b_m4, b_m5, b_m6, b_m7, b_m8, b_m9, b_m10, b_m11, b_m12, b_m13⟩ := take14 hlen hb
    have s_m0 : m0.natAbs < 2 ^ 20 := by omega
    have s_m1 : m1.natAbs < 2 ^ 20 := by omega
    have s_m2 : m2.natAbs < 2 ^ 20 := by omega
    have s_m3 : m3.natAbs < 2 ^ 20 := by omega
    have s_m4 : m4.natAbs < 2 ^ 20 := by omega
    have s_m5 : m5.natAbs < 2 ^ 20 := by omega
    have s_m6 : m6.natAbs < 2 ^ 20 := by omega
    have s_m7 : m7.natAbs < 2 ^ 20 := by omega
    have s_m8 : m8.natAbs < 2 ^ 20 := by omega
    have s_m9 : m9.natAbs < 2 ^ 20 := by omega
    have s_m10 : m10.natAbs < 2 ^ 20 := by omega
    have s_m11 : m11.natAbs < 2 ^ 20 := by omega
    have s_m12 : m12.natAbs < 2 ^ 20 := by omega
    have s_m13 : m13.natAbs < 2 ^ 20 := by omega
    refine ⟨Nat.zero_le _, fun pc npc => ?_⟩
    refine ⟨_, rfl, _, _, _, _, rfl, rfl, SqL.of (sm_new npc _ _ hnum), atI_nat (j := 0) rfl, _, _, rfl, rfl, (show (0 : Int) < 7 by decide), _, rfl, by omega, by omega, for_range (lo := 0) (n := (m0 % 7).toNat) (fun i σ' H' => ∃ (cs : List Int) (yk : Option V), σ' = [some (.ref aS), some (.ref pnum), some (.ref pc), yk, none, none, none, none, none, none, none, none, none, none] ∧ Same H1 H' ∧ H' pc = some (.lst (cs.map V.int)) ∧ Cb8 i cs)
      ⟨[], _, rfl, sm_new npc, upd_same, rfl, fun c h => absurd h (by simp)⟩ (fun i σ' H' hi hI => ?_) (fun σ' H' hI => ?_)⟩
    · obtain ⟨cs, yk, rfl, sm, hc, tb⟩ := hI
      obtain ⟨x, hx, hx2⟩ := get_map (ns := [m0, m1, m2, m3, m4, m5, m6, m7, m8, m9, m10, m11, m12, m13]) (i := 7 + i) (by show _ < 14; omega)
      have sz : (cs.map V.int).length < sizeLine := by rw [len_map]; exact small1000 (by have := tb.l; omega)
      refine ⟨_, rfl, _, rfl, _, _, rfl, rfl, _, _, _, _, rfl, rfl, SqL.of (sm _ _ hnum), at_of (j := 7 + i) (by omega) hx2, _, _, rfl, rfl, (show (0 : Int) < 4 by decide), rfl, _, rfl, iteEq (fun d1 => ?_) (fun d1 => ?_)⟩
      · refine ⟨_, rfl, .inl ⟨rfl, _, SqL.of hc⟩, _, _, _, rfl, rfl, hc, sz, ?_⟩
        exact ⟨cs ++ [0], _, rfl, same_mut sm npc, by rw [upd_same, List.map_append]; rfl, tb.more (by omega)⟩
      · refine ⟨_, rfl, .inl ⟨rfl, _, SqL.of hc⟩, _, rfl, _, rfl, _, _, rfl, rfl, _, _, _, _, rfl, rfl, SqL.of (sm _ _ hnum), at_of (j := 7 + i) (by omega) hx2, _, _, rfl, rfl, ⟨by decide, by decide⟩, _, _, rfl, rfl, (show (0 : Int) < 25 by decide), _, _, rfl, rfl, _, _, _, rfl, rfl, hc, sz, ?_⟩
        exact ⟨cs ++ [x / 4 % 25 - 12], _, rfl, same_mut sm npc, by rw [upd_same, List.map_append]; rfl, tb.more (by omega)⟩
    obtain ⟨c0, yk, rfl, sm, hc0, tb⟩ := hI
    have lc : c0.length ≤ 6 := by rw [tb.l]; omega
    have bt : Bits 4 c0 := ⟨fun c hc => by have := tb.r c hc; omega⟩
    replace hS := sm.seq hS
    replace hnum := sm _ _ hnum
    refine ⟨_, rfl, _, _, _, _, rfl, rfl, (SqL.of hnum), atI_nat (j := 1) rfl, _, _, rfl, rfl, (show (0 : Int) < 9 by decide), _, _, rfl, rfl, _, rfl, fun den e_den => ?_⟩
    have rd : 1 ≤ den ∧ den ≤ 9 := by omega
    refine ⟨_, rfl, _, rfl, _, c0, _, 4, rfl, .inl (SqL.of hc0), ?_, ?_, by decide, ?_, ?_⟩
    · omega
    · omega
    · omega
    refine fun p_p H2 k_p e_p sm np_p hp_p q_p => ?_
    replace hS := sm.seq hS
    replace hnum := sm _ _ hnum
    replace hc0 := sm _ _ hc0
    obtain ⟨dp_p, tt_p, h_p, t_p⟩ := hp_p
    have s_p := q_p.self
    have bp_p := q_p.bits (by omega) bt
    have ep_p : e_p.natAbs < 2 ^ 4 := Nat.lt_of_le_of_lt (q_p.den_le (by omega)) (by omega)
    have lp_p := Nat.le_trans (q_p.len (by omega)) lc
    refine ⟨_, rfl, _, _, _, _, rfl, rfl, (SqL.of hnum), atI_nat (j := 2) rfl, _, _, rfl, rfl, (show (0 : Int) < 41 by decide), _, _, rfl, rfl, _, rfl, fun k e_k => ?_⟩
    refine ⟨fun σ' H' => H2 = H' ∧ ∃ kk : Int, σ' = [some (.ref aS), some (.ref pnum), some (.ref pc), some (.int kk), some (.int den), some (.ref p_p), none, none, none, none, none, none, none, none] ∧ (kk.natAbs < 2 ^ 46), ?_, ?_⟩
    · skip
      refine ⟨_, rfl, _, _, _, _, rfl, rfl, (SqL.of hnum), atI_nat (j := 3) rfl, _, _, rfl, rfl, (show (0 : Int) < 6 by decide), rfl, _, rfl, iteEq (fun c1 => ?_) (fun c1 => ?_)⟩
      · skip
        refine ⟨_, rfl, _, _, rfl, rfl, ⟨by decide, by decide, by decide⟩, _, _, rfl, rfl, ?_, ?_⟩
        · exact mulW (a := 6) (b := 40) (by omega) (by decide) (by decide)
        refine ⟨_, _, rfl, rfl, _, rfl, fun k_2 e_k_2 => ?_⟩
        exact ⟨rfl, _, rfl, by rw [show (10 : Int) ^ (12 : Int).toNat = 1000000000000 from by decide] at e_k_2; omega⟩
      · skip
        exact ⟨rfl, _, rfl, by omega⟩
    rintro _ _ ⟨rfl, kk, rfl, bk⟩
    refine ⟨_, rfl, _, rfl, _, _, _, _, rfl, SqL.of hc0, bt, lc, by omega, by omega, by omega, fun p_du H3 t_du b_du sm np_du h_du m_du => ?_⟩
    replace hS := sm.seq hS
    replace hnum := sm _ _ hnum
    replace hc0 := sm _ _ hc0
    replace h_p := sm _ _ h_p
    replace t_p := sm _ _ t_p
    refine ⟨_, rfl, _, _, _, rfl, h_p, rfl, _, rfl, _, _, _, _, 4, 46, rfl, ⟨_, _, h_p, t_p⟩, s_p.pos, abs_mono ep_p (by decide), bp_p, by omega, by omega, fun p_f dp_f H4 n_f d_f sm np_f h_f q_f => ?_⟩
    replace hS := sm.seq hS
    replace hnum := sm _ _ hnum
    replace hc0 := sm _ _ hc0
    replace h_p := sm _ _ h_p
    replace t_p := sm _ _ t_p
    replace h_du := sm _ _ h_du
    refine ⟨_, rfl, _, _, _, _, rfl, rfl, (SqL.of h_du), atI_nat (j := 0) rfl, _, rfl, _, _, _, _, rfl, rfl, (SqL.of h_du), atI_nat (j := 1) rfl, _, rfl, _, _, rfl, rfl, ?_, ?_⟩
    · exact mulW m_du.bb (show den.natAbs < 2 ^ 4 by omega) (by decide)
    have z1 : IsOk 4000 (t_du) (b_du * den) n_f d_f := by
      refine isOk ?_ ?_ ?_ ?_
      · refine q_f.conv (by have := s_p.pos; omega) ?_
        rw [evL_va]
        have z := m_du.fq (n := kk) (f := 1) q_p.eq rfl (by omega) (by have := s_p.pos; omega) (by decide)
        rwa [Int.one_pow, Int.mul_one] at z
      · exact Int.mul_ne_zero (by have := m_du.b0; omega) (by omega)
      · first | exact abs_mono m_du.tb (by decide) | exact abs_mono (abs_lt_mul m_du.bb (show den.natAbs < 2 ^ 4 by omega)) (by decide)
      · first | exact abs_mono m_du.tb (by decide) | exact abs_mono (abs_lt_mul m_du.bb (show den.natAbs < 2 ^ 4 by omega)) (by decide)
    refine ⟨_, _, _, _, _, _, 4000, rfl, h_f, z1.f, z1.a, z1.b, z1.c, z1.e, by decide, _, rfl, iteN rfl ?_⟩
    refine ⟨_, rfl, _, _, _, _, rfl, rfl, (SqL.of hnum), atI_nat (j := 4) rfl, _, _, rfl, rfl, (show (0 : Int) < 41 by decide), _, _, rfl, rfl, _, rfl, fun num e_num => ?_⟩
    have rn : -20 ≤ num ∧ num ≤ 20 := by omega
    refine ⟨_, rfl, _, _, _, _, rfl, rfl, (SqL.of hnum), atI_nat (j := 5) rfl, _, _, rfl, rfl, (show (0 : Int) < 7 by decide), _, _, rfl, rfl, _, rfl, fun below e_below => ?_⟩
    have rb : 1 ≤ below ∧ below ≤ 7 := by omega
    refine ⟨_, rfl, _, rfl, _, rfl, _, _, _, _, rfl, SqL.of hc0, bt, lc, by omega, by omega, by omega, fun p_du_2 H5 t_du_2 b_du_2 sm np_du_2 h_du_2 m_du_2 => ?_⟩
    replace hS := sm.seq hS
    replace hnum := sm _ _ hnum
    replace hc0 := sm _ _ hc0
    replace h_p := sm _ _ h_p
    replace t_p := sm _ _ t_p
    replace h_du := sm _ _ h_du
    refine ⟨_, rfl, _, _, _, rfl, h_p, rfl, _, rfl, _, rfl, _, _, 4, rfl, ?_, by decide, ?_, ?_⟩
    · omega
    · omega
    refine fun p_f_2 dp_f_2 H6 n_f_2 d_f_2 sm np_f_2 h_f_2 q_f_2 => ?_
    replace hS := sm.seq hS
    replace hnum := sm _ _ hnum
    replace hc0 := sm _ _ hc0
    replace h_p := sm _ _ h_p
    replace t_p := sm _ _ t_p
    replace h_du_2 := sm _ _ h_du_2
    refine ⟨_, _, _, _, _, _, _, 4, 6, rfl, ⟨_, _, h_p, t_p⟩, h_f_2, s_p.pos, abs_mono ep_p (by decide), q_f_2.pos, bp_p, by have := q_f_2.num_le (by omega); omega, by have := q_f_2.den_le (by omega); omega, by omega, fun p_f_3 dp_f_3 H7 n_f_3 d_f_3 sm np_f_3 h_f_3 q_f_3 => ?_⟩
    replace hS := sm.seq hS
    replace hnum := sm _ _ hnum
    replace hc0 := sm _ _ hc0
    replace h_p := sm _ _ h_p
    replace t_p := sm _ _ t_p
    replace h_du_2 := sm _ _ h_du_2
    replace h_f_2 := sm _ _ h_f_2
    refine ⟨_, rfl, _, _, _, _, rfl, rfl, (SqL.of h_du_2), atI_nat (j := 0) rfl, _, rfl, _, _, _, _, rfl, rfl, (SqL.of h_du_2), atI_nat (j := 1) rfl, _, rfl, _, _, rfl, rfl, ?_, ?_⟩
    · exact mulW m_du_2.bb (show den.natAbs < 2 ^ 4 by omega) (by decide)
    have z2 : IsOk 4000 (t_du_2) (b_du_2 * den) n_f_3 d_f_3 := by
      refine isOk ?_ ?_ ?_ ?_
      · have fpos := q_f_2.pos
        refine q_f_3.conv (Int.mul_ne_zero (by have := s_p.pos; omega) (pow_ne (by omega) _)) ?_
        exact m_du_2.fq q_p.eq q_f_2.eq (by omega) (by have := s_p.pos; omega) (by omega)
      · exact Int.mul_ne_zero (by have := m_du_2.b0; omega) (by omega)
      · first | exact abs_mono m_du_2.tb (by decide) | exact abs_mono (abs_lt_mul m_du_2.bb (show den.natAbs < 2 ^ 4 by omega)) (by decide)
      · first | exact abs_mono m_du_2.tb (by decide) | exact abs_mono (abs_lt_mul m_du_2.bb (show den.natAbs < 2 ^ 4 by omega)) (by decide)
    refine ⟨_, _, _, _, _, _, 4000, rfl, h_f_3, z2.f, z2.a, z2.b, z2.c, z2.e, by decide, _, rfl, iteN rfl ?_⟩
    refine ⟨_, rfl, _, _, _, rfl, h_p, rfl, _, rfl, _, rfl, _, _, 4, rfl, ?_, by decide, ?_, ?_⟩
    · omega
    · omega
    refine fun p_f_4 dp_f_4 H8 n_f_4 d_f_4 sm np_f_4 h_f_4 q_f_4 => ?_
    replace hS := sm.seq hS
    replace hnum := sm _ _ hnum
    replace hc0 := sm _ _ hc0
    replace h_p := sm _ _ h_p
    replace t_p := sm _ _ t_p
    replace h_du_2 := sm _ _ h_du_2
    refine ⟨_, _, _, _, _, _, _, 8, rfl, ⟨_, _, h_p, t_p⟩, h_f_4, s_p.pos, by omega, by have := q_f_4.pos; omega, bp_p.mono (by decide), by have := q_f_4.num_le (by omega); omega, by have := q_f_4.den_le (by omega); omega, by omega, by decide, fun p_z H9 k_z e_z sm np_z hp_z q_z => ?_⟩
    replace hS := sm.seq hS
    replace hnum := sm _ _ hnum
    replace hc0 := sm _ _ hc0
    replace h_p := sm _ _ h_p
    replace t_p := sm _ _ t_p
    replace h_du_2 := sm _ _ h_du_2
    replace h_f_4 := sm _ _ h_f_4
    obtain ⟨dp_z, tt_z, h_z, t_z⟩ := hp_z
    refine ⟨_, rfl, _, rfl, ⟨_, SqL.of hc0⟩, fun D nD => lc_list (K := K) (a := pc) (xs := (c0).map V.int) (fun i HL => Same H9 HL ∧ HL D = some (.lst ((((c0).map (fun x => x * num)).take i).map V.int))) ⟨sm_new nD, by rw [upd_same]; rfl⟩ (fun i HL hi hP => hP.1.seq (SqL.of hc0)) (fun i y HL hi hP => ?_) (fun H77 hP => ?_)⟩
    · obtain ⟨sm, hD⟩ := hP
      obtain ⟨u, hu, rfl⟩ := get_map_int hi
      have hum := List.mem_of_getElem? hu
      have hll := (List.getElem?_eq_some_iff.mp hu).1
      refine ⟨rfl, ?_⟩
      unfold tYes
      refine iteK rfl ?_
      refine ⟨_, rfl, _, rfl, _, _, rfl, rfl, mulW (bt.all u hum) (show num.natAbs < 2 ^ 6 by omega) (by decide), _, hD, ?_, same_mut sm nD, ?_⟩
      · rw [len_map, List.length_take, List.length_map]; exact small1000 (by omega)
      · rw [upd_same, List.take_succ, List.map_append, List.getElem?_map, hu]; rfl
    obtain ⟨sD, hD⟩ := hP
    rw [List.take_of_length_le (by rw [List.length_map, List.length_map]; exact Nat.le_refl _)] at hD
    replace hS := sD.seq hS
    replace hnum := sD _ _ hnum
    replace hc0 := sD _ _ hc0
    replace h_p := sD _ _ h_p
    replace t_p := sD _ _ t_p
    replace h_du_2 := sD _ _ h_du_2
    replace h_f_4 := sD _ _ h_f_4
    replace h_z := sD _ _ h_z
    replace t_z := sD _ _ t_z
    refine ⟨_, rfl, _, rfl, _, _, rfl, rfl, ?_, ?_⟩
    · exact mulW (a := 4) (b := 4) (by omega) (by omega) (by decide)
    have y1 : POk 200 ((c0.map fun x => x * num)) (den * below) k_z e_z := by
      refine pOk ?_ ?_ ?_ ?_ ?_
      · refine q_z.conv (Int.mul_ne_zero (by have := s_p.pos; omega) (by have := q_f_4.pos; omega)) fun i => ?_
        rw [mul_at, mul_at]
        have a1 := q_p.eq i
        have a2 := q_f_4.eq
        grind
      · exact Int.mul_ne_zero (by omega) (by omega)
      · rw [List.length_map]; omega
      · exact (bt.mul (j := 6) (show num.natAbs < 2 ^ 6 by omega)).mono (by decide)
      · exact abs_mono (abs_lt_mul (a := 4) (b := 4) (by omega) (by omega)) (by decide)
    refine ⟨_, _, _, _, _, _, 200, rfl, ⟨_, _, h_z, t_z⟩, .inl (SqL.of hD), y1.pq, y1.l1, y1.l2, y1.b1, y1.b2, y1.b3, y1.b4, by decide, fun H10 sm => ?_⟩
    replace hS := sm.seq hS
    replace hnum := sm _ _ hnum
    replace hc0 := sm _ _ hc0
    replace h_p := sm _ _ h_p
    replace t_p := sm _ _ t_p
    replace h_du_2 := sm _ _ h_du_2
    replace h_f_4 := sm _ _ h_f_4
    replace h_z := sm _ _ h_z
    replace t_z := sm _ _ t_z
    replace hD := sm _ _ hD
    refine ⟨_, rfl, iteN rfl ?_⟩
    refine ⟨_, rfl, _, _, _, _, rfl, rfl, (SqL.of hnum), atI_nat (j := 6) rfl, _, _, rfl, rfl, (show (0 : Int) < 4 by decide), _, rfl, fun exponent e_exponent => ?_⟩
    have rx : 0 ≤ exponent ∧ exponent ≤ 11 := by omega
    refine ⟨fun σ' H' => H10 = H' ∧ ∃ ee : Int, σ' = [some (.ref aS), some (.ref pnum), some (.ref pc), some (.int kk), some (.int den), some (.ref p_p), some (.ref p_du_2), some (.int num), some (.int below), some (.int ee), none, none, none, none] ∧ (0 ≤ ee ∧ ee ≤ 11), ?_, ?_⟩
    · skip
      refine ⟨_, rfl, _, _, _, _, rfl, rfl, (SqL.of hnum), atI_nat (j := 3) rfl, _, _, rfl, rfl, (show (0 : Int) < 6 by decide), rfl, _, rfl, iteEq (fun c2 => ?_) (fun c2 => ?_)⟩
      · skip
        refine ⟨_, rfl, _, _, _, _, rfl, rfl, (SqL.of hnum), atI_nat (j := 6) rfl, _, _, rfl, rfl, (show (0 : Int) < 12 by decide), _, rfl, fun exponent_2 e_exponent_2 => ?_⟩
        exact ⟨rfl, _, rfl, by omega⟩
      · skip
        exact ⟨rfl, _, rfl, by omega⟩
    rintro _ _ ⟨rfl, ee, rfl, rx⟩
    obtain ⟨E, rfl⟩ : ∃ E : Nat, ee = E := ⟨ee.toNat, by omega⟩
    refine ⟨by show 1 ≤ sizeLine; decide, fun pr npr => ?_⟩
    have s1 := sm_new (o := .lst [V.int 1]) npr
    have hp1 : (upd H10 pr (.lst [V.int 1])) pr = some (.lst (([1] : List Int).map V.int)) := upd_same
    generalize upd H10 pr (.lst [V.int 1]) = HA at s1 hp1 ⊢
    refine ⟨_, rfl, fun sc0 esc => ?_⟩
    refine ⟨_, rfl, _, rfl, by omega, by omega, for_range (lo := 0) (n := E) (fun i σ' H' => ∃ (pp : Addr) (ps : List Int) (sc : Int) (yi : Option V), σ' = [some (.ref aS), some (.ref pnum), some (.ref pc), some (.int kk), some (.int den), some (.ref p_p), some (.ref p_du_2), some (.int num), some (.int below), some (.int ((E : Int))), some (.ref pp), some (.int sc), yi, none] ∧ Same H10 H' ∧ H' pp = some (.lst (ps.map V.int)) ∧ IsPow ps c0 i ∧ sc = den ^ i ∧ ps.length = 1 + i * c0.length ∧ Bits (100 * i + 8) ps)
      ⟨pr, [1], sc0, _, rfl, s1, hp1, IsPow.one, by rw [esc, Int.pow_zero], by show 1 = 1 + 0 * _; omega, ⟨fun x hx => by rw [List.mem_singleton.mp hx]; decide⟩⟩ (fun i σ' H' hi hI => ?_) (fun σ' H' hI => ?_)⟩
    · obtain ⟨pp, ps, sc, yi, rfl, sm, hpp, ip, hsc, pl, pb⟩ := hI
      have il : i * c0.length ≤ 11 * 6 := Nat.mul_le_mul (by omega) lc
      refine ⟨_, rfl, _, rfl, _, _, ps, c0, 100 * i + 8, rfl, SqL.of hpp, SqL.of (sm _ _ hc0), pb, bt.mono (by omega), by omega, by omega, by omega, fun p2 H2 zs s2 np2 hp2 im zl => ?_⟩
      have scb : sc.natAbs < 2 ^ (4 * i + 1) := by rw [hsc]; exact pow_bits (show den.natAbs < 2 ^ 4 by omega) i
      refine ⟨_, rfl, _, rfl, _, _, rfl, rfl, mulW scb (show den.natAbs < 2 ^ 4 by omega) (by omega), _, rfl, fun sc2 esc2 => ?_⟩
      refine ⟨p2, zs, sc2, _, rfl, sm.trans s2, hp2, ip.more im, by rw [esc2, hsc, Int.pow_succ], by rw [zl, pl, Nat.add_mul]; omega, mulbits pb (bt.mono (j := 4) (by omega)) im (by omega)⟩
    obtain ⟨pp, ps, sc, yi, rfl, sm, hpp, ip, hsc, pl, pb⟩ := hI
    have il : E * c0.length ≤ 11 * 6 := Nat.mul_le_mul (by omega) lc
    have ikl : k_p.length * E ≤ 6 * 11 := Nat.mul_le_mul (by omega) (by omega)
    have hB : pwB 4 k_p.length E ≤ 400000 := by
      have := Nat.mul_le_mul (show 4 + k_p.length ≤ 10 by omega) (show E ≤ 11 by omega)
      unfold pwB
      omega
    have top : k_p = [] ∨ k_p.getD (k_p.length - 1) 0 ≠ 0 := q_p.last
    refine ⟨_, rfl, _, _, _, rfl, sm _ _ h_p, rfl, _, rfl, _, k_p, e_p, E, 4, rfl, ⟨_, _, sm _ _ h_p, sm _ _ t_p⟩, s_p.pos, ep_p, top, bp_p, by omega, by omega, by omega, by decide, hB, by omega, fun p_y H3 ms g s3 npy hp_y qy => ?_⟩
    obtain ⟨zs, iz, pz⟩ := qy
    have pq := q_p.power (e := E) iz ip pz
    have scb : (den ^ E).natAbs < 2 ^ 200 := abs_mono (pow_bits (show den.natAbs < 2 ^ 4 by omega) E) (by omega)
    rw [← hsc] at pq scb
    have sc0' : sc ≠ 0 := by rw [hsc]; exact pow_ne (by omega) E
    have z := pOk (k := 2000) pq sc0' (by omega) (pb.mono (by omega)) (abs_mono scb (by decide))
    have sA := sm.trans s3
    refine ⟨_, rfl, _, rfl, _, _, _, _, _, _, 2000, rfl, hp_y, .inl (SqL.of (s3 _ _ hpp)), z.pq, z.l1, z.l2, z.b1, z.b2, z.b3, z.b4, by decide, fun H4 s4 => ?_⟩
    refine ⟨_, rfl, iteK rfl ?_⟩
    have sB := sA.trans s4
    have z2 := pOk (k := 200) q_p (by omega) (by omega) (bt.mono (by decide)) (abs_mono (a := 4) (by omega) (by decide))
    refine ⟨_, rfl, _, rfl, _, rfl, _, _, _, _, _, _, 200, rfl, ⟨_, _, sB _ _ h_p, sB _ _ t_p⟩, .inl (SqL.of (sB _ _ hc0)), z2.pq, z2.l1, z2.l2, z2.b1, z2.b2, z2.b3, z2.b4, by decide, fun H5 s5 => ?_⟩
    exact q _
theorem whole (T : Tx K mg) : ∃ fd : FuncData, (∀ (s : Shared) (v : Value), BindsTo s fd ⟨[v], []⟩ [("script", v)]) ∧ ∀ base : Heap, FnOk P w K mg base CX0 5 (He.fAd K ("law", none)) fd ["script"] (spLaw K) := by
  have O__law_numbers : ∀ base, OkF P w K mg base 1 (He.fAd K ("_law_numbers", none)) ["script", "count"] (spNums K) := fun base => ok__law_numbers T
  have O_trimmed : ∀ base, OkF P w K mg base 1 (He.fAd K ("trimmed", none)) ["coefs"] (spTrim K) := fun base => ok_trimmed T
  have O_common_factor : ∀ base, OkF P w K mg base 1 (He.fAd K ("common_factor", none)) ["numbers"] (spCom K) := fun base => ok_common_factor T
  have O_Poly___init__ : ∀ base, OkD P w K mg base 2 (He.fAd K ("Poly", some "__init__")) ["self", "coefs", "den"] (He.Dv.v K (.int 1)) (spPInit K) := fun base => ok_Poly___init__ T (O_trimmed base) (O_common_factor base)
  have O__law_sum_at : ∀ base, OkF P w K mg base 1 (He.fAd K ("_law_sum_at", none)) ["coefs", "num", "den"] (spSumAt K) := fun base => ok__law_sum_at T
  have O_evaluated : ∀ base, OkF P w K mg base 1 (He.fAd K ("evaluated", none)) ["coefs", "at"] (spEval K) := fun base => ok_evaluated T
  have O_Fraction___init__ : ∀ base, OkD P w K mg base 1 (He.fAd K ("Fraction", some "__init__")) ["self", "num", "den"] (He.Dv.v K (.int 1)) (spInit K) := fun base => ok_Fraction___init__ T
  have O_Poly_at : ∀ base, OkF P w K mg base 3 (He.fAd K ("Poly", some "at")) ["self", "k"] (spPAt K) := fun base => ok_Poly_at T (O_evaluated base) (O_Fraction___init__ base)
  have O__law_is_integer : ∀ base, OkF P w K mg base 1 (He.fAd K ("_law_is_integer", none)) ["x"] (spIsInt K) := fun base => ok__law_is_integer T
  have O__law_divisor : ∀ base, OkF P w K mg base 1 (He.fAd K ("_law_divisor", none)) ["a", "b"] (spGcd K) := fun base => ok__law_divisor T
  have O__law_is : ∀ base, OkF P w K mg base 2 (He.fAd K ("_law_is", none)) ["x", "num", "den"] (spIs K) := fun base => ok__law_is T (O__law_is_integer base) (O__law_divisor base)
  have O_Poly_value : ∀ base, OkF P w K mg base 3 (He.fAd K ("Poly", some "value")) ["self", "x"] (spPVal K) := fun base => ok_Poly_value T (O_Fraction___init__ base)
  have O_Poly_scaled : ∀ base, OkF P w K mg base 4 (He.fAd K ("Poly", some "scaled")) ["self", "factor"] (spPSca K) := fun base => ok_Poly_scaled T (O_Poly___init__ base)
  have O__law_poly_is : ∀ base, OkF P w K mg base 2 (He.fAd K ("_law_poly_is", none)) ["p", "coefs", "den"] (spPIs K) := fun base => ok__law_poly_is T (O__law_is_integer base) (O__law_divisor base)
  have O__law_product : ∀ base, OkF P w K mg base 1 (He.fAd K ("_law_product", none)) ["a", "b"] (spLPr K) := fun base => ok__law_product T
  have O_power_of : ∀ base, OkF P w K mg base 1 (He.fAd K ("power_of", none)) ["base", "exponent"] (spPowI K) := fun base => ok_power_of T
  have O_powered : ∀ base, OkF P w K mg base 2 (He.fAd K ("powered", none)) ["coefs", "exponent"] (spPowd K) := fun base => ok_powered T (O_power_of base)
  have O_Poly_power : ∀ base, OkF P w K mg base 4 (He.fAd K ("Poly", some "power")) ["self", "exponent"] (spPPow K) := fun base => ok_Poly_power T (O_powered base) (O_power_of base) (O_Poly___init__ base)
  exact ok_law T O__law_numbers O_Poly___init__ O__law_sum_at O_Poly_at O__law_is O_Fraction___init__ O_Poly_value O_Poly_scaled O__law_poly_is O__law_product O_Poly_power
end
/-! ### the head -/
abbrev DN__law_numbers : Nat := 0
abbrev DN_trimmed : Nat := 1
abbrev DN_common_factor : Nat := 2
abbrev DN_Poly___init__ : Nat := 3
abbrev DN__law_sum_at : Nat := 4
abbrev DN_evaluated : Nat := 5
abbrev DN_Fraction___init__ : Nat := 6
abbrev DN_Poly_at : Nat := 7
abbrev DN__law_is_integer : Nat := 8
abbrev DN__law_divisor : Nat := 9
abbrev DN__law_is : Nat := 10
abbrev DN_Poly_value : Nat := 11
abbrev DN_Poly_scaled : Nat := 12
abbrev DN__law_poly_is : Nat := 13
abbrev DN__law_product : Nat := 14
abbrev DN_power_of : Nat := 15
abbrev DN_powered : Nat := 16
abbrev DN_Poly_power : Nat := 17
abbrev DN_law : Nat := 18
def fnL : List DefG := [d__law_numbers, d_trimmed, d_common_factor, d_Poly___init__, d__law_sum_at, d_evaluated, d_Fraction___init__, d_Poly_at, d__law_is_integer, d__law_divisor, d__law_is, d_Poly_value, d_Poly_scaled, d__law_poly_is, d__law_product, d_power_of, d_powered, d_Poly_power, d_law]
def faL : List He.Fa := [.cls "Fraction", .cls "Poly", .glo "DivisionByZero", .glo "Fraction", .glo "Poly", .glo "_law_divisor", .glo "_law_is", .glo "_law_is_integer", .glo "_law_numbers", .glo "_law_poly_is", .glo "_law_product", .glo "_law_sum_at", .glo "common_factor", .glo "evaluated", .glo "law", .glo "power_of", .glo "powered", .glo "trimmed", .exc "DivisionByZero", .meth "Poly" "at", .meth "Poly" "power", .meth "Poly" "scaled", .meth "Poly" "value", .mkr "Fraction", .mkr "Poly", .noat "Fraction" "den", .noat "Fraction" "num", .noat "Poly" "coefs", .noat "Poly" "den", .free "abs", .free "bool", .free "enumerate", .free "int", .free "isinstance", .free "len", .free "list", .free "max", .free "range", .free "reversed", .free "sum", .free "tuple"]
def exL (K : PySem.W.Frag) : List Bool := [He.eqO (PySem.W.nsIn K mainGlobals "gcd") (some (some (.builtin "math.gcd"))),
  He.eqO (PySem.W.findIn K (.ref (He.ga K "Fraction")) "__class__") (some (some (.builtin "object.__class__"))),
  He.eqO (PySem.W.specialIn K (.builtin "object.__class__") "__get__") (some (some (.builtin "getset_descriptor.__get__"))),
  decide (PySem.W.takesIn K (.builtin "object.__class__") = some true),
  decide (PySem.W.mroIn K (He.ga K "Fraction") (.type "object") = some true),
  He.eqO (PySem.W.findIn K (.ref (He.ga K "Poly")) "__class__") (some (some (.builtin "object.__class__"))),
  decide (PySem.W.mroIn K (He.ga K "Poly") (.type "object") = some true)]
abbrev R : PySem.W.OpenRow := PySem.W.OpenLaw.row PySem.Challenge.rw_certsums_k08_poly_values
abbrev hk : PySem.W.Hook := hookG 6 faL fnL exL
def ob (s : PySem.W.SharedT) : AlG := obsGG 6 faL fnL exL (HandSHeadRun.getT s)
theorem ob_eq (s : PySem.W.SharedT) : ob s = hk.obs s.abs := obsGG_eq (HandSHeadRun.getT_eq s)
def names : List Str := (["_wall", "SummationError", "DivisionByZero", "SHORT", "power_of", "common_factor", "trimmed", "height", "evaluated", "added", "multiplied", "_plain_product", "_packed", "_unpacked", "_halves", "powered", "Fraction", "_in_lowest_terms", "Poly", "_coefs_over", "_law_numbers", "_law_is_integer", "_law_divisor", "_law_poly_is", "_law_is", "_law_sum_at", "_law_product"] : List Str)
set_option maxHeartbeats 0 in
theorem run (w : World) : HandSHeadRun.RunEqI R (PySem.W.view R.prog [0, 1, 34]) hk ob 20000 names w := by
  unfold HandSHeadRun.RunEqI
  kernel_rfl
theorem tx_of {K : PySem.W.Frag} {h : Heap} {mg : Str → Option Value} (X : K.In h) (G : h.Ns mainGlobals mg) (c : SaysG faL fnL exL K) : Tx K mg :=
  ⟨He.cls_ok (c.fact 0),
   He.cls_ok (c.fact 1),
   c.dn DN_Fraction___init__,
   c.dn DN_Poly___init__,
   c.dn DN_Poly_at,
   c.dn DN_Poly_power,
   c.dn DN_Poly_scaled,
   c.dn DN_Poly_value,
   c.dn DN__law_divisor,
   c.dn DN__law_is,
   c.dn DN__law_is_integer,
   c.dn DN__law_numbers,
   c.dn DN__law_poly_is,
   c.dn DN__law_product,
   c.dn DN__law_sum_at,
   c.dn DN_common_factor,
   c.dn DN_evaluated,
   c.dn DN_law,
   c.dn DN_power_of,
   c.dn DN_powered,
   c.dn DN_trimmed,
   He.glo_ok X G (c.fact 2),
   He.glo_ok X G (c.fact 3),
   He.glo_ok X G (c.fact 4),
   He.glo_ok X G (c.fact 5),
   He.glo_ok X G (c.fact 6),
   He.glo_ok X G (c.fact 7),
   He.glo_ok X G (c.fact 8),
   He.glo_ok X G (c.fact 9),
   He.glo_ok X G (c.fact 10),
   He.glo_ok X G (c.fact 11),
   He.glo_ok X G (c.fact 12),
   He.glo_ok X G (c.fact 13),
   PySem.W.mg_of X G (He.eqO_ok (c.more 0)),
   He.glo_ok X G (c.fact 14),
   He.glo_ok X G (c.fact 15),
   He.glo_ok X G (c.fact 16),
   He.glo_ok X G (c.fact 17),
   (He.exc_ok (c.fact 18)).2.1,
   He.meth_ok (c.fact 19),
   He.meth_ok (c.fact 20),
   He.meth_ok (c.fact 21),
   He.meth_ok (c.fact 22),
   He.mkr_ok (c.fact 23),
   He.mkr_ok (c.fact 24),
   He.noat_ok (c.fact 25),
   He.noat_ok (c.fact 26),
   He.noat_ok (c.fact 27),
   He.noat_ok (c.fact 28),
   @fun X e => by subst e; exact raises_own (He.exc_ok (c.fact 18)).2.2.1 (He.exc_ok (c.fact 18)).2.2.2,
   @fun H a dx fs e => .base (.ins e (He.cls_ok (c.fact 0)) (He.eqO_ok (c.more 1)) (He.eqO_ok (c.more 2)) (of_decide_eq_true (c.more 3)) (of_decide_eq_true (c.more 4))),
   @fun H a dx fs e => .base (.ins e (He.cls_ok (c.fact 1)) (He.eqO_ok (c.more 5)) (He.eqO_ok (c.more 2)) (of_decide_eq_true (c.more 3)) (of_decide_eq_true (c.more 6))),
   (He.exc_ok (c.fact 18)).1,
   He.free_ok X G (c.fact 29),
   He.free_ok X G (c.fact 30),
   He.free_ok X G (c.fact 31),
   He.free_ok X G (c.fact 32),
   He.free_ok X G (c.fact 33),
   He.free_ok X G (c.fact 34),
   He.free_ok X G (c.fact 35),
   He.free_ok X G (c.fact 36),
   He.free_ok X G (c.fact 37),
   He.free_ok X G (c.fact 38),
   He.free_ok X G (c.fact 39),
   He.free_ok X G (c.fact 40)⟩
end CB
open PySem PySem.W PyProof.Rows
set_option maxHeartbeats 0 in
theorem PySem.Challenge.cw_certsums_k08_poly_values_holds : PySem.Challenge.rw_certsums_k08_poly_values.Holds := by
  w_on; o_law
  refine HandSHeadRun.head_imp (r := CB.R) (q := view CB.R.prog [0, 1, 34]) (H := CB.hk) (ob := CB.ob) (M := 20000) (loose := CB.names) (d := HandSHeadRun.topDef CB.R.prog 34) (kwd := []) CB.ob_eq
    CB.run (by kernel_rfl) (by kernel_rfl) (by kernel_rfl) (by rfl) (by first | assumption | decide +kernel) (by decide +kernel) ⟨rfl, rfl, rfl, rfl, rfl, by decide +kernel⟩ ?hw ?hc
  case hw => w_witness2
  case hc =>
    refine L2.walk_ofE (l := PySem.Challenge.rw_certsums_k08_poly_values) (n := 63) (k := 5) (x := "script") (CX := L2.CX0) rfl (by decide) (by kernel_rfl) ⟨rfl, by decide, by decide⟩ ?F (fun _ _ _ _ z => z)
    intro w mg fa h Y G hmg0
    obtain ⟨K, KX, c⟩ := Y
    have hmg : mg ("law" : PySem.Str) = some (.ref fa) := by
      have e : (HandSHeadRun.topDef CB.R.prog 34).name = ("law" : PySem.Str) := by kernel_rfl
      rw [← e]
      exact hmg0
    have T : CB.Tx K mg := CB.tx_of KX G c
    obtain ⟨fd, hb, hF⟩ := CB.whole (P := (PySem.Challenge.rw_certsums_k08_poly_values).prog) (w := w) T
    cases (T.g_law.symm.trans hmg)
    exact ⟨K, fd, CB.spLaw K, KX, hb, fun H a ns hl _ hS => ⟨a, ns, rfl, hS, hl, fun _ => rfl⟩, fun base _ _ => hF base⟩
