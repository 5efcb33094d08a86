import PyProof.Rows.All
import Wide.All
import OpenK.AllK
import Wide.FinOn
import KE.KStateDown
import KE.KMathGC
import KE.KOpsOwn
import Lean
import HandS.ForMost
import HandS.Exc
import HandS.ExcOwn
import HandS.ExcIs
import HandS.TryOnly
import HandS.WordsExc
import HandS.Defaults
import HandS.IsInst
import HandS.Wide
import HandS.WideBits
import HandS.Gcd
import HandS.Property
import HandS.OwnEq
import HandS.Flow
import HandS.Evl
import HandS.Head0
import HandS.Head1
import HandS.Head2
import HandS.Head3
import HandS.HeadEnd
import HandS.HeadHook1
import HandS.HeadHook2
import HandS.HeadHook3
import HandS.HeadHook4
import HandS.Iter
import HandS.TupAny
import HandS.List
import HandS.SortKw
import KE.DatumOrd
import HandS.Rev
import HandS.ClsMeth
import HandS.HeadNt
import KE.GoesEnumKw
import PySem.Challenge.RW_certsums_k21_matrix_functions
set_option Elab.async false
set_option linter.all false
set_option maxRecDepth 100000
set_option maxHeartbeats 4000000
namespace CB
open PySem PySem.Spec PyProof.Rows L2

/-! ### readings made simpler -/
theorem imp_e {X : Cx} {e : Expr} {t t' : TE} (h : PE X e t) (hi : ∀ σ H Q, t' σ H Q → t σ H Q) : PE X e t' :=
  ⟨fun pins s σ H Q I q => h.run pins s σ H Q I (hi σ H Q q)⟩
theorem imp_s {X : Cx} {e : Stmt} {t t' : TS} (h : PS X e t) (hi : ∀ D σ H, t' D σ H → t D σ H) : PS X e t' :=
  ⟨fun pins s σ H D I q => h.run pins s σ H D I (hi D σ H q)⟩

/-! ### a value is never NotImplemented -/
theorem back_of {P : Value → Shared → Prop} {z : V} {v : Value} {s' : Shared} (r : RelV z v) (h : P v s') : PySem.W.CmpBack P v s' := by
  cases z with
  | non => cases r; exact h
  | bl _ => cases r; exact h
  | int _ => obtain ⟨t, rfl⟩ := r; exact h
  | str _ => obtain ⟨t, rfl⟩ := r; exact h
  | byt _ => obtain ⟨t, rfl⟩ := r; exact h
  | flt _ => obtain ⟨t, rfl⟩ := r; exact h
  | ref _ => cases r; exact h
  | ty _ => cases r; exact h

section
variable {X : Cx} {CX : CXT} {k : Nat} {f C : Addr} {fd : FuncData} {ps : List Str} {sp : Sp} {E : XK}

/-- x op y by the class's own method, both of the class -/
def rOwn2 (C : Addr) (sp : Sp) (E : XK) : R2 := fun x y H Q => ∃ a b dx dy fs gs, x = .ref a ∧ y = .ref b ∧ H a = some (.ins C dx fs) ∧ H b = some (.ins C dy gs) ∧ sp [.ref a, .ref b] H Q E
theorem op_own2 {op : Operator} (hc : PySem.W.selfFirst X.K C = true) (hs : PySem.W.findIn X.K (.ref C) (PySem.dunder op.info.2) = some (some (.ref f))) (hf : PySem.W.isFn X.K (.ref f) = true)
    (F : FnOk X.prog X.w X.K X.mg X.base CX k f fd ps sp) (hr : Room k X.A) (hb : Binds X.K fd ps []) (hx : Passes CX X E) : OpR X (binaryOp op) (rOwn2 C sp E) := by
  intro pins s σ H x y v u Q I rx ry h
  obtain ⟨a, b, dx, dy, fs, gs, rfl, rfl, ha, hb', hq⟩ := h
  cases rx
  cases ry
  obtain ⟨mA, J, _⟩ := ins_get I.hok ha
  obtain ⟨mB, J', _⟩ := ins_get I.hok hb'
  obtain ⟨od, J, _⟩ := J.look
  obtain ⟨od', J', _⟩ := J'.look
  obtain ⟨m, hF⟩ := I.fr
  refine PySem.W.binop_K hF I.ok.mod.kin J J'.type hc hs hf ?_
  refine thn (run_fn (us := [.ref a, .ref b]) (vs := [.ref a, .ref b]) F hr hb .nil hx I (.cons rfl (.cons rfl .nil)) hq) fun w s' h => ?_
  obtain ⟨z, H', I', r, q⟩ := h
  exact back_of r ⟨z, H', I', r, q⟩
/-- - x by the class's own method -/
def rOwn1 (C : Addr) (sp : Sp) (E : XK) : V → Hp → VK → Prop := fun x H Q => ∃ a dx fs, x = .ref a ∧ H a = some (.ins C dx fs) ∧ sp [.ref a] H Q E
theorem un_ownNeg (hs : PySem.W.findIn X.K (.ref C) "__neg__" = some (some (.ref f))) (hf : PySem.W.isFn X.K (.ref f) = true)
    (F : FnOk X.prog X.w X.K X.mg X.base CX k f fd ps sp) (hr : Room k X.A) (hb : Binds X.K fd ps []) (hx : Passes CX X E) : UnR X (unaryOp .USub) (rOwn1 C sp E) := by
  intro pins s σ H x v Q I rx h
  obtain ⟨a, dx, fs, rfl, ha, hq⟩ := h
  cases rx
  obtain ⟨mA, J, _⟩ := ins_get I.hok ha
  obtain ⟨od, J, _⟩ := J.look
  obtain ⟨m, hF⟩ := I.fr
  refine PySem.W.ksp_neg hF I.ok.mod.kin J hs hf ?_
  exact run_fn (us := [.ref a]) (vs := [.ref a]) F hr hb .nil hx I (.cons rfl .nil) hq
/-- the other side of an own ==: what it may be -/
inductive EqTy (K : PySem.W.Frag) (C : Addr) (H : Hp) : V → Prop where
  | int {i : Int} (h : PySem.W.notFirst K C (.type "int") = true) : EqTy K C H (.int i)
  | str {x : Str} (h : PySem.W.notFirst K C (.type "str") = true) : EqTy K C H (.str x)
  | tup {a : Addr} {xs : List V} (e : H a = some (.tup xs)) (h : PySem.W.notFirst K C (.type "tuple") = true) : EqTy K C H (.ref a)
  | lst {a : Addr} {xs : List V} (e : H a = some (.lst xs)) (h : PySem.W.notFirst K C (.type "list") = true) : EqTy K C H (.ref a)
  | own {a dy : Addr} {gs : List (Str × V)} (e : H a = some (.ins C dy gs)) (h : PySem.W.notFirst K C (.ref C) = true) : EqTy K C H (.ref a)
theorem EqTy.look {pins : List (Addr × Obj)} {σ : L2.St} {H : Hp} {s : Shared} {y : V} {u : Value} (I : Inv X pins σ H s) (t : EqTy X.K C H y) (ry : RelV y u) :
    ∃ tb, PySem.W.Looks (model X.prog X.w) s.heap (typeOf u) tb ∧ PySem.W.notFirst X.K C tb = true := by
  cases t with
  | int h => obtain ⟨t, rfl⟩ := ry; exact ⟨_, PySem.W.Looks.of_pure rfl, h⟩
  | str h => obtain ⟨t, rfl⟩ := ry; exact ⟨_, PySem.W.Looks.of_pure rfl, h⟩
  | @tup a xs e h =>
    cases ry
    obtain ⟨_, its, r, o, e1, e2, _⟩ := (show ObjOk X.prog X.w H s.heap a (.tup xs) from I.hok a _ e)
    exact ⟨.type "tuple", fun A Q E s' k q => wpAny_typeOf_ref (k _ _ e1) (by rw [e2]; exact q), h⟩
  | @lst a xs e h =>
    cases ry
    obtain ⟨_, _, n, _, e1⟩ := (show ObjOk X.prog X.w H s.heap a (.lst xs) from I.hok a _ e)
    exact ⟨.type "list", fun A Q E s' k q => wpAny_typeOf_ref (k _ _ e1) q, h⟩
  | @own a dy gs e h =>
    cases ry
    obtain ⟨mB, J', _⟩ := ins_get I.hok e
    obtain ⟨od', J', _⟩ := J'.look
    exact ⟨_, J'.type, h⟩
def rOwnEq (K : PySem.W.Frag) (C : Addr) (sp : Sp) (E : XK) : R2 := fun x y H Q => ∃ a dx fs, x = .ref a ∧ H a = some (.ins C dx fs) ∧ EqTy K C H y ∧ sp [.ref a, y] H Q E
theorem op_ownEq (hs : PySem.W.findIn X.K (.ref C) "__eq__" = some (some (.ref f))) (hf : PySem.W.isFn X.K (.ref f) = true)
    (F : FnOk X.prog X.w X.K X.mg X.base CX k f fd ps sp) (hr : Room k X.A) (hb : Binds X.K fd ps []) (hx : Passes CX X E) : OpR X (compareOp .Eq) (rOwnEq X.K C sp E) := by
  intro pins s σ H x y v u Q I rx ry h
  obtain ⟨a, dx, fs, rfl, ha, ty, hq⟩ := h
  cases rx
  obtain ⟨mA, J, _⟩ := ins_get I.hok ha
  obtain ⟨od, J, _⟩ := J.look
  obtain ⟨m, hF⟩ := I.fr
  obtain ⟨tb, hl, hn⟩ := ty.look I ry
  show wpAny (model X.prog X.w) X.A (richCompare .Eq (.ref a) u) (EP X pins σ Q) X.xe s
  refine PySem.W.cmp_K (op := .Eq) hr.units0 hF I.ok.mod.kin J hl hn hs hf ?_
  refine thn (run_fn (us := [.ref a, u]) (vs := [.ref a, y]) F hr hb .nil hx I (.cons rfl (.cons ry .nil)) hq) fun w s' h => ?_
  obtain ⟨z, H', I', r, q⟩ := h
  exact back_of r ⟨z, H', I', r, q⟩
end

/-! ### whole numbers -/
/-- // by a divisor of any sign below 2 ^ 9000 -/
def CDivZ (_ j : Int) : Prop := j ≠ 0 ∧ j.natAbs.log2 < 9000
section
variable {X : Cx}
theorem op_fdivZ : OpR X (binaryOp .FloorDiv) (rI CDivZ fun i j => .int (i.fdiv j)) := opI fun i j _ _ _ _ _ hc q =>
  floordiv_int hc.1 q (.inl (PyProof.noPylong_of_log2 hc.2))
end

/-! ### small words -/
theorem iteK {c : Bool} {A B : Prop} (h : c = true) (a : A) : if c = true then A else B := by rw [h]; exact iteT a
theorem iteN {c : Bool} {A B : Prop} (h : c = false) (b : B) : if c = true then A else B := by rw [h]; exact iteF b
theorem iteB {c : Bool} {A B : Prop} (h1 : c = true → A) (h2 : c = false → B) : if c = true then A else B := by
  cases c with
  | true => exact iteT (h1 rfl)
  | false => exact iteF (h2 rfl)
theorem iteD {p : Prop} [Decidable p] {A B : Prop} (h1 : p → A) (h2 : ¬ p → B) : if decide p = true then A else B := by
  by_cases h : p
  · rw [decide_eq_true h]; exact iteT (h1 h)
  · rw [decide_eq_false h]; exact iteF (h2 h)
theorem iteDN {p : Prop} [Decidable p] {A B : Prop} (h1 : ¬ p → A) (h2 : p → B) : if (!decide p) = true then A else B := by
  by_cases h : p
  · rw [decide_eq_true h]; exact iteF (h2 h)
  · rw [decide_eq_false h]; exact iteT (h1 h)
theorem iteEq {i j : Int} {A B : Prop} (h1 : i = j → A) (h2 : i ≠ j → B) : if decide (V.int i = V.int j) = true then A else B :=
  iteD (fun h => h1 (V.int.inj h)) fun h => h2 fun e => h (by rw [e])
theorem iteEqN {i j : Int} {A B : Prop} (h1 : i ≠ j → A) (h2 : i = j → B) : if (!decide (V.int i = V.int j)) = true then A else B :=
  iteDN (fun h => h1 fun e => h (by rw [e])) fun h => h2 (V.int.inj h)
theorem iteEqNN {i j : Int} {A B : Prop} (h1 : i = j → A) (h2 : i ≠ j → B) : if (!(!decide (V.int i = V.int j))) = true then A else B := by
  rw [Bool.not_not]; exact iteEq h1 h2
/-- both ways go on alike: the second way shown first -/
theorem iteShare {c : Bool} {A B : Prop} (hb : B) (ha : c = true → B → A) : if c = true then A else B := by
  cases c with
  | true => exact iteT (ha rfl hb)
  | false => exact iteF hb
theorem unF {A B : Prop} (h : if false = true then A else B) : B := by
  rw [if_neg Bool.false_ne_true] at h
  exact h
theorem unT {A B : Prop} (h : if true = true then A else B) : A := by
  rw [if_pos rfl] at h
  exact h
theorem veq {i j : Int} (h : i = j) : decide (V.int i = V.int j) = true := decide_eq_true (by rw [h])
theorem vne {i j : Int} (h : i ≠ j) : decide (V.int i = V.int j) = false := decide_eq_false fun e => h (V.int.inj e)
theorem sm_tup {K : PySem.W.Frag} {H H' : Hp} {a : Addr} {xs : List V} (sm : Same H H') (h : SqT K H a xs) : SqT K H' a xs := by
  rcases h with (h | ⟨o, h⟩) | h
  · exact .inl (.inl (sm _ _ h))
  · exact .inl (.inr ⟨o, sm _ _ h⟩)
  · exact .inr h
theorem kit_same {K : PySem.W.Frag} (t : Value) : PySem.W.kitOne K t t = some true := by
  unfold PySem.W.kitOne
  rw [if_pos (by simp)]
theorem sm_new {H : Hp} {p : Addr} {o : HO} (h : H p = none) : Same H (upd H p o) := fun b x e => by
  rw [upd_ne (ne_of_none e h)]
  exact e
theorem ne_new {H : Hp} {a p : Addr} {o : HO} (h : H a = some o) (hp : H p = none) : a ≠ p := ne_of_none h hp

/-- x = e, e a whole number: behind it the number has a name -/
def tAsgI (te : TE) (i : Nat) : TS := fun D σ H => te σ H fun v H1 => ∃ m : Int, v = .int m ∧ ∀ n : Int, n = m → D.nx (σ.set i (some (.int n))) H1
theorem ps_setI {X : Cx} {i : Nat} {x : Str} {e : Expr} {te : TE} {pos pos' : Pos} (hN : X.N.Nodup) (hi : X.N[i]? = some x) (hx : Loc X.env.scope x) (he : PE X e te) (hs : swapsWith e (some (.Name x pos')) pos.line X.env = pure false := by rfl)
    (hf : X.fn x = true ∨ X.env.scope.names.lookup x = some .local := by first | exact .inl rfl | exact .inr rfl | assumption) : PS X (.Assign [.Name x pos'] e pos) (tAsgI te i) := by
  refine ⟨fun pins s σ H D I h => ?_⟩
  refine wpAny_Assign_Name (thn (he.run pins s σ H _ I h) fun v s1 h1 => ?_) hs
  obtain ⟨y, H1, I1, r1, m, rfl, q1⟩ := h1
  exact store_ok I1 hN hi hx r1 (fun s2 I2 => ⟨_, H1, I2, q1 m rfl⟩) hf

/-! ### defs by where they stand -/
abbrev FnW : Type := He.FnW
/-- one def of the text: where it stands (an address by the written part), its row's parts, its defaults -/
structure DefG where
  at_ : PySem.W.Frag → Addr
  name : Str
  qual : Str
  params : Arguments
  body : List Stmt
  scope : Scope
  dfl : List He.Dv := []
def fnG (K : PySem.W.Frag) (a : Addr) : FnW := match K.lookup a with
  | some ⟨_, _, .func fd, _⟩ => some (fd.name, fd.qualname, fd.params, fd.body, fd.scope, fd.globals, fd.closure, fd.builtins)
  | _ => none
def DefG.val (d : DefG) : FnW := some (d.name, d.qual, d.params, .stmts d.body, d.scope, mainGlobals, [], builtinsNs)
def DefG.dvs (K : PySem.W.Frag) (d : DefG) : List V := d.dfl.map (He.Dv.v K)
def DefG.ok (K : PySem.W.Frag) (d : DefG) : Bool := PySem.W.keepIn K (.ref (d.at_ K)) && (match K.lookup (d.at_ K) with
  | some ⟨_, _, .func fd, _⟩ => PySem.W.codeIn K fd.code d.qual && He.dflB K fd.defaults (d.dvs K)
  | _ => false)
/-- a def of the text, by its datum -/
def Dn (K : PySem.W.Frag) (d : DefG) : Prop := ∃ fd, FunD K d.name d.qual d.params d.body d.scope (d.dvs K) [] (d.at_ K) fd
theorem DefG.funD {K : PySem.W.Frag} {d : DefG} (e : fnG K (d.at_ K) = d.val) (c : d.ok K = true) : Dn K d := by
  obtain ⟨kp, c2⟩ := He.ba c
  unfold fnG at e
  cases q : K.lookup (d.at_ K) with
  | none =>
    rw [q] at c2
    cases c2
  | some o =>
    obtain ⟨oc, od, dt, osl⟩ := o
    rw [q] at c2 e
    cases dt with
    | func fd =>
      obtain ⟨n1, n2, n3, n4, n5, n6, n7, n8, n9, n10, n11, n12, n13, n14, n15⟩ := fd
      have e2 : (some (n1, n2, n3, n4, n5, n6, n7, n15) : FnW) = some (d.name, d.qual, d.params, .stmts d.body, d.scope, mainGlobals, [], builtinsNs) := e
      simp only [Option.some.injEq, Prod.mk.injEq] at e2
      obtain ⟨h1, h2, h3, h4, h5, h6, h7, h8⟩ := e2
      subst h1 h2 h3 h4 h5 h6 h7 h8
      have c3 : (PySem.W.codeIn K n13 d.qual && He.dflB K n8 (d.dvs K)) = true := c2
      obtain ⟨k1, k2⟩ := He.ba c3
      exact ⟨_, ⟨oc, od, n8, n9, n10, n11, n12, n13, n14, osl, rfl, q, k1, He.dflB_ok k2, .inl rfl⟩, kp⟩
    | _ => cases c2

/-! ### the shape of a def's promise: what a caller needs of the def at a -/
/-- the def at a is known by its promise (level k, parameters ps) -/
def OkF (P : Program) (w : World) (K : PySem.W.Frag) (mg : Str → Option Value) (base : Heap) (k : Nat) (a : Addr) (ps : List Str) (sp : Sp) : Prop :=
  ∃ fd : FuncData, FnOk P w K mg base (L2.CX P w) k a fd ps sp ∧ Binds K fd ps [] ∧ PySem.W.keepIn K (.ref a) = true
theorem okF_of {P : Program} {w : World} {K : PySem.W.Frag} {mg : Str → Option Value} {base : Heap} {k : Nat} {d : DefG} {N ps : List Str} {sp : Sp} (D : Dn K d) (hd : d.dfl = []) (S : FnScope N ps d.scope)
    (hb : ∀ (kV doc pm : Value) (an : Option Addr) (cdv ct : Value) (us : List Value), us.length = ps.length → bindArgs (PySem.W.fnOf d.name d.qual d.params d.body d.scope .none kV doc pm an cdv ct) ⟨us, []⟩ = pure (ps.zip us))
    (len : ∀ vs H Q E, sp vs H Q E → vs.length = ps.length)
    (hbody : ∀ (cdv : Value) (A : Around) (outer : List Env) (s : Shared) (H : Hp) (vs : List V) (Q : VK) (E : XK), Room k (A.deeper (envOfC d.qual d.scope s.heap.objs.size (d.at_ K) cdv)) → sp vs H Q E →
      ∃ t, PSs (cxOf (L2.CX P w) P w K mg base N d.qual d.scope (d.at_ K) cdv A outer s H E) d.body t ∧ t { nx := fun _ H' => Q .non H', rt := Q } (start N vs) H) :
    OkF P w K mg base (k + 1) (d.at_ K) ps sp := by
  obtain ⟨fd, F⟩ := D
  have e1 : d.dvs K = [] := by unfold DefG.dvs; rw [hd]; rfl
  rw [e1] at F
  exact ⟨fd, F.ok S len hbody, F.bindsN hb, F.kp⟩
/-- the same of a def with one default, of which all values or all but the last are written -/
def OkD (P : Program) (w : World) (K : PySem.W.Frag) (mg : Str → Option Value) (base : Heap) (k : Nat) (a : Addr) (ps : List Str) (dv : V) (sp : Sp) : Prop :=
  ∃ fd : FuncData, FnOk P w K mg base (L2.CX P w) k a fd ps sp ∧ Binds K fd ps [] ∧ (∃ ds, Vals [dv] ds ∧ Binds K fd ps ds) ∧ PySem.W.keepIn K (.ref a) = true
theorem okD_of {P : Program} {w : World} {K : PySem.W.Frag} {mg : Str → Option Value} {base : Heap} {k : Nat} {d : DefG} {N ps : List Str} {sp : Sp} {dv : He.Dv} (D : Dn K d) (hd : d.dfl = [dv]) (S : FnScope N ps d.scope)
    (hb0 : ∀ (T : Addr) (kV doc pm : Value) (an : Option Addr) (cdv ct : Value) (us its : List Value), us.length = ps.length → its.length = 1 →
      ∃ k, bindArgs (PySem.W.fnOf d.name d.qual d.params d.body d.scope (.ref T) kV doc pm an cdv ct) ⟨us, []⟩ = seqItems? (.ref T) >>= k ∧ k (some its.toArray) = pure (ps.zip (us ++ its.drop 1)))
    (hb1 : ∀ (T : Addr) (kV doc pm : Value) (an : Option Addr) (cdv ct : Value) (us its : List Value), us.length = ps.length - 1 → its.length = 1 →
      ∃ k, bindArgs (PySem.W.fnOf d.name d.qual d.params d.body d.scope (.ref T) kV doc pm an cdv ct) ⟨us, []⟩ = seqItems? (.ref T) >>= k ∧ k (some its.toArray) = pure (ps.zip (us ++ its.drop 0)))
    (hp : 0 < ps.length) (len : ∀ vs H Q E, sp vs H Q E → vs.length = ps.length)
    (hbody : ∀ (cdv : Value) (A : Around) (outer : List Env) (s : Shared) (H : Hp) (vs : List V) (Q : VK) (E : XK), Room k (A.deeper (envOfC d.qual d.scope s.heap.objs.size (d.at_ K) cdv)) → sp vs H Q E →
      ∃ t, PSs (cxOf (L2.CX P w) P w K mg base N d.qual d.scope (d.at_ K) cdv A outer s H E) d.body t ∧ t { nx := fun _ H' => Q .non H', rt := Q } (start N vs) H) :
    OkD P w K mg base (k + 1) (d.at_ K) ps (dv.v K) sp := by
  obtain ⟨fd, F⟩ := D
  have e1 : d.dvs K = [dv.v K] := by unfold DefG.dvs; rw [hd]; rfl
  rw [e1] at F
  obtain ⟨ds0, v0, b0⟩ := FunD.binds1 (ps := ps) F ps.length 1 (by simp) (by simp) fun T kV doc pm an cdv ct us its h1 h2 => hb0 T kV doc pm an cdv ct us its h1 (by simpa using h2)
  obtain ⟨ds1, v1, b1⟩ := FunD.binds1 (ps := ps) F (ps.length - 1) 0 (by simp) (by simp; omega) fun T kV doc pm an cdv ct us its h1 h2 => hb1 T kV doc pm an cdv ct us its h1 (by simpa using h2)
  have z : ds0 = [] := by
    have := v0.length
    simp at this
    exact List.eq_nil_of_length_eq_zero this.symm
  subst z
  exact ⟨fd, F.ok S len hbody, b0, ⟨ds1, v1, b1⟩, F.kp⟩

/-- the law's own def: no exception leaves it -/
theorem okLaw_of {P : Program} {w : World} {K : PySem.W.Frag} {mg : Str → Option Value} {k : Nat} {d : DefG} {N : List Str} {sp : Sp} (D : Dn K d) (hd : d.dfl = []) (S : FnScope N ["script"] d.scope)
    (hb : ∀ (kV doc pm : Value) (an : Option Addr) (cdv ct : Value) (us : List Value), us.length = 1 → bindArgs (PySem.W.fnOf d.name d.qual d.params d.body d.scope .none kV doc pm an cdv ct) ⟨us, []⟩ = pure ((["script"] : List Str).zip us))
    (len : ∀ vs H Q E, sp vs H Q E → vs.length = 1)
    (hbody : ∀ (base : Heap) (cdv : Value) (A : Around) (outer : List Env) (s : Shared) (H : Hp) (vs : List V) (Q : VK) (E : XK), Room k (A.deeper (envOfC d.qual d.scope s.heap.objs.size (d.at_ K) cdv)) → sp vs H Q E →
      ∃ t, PSs (cxOf CX0 P w K mg base N d.qual d.scope (d.at_ K) cdv A outer s H E) d.body t ∧ t { nx := fun _ H' => Q .non H', rt := Q } (start N vs) H) :
    ∃ fd : FuncData, (∀ (s : Shared) (v : Value), BindsTo s fd ⟨[v], []⟩ [("script", v)]) ∧ ∀ base : Heap, FnOk P w K mg base CX0 (k + 1) (d.at_ K) fd ["script"] sp := by
  obtain ⟨fd, F⟩ := D
  have e1 : d.dvs K = [] := by unfold DefG.dvs; rw [hd]; rfl
  rw [e1] at F
  exact ⟨fd, fun s v => FunD.bindsA (ps := ["script"]) F hb s [v] rfl, fun base => F.ok S len (hbody base)⟩
/-- what a law promises: True, of every script -/
def spLaw (K : PySem.W.Frag) : Sp := fun vs H Q _ => ∃ (a : Addr) (ns : List Int), vs = [.ref a] ∧ SqL K H a (ns.map V.int) ∧ ns.length ≤ 63 ∧ ∀ H', Q (.bl true) H'

/-! ### the head's facts by a Hook of our own: defs at any address -/
/-- the getter of a property of a class -/
def prAd (K : PySem.W.Frag) (C : Addr) (x : Str) : Addr := match PySem.W.findIn K (.ref C) x with
  | some (some (.ref p)) => p
  | _ => 0
def gtAd (K : PySem.W.Frag) (C : Addr) (x : Str) : Addr := match PySem.W.recIn K (prAd K C x) "property" with
  | some (.ref g :: _) => g
  | _ => 0
def propB (K : PySem.W.Frag) (C : Addr) (x : Str) : Bool :=
  He.eqO (PySem.W.findIn K (.ref C) x) (some (some (.ref (prAd K C x)))) && (He.eqO (PySem.W.specialIn K (.ref (prAd K C x)) "__get__") (some (some (.builtin "property.__get__"))) && (decide (PySem.W.takesIn K (.ref (prAd K C x)) = some true) &&
    (match PySem.W.recIn K (prAd K C x) "property" with
      | some (.ref _ :: _) => true
      | _ => false)))
theorem propB_ok {K : PySem.W.Frag} {C : Addr} {x : Str} (h : propB K C x = true) : PropOf K C x (prAd K C x) (gtAd K C x) := by
  obtain ⟨h1, h⟩ := He.ba h
  obtain ⟨h2, h⟩ := He.ba h
  obtain ⟨h3, h4⟩ := He.ba h
  refine ⟨He.eqO_ok h1, He.eqO_ok h2, of_decide_eq_true h3, ?_⟩
  unfold gtAd
  cases q : PySem.W.recIn K (prAd K C x) "property" with
  | none => rw [q] at h4; cases h4
  | some l =>
    rw [q] at h4
    cases l with
    | nil => cases h4
    | cons v r =>
      cases v with
      | ref g => exact ⟨r, rfl⟩
      | _ => cases h4
abbrev AlG : Type := Bool × List FnW
def obsG (fa : List He.Fa) (fn : List DefG) (ex : PySem.W.Frag → List Bool) (K : PySem.W.Frag) : AlG := ((fa.all fun f => f.ok K) && ((fn.all fun d => d.ok K) && (ex K).all id), fn.map fun d => fnG K (d.at_ K))
def valG (fn : List DefG) : AlG := (true, fn.map DefG.val)
def SaysG (fa : List He.Fa) (fn : List DefG) (ex : PySem.W.Frag → List Bool) (K : PySem.W.Frag) : Prop := obsG fa fn ex K = valG fn
def obsGG (n : Nat) (fa : List He.Fa) (fn : List DefG) (ex : PySem.W.Frag → List Bool) (g : Addr → Option Obj) : AlG := obsG fa fn ex (He.frG g (He.asD g n ++ [PySem.cStatics]))
def hookG (n : Nat) (fa : List He.Fa) (fn : List DefG) (ex : PySem.W.Frag → List Bool) : PySem.W.Hook where
  α := AlG
  obs := fun s => obsGG n fa fn ex s.heap.get?
  val := fun _ => valG fn
  says := fun _ h => ∃ K : PySem.W.Frag, K.In h ∧ SaysG fa fn ex K
  of := fun _ _ e => ⟨_, He.frG_in, e⟩
  keeps := fun _ _ _ ⟨K, hK, c⟩ k => ⟨K, PySem.W.Frag.In.keeps hK k, c⟩
theorem obsGG_eq {n : Nat} {fa : List He.Fa} {fn : List DefG} {ex : PySem.W.Frag → List Bool} {g : Addr → Option Obj} {s : Shared} (h : ∀ a, g a = s.heap.get? a) : obsGG n fa fn ex g = (hookG n fa fn ex).obs s := by
  have e : g = s.heap.get? := funext h
  rw [e] <;> rfl
section
variable {fa : List He.Fa} {fn : List DefG} {ex : PySem.W.Frag → List Bool} {K : PySem.W.Frag}
theorem SaysG.fact (c : SaysG fa fn ex K) (i : Nat) {f : He.Fa} (h : fa[i]? = some f := by rfl) : f.ok K = true := by
  have c1 := (He.ba (show ((fa.all fun f => f.ok K) && ((fn.all fun d => d.ok K) && (ex K).all id)) = true from congrArg (fun z : AlG => z.1) c)).1
  exact List.all_eq_true.mp c1 f (List.mem_of_getElem? h)
theorem SaysG.more (c : SaysG fa fn ex K) (i : Nat) {b : Bool} (h : (ex K)[i]? = some b := by rfl) : b = true := by
  have c1 := (He.ba (He.ba (show ((fa.all fun f => f.ok K) && ((fn.all fun d => d.ok K) && (ex K).all id)) = true from congrArg (fun z : AlG => z.1) c)).2).2
  exact List.all_eq_true.mp c1 b (List.mem_of_getElem? h)
theorem SaysG.dn (c : SaysG fa fn ex K) (i : Nat) {d : DefG} (h : fn[i]? = some d := by rfl) : Dn K d := by
  have c2 := (He.ba (He.ba (show ((fa.all fun f => f.ok K) && ((fn.all fun d => d.ok K) && (ex K).all id)) = true from congrArg (fun z : AlG => z.1) c)).2).1
  have e : fn.map (fun d => fnG K (d.at_ K)) = fn.map DefG.val := congrArg (fun z : AlG => z.2) c
  have e2 : (fn.map fun d => fnG K (d.at_ K))[i]? = (fn.map DefG.val)[i]? := by rw [e]
  rw [List.getElem?_map, List.getElem?_map, h] at e2
  exact DefG.funD (Option.some.inj e2) (List.all_eq_true.mp c2 d (List.mem_of_getElem? h))
end

/-! ### sizes -/
theorem abs_lt_mul {i j : Int} {a b : Nat} (ha : i.natAbs < 2 ^ a) (hb : j.natAbs < 2 ^ b) : (i * j).natAbs < 2 ^ (a + b) := wide_lt ha hb
theorem abs_lt_add {i j : Int} {a : Nat} (ha : i.natAbs < 2 ^ a) (hb : j.natAbs < 2 ^ a) : (i + j).natAbs < 2 ^ (a + 1) := by
  have := Int.natAbs_add_le i j
  rw [Nat.pow_succ]; omega
theorem abs_mono {i : Int} {a b : Nat} (h : i.natAbs < 2 ^ a) (hab : a ≤ b) : i.natAbs < 2 ^ b := Nat.lt_of_lt_of_le h (Nat.pow_le_pow_right (by decide) hab)
theorem sz_add {i j : Int} {a b : Nat} (ha : i.natAbs < 2 ^ a) (hb : j.natAbs < 2 ^ b) : (i + j).natAbs < 2 ^ (max a b + 1) :=
  abs_lt_add (abs_mono ha (Nat.le_max_left _ _)) (abs_mono hb (Nat.le_max_right _ _))
theorem sz_neg {i : Int} {a : Nat} (ha : i.natAbs < 2 ^ a) : (-i).natAbs < 2 ^ a := by rw [Int.natAbs_neg]; exact ha
theorem sz_sub {i j : Int} {a b : Nat} (ha : i.natAbs < 2 ^ a) (hb : j.natAbs < 2 ^ b) : (i - j).natAbs < 2 ^ (max a b + 1) := by
  rw [Int.sub_eq_add_neg]; exact sz_add ha (sz_neg hb)
theorem sz_pos {i : Int} {a : Nat} (h0 : 0 ≤ i) (h : i < 2 ^ a) : i.natAbs < 2 ^ a := by
  have : ((i.natAbs : Nat) : Int) < ((2 ^ a : Nat) : Int) := by rw [Int.natAbs_of_nonneg h0]; exact_mod_cast h
  exact_mod_cast this
theorem mulW {i j : Int} {a b : Nat} (ha : i.natAbs < 2 ^ a) (hb : j.natAbs < 2 ^ b) (h : a + b + 2 ≤ 1000000) : CMulW i j := wide_mul (a := a + 1) (b := b + 1) (abs_mono ha (by omega)) (abs_mono hb (by omega)) (by omega) (by omega) (by omega)
theorem divW {i j : Int} {b : Nat} (h : 0 < j) (hb : j.natAbs < 2 ^ b) (h9 : b ≤ 8000) : CDivW i j := wide_div (b := b + 1) h (abs_mono hb (by omega)) (by omega) (by omega)
theorem divZ {i j : Int} {b : Nat} (h : j ≠ 0) (hb : j.natAbs < 2 ^ b) (h9 : b ≤ 8000) : CDivZ i j := ⟨h, Nat.lt_of_lt_of_le (PySem.Flt.log2_lt_of (k := b + 1) (by omega) (abs_mono hb (by omega))) (by omega)⟩

/-! ### a new instance, its __init__'s promise taken in another form -/
section
variable {X : Cx} {CX : CXT} {k : Nat} {f C : Addr} {fd : FuncData} {ps : List Str} {sp : Sp} {dvs : List V} {ds : List Value} {E : XK} {x : Str} {p pos : Pos} {e : Expr} {es : List Expr} {t : TA} {B : List V → Hp → VK → Prop}
def tMk (B : List V → Hp → VK → Prop) (t : TA) : TE := fun σ H Q => t σ H fun vs H1 => B vs H1 Q
theorem pe_makeI (M : Mk X.K C f) (F : FnOk X.prog X.w X.K X.mg X.base CX k f fd ps sp) (hr : Room (k + 1) X.A) (hg : Gl X x) (hm : X.mg x = some (.ref C)) (hb : Binds X.K fd ps ds) (hd : Vals dvs ds) (hx : Passes CX X E)
    (conv : ∀ vs H1 Q, B vs H1 Q → ∀ x dx, H1 x = none → H1 dx = none → dx ≠ x → sp (.ref x :: (vs ++ dvs)) (upd (upd H1 dx (.own x)) x (.ins C dx [])) (fun v H2 => v = .non ∧ Q (.ref x) H2) E)
    (ha : PA X (e :: es) t) (hdb : (x == ("__debug__" : Str)) = false := by decide) (he : starEach (e :: es) X.env = (false, eval e X.env) :: starEach es X.env := by rfl) (hpl : (backTo pos (starEach es X.env)).any (·.1) = false := by rfl) :
    PE X (.Call (.Name x p) (e :: es) [] pos) (tMk B t) := by
  refine ⟨fun pins s σ H Q I h => ?_⟩
  refine wpAny_Call_Name_kw (ld_glob I hg hm ?_ hdb)
  refine PySem.W.callWith_K (h₀ := X.base) I.ok.mod.kin M.kp (thn (ha.run pos pins s σ H _ I h) fun us s1 hh => ?_) he hpl
  obtain ⟨vs, H1, I1, r, q⟩ := hh
  exact ⟨I1.kIn, run_make M F hr hb hd hx I1 r (conv vs H1 Q q)⟩
/-- .. in a try's body: what is wished of an exception knows the slots -/
theorem run_makeS {pins : List (Addr × Obj)} {σ : L2.St} {H : Hp} {s : Shared} {Q : VK} {us : List Value} {vs : List V} {E : L2.St → XK} (M : Mk X.K C f) (F : FnOk X.prog X.w X.K X.mg X.base CX k f fd ps sp) (hr : Room (k + 1) X.A) (hb : Binds X.K fd ps ds) (hd : Vals dvs ds)
    (hx : PassesAt CX X σ (E σ)) (I : Inv X pins σ H s) (r : Vals vs us)
    (h : ∀ x dx, H x = none → H dx = none → dx ≠ x → sp (.ref x :: (vs ++ dvs)) (upd (upd H dx (.own x)) x (.ins C dx [])) (fun v H2 => v = .non ∧ Q (.ref x) H2) (E σ)) :
    wpAny (model X.prog X.w) X.A (call (.ref C) us) (EP X pins σ Q) X.xe s := by
  have hq := h (s.heap.objs.size + 1) s.heap.objs.size (I.hok.fresh (Nat.le_succ _)) (I.hok.fresh (Nat.le_refl _)) (Nat.ne_of_lt (Nat.lt_succ_self _))
  have I2 := Inv.made (C := C) I
  have r2 : Vals (V.ref (s.heap.objs.size + 1) :: (vs ++ dvs)) (Value.ref (s.heap.objs.size + 1) :: (us ++ ds)) := .cons rfl (r.append hd)
  have hl : (Value.ref (s.heap.objs.size + 1) :: us ++ ds).length = ps.length := by
    have e := r2.length
    rw [F.len _ _ _ _ hq] at e
    exact e.symm
  refine wpAny_call (make_map (f := f) I.kIn M.makes M.init (beq_iff_eq.mp M.fn) (codeAny_mono (F.run _ X.stack _ _ ⟨Value.ref (s.heap.objs.size + 1) :: us, []⟩ (Value.ref (s.heap.objs.size + 1) :: (us ++ ds)) _ _ (E σ) (hr.make C us [])
    (I2.env0.make C us []) (hb _ (Value.ref (s.heap.objs.size + 1) :: us) I2.kIn hl) r2 hq) fun r s' hq' => ?_))
  cases r with
  | error e => exact hx pins _ _ e s' I2 hq'
  | ok fl =>
    cases fl with
    | ret u =>
      obtain ⟨v, H', I3, rv, ev, q3⟩ := I2.after hq'
      subst ev
      exact ⟨rv, ⟨V.ref (s.heap.objs.size + 1), H', I3, rfl, q3⟩⟩
    | next => exact False.elim hq'
    | brk => exact False.elim hq'
    | cont => exact False.elim hq'
def tMkS (B : L2.St → List V → Hp → VK → Prop) (t : TA) : TE := fun σ H Q => t σ H fun vs H1 => B σ vs H1 Q
theorem pe_makeIS {E : L2.St → XK} {B : L2.St → List V → Hp → VK → Prop} (M : Mk X.K C f) (F : FnOk X.prog X.w X.K X.mg X.base CX k f fd ps sp) (hr : Room (k + 1) X.A) (hg : Gl X x) (hm : X.mg x = some (.ref C)) (hb : Binds X.K fd ps ds) (hd : Vals dvs ds) (hx : ∀ σ, PassesAt CX X σ (E σ))
    (conv : ∀ σ vs H1 Q, B σ vs H1 Q → ∀ x dx, H1 x = none → H1 dx = none → dx ≠ x → sp (.ref x :: (vs ++ dvs)) (upd (upd H1 dx (.own x)) x (.ins C dx [])) (fun v H2 => v = .non ∧ Q (.ref x) H2) (E σ))
    (ha : PA X (e :: es) t) (hdb : (x == ("__debug__" : Str)) = false := by decide) (he : starEach (e :: es) X.env = (false, eval e X.env) :: starEach es X.env := by rfl) (hpl : (backTo pos (starEach es X.env)).any (·.1) = false := by rfl) :
    PE X (.Call (.Name x p) (e :: es) [] pos) (tMkS B t) := by
  refine ⟨fun pins s σ H Q I h => ?_⟩
  refine wpAny_Call_Name_kw (ld_glob I hg hm ?_ hdb)
  refine PySem.W.callWith_K (h₀ := X.base) I.ok.mod.kin M.kp (thn (ha.run pos pins s σ H _ I h) fun us s1 hh => ?_) he hpl
  obtain ⟨vs, H1, I1, r, q⟩ := hh
  exact ⟨I1.kIn, run_makeS M F hr hb hd (hx σ) I1 r (conv σ vs H1 Q q)⟩
end
/-- what a new instance's heap keeps -/
theorem same_made {H : Hp} {p dp C : Addr} {o : HO} (np : H p = none) (nd : H dp = none) (h : dp ≠ p) : Same H (upd (upd (upd H dp (.own p)) p (.ins C dp [])) p o) := fun b x e => by
  rw [upd_ne (ne_of_none e np), upd_ne (ne_of_none e np), upd_ne (ne_of_none e nd)]
  exact e
/-! ### caught errors -/
theorem pss_hyp {X : Cx} {p : Prop} {b : List Stmt} {t : TS} (h : p → PSs X b t) : PSs X b (fun D σ H => p ∧ t D σ H) :=
  ⟨fun pins s σ H D I q => (h q.1).run pins s σ H D I q.2⟩
def excCB (K : PySem.W.Frag) (D : Addr) : Bool :=
  He.eqO (PySem.W.findIn K (.ref D) "__getattribute__") (some (some (.builtin "BaseException.__getattribute__"))) && (He.eqO (PySem.W.findIn K (.ref D) "__getattr__") (some none) && (decide (PySem.W.subIn K (.ref D) (.type "BaseException") = some true) &&
    (PySem.W.hasDictIn K D && (He.eqO (PySem.W.findIn K (.ref D) "__class__") (some (some (.builtin "object.__class__"))) && (He.eqO (PySem.W.specialIn K (.builtin "object.__class__") "__get__") (some (some (.builtin "getset_descriptor.__get__"))) &&
      (decide (PySem.W.takesIn K (.builtin "object.__class__") = some true) && decide (PySem.W.mroIn K D (.type "object") = some true)))))))
theorem excCB_ok {K : PySem.W.Frag} {D : Addr} (h : excCB K D = true) : ExcC K D := by
  obtain ⟨h1, h⟩ := He.ba h
  obtain ⟨h2, h⟩ := He.ba h
  obtain ⟨h3, h⟩ := He.ba h
  obtain ⟨h4, h⟩ := He.ba h
  obtain ⟨h5, h⟩ := He.ba h
  obtain ⟨h6, h⟩ := He.ba h
  obtain ⟨h7, h8⟩ := He.ba h
  exact ⟨He.eqO_ok h1, He.eqO_ok h2, of_decide_eq_true h3, h4, He.eqO_ok h5, He.eqO_ok h6, of_decide_eq_true h7, of_decide_eq_true h8⟩
theorem iff_false {r : Bool} {p : Prop} (h : r = true ↔ p) (n : ¬ p) : r = false := by
  cases r with
  | true => exact absurd (h.mp rfl) n
  | false => rfl
theorem vnn {i j : Int} (h : i = j) : (!decide (V.int i = V.int j)) = false := by rw [veq h]; rfl
theorem vny {i j : Int} (h : i ≠ j) : (!decide (V.int i = V.int j)) = true := by rw [vne h]; rfl
theorem vbi {i j k l : Int} (h : i = j ↔ k = l) : (!decide (V.bl (decide (V.int i = V.int j)) = V.bl (decide (V.int k = V.int l)))) = false := by
  have e : decide (V.int i = V.int j) = decide (V.int k = V.int l) := by
    by_cases c : i = j
    · rw [veq c, veq (h.mp c)]
    · rw [vne c, vne fun z => c (h.mpr z)]
  rw [e]
  simp
/-! ### o.m(e, ..) in a try's body: what is wished of an exception knows the slots -/
def tMethE (C : Addr) (m : Str) (sp : Sp) (E : L2.St → XK) (ta : TE) (t : TA) : TE := fun σ H Q => ta σ H fun x H1 => ∃ a dx fs, x = .ref a ∧ H1 a = some (.ins C dx fs) ∧ fs.lookup m = none ∧
  t σ H1 fun vs H2 => sp (x :: vs) H2 Q (E σ)
section
variable {X : Cx} {CX : CXT} {k : Nat} {f C : Addr} {fd : FuncData} {ps : List Str} {sp : Sp} {x m : Str} {p pos apos : Pos} {e o : Expr} {es : List Expr} {ta : TE} {t : TA} {E : L2.St → XK}
theorem pe_methE {pl : Sem Bool} (he : PE X o ta) (c : Cls X.K C) (hm : Meth X.K C m f) (F : FnOk X.prog X.w X.K X.mg X.base CX k f fd ps sp) (hr : Room k X.A)
    (hb : Binds X.K fd ps []) (hx : ∀ σ, PassesAt CX X σ (E σ)) (ha : PA X (e :: es) t)
    (hst : starEach (e :: es) X.env = (false, eval e X.env) :: starEach es X.env := by rfl)
    (hpl : (backTo pos (starEach es X.env)).any (·.1) = false := by rfl)
    (ht : eval (.Call (.Attribute o m apos) (e :: es) [] pos) X.env = (do
      let ov ← eval o X.env
      standAt apos.atName
      let (f, first) ← holding [ov] (getMethod ov m pl)
      callWith pos f first (backTo pos (starEach (e :: es) X.env)) (backToKw pos (keywordEach [] X.env))) := by rfl) :
    PE X (.Call (.Attribute o m apos) (e :: es) [] pos) (tMethE C m sp E ta t) := by
  refine ⟨fun pins s σ H Q I h => ?_⟩
  refine PySem.W.methodCall_KW (pl := pl) (thn (he.run pins s σ H _ I h) fun u s1 hh => ?_) ht
  obtain ⟨x, H1, I1, rx, a, dx, fs, ex, ea, l, q⟩ := hh
  subst ex
  have eu : u = Value.ref a := rx
  subst eu
  refine getmeth_ok I1 ea c hm l ?_
  refine PySem.W.callWith_K (first := [.ref a]) (h₀ := X.base) I.ok.mod.kin hm.kp (thn (ha.run pos pins s1 σ H1 _ I1 q) fun us s2 h2 => ?_) hst hpl
  obtain ⟨vs, H2, I2, r, q2⟩ := h2
  exact ⟨I2.kIn, run_fnS (us := .ref a :: us) (vs := .ref a :: vs) F hr hb (hx σ) I2 (.cons rfl r) q2⟩
end
theorem bit_one (n : Nat) : PySem.Builtin.bitAnd (n : Int) 1 = ((n % 2 : Nat) : Int) := by
  show ((n &&& 1 : Nat) : Int) = _
  rw [Nat.and_one_is_mod]
/-- the size of a power -/
theorem pow_bits {b : Int} {k : Nat} (h : b.natAbs < 2 ^ k) (r : Nat) : (b ^ r).natAbs < 2 ^ (k * r + 1) := by
  rw [Int.natAbs_pow]
  have z := Nat.pow_le_pow_left (Nat.le_of_lt h) r
  rw [← Nat.pow_mul] at z
  have : 2 ^ (k * r) < 2 ^ (k * r + 1) := Nat.pow_lt_pow_right (by decide) (by omega)
  omega
theorem get_map {ns : List Int} {i : Nat} (h : i < ns.length) : ∃ x, ns[i]? = some x ∧ (ns.map V.int)[i]? = some (.int x) :=
  ⟨ns[i], List.getElem?_eq_getElem h, by rw [List.getElem?_map, List.getElem?_eq_getElem h]; rfl⟩
theorem len_map {ns : List Int} : (ns.map V.int).length = ns.length := List.length_map ..
theorem map_at {ns : List Int} {i : Nat} {x : Int} (h : ns[i]? = some x) : (ns.map V.int)[i]? = some (.int x) := by rw [List.getElem?_map, h]; rfl
theorem cut_lo {xs : List V} {m : Nat} (h : m ≤ xs.length) : cutV xs none (some (m : Int)) = xs.take m := by
  have e : HT.sIx xs.length xs.length (some (m : Int)) = m := by rw [HT.sIx_nat]; omega
  simp [cutV, e, HT.sIx_none]
theorem cut_hi {xs : List V} {m : Nat} (h : m ≤ xs.length) : cutV xs (some (m : Int)) none = xs.drop m := by
  have e : HT.sIx xs.length 0 (some (m : Int)) = m := by rw [HT.sIx_nat]; omega
  simp only [cutV, e, HT.sIx_none]
  exact List.take_of_length_le (by simp)
/-- within a comprehension: the written part said -/
theorem pe_fldK {X : Cx} {K : PySem.W.Frag} {o : Expr} {ta : TE} {f : Str} {pos : Pos} (hK : X.K = K) (h : PE X (.Attribute o f pos) (tFld X.K ta f)) : PE X (.Attribute o f pos) (tFld K ta f) := by
  subst hK
  exact h
end CB

namespace CB
/-- a / b is n / d in lowest terms, with a positive denominator -/
structure Fq (n d a b : Int) : Prop where
  eq : a * d = n * b
  pos : 0 < b
  cop : Nat.gcd a.natAbs b.natAbs = 1

theorem dvd_of_cop {a b c : Int} (h : b ∣ a * c) (g : Nat.gcd a.natAbs b.natAbs = 1) : b ∣ c := by
  have h1 : b.natAbs ∣ a.natAbs * c.natAbs := by rw [← Int.natAbs_mul]; exact Int.natAbs_dvd_natAbs.mpr h
  have h2 : Nat.Coprime b.natAbs a.natAbs := by rw [Nat.coprime_iff_gcd_eq_one, Nat.gcd_comm]; exact g
  exact Int.natAbs_dvd_natAbs.mp (h2.dvd_of_dvd_mul_left h1)
theorem Fq.den_dvd {n d a b : Int} (f : Fq n d a b) : b ∣ d := dvd_of_cop ⟨n, by have := f.eq; grind⟩ f.cop
theorem Fq.num_dvd {n d a b : Int} (f : Fq n d a b) : a ∣ n := by
  have h : a ∣ b * n := ⟨d, by have := f.eq; grind⟩
  exact dvd_of_cop h (by rw [Nat.gcd_comm]; exact f.cop)
theorem natAbs_le_of_dvd {a b : Int} (h : a ∣ b) (hb : b ≠ 0) : a.natAbs ≤ b.natAbs := Nat.le_of_dvd (by omega) (Int.natAbs_dvd_natAbs.mpr h)
theorem Fq.den_le {n d a b : Int} (f : Fq n d a b) (hd : d ≠ 0) : b.natAbs ≤ d.natAbs := natAbs_le_of_dvd f.den_dvd hd
theorem Fq.num_le {n d a b : Int} (f : Fq n d a b) (hd : d ≠ 0) : a.natAbs ≤ n.natAbs := by
  by_cases hn : n = 0
  · have e := f.eq
    rw [hn, Int.zero_mul] at e
    rcases Int.mul_eq_zero.mp e with e | e
    · rw [e]; exact Nat.zero_le _
    · exact absurd e hd
  · exact natAbs_le_of_dvd f.num_dvd hn
theorem Fq.uniq {n d a b a' b' : Int} (f : Fq n d a b) (f' : Fq n d a' b') (hd : d ≠ 0) : a = a' ∧ b = b' := by
  have h1 := f.eq
  have h2 := f'.eq
  have e : a * b' = a' * b := by
    have : (a * b') * d = (a' * b) * d := by grind
    exact Int.eq_of_mul_eq_mul_right hd this
  have p := f.pos
  have p' := f'.pos
  have d1 : b ∣ b' := dvd_of_cop (a := a) ⟨a', by grind⟩ f.cop
  have d2 : b' ∣ b := dvd_of_cop (a := a') ⟨a, by grind⟩ f'.cop
  have e2 : b = b' := by
    have x1 := natAbs_le_of_dvd d1 (by omega)
    have x2 := natAbs_le_of_dvd d2 (by omega)
    omega
  subst e2
  exact ⟨Int.eq_of_mul_eq_mul_right (by omega) e, rfl⟩
/-- the same number by another pair -/
theorem Fq.conv {n d a b n' d' : Int} (f : Fq n d a b) (hd : d ≠ 0) (h : n * d' = n' * d) : Fq n' d' a b := by
  refine ⟨?_, f.pos, f.cop⟩
  have e := f.eq
  have : (a * d') * d = (n' * b) * d := by grind
  exact Int.eq_of_mul_eq_mul_right hd this
theorem Fq.self {a b : Int} (p : 0 < b) (c : Nat.gcd a.natAbs b.natAbs = 1) : Fq a b a b := ⟨rfl, p, c⟩
/-- what __init__ stores -/
theorem fq_init {n d c : Int} (hd : d ≠ 0) (hc : c = if d < 0 then -((Nat.gcd n.natAbs d.natAbs : Nat) : Int) else ((Nat.gcd n.natAbs d.natAbs : Nat) : Int)) : c ≠ 0 ∧ c.natAbs ≤ d.natAbs ∧ Fq n d (n.fdiv c) (d.fdiv c) := by
  have gp : 0 < Nat.gcd n.natAbs d.natAbs := Nat.gcd_pos_of_pos_right _ (by omega)
  have g1 : c.natAbs = Nat.gcd n.natAbs d.natAbs := by rw [hc]; split <;> omega
  have c0 : c ≠ 0 := by omega
  have cn : c ∣ n := Int.natAbs_dvd_natAbs.mp (by rw [g1]; exact Nat.gcd_dvd_left _ _)
  have cd : c ∣ d := Int.natAbs_dvd_natAbs.mp (by rw [g1]; exact Nat.gcd_dvd_right _ _)
  obtain ⟨n', hn⟩ := cn
  obtain ⟨d', hd'⟩ := cd
  have e1 : n.fdiv c = n' := by rw [hn, Int.mul_fdiv_cancel_left _ c0]
  have e2 : d.fdiv c = d' := by rw [hd', Int.mul_fdiv_cancel_left _ c0]
  refine ⟨c0, natAbs_le_of_dvd ⟨d', hd'⟩ hd, ?_⟩
  rw [e1, e2]
  refine ⟨by grind, ?_, ?_⟩
  · refine Decidable.byContradiction fun hn => ?_
    have hn : d' ≤ 0 := by omega
    by_cases h : d < 0
    · have hc' : c < 0 := by rw [hc, if_pos h]; omega
      have z := Int.mul_nonneg (show 0 ≤ -c by omega) (show 0 ≤ -d' by omega)
      rw [Int.neg_mul_neg] at z
      omega
    · have hc' : 0 < c := by rw [hc, if_neg h]; omega
      have z := Int.mul_nonneg (show 0 ≤ c by omega) (show 0 ≤ -d' by omega)
      rw [Int.mul_neg] at z
      omega
  · have z := Nat.gcd_mul_left c.natAbs n'.natAbs d'.natAbs
    rw [← Int.natAbs_mul, ← Int.natAbs_mul, ← hn, ← hd', ← g1] at z
    have : 0 < c.natAbs := by omega
    exact Nat.eq_of_mul_eq_mul_left this (by omega)

abbrev Cop (a b : Int) : Prop := Nat.gcd a.natAbs b.natAbs = 1
theorem Cop.dvd {a b d : Int} (h : Cop a b) (h1 : d ∣ a) (h2 : d ∣ b) : d ∣ 1 := by
  have z := Nat.dvd_gcd (Int.natAbs_dvd_natAbs.mpr h1) (Int.natAbs_dvd_natAbs.mpr h2)
  have z2 : d.natAbs ∣ (1 : Int).natAbs := by rw [h] at z; exact z
  exact Int.natAbs_dvd_natAbs.mp z2
theorem cop_of {a b : Int} (h : ∀ d : Int, d ∣ a → d ∣ b → d ∣ 1) : Cop a b := by
  have z := h ((Nat.gcd a.natAbs b.natAbs : Nat) : Int) (Int.natAbs_dvd_natAbs.mp (by rw [Int.natAbs_natCast]; exact Nat.gcd_dvd_left _ _)) (Int.natAbs_dvd_natAbs.mp (by rw [Int.natAbs_natCast]; exact Nat.gcd_dvd_right _ _))
  have z2 := Int.natAbs_dvd_natAbs.mpr z
  rw [Int.natAbs_natCast] at z2
  exact Nat.eq_one_of_dvd_one z2
theorem Cop.symm {a b : Int} (h : Cop a b) : Cop b a := by unfold Cop; rw [Nat.gcd_comm]; exact h
theorem Cop.left {a a' b : Int} (h : Cop a b) (d : a' ∣ a) : Cop a' b := cop_of fun x h1 h2 => h.dvd (Int.dvd_trans h1 d) h2
theorem Cop.right {a b b' : Int} (h : Cop a b) (d : b' ∣ b) : Cop a b' := cop_of fun x h1 h2 => h.dvd h1 (Int.dvd_trans h2 d)
theorem Cop.mul {a b c : Int} (h1 : Cop a b) (h2 : Cop a c) : Cop a (b * c) := cop_of fun x k1 k2 => by
  have k3 : x ∣ c := dvd_of_cop (a := b) k2 (cop_of fun y y1 y2 => h1.dvd (Int.dvd_trans y2 k1) y1)
  exact h2.dvd k1 k3
theorem Cop.mull {a b c : Int} (h1 : Cop a c) (h2 : Cop b c) : Cop (a * b) c := (h1.symm.mul h2.symm).symm
theorem cop_one {a : Int} : Cop a 1 := cop_of fun _ _ h => h
/-- two numbers by their greatest common divisor -/
theorem gcd_parts {n d : Int} (h : n ≠ 0 ∨ d ≠ 0) : ∃ (g x y : Int), g = ((Nat.gcd n.natAbs d.natAbs : Nat) : Int) ∧ 0 < g ∧ n = g * x ∧ d = g * y ∧ Cop x y ∧ n / g = x ∧ d / g = y := by
  have gp : 0 < Nat.gcd n.natAbs d.natAbs := by
    rcases h with h | h
    · exact Nat.gcd_pos_of_pos_left _ (by omega)
    · exact Nat.gcd_pos_of_pos_right _ (by omega)
  obtain ⟨x, hx⟩ : ((Nat.gcd n.natAbs d.natAbs : Nat) : Int) ∣ n := Int.natAbs_dvd_natAbs.mp (by rw [Int.natAbs_natCast]; exact Nat.gcd_dvd_left _ _)
  obtain ⟨y, hy⟩ : ((Nat.gcd n.natAbs d.natAbs : Nat) : Int) ∣ d := Int.natAbs_dvd_natAbs.mp (by rw [Int.natAbs_natCast]; exact Nat.gcd_dvd_right _ _)
  generalize hg : ((Nat.gcd n.natAbs d.natAbs : Nat) : Int) = g at hx hy
  have g0 : 0 < g := by omega
  refine ⟨g, x, y, rfl, g0, hx, hy, ?_, ?_, ?_⟩
  · have z := Nat.gcd_mul_left g.natAbs x.natAbs y.natAbs
    rw [← Int.natAbs_mul, ← Int.natAbs_mul, ← hx, ← hy] at z
    have g1 : g.natAbs = Nat.gcd n.natAbs d.natAbs := by rw [← hg, Int.natAbs_natCast]
    rw [← g1] at z
    have : 0 < g.natAbs := by omega
    exact Nat.eq_of_mul_eq_mul_left this (by omega)
  · rw [hx, Int.mul_ediv_cancel_left _ (by omega)]
  · rw [hy, Int.mul_ediv_cancel_left _ (by omega)]
/-- the sum as the program reckons it -/
theorem fq_add {a1 b1 a2 b2 g sc num sh : Int} (p1 : 0 < b1) (p2 : 0 < b2) (c1 : Cop a1 b1) (c2 : Cop a2 b2) (hg : g = ((Nat.gcd b1.natAbs b2.natAbs : Nat) : Int)) (hs : sc = b2 / g) (hn : num = a1 * sc + a2 * (b1 / g))
    (hh : sh = ((Nat.gcd num.natAbs g.natAbs : Nat) : Int)) : 0 < g ∧ 0 < sh ∧ Fq (a1 * b2 + a2 * b1) (b1 * b2) (num / sh) (b1 / sh * sc) := by
  obtain ⟨g', x, y, e1, g0, ex, ey, cxy, dx, dy⟩ := gcd_parts (n := b1) (d := b2) (.inl (by omega))
  rw [← hg] at e1
  subst e1
  rw [dx] at hn
  rw [dy] at hs
  subst hs
  obtain ⟨s', m, t, e2, s0, em, et, cmt, dm, dt⟩ := gcd_parts (n := num) (d := g') (.inr (by omega))
  rw [← hh] at e2
  subst e2
  have ebs : b1 / s' = t * x := by
    have e : b1 = s' * (t * x) := by rw [ex, et]; grind
    rw [e, Int.mul_ediv_cancel_left _ (by omega)]
  refine ⟨g0, s0, ?_⟩
  rw [dm, ebs]
  have x0 : 0 < x := Decidable.byContradiction fun h => by
    have z := Int.mul_nonneg (show 0 ≤ g' by omega) (show 0 ≤ -x by omega)
    rw [Int.mul_neg] at z
    omega
  have y0 : 0 < sc := Decidable.byContradiction fun h => by
    have z := Int.mul_nonneg (show 0 ≤ g' by omega) (show 0 ≤ -sc by omega)
    rw [Int.mul_neg] at z
    omega
  have t0 : 0 < t := Decidable.byContradiction fun h => by
    have z := Int.mul_nonneg (show 0 ≤ s' by omega) (show 0 ≤ -t by omega)
    rw [Int.mul_neg] at z
    omega
  refine ⟨by grind, Int.mul_pos (Int.mul_pos t0 x0) y0, ?_⟩
  have nx : Cop num x := cop_of fun d k1 k2 => by
    have k3 : d ∣ a1 * sc := by
      have : a1 * sc = num - a2 * x := by rw [hn]; omega
      rw [this]
      exact Int.dvd_sub k1 (Int.dvd_mul_of_dvd_right k2)
    have k4 : d ∣ sc := dvd_of_cop (a := a1) k3 ((c1.right ⟨g', by rw [ex]; grind⟩ : Cop a1 x).right k2)
    exact cxy.dvd k2 k4
  have ny : Cop num sc := cop_of fun d k1 k2 => by
    have k3 : d ∣ a2 * x := by
      have : a2 * x = num - a1 * sc := by rw [hn]; omega
      rw [this]
      exact Int.dvd_sub k1 (Int.dvd_mul_of_dvd_right k2)
    have k4 : d ∣ x := dvd_of_cop (a := a2) k3 ((c2.right ⟨g', by rw [ey]; grind⟩ : Cop a2 sc).right k2)
    exact cxy.dvd k4 k2
  have md : m ∣ num := ⟨s', by rw [em]; grind⟩
  exact (cmt.mul (nx.left md)).mul (ny.left md)
/-- the product as the program reckons it -/
theorem fq_mul {a1 b1 a2 b2 l r : Int} (p1 : 0 < b1) (p2 : 0 < b2) (c1 : Cop a1 b1) (c2 : Cop a2 b2) (hl : l = ((Nat.gcd a1.natAbs b2.natAbs : Nat) : Int)) (hr : r = ((Nat.gcd a2.natAbs b1.natAbs : Nat) : Int)) :
    0 < l ∧ 0 < r ∧ Fq (a1 * a2) (b1 * b2) (a1 / l * (a2 / r)) (b1 / r * (b2 / l)) := by
  obtain ⟨l', x, y, e1, l0, ex, ey, cxy, dx, dy⟩ := gcd_parts (n := a1) (d := b2) (.inr (by omega))
  rw [← hl] at e1
  subst e1
  obtain ⟨r', z, w, e2, r0, ez, ew, czw, dz, dw⟩ := gcd_parts (n := a2) (d := b1) (.inr (by omega))
  rw [← hr] at e2
  subst e2
  rw [dx, dy, dz, dw]
  have y0 : 0 < y := Decidable.byContradiction fun h => by
    have q := Int.mul_nonneg (show 0 ≤ l' by omega) (show 0 ≤ -y by omega)
    rw [Int.mul_neg] at q
    omega
  have w0 : 0 < w := Decidable.byContradiction fun h => by
    have q := Int.mul_nonneg (show 0 ≤ r' by omega) (show 0 ≤ -w by omega)
    rw [Int.mul_neg] at q
    omega
  refine ⟨l0, r0, by grind, Int.mul_pos w0 y0, ?_⟩
  have xw : Cop x w := (c1.left ⟨l', by rw [ex]; grind⟩).right ⟨r', by rw [ew]; grind⟩
  have zy : Cop z y := (c2.left ⟨r', by rw [ez]; grind⟩).right ⟨l', by rw [ey]; grind⟩
  exact (xw.mull czw).mul (cxy.mull zy)
theorem fq_neg {a b : Int} (p : 0 < b) (c : Cop a b) : Fq (-a) b (-a) b := ⟨rfl, p, by unfold Cop at c; rw [Int.natAbs_neg]; exact c⟩
/-- two pairs in lowest terms of the same number -/
theorem Fq.same {n d a b n' d' a' b' : Int} (f : Fq n d a b) (f' : Fq n' d' a' b') (hd : d ≠ 0) (hd' : d' ≠ 0) (h : n * d' = n' * d) : a = a' ∧ b = b' :=
  (f.conv hd h).uniq f' hd'
theorem Fq.back {n d a b n' d' a' b' : Int} (f : Fq n d a b) (f' : Fq n' d' a' b') (h : a = a' ∧ b = b') : n * d' = n' * d := by
  obtain ⟨rfl, rfl⟩ := h
  have e1 := f.eq
  have e2 := f'.eq
  have p := f.pos
  have : (n * d') * b = (n' * d) * b := by grind
  exact Int.eq_of_mul_eq_mul_right (by omega) this
theorem Fq.zero_iff {n d a b : Int} (f : Fq n d a b) (hd : d ≠ 0) : a = 0 ↔ n = 0 := by
  have e := f.eq
  have p := f.pos
  constructor
  · rintro rfl
    rw [Int.zero_mul] at e
    rcases Int.mul_eq_zero.mp e.symm with z | z
    · exact z
    · omega
  · rintro rfl
    rw [Int.zero_mul] at e
    rcases Int.mul_eq_zero.mp e with z | z
    · exact z
    · exact absurd z hd
theorem pos_of_mul {a b : Int} (h : 0 < a * b) (hb : 0 < b) : 0 < a := Decidable.byContradiction fun c => by
  have z := Int.mul_nonneg (show 0 ≤ -a by omega) (show 0 ≤ b by omega)
  rw [Int.neg_mul] at z
  omega
theorem nonneg_of_mul {a b : Int} (h : 0 ≤ a * b) (hb : 0 < b) : 0 ≤ a := Decidable.byContradiction fun c => by
  have z := Int.mul_pos (show 0 < -a by omega) hb
  rw [Int.neg_mul] at z
  omega
theorem Fq.pos_iff {n d a b : Int} (f : Fq n d a b) (hd : 0 < d) : 0 < a ↔ 0 < n := by
  have e := f.eq
  have p := f.pos
  constructor
  · intro h
    exact pos_of_mul (by rw [← e]; exact Int.mul_pos h hd) p
  · intro h
    exact pos_of_mul (by rw [e]; exact Int.mul_pos h p) hd
/-- the floor, by the pair that was given -/
theorem Fq.low {n d a b : Int} (f : Fq n d a b) (hd : 0 < d) : a / b * d ≤ n ∧ n < (a / b + 1) * d := by
  have e := f.eq
  have p := f.pos
  have h1 := Int.ediv_mul_le a (show b ≠ 0 by omega)
  have h2 := Int.lt_ediv_add_one_mul_self a p
  generalize a / b = q at h1 h2 ⊢
  constructor
  · have z := nonneg_of_mul (a := n - q * d) (b := b) (by
      have z := Int.mul_nonneg (show 0 ≤ a - q * b by omega) (show 0 ≤ d by omega)
      have e2 : (n - q * d) * b = (a - q * b) * d := by grind
      omega) p
    omega
  · have z := pos_of_mul (a := (q + 1) * d - n) (b := b) (by
      have z := Int.mul_pos (show 0 < (q + 1) * b - a by omega) hd
      have e2 : ((q + 1) * d - n) * b = ((q + 1) * b - a) * d := by grind
      omega) p
    omega
/-- whole where the denominator is 1 -/
theorem Fq.whole_iff {n d a b : Int} (f : Fq n d a b) (hd : 0 < d) : b = 1 ↔ a / b * d = n := by
  constructor
  · rintro rfl
    rw [Int.ediv_one]
    have e := f.eq
    omega
  · intro h
    have g : Fq n d (a / b) 1 := ⟨by rw [h, Int.mul_one], by decide, cop_one⟩
    exact (f.uniq g (by omega)).2
theorem Cop.powl {a b : Int} (h : Cop a b) (n : Nat) : Cop (a ^ n) b := by
  induction n with
  | zero => rw [Int.pow_zero]; exact cop_one.symm
  | succ n ih => rw [Int.pow_succ]; exact ih.mull h
theorem Cop.pow {a b : Int} (h : Cop a b) (n : Nat) : Cop (a ^ n) (b ^ n) := ((h.powl n).symm.powl n).symm
theorem fq_pow {a b : Int} (p : 0 < b) (c : Cop a b) (n : Nat) : Fq (a ^ n) (b ^ n) (a ^ n) (b ^ n) := ⟨rfl, Int.pow_pos p, c.pow n⟩
theorem mul_pow_int (a b : Int) (n : Nat) : (a * b) ^ n = a ^ n * b ^ n := by
  induction n with
  | zero => rw [Int.pow_zero, Int.pow_zero, Int.pow_zero, Int.mul_one]
  | succ n ih => rw [Int.pow_succ, Int.pow_succ, Int.pow_succ, ih]; grind
/-- the same power of an equal pair -/
theorem Fq.pow {n d a b n' d' : Int} (f : Fq n d a b) (hd : d ≠ 0) (e : Nat) (h1 : n' = n ^ e) (h2 : d' = d ^ e) : Fq n' d' (a ^ e) (b ^ e) := by
  subst h1 h2
  refine ⟨?_, Int.pow_pos f.pos, Cop.pow f.cop e⟩
  rw [← mul_pow_int, ← mul_pow_int, f.eq]
theorem pow_ne {a : Int} (h : a ≠ 0) (n : Nat) : a ^ n ≠ 0 := by
  induction n with
  | zero => rw [Int.pow_zero]; decide
  | succ n ih => rw [Int.pow_succ]; exact Int.mul_ne_zero ih h
/-- the sum of two numbers, by other pairs of theirs -/
theorem Fq.add {a b n1 d1 x y n2 d2 n d : Int} (f1 : Fq a b n1 d1) (f2 : Fq x y n2 d2) (f : Fq (n1 * d2 + n2 * d1) (d1 * d2) n d) : Fq (a * y + x * b) (b * y) n d := by
  have p1 := f1.pos
  have p2 := f2.pos
  have e1 := f1.eq
  have e2 := f2.eq
  refine f.conv (Int.mul_ne_zero (by omega) (by omega)) ?_
  grind
theorem Fq.mul {a b n1 d1 x y n2 d2 n d : Int} (f1 : Fq a b n1 d1) (f2 : Fq x y n2 d2) (f : Fq (n1 * n2) (d1 * d2) n d) : Fq (a * x) (b * y) n d := by
  have p1 := f1.pos
  have p2 := f2.pos
  have e1 := f1.eq
  have e2 := f2.eq
  refine f.conv (Int.mul_ne_zero (by omega) (by omega)) ?_
  grind
end CB

namespace CB
open PySem PySem.Spec PyProof.Rows L2
def rComb : List V → Hp → VK → Prop := fun vs H Q => ∃ a b : Int, vs = [.int a, .int b] ∧ 0 ≤ a ∧ 0 ≤ b ∧ a < 2 ^ 64 ∧ (b ≤ 9000 ∨ a ≤ 18000) ∧ Q (.int (PySem.W.mcComb a b)) H
theorem cr_comb {X : Cx} : CallR X (.builtin "math.comb") rComb := by
  intro pins s σ H vs us Q I r h
  obtain ⟨a, b, rfl, h1, h2, h3, h4, q⟩ := h
  obtain ⟨t, u, rfl⟩ := Vals.int2 r
  exact PySem.W.mc_comb h1 h2 h3 h4 fun _ => ⟨.int _, H, I.tok _, ⟨_, rfl⟩, q⟩
def rPerm : List V → Hp → VK → Prop := fun vs H Q => ∃ a b : Int, vs = [.int a, .int b] ∧ 0 ≤ a ∧ 0 ≤ b ∧ a < 2 ^ 64 ∧ b ≤ 20000 ∧ Q (.int (PySem.W.mcPerm a b)) H
theorem cr_perm {X : Cx} : CallR X (.builtin "math.perm") rPerm := by
  intro pins s σ H vs us Q I r h
  obtain ⟨a, b, rfl, h1, h2, h3, h4, q⟩ := h
  obtain ⟨t, u, rfl⟩ := Vals.int2 r
  exact PySem.W.mc_perm h1 h2 h3 h4 fun _ => ⟨.int _, H, I.tok _, ⟨_, rfl⟩, q⟩
def rLcm : List V → Hp → VK → Prop := fun vs H Q => ∃ a b : Int, vs = [.int a, .int b] ∧ a.natAbs < 2 ^ 64 ∧ b.natAbs < 2 ^ 64 ∧ Q (.int ((Nat.lcm a.natAbs b.natAbs : Nat) : Int)) H
theorem cr_lcm {X : Cx} : CallR X (.builtin "math.lcm") rLcm := by
  intro pins s σ H vs us Q I r h
  obtain ⟨a, b, rfl, h1, h2, q⟩ := h
  obtain ⟨t, u, rfl⟩ := Vals.int2 r
  exact PySem.W.mc_lcm h1 h2 fun _ => ⟨.int _, H, I.tok _, ⟨_, rfl⟩, q⟩
/-- the triangle's entry -/
def chs : Nat → Nat → Nat
  | _, 0 => 1
  | 0, _ + 1 => 0
  | n + 1, k + 1 => chs n k + chs n (k + 1)
def fac : Nat → Nat
  | 0 => 1
  | n + 1 => (n + 1) * fac n
theorem fac_pos (n : Nat) : 0 < fac n := by
  induction n with
  | zero => decide
  | succ n ih => exact Nat.mul_pos (Nat.succ_pos n) ih
theorem chs_above : ∀ {n k : Nat}, n < k → chs n k = 0
  | _, 0, h => absurd h (Nat.not_lt_zero _)
  | 0, k + 1, _ => by simp [chs]
  | n + 1, k + 1, h => by rw [chs, chs_above (by omega), chs_above (by omega)]
theorem chs_zero (n : Nat) : chs n 0 = 1 := by cases n <;> rfl
theorem chs_self : ∀ n : Nat, chs n n = 1
  | 0 => rfl
  | n + 1 => by rw [chs, chs_self n, chs_above (Nat.lt_succ_self n)]
theorem chs_fac : ∀ {n k : Nat}, k ≤ n → chs n k * (fac k * fac (n - k)) = fac n
  | n, 0, _ => by rw [chs_zero]; simp [fac]
  | n + 1, k + 1, h => by
    have h1 := chs_fac (n := n) (k := k) (by omega)
    rw [chs, fac, show n + 1 - (k + 1) = n - k by omega]
    by_cases e : k = n
    · subst e
      rw [chs_above (Nat.lt_succ_self k), chs_self, Nat.sub_self]
      simp [fac]
    · have h2 := chs_fac (n := n) (k := k + 1) (by omega)
      have e2 : fac (n - k) = (n - k) * fac (n - (k + 1)) := by
        have : n - k = (n - (k + 1)) + 1 := by omega
        rw [this]
        rfl
      obtain ⟨d, hd⟩ : ∃ d, n - k = d := ⟨_, rfl⟩
      have e3 : n = k + d := by omega
      rw [e2] at h1 ⊢
      rw [fac] at h2
      rw [show fac (n + 1) = (n + 1) * fac n from rfl]
      rw [hd] at h1 ⊢
      generalize fac (n - (k + 1)) = x at *
      generalize fac k = y at *
      generalize chs n k = u at *
      generalize chs n (k + 1) = v at *
      generalize fac n = z at *
      subst e3
      grind
theorem chs_symm {n k : Nat} (h : k ≤ n) : chs n (n - k) = chs n k := by
  have h1 := chs_fac h
  have h2 := chs_fac (n := n) (k := n - k) (by omega)
  rw [show n - (n - k) = k by omega] at h2
  have p := Nat.mul_pos (fac_pos k) (fac_pos (n - k))
  refine Nat.eq_of_mul_eq_mul_right p ?_
  rw [h1, ← h2]
  grind
open PySem.W in
theorem fp_fac (n : Nat) : ∀ k : Nat, k ≤ n → PySem.Builtin.Math.fallingProduct (n : Int) k * (fac (n - k) : Int) = (fac n : Int)
  | 0, _ => by rw [mc_fp_zero]; simp
  | k + 1, h => by
    have ih := fp_fac n k (by omega)
    rw [mc_fp_succ]
    have e : fac (n - k) = (n - k) * fac (n - (k + 1)) := by
      have : n - k = (n - (k + 1)) + 1 := by omega
      rw [this]
      rfl
    rw [e] at ih
    rw [← ih, Int.natCast_mul]
    have : ((n - k : Nat) : Int) = (n : Int) - (k : Int) := by omega
    rw [this]
    grind
theorem fp_chs {n k : Nat} (h : k ≤ n) : PySem.Builtin.Math.fallingProduct (n : Int) k = (chs n k : Int) * (fac k : Int) := by
  have h1 := fp_fac n k h
  have h2 := chs_fac h
  have p := fac_pos (n - k)
  refine Int.eq_of_mul_eq_mul_right (a := (fac (n - k) : Int)) (by omega) ?_
  rw [h1, ← h2, Int.natCast_mul, Int.natCast_mul]
  grind
theorem fp_self (k : Nat) : PySem.Builtin.Math.fallingProduct (k : Int) k = (fac k : Int) := by
  rw [fp_chs (Nat.le_refl k), chs_self]
  simp
theorem comb_chs (n k : Nat) : PySem.W.mcComb (n : Int) (k : Int) = (chs n k : Int) := by
  by_cases h : k ≤ n
  · have one : ∀ m : Nat, m ≤ n → PySem.Builtin.Math.fallingProduct (n : Int) m / PySem.Builtin.Math.fallingProduct (m : Int) m = (chs n m : Int) := fun m hm => by
      rw [fp_chs hm, fp_self]
      exact Int.mul_ediv_cancel _ (by have := fac_pos m; omega)
    by_cases c : k ≤ n - k
    · rw [PySem.W.mcComb_at (by omega) (by omega) (m := (k : Int)) (by omega), Int.toNat_natCast]
      exact one k h
    · rw [PySem.W.mcComb_at (by omega) (by omega) (m := ((n - k : Nat) : Int)) (by omega), Int.toNat_natCast, one (n - k) (by omega), chs_symm h]
  · rw [PySem.W.mcComb_above (by omega), chs_above (by omega)]
    rfl
theorem perm_fac (n : Nat) : PySem.W.mcPerm (n : Int) (n : Int) = (fac n : Int) := by
  rw [PySem.W.mcPerm_at (by omega), Int.toNat_natCast, fp_self]
theorem chs_le (n k : Nat) : chs n k ≤ 2 ^ n := by
  induction n generalizing k with
  | zero => cases k <;> simp [chs]
  | succ n ih =>
    cases k with
    | zero => rw [chs_zero]; exact Nat.pos_of_ne_zero (by simp)
    | succ k =>
      rw [chs, Nat.pow_succ]
      have h1 := ih k
      have h2 := ih (k + 1)
      omega
theorem fac_le (n : Nat) : n ≤ 256 → fac n ≤ 2 ^ (8 * n) := by
  induction n with
  | zero => intro _; decide
  | succ n ih =>
    intro h
    have h1 := ih (by omega)
    have h2 := Nat.mul_le_mul (show n + 1 ≤ 2 ^ 8 by simpa using h) h1
    rw [← Nat.pow_add] at h2
    rw [fac, show 8 * (n + 1) = 8 + 8 * n by omega]
    exact h2
end CB

namespace CB.Z
open PySem
abbrev TZ : String := "itertools.zip_longest"
theorem zMro : mroOf (.type "itertools.zip_longest") = pure [.type "itertools.zip_longest", .type "object"] := by
  rw [mroOf_type]
  kernel_rfl
theorem zNew : typeLookup (.type "itertools.zip_longest") "__new__" = pure (some (.builtin "itertools.zip_longest.__new__")) := by
  rw [typeLookup_type, builtinLookup_eq_fast]
  kernel_rfl
theorem zSub : isSubtype (.type "itertools.zip_longest") (.type "itertools.zip_longest") = pure true := by
  rw [isSubtype_type]
  kernel_rfl
theorem zSlotInit : Slot "itertools.zip_longest" "__init__" "object.__init__" := by
  refine Slot.of (owner := "object") (n := "__init__") ?_ (by decide +kernel) (by decide +kernel) (by decide +kernel) (.inl (by decide +kernel)) ?_
  · rw [typeLookup_type, builtinLookup_eq_fast]
    kernel_rfl
  · rw [isSubtype_type]
    kernel_rfl
theorem zSlotNext : Slot "itertools.zip_longest" "__next__" "itertools.zip_longest.__next__" := by
  refine Slot.of (owner := "itertools.zip_longest") (n := "__next__") ?_ (by decide +kernel) (by decide +kernel) (by decide +kernel) (by first | exact .inr (by decide +kernel) | exact .inl (by decide +kernel)) zSub
  rw [typeLookup_type, builtinLookup_eq_fast]
  kernel_rfl
theorem zSlotIter : Slot "itertools.zip_longest" "__iter__" "itertools.zip_longest.__iter__" := by
  refine Slot.of (owner := "itertools.zip_longest") (n := "__iter__") ?_ (by decide +kernel) (by decide +kernel) (by decide +kernel) (by first | exact .inr (by decide +kernel) | exact .inl (by decide +kernel)) zSub
  rw [typeLookup_type, builtinLookup_eq_fast]
  kernel_rfl
theorem zCalled : TypeCalled "itertools.zip_longest" "itertools.zip_longest.__new__" "object.__init__" :=
  ⟨by decide +kernel, by decide +kernel, ⟨_, _, zMro⟩, madeBy_type zMro zNew (by decide +kernel), by decide +kernel, zSub, zSlotInit⟩
theorem zTypeCall (a b c : Value) : checkTypeCall "itertools.zip_longest" ⟨[a, b], [(Str.ofString "fillvalue", c)]⟩ = pure () := by kernel_rfl
theorem zNewCall (a b c : Value) : checkBuiltinCall "itertools.zip_longest.__new__" ⟨[.type "itertools.zip_longest", a, b], [(Str.ofString "fillvalue", c)]⟩ = pure () := by kernel_rfl
theorem zInitArgs (o a b c : Value) : argsOk "object.__init__" ⟨[o, a, b], [(Str.ofString "fillvalue", c)]⟩ := by
  unfold argsOk
  kernel_rfl
theorem zEntryNew : entryFor table "itertools.zip_longest.__new__" = some Builtin.«itertools.zip_longest.__new__» := entryFor_of_tree (by kernel_rfl)
theorem zEntryNext : entryFor table "itertools.zip_longest.__next__" = some Builtin.«itertools.zip_longest.__next__» := entryFor_of_tree (by kernel_rfl)
theorem zArgsNext (a : Value) : argsOk "itertools.zip_longest.__next__" ⟨[a], []⟩ := by
  unfold argsOk
  kernel_rfl
theorem zArgsIter (a : Value) : argsOk "itertools.zip_longest.__iter__" ⟨[a], []⟩ := by
  unfold argsOk
  kernel_rfl
/-! ### it is made -/
abbrev ItO (l : Addr) : Obj := { cls := .type "list_iterator", data := .fields #[.ref l, .int 0 0] }
abbrev TuO (a b : Value) : Obj := { cls := .type "tuple", data := .seq #[a, b] }
abbrev ZlO (f0 fill : Value) (run : Int) (TI TO : Addr) : Obj := { cls := .type "itertools.zip_longest", dict := none, data := .fields #[f0, .bool false, fill, rawInt run, .ref TI, .ref TO], slots := #[] }
abbrev zA (h : Heap) (l1 : Addr) : Heap := h.push (ItO l1)
abbrev zB (h : Heap) (l1 l2 : Addr) : Heap := (zA h l1).push (ItO l2)
abbrev zC (h : Heap) (l1 l2 : Addr) : Heap := (zB h l1 l2).push (TuO (.ref h.objs.size) (.ref (zA h l1).objs.size))
abbrev zD (h : Heap) (l1 l2 : Addr) : Heap := (zC h l1 l2).push (TuO .none .none)
abbrev zH (h : Heap) (l1 l2 : Addr) (c : Value) : Heap := (zD h l1 l2).push (ZlO .none c 2 (zB h l1 l2).objs.size (zC h l1 l2).objs.size)
set_option maxHeartbeats 8000000 in
theorem zMeetsNew (l1 l2 : Addr) (xs ys : Array Value) (c : Value) :
    Meets (Builtin.«itertools.zip_longest.__new__» ⟨[.type "itertools.zip_longest", .ref l1, .ref l2], [(Str.ofString "fillvalue", c)]⟩) (fun _ R s => s.heap.IsList l1 xs ∧ s.heap.IsList l2 ys ∧
      R (.ok (.ret (.ref (zD s.heap l1 l2).objs.size))) { s with heap := zH s.heap l1 l2 c }) :=
  .of_wp fun prog w A R s h => by
    obtain ⟨hp, g, d, tk, os⟩ := s
    obtain ⟨hl1, hl2, h⟩ := h
    have hsub : isSubtype (.type "itertools.zip_longest") (.type ("itertools." ++ "zip_longest")) = pure true := by
      rw [show "itertools." ++ "zip_longest" = "itertools.zip_longest" by decide]
      exact zSub
    have q1 : Heap.IsList (Shared.heap ⟨hp, g, d, tk, os⟩) l1 xs := hl1
    have q2 : Heap.IsList (Shared.heap ⟨hp.push (ItO l1), g, d, tk, os⟩) l2 ys := Heap.IsList.push hl2 _
    have e1 : (Str.ofString "fillvalue" == ("fillvalue" : Str)) = true := by decide +kernel
    wp_walk using wpAny_pyIter_list q1, wpAny_pyIter_list q2
    exact ⟨_, rfl, h⟩
end CB.Z

namespace CB.Z
open PySem
abbrev IsZl (h : Heap) (z TI TO : Addr) (f0 c : Value) (run : Int) : Prop := h.get? z = some (ZlO f0 c run TI TO)
abbrev IsTu (h : Heap) (T : Addr) (a b : Value) : Prop := h.get? T = some (TuO a b)
section
variable {prog : Program} {w : World} {A : Around} {E : Value → Shared → Prop} {s : Shared}
theorem zPool {T : Addr} {a b : Value} {Q : Array Value → Shared → Prop} (hT : IsTu s.heap T a b) (h : Q #[a, b] s) : wpAny (model prog w) A (Builtin.Itertools.itPoolItems (.ref T)) Q E s :=
  wpAny_bind (wpAny_seqItems hT rfl (wpAny_pure h))
theorem zInt {z TI TO : Addr} {f0 c : Value} {run : Int} {Q : Int → Shared → Prop} (hz : IsZl s.heap z TI TO f0 c run) (h : Q run s) : wpAny (model prog w) A (Builtin.Itertools.itIntField (.ref z) 3) Q E s :=
  wpAny_bind (wpAny_field hz rfl (x := rawInt run) rfl (wpAny_pure h))
theorem zFree {z TI TO : Addr} {c : Value} {run : Int} {Q : Bool → Shared → Prop} (hz : IsZl s.heap z TI TO .none c run) (h : Q true s) : wpAny (model prog w) A (Builtin.Itertools.itOwnedIsFree (.ref z)) Q E s :=
  wpAny_bind (wpAny_field hz rfl (x := .none) rfl (wpAny_pure h))
theorem zSet0 {z TI TO : Addr} {f0 c : Value} {run : Int} {v : Value} {Q : Unit → Shared → Prop} (hz : IsZl s.heap z TI TO f0 c run) (h : ∀ h', IsZl h' z TI TO v c run → Heap.SameBut z s.heap h' → Q () { s with heap := h' }) :
    wpAny (model prog w) A (setField (.ref z) 0 v) Q E s :=
  wpAny_setField_rec hz (by simp) fun h' z' k' => h h' z' k'
theorem zSet3 {z TI TO : Addr} {f0 c : Value} {run r2 : Int} {Q : Unit → Shared → Prop} (hz : IsZl s.heap z TI TO f0 c run) (h : ∀ h', IsZl h' z TI TO f0 c r2 → Heap.SameBut z s.heap h' → Q () { s with heap := h' }) :
    wpAny (model prog w) A (setField (.ref z) 3 (rawInt r2)) Q E s :=
  wpAny_setField_rec hz (by simp) fun h' z' k' => h h' z' k'
theorem zOut {z TI TO T : Addr} {f0 c : Value} {run : Int} {Q : Unit → Shared → Prop} (hz : IsZl s.heap z TI TO f0 c run)
    (h : ∀ h', IsZl h' z TI TO (rawInt T) c run → Heap.ExtBut z s.heap h' → h'.objs.size = s.heap.objs.size → Q () { s with heap := h' }) : wpAny (model prog w) A (Builtin.Itertools.itOwnedHandOut (.ref z) (.ref T)) Q E s := by
  unfold Builtin.Itertools.itOwnedHandOut
  refine wpAny_bind (zSet0 hz fun h1 z1 k1 => ?_)
  refine wpAny_setField_rec z1 (by simp) fun h2 z2 k2 => ?_
  exact h h2 z2 (fun b o nb e => k2.extBut _ _ nb (k1.extBut _ _ nb e)) (by rw [k2.1, k1.1])
def Gone (h : Heap) (it : Addr) : Prop := ∃ o vs, h.get? it = some o ∧ o.data = .fields vs
theorem zEnd {it l : Addr} {i : Nat} {xs : Array Value} {Q : Option Value → Shared → Prop} (hh : A.handled = none) (hi : s.heap.IsListIter it l i) (hl : s.heap.IsList l xs) (hx : xs[i]? = none)
    (h : ∀ h', Heap.ExtBut it s.heap h' → s.heap.objs.size ≤ h'.objs.size → Gone h' it → Q none { s with heap := h' }) : wpAny (model prog w) A (pyNext (.ref it)) Q E s := by
  obtain ⟨o, ho, hc, hd⟩ := id hi
  obtain ⟨p, hp, _, n, hdl⟩ := hl
  unfold pyNext
  have slot := slot_listiter_next
  refine wpAny_bind (wpAny_attempt (wpAny_callSpecial?_slot (name := Str.ofString "__next__") hi.typeIs slot (wpAny_call_entry slot hi.typeIs entry_listiter_next ?_ (args_listiter_next _))))
  show wpAny _ _ (field (.ref it) 0 >>= _) _ _ _
  refine wpAny_bind (wpAny_field ho hd (x := .ref l) rfl (show wpAny _ _ (if (Value.ref l == Value.none) = true then _ else _) _ _ _ from ?_))
  rw [if_neg (fun z : (Value.ref l == Value.none) = true => Bool.false_ne_true z)]
  refine wpAny_bind (wpAny_field ho hd (x := .int i 0) rfl (show wpAny _ _ (seqItems? (.ref l) >>= _) _ _ _ from ?_))
  refine wpAny_bind (wpAny_seqItems hp hdl ?_)
  simp only [Int.toNat_natCast, hx]
  refine wpAny_bind (wpAny_rule (wpAny_bind (wpAny_setField ho hd (by simp) (show wpAny _ _ (newExc (.type "StopIteration") [] >>= _) _ _ _ from ?_))))
  refine wpAny_bind ?_
  simp only [newExc, newTuple]
  refine wpAny_bind (wpAny_newObj_type ?_ (by size_fits))
  refine wpAny_bind (m := firstArgMember _ _) (wpAny_of_eq (a := Value.none) (by first | rfl | (simp only [firstArgMember] <;> rfl)) ?_)
  refine wpAny_newObj_type ?_ (by size_fits)
  unfold raiseNew
  refine wpAny_bind (wpAny_handled ?_)
  have e : A.in1.handled = none := hh
  rw [e]
  refine wpAny_bind (wpAny_pure (wpAny_throw ?_))
  refine wpAny_bind ?_
  refine wpAny_isInstance (T := "StopIteration") (b := true) ⟨_, Heap.get?_push_size _ rfl, rfl⟩ isSubtype_stop ?_
  refine wpAny_pure (h _ (((Heap.SameBut.update ..).extBut.push _).push _) ?_ ⟨_, _, Heap.get?_push_of_some _ (Heap.get?_push_of_some _ (Heap.get?_update_self _ ho (Obj.isFreed_of_fields (Obj.data_mapFields hd _)))), Obj.data_mapFields hd _⟩)
  rw [Heap.size_push, Heap.size_push]
  exact Nat.le_trans (Nat.le_of_eq (Heap.SameBut.update s.heap it _).1.symm) (Nat.le_add_right _ 2)
/-- a column: its entry, live or not -/
def Col (h : Heap) (e : Value) (it l : Addr) (n i : Nat) : Prop := (e = .ref it ∧ h.IsListIter it l i ∧ i ≤ n) ∨ (e = .none ∧ n < i ∧ Gone h it)
theorem Col.ext {h h' : Heap} {e : Value} {it l : Addr} {n i : Nat} (c : Col h e it l n i) (k : ∀ o, h.get? it = some o → h'.get? it = some o) : Col h' e it l n i := by
  rcases c with ⟨e, q, le⟩ | ⟨e, lt, o, vs, g, d⟩
  · exact .inl ⟨e, q.at k, le⟩
  · exact .inr ⟨e, lt, o, vs, k _ g, d⟩
def lives (n i : Nat) : Int := if i ≤ n then 1 else 0
structure ZA (z TI TO i1 i2 l1 l2 : Addr) : Prop extends ZipApart z TI TO i1 i2 l1 l2 where
  l1TI : l1 ≠ TI
  l2TI : l2 ≠ TI
structure ZCol (h : Heap) (TI i1 i2 l1 l2 : Addr) (n1 j1 n2 j2 : Nat) : Prop where
  ex : ∃ a b, IsTu h TI a b ∧ Col h a i1 l1 n1 j1 ∧ Col h b i2 l2 n2 j2
/-- all but z, the tuples and the iterators stays -/
def Kp (z TI TO i1 i2 : Addr) (h h' : Heap) : Prop := ∀ b o, b ≠ z → b ≠ TI → b ≠ TO → b ≠ i1 → b ≠ i2 → h.get? b = some o → h'.get? b = some o
theorem zItem {z TI TO i1 i2 l1 l2 : Addr} {c : Value} {i : Nat} {xs ys : Array Value} {Q : Value → Shared → Prop} (hh : A.handled = none) (D : ZA z TI TO i1 i2 l1 l2)
    (hz : IsZl s.heap z TI TO .none c (lives xs.size i + lives ys.size i)) (hc : ZCol s.heap TI i1 i2 l1 l2 xs.size i ys.size i) (hT : ∃ a b, IsTu s.heap TO a b)
    (hl1 : s.heap.IsList l1 xs) (hl2 : s.heap.IsList l2 ys) (hi : i < xs.size ∨ i < ys.size)
    (hQ : ∀ h' T, s.heap.objs.size ≤ T → IsZl h' z TI TO (rawInt T) c (lives xs.size (i + 1) + lives ys.size (i + 1)) → ZCol h' TI i1 i2 l1 l2 xs.size (i + 1) ys.size (i + 1) → (∃ a b, IsTu h' TO a b) →
      IsTu h' T (xs.getD i c) (ys.getD i c) → Kp z TI TO i1 i2 s.heap h' → Q (.ref T) { s with heap := h' }) :
    wpAny (model prog w) A (Builtin.«itertools.zip_longest.__next__» ⟨[.ref z], []⟩) (fun fin s' => ∃ v, fin = .done (.ret v) ∧ Q v s') E s := by
  obtain ⟨a0, b0, hTO⟩ := hT
  obtain ⟨⟨a, b, hTI, ca, cb⟩⟩ := hc
  have run0 : ¬ ((lives xs.size i + lives ys.size i == 0) = true) := by
    unfold lives
    rcases hi with h | h
    · rw [if_pos (show i ≤ xs.size by omega)]
      split <;> decide
    · rw [if_pos (show i ≤ ys.size by omega)]
      split <;> decide
  show wpAny _ _ (Builtin.Itertools.itIntField (.ref z) 3 >>= _) _ _ _
  refine wpAny_bind (zInt hz ?_)
  show wpAny _ _ (if (lives xs.size i + lives ys.size i == 0) = true then _ else _) _ _ _
  rw [if_neg run0]
  show wpAny _ _ (field (.ref z) 4 >>= _) _ _ _
  refine wpAny_bind (wpAny_field hz rfl (x := .ref TI) rfl ?_)
  refine wpAny_bind (zPool hTI ?_)
  refine wpAny_bind (zFree hz ?_)
  simp only [if_true]
  refine wpAny_bind (wpAny_rule ?_)
  refine wpAny_bind (wpAny_field hz rfl (x := .ref TO) rfl ?_)
  refine wpAny_bind (zSet0 hz fun h1 hz1 k1 => ?_)
  rw [show List.range (#[a, b] : Array Value).size = [0, 1] from rfl]
  simp only [List.forIn_cons, List.forIn_nil]
  refine wpAny_bind ?_
  refine wpAny_bind ?_
  refine wpAny_bind (wpAny_mono (Q := fun r s' => r = some (xs.getD i c) ∧ ∃ h2, s' = { s with heap := h2 } ∧ IsZl h2 z TI TO .ellipsis c (lives xs.size (i + 1) + lives ys.size i) ∧ ZCol h2 TI i1 i2 l1 l2 xs.size (i + 1) ys.size i ∧ IsTu h2 TO a0 b0 ∧
    Kp z TI TO i1 i2 s.heap h2 ∧ s.heap.objs.size ≤ h2.objs.size) (E := E) (wpAny_onRaise ?d1) ?r1 (fun _ _ x => x))
  case d1 =>
    have hTI1 : IsTu h1 TI a b := k1.extBut _ _ D.TIz hTI
    have hTO1 : IsTu h1 TO a0 b0 := k1.extBut _ _ D.TOz hTO
    have sz1 : h1.objs.size = s.heap.objs.size := k1.1
    show wpAny _ _ (field (.ref z) 4 >>= _) _ _ _
    refine wpAny_bind (wpAny_field hz1 rfl (x := .ref TI) rfl ?_)
    refine wpAny_bind (zPool hTI1 ?_)
    refine wpAny_bind (wpAny_field hz1 rfl (x := c) rfl ?_)
    have cb1 : Col h1 b i2 l2 ys.size i := cb.ext fun o e => k1.extBut _ _ D.i2z e
    rcases ca with ⟨rfl, q, le⟩ | ⟨rfl, lt, gn⟩
    · show wpAny _ _ (if (Value.ref i1 == Value.none) = true then _ else _) _ _ _
      rw [if_neg (fun z : (Value.ref i1 == Value.none) = true => Bool.false_ne_true z)]
      cases hx : xs[i]? with
      | some x =>
        refine wpAny_bind (wpAny_onRaise (wpAny_pyNext_list_item (q.extBut k1.extBut D.i1z) (hl1.extBut k1.extBut D.l1z) hx fun h2 q2 k2 => wpAny_pure ?_))
        have lt : i < xs.size := by
          obtain ⟨h, _⟩ := Array.getElem?_eq_some_iff.mp hx
          exact h
        have e1 : lives xs.size (i + 1) = lives xs.size i := by unfold lives; rw [if_pos (by omega), if_pos (by omega)]
        refine ⟨by rw [Array.getD_eq_getD_getElem?, hx]; rfl, h2, rfl, by rw [e1]; exact k2.extBut _ _ D.i1z.symm hz1, ⟨_, _, k2.extBut _ _ D.TIi1 hTI1, .inl ⟨rfl, q2, lt⟩, ?_⟩, k2.extBut _ _ D.TOi1 hTO1, fun p o n1 n2 n3 n4 n5 e => k2.extBut _ _ n4 (k1.extBut _ _ n1 e), Nat.le_of_eq (sz1.symm.trans k2.1.symm)⟩
        exact cb1.ext fun o e => k2.extBut _ _ D.i12.symm e
      | none =>
        have ex : i = xs.size := by
          have := Array.getElem?_eq_none_iff.mp hx
          omega
        have iy : i < ys.size := by omega
        have e1 : lives xs.size i + lives ys.size i = 2 := by unfold lives; rw [if_pos (by omega), if_pos (by omega)]; rfl
        have e2 : lives xs.size (i + 1) + lives ys.size i = 1 := by unfold lives; rw [if_neg (by omega), if_pos (by omega)]; rfl
        rw [e1] at hz1
        rw [e2]
        refine wpAny_bind (wpAny_onRaise (zEnd hh (q.extBut k1.extBut D.i1z) (hl1.extBut k1.extBut D.l1z) hx fun h2 k2 g2 gone2 => ?_))
        have hz2 := k2 _ _ D.i1z.symm hz1
        have hTI2 : IsTu h2 TI (.ref i1) b := k2 _ _ D.TIi1 hTI1
        show wpAny _ _ (Builtin.Itertools.itPoolItems (.ref TI) >>= _) _ _ _
        refine wpAny_bind (zPool hTI2 ?_)
        show wpAny _ _ (if (Value.ref i1 == Value.none) = true then _ else _) _ _ _
        rw [if_neg (fun z : (Value.ref i1 == Value.none) = true => Bool.false_ne_true z)]
        refine wpAny_bind (zInt hz2 ?_)
        refine wpAny_bind (zSet3 hz2 fun h3 hz3 k3 => ?_)
        have hTI3 : IsTu h3 TI (.ref i1) b := k3.extBut _ _ D.TIz hTI2
        show wpAny _ _ (rule _ >>= _) _ _ _
        refine wpAny_bind (wpAny_rule ?_)
        refine wpAny_bind (wpAny_updateSeq_pair hTI3 fun h4 hTI4 k4 => ?_)
        refine wpAny_bind (wpAny_letGo (wpAny_pure ?_))
        have kp : ∀ p o, p ≠ z → p ≠ TI → p ≠ TO → p ≠ i1 → p ≠ i2 → h1.get? p = some o → h4.get? p = some o := fun p o n1 n2 n3 n4 n5 e => k4.extBut _ _ n2 (k3.extBut _ _ n1 (k2 _ _ n4 e))
        refine ⟨by rw [Array.getD_eq_getD_getElem?, hx]; rfl, h4, rfl, k4.extBut _ _ D.TIz.symm hz3, ⟨_, _, hTI4, .inr ⟨rfl, by omega, ?_⟩, ?_⟩, k4.extBut _ _ D.TITO.symm (k3.extBut _ _ D.TOz (k2 _ _ D.TOi1 hTO1)),
          fun p o n1 n2 n3 n4 n5 e => kp p o n1 n2 n3 n4 n5 (k1.extBut _ _ n1 e), ?_⟩
        · obtain ⟨o, vs, g, d⟩ := gone2
          exact ⟨o, vs, k4.extBut _ _ D.TIi1.symm (k3.extBut _ _ D.i1z g), d⟩
        · exact cb1.ext fun o e => k4.extBut _ _ D.TIi2.symm (k3.extBut _ _ D.i2z (k2 _ _ D.i12.symm e))
        · have g3 : h3.objs.size = h2.objs.size := k3.1
          have g4 : h4.objs.size = h3.objs.size := k4.1
          have g5 : h1.objs.size ≤ h2.objs.size := g2
          omega
    · show wpAny _ _ (if (Value.none == Value.none) = true then _ else _) _ _ _
      rw [if_pos (show (Value.none == Value.none) = true by rfl)]
      have e1 : lives xs.size (i + 1) = lives xs.size i := by unfold lives; rw [if_neg (by omega), if_neg (by omega)]
      refine wpAny_pure ⟨?_, h1, rfl, by rw [e1]; exact hz1, ⟨_, _, hTI1, .inr ⟨rfl, by omega, (by obtain ⟨o, vs, g, d⟩ := gn; exact ⟨o, vs, k1.extBut _ _ D.i1z g, d⟩)⟩, cb1⟩, hTO1, fun p o n1 n2 n3 n4 n5 e => k1.extBut _ _ n1 e, Nat.le_of_eq sz1.symm⟩
      rw [Array.getD_eq_getD_getElem?, Array.getElem?_eq_none_iff.mpr (by omega)]
      rfl
  rintro r _ ⟨rfl, h2, rfl, hz2, hc2, hTO2, kp2, sz2⟩
  show wpAny _ _ (Builtin.Itertools.itPoolItems (.ref TO) >>= _) _ _ _
  refine wpAny_bind (zPool hTO2 ?_)
  refine wpAny_bind (wpAny_updateSeq_pair hTO2 fun h3 hTO3 k3 => ?_)
  refine wpAny_bind (wpAny_letGo (wpAny_pure ?_))
  replace hTO3 : IsTu h3 TO (xs.getD i c) b0 := hTO3
  have hz3 := k3.extBut _ _ D.TOz.symm hz2
  obtain ⟨⟨a2, b2, hTI2, ca2, cb2⟩⟩ := hc2
  have hTI3 : IsTu h3 TI a2 b2 := k3.extBut _ _ D.TITO hTI2
  have ca3 : Col h3 a2 i1 l1 xs.size (i + 1) := ca2.ext fun o e => k3.extBut _ _ D.TOi1.symm e
  have kp3 : Kp z TI TO i1 i2 s.heap h3 := fun p o n1 n2 n3 n4 n5 e => k3.extBut _ _ n3 (kp2 p o n1 n2 n3 n4 n5 e)
  have sz3 : s.heap.objs.size ≤ h3.objs.size := Nat.le_trans sz2 (Nat.le_of_eq k3.1.symm)
  have hl23 : h3.IsList l2 ys := hl2.at fun o e => kp3 _ _ D.l2z D.l2TI D.l2TO D.l2i1 D.l2i2 e
  show wpAny _ _ (_ >>= _) _ _ _
  refine wpAny_bind ?_
  refine wpAny_bind (wpAny_mono (Q := fun r s' => r = some (ys.getD i c) ∧ ∃ h4, s' = { s with heap := h4 } ∧ IsZl h4 z TI TO .ellipsis c (lives xs.size (i + 1) + lives ys.size (i + 1)) ∧ ZCol h4 TI i1 i2 l1 l2 xs.size (i + 1) ys.size (i + 1) ∧ IsTu h4 TO (xs.getD i c) b0 ∧
    Kp z TI TO i1 i2 s.heap h4 ∧ s.heap.objs.size ≤ h4.objs.size) (E := E) (wpAny_onRaise ?d2) ?r2 (fun _ _ x => x))
  case d2 =>
    show wpAny _ _ (field (.ref z) 4 >>= _) _ _ _
    refine wpAny_bind (wpAny_field hz3 rfl (x := .ref TI) rfl ?_)
    refine wpAny_bind (zPool hTI3 ?_)
    refine wpAny_bind (wpAny_field hz3 rfl (x := c) rfl ?_)
    rcases cb2 with ⟨rfl, q, le⟩ | ⟨rfl, lt, gn⟩
    · show wpAny _ _ (if (Value.ref i2 == Value.none) = true then _ else _) _ _ _
      rw [if_neg (fun z : (Value.ref i2 == Value.none) = true => Bool.false_ne_true z)]
      cases hy : ys[i]? with
      | some y =>
        refine wpAny_bind (wpAny_onRaise (wpAny_pyNext_list_item (q.extBut k3.extBut D.TOi2.symm) hl23 hy fun h4 q4 k4 => wpAny_pure ?_))
        have lt : i < ys.size := by
          obtain ⟨h, _⟩ := Array.getElem?_eq_some_iff.mp hy
          exact h
        have e1 : lives ys.size (i + 1) = lives ys.size i := by unfold lives; rw [if_pos (by omega), if_pos (by omega)]
        refine ⟨by rw [Array.getD_eq_getD_getElem?, hy]; rfl, h4, rfl, by rw [e1]; exact k4.extBut _ _ D.i2z.symm hz3, ⟨_, _, k4.extBut _ _ D.TIi2 hTI3, ?_, .inl ⟨rfl, q4, lt⟩⟩, k4.extBut _ _ D.TOi2 hTO3, fun p o n1 n2 n3 n4 n5 e => k4.extBut _ _ n5 (kp3 p o n1 n2 n3 n4 n5 e), Nat.le_trans sz3 (Nat.le_of_eq k4.1.symm)⟩
        exact ca3.ext fun o e => k4.extBut _ _ D.i12 e
      | none =>
        have ex : i = ys.size := by
          have := Array.getElem?_eq_none_iff.mp hy
          omega
        have ix : i < xs.size := by omega
        have e1 : lives xs.size (i + 1) + lives ys.size i = 2 := by unfold lives; rw [if_pos (by omega), if_pos (by omega)]; rfl
        have e2 : lives xs.size (i + 1) + lives ys.size (i + 1) = 1 := by unfold lives; rw [if_pos (by omega), if_neg (by omega)]; rfl
        rw [e1] at hz3
        rw [e2]
        refine wpAny_bind (wpAny_onRaise (zEnd hh (q.extBut k3.extBut D.TOi2.symm) hl23 hy fun h4 k4 g4 gone4 => ?_))
        have hz4 := k4 _ _ D.i2z.symm hz3
        have hTI4 : IsTu h4 TI a2 (.ref i2) := k4 _ _ D.TIi2 hTI3
        show wpAny _ _ (Builtin.Itertools.itPoolItems (.ref TI) >>= _) _ _ _
        refine wpAny_bind (zPool hTI4 ?_)
        show wpAny _ _ (if (Value.ref i2 == Value.none) = true then _ else _) _ _ _
        rw [if_neg (fun z : (Value.ref i2 == Value.none) = true => Bool.false_ne_true z)]
        refine wpAny_bind (zInt hz4 ?_)
        refine wpAny_bind (zSet3 hz4 fun h5 hz5 k5 => ?_)
        have hTI5 : IsTu h5 TI a2 (.ref i2) := k5.extBut _ _ D.TIz hTI4
        show wpAny _ _ (rule _ >>= _) _ _ _
        refine wpAny_bind (wpAny_rule ?_)
        refine wpAny_bind (wpAny_updateSeq_pair hTI5 fun h6 hTI6 k6 => ?_)
        refine wpAny_bind (wpAny_letGo (wpAny_pure ?_))
        refine ⟨by rw [Array.getD_eq_getD_getElem?, hy]; rfl, h6, rfl, k6.extBut _ _ D.TIz.symm hz5, ⟨_, _, hTI6, ?_, .inr ⟨rfl, by omega, ?_⟩⟩, k6.extBut _ _ D.TITO.symm (k5.extBut _ _ D.TOz (k4 _ _ D.TOi2 hTO3)),
          fun p o n1 n2 n3 n4 n5 e => k6.extBut _ _ n2 (k5.extBut _ _ n1 (k4 _ _ n5 (kp3 p o n1 n2 n3 n4 n5 e))), ?_⟩
        · exact ca3.ext fun o e => k6.extBut _ _ D.TIi1.symm (k5.extBut _ _ D.i1z (k4 _ _ D.i12 e))
        · obtain ⟨o, vs, g, d⟩ := gone4
          exact ⟨o, vs, k6.extBut _ _ D.TIi2.symm (k5.extBut _ _ D.i2z g), d⟩
        · have g5 : h5.objs.size = h4.objs.size := k5.1
          have g6 : h6.objs.size = h5.objs.size := k6.1
          have g7 : h3.objs.size ≤ h4.objs.size := g4
          omega
    · show wpAny _ _ (if (Value.none == Value.none) = true then _ else _) _ _ _
      rw [if_pos (show (Value.none == Value.none) = true by rfl)]
      have e1 : lives ys.size (i + 1) = lives ys.size i := by unfold lives; rw [if_neg (by omega), if_neg (by omega)]
      refine wpAny_pure ⟨?_, h3, rfl, by rw [e1]; exact hz3, ⟨_, _, hTI3, ca3, .inr ⟨rfl, by omega, (by obtain ⟨o, vs, g, d⟩ := gn; exact ⟨o, vs, k3.extBut _ _ D.TOi2.symm g, d⟩)⟩⟩, hTO3, kp3, sz3⟩
      rw [Array.getD_eq_getD_getElem?, Array.getElem?_eq_none_iff.mpr (by omega)]
      rfl
  rintro r _ ⟨rfl, h4, rfl, hz4, hc4, hTO4, kp4, sz4⟩
  show wpAny _ _ (Builtin.Itertools.itPoolItems (.ref TO) >>= _) _ _ _
  refine wpAny_bind (zPool hTO4 ?_)
  refine wpAny_bind (wpAny_updateSeq_pair hTO4 fun h5 hTO5 k5 => ?_)
  refine wpAny_bind (wpAny_letGo (wpAny_pure (wpAny_pure ?_)))
  replace hTO5 : IsTu h5 TO (xs.getD i c) (ys.getD i c) := hTO5
  have hz5 := k5.extBut _ _ D.TOz.symm hz4
  refine wpAny_bind (zPool hTO5 ?_)
  refine wpAny_bind (wpAny_newTuple ?_)
  have hz6 : IsZl (h5.push (TuO (xs.getD i c) (ys.getD i c))) z TI TO .ellipsis c (lives xs.size (i + 1) + lives ys.size (i + 1)) := Heap.get?_push_of_some _ hz5
  refine wpAny_bind (zOut (T := h5.objs.size) hz6 fun h7 hz7 k7 g7 => ?_)
  have kz : h5.objs.size ≠ z := Nat.ne_of_gt (Heap.lt_size hz5)
  have up : ∀ p o, p ≠ z → h5.get? p = some o → h7.get? p = some o := fun p o n e => k7 _ _ n (Heap.get?_push_of_some _ e)
  refine wpAny_pure ⟨_, rfl, hQ h7 h5.objs.size (Nat.le_trans sz4 (Nat.le_of_eq k5.1.symm)) hz7 ?_ ⟨_, _, up _ _ D.TOz hTO5⟩ (k7 _ _ kz (Heap.get?_push_size _ rfl)) fun p o n1 n2 n3 n4 n5 e => up _ _ n1 (k5.extBut _ _ n3 (kp4 p o n1 n2 n3 n4 n5 e))⟩
  obtain ⟨⟨a4, b4, hTI5, ca4, cb4⟩⟩ := hc4
  refine ⟨_, _, up _ _ D.TIz (k5.extBut _ _ D.TITO hTI5), ?_, ?_⟩
  · exact ca4.ext fun o e => up _ _ D.i1z (k5.extBut _ _ D.TOi1.symm e)
  · exact cb4.ext fun o e => up _ _ D.i2z (k5.extBut _ _ D.TOi2.symm e)
theorem zRaise {α : Type} {Q : α → Shared → Prop} (hh : A.handled = none) (h : ∀ h' e, (∀ b o, s.heap.get? b = some o → h'.get? b = some o) → (∃ o, h'.get? e = some o ∧ o.cls = .type "StopIteration") → E (.ref e) { s with heap := h' }) :
    wpAny (model prog w) A (Builtin.Itertools.itStop : Sem α) Q E s := by
  unfold Builtin.Itertools.itStop
  refine wpAny_bind ?_
  simp only [newExc, newTuple]
  refine wpAny_bind (wpAny_newObj_type ?_ (by size_fits))
  refine wpAny_bind (m := firstArgMember _ _) (wpAny_of_eq (a := Value.none) (by first | rfl | (simp only [firstArgMember] <;> rfl)) ?_)
  refine wpAny_newObj_type ?_ (by size_fits)
  unfold raiseNew
  refine wpAny_bind (wpAny_handled ?_)
  rw [hh]
  refine wpAny_bind (wpAny_pure (wpAny_throw ?_))
  exact h _ _ (fun b o e => Heap.get?_push_of_some _ (Heap.get?_push_of_some _ e)) ⟨_, Heap.get?_push_size _ rfl, rfl⟩
theorem zLast {z TI TO i1 i2 l1 l2 : Addr} {c : Value} {i : Nat} {xs ys : Array Value} {Q : Fin → Shared → Prop} (hh : A.handled = none) (D : ZA z TI TO i1 i2 l1 l2)
    (hz : IsZl s.heap z TI TO .none c (lives xs.size i + lives ys.size i)) (hc : ZCol s.heap TI i1 i2 l1 l2 xs.size i ys.size i) (hT : ∃ a b, IsTu s.heap TO a b)
    (hl1 : s.heap.IsList l1 xs) (hl2 : s.heap.IsList l2 ys) (hi : xs.size ≤ i ∧ ys.size ≤ i) (hj : i ≤ xs.size ∨ i ≤ ys.size)
    (hE : ∀ h' e, Kp z TI TO i1 i2 s.heap h' → (∃ o, h'.get? e = some o ∧ o.cls = .type "StopIteration") → E (.ref e) { s with heap := h' }) :
    wpAny (model prog w) A (Builtin.«itertools.zip_longest.__next__» ⟨[.ref z], []⟩) Q E s := by
  obtain ⟨a0, b0, hTO⟩ := hT
  obtain ⟨⟨a, b, hTI, ca, cb⟩⟩ := hc
  have run0 : ¬ ((lives xs.size i + lives ys.size i == 0) = true) := by
    unfold lives
    rcases hj with h | h
    · rw [if_pos (show i ≤ xs.size by omega)]
      split <;> decide
    · rw [if_pos (show i ≤ ys.size by omega)]
      split <;> decide
  show wpAny _ _ (Builtin.Itertools.itIntField (.ref z) 3 >>= _) _ _ _
  refine wpAny_bind (zInt hz ?_)
  show wpAny _ _ (if (lives xs.size i + lives ys.size i == 0) = true then _ else _) _ _ _
  rw [if_neg run0]
  show wpAny _ _ (field (.ref z) 4 >>= _) _ _ _
  refine wpAny_bind (wpAny_field hz rfl (x := .ref TI) rfl ?_)
  refine wpAny_bind (zPool hTI ?_)
  refine wpAny_bind (zFree hz ?_)
  simp only [if_true]
  refine wpAny_bind (wpAny_rule ?_)
  refine wpAny_bind (wpAny_field hz rfl (x := .ref TO) rfl ?_)
  refine wpAny_bind (zSet0 hz fun h1 hz1 k1 => ?_)
  rw [show List.range (#[a, b] : Array Value).size = [0, 1] from rfl]
  simp only [List.forIn_cons, List.forIn_nil]
  refine wpAny_bind ?_
  refine wpAny_bind ?_
  have hTI1 : IsTu h1 TI a b := k1.extBut _ _ D.TIz hTI
  have hTO1 : IsTu h1 TO a0 b0 := k1.extBut _ _ D.TOz hTO
  have kp1 : Kp z TI TO i1 i2 s.heap h1 := fun p o n1 n2 n3 n4 n5 e => k1.extBut _ _ n1 e
  have fin : ∀ {β : Type} {Q : β → Shared → Prop} (h2 : Heap) (run : Int), IsZl h2 z TI TO .ellipsis c run → Kp z TI TO i1 i2 s.heap h2 → ∀ f : Unit → Sem β,
      wpAny (model prog w) A (setField (.ref z) 0 Value.none >>= fun _ => (Builtin.Itertools.itStop : Sem Unit) >>= f) Q E { s with heap := h2 } := fun h2 run hz2 kp2 f => by
    refine wpAny_bind (zSet0 hz2 fun h3 hz3 k3 => ?_)
    exact wpAny_bind (zRaise hh fun h4 e k4 he => hE h4 e (fun p o n1 n2 n3 n4 n5 e => k4 _ _ (k3.extBut _ _ n1 (kp2 p o n1 n2 n3 n4 n5 e))) he)
  refine wpAny_bind (wpAny_mono (Q := fun r s' => (r = none ∧ ∃ h2, s' = { s with heap := h2 } ∧ IsZl h2 z TI TO .ellipsis c 0 ∧ Kp z TI TO i1 i2 s.heap h2) ∨ (r = some c ∧ ∃ h2, s' = { s with heap := h2 } ∧ IsZl h2 z TI TO .ellipsis c 1 ∧ (∃ a', IsTu h2 TI a' (.ref i2)) ∧
    h2.IsListIter i2 l2 i ∧ IsTu h2 TO a0 b0 ∧ Kp z TI TO i1 i2 s.heap h2)) (E := E) (wpAny_onRaise ?d1) ?r1 (fun _ _ x => x))
  case d1 =>
    show wpAny _ _ (field (.ref z) 4 >>= _) _ _ _
    refine wpAny_bind (wpAny_field hz1 rfl (x := .ref TI) rfl ?_)
    refine wpAny_bind (zPool hTI1 ?_)
    refine wpAny_bind (wpAny_field hz1 rfl (x := c) rfl ?_)
    rcases ca with ⟨rfl, q, le⟩ | ⟨rfl, lt, gn⟩
    · show wpAny _ _ (if (Value.ref i1 == Value.none) = true then _ else _) _ _ _
      rw [if_neg (fun z : (Value.ref i1 == Value.none) = true => Bool.false_ne_true z)]
      refine wpAny_bind (wpAny_onRaise (zEnd hh (q.extBut k1.extBut D.i1z) (hl1.extBut k1.extBut D.l1z) (Array.getElem?_eq_none_iff.mpr (by omega)) fun h2 k2 g2 _ => ?_))
      have hz2 := k2 _ _ D.i1z.symm hz1
      have hTI2 : IsTu h2 TI (.ref i1) b := k2 _ _ D.TIi1 hTI1
      show wpAny _ _ (Builtin.Itertools.itPoolItems (.ref TI) >>= _) _ _ _
      refine wpAny_bind (zPool hTI2 ?_)
      show wpAny _ _ (if (Value.ref i1 == Value.none) = true then _ else _) _ _ _
      rw [if_neg (fun z : (Value.ref i1 == Value.none) = true => Bool.false_ne_true z)]
      refine wpAny_bind (zInt hz2 ?_)
      rcases cb with ⟨rfl, r, le2⟩ | ⟨rfl, lt2, _⟩
      · have e1 : lives xs.size i + lives ys.size i = 2 := by unfold lives; rw [if_pos (by omega), if_pos (by omega)]; rfl
        rw [e1] at hz2 ⊢
        refine wpAny_bind (zSet3 hz2 fun h3 hz3 k3 => ?_)
        have hTI3 : IsTu h3 TI (.ref i1) (.ref i2) := k3.extBut _ _ D.TIz hTI2
        show wpAny _ _ (rule _ >>= _) _ _ _
        refine wpAny_bind (wpAny_rule ?_)
        refine wpAny_bind (wpAny_updateSeq_pair hTI3 fun h4 hTI4 k4 => ?_)
        refine wpAny_bind (wpAny_letGo (wpAny_pure ?_))
        exact .inr ⟨rfl, h4, rfl, k4.extBut _ _ D.TIz.symm hz3, ⟨_, hTI4⟩, (((r.extBut k1.extBut D.i2z).at fun o e => k2 _ _ D.i12.symm e).extBut k3.extBut D.i2z).extBut k4.extBut D.TIi2.symm,
          k4.extBut _ _ D.TITO.symm (k3.extBut _ _ D.TOz (k2 _ _ D.TOi1 hTO1)), fun p o n1 n2 n3 n4 n5 e => k4.extBut _ _ n2 (k3.extBut _ _ n1 (k2 _ _ n4 (kp1 p o n1 n2 n3 n4 n5 e)))⟩
      · have e1 : lives xs.size i + lives ys.size i = 1 := by unfold lives; rw [if_pos (by omega), if_neg (by omega)]; rfl
        rw [e1] at hz2 ⊢
        refine wpAny_bind (zSet3 hz2 fun h3 hz3 k3 => ?_)
        exact wpAny_pure (.inl ⟨rfl, h3, rfl, hz3, fun p o n1 n2 n3 n4 n5 e => k3.extBut _ _ n1 (k2 _ _ n4 (kp1 p o n1 n2 n3 n4 n5 e))⟩)
    · show wpAny _ _ (if (Value.none == Value.none) = true then _ else _) _ _ _
      rw [if_pos (show (Value.none == Value.none) = true by rfl)]
      rcases cb with ⟨rfl, r, le2⟩ | ⟨rfl, lt2, _⟩
      · have e1 : lives xs.size i + lives ys.size i = 1 := by unfold lives; rw [if_neg (by omega), if_pos (by omega)]; rfl
        rw [e1] at hz1
        exact wpAny_pure (.inr ⟨rfl, h1, rfl, hz1, ⟨_, hTI1⟩, r.extBut k1.extBut D.i2z, hTO1, kp1⟩)
      · omega
  rintro r _ (⟨rfl, h2, rfl, hz2, kp2⟩ | ⟨rfl, h2, rfl, hz2, ⟨a', hTI2⟩, q2, hTO2, kp2⟩)
  · exact fin h2 0 hz2 kp2 _
  show wpAny _ _ (Builtin.Itertools.itPoolItems (.ref TO) >>= _) _ _ _
  refine wpAny_bind (zPool hTO2 ?_)
  refine wpAny_bind (wpAny_updateSeq_pair hTO2 fun h3 hTO3 k3 => ?_)
  refine wpAny_bind (wpAny_letGo (wpAny_pure ?_))
  have hz3 := k3.extBut _ _ D.TOz.symm hz2
  have hTI3 : IsTu h3 TI a' (.ref i2) := k3.extBut _ _ D.TITO hTI2
  have kp3 : Kp z TI TO i1 i2 s.heap h3 := fun p o n1 n2 n3 n4 n5 e => k3.extBut _ _ n3 (kp2 p o n1 n2 n3 n4 n5 e)
  have hl23 : h3.IsList l2 ys := hl2.at fun o e => kp3 _ _ D.l2z D.l2TI D.l2TO D.l2i1 D.l2i2 e
  show wpAny _ _ (_ >>= _) _ _ _
  refine wpAny_bind ?_
  refine wpAny_bind (wpAny_mono (Q := fun r s' => r = none ∧ ∃ h2, s' = { s with heap := h2 } ∧ IsZl h2 z TI TO .ellipsis c 0 ∧ Kp z TI TO i1 i2 s.heap h2) (E := E) (wpAny_onRaise ?d2) ?r2 (fun _ _ x => x))
  case d2 =>
    show wpAny _ _ (field (.ref z) 4 >>= _) _ _ _
    refine wpAny_bind (wpAny_field hz3 rfl (x := .ref TI) rfl ?_)
    refine wpAny_bind (zPool hTI3 ?_)
    refine wpAny_bind (wpAny_field hz3 rfl (x := c) rfl ?_)
    show wpAny _ _ (if (Value.ref i2 == Value.none) = true then _ else _) _ _ _
    rw [if_neg (fun z : (Value.ref i2 == Value.none) = true => Bool.false_ne_true z)]
    refine wpAny_bind (wpAny_onRaise (zEnd hh (q2.extBut k3.extBut D.TOi2.symm) hl23 (Array.getElem?_eq_none_iff.mpr (by omega)) fun h4 k4 g4 _ => ?_))
    have hz4 := k4 _ _ D.i2z.symm hz3
    have hTI4 : IsTu h4 TI a' (.ref i2) := k4 _ _ D.TIi2 hTI3
    show wpAny _ _ (Builtin.Itertools.itPoolItems (.ref TI) >>= _) _ _ _
    refine wpAny_bind (zPool hTI4 ?_)
    show wpAny _ _ (if (Value.ref i2 == Value.none) = true then _ else _) _ _ _
    rw [if_neg (fun z : (Value.ref i2 == Value.none) = true => Bool.false_ne_true z)]
    refine wpAny_bind (zInt hz4 ?_)
    refine wpAny_bind (zSet3 hz4 fun h5 hz5 k5 => ?_)
    exact wpAny_pure ⟨rfl, h5, rfl, hz5, fun p o n1 n2 n3 n4 n5 e => k5.extBut _ _ n1 (k4 _ _ n5 (kp3 p o n1 n2 n3 n4 n5 e))⟩
  rintro r _ ⟨rfl, h4, rfl, hz4, kp4⟩
  exact fin h4 0 hz4 kp4 _
end
end CB.Z

namespace CB.Z
open PySem PySem.Spec PyProof.Rows L2
theorem zEntryIter : entryFor table "itertools.zip_longest.__iter__" = some Builtin.«dict_keyiterator.__iter__» :=
  entryFor_alias (id' := "dict_keyiterator.__iter__") (by kernel_rfl) (by first | decide +kernel | (unfold String.splitOn; simp +decide [String.splitOnAux])) (by decide +kernel) (by kernel_rfl)
section
variable {prog : Program} {w : World} {A : Around} {E : Value → Shared → Prop} {s : Shared}
theorem zNextItem {z TI TO i1 i2 l1 l2 : Addr} {c : Value} {i : Nat} {xs ys : Array Value} {Q : Option Value → Shared → Prop} (hh : A.handled = none) (D : ZA z TI TO i1 i2 l1 l2)
    (hz : IsZl s.heap z TI TO .none c (lives xs.size i + lives ys.size i)) (hc : ZCol s.heap TI i1 i2 l1 l2 xs.size i ys.size i) (hT : ∃ a b, IsTu s.heap TO a b)
    (hl1 : s.heap.IsList l1 xs) (hl2 : s.heap.IsList l2 ys) (hi : i < xs.size ∨ i < ys.size)
    (hQ : ∀ h' T, s.heap.objs.size ≤ T → IsZl h' z TI TO (rawInt T) c (lives xs.size (i + 1) + lives ys.size (i + 1)) → ZCol h' TI i1 i2 l1 l2 xs.size (i + 1) ys.size (i + 1) → (∃ a b, IsTu h' TO a b) →
      IsTu h' T (xs.getD i c) (ys.getD i c) → Kp z TI TO i1 i2 s.heap h' → Q (some (.ref T)) { s with heap := h' }) : wpAny (model prog w) A (pyNext (.ref z)) Q E s := by
  have ty : s.TypeIs (.ref z) "itertools.zip_longest" := ⟨_, hz, rfl⟩
  unfold pyNext
  refine wpAny_bind (wpAny_attempt (wpAny_callSpecial?_slot (name := Str.ofString "__next__") ty zSlotNext (wpAny_call_entry zSlotNext ty zEntryNext ?_ (zArgsNext _))))
  exact zItem hh D hz hc hT hl1 hl2 hi fun h' T g a1 a2 a3 a4 a5 => wpAny_pure (hQ h' T g a1 a2 a3 a4 a5)
theorem zNextLast {z TI TO i1 i2 l1 l2 : Addr} {c : Value} {i : Nat} {xs ys : Array Value} {Q : Option Value → Shared → Prop} (hh : A.handled = none) (D : ZA z TI TO i1 i2 l1 l2)
    (hz : IsZl s.heap z TI TO .none c (lives xs.size i + lives ys.size i)) (hc : ZCol s.heap TI i1 i2 l1 l2 xs.size i ys.size i) (hT : ∃ a b, IsTu s.heap TO a b)
    (hl1 : s.heap.IsList l1 xs) (hl2 : s.heap.IsList l2 ys) (hi : xs.size ≤ i ∧ ys.size ≤ i) (hj : i ≤ xs.size ∨ i ≤ ys.size)
    (hQ : ∀ h', Kp z TI TO i1 i2 s.heap h' → Q none { s with heap := h' }) : wpAny (model prog w) A (pyNext (.ref z)) Q E s := by
  have ty : s.TypeIs (.ref z) "itertools.zip_longest" := ⟨_, hz, rfl⟩
  unfold pyNext
  refine wpAny_bind (wpAny_attempt (wpAny_callSpecial?_slot (name := Str.ofString "__next__") ty zSlotNext (wpAny_call_entry zSlotNext ty zEntryNext ?_ (zArgsNext _))))
  refine zLast hh D hz hc hT hl1 hl2 hi hj fun h' e k he => ?_
  obtain ⟨o, ho, hc⟩ := he
  refine wpAny_bind (wpAny_isInstance (T := "StopIteration") (b := true) ⟨o, ho, hc⟩ isSubtype_stop ?_)
  exact wpAny_pure (hQ _ k)
theorem zGo {elts : List Expr} {x1 : Nat} {pos : Pos} {z TI TO T : Addr} {c : Value} {run : Int} {Q : Unit → Shared → Prop} (hz : IsZl s.heap z TI TO (rawInt T) c run)
    (hQ : ∀ h', IsZl h' z TI TO .none c run → Heap.SameBut z s.heap h' → Q () { s with heap := h' }) : wpAny (model prog w) A (letOwnedTupleGo (.Tuple elts x1 pos) (.ref z) (.ref T)) Q E s := by
  unfold letOwnedTupleGo
  refine wpAny_bind (wpAny_load hz ?_)
  show wpAny _ _ (if (_ && (#[rawInt T, .bool false, c, rawInt run, .ref TI, .ref TO] : Array Value)[0]? == some (rawInt T)) = true then _ else _) Q E s
  rw [if_pos (by simp)]
  refine wpAny_bind (wpAny_rule ?_)
  exact zSet0 hz hQ
theorem zIter {z TI TO : Addr} {f0 c : Value} {run : Int} {Q : Value → Shared → Prop} (hz : IsZl s.heap z TI TO f0 c run) (h : Q (.ref z) s) : wpAny (model prog w) A (pyIter (.ref z)) Q E s := by
  have ty : s.TypeIs (.ref z) "itertools.zip_longest" := ⟨_, hz, rfl⟩
  refine wpAny_pyIter_slot ty zSlotIter (wpAny_call_entry zSlotIter ty zEntryIter ?_ (zArgsIter _))
  exact wpAny_pure ⟨_, rfl, "itertools.zip_longest", _, ty, zSlotNext.lookup, h⟩
theorem zCall {l1 l2 : Addr} {xs ys : Array Value} {c : Value} {Q : Value → Shared → Prop} (hl1 : s.heap.IsList l1 xs) (hl2 : s.heap.IsList l2 ys)
    (h : ∀ h', IsZl h' (s.heap.objs.size + 4) (s.heap.objs.size + 2) (s.heap.objs.size + 3) .none c 2 → IsTu h' (s.heap.objs.size + 2) (.ref s.heap.objs.size) (.ref (s.heap.objs.size + 1)) →
      IsTu h' (s.heap.objs.size + 3) .none .none → h'.IsListIter s.heap.objs.size l1 0 → h'.IsListIter (s.heap.objs.size + 1) l2 0 → (∀ b o, s.heap.get? b = some o → h'.get? b = some o) → Q (.ref (s.heap.objs.size + 4)) { s with heap := h' }) :
    wpAny (model prog w) A (call (.type "itertools.zip_longest") [.ref l1, .ref l2] [(Str.ofString "fillvalue", c)]) Q E s := by
  refine callType_newKw zCalled (by decide) (zTypeCall _ _ _) (zNewCall _ _ _) (fun obj => zInitArgs obj _ _ _) zEntryNew (zMeetsNew l1 l2 xs ys c) ⟨hl1, hl2, ?_⟩
  generalize hn : s.heap.objs.size = n at h ⊢
  have a1 : (zA s.heap l1).objs.size = n + 1 := by rw [Heap.size_push, hn]
  have a2 : (zB s.heap l1 l2).objs.size = n + 2 := by rw [Heap.size_push, a1]
  have a3 : (zC s.heap l1 l2).objs.size = n + 3 := by rw [Heap.size_push, a2]
  have a4 : (zD s.heap l1 l2).objs.size = n + 4 := by rw [Heap.size_push, a3]
  have b1 := Heap.get?_push_size s.heap (o := ItO l1) rfl
  have b2 := Heap.get?_push_size (zA s.heap l1) (o := ItO l2) rfl
  have b3 := Heap.get?_push_size (zB s.heap l1 l2) (o := TuO (.ref s.heap.objs.size) (.ref (zA s.heap l1).objs.size)) rfl
  have b4 := Heap.get?_push_size (zC s.heap l1 l2) (o := TuO .none .none) rfl
  have b5 := Heap.get?_push_size (zD s.heap l1 l2) (o := ZlO .none c 2 (zB s.heap l1 l2).objs.size (zC s.heap l1 l2).objs.size) rfl
  have up : ∀ b o, s.heap.get? b = some o → (zH s.heap l1 l2 c).get? b = some o := fun b o e => Heap.get?_push_of_some _ (Heap.get?_push_of_some _ (Heap.get?_push_of_some _ (Heap.get?_push_of_some _ (Heap.get?_push_of_some _ e))))
  have u1 : (zH s.heap l1 l2 c).get? s.heap.objs.size = some _ := Heap.get?_push_of_some _ (Heap.get?_push_of_some _ (Heap.get?_push_of_some _ (Heap.get?_push_of_some _ b1)))
  have u2 : (zH s.heap l1 l2 c).get? (zA s.heap l1).objs.size = some _ := Heap.get?_push_of_some _ (Heap.get?_push_of_some _ (Heap.get?_push_of_some _ b2))
  have u3 : (zH s.heap l1 l2 c).get? (zB s.heap l1 l2).objs.size = some _ := Heap.get?_push_of_some _ (Heap.get?_push_of_some _ b3)
  have u4 : (zH s.heap l1 l2 c).get? (zC s.heap l1 l2).objs.size = some _ := Heap.get?_push_of_some _ b4
  have u5 : (zH s.heap l1 l2 c).get? (zD s.heap l1 l2).objs.size = some _ := b5
  show _ ∧ _
  rw [hn] at u1
  rw [a1] at u2
  rw [a2, hn, a1] at u3
  rw [a3] at u4
  rw [a4, a2, a3] at u5
  rw [a4]
  exact ⟨⟨_, u5, rfl⟩, h _ u5 u3 u4 ⟨_, u1, rfl, rfl⟩ ⟨_, u2, rfl, rfl⟩ up⟩
end
end CB.Z

namespace CB.Z
open PySem PySem.Spec PyProof.Rows L2
/-- the lists xs at a and ys at b in step, the shorter one filled up -/
def ItZl (K : PySem.W.Frag) (a b : Addr) (xs ys : List V) (n : Int) : It :=
  ⟨fun i H => SqL K H a xs ∧ SqL K H b ys ∧ (i < xs.length ∨ i < ys.length),
    fun i H v H' => ∃ T, v = .ref T ∧ H T = none ∧ H' = upd H T (.tup [xs.getD i (.int n), ys.getD i (.int n)]),
    fun i H => SqL K H a xs ∧ SqL K H b ys ∧ xs.length ≤ i ∧ ys.length ≤ i⟩
theorem relGetD {xs : List V} {us : List Value} {n : Int} {t : Tok} (r : Vals xs us) (i : Nat) : RelV (xs.getD i (.int n)) (us.toArray.getD i (.int n t)) := by
  have l := r.length
  by_cases h : i < xs.length
  · obtain ⟨u, hu, ru⟩ := r.get (List.getElem?_eq_getElem h)
    have e1 : xs.getD i (.int n) = xs[i] := by rw [List.getD_eq_getElem?_getD, List.getElem?_eq_getElem h]; rfl
    have e2 : us.toArray.getD i (.int n t) = u := by rw [Array.getD_eq_getD_getElem?]; simp [hu]
    rw [e1, e2]
    exact ru
  · have e1 : xs.getD i (.int n) = .int n := by rw [List.getD_eq_getElem?_getD, List.getElem?_eq_none (by omega)]; rfl
    have e2 : us.toArray.getD i (.int n t) = .int n t := by
      rw [Array.getD_eq_getD_getElem?, Array.getElem?_eq_none (by simp; omega)]
      rfl
    rw [e1, e2]
    exact ⟨t, rfl⟩
theorem turnZl {P : Program} {w : World} {K : PySem.W.Frag} {elts : List Expr} {kk : Nat} {tpos : Pos} {a b z TI TO i1 i2 : Addr} {xs ys : List V} {n : Int} {t : Tok} (D : ZA z TI TO i1 i2 a b) :
    Turn P w K (.Tuple elts kk tpos) (ItZl K a b xs ys n) [z, TI, TO, i1, i2] z (fun i h => IsZl h z TI TO .none (.int n t) (lives xs.length i + lives ys.length i) ∧ ZCol h TI i1 i2 a b xs.length i ys.length i ∧ (∃ x y, IsTu h TO x y) ∧ (i ≤ xs.length ∨ i ≤ ys.length)) where
  mem := by simp
  obj := fun i h st c hc => by
    obtain ⟨hz, ⟨⟨x, y, hTI, ca, cb⟩⟩, ⟨x2, y2, hTO⟩, _⟩ := st
    have gone : ∀ {e : Value} {it l : Addr} {m j : Nat}, Col h e it l m j → ∃ o, h.get? it = some o ∧ ∀ v, o.data ≠ .cell v := fun c => by
      rcases c with ⟨_, ⟨o, g, _, d⟩, _⟩ | ⟨_, _, o, vs, g, d⟩
      · exact ⟨o, g, fun v q => by rw [d] at q; cases q⟩
      · exact ⟨o, g, fun v q => by rw [d] at q; cases q⟩
    simp only [List.mem_cons, List.not_mem_nil, or_false] at hc
    rcases hc with rfl | rfl | rfl | rfl | rfl
    · exact ⟨_, hz, fun v q => nomatch q⟩
    · exact ⟨_, hTI, fun v q => nomatch q⟩
    · exact ⟨_, hTO, fun v q => nomatch q⟩
    · exact gone ca
    · exact gone cb
  keep := fun i h h' st k => by
    obtain ⟨hz, ⟨⟨x, y, hTI, ca, cb⟩⟩, ⟨x2, y2, hTO⟩, q⟩ := st
    exact ⟨k z (by simp) _ hz, ⟨_, _, k TI (by simp) _ hTI, ca.ext fun o e => k i1 (by simp) o e, cb.ext fun o e => k i2 (by simp) o e⟩, ⟨_, _, k TO (by simp) _ hTO⟩, q⟩
  item := by
    intro X hP hw hK hc i pins s σ H E I hf st hg
    subst hP hw hK
    obtain ⟨hz, hcol, hTO, hij⟩ := st
    obtain ⟨hqx, hqy, hi⟩ := hg
    obtain ⟨us, rv, p, _⟩ := I.list hqx
    obtain ⟨us2, rv2, p2, _⟩ := I.list hqy
    have n1 : us.toArray.size = xs.length := by rw [List.size_toArray, rv.length]
    have n2 : us2.toArray.size = ys.length := by rw [List.size_toArray, rv2.length]
    rw [← n1, ← n2] at hz hcol hi
    refine zNextItem (I.ok.hd hc) D hz hcol hTO p.isList p2.isList hi fun h' T hle hz' hcol' hTO' hT kp => ?_
    refine ⟨_, rfl, zGo (s := { s with heap := h' }) hz' fun h'' hz'' sb => ?_⟩
    have zlt : z < s.heap.objs.size := Heap.lt_size hz
    have Tz : T ≠ z := Nat.ne_of_gt (Nat.lt_of_lt_of_le zlt hle)
    have hT2 : h''.get? T = some (TuO (us.toArray.getD i (.int n t)) (us2.toArray.getD i (.int n t))) := sb.extBut _ _ Tz hT
    have new : ObjOk X.prog X.w (upd H T (.tup [xs.getD i (.int n), ys.getD i (.int n)])) h'' T (.tup [xs.getD i (.int n), ys.getD i (.int n)]) :=
      ⟨by show 2 ≤ sizeLine; decide, [us.toArray.getD i (.int n t), us2.toArray.getD i (.int n t)], .cons (relGetD rv i) (.cons (relGetD rv2 i) .nil), ⟨_, hT2, rfl, _, rfl⟩⟩
    have I1 : Inv X pins σ (upd H T (.tup [xs.getD i (.int n), ys.getD i (.int n)])) { s with heap := h'' } :=
      I.turnedNew (t' := s.toks) (ch := [z, TI, TO, i1, i2]) (fun c o hb q => sb.extBut _ _ (fun e => hb (by simp [e])) (kp c o (fun e => hb (by simp [e])) (fun e => hb (by simp [e])) (fun e => hb (by simp [e])) (fun e => hb (by simp [e])) (fun e => hb (by simp [e])) q)) hf hle new
    rw [n1, n2] at hz'' hcol'
    obtain ⟨⟨x3, y3, hTI3, ca3, cb3⟩⟩ := hcol'
    obtain ⟨x4, y4, hTO4⟩ := hTO'
    refine ⟨.ref T, _, I1, rfl, ⟨T, rfl, I.hok.fresh hle, rfl⟩, ⟨hz'', ⟨_, _, sb.extBut _ _ D.TIz hTI3, ca3.ext fun o e => sb.extBut _ _ D.i1z e, cb3.ext fun o e => sb.extBut _ _ D.i2z e⟩, ⟨_, _, sb.extBut _ _ D.TOz hTO4⟩, by omega⟩, fun c hcm => ?_⟩
    have hcn := (hf c hcm).1
    have ne : c ≠ T := fun e => by
      obtain ⟨o, g, _⟩ : ∃ o, s.heap.get? c = some o ∧ True := by
        obtain ⟨⟨x5, y5, hTI5, ca5, cb5⟩⟩ := hcol
        obtain ⟨x6, y6, hTO6⟩ := hTO
        have gone : ∀ {e : Value} {it l : Addr} {m j : Nat}, Col s.heap e it l m j → ∃ o, s.heap.get? it = some o ∧ True := fun c => by
          rcases c with ⟨_, ⟨o, g, _, d⟩, _⟩ | ⟨_, _, o, vs, g, d⟩
          · exact ⟨o, g, trivial⟩
          · exact ⟨o, g, trivial⟩
        simp only [List.mem_cons, List.not_mem_nil, or_false] at hcm
        rcases hcm with rfl | rfl | rfl | rfl | rfl
        · exact ⟨_, hz, trivial⟩
        · exact ⟨_, hTI5, trivial⟩
        · exact ⟨_, hTO6, trivial⟩
        · exact gone ca5
        · exact gone cb5
      have := Heap.lt_size g
      rw [e] at this
      exact absurd (Nat.lt_of_lt_of_le this hle) (Nat.lt_irrefl _)
    rw [upd_ne ne]
    exact hcn
  done := by
    intro X hP hw hK hc i pins s σ H E I hf st hg
    subst hP hw hK
    obtain ⟨hz, hcol, hTO, hij⟩ := st
    obtain ⟨hqx, hqy, hi⟩ := hg
    obtain ⟨us, rv, p, _⟩ := I.list hqx
    obtain ⟨us2, rv2, p2, _⟩ := I.list hqy
    have n1 : us.toArray.size = xs.length := by rw [List.size_toArray, rv.length]
    have n2 : us2.toArray.size = ys.length := by rw [List.size_toArray, rv2.length]
    rw [← n1, ← n2] at hz hcol hi hij
    exact zNextLast (I.ok.hd hc) D hz hcol hTO p.isList p2.isList hi hij fun h' kp => ⟨rfl, I.turnedL (t' := s.toks) (ch := [z, TI, TO, i1, i2]) (fun c o hb q =>
      kp c o (fun e => hb (by simp [e])) (fun e => hb (by simp [e])) (fun e => hb (by simp [e])) (fun e => hb (by simp [e])) (fun e => hb (by simp [e])) q) hf⟩
  self := fun A i s Q E st h => zIter st.1 h
def iZipL (K : PySem.W.Frag) (ta tk : TA) : TI := fun σ H R => ta σ H fun vs H1 => tk σ H1 fun ks H2 => ∃ a b xs ys n, vs = [.ref a, .ref b] ∧ ks = [.int n] ∧ SqL K H2 a xs ∧ SqL K H2 b ys ∧ R (ItZl K a b xs ys n) H2
theorem callTK {M : Model} {A : Around} {E : Value → Shared → Prop} {s : Shared} {env : Env} {pos : Pos} {T : String} {e : Expr} {rest : List Expr} {kws : List Keyword} {Q : Value → Shared → Prop}
    (h : wpAny M A (spliced (backTo pos (starEach (e :: rest) env))) (fun vs s₁ => wpAny M A (evalAll ((backToKw pos (keywordEach kws env)).map (·.2)))
      (fun ws s₂ => wpAny M A (call (.type T) vs (((backToKw pos (keywordEach kws env)).filterMap (·.1)).zip ws)) Q E s₂) E s₁) E s)
    (h1 : backTo pos (starEach (e :: rest) env) = (false, eval e env) :: backTo pos (starEach rest env)) (h2 : (backTo pos (starEach (e :: rest) env)).any (·.1) = false)
    (h3 : (backToKw pos (keywordEach kws env)).all (·.1.isSome) = true) (h4 : (backToKw pos (keywordEach kws env)).any (·.1.isNone) = false) :
    wpAny M A (callWith pos (.type T) [] (backTo pos (starEach (e :: rest) env)) (backToKw pos (keywordEach kws env))) Q E s := by
  have g : wpAny M A (evalArgs (.type T) true (backTo pos (starEach (e :: rest) env)) (backToKw pos (keywordEach kws env))) (fun a s₁ => wpAny M A (call (.type T) ([] ++ a.pos) a.kw) Q E s₁) E s := by
    rw [h1] at h ⊢
    exact evalArgs_kwB h3 h
  unfold callWith
  refine wpAny_bind (wpAny_holding (wpAny_mono g (fun a s₁ q => wpAny_bind (wpAny_standAt ?_)) fun _ _ x => x))
  simp only [h2, h4, Bool.or_false]
  refine wpAny_bind (wpAny_pure (wpAny_bind (wpAny_mono q (fun r s₂ hr => ?_) fun _ _ x => x)))
  exact wpAny_bind (wpAny_holding (wpAny_point (wpAny_pure hr)))
theorem pi_zipL {X : Cx} {e e2 ev : Expr} {ta tk : TA} {p pos tpos kp : Pos} {elts : List Expr} {kk : Nat} (hg : Gl X "zip_longest") (hm : X.mg "zip_longest" = some (.type "itertools.zip_longest")) (ha : PA X [e, e2] ta)
    (hk : PK X [⟨some "fillvalue", ev, kp⟩] tk) (h1 : backTo pos (starEach [e, e2] X.env) = (false, eval e X.env) :: backTo pos (starEach [e2] X.env) := by rfl) (h2 : (backTo pos (starEach [e, e2] X.env)).any (·.1) = false := by rfl) :
    PI X (.Tuple elts kk tpos) (.Call (.Name "zip_longest" p) [e, e2] [⟨some "fillvalue", ev, kp⟩] pos) (iZipL X.K ta tk) := by
  refine ⟨fun pins s σ H R I h => ?_⟩
  refine wpAny_Call_Name_kw (ld_glob I hg hm ?_ (by decide))
  refine callTK (thn (ha.run pos pins s σ H _ I h) fun us s1 q => ?_) h1 h2 rfl rfl
  obtain ⟨vs, H1, I1, r1, q1⟩ := q
  refine thn (hk.run pos pins s1 σ H1 _ I1 q1) fun ws s2 q => ?_
  obtain ⟨ks, H2, I2, r2, a, b, xs, ys, n, ev, ek, hqx, hqy, q2⟩ := q
  subst ev ek
  cases r1 with
  | cons ra rr =>
    cases rr with
    | cons rb rr =>
      cases rr
      cases ra
      cases rb
      cases r2 with
      | cons rn rr =>
        cases rr
        obtain ⟨t, rfl⟩ := rn
        obtain ⟨us, rv, p1, _⟩ := I2.list hqx
        obtain ⟨us2, rv2, p2, _⟩ := I2.list hqy
        have la : a < s2.heap.objs.size := p1.lt
        have lb : b < s2.heap.objs.size := p2.lt
        refine zCall p1.isList p2.isList fun h' hz hTI hTO h1 h2 hk => zIter hz ?_
        have D : ZA (s2.heap.objs.size + 4) (s2.heap.objs.size + 2) (s2.heap.objs.size + 3) s2.heap.objs.size (s2.heap.objs.size + 1) a b :=
          { toZipApart := PySem.W.ktu_apart s2.heap.objs.size a b la lb, l1TI := Nat.ne_of_lt (Nat.lt_add_right 2 la), l2TI := Nat.ne_of_lt (Nat.lt_add_right 2 lb) }
        have I3 : Inv X pins σ H2 { s2 with heap := h' } := I2.kept (t' := s2.toks) hk
        refine ⟨s2.heap.objs.size + 4, [s2.heap.objs.size + 4, s2.heap.objs.size + 2, s2.heap.objs.size + 3, s2.heap.objs.size, s2.heap.objs.size + 1], _, _, H2, rfl, I3, turnZl (xs := xs) (ys := ys) (n := n) (t := t) D,
          ⟨by unfold lives; rw [if_pos (Nat.zero_le _), if_pos (Nat.zero_le _)]; exact hz, ⟨_, _, hTI, .inl ⟨rfl, h1, Nat.zero_le _⟩, .inl ⟨rfl, h2, Nat.zero_le _⟩⟩, ⟨_, _, hTO⟩, .inl (Nat.zero_le _)⟩, fun c hcm => ?_, q2⟩
        have hle : s2.heap.objs.size ≤ c := by
          simp only [List.mem_cons, List.not_mem_nil, or_false] at hcm
          rcases hcm with z | z | z | z | z <;> (rw [z]; omega)
        exact I2.fpOk hle (I2.hok.fresh hle)
end CB.Z

namespace CB.Z
open PySem PySem.Spec PyProof.Rows L2
/-- the reading of a comprehension over zip_longest -/
theorem lc_zl {K : PySem.W.Frag} {a b : Addr} {xs ys : List V} {n : Int} {g : TG} {tt : TT} {te : TE} {vs : List Nat} {σ : L2.St} {H1 : Hp} {D : Addr} {Qd : Hp → Prop} (Pv : Nat → Hp → Prop) (h0 : Pv 0 (upd H1 D (.lst [])))
    (hq : ∀ i H, Pv i H → SqL K H a xs ∧ SqL K H b ys)
    (hs : ∀ i T H, (i < xs.length ∨ i < ys.length) → Pv i H → H T = none → g (.ref T) (wipe σ vs) (upd H T (.tup [xs.getD i (.int n), ys.getD i (.int n)])) fun σ2 H2 => wipe σ2 vs = wipe σ vs ∧ tt σ2 H2 fun k H3 =>
      if k = true then te σ2 H3 fun y H4 => ∃ acc, H4 D = some (.lst acc) ∧ acc.length < sizeLine ∧ Pv (i + 1) (upd H4 D (.lst (acc ++ [y]))) else Pv (i + 1) H3)
    (hd : ∀ H, Pv (max xs.length ys.length) H → Qd H) :
    ∃ W : Nat → Nat → Hp → Prop, (∃ m, W 0 m (upd H1 D (.lst []))) ∧ ∀ i m H, W i m H →
      ((ItZl K a b xs ys n).stop i H ∧ Qd H) ∨ ((ItZl K a b xs ys n).go i H ∧ ∃ Nx : Hp → Prop, (∀ H', Nx H' → ∃ m', m' < m ∧ W (i + 1) m' H') ∧
        ∀ x H', (ItZl K a b xs ys n).yld i H x H' → g x (wipe σ vs) H' fun σ2 H2 => wipe σ2 vs = wipe σ vs ∧ tt σ2 H2 fun k H3 =>
          if k = true then te σ2 H3 fun y H4 => ∃ acc, H4 D = some (.lst acc) ∧ acc.length < sizeLine ∧ Nx (upd H4 D (.lst (acc ++ [y]))) else Nx H3) := by
  refine ⟨fun i m H => m = max xs.length ys.length - i ∧ i ≤ max xs.length ys.length ∧ Pv i H, ⟨_, rfl, Nat.zero_le _, h0⟩, fun i m H hw => ?_⟩
  obtain ⟨rfl, hi, p⟩ := hw
  obtain ⟨qa, qb⟩ := hq i H p
  by_cases lt : i < max xs.length ys.length
  · refine .inr ⟨⟨qa, qb, by omega⟩, Pv (i + 1), fun H' p' => ⟨_, by omega, rfl, lt, p'⟩, fun x H' y => ?_⟩
    obtain ⟨T, rfl, nT, rfl⟩ := y
    exact hs i T H (by omega) p nT
  · have e : i = max xs.length ys.length := by omega
    subst e
    exact .inl ⟨⟨qa, qb, by omega, by omega⟩, hd H p⟩
end CB.Z

namespace CB
open PySem PySem.Spec PyProof.Rows L2
/-- n is where xs ends without its last zeros -/
structure Trim (xs : List Int) (n : Nat) : Prop where
  le : n ≤ xs.length
  up : ∀ k, n ≤ k → xs.getD k 0 = 0
  at_ : n = 0 ∨ xs.getD (n - 1) 0 ≠ 0
theorem getD_take {xs : List Int} {n k : Nat} : (xs.take n).getD k 0 = if k < n then xs.getD k 0 else 0 := by
  rw [List.getD_eq_getElem?_getD, List.getD_eq_getElem?_getD, List.getElem?_take]
  split <;> rfl
theorem Trim.take {xs : List Int} {n : Nat} (t : Trim xs n) (k : Nat) : (xs.take n).getD k 0 = xs.getD k 0 := by
  rw [getD_take]
  split
  · rfl
  · exact (t.up k (by omega)).symm
theorem getD_map {f : Int → Int} (h : f 0 = 0) (xs : List Int) (k : Nat) : (xs.map f).getD k 0 = f (xs.getD k 0) := by
  rw [List.getD_eq_getElem?_getD, List.getD_eq_getElem?_getD, List.getElem?_map]
  cases xs[k]? with
  | none => exact h.symm
  | some x => rfl
theorem getD_mem {xs : List Int} {k : Nat} (h : k < xs.length) : xs.getD k 0 ∈ xs := by
  rw [List.getD_eq_getElem?_getD, List.getElem?_eq_getElem h]
  exact List.getElem_mem h
theorem getD_of {xs : List Int} {k : Nat} {x : Int} (h : xs[k]? = some x) : xs.getD k 0 = x := by rw [List.getD_eq_getElem?_getD, h]; rfl
theorem getD_end {xs : List Int} {k : Nat} (h : xs.length ≤ k) : xs.getD k 0 = 0 := by rw [List.getD_eq_getElem?_getD, List.getElem?_eq_none h]; rfl
theorem get_of_lt {xs : List Int} {k : Nat} (h : k < xs.length) : xs[k]? = some (xs.getD k 0) := by rw [List.getD_eq_getElem?_getD, List.getElem?_eq_getElem h]; rfl
theorem list_ext {xs ys : List Int} (h : xs.length = ys.length) (e : ∀ k, xs.getD k 0 = ys.getD k 0) : xs = ys := by
  refine List.ext_getElem? fun k => ?_
  by_cases c : k < xs.length
  · rw [get_of_lt c, get_of_lt (by omega), e]
  · rw [List.getElem?_eq_none (by omega), List.getElem?_eq_none (by omega)]
/-! ### the greatest common divisor of a list -/
def gcdL (xs : List Int) : Nat := xs.foldl (fun g x => Nat.gcd g x.natAbs) 0
theorem foldg_dvd (xs : List Int) : ∀ g : Nat, xs.foldl (fun g x => Nat.gcd g x.natAbs) g ∣ g ∧ ∀ x ∈ xs, xs.foldl (fun g x => Nat.gcd g x.natAbs) g ∣ x.natAbs := by
  induction xs with
  | nil => intro g; exact ⟨Nat.dvd_refl _, fun x h => absurd h (by simp)⟩
  | cons y r ih =>
    intro g
    obtain ⟨h1, h2⟩ := ih (Nat.gcd g y.natAbs)
    refine ⟨Nat.dvd_trans h1 (Nat.gcd_dvd_left _ _), fun x hx => ?_⟩
    rcases List.mem_cons.mp hx with rfl | hx
    · exact Nat.dvd_trans h1 (Nat.gcd_dvd_right _ _)
    · exact h2 x hx
theorem foldg_great (xs : List Int) {d : Nat} : ∀ g : Nat, d ∣ g → (∀ x ∈ xs, d ∣ x.natAbs) → d ∣ xs.foldl (fun g x => Nat.gcd g x.natAbs) g := by
  induction xs with
  | nil => intro g h _; exact h
  | cons y r ih => intro g h h2; exact ih _ (Nat.dvd_gcd h (h2 y (by simp))) fun x hx => h2 x (by simp [hx])
theorem gcdL_dvd {xs : List Int} {x : Int} (h : x ∈ xs) : gcdL xs ∣ x.natAbs := (foldg_dvd xs 0).2 x h
theorem gcdL_great {xs : List Int} {d : Nat} (h : ∀ x ∈ xs, d ∣ x.natAbs) : d ∣ gcdL xs := foldg_great xs 0 (Nat.dvd_zero d) h
theorem gcdL_more {xs : List Int} {i : Nat} {x : Int} (h : xs[i]? = some x) : gcdL (xs.take (i + 1)) = Nat.gcd (gcdL (xs.take i)) x.natAbs := by
  unfold gcdL
  rw [List.take_succ, h, List.foldl_append]
  rfl
theorem gcdL_one {xs : List Int} {i : Nat} (h : gcdL (xs.take i) = 1) : gcdL xs = 1 := by
  have z : gcdL xs ∣ gcdL (xs.take i) := gcdL_great fun x hx => gcdL_dvd (List.mem_of_mem_take hx)
  rw [h] at z
  exact Nat.eq_one_of_dvd_one z
/-! ### the one form -/
/-- ks / e is the one form of cs / d -/
structure Pq (cs : List Int) (d : Int) (ks : List Int) (e : Int) : Prop where
  eq : ∀ i, ks.getD i 0 * d = cs.getD i 0 * e
  pos : 0 < e
  last : ks = [] ∨ ks.getD (ks.length - 1) 0 ≠ 0
  cop : ∀ g : Int, g ∣ e → (∀ i, g ∣ ks.getD i 0) → g ∣ 1
theorem Pq.len {cs : List Int} {d : Int} {ks : List Int} {e : Int} (p : Pq cs d ks e) (hd : d ≠ 0) : ks.length ≤ cs.length := Decidable.byContradiction fun c => by
  rcases p.last with h | h
  · rw [h] at c; simp at c
  · have z := p.eq (ks.length - 1)
    rw [getD_end (xs := cs) (by omega), Int.zero_mul] at z
    rcases Int.mul_eq_zero.mp z with z | z
    · exact h z
    · exact hd z
/-- the same polynomial by another pair -/
theorem Pq.conv {cs cs' : List Int} {d d' : Int} {ks : List Int} {e : Int} (p : Pq cs d ks e) (hd : d ≠ 0) (h : ∀ i, cs.getD i 0 * d' = cs'.getD i 0 * d) : Pq cs' d' ks e := by
  refine ⟨fun i => ?_, p.pos, p.last, p.cop⟩
  have z := p.eq i
  have z2 := h i
  have : (ks.getD i 0 * d') * d = (cs'.getD i 0 * e) * d := by grind
  exact Int.eq_of_mul_eq_mul_right hd this
theorem Pq.den_dvd {cs : List Int} {d : Int} {ks ks' : List Int} {e e' : Int} (p : Pq cs d ks e) (p' : Pq cs d ks' e') (hd : d ≠ 0) : e ∣ e' := by
  have cross : ∀ i, ks.getD i 0 * e' = ks'.getD i 0 * e := fun i => by
    have z := p.eq i
    have z2 := p'.eq i
    have : (ks.getD i 0 * e') * d = (ks'.getD i 0 * e) * d := by grind
    exact Int.eq_of_mul_eq_mul_right hd this
  have pe := p.pos
  obtain ⟨g, x, y, _, g0, ex, ey, cxy, _, _⟩ := gcd_parts (n := e) (d := e') (.inl (by omega))
  have hx : ∀ i, x ∣ ks.getD i 0 := fun i => by
    have z := cross i
    rw [ex, ey] at z
    have z2 : ks.getD i 0 * y = ks'.getD i 0 * x := by
      have : (ks.getD i 0 * y) * g = (ks'.getD i 0 * x) * g := by grind
      exact Int.eq_of_mul_eq_mul_right (by omega) this
    exact dvd_of_cop (a := y) ⟨ks'.getD i 0, by grind⟩ cxy.symm
  have h1 := p.cop x ⟨g, by rw [ex]; grind⟩ hx
  obtain ⟨u, hu⟩ := h1
  refine ⟨y * u, ?_⟩
  rw [ey, ex]
  grind
theorem Pq.uniq {cs : List Int} {d : Int} {ks ks' : List Int} {e e' : Int} (p : Pq cs d ks e) (p' : Pq cs d ks' e') (hd : d ≠ 0) : ks = ks' ∧ e = e' := by
  have h1 := p.den_dvd p' hd
  have h2 := p'.den_dvd p hd
  have q1 := p.pos
  have q2 := p'.pos
  have ee : e = e' := by
    have z1 := natAbs_le_of_dvd h1 (by omega)
    have z2 := natAbs_le_of_dvd h2 (by omega)
    omega
  subst ee
  have same : ∀ i, ks.getD i 0 = ks'.getD i 0 := fun i => by
    have z1 := p.eq i
    have z2 := p'.eq i
    exact Int.eq_of_mul_eq_mul_right hd (z1.trans z2.symm)
  refine ⟨list_ext ?_ same, rfl⟩
  have le : ∀ {as bs : List Int}, (∀ i, as.getD i 0 = bs.getD i 0) → (as = [] ∨ as.getD (as.length - 1) 0 ≠ 0) → as.length ≤ bs.length := fun {as bs} h l => Decidable.byContradiction fun c => by
    rcases l with l | l
    · rw [l] at c; simp at c
    · rw [h, getD_end (by omega)] at l
      exact l rfl
  exact Nat.le_antisymm (le same p.last) (le (fun i => (same i).symm) p'.last)
theorem fdiv_dvd {c x : Int} (hc : c ≠ 0) (h : c ∣ x) : x.fdiv c * c = x := by
  obtain ⟨y, rfl⟩ := h
  rw [Int.mul_fdiv_cancel_left _ hc]
  grind
/-- what __init__ stores -/
theorem pq_init {cs : List Int} {d c : Int} {n : Nat} (hd : d ≠ 0) (t : Trim cs n) (hc : c = if d < 0 then -((gcdL (d :: cs.take n) : Nat) : Int) else ((gcdL (d :: cs.take n) : Nat) : Int)) :
    c ≠ 0 ∧ c.natAbs ≤ d.natAbs ∧ Pq cs d ((cs.take n).map fun x => x.fdiv c) (d.fdiv c) := by
  have dv : ∀ x ∈ d :: cs.take n, gcdL (d :: cs.take n) ∣ x.natAbs := fun x hx => gcdL_dvd hx
  have gd := dv d (by simp)
  have g0 : 0 < gcdL (d :: cs.take n) := Nat.pos_of_dvd_of_pos gd (by omega)
  have ca : c.natAbs = gcdL (d :: cs.take n) := by rw [hc]; split <;> omega
  have c0 : c ≠ 0 := by omega
  have cd : ∀ x ∈ d :: cs.take n, c ∣ x := fun x hx => Int.natAbs_dvd_natAbs.mp (by rw [ca]; exact dv x hx)
  have e1 := fdiv_dvd c0 (cd d (by simp))
  have f0 : (0 : Int).fdiv c = 0 := Int.zero_fdiv c
  have e2 : ∀ i, ((cs.take n).map fun x => x.fdiv c).getD i 0 * c = cs.getD i 0 := fun i => by
    rw [getD_map f0, t.take]
    by_cases h : i < n
    · refine fdiv_dvd c0 (cd _ (List.mem_cons_of_mem _ ?_))
      rw [← t.take i]
      refine getD_mem ?_
      rw [List.length_take]
      have := t.le
      omega
    · rw [t.up i (by omega), f0, Int.zero_mul]
  have sgn : 0 < d.fdiv c := Decidable.byContradiction fun hn => by
    have hn : d.fdiv c ≤ 0 := by omega
    generalize d.fdiv c = u at *
    by_cases h : d < 0
    · have : c < 0 := by rw [hc, if_pos h]; omega
      have z := Int.mul_nonneg (show 0 ≤ -u by omega) (show 0 ≤ -c by omega)
      rw [Int.neg_mul_neg] at z
      omega
    · have : 0 < c := by rw [hc, if_neg h]; omega
      have z := Int.mul_nonneg (show 0 ≤ -u by omega) (show 0 ≤ c by omega)
      rw [Int.neg_mul] at z
      omega
  refine ⟨c0, by rw [ca]; exact Nat.le_of_dvd (by omega) gd, fun i => ?_, sgn, ?_, fun g h1 h2 => ?_⟩
  · have z := e2 i
    generalize ((cs.take n).map fun x => x.fdiv c).getD i 0 = u at *
    rw [← z]
    generalize d.fdiv c = v at *
    rw [← e1]
    grind
  · have ln : ((cs.take n).map fun x => x.fdiv c).length = n := by
      rw [List.length_map, List.length_take]
      have := t.le
      omega
    rcases t.at_ with h | h
    · left
      exact List.eq_nil_of_length_eq_zero (by omega)
    · right
      rw [ln]
      intro z
      have z2 := e2 (n - 1)
      rw [z, Int.zero_mul] at z2
      exact h z2.symm
  · -- g c divides all
    have k1 : (g * c).natAbs ∣ gcdL (d :: cs.take n) := gcdL_great fun x hx => Int.natAbs_dvd_natAbs.mpr (by
      rcases List.mem_cons.mp hx with rfl | hx
      · obtain ⟨u, hu⟩ := h1
        exact ⟨u, by rw [← e1, hu]; grind⟩
      · obtain ⟨i, hi, rfl⟩ := List.mem_iff_getElem.mp hx
        have z := e2 i
        rw [← t.take i] at z
        obtain ⟨u, hu⟩ := h2 i
        refine ⟨u, ?_⟩
        have z3 : (cs.take n)[i] = (cs.take n).getD i 0 := by rw [List.getD_eq_getElem?_getD, List.getElem?_eq_getElem hi]; rfl
        rw [z3, ← z, hu]
        grind)
    rw [← ca, Int.natAbs_mul] at k1
    have k2 : g.natAbs * c.natAbs ≤ 1 * c.natAbs := by
      rw [Nat.one_mul]
      exact Nat.le_of_dvd (by omega) k1
    have k3 : g.natAbs ≤ 1 := Nat.le_of_mul_le_mul_right k2 (by omega)
    have k4 : g ≠ 0 := fun z => by
      rw [z] at h1
      obtain ⟨u, hu⟩ := h1
      rw [Int.zero_mul] at hu
      omega
    have : g.natAbs = 1 := by omega
    exact Int.natAbs_dvd_natAbs.mp (by rw [this]; exact Nat.one_dvd _)
/-! ### == of tuples of whole numbers -/
theorem eqvA (xs ys : List Int) : PyData.eqvAll (xs.map PyData.int) (ys.map PyData.int) = decide (xs = ys) := by
  induction xs generalizing ys with
  | nil => cases ys <;> simp [PyData.eqvAll]
  | cons x r ih =>
    cases ys with
    | nil => simp [PyData.eqvAll]
    | cons y s =>
      have e : (x == y) = decide (x = y) := rfl
      simp [PyData.eqvAll, PyData.eqv, ih, e]
theorem eqvT (xs ys : List Int) : PyData.eqv (.tuple (xs.map PyData.int)) (.tuple (ys.map PyData.int)) = decide (xs = ys) := by
  rw [← eqvA]
  simp [PyData.eqv]
theorem eqvL (xs ys : List Int) : PyData.eqv (.list (xs.map PyData.int)) (.list (ys.map PyData.int)) = decide (xs = ys) := by
  rw [← eqvA]
  simp [PyData.eqv]
theorem dpI {K : PySem.W.Frag} {H : Hp} : ∀ xs : List Int, DpAll K H (xs.map V.int) (xs.map PyData.int)
  | [] => .nil
  | x :: r => .cons (.int x) (dpI r)
theorem layI (xs : List Int) : PyData.canLayAll0 (xs.map PyData.int) = true := by
  induction xs with
  | nil => rfl
  | cons x r ih => simp [PyData.canLayAll0, PyData.canLay0, ih]
theorem depI (xs : List Int) : PyData.depthAll (xs.map PyData.int) ≤ 1 := by
  induction xs with
  | nil => decide
  | cons x r ih =>
    simp only [List.map_cons, PyData.depthAll, PyData.depth]
    omega
theorem shT (xs : List Int) : SeqAt.shaped (.tuple (xs.map PyData.int)) = true := by
  have d := depI xs
  unfold SeqAt.shaped
  simp [PyData.canLay0, layI, PyData.depth]
  omega
theorem shL (xs : List Int) : SeqAt.shaped (.list (xs.map PyData.int)) = true := by
  have d := depI xs
  unfold SeqAt.shaped
  simp [PyData.canLay0, layI, PyData.depth]
  omega
/-! ### sums -/
def addL (xs ys : List Int) : List Int := (List.range (max xs.length ys.length)).map fun i => xs.getD i 0 + ys.getD i 0
theorem addL_at (xs ys : List Int) (i : Nat) : (addL xs ys).getD i 0 = xs.getD i 0 + ys.getD i 0 := by
  unfold addL
  by_cases h : i < max xs.length ys.length
  · rw [List.getD_eq_getElem?_getD, List.getElem?_map, List.getElem?_range h]
    rfl
  · rw [getD_end (by rw [List.length_map, List.length_range]; omega), getD_end (xs := xs) (by omega), getD_end (xs := ys) (by omega)]
    rfl
theorem addL_len (xs ys : List Int) : (addL xs ys).length = max xs.length ys.length := by rw [addL, List.length_map, List.length_range]
theorem mul_at (xs : List Int) (c : Int) (i : Nat) : (xs.map fun x => x * c).getD i 0 = xs.getD i 0 * c := getD_map (f := fun x => x * c) (Int.zero_mul c) xs i
theorem neg_at (xs : List Int) (i : Nat) : (xs.map fun x => -x).getD i 0 = -(xs.getD i 0) := getD_map (f := fun x => -x) rfl xs i
/-- cs / d + cs' / d' -/
abbrev sumP (cs : List Int) (d : Int) (cs' : List Int) (d' : Int) : List Int := addL (cs.map fun x => x * d') (cs'.map fun x => x * d)
theorem sumP_at (cs : List Int) (d : Int) (cs' : List Int) (d' : Int) (i : Nat) : (sumP cs d cs' d').getD i 0 = cs.getD i 0 * d' + cs'.getD i 0 * d := by rw [addL_at, mul_at, mul_at]
/-- sums by other pairs -/
theorem Pq.add {a b : Int} {as bs ks js ms : List Int} {e f g : Int} (p1 : Pq as a ks e) (p2 : Pq bs b js f) (p : Pq (sumP ks e js f) (e * f) ms g) : Pq (sumP as a bs b) (a * b) ms g := by
  have q1 := p1.pos
  have q2 := p2.pos
  refine p.conv (Int.mul_ne_zero (by omega) (by omega)) fun i => ?_
  rw [sumP_at, sumP_at]
  have e1 := p1.eq i
  have e2 := p2.eq i
  grind
theorem Pq.neg {as ks ms : List Int} {a e g : Int} (p1 : Pq as a ks e) (p : Pq (ks.map fun x => -x) e ms g) : Pq (as.map fun x => -x) a ms g := by
  refine p.conv (by have := p1.pos; omega) fun i => ?_
  rw [neg_at, neg_at]
  have e1 := p1.eq i
  grind
theorem Pq.self {cs : List Int} {d : Int} {ks : List Int} {e : Int} (p : Pq cs d ks e) : Pq ks e ks e := ⟨fun i => rfl, p.pos, p.last, p.cop⟩
theorem pq_neg_self {js : List Int} {f : Int} (s : Pq js f js f) : Pq (js.map fun x => -x) f (js.map fun x => -x) f := by
  refine ⟨fun i => rfl, s.pos, ?_, fun g h1 h2 => s.cop g h1 fun i => ?_⟩
  · rcases s.last with h | h
    · left; rw [h]; rfl
    · right
      rw [List.length_map, neg_at]
      omega
  · have z := h2 i
    rw [neg_at] at z
    exact Int.dvd_neg.mp z
/-- the denominator of the one form divides the one that was given -/
theorem Pq.den_dvd1 {cs ks : List Int} {d e : Int} (p : Pq cs d ks e) (hd : d ≠ 0) : e ∣ d := by
  have pe := p.pos
  obtain ⟨g, x, y, _, g0, ex, ey, cxy, _, _⟩ := gcd_parts (n := e) (d := d) (.inl (by omega))
  have hx : ∀ i, x ∣ ks.getD i 0 := fun i => by
    have z := p.eq i
    rw [ex, ey] at z
    have z2 : ks.getD i 0 * y = cs.getD i 0 * x := by
      have : (ks.getD i 0 * y) * g = (cs.getD i 0 * x) * g := by grind
      exact Int.eq_of_mul_eq_mul_right (by omega) this
    exact dvd_of_cop (a := y) ⟨cs.getD i 0, by grind⟩ cxy.symm
  obtain ⟨u, hu⟩ := p.cop x ⟨g, by rw [ex]; grind⟩ hx
  refine ⟨y * u, ?_⟩
  rw [ey, ex]
  grind
theorem Pq.den_le {cs ks : List Int} {d e : Int} (p : Pq cs d ks e) (hd : d ≠ 0) : e.natAbs ≤ d.natAbs := natAbs_le_of_dvd (p.den_dvd1 hd) hd
theorem at_last {xs : List V} {v : V} (h : xs[xs.length - 1]? = some v) : atI xs (-1) = some v := by
  have hj : xs.length - 1 < xs.length := (List.getElem?_eq_some_iff.mp h).1
  have e : ixN xs.length (-1) = some (xs.length - 1) := by
    unfold ixN
    rw [if_neg (by decide), if_pos (by omega)]
    congr 1
    omega
  unfold atI
  rw [e]
  exact h
theorem gcd_one_of {ks : List Int} {e : Int} (pos : 0 < e) (cop : ∀ g : Int, g ∣ e → (∀ i, g ∣ ks.getD i 0) → g ∣ 1) : gcdL (e :: ks) = 1 := by
  have z := cop ((gcdL (e :: ks) : Nat) : Int) (Int.natAbs_dvd_natAbs.mp (by rw [Int.natAbs_natCast]; exact gcdL_dvd (by simp))) fun i => by
    by_cases c : i < ks.length
    · exact Int.natAbs_dvd_natAbs.mp (by rw [Int.natAbs_natCast]; exact gcdL_dvd (List.mem_cons_of_mem _ (getD_mem c)))
    · rw [getD_end (by omega)]; exact Int.dvd_zero _
  have z2 := Int.natAbs_dvd_natAbs.mpr z
  rw [Int.natAbs_natCast] at z2
  exact Nat.eq_one_of_dvd_one z2
theorem getD_pad {xs : List Int} {n i : Nat} : (xs ++ List.replicate n (0 : Int)).getD i 0 = xs.getD i 0 := by
  rw [List.getD_eq_getElem?_getD, List.getD_eq_getElem?_getD]
  by_cases h : i < xs.length
  · rw [List.getElem?_append_left h]
  · rw [List.getElem?_append_right (by omega), List.getElem?_eq_none (l := xs) (by omega), List.getElem?_replicate]
    split <;> rfl
end CB

namespace CB
open PySem PySem.Spec PyProof.Rows L2
/-- the def of a staticmethod of a class -/
def stAd (K : PySem.W.Frag) (C : Addr) (m : Str) : Addr := He5.wf K C "staticmethod" m
def statB (K : PySem.W.Frag) (C : Addr) (m : Str) : Bool := He5.wrapB K C "staticmethod" "staticmethod.__get__" m && (PySem.W.readsIn K C (.type "type") && He.eqO (PySem.W.specialIn K (.ref C) "__getattribute__") (some (some (.builtin "type.__getattribute__"))))
structure Stat (K : PySem.W.Frag) (C : Addr) (m : Str) : Prop where
  at_ : PySem.W.findCls K (.ref C) (.type "type") m = some (.get (.builtin "staticmethod.__get__") (.ref (He.ma K C m)) .none (.ref C))
  rc : ∃ rest, PySem.W.recIn K (He.ma K C m) "staticmethod" = some (.ref (stAd K C m) :: rest)
  rd : ClX.CRead K C (.type "type")
theorem statB_ok {K : PySem.W.Frag} {C : Addr} {m : Str} (h : statB K C m = true) : Stat K C m := by
  obtain ⟨h1, h⟩ := He.ba h
  obtain ⟨h2, h3⟩ := He.ba h
  obtain ⟨k1, k2⟩ := He5.wrapB_ok h1
  exact ⟨k1, k2, h2, He.eqO_ok h3⟩
def tSta (C : Addr) (sp : Sp) (E : XK) (ta : TE) (t : TA) : TE := fun σ H Q => ta σ H fun x H1 => x = .ref C ∧ t σ H1 fun vs H2 => sp vs H2 Q E
section
variable {X : Cx} {CX : CXT} {k : Nat} {C : Addr} {fd : FuncData} {ps : List Str} {sp : Sp} {E : XK} {m : Str} {p pos apos : Pos} {e o : Expr} {es : List Expr} {ta : TE} {t : TA}
theorem getSta {pl : Sem Bool} {pins : List (Addr × Obj)} {σ : L2.St} {H : Hp} {s : Shared} {A : Around} {E : Value → Shared → Prop} {Q : Value × List Value → Shared → Prop} (I : Inv X pins σ H s) (S : Stat X.K C m)
    (h : ∀ s', Inv X pins σ H s' → Q (.ref (stAd X.K C m), []) s') : wpAny (model X.prog X.w) A (getMethod (.ref C) m pl) Q E s := by
  obtain ⟨rest, hp⟩ := S.rc
  refine PySem.W.method_cls I.kIn S.rd.ga ?_
  refine PySem.W.cls_bind I.kIn S.rd.rd S.at_ ?_
  exact wpAny_call (PySem.W.sm_get (s := { s with toks := s.toks + 1 }) I.kIn hp (PySem.W.handed_on rfl (h _ (I.tok _))))
theorem pe_stat {pl : Sem Bool} (he : PE X o ta) (S : Stat X.K C m) (kp : PySem.W.keepIn X.K (.ref (stAd X.K C m)) = true) (F : FnOk X.prog X.w X.K X.mg X.base CX k (stAd X.K C m) fd ps sp) (hr : Room k X.A)
    (hb : Binds X.K fd ps []) (hx : Passes CX X E) (ha : PA X (e :: es) t)
    (hst : starEach (e :: es) X.env = (false, eval e X.env) :: starEach es X.env := by rfl)
    (hpl : (backTo pos (starEach es X.env)).any (·.1) = false := by rfl)
    (ht : eval (.Call (.Attribute o m apos) (e :: es) [] pos) X.env = (do
      let ov ← eval o X.env
      standAt apos.atName
      let (f, first) ← holding [ov] (getMethod ov m pl)
      callWith pos f first (backTo pos (starEach (e :: es) X.env)) (backToKw pos (keywordEach [] X.env))) := by rfl) :
    PE X (.Call (.Attribute o m apos) (e :: es) [] pos) (tSta C sp E ta t) := by
  refine ⟨fun pins s σ H Q I h => ?_⟩
  refine PySem.W.methodCall_KW (pl := pl) (thn (he.run pins s σ H _ I h) fun u s1 hh => ?_) ht
  obtain ⟨x, H1, I1, rx, ex, q⟩ := hh
  subst ex
  have eu : u = Value.ref C := rx
  subst eu
  refine getSta I1 S fun s2 I2 => ?_
  refine PySem.W.callWith_K (first := []) (h₀ := X.base) I.ok.mod.kin kp (thn (ha.run pos pins s2 σ H1 _ I2 q) fun us s3 h3 => ?_) hst hpl
  obtain ⟨vs, H2, I3, r, q2⟩ := h3
  exact ⟨I3.kIn, run_fn (ds := []) (dvs := []) F hr hb .nil hx I3 r (by rw [List.append_nil]; exact q2)⟩
end
end CB

namespace CB.Z
open PySem PySem.Spec PyProof.Rows L2
/-! ### enumerate(a tuple): own work -/
abbrev TuIt (t : Addr) : Obj := { cls := .type "tuple_iterator", data := .fields #[.ref t, .int 0 0] }
abbrev EnOb (it : Addr) : Obj := { cls := .type "enumerate", data := .fields #[.none, .bool false, .ref it, rawInt 0, .none, .none] }
set_option maxHeartbeats 8000000 in
theorem enNewT (t : Addr) (us : Array Value) :
    Meets (Builtin.«enumerate.__new__» ⟨[.type "enumerate", .ref t], []⟩) (fun _ R s => s.heap.IsTuple t us ∧ R (.ok (.ret (.ref (s.heap.push (TuIt t)).objs.size))) { s with heap := (s.heap.push (TuIt t)).push (EnOb s.heap.objs.size) }) :=
  .of_wp fun pr wo A R s hyp => by
    obtain ⟨hp, gl, dr, tk, os⟩ := s
    obtain ⟨ht, hyp⟩ := hyp
    have hs1 := sub_enumerate
    have go : ∀ {A' : Around} {E : Value → Shared → Prop} {Q : Value → Shared → Prop}, Q (.ref hp.objs.size) ⟨hp.push (TuIt t), gl, dr, tk, os⟩ → wpAny (model pr wo) A' (pyIter (.ref t)) Q E ⟨hp, gl, dr, tk, os⟩ := fun q => (begins_tuple t us).iter pr wo _ _ ⟨hp, gl, dr, tk, os⟩ _ ht q
    wp_walk using go
    refine wpAny_stack_any fun st => wpAny_pure ?_
    split
    · rename_i c _ _ _ _ _
      cases (c == Value.type "enumerate") <;> (wp_walk using go; exact ⟨_, rfl, hyp⟩)
    · wp_walk using go
      exact ⟨_, rfl, hyp⟩
theorem callEnT {pr : Program} {wo : World} {A : Around} {E : Value → Shared → Prop} {s : Shared} {t : Addr} {us : Array Value} {Q : Value → Shared → Prop} (ht : s.heap.IsTuple t us)
    (q : ∀ h2, IsEnum h2 (s.heap.objs.size + 1) s.heap.objs.size 0 .none → h2.IsTupleIter s.heap.objs.size t 0 → (∀ b o, s.heap.get? b = some o → h2.get? b = some o) → Q (.ref (s.heap.objs.size + 1)) { s with heap := h2 }) :
    wpAny (model pr wo) A (call (.type "enumerate") [.ref t]) Q E s := by
  refine callType_new F.called_enumerate (by decide) (F.typeCall_enumerate_1 _) (F.newCall_enumerate_1 _) (fun obj => F.args_object_init_2 obj _) F.entry_enumerate_new (enNewT t us) ⟨ht, ?_⟩
  have z1 : (s.heap.push (TuIt t)).objs.size = s.heap.objs.size + 1 := Heap.size_push ..
  show _ ∧ _
  rw [z1]
  have gE : IsEnum ((s.heap.push (TuIt t)).push (EnOb s.heap.objs.size)) (s.heap.objs.size + 1) s.heap.objs.size 0 .none := by
    have := Heap.get?_push_size (s.heap.push (TuIt t)) (o := EnOb s.heap.objs.size) rfl
    rw [z1] at this
    exact this
  exact ⟨⟨_, gE, rfl⟩, q _ gE ⟨_, Heap.get?_push_of_some _ (Heap.get?_push_size _ rfl), rfl, rfl⟩ fun b o x => Heap.get?_push_of_some _ (Heap.get?_push_of_some _ x)⟩
/-- the tuple xs at a, each item in a new pair with its number -/
def IteT (K : PySem.W.Frag) (a : Addr) (xs : List V) : It :=
  ⟨fun i H => SqT K H a xs ∧ i < xs.length, fun i H v H' => ∃ T x, xs[i]? = some x ∧ v = .ref T ∧ H T = none ∧ H' = upd H T (.tup [.int (i : Nat), x]), fun i H => SqT K H a xs ∧ xs.length ≤ i⟩
theorem turnEnT {P : Program} {w : World} {K : PySem.W.Frag} {elts : List Expr} {kk : Nat} {tpos : Pos} {a e it : Addr} {xs : List V} (ea : e ≠ it) (ta : a ≠ it) :
    Turn P w K (.Tuple elts kk tpos) (IteT K a xs) [e, it] e (fun i h => (∃ old, IsEnum h e it ((i : Nat) : Int) old) ∧ h.IsTupleIter it a i) where
  mem := by simp
  obj := fun i h st b hb => by
    obtain ⟨⟨old, he⟩, o, ho, hc, hd⟩ := st
    simp only [List.mem_cons, List.not_mem_nil, or_false] at hb
    rcases hb with rfl | rfl
    · exact ⟨_, he, fun v q => nomatch q⟩
    · exact ⟨o, ho, fun v q => by rw [hd] at q; cases q⟩
  keep := fun i h h' st k => by
    obtain ⟨⟨old, he⟩, hi⟩ := st
    exact ⟨⟨old, k e (by simp) _ he⟩, hi.at fun o q => k it (by simp) o q⟩
  item := by
    intro X hP hw hK hc i pins s σ H E I hf st hg
    subst hP hw hK
    obtain ⟨⟨old, he⟩, hit⟩ := st
    obtain ⟨hq, hlt⟩ := hg
    obtain ⟨us, rv, p, hz⟩ := I.tuple hq
    have n1 : us.toArray.size = xs.length := by rw [List.size_toArray, rv.length]
    have ne : e ≠ a := fun z => by
      obtain ⟨o, ho, hcl, _⟩ := p
      rw [← z] at ho
      have g := ho.symm.trans he
      obtain rfl := Option.some.inj g
      exact absurd (Value.type.inj hcl) (by decide)
    have D := Draws.tuple (prog := X.prog) (w := X.w) (A := X.A.in1) (show X.A.in1.handled = none from I.ok.hd hc) it a ta us.toArray
    refine wpAny_pyNext_enum_itemD D he ⟨hit, p⟩ (by rw [n1]; exact hlt) ea (by simp [ea, ne]) fun u h2 tk hu ho hit2 hT hsz hk => ?_
    have elt : e < s.heap.objs.size := Heap.lt_size he
    have ilt : it < s.heap.objs.size := by obtain ⟨_, q, _⟩ := hit; exact Heap.lt_size q
    have hx : xs[i]? = some xs[i] := List.getElem?_eq_getElem hlt
    obtain ⟨u', hu', ru⟩ := rv.get hx
    have eu : u' = u := by
      rw [List.getElem?_toArray] at hu
      rw [hu] at hu'
      exact (Option.some.inj hu').symm
    subst eu
    refine ⟨_, rfl, wpAny_letOwnedTupleGo_enum (s := { s with heap := h2, toks := tk + 1 }) ho fun h3 he3 sb => ?_⟩
    have hT3 : h3.get? s.heap.objs.size = some { cls := .type "tuple", data := .seq #[.int i tk, u'] } := (sb.2 _ (Nat.ne_of_gt elt)).trans hT
    have new : ObjOk X.prog X.w (upd H s.heap.objs.size (.tup [.int (i : Nat), xs[i]])) h3 s.heap.objs.size (.tup [.int (i : Nat), xs[i]]) :=
      ⟨by show 2 ≤ sizeLine; decide, [.int i tk, u'], .cons ⟨_, rfl⟩ (.cons ru .nil), ⟨_, hT3, rfl, _, rfl⟩⟩
    have I1 : Inv X pins σ (upd H s.heap.objs.size (.tup [.int (i : Nat), xs[i]])) { s with heap := h3, toks := tk + 1 } :=
      I.turnedNew (ch := [e, it]) (fun b ob hb q => (sb.2 b fun z => hb (by simp [z])).trans (hk b ob (fun z => hb (by simp [z])) (fun z => hb (by simp [z])) q)) hf (Nat.le_refl _) new
    refine ⟨.ref s.heap.objs.size, _, I1, rfl, ⟨_, _, hx, rfl, I.hok.fresh (Nat.le_refl _), rfl⟩, ⟨⟨u', ?_⟩, hit2.1.at fun o q => (sb.2 it (Ne.symm ea)).trans q⟩, fun b hb => ?_⟩
    · have e1 : ((i + 1 : Nat) : Int) = (i : Int) + 1 := by omega
      rw [e1]
      exact he3
    · have hb2 : b < s.heap.objs.size := by
        simp only [List.mem_cons, List.not_mem_nil, or_false] at hb
        rcases hb with rfl | rfl
        · exact elt
        · exact ilt
      rw [upd_ne (Nat.ne_of_lt hb2)]
      exact (hf b hb).1
  done := by
    intro X hP hw hK hc i pins s σ H E I hf st hg
    subst hP hw hK
    obtain ⟨⟨old, he⟩, hit⟩ := st
    obtain ⟨hq, hle⟩ := hg
    obtain ⟨us, rv, p, hz⟩ := I.tuple hq
    have n1 : us.toArray.size = xs.length := by rw [List.size_toArray, rv.length]
    obtain ⟨f0, f1, f2, f3, f4, f5⟩ := hf it (by simp)
    have hT : s.TypeIs (.ref e) "enumerate" := ⟨_, he, rfl⟩
    unfold pyNext
    refine wpAny_bind (wpAny_attempt (wpAny_callSpecial?_slot (name := Str.ofString "__next__") hT F.slot_enumerate_next (wpAny_call_entry F.slot_enumerate_next hT F.entry_enumerate_next ?_ (F.args_enumerate_next_1 _))))
    show wpAny _ _ (field (.ref e) 2 >>= _) _ _ _
    refine wpAny_bind (wpAny_field he rfl (x := .ref it) rfl ?_)
    refine wpAny_bind (PySem.wpAny_nextOf_tuple_end (I.ok.hd hc) hit p (by rw [List.getElem?_toArray]; exact List.getElem?_eq_none (by rw [← rv.length]; exact hle)) fun h2 x eb ⟨o, ho, hcl⟩ => ?_)
    refine wpAny_bind (wpAny_isInstance (T := "StopIteration") (b := true) ⟨o, ho, hcl⟩ isSubtype_stop ?_)
    exact wpAny_pure ⟨rfl, I.turned (t' := s.toks) (fun b o hb q => eb b o hb q) f0 f1 f3 f4 f5⟩
  self := fun A i s Q E st h => let ⟨⟨_, he⟩, _⟩ := st; wpAny_pyIter_enum he h
def iEnumT (K : PySem.W.Frag) (ta : TA) : TI := fun σ H R => ta σ H fun vs H1 => ∃ a xs, vs = [.ref a] ∧ SqT K H1 a xs ∧ R (IteT K a xs) H1
theorem pi_enumT {X : Cx} {e : Expr} {ta : TA} {p pos tpos : Pos} {elts : List Expr} {kk : Nat} (hg : Gl X "enumerate") (hm : X.mg "enumerate" = none) (ha : PA X [e] ta) (hs : starEach [e] X.env = [(false, eval e X.env)] := by rfl) : PI X (.Tuple elts kk tpos) (.Call (.Name "enumerate" p) [e] [] pos) (iEnumT X.K ta) := by
  refine ⟨fun pins s σ H R I h => ?_⟩
  refine Call_ (ld_blt I hg hm boot_enumerate (PyProof.Rows.callWith_type1 (thn (ha.run pos pins s σ H _ I h) fun us s1 ⟨vs, H1, I1, r1, q1⟩ => ?_) hs rfl))
  obtain ⟨a, xs, rfl, hq, q⟩ := q1
  cases r1 with
  | cons r rr =>
    cases rr
    cases r
    obtain ⟨its, rv, p', hz⟩ := I1.tuple hq
    have alt : a < s1.heap.objs.size := by obtain ⟨_, g, _⟩ := id p'; exact Heap.lt_size g
    refine callEnT p' fun h2 he hit hk => wpAny_pyIter_enum he ?_
    have I2 : Inv X pins σ H1 { s1 with heap := h2 } := I1.kept (t' := s1.toks) hk
    refine ⟨s1.heap.objs.size + 1, [s1.heap.objs.size + 1, s1.heap.objs.size], _, _, H1, rfl, I2, turnEnT (e := s1.heap.objs.size + 1) (it := s1.heap.objs.size) (Nat.succ_ne_self _) (Nat.ne_of_lt alt), ⟨⟨.none, he⟩, hit⟩, fun b hb => ?_, q⟩
    have hle : s1.heap.objs.size ≤ b := by
      simp only [List.mem_cons, List.not_mem_nil, or_false] at hb
      rcases hb with rfl | rfl <;> omega
    exact I1.fpOk hle (I1.hok.fresh hle)
/-- a loop over enumerate of a tuple -/
theorem for_enT {K : PySem.W.Frag} {a : Addr} {xs : List V} {g : TG} {tb : TS} {D : Ends} {σ : L2.St} {H : Hp} (Pv : Nat → L2.St → Hp → Prop) (h0 : Pv 0 σ H) (hq : ∀ i σ H, Pv i σ H → SqT K H a xs)
    (hs : ∀ (i : Nat) (x : V) (T : Addr) (σ : L2.St) (H : Hp), xs[i]? = some x → Pv i σ H → H T = none → g (.ref T) σ (upd H T (.tup [.int (i : Nat), x])) fun σ2 H2 => tb { D with nx := Pv (i + 1), ct := Pv (i + 1), bk := D.nx } σ2 H2) (hd : ∀ σ H, Pv xs.length σ H → D.nx σ H) :
    ∃ W : Nat → Nat → L2.St → Hp → Prop, (∃ m, W 0 m σ H) ∧ ∀ i m σ H, W i m σ H →
      ((IteT K a xs).stop i H ∧ D.nx σ H) ∨ ((IteT K a xs).go i H ∧ ∃ N : L2.St → Hp → Prop, (∀ σ' H', N σ' H' → ∃ m', m' < m ∧ W (i + 1) m' σ' H') ∧ ∀ v H', (IteT K a xs).yld i H v H' → g v σ H' fun σ2 H2 => tb { D with nx := N, ct := N, bk := D.nx } σ2 H2) := by
  refine ⟨fun i m σ H => m = xs.length - i ∧ i ≤ xs.length ∧ Pv i σ H, ⟨_, rfl, Nat.zero_le _, h0⟩, fun i m σ H hw => ?_⟩
  obtain ⟨rfl, hi, p⟩ := hw
  by_cases lt : i < xs.length
  · refine .inr ⟨⟨hq i σ H p, lt⟩, Pv (i + 1), fun σ' H' p' => ⟨_, by omega, rfl, lt, p'⟩, fun v H' y => ?_⟩
    obtain ⟨T, x, hx, rfl, hT, rfl⟩ := y
    exact hs i x T σ H hx p hT
  · have e : i = xs.length := by omega
    subst e
    exact .inl ⟨⟨hq _ σ H p, Nat.le_refl _⟩, hd σ H p⟩
end CB.Z

namespace CB
open PySem PySem.Spec PyProof.Rows L2
/-! ### products of polynomials -/
/-- what the first i coefficients of xs give to the coefficient k of the product -/
def cvS (xs ys : List Int) : Nat → Nat → Int
  | 0, _ => 0
  | i + 1, k => cvS xs ys i k + if i ≤ k then xs.getD i 0 * ys.getD (k - i) 0 else 0
/-- the coefficient k of the product -/
def cv (xs ys : List Int) (k : Nat) : Int := cvS xs ys xs.length k
theorem cvS_end {xs ys : List Int} (k n : Nat) : cvS xs ys (xs.length + n) k = cv xs ys k := by
  induction n with
  | zero => rfl
  | succ n ih =>
    show cvS xs ys (xs.length + n) k + _ = _
    rw [ih, getD_end (xs := xs) (by show xs.length ≤ xs.length + n; omega)]
    simp
theorem cvS_ge {xs ys : List Int} {k n : Nat} (h : xs.length ≤ n) : cvS xs ys n k = cv xs ys k := by
  obtain ⟨m, rfl⟩ : ∃ m, n = xs.length + m := ⟨n - xs.length, by omega⟩
  exact cvS_end k m
theorem cvS_zero {xs ys : List Int} {k : Nat} (h : xs.length + ys.length ≤ k + 1) : ∀ n, n ≤ xs.length → cvS xs ys n k = 0
  | 0, _ => rfl
  | n + 1, hn => by
    rw [cvS, cvS_zero h n (by omega)]
    split
    · rw [getD_end (xs := ys) (by omega), Int.mul_zero]; rfl
    · rfl
theorem cv_zero {xs ys : List Int} {k : Nat} (h : xs.length + ys.length ≤ k + 1) : cv xs ys k = 0 := cvS_zero h _ (Nat.le_refl _)
theorem cvS_nil {xs ys : List Int} (h : ys.length = 0) (k : Nat) : ∀ n, cvS xs ys n k = 0
  | 0 => rfl
  | n + 1 => by
    rw [cvS, cvS_nil h k n]
    split
    · rw [getD_end (xs := ys) (by omega), Int.mul_zero]; rfl
    · rfl
theorem cv_nil {xs ys : List Int} (h : xs.length = 0 ∨ ys.length = 0) (k : Nat) : cv xs ys k = 0 := by
  rcases h with h | h
  · unfold cv; rw [h]; rfl
  · exact cvS_nil h k _
/-- the product of other pairs -/
theorem cvS_conv {as bs xs ys : List Int} {a b e f : Int} (h1 : ∀ i, as.getD i 0 * e = xs.getD i 0 * a) (h2 : ∀ i, bs.getD i 0 * f = ys.getD i 0 * b) (k : Nat) : ∀ n, cvS as bs n k * (e * f) = cvS xs ys n k * (a * b)
  | 0 => by simp [cvS]
  | n + 1 => by
    have ih := cvS_conv h1 h2 k n
    rw [cvS, cvS, Int.add_mul, Int.add_mul, ih]
    congr 1
    split
    · have e1 := h1 n
      have e2 := h2 (k - n)
      grind
    · simp
theorem cv_conv {as bs xs ys : List Int} {a b e f : Int} (h1 : ∀ i, as.getD i 0 * e = xs.getD i 0 * a) (h2 : ∀ i, bs.getD i 0 * f = ys.getD i 0 * b) (k : Nat) : cv as bs k * (e * f) = cv xs ys k * (a * b) := by
  have z := cvS_conv h1 h2 k (max as.length xs.length)
  rwa [cvS_ge (by omega), cvS_ge (by omega)] at z
theorem cvS_bits {xs ys : List Int} {p q : Nat} (h1 : ∀ i, (xs.getD i 0).natAbs < 2 ^ p) (h2 : ∀ i, (ys.getD i 0).natAbs < 2 ^ q) (k : Nat) : ∀ n, (cvS xs ys n k).natAbs < 2 ^ (p + q + n)
  | 0 => Nat.pow_pos (by decide)
  | n + 1 => by
    have ih := cvS_bits h1 h2 k n
    rw [cvS]
    have t : (if n ≤ k then xs.getD n 0 * ys.getD (k - n) 0 else 0).natAbs < 2 ^ (p + q) := by
      split
      · exact abs_lt_mul (h1 n) (h2 _)
      · exact Nat.pow_pos (by decide)
    refine abs_mono (sz_add ih t) ?_
    omega
/-- zs is the product of xs and ys -/
structure IsMul (zs xs ys : List Int) : Prop where
  at_ : ∀ k, zs.getD k 0 = cv xs ys k
  len : zs.length ≤ xs.length + ys.length
theorem Pq.mul {a b : Int} {as bs ks js ms zs ws : List Int} {e f g : Int} (p1 : Pq as a ks e) (p2 : Pq bs b js f) (z : IsMul zs ks js) (w : IsMul ws as bs) (p : Pq zs (e * f) ms g) : Pq ws (a * b) ms g := by
  have q1 := p1.pos
  have q2 := p2.pos
  refine p.conv (Int.mul_ne_zero (by omega) (by omega)) fun i => ?_
  rw [z.at_, w.at_]
  exact cv_conv p1.eq p2.eq i
/-- the list while it is made: i rows are added, and j items of the next one -/
structure MulAt (fs xs ys : List Int) (N i j : Nat) : Prop where
  len : fs.length = N
  at_ : ∀ k, fs.getD k 0 = cvS xs ys i k + if i ≤ k ∧ k - i < j then xs.getD i 0 * ys.getD (k - i) 0 else 0
theorem MulAt.start {xs ys : List Int} {N : Nat} : MulAt (List.replicate N 0) xs ys N 0 0 := ⟨List.length_replicate, fun k => by
  have z : (List.replicate N (0 : Int)).getD k 0 = 0 := by
    rw [List.getD_eq_getElem?_getD, List.getElem?_replicate]
    split <;> rfl
  rw [z]
  simp [cvS]⟩
theorem MulAt.row {fs xs ys : List Int} {N i j : Nat} (m : MulAt fs xs ys N i j) (h : ys.length ≤ j) : MulAt fs xs ys N (i + 1) 0 := ⟨m.len, fun k => by
  rw [m.at_ k, cvS]
  simp only [Nat.not_lt_zero, and_false, if_false, Int.add_zero]
  congr 1
  by_cases c : i ≤ k
  · by_cases c2 : k - i < j
    · rw [if_pos ⟨c, c2⟩, if_pos c]
    · rw [if_neg (fun z => c2 z.2), if_pos c, getD_end (xs := ys) (by omega), Int.mul_zero]
  · rw [if_neg (fun z => c z.1), if_neg c]⟩
theorem MulAt.skip {fs xs ys : List Int} {N i : Nat} (m : MulAt fs xs ys N i 0) (h : xs.getD i 0 = 0) : MulAt fs xs ys N (i + 1) 0 := ⟨m.len, fun k => by
  rw [m.at_ k, cvS, h]
  simp⟩
theorem getD_set {fs : List Int} {n k : Nat} {v : Int} (h : n < fs.length) : (fs.set n v).getD k 0 = if k = n then v else fs.getD k 0 := by
  rw [List.getD_eq_getElem?_getD, List.getD_eq_getElem?_getD, List.getElem?_set]
  by_cases c : n = k
  · subst c
    rw [if_pos rfl, if_pos h, if_pos rfl]
    rfl
  · rw [if_neg c, if_neg (fun z => c z.symm)]
theorem MulAt.step {fs xs ys : List Int} {N i j : Nat} {v : Int} (m : MulAt fs xs ys N i j) (h : i + j < N) (hv : v = fs.getD (i + j) 0 + xs.getD i 0 * ys.getD j 0) : MulAt (fs.set (i + j) v) xs ys N i (j + 1) := ⟨by rw [List.length_set, m.len], fun k => by
  rw [getD_set (by rw [m.len]; exact h)]
  by_cases c : k = i + j
  · subst c
    rw [if_pos rfl, hv, m.at_, if_neg (by omega), if_pos (by omega)]
    have e : i + j - i = j := by omega
    rw [e, Int.add_zero]
  · rw [if_neg c, m.at_]
    congr 1
    by_cases c2 : i ≤ k ∧ k - i < j
    · rw [if_pos c2, if_pos (by omega)]
    · rw [if_neg c2, if_neg (by omega)]⟩
theorem MulAt.fin {fs xs ys : List Int} {N i : Nat} (m : MulAt fs xs ys N i 0) (h : xs.length ≤ i) (hN : N ≤ xs.length + ys.length) : IsMul fs xs ys := ⟨fun k => by
  rw [m.at_, cvS_ge h]
  simp, by rw [m.len]; exact hN⟩
theorem get_map_int {xs : List Int} {i : Nat} {x : V} (h : (xs.map V.int)[i]? = some x) : ∃ c, xs[i]? = some c ∧ x = .int c := by
  rw [List.getElem?_map] at h
  cases e : xs[i]? with
  | none => rw [e] at h; cases h
  | some u => rw [e] at h; cases h; exact ⟨u, rfl, rfl⟩
/-- a name of the module that holds a number -/
theorem pe_globI {X : Cx} {x : Str} {n : Int} {p : Pos} (hg : Gl X x) (h : ∃ t, X.mg x = some (.int n t)) (hd : (x == ("__debug__" : Str)) = false := by decide) : PE X (.Name x p) (tC (.int n)) := by
  obtain ⟨t, h⟩ := h
  exact pe_glob (v := .int n) hg h ⟨_, rfl⟩ hd
/-- what no reading reaches -/
theorem pss_dead {X : Cx} {st : List Stmt} : PSs X st (fun _ _ _ => False) := ⟨fun _ _ _ _ _ _ h => h.elim⟩
theorem map_set_V {xs : List Int} {n : Nat} {x : Int} : (xs.map V.int).set n (.int x) = (xs.set n x).map V.int := by rw [List.map_set]
theorem ixN_at {n j : Nat} {i : Int} (h : i = j) (l : j < n) : ixN n i = some j := by
  subst h
  unfold ixN
  rw [if_pos (by omega), if_pos (by omega)]
  rfl
end CB

namespace CB
open PySem PySem.Spec PyProof.Rows L2
/-! ### finite sums -/
def sumTo (f : Nat → Int) : Nat → Int
  | 0 => 0
  | n + 1 => sumTo f n + f n
theorem sumTo_congr {f g : Nat → Int} : ∀ n, (∀ i, i < n → f i = g i) → sumTo f n = sumTo g n
  | 0, _ => rfl
  | n + 1, h => by rw [sumTo, sumTo, sumTo_congr n fun i hi => h i (by omega), h n (by omega)]
theorem sumTo_add (f g : Nat → Int) : ∀ n, sumTo (fun i => f i + g i) n = sumTo f n + sumTo g n
  | 0 => rfl
  | n + 1 => by rw [sumTo, sumTo, sumTo, sumTo_add f g n]; omega
theorem sumTo_mul (c : Int) (f : Nat → Int) : ∀ n, sumTo (fun i => c * f i) n = c * sumTo f n
  | 0 => by simp [sumTo]
  | n + 1 => by rw [sumTo, sumTo, sumTo_mul c f n, Int.mul_add]
theorem sumTo_zero {f : Nat → Int} : ∀ n, (∀ i, i < n → f i = 0) → sumTo f n = 0
  | 0, _ => rfl
  | n + 1, h => by rw [sumTo, sumTo_zero n fun i hi => h i (by omega), h n (by omega)]; rfl
theorem sumTo_first (f : Nat → Int) : ∀ n, sumTo f (n + 1) = f 0 + sumTo (fun i => f (i + 1)) n
  | 0 => by simp [sumTo]
  | n + 1 => by rw [sumTo, sumTo_first f n, sumTo]; omega
theorem sumTo_swap (f : Nat → Nat → Int) (m : Nat) : ∀ n, sumTo (fun i => sumTo (fun j => f i j) m) n = sumTo (fun j => sumTo (fun i => f i j) n) m
  | 0 => (sumTo_zero m fun _ _ => rfl).symm
  | n + 1 => by
    rw [sumTo, sumTo_swap f m n, ← sumTo_add]
    exact sumTo_congr m fun i _ => rfl
theorem sumTo_one {f : Nat → Int} {k : Nat} : ∀ n, k < n → (∀ i, i < n → i ≠ k → f i = 0) → sumTo f n = f k
  | 0, h, _ => absurd h (Nat.not_lt_zero _)
  | n + 1, h, z => by
    rw [sumTo]
    by_cases c : k = n
    · subst c
      rw [sumTo_zero k fun i hi => z i (by omega) (by omega)]
      omega
    · rw [sumTo_one n (by omega) fun i hi ne => z i (by omega) ne, z n (by omega) (fun e => c e.symm)]
      omega
/-! ### the powers of x + s -/
def pw (s : Int) : Nat → Nat → Int
  | 0, 0 => 1
  | 0, _ + 1 => 0
  | i + 1, 0 => s * pw s i 0
  | i + 1, k + 1 => s * pw s i (k + 1) + pw s i k
theorem pw_high (s : Int) : ∀ i k, i < k → pw s i k = 0
  | 0, k + 1, _ => rfl
  | i + 1, k + 1, h => by
    rw [pw, pw_high s i (k + 1) (by omega), pw_high s i k (by omega)]
    simp
theorem pw_zero : ∀ i k, pw 0 i k = if i = k then 1 else 0
  | 0, 0 => rfl
  | 0, k + 1 => rfl
  | i + 1, 0 => by rw [pw, Int.zero_mul, if_neg (by omega)]
  | i + 1, k + 1 => by
    rw [pw, Int.zero_mul, pw_zero i k, Int.zero_add]
    by_cases c : i = k
    · rw [if_pos c, if_pos (by omega)]
    · rw [if_neg c, if_neg (by omega)]
/-- the coefficient k of f(x + s), f with n coefficients -/
def shV (s : Int) (f : Nat → Int) (n k : Nat) : Int := sumTo (fun i => f i * pw s i k) n
theorem shV_more {s : Int} {f : Nat → Int} {n : Nat} (k m : Nat) (h : ∀ i, n ≤ i → f i = 0) : shV s f (n + m) k = shV s f n k := by
  induction m with
  | zero => rfl
  | succ m ih =>
    show sumTo _ (n + m) + f (n + m) * _ = _
    rw [h (n + m) (by omega), Int.zero_mul, Int.add_zero]
    exact ih
theorem shV_ge {s : Int} {f : Nat → Int} {n m : Nat} (k : Nat) (h : ∀ i, n ≤ i → f i = 0) (l : n ≤ m) : shV s f m k = shV s f n k := by
  obtain ⟨j, rfl⟩ : ∃ j, m = n + j := ⟨m - n, by omega⟩
  exact shV_more k j h
theorem shV_mul {s c : Int} {f : Nat → Int} {n : Nat} (k : Nat) : shV s (fun i => c * f i) n k = c * shV s f n k := by
  unfold shV
  rw [← sumTo_mul]
  exact sumTo_congr n fun i _ => by grind
theorem shV_congr {s : Int} {f g : Nat → Int} {n : Nat} (k : Nat) (h : ∀ i, i < n → f i = g i) : shV s f n k = shV s g n k := sumTo_congr n fun i hi => by rw [h i hi]
/-- (x + s) ^ j, moved back -/
theorem pw_back (s : Int) : ∀ (j k m : Nat), j < m → sumTo (fun i => pw s j i * pw (-s) i k) m = if j = k then 1 else 0
  | 0, k, m, h => by
    rw [sumTo_one (k := 0) m h fun i hi ne => by
      cases i with
      | zero => exact absurd rfl ne
      | succ i => rw [pw, Int.zero_mul]]
    cases k with
    | zero => rfl
    | succ k => simp [pw]
  | j + 1, k, m, h => by
    obtain ⟨m, rfl⟩ : ∃ n, m = n + 1 := ⟨m - 1, by omega⟩
    -- the part of s
    have e1 : sumTo (fun i => pw s (j + 1) i * pw (-s) i k) (m + 1) = s * sumTo (fun i => pw s j i * pw (-s) i k) (m + 1) + sumTo (fun i => pw s j i * pw (-s) (i + 1) k) m := by
      rw [sumTo_first, sumTo_first (fun i => pw s j i * pw (-s) i k), Int.mul_add, ← sumTo_mul, Int.add_assoc, ← sumTo_add]
      congr 1
      · show pw s (j + 1) 0 * _ = _
        rw [pw]
        grind
      · exact sumTo_congr m fun i _ => by
          show pw s (j + 1) (i + 1) * _ = _
          rw [pw]
          grind
    have b := pw_back s j k (m + 1) (by omega)
    have b1 := pw_back s j k m (by omega)
    rw [e1, b]
    cases k with
    | zero =>
      have e2 : sumTo (fun i => pw s j i * pw (-s) (i + 1) 0) m = -s * sumTo (fun i => pw s j i * pw (-s) i 0) m := by
        rw [← sumTo_mul]
        exact sumTo_congr m fun i _ => by
          rw [pw]
          grind
      rw [e2, b1]
      by_cases c : j = 0
      · rw [if_pos c, if_neg (by omega)]; grind
      · rw [if_neg c, if_neg (by omega)]; grind
    | succ k =>
      have e2 : sumTo (fun i => pw s j i * pw (-s) (i + 1) (k + 1)) m = -s * sumTo (fun i => pw s j i * pw (-s) i (k + 1)) m + sumTo (fun i => pw s j i * pw (-s) i k) m := by
        rw [← sumTo_mul, ← sumTo_add]
        exact sumTo_congr m fun i _ => by
          rw [pw]
          grind
      rw [e2, b1, pw_back s j k m (by omega)]
      by_cases c : j = k
      · rw [if_pos c, if_pos (show j + 1 = k + 1 by omega), if_neg (show ¬ j = k + 1 by omega)]; grind
      · rw [if_neg c, if_neg (show ¬ j + 1 = k + 1 by omega)]
        split <;> grind
/-- moved and moved back -/
theorem shV_back {s : Int} {f : Nat → Int} {n k : Nat} (h : ∀ i, n ≤ i → f i = 0) : shV (-s) (fun i => shV s f n i) n k = f k := by
  have e : shV (-s) (fun i => shV s f n i) n k = sumTo (fun j => f j * sumTo (fun i => pw s j i * pw (-s) i k) n) n := by
    unfold shV
    have z : ∀ i, sumTo (fun j => f j * pw s j i) n * pw (-s) i k = sumTo (fun j => pw (-s) i k * (f j * pw s j i)) n := fun i => by rw [sumTo_mul]; grind
    rw [sumTo_congr n fun i _ => z i, sumTo_swap]
    exact sumTo_congr n fun j _ => by
      rw [← sumTo_mul]
      exact sumTo_congr n fun i _ => by grind
  rw [e]
  by_cases c : k < n
  · rw [sumTo_one (k := k) n c fun i hi ne => by rw [pw_back s i k n hi, if_neg ne, Int.mul_zero], pw_back s k k n c, if_pos rfl, Int.mul_one]
  · rw [h k (by omega)]
    exact sumTo_zero n fun i hi => by rw [pw_back s i k n hi, if_neg (by omega), Int.mul_zero]
/-! ### by the first coefficient -/
def shC (s : Int) : List Int → Nat → Int
  | [], _ => 0
  | c :: r, 0 => c + s * shC s r 0
  | c :: r, k + 1 => shC s r k + s * shC s r (k + 1)
theorem shC_eq (s : Int) : ∀ (cs : List Int) (k : Nat), shC s cs k = shV s (fun i => cs.getD i 0) cs.length k
  | [], _ => rfl
  | c :: r, k => by
    unfold shV
    rw [List.length_cons, sumTo_first]
    cases k with
    | zero =>
      show c + s * shC s r 0 = c * 1 + sumTo (fun i => r.getD i 0 * (s * pw s i 0)) r.length
      rw [shC_eq s r 0, Int.mul_one]
      congr 1
      unfold shV
      rw [← sumTo_mul]
      exact sumTo_congr _ fun i _ => by grind
    | succ k =>
      show shC s r k + s * shC s r (k + 1) = c * 0 + sumTo (fun i => r.getD i 0 * (s * pw s i (k + 1) + pw s i k)) r.length
      rw [shC_eq s r k, shC_eq s r (k + 1), Int.mul_zero, Int.zero_add]
      unfold shV
      rw [← sumTo_mul, ← sumTo_add]
      exact sumTo_congr _ fun i _ => by grind
/-- one pass of the division by x - s -/
def hornL (s : Int) : List Int → List Int
  | [] => []
  | c :: r => (c + s * shC s r 0) :: hornL s r
theorem hornL_len (s : Int) : ∀ r, (hornL s r).length = r.length
  | [] => rfl
  | c :: r => by rw [hornL, List.length_cons, List.length_cons, hornL_len s r]
theorem hornL_at (s : Int) : ∀ (r : List Int) (k : Nat), (hornL s r).getD k 0 = shC s (r.drop k) 0
  | [], k => by cases k <;> rfl
  | c :: r, 0 => rfl
  | c :: r, k + 1 => hornL_at s r k
theorem shC_step (s : Int) : ∀ (r : List Int) (c : Int) (k : Nat), shC s (c :: r) (k + 1) = shC s (hornL s r) k
  | [], c, k => by cases k <;> simp [shC, hornL]
  | d :: r, c, 0 => by
    have e := shC_step s r d 0
    show shC s (d :: r) 0 + s * shC s (d :: r) (0 + 1) = (d + s * shC s r 0) + s * shC s (hornL s r) 0
    rw [e]
    rfl
  | d :: r, c, k + 1 => by
    have e1 := shC_step s r d k
    have e2 := shC_step s r d (k + 1)
    show shC s (d :: r) (k + 1) + s * shC s (d :: r) (k + 1 + 1) = shC s (hornL s r) k + s * shC s (hornL s r) (k + 1)
    rw [e1, e2]
theorem drop_one {fs : List Int} {i : Nat} (h : i < fs.length) : fs.drop i = fs.getD i 0 :: fs.drop (i + 1) := by
  rw [List.drop_eq_getElem_cons h]
  congr 1
  rw [List.getD_eq_getElem?_getD, List.getElem?_eq_getElem h]
  rfl
/-- i passes are done -/
structure ShAt (s : Int) (cs fs : List Int) (i : Nat) : Prop where
  len : fs.length = cs.length
  lo : ∀ k, k < i → fs.getD k 0 = shC s cs k
  hi : ∀ k, shC s cs (i + k) = shC s (fs.drop i) k
/-- within a pass: the places from j on are done -/
structure ShIn (s : Int) (fs gs : List Int) (j : Nat) : Prop where
  len : gs.length = fs.length
  lo : ∀ k, k < j → gs.getD k 0 = fs.getD k 0
  hi : ∀ k, j ≤ k → gs.getD k 0 = shC s (fs.drop k) 0
theorem ShAt.start {s : Int} {cs : List Int} : ShAt s cs cs 0 := ⟨rfl, fun k h => absurd h (Nat.not_lt_zero _), fun k => by rw [Nat.zero_add, List.drop_zero]⟩
theorem ShIn.start {s : Int} {fs : List Int} : ShIn s fs fs (fs.length - 1) := ⟨rfl, fun _ _ => rfl, fun k h => by
  by_cases c : k < fs.length
  · rw [drop_one c, show fs.drop (k + 1) = [] from List.drop_of_length_le (by omega)]
    simp [shC]
  · rw [getD_end (by omega), List.drop_of_length_le (by omega)]
    rfl⟩
theorem ShIn.step {s v : Int} {fs gs : List Int} {j : Nat} (m : ShIn s fs gs (j + 1)) (h : j + 1 < fs.length) (hv : v = gs.getD j 0 + s * gs.getD (j + 1) 0) : ShIn s fs (gs.set j v) j := by
  have hj : j < gs.length := by rw [m.len]; omega
  refine ⟨by rw [List.length_set, m.len], fun k hk => ?_, fun k hk => ?_⟩
  · rw [getD_set hj, if_neg (by omega)]
    exact m.lo k (by omega)
  · rw [getD_set hj]
    by_cases c : k = j
    · subst c
      rw [if_pos rfl, hv, m.lo k (by omega), m.hi (k + 1) (Nat.le_refl _), drop_one (i := k) (by omega)]
      rfl
    · rw [if_neg c]
      exact m.hi k (by omega)
theorem ShAt.pass {s : Int} {cs fs gs : List Int} {i : Nat} (a : ShAt s cs fs i) (m : ShIn s fs gs i) (h : i < fs.length) : ShAt s cs gs (i + 1) := by
  refine ⟨by rw [m.len, a.len], fun k hk => ?_, fun k => ?_⟩
  · by_cases c : k = i
    · subst c
      rw [m.hi k (Nat.le_refl _)]
      exact (a.hi 0).symm
    · rw [m.lo k (by omega)]
      exact a.lo k (by omega)
  · have e : gs.drop (i + 1) = hornL s (fs.drop (i + 1)) := by
      refine list_ext (by rw [hornL_len, List.length_drop, List.length_drop, m.len]) fun k => ?_
      rw [hornL_at, List.drop_drop, List.getD_eq_getElem?_getD, List.getElem?_drop, ← List.getD_eq_getElem?_getD]
      exact m.hi _ (by omega)
    rw [e, ← shC_step s (fs.drop (i + 1)) (fs.getD i 0) k, ← drop_one h, ← a.hi (k + 1)]
    congr 1
    omega
theorem ShAt.fin {s : Int} {cs fs : List Int} {i : Nat} (a : ShAt s cs fs i) (h : cs.length ≤ i + 1) (k : Nat) : fs.getD k 0 = shC s cs k := by
  by_cases c : k < i
  · exact a.lo k c
  · have e := a.hi (k - i)
    rw [show i + (k - i) = k by omega] at e
    rw [e]
    by_cases c2 : i < fs.length
    · rw [drop_one c2, show fs.drop (i + 1) = [] from List.drop_of_length_le (by rw [a.len]; omega)]
      obtain ⟨m, hm⟩ : ∃ m, k - i = m := ⟨_, rfl⟩
      rw [hm]
      cases m with
      | zero => rw [show k = i by omega]; simp [shC]
      | succ m => rw [getD_end (by rw [a.len]; omega)]; simp [shC]
    · rw [List.drop_of_length_le (by omega), getD_end (by omega)]
      rfl
/-- zs is cs moved by s -/
structure IsSh (s : Int) (zs cs : List Int) : Prop where
  at_ : ∀ k, zs.getD k 0 = shV s (fun i => cs.getD i 0) cs.length k
  len : zs.length = cs.length
theorem shV_list {s : Int} {cs : List Int} {n : Nat} (h : cs.length ≤ n) (k : Nat) : shV s (fun i => cs.getD i 0) n k = shV s (fun i => cs.getD i 0) cs.length k := shV_ge k (fun i hi => getD_end hi) h
theorem shV_pair {s : Int} {as xs : List Int} {a e : Int} (h : ∀ i, as.getD i 0 * e = xs.getD i 0 * a) (k : Nat) :
    shV s (fun i => as.getD i 0) as.length k * e = shV s (fun i => xs.getD i 0) xs.length k * a := by
  rw [← shV_list (n := max as.length xs.length) (by omega), ← shV_list (cs := xs) (n := max as.length xs.length) (by omega), Int.mul_comm, Int.mul_comm _ a, ← shV_mul, ← shV_mul]
  exact shV_congr k fun i _ => by
    have := h i
    grind
theorem Pq.shift {s a e g : Int} {as ks zs ws ms : List Int} (p : Pq as a ks e) (z : IsSh s zs ks) (w : ∀ k, ws.getD k 0 = shV s (fun i => as.getD i 0) as.length k) (q : Pq zs e ms g) : Pq ws a ms g := by
  refine q.conv (by have := p.pos; omega) fun i => ?_
  rw [z.at_, w]
  exact shV_pair p.eq i
/-- back again -/
theorem Pq.unshift {s a e g f : Int} {as ks zs ms ys js : List Int} (p : Pq as a ks e) (z : IsSh s zs ks) (q : Pq zs e ms g) (y : IsSh (-s) ys ms) (r : Pq ys g js f) : Pq as a js f := by
  have e0 := p.pos
  have g0 := q.pos
  refine r.conv (by omega) fun i => ?_
  have h1 := shV_pair (s := -s) q.eq i
  rw [← y.at_] at h1
  -- zs moved back is ks
  have h2 : shV (-s) (fun i => zs.getD i 0) zs.length i = ks.getD i 0 := by
    rw [z.len, shV_congr i fun j _ => z.at_ j]
    exact shV_back fun i hi => getD_end hi
  rw [h2] at h1
  have h3 := p.eq i
  have : (ys.getD i 0 * a) * e = (as.getD i 0 * g) * e := by grind
  exact Int.eq_of_mul_eq_mul_right (by omega) this
theorem IsSh.zero {zs cs : List Int} (z : IsSh 0 zs cs) (k : Nat) : zs.getD k 0 = cs.getD k 0 := by
  rw [z.at_]
  by_cases c : k < cs.length
  · unfold shV
    rw [sumTo_one (k := k) _ c fun i hi ne => by rw [pw_zero, if_neg ne, Int.mul_zero], pw_zero, if_pos rfl, Int.mul_one]
  · rw [getD_end (xs := cs) (by omega)]
    exact sumTo_zero _ fun i hi => by rw [pw_zero, if_neg (by omega), Int.mul_zero]
/-! ### the powers of x + s as products -/
theorem cvS_lin {xs : List Int} {s : Int} (k : Nat) : ∀ n, cvS xs [s, 1] n k = (if k < n then s * xs.getD k 0 else 0) + if 0 < k ∧ k - 1 < n then xs.getD (k - 1) 0 else 0
  | 0 => by simp [cvS]
  | n + 1 => by
    rw [cvS, cvS_lin k n]
    by_cases c1 : n = k
    · subst c1
      rw [if_pos (Nat.le_refl _), Nat.sub_self, if_neg (Nat.lt_irrefl _), if_pos (Nat.lt_succ_self _)]
      show 0 + _ + xs.getD n 0 * s = _
      by_cases c2 : 0 < n
      · rw [if_pos ⟨c2, by omega⟩, if_pos ⟨c2, by omega⟩]; grind
      · rw [if_neg (fun z => c2 z.1), if_neg (fun z => c2 z.1)]; grind
    · by_cases c2 : n + 1 = k
      · subst c2
        rw [if_pos (show n ≤ n + 1 by omega), if_neg (show ¬ n + 1 < n by omega), if_neg (show ¬ (0 < n + 1 ∧ n + 1 - 1 < n) by omega), if_neg (show ¬ n + 1 < n + 1 by omega), if_pos (show 0 < n + 1 ∧ n + 1 - 1 < n + 1 by omega), show n + 1 - n = 1 by omega, show n + 1 - 1 = n by omega]
        show 0 + 0 + xs.getD n 0 * 1 = _
        omega
      · have e : (if n ≤ k then xs.getD n 0 * [s, 1].getD (k - n) 0 else 0) = 0 := by
          split
          · rw [getD_end (xs := [s, 1]) (by show 2 ≤ k - n; omega), Int.mul_zero]
          · rfl
        rw [e, Int.add_zero]
        congr 1
        · by_cases c3 : k < n
          · rw [if_pos c3, if_pos (by omega)]
          · rw [if_neg c3, if_neg (by omega)]
        · by_cases c3 : 0 < k ∧ k - 1 < n
          · rw [if_pos c3, if_pos (by omega)]
          · rw [if_neg c3, if_neg (by omega)]
theorem pw_next {s : Int} {ps qs : List Int} {i : Nat} (h : ∀ k, ps.getD k 0 = pw s i k) (m : IsMul qs ps [s, 1]) (k : Nat) : qs.getD k 0 = pw s (i + 1) k := by
  rw [m.at_]
  have e := cvS_lin (xs := ps) (s := s) k (ps.length + k + 1)
  rw [cvS_ge (by omega)] at e
  rw [e, if_pos (by omega)]
  cases k with
  | zero => rw [if_neg (by omega), h, pw]; omega
  | succ k => rw [if_pos (by omega), h, show k + 1 - 1 = k by omega, h, pw]
end CB

namespace CB
open PySem PySem.Spec PyProof.Rows L2
/-! ### division with remainder -/
theorem cvS_set {xs ys : List Int} {a : Nat} {v : Int} (h : a < xs.length) (k : Nat) : ∀ n, cvS (xs.set a v) ys n k = cvS xs ys n k + if a < n ∧ a ≤ k then (v - xs.getD a 0) * ys.getD (k - a) 0 else 0
  | 0 => by rw [if_neg (by omega)]; rfl
  | n + 1 => by
    rw [cvS, cvS, cvS_set h k n, getD_set h]
    by_cases c : n = a
    · subst c
      rw [if_pos rfl, if_neg (show ¬ (n < n ∧ n ≤ k) by omega)]
      by_cases c2 : n ≤ k
      · rw [if_pos c2, if_pos c2, if_pos (show n < n + 1 ∧ n ≤ k by omega), Int.sub_mul]
        omega
      · rw [if_neg c2, if_neg c2, if_neg (show ¬ (n < n + 1 ∧ n ≤ k) by omega)]
    · rw [if_neg c]
      by_cases c2 : a < n ∧ a ≤ k
      · rw [if_pos c2, if_pos (show a < n + 1 ∧ a ≤ k by omega)]
        omega
      · rw [if_neg c2, if_neg (show ¬ (a < n + 1 ∧ a ≤ k) by omega)]
        omega
theorem cv_set {xs ys : List Int} {a : Nat} {v : Int} (h : a < xs.length) (k : Nat) : cv (xs.set a v) ys k = cv xs ys k + if a ≤ k then (v - xs.getD a 0) * ys.getD (k - a) 0 else 0 := by
  unfold cv
  rw [List.length_set, cvS_set h]
  congr 1
  by_cases c : a ≤ k
  · rw [if_pos ⟨h, c⟩, if_pos c]
  · rw [if_neg (fun z => c z.2), if_neg c]
theorem cv_scale {xs ys : List Int} {s : Int} (k : Nat) : cv (xs.map fun x => x * s) ys k = cv xs ys k * s := by
  have z := cv_conv (as := xs.map fun x => x * s) (bs := ys) (xs := xs) (ys := ys) (a := s) (b := 1) (e := 1) (f := 1) (fun i => by rw [mul_at, Int.mul_one]) (fun i => rfl) k
  rwa [Int.mul_one, Int.mul_one, Int.mul_one] at z
theorem cv_rep {ys : List Int} {n : Nat} (k : Nat) : cv (List.replicate n 0) ys k = 0 := by
  have z : ∀ m, cvS (List.replicate n (0 : Int)) ys m k = 0 := by
    intro m
    induction m with
    | zero => rfl
    | succ m ih =>
      rw [cvS, ih]
      have e : (List.replicate n (0 : Int)).getD m 0 = 0 := by
        rw [List.getD_eq_getElem?_getD, List.getElem?_replicate]
        split <;> rfl
      rw [e, Int.zero_mul]
      split <;> rfl
  exact z _
/-- the quotient and the rest while they are made: the places below n are still to do -/
structure DivAt (f : Int) (xs qs rs ys : List Int) (n : Nat) : Prop where
  f0 : f ≠ 0
  rl : rs.length = xs.length
  eq : ∀ k, f * xs.getD k 0 = cv qs ys k + rs.getD k 0
  lo : ∀ i, i < n → qs.getD i 0 = 0
  hi : ∀ k, n + ys.length ≤ k + 1 → rs.getD k 0 = 0
theorem DivAt.start {xs ys : List Int} {n : Nat} (h : (n : Int) = xs.length - ys.length + 1 ∨ (n = 0 ∧ xs.length + 1 ≤ ys.length)) : DivAt 1 xs (List.replicate n 0) xs ys n :=
  ⟨by decide, rfl, fun k => by rw [cv_rep]; omega, fun i _ => by
    rw [List.getD_eq_getElem?_getD, List.getElem?_replicate]
    split <;> rfl, fun k hk => getD_end (by omega)⟩
theorem DivAt.scale {f s : Int} {xs qs rs ys : List Int} {n : Nat} (m : DivAt f xs qs rs ys n) (h : s ≠ 0) : DivAt (f * s) xs (qs.map fun x => x * s) (rs.map fun x => x * s) ys n :=
  ⟨Int.mul_ne_zero m.f0 h, by rw [List.length_map, m.rl], fun k => by
    rw [cv_scale, mul_at]
    have := m.eq k
    grind, fun i hi => by rw [mul_at, m.lo i hi, Int.zero_mul], fun k hk => by rw [mul_at, m.hi k hk, Int.zero_mul]⟩
/-- the rest while a multiple is taken from it -/
structure SubAt (zs rs ys : List Int) (v : Int) (a j : Nat) : Prop where
  len : zs.length = rs.length
  at_ : ∀ k, zs.getD k 0 = rs.getD k 0 - if a ≤ k ∧ k - a < j then v * ys.getD (k - a) 0 else 0
theorem SubAt.start {rs ys : List Int} {v : Int} {a : Nat} : SubAt rs rs ys v a 0 := ⟨rfl, fun k => by rw [if_neg (by omega), Int.sub_zero]⟩
theorem SubAt.step {zs rs ys : List Int} {v u : Int} {a j : Nat} (m : SubAt zs rs ys v a j) (h : a + j < rs.length) (hu : u = zs.getD (a + j) 0 - v * ys.getD j 0) : SubAt (zs.set (a + j) u) rs ys v a (j + 1) := ⟨by rw [List.length_set, m.len], fun k => by
  rw [getD_set (by rw [m.len]; exact h)]
  by_cases c : k = a + j
  · subst c
    rw [if_pos rfl, hu, m.at_, if_neg (by omega), if_pos (by omega), show a + j - a = j by omega, Int.sub_zero]
  · rw [if_neg c, m.at_]
    congr 1
    by_cases c2 : a ≤ k ∧ k - a < j
    · rw [if_pos c2, if_pos (by omega)]
    · rw [if_neg c2, if_neg (by omega)]⟩
theorem SubAt.fin {zs rs ys : List Int} {v : Int} {a : Nat} (m : SubAt zs rs ys v a ys.length) (k : Nat) : zs.getD k 0 = rs.getD k 0 - if a ≤ k then v * ys.getD (k - a) 0 else 0 := by
  rw [m.at_]
  congr 1
  by_cases c : a ≤ k
  · by_cases c2 : k - a < ys.length
    · rw [if_pos ⟨c, c2⟩, if_pos c]
    · rw [if_neg (fun z => c2 z.2), if_pos c, getD_end (xs := ys) (by omega), Int.mul_zero]
  · rw [if_neg (fun z => c z.1), if_neg c]
theorem DivAt.step {f v : Int} {xs qs rs zs ys : List Int} {n : Nat} (m : DivAt f xs qs rs ys (n + 1)) (h : n < qs.length) (hy : 0 < ys.length) (hv : v * ys.getD (ys.length - 1) 0 = rs.getD (n + ys.length - 1) 0) (zl : zs.length = rs.length)
    (hz : ∀ k, zs.getD k 0 = rs.getD k 0 - if n ≤ k then v * ys.getD (k - n) 0 else 0) : DivAt f xs (qs.set n v) zs ys n :=
  ⟨m.f0, by rw [zl, m.rl], fun k => by
    rw [cv_set h, hz, m.eq k, m.lo n (by omega), Int.sub_zero]
    split <;> omega, fun i hi => by
    rw [getD_set h, if_neg (by omega)]
    exact m.lo i (by omega), fun k hk => by
    rw [hz, if_pos (show n ≤ k by omega)]
    by_cases c : k = n + ys.length - 1
    · subst c
      rw [show n + ys.length - 1 - n = ys.length - 1 by omega, hv]
      omega
    · rw [m.hi k (by omega), getD_end (xs := ys) (by omega), Int.mul_zero]
      rfl⟩
theorem dvd_scale {t l g s : Int} (hg : g = ((Nat.gcd t.natAbs l.natAbs : Nat) : Int)) (hl : l ≠ 0) (hs : s = l.fdiv g) : g ≠ 0 ∧ g.natAbs ≤ l.natAbs ∧ s ≠ 0 ∧ s.natAbs ≤ l.natAbs ∧ l ∣ t * s := by
  have d1 : g ∣ l := by rw [hg]; exact Int.natAbs_dvd_natAbs.mp (by rw [Int.natAbs_natCast]; exact Nat.gcd_dvd_right _ _)
  have d2 : g ∣ t := by rw [hg]; exact Int.natAbs_dvd_natAbs.mp (by rw [Int.natAbs_natCast]; exact Nat.gcd_dvd_left _ _)
  have g0 : g ≠ 0 := fun z => by rw [z] at d1; exact hl (Int.zero_dvd.mp d1)
  have e := fdiv_dvd g0 d1
  rw [← hs] at e
  have s0 : s ≠ 0 := fun z => by rw [z, Int.zero_mul] at e; exact hl e.symm
  refine ⟨g0, natAbs_le_of_dvd d1 hl, s0, natAbs_le_of_dvd ⟨g, e.symm⟩ hl, ?_⟩
  obtain ⟨u, rfl⟩ := d2
  exact ⟨u, by rw [← e]; grind⟩
theorem dvd_of_fmod {a b : Int} (h : a.fmod b = 0) : b ∣ a := Int.dvd_of_fmod_eq_zero h
theorem bits_mulE {k : Nat} {xs : List Int} {s : Int} {j : Nat} (h : ∀ x ∈ xs, x.natAbs < 2 ^ k) (hs : s.natAbs < 2 ^ j) : ∀ x ∈ (xs.map fun x => x * s), x.natAbs < 2 ^ (k + j) := fun x hx => by
  obtain ⟨y, hy, rfl⟩ := List.mem_map.mp hx
  exact abs_lt_mul (h y hy) hs
theorem SubAt.bits {zs rs ys : List Int} {v : Int} {a j p q : Nat} (m : SubAt zs rs ys v a j) (h1 : ∀ i, (rs.getD i 0).natAbs < 2 ^ (p + q)) (h2 : v.natAbs < 2 ^ p) (h3 : ∀ i, (ys.getD i 0).natAbs < 2 ^ q) (k : Nat) : (zs.getD k 0).natAbs < 2 ^ (p + q + 1) := by
  rw [m.at_]
  have t : (if a ≤ k ∧ k - a < j then v * ys.getD (k - a) 0 else 0).natAbs < 2 ^ (p + q) := by
    split
    · exact abs_lt_mul h2 (h3 _)
    · exact Nat.pow_pos (by decide)
  have z := sz_sub (h1 k) t
  rwa [Nat.max_self] at z
end CB
namespace CB
open PySem PySem.Spec PyProof.Rows L2
/-! ### a quotient is the only one -/
theorem cvS_top {ts js : List Int} {n : Nat} (j0 : 0 < js.length) (h : ∀ i, n < i → ts.getD i 0 = 0) : ∀ m, cvS ts js m (n + js.length - 1) = if n < m then ts.getD n 0 * js.getD (js.length - 1) 0 else 0
  | 0 => by rw [if_neg (by omega)]; rfl
  | m + 1 => by
    rw [cvS, cvS_top j0 h m]
    by_cases c : m = n
    · subst c
      rw [if_neg (Nat.lt_irrefl _), if_pos (show m ≤ m + js.length - 1 by omega), if_pos (show m < m + 1 by omega), show m + js.length - 1 - m = js.length - 1 by omega, Int.zero_add]
    · by_cases c2 : n < m
      · rw [if_pos c2, if_pos (show n < m + 1 by omega), h m c2]
        simp
      · rw [if_neg c2, if_neg (show ¬ n < m + 1 by omega), Int.zero_add]
        split
        · rw [getD_end (xs := js) (by omega), Int.mul_zero]
        · rfl
theorem cv_top {ts js : List Int} {n : Nat} (j0 : 0 < js.length) (h : ∀ i, n < i → ts.getD i 0 = 0) : cv ts js (n + js.length - 1) = ts.getD n 0 * js.getD (js.length - 1) 0 := by
  unfold cv
  rw [cvS_top j0 h]
  by_cases c : n < ts.length
  · rw [if_pos c]
  · rw [if_neg c, getD_end (by omega), Int.zero_mul]
/-- a product that is shorter than the second factor has the first factor 0 -/
theorem cv_cancel {ts js : List Int} (j0 : 0 < js.length) (lz : js.getD (js.length - 1) 0 ≠ 0) (h : ∀ k, js.length ≤ k + 1 → cv ts js k = 0) : ∀ i, ts.getD i 0 = 0 := by
  have main : ∀ d n, ts.length ≤ n + d → ∀ i, n ≤ i → ts.getD i 0 = 0 := by
    intro d
    induction d with
    | zero => intro n hn i hi; exact getD_end (by omega)
    | succ d ih =>
      intro n hn i hi
      have up := ih (n + 1) (by omega)
      by_cases c : i = n
      · subst c
        have z := h (i + js.length - 1) (by omega)
        rw [cv_top j0 (fun k hk => up k (by omega))] at z
        rcases Int.mul_eq_zero.mp z with z | z
        · exact z
        · exact absurd z lz
      · exact up i (by omega)
  exact fun i => main ts.length 0 (by omega) i (Nat.zero_le _)
def linL (xs ys : List Int) (A B : Int) : List Int := (List.range (max xs.length ys.length)).map fun i => xs.getD i 0 * A - ys.getD i 0 * B
theorem linL_at (xs ys : List Int) (A B : Int) (i : Nat) : (linL xs ys A B).getD i 0 = xs.getD i 0 * A - ys.getD i 0 * B := by
  unfold linL
  by_cases c : i < max xs.length ys.length
  · rw [List.getD_eq_getElem?_getD, List.getElem?_map, List.getElem?_range c]; rfl
  · rw [getD_end (xs := xs) (by omega), getD_end (xs := ys) (by omega), getD_end (by rw [List.length_map, List.length_range]; omega)]
    omega
theorem cvS_lin2 {xs ys js : List Int} {A B : Int} (k : Nat) : ∀ n, cvS (linL xs ys A B) js n k = cvS xs js n k * A - cvS ys js n k * B
  | 0 => by simp [cvS]
  | n + 1 => by
    rw [cvS, cvS, cvS, cvS_lin2 k n, linL_at]
    split <;> grind
theorem cv_lin2 {xs ys js : List Int} {A B : Int} (k : Nat) : cv (linL xs ys A B) js k = cv xs js k * A - cv ys js k * B := by
  have l : (linL xs ys A B).length = max xs.length ys.length := by rw [linL, List.length_map, List.length_range]
  have z := cvS_lin2 (xs := xs) (ys := ys) (js := js) (A := A) (B := B) k (max xs.length ys.length)
  rwa [cvS_ge (by omega), cvS_ge (by omega), cvS_ge (by omega)] at z
/-- the quotient of a multiple is the factor -/
theorem quot_uniq {fc qc cs ks js qs rs : List Int} {pd qd e f F : Int} (j0 : 0 < js.length) (lz : js.getD (js.length - 1) 0 ≠ 0) (hcs : ∀ k, cs.getD k 0 = cv fc qc k)
    (hp : ∀ i, ks.getD i 0 * pd = cs.getD i 0 * e) (hq : ∀ i, js.getD i 0 * qd = qc.getD i 0 * f) (heq : ∀ k, F * ks.getD k 0 = cv qs js k + rs.getD k 0) (hhi : ∀ k, js.length ≤ k + 1 → rs.getD k 0 = 0) :
    ∀ i, qs.getD i 0 * f * pd = fc.getD i 0 * qd * (F * e) := by
  have z := cv_cancel (ts := linL qs fc (f * pd) (qd * (F * e))) j0 lz (fun k hk => by
    rw [cv_lin2]
    have h1 := heq k
    rw [hhi k hk, Int.add_zero] at h1
    have h2 : cv fc qc k * f = cv fc js k * qd := by
      have z := cv_conv (as := fc) (bs := qc) (xs := fc) (ys := js) (a := 1) (b := qd) (e := 1) (f := f) (fun i => rfl) (fun i => (hq i).symm) k
      rwa [Int.one_mul, Int.one_mul] at z
    have h3 := hp k
    rw [hcs] at h3
    rw [← h1]
    grind)
  intro i
  have y := z i
  rw [linL_at] at y
  grind
end CB

namespace CB
open PySem PySem.Spec PyProof.Rows L2
/-! ### products and powers of coefficient functions -/
def cf (f g : Nat → Int) (k : Nat) : Int := sumTo (fun i => f i * g (k - i)) (k + 1)
theorem sumTo_rev (F : Nat → Int) : ∀ n, sumTo F n = sumTo (fun i => F (n - 1 - i)) n
  | 0 => rfl
  | n + 1 => by
    rw [sumTo_first (fun i => F (n + 1 - 1 - i)) n]
    show sumTo F n + F n = F (n + 1 - 1 - 0) + sumTo (fun i => F (n + 1 - 1 - (i + 1))) n
    rw [sumTo_rev F n, Int.add_comm]
    have e : n + 1 - 1 - 0 = n := by omega
    rw [e]
    congr 1
    exact sumTo_congr n fun i hi => by
      have : n + 1 - 1 - (i + 1) = n - 1 - i := by omega
      rw [this]
theorem cf_comm (f g : Nat → Int) (k : Nat) : cf f g k = cf g f k := by
  unfold cf
  rw [sumTo_rev]
  exact sumTo_congr _ fun i hi => by
    have e1 : k + 1 - 1 - i = k - i := by omega
    have e2 : k - (k - i) = i := by omega
    rw [e1, e2, Int.mul_comm]
theorem sumTo_tri (F : Nat → Nat → Int) : ∀ n, sumTo (fun i => sumTo (fun j => F i j) (i + 1)) n = sumTo (fun j => sumTo (fun m => F (j + m) j) (n - j)) n
  | 0 => rfl
  | n + 1 => by
    show sumTo (fun i => sumTo (fun j => F i j) (i + 1)) n + sumTo (fun j => F n j) (n + 1) = _
    rw [sumTo_tri F n]
    have e : sumTo (fun j => sumTo (fun m => F (j + m) j) (n + 1 - j)) (n + 1) = sumTo (fun j => sumTo (fun m => F (j + m) j) (n - j) + F n j) (n + 1) := sumTo_congr _ fun j hj => by
      have z : n + 1 - j = (n - j) + 1 := by omega
      rw [z]
      show _ + F (j + (n - j)) j = _
      rw [show j + (n - j) = n by omega]
    rw [e, sumTo_add]
    congr 1
    show _ = sumTo (fun j => sumTo (fun m => F (j + m) j) (n - j)) n + sumTo (fun m => F (n + m) n) (n - n)
    rw [Nat.sub_self]
    exact (Int.add_zero _).symm
theorem sumTo_mulr (c : Int) (f : Nat → Int) (n : Nat) : sumTo (fun i => f i * c) n = sumTo f n * c := by
  rw [Int.mul_comm, ← sumTo_mul]
  exact sumTo_congr n fun i _ => Int.mul_comm _ _
theorem cf_assoc (f g h : Nat → Int) (k : Nat) : cf (cf f g) h k = cf f (cf g h) k := by
  unfold cf
  have e1 : sumTo (fun i => sumTo (fun i_1 => f i_1 * g (i - i_1)) (i + 1) * h (k - i)) (k + 1) = sumTo (fun i => sumTo (fun j => f j * g (i - j) * h (k - i)) (i + 1)) (k + 1) := sumTo_congr _ fun i _ => (sumTo_mulr _ _ _).symm
  rw [e1, sumTo_tri (fun i j => f j * g (i - j) * h (k - i)) (k + 1)]
  exact sumTo_congr _ fun j hj => by
    rw [← sumTo_mul, show k + 1 - j = k - j + 1 by omega]
    exact sumTo_congr _ fun m hm => by
      rw [show j + m - j = m by omega, show k - (j + m) = k - j - m by omega, Int.mul_assoc]
theorem cf_congr {f f' g g' : Nat → Int} (h1 : ∀ i, f i = f' i) (h2 : ∀ i, g i = g' i) (k : Nat) : cf f g k = cf f' g' k := by
  have e1 : f = f' := funext h1
  have e2 : g = g' := funext h2
  rw [e1, e2]
theorem cf_add (f g h : Nat → Int) (k : Nat) : cf f (fun i => g i + h i) k = cf f g k + cf f h k := by
  unfold cf
  rw [← sumTo_add]
  exact sumTo_congr _ fun i _ => Int.mul_add _ _ _
theorem cf_scale (f g : Nat → Int) (c : Int) (k : Nat) : cf f (fun i => c * g i) k = c * cf f g k := by
  unfold cf
  rw [← sumTo_mul]
  exact sumTo_congr _ fun i _ => by rw [Int.mul_left_comm]
/-- the derivative -/
def dv (f : Nat → Int) (k : Nat) : Int := ((k : Int) + 1) * f (k + 1)
theorem dv_cf (f g : Nat → Int) (k : Nat) : dv (cf f g) k = cf (dv f) g k + cf f (dv g) k := by
  -- (k+1) sum_{i<k+2} f i g (k+1-i) = sum i f i g(k+1-i) + sum (k+1-i) f i g (k+1-i)
  have e1 : dv (cf f g) k = sumTo (fun i => (i : Int) * f i * g (k + 1 - i) + (((k + 1 - i : Nat)) : Int) * f i * g (k + 1 - i)) (k + 2) := by
    unfold dv cf
    rw [← sumTo_mul]
    exact sumTo_congr _ fun i hi => by
      have : ((k + 1 - i : Nat) : Int) = (k : Int) + 1 - i := by omega
      rw [this]
      grind
  rw [e1, sumTo_add]
  congr 1
  · rw [sumTo_first]
    rw [show ((0 : Nat) : Int) * f 0 * g (k + 1 - 0) = 0 by simp, Int.zero_add]
    unfold cf dv
    exact sumTo_congr _ fun i hi => by
      rw [show k + 1 - (i + 1) = k - i by omega]
      push_cast
      rfl
  · show sumTo _ (k + 1) + ((k + 1 - (k + 1) : Nat) : Int) * f (k + 1) * g (k + 1 - (k + 1)) = _
    rw [show ((k + 1 - (k + 1) : Nat) : Int) * f (k + 1) * g (k + 1 - (k + 1)) = 0 by rw [Nat.sub_self]; simp, Int.add_zero]
    unfold cf dv
    exact sumTo_congr _ fun i hi => by
      rw [show k + 1 - i = k - i + 1 by omega]
      push_cast
      grind
/-- powers -/
def pwf (f : Nat → Int) : Nat → Nat → Int
  | 0, k => if k = 0 then 1 else 0
  | e + 1, k => cf (pwf f e) f k
theorem pwf_dv (f : Nat → Int) : ∀ e k, cf f (dv (pwf f e)) k = (e : Int) * cf (dv f) (pwf f e) k
  | 0, k => by
    have z : ∀ i, dv (pwf f 0) i = 0 := fun i => by
      unfold dv pwf
      rw [if_neg (by omega), Int.mul_zero]
    have : cf f (dv (pwf f 0)) k = 0 := by
      unfold cf
      exact sumTo_zero _ fun i _ => by rw [z, Int.mul_zero]
    rw [this]
    simp
  | e + 1, k => by
    have ih := pwf_dv f e
    have e1 : ∀ i, dv (pwf f (e + 1)) i = cf (dv (pwf f e)) f i + cf (pwf f e) (dv f) i := fun i => dv_cf (pwf f e) f i
    rw [cf_congr (fun _ => rfl) e1, cf_add]
    have a1 : cf f (cf (dv (pwf f e)) f) k = (e : Int) * cf (dv f) (pwf f (e + 1)) k := by
      rw [← cf_assoc, cf_congr ih (fun _ => rfl), cf_comm, cf_scale, cf_comm, cf_assoc]
      rfl
    have a2 : cf f (cf (pwf f e) (dv f)) k = cf (dv f) (pwf f (e + 1)) k := by
      rw [← cf_assoc, cf_comm, cf_congr (fun _ => rfl) (fun i => cf_comm f (pwf f e) i)]
      rfl
    rw [a1, a2]
    push_cast
    grind
/-- each coefficient of a power from those before it -/
theorem pwf_rec (f : Nat → Int) (e k : Nat) : ((k : Int) + 1) * f 0 * pwf f e (k + 1) = sumTo (fun i => (((e : Int) + 1) * ((i : Int) + 1) - ((k : Int) + 1)) * f (i + 1) * pwf f e (k - i)) (k + 1) := by
  have h := pwf_dv f e k
  unfold cf at h
  rw [sumTo_first, ← sumTo_mul] at h
  -- h: f 0 * dv q k + sum_{i<k} f (i+1) dv q (k-(i+1)) = sum_{i<k+1} e * (dv f i * q (k-i))
  have e1 : sumTo (fun i => (((e : Int) + 1) * ((i : Int) + 1) - ((k : Int) + 1)) * f (i + 1) * pwf f e (k - i)) (k + 1) = sumTo (fun i => (e : Int) * (dv f i * pwf f e (k - i)) + -(((k - i : Nat) : Int) * f (i + 1) * pwf f e (k - i))) (k + 1) := sumTo_congr _ fun i hi => by
    unfold dv
    have : ((k - i : Nat) : Int) = (k : Int) - i := by omega
    rw [this]
    grind
  rw [e1, sumTo_add, ← h]
  have e2 : sumTo (fun i => -(((k - i : Nat) : Int) * f (i + 1) * pwf f e (k - i))) (k + 1) = -sumTo (fun i => f (i + 1) * dv (pwf f e) (k - (i + 1))) k := by
    show sumTo _ k + -(((k - k : Nat) : Int) * f (k + 1) * pwf f e (k - k)) = _
    rw [Nat.sub_self, show -(((0 : Nat) : Int) * f (k + 1) * pwf f e 0) = 0 by simp, Int.add_zero, show -sumTo (fun i => f (i + 1) * dv (pwf f e) (k - (i + 1))) k = (-1) * sumTo (fun i => f (i + 1) * dv (pwf f e) (k - (i + 1))) k by omega, ← sumTo_mul]
    exact sumTo_congr _ fun i hi => by
      unfold dv
      have a : k - (i + 1) + 1 = k - i := by omega
      have b : ((k - (i + 1) : Nat) : Int) + 1 = ((k - i : Nat) : Int) := by omega
      rw [a, b]
      grind
  rw [e2]
  unfold dv
  rw [Nat.sub_zero]
  grind
theorem pwf_zero (f : Nat → Int) : ∀ e, pwf f e 0 = f 0 ^ e
  | 0 => by unfold pwf; rw [if_pos rfl, Int.pow_zero]
  | e + 1 => by
    show cf (pwf f e) f 0 = _
    unfold cf
    show 0 + pwf f e 0 * f 0 = _
    rw [pwf_zero f e, Int.pow_succ, Int.zero_add]
/-- moved up by z places -/
def up (z : Nat) (f : Nat → Int) (k : Nat) : Int := if k < z then 0 else f (k - z)
theorem up_lt {z : Nat} {f : Nat → Int} {k : Nat} (h : k < z) : up z f k = 0 := if_pos h
theorem up_ge {z : Nat} {f : Nat → Int} {k : Nat} (h : ¬ k < z) : up z f k = f (k - z) := if_neg h
theorem sumTo_app (F : Nat → Int) (p : Nat) : ∀ q, sumTo F (p + q) = sumTo F p + sumTo (fun i => F (p + i)) q
  | 0 => (Int.add_zero _).symm
  | q + 1 => by show sumTo F (p + q) + F (p + q) = _ + (_ + _); rw [sumTo_app F p q, Int.add_assoc]
theorem cf_up (f g : Nat → Int) (a b k : Nat) : cf (up a f) (up b g) k = up (a + b) (cf f g) k := by
  by_cases c : k < a + b
  · rw [up_lt c]
    unfold cf
    exact sumTo_zero _ fun i hi => by
      by_cases c1 : i < a
      · rw [up_lt c1, Int.zero_mul]
      · rw [up_lt (show k - i < b by omega), Int.mul_zero]
  · rw [up_ge c]
    unfold cf
    rw [show k + 1 = a + ((k - (a + b) + 1) + b) by omega, sumTo_app, sumTo_app, sumTo_zero a fun i hi => by rw [up_lt hi, Int.zero_mul], sumTo_zero b fun i hi => by
      rw [up_lt (show k - (a + (k - (a + b) + 1 + i)) < b by omega), Int.mul_zero], Int.zero_add, Int.add_zero]
    exact sumTo_congr _ fun i hi => by
      rw [up_ge (show ¬ a + i < a by omega), up_ge (show ¬ k - (a + i) < b by omega), show a + i - a = i by omega, show k - (a + i) - b = k - (a + b) - i by omega]
theorem pwf_up (f : Nat → Int) (z : Nat) : ∀ e k, pwf (up z f) e k = up (z * e) (pwf f e) k
  | 0, k => by
    rw [Nat.mul_zero, up_ge (Nat.not_lt_zero _)]
    rfl
  | e + 1, k => by
    show cf (pwf (up z f) e) (up z f) k = _
    rw [cf_congr (pwf_up f z e) (fun _ => rfl), cf_up, Nat.mul_add, Nat.mul_one]
    rfl
theorem pwf_congr {f g : Nat → Int} (h : ∀ i, f i = g i) (e k : Nat) : pwf f e k = pwf g e k := by
  have : f = g := funext h
  rw [this]
/-- a power's coefficients end -/
theorem pwf_end {f : Nat → Int} {d : Nat} (h : ∀ i, d < i → f i = 0) : ∀ e k, d * e < k → pwf f e k = 0
  | 0, k, hk => by
    unfold pwf
    rw [if_neg (by omega)]
  | e + 1, k, hk => by
    show cf (pwf f e) f k = 0
    unfold cf
    refine sumTo_zero _ fun i hi => ?_
    rw [Nat.mul_add, Nat.mul_one] at hk
    by_cases c : d * e < i
    · rw [pwf_end h e i c, Int.zero_mul]
    · rw [h (k - i) (by omega), Int.mul_zero]
/-- lists -/
abbrev ff (xs : List Int) : Nat → Int := fun i => xs.getD i 0
theorem cvS_sum (xs ys : List Int) (k : Nat) : ∀ n, cvS xs ys n k = sumTo (fun i => if i ≤ k then xs.getD i 0 * ys.getD (k - i) 0 else 0) n
  | 0 => rfl
  | n + 1 => by rw [cvS, cvS_sum xs ys k n]; rfl
theorem sumTo_more {F : Nat → Int} {n : Nat} (h : ∀ i, n ≤ i → F i = 0) : ∀ m, sumTo F (n + m) = sumTo F n
  | 0 => rfl
  | m + 1 => by
    show sumTo F (n + m) + F (n + m) = _
    rw [sumTo_more h m, h _ (by omega), Int.add_zero]
theorem cv_cf (xs ys : List Int) (k : Nat) : cv xs ys k = cf (ff xs) (ff ys) k := by
  have z : cv xs ys k = cvS xs ys (xs.length + (k + 1)) k := (cvS_end k (k + 1)).symm
  rw [z, cvS_sum, Nat.add_comm, sumTo_more fun i hi => if_neg (by omega)]
  unfold cf
  exact sumTo_congr _ fun i hi => if_pos (by omega)
/-- zs is the power e of cs -/
structure IsPow (zs cs : List Int) (e : Nat) : Prop where
  at_ : ∀ k, zs.getD k 0 = pwf (ff cs) e k
theorem IsPow.one {cs : List Int} : IsPow [1] cs 0 := ⟨fun k => by
  unfold pwf
  cases k with
  | zero => rfl
  | succ k => rw [if_neg (by omega), getD_end (by simp)]⟩
theorem IsPow.more {zs ps cs : List Int} {e : Nat} (p : IsPow ps cs e) (m : IsMul zs ps cs) : IsPow zs cs (e + 1) := ⟨fun k => by
  rw [m.at_, cv_cf]
  exact cf_congr p.at_ (fun _ => rfl) k⟩
/-- the power of another pair -/
theorem pwf_conv {f g : Nat → Int} {a b : Int} (h : ∀ i, f i * a = g i * b) : ∀ e k, pwf f e k * a ^ e = pwf g e k * b ^ e
  | 0, k => by rw [Int.pow_zero, Int.pow_zero]; rfl
  | e + 1, k => by
    have ih := pwf_conv h e
    show cf (pwf f e) f k * _ = cf (pwf g e) g k * _
    unfold cf
    rw [← sumTo_mulr, ← sumTo_mulr]
    exact sumTo_congr _ fun i _ => by
      have z1 := ih i
      have z2 := h (k - i)
      rw [Int.pow_succ, Int.pow_succ]
      grind
theorem Pq.power {as ks zs ws ms : List Int} {a b g : Int} {e : Nat} (p : Pq as a ks b) (z : IsPow zs ks e) (w : IsPow ws as e) (q : Pq zs (b ^ e) ms g) : Pq ws (a ^ e) ms g := by
  have b0 := p.pos
  refine q.conv (pow_ne (by omega) e) fun i => ?_
  rw [z.at_, w.at_]
  exact pwf_conv (f := ff ks) (g := ff as) p.eq e i
end CB

namespace CB.Z
open PySem PySem.Spec PyProof.Rows L2
/-- the reading of a comprehension over enumerate of a tuple -/
theorem lc_enT {K : PySem.W.Frag} {a : Addr} {xs : List V} {g : TG} {tt : TT} {te : TE} {vs : List Nat} {σ : L2.St} {H1 : Hp} {D : Addr} {Qd : Hp → Prop} (Pv : Nat → Hp → Prop) (h0 : Pv 0 (upd H1 D (.lst [])))
    (hq : ∀ i H, Pv i H → SqT K H a xs)
    (hs : ∀ i x T H, xs[i]? = some x → Pv i H → H T = none → g (.ref T) (wipe σ vs) (upd H T (.tup [.int (i : Nat), x])) fun σ2 H2 => wipe σ2 vs = wipe σ vs ∧ tt σ2 H2 fun k H3 =>
      if k = true then te σ2 H3 fun y H4 => ∃ acc, H4 D = some (.lst acc) ∧ acc.length < sizeLine ∧ Pv (i + 1) (upd H4 D (.lst (acc ++ [y]))) else Pv (i + 1) H3)
    (hd : ∀ H, Pv xs.length H → Qd H) :
    ∃ W : Nat → Nat → Hp → Prop, (∃ m, W 0 m (upd H1 D (.lst []))) ∧ ∀ i m H, W i m H →
      ((IteT K a xs).stop i H ∧ Qd H) ∨ ((IteT K a xs).go i H ∧ ∃ Nx : Hp → Prop, (∀ H', Nx H' → ∃ m', m' < m ∧ W (i + 1) m' H') ∧
        ∀ x H', (IteT K a xs).yld i H x H' → g x (wipe σ vs) H' fun σ2 H2 => wipe σ2 vs = wipe σ vs ∧ tt σ2 H2 fun k H3 =>
          if k = true then te σ2 H3 fun y H4 => ∃ acc, H4 D = some (.lst acc) ∧ acc.length < sizeLine ∧ Nx (upd H4 D (.lst (acc ++ [y]))) else Nx H3) := by
  refine ⟨fun i m H => m = xs.length - i ∧ i ≤ xs.length ∧ Pv i H, ⟨_, rfl, Nat.zero_le _, h0⟩, fun i m H hw => ?_⟩
  obtain ⟨rfl, hi, p⟩ := hw
  have qa := hq i H p
  by_cases lt : i < xs.length
  · refine .inr ⟨⟨qa, lt⟩, Pv (i + 1), fun H' p' => ⟨_, by omega, rfl, lt, p'⟩, fun x H' y => ?_⟩
    obtain ⟨T, z, hz, rfl, nT, rfl⟩ := y
    exact hs i z T H hz p nT
  · have e : i = xs.length := by omega
    subst e
    exact .inl ⟨⟨qa, Nat.le_refl _⟩, hd H p⟩
end CB.Z
namespace CB
open PySem PySem.Spec PyProof.Rows L2 CB.Z
/-! ### the power's terms -/
def tS (g : Int → Int) : List (Addr × Int × Int) → Int
  | [] => 0
  | t :: r => g t.2.1 * t.2.2 + tS g r
theorem tS_app (g : Int → Int) (t : Addr × Int × Int) : ∀ xs, tS g (xs ++ [t]) = tS g xs + g t.2.1 * t.2.2
  | [] => by simp [tS]
  | x :: r => by
    show _ + tS g (r ++ [t]) = _ + _ + _
    rw [tS_app g t r, Int.add_assoc]
theorem sumTo_bits {F : Nat → Int} {b : Nat} : ∀ n, (∀ i, i < n → (F i).natAbs < 2 ^ b) → (sumTo F n).natAbs < 2 ^ (b + n)
  | 0, _ => Nat.pow_pos (by decide)
  | n + 1, h => by
    have ih := sumTo_bits n fun i hi => h i (by omega)
    refine abs_mono (sz_add ih (h n (by omega))) ?_
    omega
theorem pwf_bits {f : Nat → Int} {k n : Nat} (h1 : ∀ i, (f i).natAbs < 2 ^ k) (h2 : ∀ i, n ≤ i → f i = 0) : ∀ e j, (pwf f e j).natAbs < 2 ^ ((k + n) * e + 1)
  | 0, j => by
    unfold pwf
    split
    · exact Nat.lt_of_lt_of_le (show 1 < 2 ^ 1 by decide) (Nat.pow_le_pow_right (by decide) (by omega))
    · exact Nat.pow_pos (by decide)
  | e + 1, j => by
    show (cf (pwf f e) f j).natAbs < _
    rw [cf_comm]
    unfold cf
    have ih := pwf_bits h1 h2 e
    have tb : ∀ i, (f i * pwf f e (j - i)).natAbs < 2 ^ (k + ((k + n) * e + 1)) := fun i => abs_lt_mul (h1 i) (ih _)
    have e1 : (k + n) * (e + 1) = (k + n) * e + (k + n) := by rw [Nat.mul_add, Nat.mul_one]
    by_cases c : n ≤ j + 1
    · rw [show j + 1 = n + (j + 1 - n) by omega, sumTo_more fun i hi => by rw [h2 i hi, Int.zero_mul]]
      exact abs_mono (sumTo_bits n fun i _ => tb i) (by omega)
    · exact abs_mono (sumTo_bits (j + 1) fun i _ => tb i) (by omega)
/-- the next coefficient, by the terms -/
theorem pow_next {f : Nat → Int} {e k d : Nat} {q : Nat → Int} (hq : ∀ i, i < k + 1 → q i = pwf f e i) (S : Int) (hf : ∀ i, d < i → f i = 0)
    (hS : S = sumTo (fun t => if 0 < t then (if (t : Int) ≤ ((k + 1 : Nat) : Int) then (((e : Int) + 1) * (t : Int) - ((k + 1 : Nat) : Int)) * q (k + 1 - t) else 0) * f t else 0) (d + 1)) :
    S = (((k + 1 : Nat) : Int) * f 0) * pwf f e (k + 1) := by
  have r := pwf_rec f e k
  rw [show (((k + 1 : Nat) : Int)) = (k : Int) + 1 by omega, r, hS, sumTo_first, if_neg (Nat.lt_irrefl 0), Int.zero_add]
  -- both sides over max
  have a1 : sumTo (fun i => if 0 < i + 1 then (if ((i + 1 : Nat) : Int) ≤ ((k + 1 : Nat) : Int) then (((e : Int) + 1) * ((i + 1 : Nat) : Int) - ((k + 1 : Nat) : Int)) * q (k + 1 - (i + 1)) else 0) * f (i + 1) else 0) d
      = sumTo (fun i => (if i < k + 1 then (((e : Int) + 1) * ((i : Int) + 1) - ((k : Int) + 1)) * f (i + 1) * pwf f e (k - i) else 0)) d := sumTo_congr d fun i hi => by
    rw [if_pos (by omega)]
    by_cases c : i < k + 1
    · rw [if_pos (by omega), if_pos c, hq _ (by omega), show k + 1 - (i + 1) = k - i by omega]
      push_cast
      grind
    · rw [if_neg (by omega), if_neg c, Int.zero_mul]
  rw [a1]
  by_cases c : d ≤ k + 1
  · rw [show k + 1 = d + (k + 1 - d) by omega, sumTo_more fun i hi => by rw [hf (i + 1) (by omega)]; simp]
    exact sumTo_congr d fun i hi => by rw [if_pos (by omega)]
  · rw [show d = (k + 1) + (d - (k + 1)) by omega, sumTo_more fun i hi => if_neg (by omega)]
    exact sumTo_congr _ fun i hi => by rw [if_pos hi]
theorem fdiv_exact {a b c : Int} (h : a = b * c) (hb : b ≠ 0) : a.fdiv b = c := by
  rw [h]
  exact Int.mul_fdiv_cancel_left c hb
/-- the power of a polynomial whose first coefficients are 0 -/
theorem pow_zeros {cs : List Int} {z e : Nat} (h : ∀ i, i < z → cs.getD i 0 = 0) (k : Nat) : pwf (ff cs) e k = up (z * e) (pwf (fun i => cs.getD (z + i) 0) e) k := by
  rw [← pwf_up]
  refine pwf_congr (fun i => ?_) e k
  by_cases c : i < z
  · rw [up_lt c]; exact h i c
  · rw [up_ge c]
    show cs.getD i 0 = cs.getD (z + (i - z)) 0
    rw [show z + (i - z) = i by omega]
end CB

namespace CB
open PySem PySem.Spec PyProof.Rows L2
/-! ### values of polynomials -/
/-- the value of a polynomial, from the highest power -/
def evL (x : Int) : List Int → Int
  | [] => 0
  | c :: r => evL x r * x + c
theorem evL_bits {x : Int} {k j : Nat} (hx : x.natAbs < 2 ^ j) : ∀ {cs : List Int}, (∀ c ∈ cs, c.natAbs < 2 ^ k) → (evL x cs).natAbs < 2 ^ (k + (j + 1) * cs.length + 1)
  | [], _ => by simp [evL]; exact Nat.pow_pos (by decide)
  | c :: r, h => by
    have ih := evL_bits hx (cs := r) fun y hy => h y (by simp [hy])
    have z := sz_add (abs_lt_mul ih hx) (h c (by simp))
    rw [evL]
    refine abs_mono z ?_
    rw [List.length_cons]
    have : (j + 1) * (r.length + 1) = (j + 1) * r.length + (j + 1) := by rw [Nat.mul_add, Nat.mul_one]
    omega
theorem drop_rev {cs : List Int} {i : Nat} {c : Int} (h : cs[cs.length - 1 - i]? = some c) (hi : i < cs.length) : cs.drop (cs.length - (i + 1)) = c :: cs.drop (cs.length - i) := by
  have e : cs.length - (i + 1) = cs.length - 1 - i := by omega
  have lt : cs.length - 1 - i < cs.length := by omega
  rw [e, List.drop_eq_getElem_cons lt]
  rw [List.getElem?_eq_getElem lt] at h
  rw [Option.some.inj h]
  congr 2
  omega
/-- the value at num / den, times den to the length -/
def vaL (num den : Int) : List Int → Int
  | [] => 0
  | c :: r => vaL num den r * num + c * den ^ (r.length + 1)
def vaT (num den : Int) (cs : List Int) (N : Nat) (j : Nat) : Int := cs.getD j 0 * num ^ j * den ^ (N - j)
theorem vaL_sum (num den : Int) : ∀ cs : List Int, vaL num den cs = sumTo (vaT num den cs cs.length) cs.length
  | [] => rfl
  | c :: r => by
    show vaL num den r * num + c * den ^ (r.length + 1) = sumTo _ (r.length + 1)
    rw [sumTo_first, vaL_sum num den r, ← sumTo_mulr, Int.add_comm]
    congr 1
    · show _ = c * num ^ 0 * den ^ (r.length + 1 - 0)
      rw [Int.pow_zero, Int.mul_one, Nat.sub_zero]
    · exact sumTo_congr _ fun i hi => by
        show r.getD i 0 * num ^ i * den ^ (r.length - i) * num = r.getD i 0 * num ^ (i + 1) * den ^ (r.length + 1 - (i + 1))
        rw [Int.pow_succ, show r.length + 1 - (i + 1) = r.length - i by omega]
        grind
/-- values of equal polynomials at equal numbers -/
theorem va_conv {ks cs : List Int} {n f u b d e : Int} (hc : ∀ i, ks.getD i 0 * d = cs.getD i 0 * e) (hx : n * b = u * f) (d0 : d ≠ 0) (e0 : e ≠ 0) :
    vaL n f ks * (d * b ^ cs.length) = vaL u b cs * (e * f ^ ks.length) := by
  have pw_ : ∀ j, n ^ j * b ^ j = u ^ j * f ^ j := fun j => by rw [← mul_pow_int, ← mul_pow_int, hx]
  have e1 : vaL n f ks = sumTo (vaT n f ks ks.length) (ks.length + cs.length) := by rw [vaL_sum, sumTo_more fun i hi => by unfold vaT; rw [getD_end hi]; simp]
  have e2 : vaL u b cs = sumTo (vaT u b cs cs.length) (ks.length + cs.length) := by rw [vaL_sum, Nat.add_comm, sumTo_more fun i hi => by unfold vaT; rw [getD_end hi]; simp]
  rw [e1, e2, ← sumTo_mulr, ← sumTo_mulr]
  refine sumTo_congr _ fun j _ => ?_
  unfold vaT
  have h := hc j
  by_cases c1 : j < ks.length
  · by_cases c2 : j < cs.length
    · have a1 : b ^ cs.length = b ^ j * b ^ (cs.length - j) := by rw [← Int.pow_add]; congr 1; omega
      have a2 : f ^ ks.length = f ^ j * f ^ (ks.length - j) := by rw [← Int.pow_add]; congr 1; omega
      rw [a1, a2]
      have a3 := pw_ j
      calc _ = (ks.getD j 0 * d) * (n ^ j * b ^ j) * (f ^ (ks.length - j) * b ^ (cs.length - j)) := by grind
        _ = (cs.getD j 0 * e) * (u ^ j * f ^ j) * (f ^ (ks.length - j) * b ^ (cs.length - j)) := by rw [h, a3]
        _ = _ := by grind
    · rw [getD_end (xs := cs) (by omega), Int.zero_mul] at h
      have z : ks.getD j 0 = 0 := by rcases Int.mul_eq_zero.mp h with z | z; exact z; exact absurd z d0
      rw [z, getD_end (xs := cs) (by omega)]
      simp
  · rw [getD_end (xs := ks) (by omega), Int.zero_mul] at h
    have z : cs.getD j 0 = 0 := by rcases Int.mul_eq_zero.mp h.symm with z | z; exact z; exact absurd z e0
    rw [z, getD_end (xs := ks) (by omega)]
    simp
theorem evL_va (x : Int) : ∀ cs, evL x cs = vaL x 1 cs
  | [] => rfl
  | c :: r => by
    show evL x r * x + c = vaL x 1 r * x + c * 1 ^ (r.length + 1)
    rw [evL_va x r, Int.one_pow, Int.mul_one]
/-- what the law's sum says -/
structure DuAt (num den : Int) (cs : List Int) (top bl : Int) : Prop where
  eq : top * den ^ cs.length = bl * vaL num den cs
  b0 : 0 < bl
  tb : top.natAbs < 2 ^ 4000
  bb : bl.natAbs < 2 ^ 2000
theorem DuAt.fq {n f u b d e top bl : Int} {ks cs : List Int} (m : DuAt u b cs top bl) (hc : ∀ i, ks.getD i 0 * d = cs.getD i 0 * e) (hx : n * b = u * f) (d0 : d ≠ 0) (e0 : e ≠ 0) (b0 : b ≠ 0) :
    vaL n f ks * (bl * d) = top * (e * f ^ ks.length) := by
  have h := va_conv hc hx d0 e0
  have h2 := m.eq
  apply Int.eq_of_mul_eq_mul_right (pow_ne b0 cs.length)
  calc _ = bl * (vaL n f ks * (d * b ^ cs.length)) := by grind
    _ = (bl * vaL u b cs) * (e * f ^ ks.length) := by rw [h]; grind
    _ = _ := by rw [← h2]; grind
end CB

namespace CB
open PySem PySem.Spec PyProof.Rows L2 PySem.W
/-! ### max(.., default=d) -/
theorem maxOf_spec : ∀ (xs : List Int) (x : Int), maxOf x xs ∈ x :: xs ∧ ∀ y ∈ x :: xs, y ≤ maxOf x xs
  | [], x => ⟨by simp [maxOf], fun y hy => by rw [List.mem_singleton.mp hy]; exact Int.le_refl _⟩
  | z :: r, x => by
    have e : maxOf x (z :: r) = maxOf (if DatumOrd.lt x z = true then z else x) r := rfl
    rw [e]
    have d : DatumOrd.lt x z = decide (x < z) := rfl
    rw [d]
    by_cases c : x < z
    · rw [decide_eq_true c, if_pos rfl]
      obtain ⟨h1, h2⟩ := maxOf_spec r z
      refine ⟨List.mem_cons_of_mem _ h1, fun y hy => ?_⟩
      rcases List.mem_cons.mp hy with rfl | hy
      · exact Int.le_trans (Int.le_of_lt c) (h2 z (List.mem_cons_self ..))
      · exact h2 y hy
    · rw [decide_eq_false c, if_neg (by decide)]
      obtain ⟨h1, h2⟩ := maxOf_spec r x
      refine ⟨?_, fun y hy => ?_⟩
      · rcases List.mem_cons.mp h1 with h | h
        · rw [h]; exact List.mem_cons_self ..
        · exact List.mem_cons_of_mem _ (List.mem_cons_of_mem _ h)
      · rcases List.mem_cons.mp hy with rfl | hy
        · exact h2 y (List.mem_cons_self ..)
        · rcases List.mem_cons.mp hy with rfl | hy
          · exact Int.le_trans (by omega) (h2 x (List.mem_cons_self ..))
          · exact h2 y (List.mem_cons_of_mem _ hy)
theorem holds_int_is {h : Heap} {v : Value} {n : Int} (H : Holds h v n) : ∃ t, v = .int n t := by
  obtain ⟨as, r⟩ := H
  cases r
  exact ⟨_, rfl⟩
section
variable {X : Cx}
def rMaxD (K : PySem.W.Frag) : List V → List V → Hp → VK → Prop := fun vs zs H Q => ∃ (a : Addr) (ns : List Int) (d : Int), vs = [V.ref a] ∧ zs = [V.int d] ∧ SqL K H a (ns.map V.int) ∧ (ns = [] → Q (.int d) H) ∧ ∀ m, m ∈ ns → (∀ y, y ∈ ns → y ≤ m) → Q (.int m) H
theorem cr_maxD (hc : X.calm = true) (hu : X.A.units + 64 < cLine) : CallRK X (.builtin "max") [Str.ofString "default"] (rMaxD X.K) := by
  intro pins s σ H vs zs us ws Q I r rz h
  obtain ⟨a, ns, d, rfl, rfl, hs, h0, q⟩ := h
  obtain ⟨its, rv, hl, _⟩ := I.list hs
  rw [Vals.ref1 r]
  cases rz with
  | cons r1 r2 =>
    cases r2
    obtain ⟨t, rfl⟩ := r1
    refine max_list_datum_default (α := Int) (xs := ns) (I.ok.hd hc) hl.isList (by rw [List.toList_toArray]; exact HoldAll.of_ints rv.ints) (by show X.A.units + 1 + 0 < cLine; omega) (fun e h' tk hk => ?_) (fun y ys i v h' tk e hi hv hk => ?_)
    · exact ⟨.int _, H, I.kept hk, ⟨_, rfl⟩, h0 e⟩
    · obtain ⟨t, rfl⟩ := holds_int_is hv
      subst e
      obtain ⟨h1, h2⟩ := maxOf_spec ys y
      exact ⟨.int _, H, I.kept hk, ⟨_, rfl⟩, q _ h1 h2⟩
end
end CB

namespace CB
open PySem PySem.Spec PyProof.Rows L2
/-! ### a def with keyword-only parameters without defaults -/
def OkK (P : Program) (w : World) (K : PySem.W.Frag) (mg : Str → Option Value) (base : Heap) (k : Nat) (a : Addr) (ps : List Str) (n : Nat) (ks : List Str) (sp : Sp) : Prop :=
  ∃ fd : FuncData, FnOk P w K mg base (L2.CX P w) k a fd ps sp ∧ KBn K fd ps n ks (fun us ws => us ++ ws) (fun vs zs => vs ++ zs) ∧ PySem.W.keepIn K (.ref a) = true
theorem okK_of {P : Program} {w : World} {K : PySem.W.Frag} {mg : Str → Option Value} {base : Heap} {k : Nat} {d : DefG} {N ps : List Str} {n : Nat} {ks : List Str} {sp : Sp} (D : Dn K d) (hd : d.dfl = []) (S : FnScope N ps d.scope)
    (hb : ∀ (kV doc pm : Value) (an : Option Addr) (cdv ct : Value) (us ws : List Value), us.length = n → ws.length = ks.length → bindArgs (PySem.W.fnOf d.name d.qual d.params d.body d.scope .none kV doc pm an cdv ct) ⟨us, ks.zip ws⟩ = pure (ps.zip (us ++ ws)))
    (len : ∀ vs H Q E, sp vs H Q E → vs.length = ps.length)
    (hbody : ∀ (cdv : Value) (A : Around) (outer : List Env) (s : Shared) (H : Hp) (vs : List V) (Q : VK) (E : XK), Room k (A.deeper (envOfC d.qual d.scope s.heap.objs.size (d.at_ K) cdv)) → sp vs H Q E →
      ∃ t, PSs (cxOf (L2.CX P w) P w K mg base N d.qual d.scope (d.at_ K) cdv A outer s H E) d.body t ∧ t { nx := fun _ H' => Q .non H', rt := Q } (start N vs) H) :
    OkK P w K mg base (k + 1) (d.at_ K) ps n ks sp := by
  obtain ⟨fd, F⟩ := D
  have e1 : d.dvs K = [] := by unfold DefG.dvs; rw [hd]; rfl
  rw [e1] at F
  refine ⟨fd, F.ok S len hbody, ?_, F.kp⟩
  obtain ⟨oc, od, dV, kV, doc, pm, an, cdv, ct, osl, rfl, lk, hcd, hD, hK⟩ := F.ex
  rcases hD with ⟨_, rfl⟩ | ⟨e, _⟩
  · exact ⟨fun s us ws X l1 l2 => BindsTo.of_looks fun M => KwChain.looks (D := 0) X (l := []) (fun q hq => absurd hq (by simp)) (hb kV doc pm an cdv ct us ws l1 l2), fun r1 r2 => r1.append r2⟩
  · exact absurd rfl e
section
variable {X : Cx} {CX : CXT} {k n : Nat} {f : Addr} {fd : FuncData} {ps ks : List Str} {sp : Sp} {E : L2.St → XK} {x : Str} {p pos : Pos} {e : Expr} {es : List Expr} {kws : List Keyword} {t tk : TA} {g : List Value → List Value → List Value} {gV : List V → List V → List V}
def tCallNS (n m : Nat) (sp : Sp) (gV : List V → List V → List V) (E : L2.St → XK) (t tk : TA) : TE := fun σ H Q => t σ H fun vs H1 => tk σ H1 fun zs H2 => vs.length = n ∧ zs.length = m ∧ sp (gV vs zs) H2 Q (E σ)
theorem run_fnNS {pins : List (Addr × Obj)} {σ : L2.St} {H : Hp} {s : Shared} {Q : VK} {us ws : List Value} {vs zs : List V} (F : FnOk X.prog X.w X.K X.mg X.base CX k f fd ps sp) (hr : Room k X.A) (hb : KBn X.K fd ps n ks g gV) (hx : PassesAt CX X σ (E σ))
    (I : Inv X pins σ H s) (r : Vals vs us) (rz : Vals zs ws) (l1 : vs.length = n) (l2 : zs.length = ks.length) (h : sp (gV vs zs) H Q (E σ)) : wpAny (model X.prog X.w) X.A (call (.ref f) us (ks.zip ws)) (EP X pins σ Q) X.xe s := by
  have r2 := hb.rel r rz
  refine wpAny_call (codeAny_mono (F.run X.A X.stack s H ⟨us, ks.zip ws⟩ (g us ws) (gV vs zs) Q (E σ) hr I.env0 (hb.to s us ws I.kIn (r.length.symm.trans l1) (rz.length.symm.trans l2)) r2 h) fun r s' hq => ?_)
  cases r with
  | error e => exact hx pins H s e s' I hq
  | ok fl =>
    cases fl with
    | ret u => exact I.after hq
    | next => exact False.elim hq
    | brk => exact False.elim hq
    | cont => exact False.elim hq
theorem pe_callNS (F : FnOk X.prog X.w X.K X.mg X.base CX k f fd ps sp) (hr : Room k X.A) (hg : Gl X x) (hm : X.mg x = some (.ref f)) (hk : PySem.W.keepIn X.K (.ref f) = true) (hb : KBn X.K fd ps n ks g gV) (hx : ∀ σ, PassesAt CX X σ (E σ))
    (ha : PA X (e :: es) t) (hkw : PK X kws tk) (hall : (backToKw pos (keywordEach kws X.env)).all (·.1.isSome) = true := by rfl) (hks : (backToKw pos (keywordEach kws X.env)).filterMap (·.1) = ks := by rfl)
    (hdb : (x == ("__debug__" : Str)) = false := by decide) (he : starEach (e :: es) X.env = (false, eval e X.env) :: starEach es X.env := by rfl)
    (hpl : ((backTo pos (starEach (e :: es) X.env)).any (·.1) || (backToKw pos (keywordEach kws X.env)).any (·.1.isNone)) = false := by rfl) :
    PE X (.Call (.Name x p) (e :: es) kws pos) (tCallNS n ks.length sp gV E t tk) := by
  refine ⟨fun pins s σ H Q I h => ?_⟩
  refine wpAny_Call_Name_kw (ld_glob I hg hm ?_ hdb)
  refine PySem.W.callWith_KW (h₀ := X.base) I.ok.mod.kin hk hall (thn (ha.run pos pins s σ H _ I h) fun us s1 ⟨vs, H1, I1, r, q⟩ => ?_) hpl he
  refine thn (hkw.run pos pins s1 σ H1 _ I1 q) fun ws s2 ⟨zs, H2, I2, rz, l1, l2, q2⟩ => ⟨I2.kIn, ?_⟩
  rw [hks]
  exact run_fnNS F hr hb (hx σ) I2 r rz l1 l2 q2
end
end CB

namespace CB
open PySem PySem.Spec PyProof.Rows L2
/-! ### settled signs -/
/-- (x + s) ^ j, moved on by t -/
theorem pw_add (s t : Int) : ∀ (j k m : Nat), j < m → sumTo (fun i => pw s j i * pw t i k) m = pw (s + t) j k
  | 0, k, m, h => by
    rw [sumTo_one (k := 0) m h fun i hi ne => by
      cases i with
      | zero => exact absurd rfl ne
      | succ i => rw [pw, Int.zero_mul]]
    cases k with
    | zero => rfl
    | succ k => simp [pw]
  | j + 1, k, m, h => by
    obtain ⟨m, rfl⟩ : ∃ n, m = n + 1 := ⟨m - 1, by omega⟩
    have e1 : sumTo (fun i => pw s (j + 1) i * pw t i k) (m + 1) = s * sumTo (fun i => pw s j i * pw t i k) (m + 1) + sumTo (fun i => pw s j i * pw t (i + 1) k) m := by
      rw [sumTo_first, sumTo_first (fun i => pw s j i * pw t i k), Int.mul_add, ← sumTo_mul, Int.add_assoc, ← sumTo_add]
      congr 1
      · show pw s (j + 1) 0 * _ = _
        rw [pw]
        grind
      · exact sumTo_congr m fun i _ => by
          show pw s (j + 1) (i + 1) * _ = _
          rw [pw]
          grind
    have b := pw_add s t j k (m + 1) (by omega)
    have b1 := pw_add s t j k m (by omega)
    rw [e1, b]
    cases k with
    | zero =>
      have e2 : sumTo (fun i => pw s j i * pw t (i + 1) 0) m = t * sumTo (fun i => pw s j i * pw t i 0) m := by
        rw [← sumTo_mul]
        exact sumTo_congr m fun i _ => by
          rw [pw]
          grind
      rw [e2, b1, pw]
      grind
    | succ k =>
      have e2 : sumTo (fun i => pw s j i * pw t (i + 1) (k + 1)) m = t * sumTo (fun i => pw s j i * pw t i (k + 1)) m + sumTo (fun i => pw s j i * pw t i k) m := by
        rw [← sumTo_mul, ← sumTo_add]
        exact sumTo_congr m fun i _ => by
          rw [pw]
          grind
      rw [e2, b1, pw_add s t j k m (by omega), pw]
      grind
theorem shV_shV {s t : Int} {f : Nat → Int} {n k : Nat} : shV t (fun i => shV s f n i) n k = shV (s + t) f n k := by
  have e : shV t (fun i => shV s f n i) n k = sumTo (fun j => f j * sumTo (fun i => pw s j i * pw t i k) n) n := by
    unfold shV
    have z : ∀ i, sumTo (fun j => f j * pw s j i) n * pw t i k = sumTo (fun j => pw t i k * (f j * pw s j i)) n := fun i => by rw [sumTo_mul]; grind
    rw [sumTo_congr n fun i _ => z i, sumTo_swap]
    exact sumTo_congr n fun j _ => by
      rw [← sumTo_mul]
      exact sumTo_congr n fun i _ => by grind
  rw [e]
  unfold shV
  exact sumTo_congr n fun j hj => by rw [pw_add s t j k n hj]
theorem pw_nn {s : Int} (h : 0 ≤ s) : ∀ i k, 0 ≤ pw s i k
  | 0, 0 => by show (0 : Int) ≤ 1; decide
  | 0, _ + 1 => by simp [pw]
  | i + 1, 0 => by rw [pw]; exact Int.mul_nonneg h (pw_nn h i 0)
  | i + 1, k + 1 => by rw [pw]; exact Int.add_nonneg (Int.mul_nonneg h (pw_nn h i (k + 1))) (pw_nn h i k)
theorem pw_up {s : Int} (h : 0 ≤ s) (i k : Nat) : ∀ j, s ^ j * pw s i k ≤ pw s (i + j) k
  | 0 => by rw [Int.pow_zero, Int.one_mul]; exact Int.le_refl _
  | j + 1 => by
    have ih := Int.mul_le_mul_of_nonneg_left (pw_up h i k j) h
    have e : s ^ (j + 1) * pw s i k = s * (s ^ j * pw s i k) := by rw [Int.pow_succ]; grind
    rw [e]
    refine Int.le_trans ih ?_
    show s * pw s (i + j) k ≤ pw s (i + j + 1) k
    cases k with
    | zero => rw [pw]; exact Int.le_refl _
    | succ k =>
      rw [pw]
      have := pw_nn h (i + j) k
      omega
theorem pw_first (s : Int) : ∀ i, pw s i 0 = s ^ i
  | 0 => by rw [Int.pow_zero]; rfl
  | i + 1 => by rw [pw, pw_first s i, Int.pow_succ, Int.mul_comm]
theorem pw_scale (a s : Int) : ∀ i k, pw (a * s) i k * a ^ k = a ^ i * pw s i k
  | 0, 0 => by simp [pw]
  | 0, k + 1 => by simp [pw]
  | i + 1, 0 => by
    have h := pw_scale a s i 0
    rw [Int.pow_zero, Int.mul_one] at *
    rw [pw, pw, h, Int.pow_succ]
    grind
  | i + 1, k + 1 => by
    have h1 := pw_scale a s i (k + 1)
    have h2 := pw_scale a s i k
    rw [pw, pw, Int.add_mul, Int.mul_assoc, h1, Int.pow_succ a k, ← Int.mul_assoc (pw (a * s) i k), h2, Int.pow_succ a i]
    grind
/-- no two coefficients have opposite signs, and the value at 0 is not 0 -/
def StF (g : Nat → Int) : Prop := g 0 ≠ 0 ∧ ((∀ k, 0 ≤ g k) ∨ ∀ k, g k ≤ 0)
theorem StF.congr {f g : Nat → Int} (h : ∀ k, f k = g k) (s : StF f) : StF g := by
  have : f = g := funext h
  rwa [← this]
theorem StF.neg {g : Nat → Int} (h : StF g) : StF fun k => -g k := ⟨fun z => h.1 (by have : -g 0 = 0 := z; omega), by
  rcases h.2 with p | p
  · exact .inr fun k => by have := p k; show -g k ≤ 0; omega
  · exact .inl fun k => by have := p k; show 0 ≤ -g k; omega⟩
theorem shV_neg {s : Int} {f : Nat → Int} {n k : Nat} : shV s (fun i => -f i) n k = -shV s f n k := by
  have e := shV_mul (s := s) (c := -1) (f := f) (n := n) k
  rw [show (fun i => -1 * f i) = (fun i => -f i) from funext fun i => by omega] at e
  omega
theorem sumTo_nn {F : Nat → Int} : ∀ n, (∀ i, i < n → 0 ≤ F i) → 0 ≤ sumTo F n
  | 0, _ => Int.le_refl _
  | n + 1, h => Int.add_nonneg (sumTo_nn n fun i hi => h i (by omega)) (h n (by omega))
theorem st_pos {t : Int} {g : Nat → Int} {n : Nat} (ht : 0 ≤ t) (hz : ∀ i, n ≤ i → g i = 0) (g0 : g 0 ≠ 0) (p : ∀ k, 0 ≤ g k) : StF fun k => shV t g n k := by
  refine ⟨?_, .inl fun k => sumTo_nn n fun i _ => Int.mul_nonneg (p i) (pw_nn ht i k)⟩
  show shV t g n 0 ≠ 0
  cases n with
  | zero => exact absurd (hz 0 (Nat.le_refl _)) g0
  | succ n =>
    unfold shV
    rw [sumTo_first]
    have a := sumTo_nn (F := fun i => g (i + 1) * pw t (i + 1) 0) n fun i _ => Int.mul_nonneg (p _) (pw_nn ht _ 0)
    have b := p 0
    have c : g 0 * pw t 0 0 = g 0 := by show g 0 * 1 = g 0; omega
    rw [c]
    omega
/-- settled from further numbers too -/
theorem StF.more {t : Int} {g : Nat → Int} {n : Nat} (s : StF g) (ht : 0 ≤ t) (hz : ∀ i, n ≤ i → g i = 0) : StF fun k => shV t g n k := by
  rcases s.2 with p | p
  · exact st_pos ht hz s.1 p
  · have z := (st_pos (t := t) (g := fun k => -g k) (n := n) ht (fun i hi => by rw [hz i hi]; rfl) (fun w => s.1 (by omega)) (fun k => by have := p k; omega)).neg
    exact z.congr fun k => by rw [shV_neg]; omega
/-- far away the leading coefficient decides -/
theorem far_pos {f : Nat → Int} {d m : Nat} (fd : 0 < f d) (h : ∀ i, i < d → ((f i).natAbs : Int) ≤ f d * 2 ^ (m * (d - i))) (k : Nat) : f d * pw (2 ^ (m + 1)) d k ≤ shV (2 ^ (m + 1)) f (d + 1) k * 2 ^ d := by
  have s0 : (0 : Int) ≤ 2 ^ (m + 1) := Int.le_of_lt (Int.pow_pos (by decide))
  obtain ⟨s, hs⟩ : ∃ s : Int, s = 2 ^ (m + 1) := ⟨_, rfl⟩
  obtain ⟨M, hM⟩ : ∃ M : Int, M = f d * pw s d k := ⟨_, rfl⟩
  rw [← hs] at s0 ⊢
  rw [← hM]
  have M0 : 0 ≤ M := by rw [hM]; exact Int.mul_nonneg (by omega) (pw_nn s0 d k)
  have one : ∀ i, i < d → ((f i).natAbs : Int) * pw s i k * 2 ^ (d - i) ≤ M := fun i hi => by
    have a := Int.mul_le_mul_of_nonneg_right (h i hi) (pw_nn s0 i k)
    have b := Int.mul_le_mul_of_nonneg_right a (show (0 : Int) ≤ 2 ^ (d - i) from Int.le_of_lt (Int.pow_pos (by decide)))
    refine Int.le_trans b ?_
    have e : f d * 2 ^ (m * (d - i)) * pw s i k * 2 ^ (d - i) = f d * (s ^ (d - i) * pw s i k) := by
      have z : s ^ (d - i) = 2 ^ (m * (d - i)) * 2 ^ (d - i) := by
        rw [hs, ← Int.pow_mul, Nat.add_mul, Nat.one_mul, Int.pow_add]
      rw [z]
      grind
    rw [e, hM]
    have c := pw_up s0 i k (d - i)
    rw [show i + (d - i) = d by omega] at c
    exact Int.mul_le_mul_of_nonneg_left c (by omega)
  have all : ∀ n, n ≤ d → -(M * (2 ^ n - 1)) ≤ sumTo (fun i => f i * pw s i k) n * 2 ^ d := by
    intro n
    induction n with
    | zero => intro _; show -(M * (2 ^ 0 - 1)) ≤ 0 * 2 ^ d; rw [Int.pow_zero]; omega
    | succ n ih =>
      intro hn
      have i1 := ih (by omega)
      have i2 := one n (by omega)
      have i3 := Int.mul_le_mul_of_nonneg_right i2 (show (0 : Int) ≤ 2 ^ n from Int.le_of_lt (Int.pow_pos (by decide)))
      have e : (2 : Int) ^ (d - n) * 2 ^ n = 2 ^ d := by rw [← Int.pow_add]; congr 1; omega
      rw [Int.mul_assoc, e] at i3
      show _ ≤ (sumTo (fun i => f i * pw s i k) n + f n * pw s n k) * 2 ^ d
      rw [Int.add_mul]
      have i4 : -(((f n).natAbs : Int) * pw s n k * 2 ^ d) ≤ f n * pw s n k * 2 ^ d := by
        have p0 := Int.mul_nonneg (pw_nn s0 n k) (show (0 : Int) ≤ 2 ^ d from Int.le_of_lt (Int.pow_pos (by decide)))
        have q : -((f n).natAbs : Int) ≤ f n := by omega
        have r := Int.mul_le_mul_of_nonneg_right q p0
        rw [Int.neg_mul, ← Int.mul_assoc, ← Int.mul_assoc] at r
        exact r
      have e2 : M * (2 ^ (n + 1) - 1) = M * (2 ^ n - 1) + M * 2 ^ n := by rw [Int.pow_succ]; grind
      omega
  have fin := all d (Nat.le_refl _)
  show M ≤ (sumTo (fun i => f i * pw s i k) d + f d * pw s d k) * 2 ^ d
  rw [Int.add_mul, ← hM]
  have e3 : M * (2 ^ d - 1) = M * 2 ^ d - M := by grind
  omega
theorem far_st1 {f : Nat → Int} {d m : Nat} (fd : 0 < f d) (h : ∀ i, i < d → ((f i).natAbs : Int) ≤ f d * 2 ^ (m * (d - i))) : StF fun k => shV (2 ^ (m + 1)) f (d + 1) k := by
  have s0 : (0 : Int) < 2 ^ (m + 1) := Int.pow_pos (by decide)
  have p2 : (0 : Int) < 2 ^ d := Int.pow_pos (by decide)
  refine ⟨fun z => ?_, .inl fun k => ?_⟩
  · have a := far_pos fd h 0
    have z2 : shV (2 ^ (m + 1)) f (d + 1) 0 = 0 := z
    rw [z2, Int.zero_mul, pw_first] at a
    have b := Int.mul_pos fd (show 0 < ((2 : Int) ^ (m + 1)) ^ d from Int.pow_pos s0)
    omega
  · have a := far_pos fd h k
    have b := Int.mul_nonneg (Int.le_of_lt fd) (pw_nn (Int.le_of_lt s0) d k)
    show 0 ≤ shV (2 ^ (m + 1)) f (d + 1) k
    exact nonneg_of_mul (Int.le_trans b a) p2
theorem far_st {f : Nat → Int} {d m : Nat} (fd : f d ≠ 0) (h : ∀ i, i < d → (f i).natAbs ≤ (f d).natAbs * 2 ^ (m * (d - i))) : StF fun k => shV (2 ^ (m + 1)) f (d + 1) k := by
  have c2 : ∀ a b : Nat, ((a * 2 ^ b : Nat) : Int) = (a : Int) * 2 ^ b := fun a b => by rw [Int.natCast_mul, Int.natCast_pow]; rfl
  by_cases c : 0 < f d
  · refine far_st1 c fun i hi => ?_
    have a : ((f i).natAbs : Int) ≤ (((f d).natAbs * 2 ^ (m * (d - i)) : Nat) : Int) := Int.ofNat_le.mpr (h i hi)
    rwa [c2, show ((f d).natAbs : Int) = f d by omega] at a
  · have z := (far_st1 (f := fun i => -f i) (d := d) (m := m) (by omega) fun i hi => by
      have a : ((f i).natAbs : Int) ≤ (((f d).natAbs * 2 ^ (m * (d - i)) : Nat) : Int) := Int.ofNat_le.mpr (h i hi)
      rw [Int.natAbs_neg]
      rwa [c2, show ((f d).natAbs : Int) = -f d by omega] at a).neg
    exact z.congr fun k => by rw [shV_neg]; omega
/-- by the numbers of bits -/
theorem bits_up {c : Int} : c.natAbs < 2 ^ (Builtin.Int.intBits c) := by
  unfold Builtin.Int.intBits
  split
  · rename_i h
    rw [beq_iff_eq] at h
    rw [h]
    decide
  · exact Nat.lt_log2_self
theorem bits_dn {c : Int} (h : c ≠ 0) : 2 ^ (Builtin.Int.intBits c - 1) ≤ c.natAbs ∧ 1 ≤ Builtin.Int.intBits c := by
  unfold Builtin.Int.intBits
  rw [if_neg (by rw [beq_iff_eq]; exact h)]
  refine ⟨?_, by omega⟩
  rw [Nat.add_sub_cancel]
  exact Nat.log2_self_le (by omega)
theorem bits_le {c : Int} {k : Nat} (h : c.natAbs < 2 ^ k) : Builtin.Int.intBits c ≤ k := PyProof.Rows.intBits_le h
theorem ratio_le {x y : Int} {m w : Nat} (hy : y ≠ 0) (w0 : 0 < w) (h : -((((Builtin.Int.intBits y : Nat) : Int) - 1 - ((Builtin.Int.intBits x : Nat) : Int)) / (w : Int)) ≤ (m : Int)) : x.natAbs ≤ y.natAbs * 2 ^ (m * w) := by
  obtain ⟨h1, h2⟩ := bits_dn hy
  have h3 := bits_up (c := x)
  have q := Int.ediv_mul_le (((Builtin.Int.intBits y : Nat) : Int) - 1 - ((Builtin.Int.intBits x : Nat) : Int)) (show (w : Int) ≠ 0 by omega)
  have q2 : -(m : Int) * w ≤ ((((Builtin.Int.intBits y : Nat) : Int) - 1 - ((Builtin.Int.intBits x : Nat) : Int)) / (w : Int)) * w := Int.mul_le_mul_of_nonneg_right (by omega) (by omega)
  have e : -(m : Int) * w = -((m * w : Nat) : Int) := by push_cast; rw [Int.neg_mul]
  rw [e] at q2
  have le : Builtin.Int.intBits x ≤ (Builtin.Int.intBits y - 1) + m * w := by omega
  refine Nat.le_of_lt (Nat.lt_of_lt_of_le h3 (Nat.le_trans (Nat.pow_le_pow_right (by decide) le) ?_))
  rw [Nat.pow_add]
  exact Nat.mul_le_mul_right _ h1
/-- sizes -/
theorem pw_bits {s : Int} {b : Nat} (h : s.natAbs < 2 ^ b) : ∀ i k, (pw s i k).natAbs < 2 ^ ((b + 1) * i + 1)
  | 0, 0 => by show 1 < 2 ^ ((b + 1) * 0 + 1); rw [Nat.mul_zero]; decide
  | 0, _ + 1 => Nat.pow_pos (by decide)
  | i + 1, 0 => by
    rw [pw, Nat.mul_add (b + 1), Nat.mul_one]
    exact abs_mono (abs_lt_mul h (pw_bits h i 0)) (by omega)
  | i + 1, k + 1 => by
    rw [pw, Nat.mul_add (b + 1), Nat.mul_one]
    exact abs_mono (sz_add (abs_lt_mul h (pw_bits h i (k + 1))) (pw_bits h i k)) (by omega)
theorem shV_bits {s : Int} {f : Nat → Int} {kb b n : Nat} (h : s.natAbs < 2 ^ b) (hf : ∀ i, (f i).natAbs < 2 ^ kb) (k : Nat) : (shV s f n k).natAbs < 2 ^ (kb + ((b + 1) * n + 1) + n) := by
  unfold shV
  exact sumTo_bits n fun i hi => abs_lt_mul (hf i) (abs_mono (pw_bits h i k) (by have := Nat.mul_le_mul_left (b + 1) (show i ≤ n by omega); omega))
/-- moved by a power of two, over numbers made larger -/
theorem pow2_move {a : Int} (a0 : a ≠ 0) {f : Nat → Int} {n k : Nat} : shV 1 (fun i => f i * a ^ i) n k = shV a f n k * a ^ k := by
  unfold shV
  rw [← sumTo_mulr]
  exact sumTo_congr n fun i _ => by
    have z := pw_scale a 1 i k
    rw [Int.mul_one] at z
    rw [Int.mul_assoc, ← z, Int.mul_assoc]
end CB

namespace CB.Z
open PySem PySem.Spec PyProof.Rows L2
/-- the reading of a comprehension over enumerate of a list -/
theorem lc_en {K : PySem.W.Frag} {a : Addr} {xs : List V} {g : TG} {tt : TT} {te : TE} {vs : List Nat} {σ : L2.St} {H1 : Hp} {D : Addr} {Qd : Hp → Prop} (Pv : Nat → Hp → Prop) (h0 : Pv 0 (upd H1 D (.lst [])))
    (hq : ∀ i H, Pv i H → SqL K H a xs)
    (hs : ∀ i x T H, xs[i]? = some x → Pv i H → H T = none → g (.ref T) (wipe σ vs) (upd H T (.tup [.int (i : Nat), x])) fun σ2 H2 => wipe σ2 vs = wipe σ vs ∧ tt σ2 H2 fun k H3 =>
      if k = true then te σ2 H3 fun y H4 => ∃ acc, H4 D = some (.lst acc) ∧ acc.length < sizeLine ∧ Pv (i + 1) (upd H4 D (.lst (acc ++ [y]))) else Pv (i + 1) H3)
    (hd : ∀ H, Pv xs.length H → Qd H) :
    ∃ W : Nat → Nat → Hp → Prop, (∃ m, W 0 m (upd H1 D (.lst []))) ∧ ∀ i m H, W i m H →
      ((Ite K a).stop i H ∧ Qd H) ∨ ((Ite K a).go i H ∧ ∃ Nx : Hp → Prop, (∀ H', Nx H' → ∃ m', m' < m ∧ W (i + 1) m' H') ∧
        ∀ x H', (Ite K a).yld i H x H' → g x (wipe σ vs) H' fun σ2 H2 => wipe σ2 vs = wipe σ vs ∧ tt σ2 H2 fun k H3 =>
          if k = true then te σ2 H3 fun y H4 => ∃ acc, H4 D = some (.lst acc) ∧ acc.length < sizeLine ∧ Nx (upd H4 D (.lst (acc ++ [y]))) else Nx H3) := by
  refine ⟨fun i m H => m = xs.length - i ∧ i ≤ xs.length ∧ Pv i H, ⟨_, rfl, Nat.zero_le _, h0⟩, fun i m H hw => ?_⟩
  obtain ⟨rfl, hi, p⟩ := hw
  have qa := hq i H p
  by_cases lt : i < xs.length
  · refine .inr ⟨⟨xs, xs[i], qa, List.getElem?_eq_getElem lt⟩, Pv (i + 1), fun H' p' => ⟨_, by omega, rfl, lt, p'⟩, fun x H' y => ?_⟩
    obtain ⟨T, z, rfl, nT, rfl, hz⟩ := y
    exact hs i z T H (hz xs qa) p nT
  · have e : i = xs.length := by omega
    subst e
    exact .inl ⟨⟨xs, qa, Nat.le_refl _⟩, hd H p⟩
end CB.Z

namespace CB
open PySem PySem.Spec PyProof.Rows L2
/-- a hook that looks its facts up in a tree of the objects -/
def hkT (H : PySem.W.Hook) (ob : PySem.W.SharedT → H.α) (he : ∀ s : PySem.W.SharedT, ob s = H.obs s.abs) : PySem.W.Hook where
  α := Option H.α
  obs := fun s => match HandSHeadRun.treeOf s with
    | some x => HandSHeadRun.frS x fun x => some (ob x)
    | none => none
  val := fun w => some (H.val w)
  says := H.says
  of := fun w s e => by
    have e1 : (match HandSHeadRun.treeOf s with
      | some x => HandSHeadRun.frS x fun x => some (ob x)
      | none => none) = some (H.val w) := e
    cases h : HandSHeadRun.treeOf s with
    | none => rw [h] at e1; cases e1
    | some x =>
      rw [h] at e1
      have e2 : (HandSHeadRun.frS x fun x => some (ob x)) = some (H.val w) := e1
      rw [HandSHeadRun.frS_eq] at e2
      have e3 := Option.some.inj e2
      rw [he, (HandSHeadRun.treeOf_eq h).1] at e3
      exact H.of w s e3
  keeps := H.keeps
end CB

namespace CB
open PySem PySem.Spec PyProof.Rows L2 CB.Z
local macro_rules | `(tactic| walk_at "cb sz") => `(tactic| first
  | assumption
  | (apply abs_lt_mul <;> walk_at "cb sz")
  | (apply sz_add <;> walk_at "cb sz")
  | (apply sz_sub <;> walk_at "cb sz")
  | (apply sz_neg <;> walk_at "cb sz")
  | (show _ < 2 ^ 64; decide)
  | (show _ < 2 ^ 128; decide)
  | (show _ < 2 ^ 144; decide)
  | (show _ < 2 ^ 250; decide))
local macro_rules | `(tactic| walk_at "cb size") => `(tactic| (apply abs_mono <;> first | walk_at "cb sz" | decide))
local macro_rules | `(tactic| walk_at "cb mul") => `(tactic| (apply mulW <;> first | walk_at "cb sz" | decide))
local macro_rules | `(tactic| walk_at "cb ne") => `(tactic| first
  | omega
  | (apply Int.mul_ne_zero <;> walk_at "cb ne"))
def top (i : Nat) : Stmt := PySem.Challenge.pw_certsums_k21_matrix_functions.main.body.getD i (.Pass ⟨0, 0, 0, 0⟩)
abbrev mth (i j : Nat) : Stmt := inClass (top i) j
abbrev s__law_cell : Stmt := top 18
abbrev N__law_cell : List Str := ["script", "k"]
theorem sc__law_cell : FnScope N__law_cell ["script", "k"] (defScope s__law_cell) := ⟨rfl, rfl, rfl, by decide +kernel, rfl, by decide +kernel, by decide +kernel⟩
abbrev d__law_cell : DefG := ⟨fun K => He.fAd K ("_law_cell", none), "_law_cell", "_law_cell", defArgs s__law_cell, defBody s__law_cell, defScope s__law_cell, []⟩
abbrev s__law_digits : Stmt := top 19
abbrev N__law_digits : List Str := ["cell", "limit", "count", "rest", "whole", "found", "k", "mixed"]
theorem sc__law_digits : FnScope N__law_digits ["cell", "limit", "count"] (defScope s__law_digits) := ⟨rfl, rfl, rfl, by decide +kernel, rfl, by decide +kernel, by decide +kernel⟩
abbrev d__law_digits : DefG := ⟨fun K => He.fAd K ("_law_digits", none), "_law_digits", "_law_digits", defArgs s__law_digits, defBody s__law_digits, defScope s__law_digits, []⟩
abbrev s__law_size : Stmt := top 20
abbrev N__law_size : List Str := ["d"]
theorem sc__law_size : FnScope N__law_size ["d"] (defScope s__law_size) := ⟨rfl, rfl, rfl, by decide +kernel, rfl, by decide +kernel, by decide +kernel⟩
abbrev d__law_size : DefG := ⟨fun K => He.fAd K ("_law_size", none), "_law_size", "_law_size", defArgs s__law_size, defBody s__law_size, defScope s__law_size, []⟩
abbrev s__law_pair : Stmt := top 21
abbrev N__law_pair : List Str := ["d", "style"]
theorem sc__law_pair : FnScope N__law_pair ["d", "style"] (defScope s__law_pair) := ⟨rfl, rfl, rfl, by decide +kernel, rfl, by decide +kernel, by decide +kernel⟩
abbrev d__law_pair : DefG := ⟨fun K => He.fAd K ("_law_pair", none), "_law_pair", "_law_pair", defArgs s__law_pair, defBody s__law_pair, defScope s__law_pair, []⟩
abbrev s__law_pairs : Stmt := top 22
abbrev N__law_pairs : List Str := ["cell", "count", "style", "d"]
theorem sc__law_pairs : FnScope N__law_pairs ["cell", "count", "style"] (defScope s__law_pairs) := ⟨rfl, rfl, rfl, by decide +kernel, rfl, by decide +kernel, by decide +kernel⟩
abbrev d__law_pairs : DefG := ⟨fun K => He.fAd K ("_law_pairs", none), "_law_pairs", "_law_pairs", defArgs s__law_pairs, defBody s__law_pairs, defScope s__law_pairs, []⟩
abbrev s_Fraction___init__ : Stmt := mth 8 0
abbrev N_Fraction___init__ : List Str := ["self", "num", "den", "common"]
theorem sc_Fraction___init__ : FnScope N_Fraction___init__ ["self", "num", "den"] (defScope s_Fraction___init__) := ⟨rfl, rfl, rfl, by decide +kernel, rfl, by decide +kernel, by decide +kernel⟩
abbrev d_Fraction___init__ : DefG := ⟨fun K => He.fAd K ("Fraction", some "__init__"), "__init__", "Fraction.__init__", defArgs s_Fraction___init__, defBody s_Fraction___init__, defScope s_Fraction___init__, [.int 1]⟩
abbrev s__law_vector : Stmt := top 26
abbrev N__law_vector : List Str := ["pairs", "pair"]
theorem sc__law_vector : FnScope N__law_vector ["pairs"] (defScope s__law_vector) := ⟨rfl, rfl, rfl, by decide +kernel, rfl, by decide +kernel, by decide +kernel⟩
abbrev d__law_vector : DefG := ⟨fun K => He.fAd K ("_law_vector", none), "_law_vector", "_law_vector", defArgs s__law_vector, defBody s__law_vector, defScope s__law_vector, []⟩
abbrev s__law_matrix : Stmt := top 27
abbrev N__law_matrix : List Str := ["rows", "row"]
theorem sc__law_matrix : FnScope N__law_matrix ["rows"] (defScope s__law_matrix) := ⟨rfl, rfl, rfl, by decide +kernel, rfl, by decide +kernel, by decide +kernel⟩
abbrev d__law_matrix : DefG := ⟨fun K => He.fAd K ("_law_matrix", none), "_law_matrix", "_law_matrix", defArgs s__law_matrix, defBody s__law_matrix, defScope s__law_matrix, []⟩
abbrev s__law_times : Stmt := top 24
abbrev N__law_times : List Str := ["a", "b"]
theorem sc__law_times : FnScope N__law_times ["a", "b"] (defScope s__law_times) := ⟨rfl, rfl, rfl, by decide +kernel, rfl, by decide +kernel, by decide +kernel⟩
abbrev d__law_times : DefG := ⟨fun K => He.fAd K ("_law_times", none), "_law_times", "_law_times", defArgs s__law_times, defBody s__law_times, defScope s__law_times, []⟩
abbrev s__law_plus : Stmt := top 23
abbrev N__law_plus : List Str := ["a", "b"]
theorem sc__law_plus : FnScope N__law_plus ["a", "b"] (defScope s__law_plus) := ⟨rfl, rfl, rfl, by decide +kernel, rfl, by decide +kernel, by decide +kernel⟩
abbrev d__law_plus : DefG := ⟨fun K => He.fAd K ("_law_plus", none), "_law_plus", "_law_plus", defArgs s__law_plus, defBody s__law_plus, defScope s__law_plus, []⟩
abbrev s__law_combine : Stmt := top 33
abbrev N__law_combine : List Str := ["factors", "rows", "width", "total", "i", "k"]
theorem sc__law_combine : FnScope N__law_combine ["factors", "rows", "width"] (defScope s__law_combine) := ⟨rfl, rfl, rfl, by decide +kernel, rfl, by decide +kernel, by decide +kernel⟩
abbrev d__law_combine : DefG := ⟨fun K => He.fAd K ("_law_combine", none), "_law_combine", "_law_combine", defArgs s__law_combine, defBody s__law_combine, defScope s__law_combine, []⟩
abbrev s__in_lowest_terms : Stmt := top 9
abbrev N__in_lowest_terms : List Str := ["num", "den", "made"]
theorem sc__in_lowest_terms : FnScope N__in_lowest_terms ["num", "den"] (defScope s__in_lowest_terms) := ⟨rfl, rfl, rfl, by decide +kernel, rfl, by decide +kernel, by decide +kernel⟩
abbrev d__in_lowest_terms : DefG := ⟨fun K => He.fAd K ("_in_lowest_terms", none), "_in_lowest_terms", "_in_lowest_terms", defArgs s__in_lowest_terms, defBody s__in_lowest_terms, defScope s__in_lowest_terms, []⟩
abbrev s_Fraction___mul__ : Stmt := mth 8 4
abbrev N_Fraction___mul__ : List Str := ["self", "other", "left", "right", "num"]
theorem sc_Fraction___mul__ : FnScope N_Fraction___mul__ ["self", "other"] (defScope s_Fraction___mul__) := ⟨rfl, rfl, rfl, by decide +kernel, rfl, by decide +kernel, by decide +kernel⟩
abbrev d_Fraction___mul__ : DefG := ⟨fun K => He.fAd K ("Fraction", some "__mul__"), "__mul__", "Fraction.__mul__", defArgs s_Fraction___mul__, defBody s_Fraction___mul__, defScope s_Fraction___mul__, []⟩
abbrev s_Fraction___add__ : Stmt := mth 8 2
abbrev N_Fraction___add__ : List Str := ["self", "other", "common", "scale", "num", "shared"]
theorem sc_Fraction___add__ : FnScope N_Fraction___add__ ["self", "other"] (defScope s_Fraction___add__) := ⟨rfl, rfl, rfl, by decide +kernel, rfl, by decide +kernel, by decide +kernel⟩
abbrev d_Fraction___add__ : DefG := ⟨fun K => He.fAd K ("Fraction", some "__add__"), "__add__", "Fraction.__add__", defArgs s_Fraction___add__, defBody s_Fraction___add__, defScope s_Fraction___add__, []⟩
abbrev s_total_of : Stmt := top 6
abbrev N_total_of : List Str := ["parts", "zero", "middle"]
theorem sc_total_of : FnScope N_total_of ["parts", "zero"] (defScope s_total_of) := ⟨rfl, rfl, rfl, by decide +kernel, rfl, by decide +kernel, by decide +kernel⟩
abbrev d_total_of : DefG := ⟨fun K => He.fAd K ("total_of", none), "total_of", "total_of", defArgs s_total_of, defBody s_total_of, defScope s_total_of, []⟩
abbrev s_sum_of : Stmt := top 10
abbrev N_sum_of : List Str := ["fractions"]
theorem sc_sum_of : FnScope N_sum_of ["fractions"] (defScope s_sum_of) := ⟨rfl, rfl, rfl, by decide +kernel, rfl, by decide +kernel, by decide +kernel⟩
abbrev d_sum_of : DefG := ⟨fun K => He.fAd K ("sum_of", none), "sum_of", "sum_of", defArgs s_sum_of, defBody s_sum_of, defScope s_sum_of, []⟩
abbrev s_dot : Stmt := top 12
abbrev N_dot : List Str := ["first", "second", "x", "y"]
theorem sc_dot : FnScope N_dot ["first", "second"] (defScope s_dot) := ⟨rfl, rfl, rfl, by decide +kernel, rfl, by decide +kernel, by decide +kernel⟩
abbrev d_dot : DefG := ⟨fun K => He.fAd K ("dot", none), "dot", "dot", defArgs s_dot, defBody s_dot, defScope s_dot, []⟩
abbrev s__law_dot : Stmt := top 25
abbrev N__law_dot : List Str := ["xs", "ys", "total", "k"]
theorem sc__law_dot : FnScope N__law_dot ["xs", "ys"] (defScope s__law_dot) := ⟨rfl, rfl, rfl, by decide +kernel, rfl, by decide +kernel, by decide +kernel⟩
abbrev d__law_dot : DefG := ⟨fun K => He.fAd K ("_law_dot", none), "_law_dot", "_law_dot", defArgs s__law_dot, defBody s__law_dot, defScope s__law_dot, []⟩
abbrev s__law_is_whole : Stmt := top 28
abbrev N__law_is_whole : List Str := ["x"]
theorem sc__law_is_whole : FnScope N__law_is_whole ["x"] (defScope s__law_is_whole) := ⟨rfl, rfl, rfl, by decide +kernel, rfl, by decide +kernel, by decide +kernel⟩
abbrev d__law_is_whole : DefG := ⟨fun K => He.fAd K ("_law_is_whole", none), "_law_is_whole", "_law_is_whole", defArgs s__law_is_whole, defBody s__law_is_whole, defScope s__law_is_whole, []⟩
abbrev s__law_is_number : Stmt := top 29
abbrev N__law_is_number : List Str := ["x"]
theorem sc__law_is_number : FnScope N__law_is_number ["x"] (defScope s__law_is_number) := ⟨rfl, rfl, rfl, by decide +kernel, rfl, by decide +kernel, by decide +kernel⟩
abbrev d__law_is_number : DefG := ⟨fun K => He.fAd K ("_law_is_number", none), "_law_is_number", "_law_is_number", defArgs s__law_is_number, defBody s__law_is_number, defScope s__law_is_number, []⟩
abbrev s__law_is : Stmt := top 30
abbrev N__law_is : List Str := ["x", "pair"]
theorem sc__law_is : FnScope N__law_is ["x", "pair"] (defScope s__law_is) := ⟨rfl, rfl, rfl, by decide +kernel, rfl, by decide +kernel, by decide +kernel⟩
abbrev d__law_is : DefG := ⟨fun K => He.fAd K ("_law_is", none), "_law_is", "_law_is", defArgs s__law_is, defBody s__law_is, defScope s__law_is, []⟩
abbrev s_apply : Stmt := top 13
abbrev N_apply : List Str := ["rows", "vector", "row"]
theorem sc_apply : FnScope N_apply ["rows", "vector"] (defScope s_apply) := ⟨rfl, rfl, rfl, by decide +kernel, rfl, by decide +kernel, by decide +kernel⟩
abbrev d_apply : DefG := ⟨fun K => He.fAd K ("apply", none), "apply", "apply", defArgs s_apply, defBody s_apply, defScope s_apply, []⟩
abbrev s__law_is_vector : Stmt := top 31
abbrev N__law_is_vector : List Str := ["xs", "pairs", "k"]
theorem sc__law_is_vector : FnScope N__law_is_vector ["xs", "pairs"] (defScope s__law_is_vector) := ⟨rfl, rfl, rfl, by decide +kernel, rfl, by decide +kernel, by decide +kernel⟩
abbrev d__law_is_vector : DefG := ⟨fun K => He.fAd K ("_law_is_vector", none), "_law_is_vector", "_law_is_vector", defArgs s__law_is_vector, defBody s__law_is_vector, defScope s__law_is_vector, []⟩
abbrev s_combine : Stmt := top 14
abbrev N_combine : List Str := ["vector", "rows", "width", "j", "row"]
theorem sc_combine : FnScope N_combine ["vector", "rows", "width"] (defScope s_combine) := ⟨rfl, rfl, rfl, by decide +kernel, rfl, by decide +kernel, by decide +kernel⟩
abbrev d_combine : DefG := ⟨fun K => He.fAd K ("combine", none), "combine", "combine", defArgs s_combine, defBody s_combine, defScope s_combine, []⟩
abbrev s_multiply : Stmt := top 15
abbrev N_multiply : List Str := ["left", "right", "width", "row"]
theorem sc_multiply : FnScope N_multiply ["left", "right", "width"] (defScope s_multiply) := ⟨rfl, rfl, rfl, by decide +kernel, rfl, by decide +kernel, by decide +kernel⟩
abbrev d_multiply : DefG := ⟨fun K => He.fAd K ("multiply", none), "multiply", "multiply", defArgs s_multiply, defBody s_multiply, defScope s_multiply, []⟩
abbrev s__law_is_matrix : Stmt := top 32
abbrev N__law_is_matrix : List Str := ["xs", "rows", "k"]
theorem sc__law_is_matrix : FnScope N__law_is_matrix ["xs", "rows"] (defScope s__law_is_matrix) := ⟨rfl, rfl, rfl, by decide +kernel, rfl, by decide +kernel, by decide +kernel⟩
abbrev d__law_is_matrix : DefG := ⟨fun K => He.fAd K ("_law_is_matrix", none), "_law_is_matrix", "_law_is_matrix", defArgs s__law_is_matrix, defBody s__law_is_matrix, defScope s__law_is_matrix, []⟩
abbrev s_identity : Stmt := top 16
abbrev N_identity : List Str := ["size", "i", "j"]
theorem sc_identity : FnScope N_identity ["size"] (defScope s_identity) := ⟨rfl, rfl, rfl, by decide +kernel, rfl, by decide +kernel, by decide +kernel⟩
abbrev d_identity : DefG := ⟨fun K => He.fAd K ("identity", none), "identity", "identity", defArgs s_identity, defBody s_identity, defScope s_identity, []⟩
abbrev s__law_unit : Stmt := top 34
abbrev N__law_unit : List Str := ["size", "rows", "i", "row", "k"]
theorem sc__law_unit : FnScope N__law_unit ["size"] (defScope s__law_unit) := ⟨rfl, rfl, rfl, by decide +kernel, rfl, by decide +kernel, by decide +kernel⟩
abbrev d__law_unit : DefG := ⟨fun K => He.fAd K ("_law_unit", none), "_law_unit", "_law_unit", defArgs s__law_unit, defBody s__law_unit, defScope s__law_unit, []⟩
abbrev s__law_spoil : Stmt := top 35
abbrev N__law_spoil : List Str := ["rows", "row", "k"]
theorem sc__law_spoil : FnScope N__law_spoil ["rows"] (defScope s__law_spoil) := ⟨rfl, rfl, rfl, by decide +kernel, rfl, by decide +kernel, by decide +kernel⟩
abbrev d__law_spoil : DefG := ⟨fun K => He.fAd K ("_law_spoil", none), "_law_spoil", "_law_spoil", defArgs s__law_spoil, defBody s__law_spoil, defScope s__law_spoil, []⟩
abbrev s_law : Stmt := top 36
abbrev N_law : List Str := ["script", "sizes", "height", "width", "across", "style", "rows", "right", "vector", "factors", "extra", "handed", "product", "turn", "image", "combined", "multiplied", "unit", "d", "k", "row"]
theorem sc_law : FnScope N_law ["script"] (defScope s_law) := ⟨rfl, rfl, rfl, by decide +kernel, rfl, by decide +kernel, by decide +kernel⟩
abbrev d_law : DefG := ⟨fun K => He.fAd K ("law", none), "law", "law", defArgs s_law, defBody s_law, defScope s_law, []⟩
/-- what the written part says of this text -/
structure Tx (K : PySem.W.Frag) (mg : Str → Option Value) : Prop where
  cls_Fraction : Cls K (He.ga K "Fraction")
  d_Fraction___add__ : Dn K d_Fraction___add__
  d_Fraction___init__ : Dn K d_Fraction___init__
  d_Fraction___mul__ : Dn K d_Fraction___mul__
  d__in_lowest_terms : Dn K d__in_lowest_terms
  d__law_cell : Dn K d__law_cell
  d__law_combine : Dn K d__law_combine
  d__law_digits : Dn K d__law_digits
  d__law_dot : Dn K d__law_dot
  d__law_is : Dn K d__law_is
  d__law_is_matrix : Dn K d__law_is_matrix
  d__law_is_number : Dn K d__law_is_number
  d__law_is_vector : Dn K d__law_is_vector
  d__law_is_whole : Dn K d__law_is_whole
  d__law_matrix : Dn K d__law_matrix
  d__law_pair : Dn K d__law_pair
  d__law_pairs : Dn K d__law_pairs
  d__law_plus : Dn K d__law_plus
  d__law_size : Dn K d__law_size
  d__law_spoil : Dn K d__law_spoil
  d__law_times : Dn K d__law_times
  d__law_unit : Dn K d__law_unit
  d__law_vector : Dn K d__law_vector
  d_apply : Dn K d_apply
  d_combine : Dn K d_combine
  d_dot : Dn K d_dot
  d_identity : Dn K d_identity
  d_law : Dn K d_law
  d_multiply : Dn K d_multiply
  d_sum_of : Dn K d_sum_of
  d_total_of : Dn K d_total_of
  f_Fraction___add__ : PySem.W.isFn K (.ref (He.fAd K ("Fraction", some "__add__"))) = true
  f_Fraction___mul__ : PySem.W.isFn K (.ref (He.fAd K ("Fraction", some "__mul__"))) = true
  first_Fraction : PySem.W.selfFirst K (He.ga K "Fraction") = true
  g_DivisionByZero : mg "DivisionByZero" = some (.ref (He.ga K "DivisionByZero"))
  g_Fraction : mg "Fraction" = some (.ref (He.ga K "Fraction"))
  g__in_lowest_terms : mg "_in_lowest_terms" = some (.ref (He.fAd K ("_in_lowest_terms", none)))
  g__law_cell : mg "_law_cell" = some (.ref (He.fAd K ("_law_cell", none)))
  g__law_combine : mg "_law_combine" = some (.ref (He.fAd K ("_law_combine", none)))
  g__law_digits : mg "_law_digits" = some (.ref (He.fAd K ("_law_digits", none)))
  g__law_dot : mg "_law_dot" = some (.ref (He.fAd K ("_law_dot", none)))
  g__law_is : mg "_law_is" = some (.ref (He.fAd K ("_law_is", none)))
  g__law_is_matrix : mg "_law_is_matrix" = some (.ref (He.fAd K ("_law_is_matrix", none)))
  g__law_is_number : mg "_law_is_number" = some (.ref (He.fAd K ("_law_is_number", none)))
  g__law_is_vector : mg "_law_is_vector" = some (.ref (He.fAd K ("_law_is_vector", none)))
  g__law_is_whole : mg "_law_is_whole" = some (.ref (He.fAd K ("_law_is_whole", none)))
  g__law_matrix : mg "_law_matrix" = some (.ref (He.fAd K ("_law_matrix", none)))
  g__law_pair : mg "_law_pair" = some (.ref (He.fAd K ("_law_pair", none)))
  g__law_pairs : mg "_law_pairs" = some (.ref (He.fAd K ("_law_pairs", none)))
  g__law_plus : mg "_law_plus" = some (.ref (He.fAd K ("_law_plus", none)))
  g__law_size : mg "_law_size" = some (.ref (He.fAd K ("_law_size", none)))
  g__law_spoil : mg "_law_spoil" = some (.ref (He.fAd K ("_law_spoil", none)))
  g__law_times : mg "_law_times" = some (.ref (He.fAd K ("_law_times", none)))
  g__law_unit : mg "_law_unit" = some (.ref (He.fAd K ("_law_unit", none)))
  g__law_vector : mg "_law_vector" = some (.ref (He.fAd K ("_law_vector", none)))
  g_apply : mg "apply" = some (.ref (He.fAd K ("apply", none)))
  g_combine : mg "combine" = some (.ref (He.fAd K ("combine", none)))
  g_dot : mg "dot" = some (.ref (He.fAd K ("dot", none)))
  g_gcd : mg "gcd" = some (.builtin "math.gcd")
  g_identity : mg "identity" = some (.ref (He.fAd K ("identity", none)))
  g_law : mg "law" = some (.ref (He.fAd K ("law", none)))
  g_multiply : mg "multiply" = some (.ref (He.fAd K ("multiply", none)))
  g_sum_of : mg "sum_of" = some (.ref (He.fAd K ("sum_of", none)))
  g_total_of : mg "total_of" = some (.ref (He.fAd K ("total_of", none)))
  k_DivisionByZero : PySem.W.keepIn K (.ref (He.ga K "DivisionByZero")) = true
  mk_Fraction : Mk K (He.ga K "Fraction") (He.fAd K ("Fraction", some "__init__"))
  n_Fraction_den : NoAttr K (He.ga K "Fraction") "den"
  n_Fraction_num : NoAttr K (He.ga K "Fraction") "num"
  r_DivisionByZero : ∀ {X : Cx}, X.K = K → Raises X (.ref (He.ga K "DivisionByZero"))
  s_Fraction___add__ : PySem.W.findIn K (.ref (He.ga K "Fraction")) "__add__" = some (some (.ref (He.fAd K ("Fraction", some "__add__"))))
  s_Fraction___mul__ : PySem.W.findIn K (.ref (He.ga K "Fraction")) "__mul__" = some (some (.ref (He.fAd K ("Fraction", some "__mul__"))))
  ty_Fraction : ∀ {H : Hp} {a dx : Addr} {fs : List (Str × V)}, H a = some (.ins (He.ga K "Fraction") dx fs) → TyX K H (.ref a) (.ref (He.ga K "Fraction"))
  x_DivisionByZero : PySem.W.excIn K (He.ga K "DivisionByZero") He.veBase "ValueError.__new__" = true
  z_abs : mg "abs" = none
  z_bool : mg "bool" = none
  z_int : mg "int" = none
  z_isinstance : mg "isinstance" = none
  z_len : mg "len" = none
  z_list : mg "list" = none
  z_range : mg "range" = none
  z_zip : mg "zip" = none

/-! ### what the defs promise -/
abbrev CF (K : PySem.W.Frag) : Addr := He.ga K "Fraction"
abbrev CD (K : PySem.W.Frag) : Value := .ref (He.ga K "DivisionByZero")
/-- a Fraction at a: its numerator and denominator -/
abbrev fsF (n d : Int) : List (Str × V) := [("num", .int n), ("den", .int d)]
/-- in lowest terms and of at most k bits -/
structure Lw (k : Nat) (n d : Int) : Prop where
  pos : 0 < d
  cop : Cop n d
  bn : n.natAbs < 2 ^ k
  bd : d.natAbs < 2 ^ k
theorem Lw.fq {k : Nat} {n d : Int} (l : Lw k n d) : Fq n d n d := ⟨rfl, l.pos, l.cop⟩
theorem Lw.ne {k : Nat} {n d : Int} (l : Lw k n d) : d ≠ 0 := by have := l.pos; omega
theorem Lw.mono {k j : Nat} {n d : Int} (l : Lw k n d) (h : k ≤ j) : Lw j n d := ⟨l.pos, l.cop, abs_mono l.bn h, abs_mono l.bd h⟩
theorem lw_of {k : Nat} {n d a b : Int} (f : Fq n d a b) (hd : d ≠ 0) (hn : n.natAbs < 2 ^ k) (hk : d.natAbs < 2 ^ k) : Lw k a b :=
  ⟨f.pos, f.cop, Nat.lt_of_le_of_lt (f.num_le hd) hn, Nat.lt_of_le_of_lt (f.den_le hd) hk⟩
/-- the value is a new Fraction n / d -/
theorem same_mut {H H2 : Hp} {p : Addr} {o : HO} (sm : Same H H2) (np : H p = none) : Same H (upd H2 p o) := fun b x e => by
  rw [upd_ne (ne_of_none e np)]
  exact sm _ _ e
theorem same_made0 {H : Hp} {p dp C : Addr} (np : H p = none) (nd : H dp = none) : Same H (upd (upd H dp (.own p)) p (.ins C dp [])) := fun b x e => by
  rw [upd_ne (ne_of_none e np), upd_ne (ne_of_none e nd)]
  exact e
/-- Fraction(..), its values all written or with the default; nothing is raised -/
def mkFr (K : PySem.W.Frag) (dvs : List V) : List V → Hp → VK → Prop := fun vs H1 Q => ∃ (n d : Int) (k : Nat), vs ++ dvs = [.int n, .int d] ∧ d.natAbs < 2 ^ k ∧ k ≤ 8000 ∧ d ≠ 0 ∧
  ∀ p dp H2 a b, Same H1 H2 → H1 p = none → H2 p = some (.ins (CF K) dp (fsF a b)) → Fq n d a b → Q (.ref p) H2
/-- .. in a try's body: W is wished of an exception, with the slots -/
def mkFrS (K : PySem.W.Frag) (dvs : List V) (W : WX) : L2.St → List V → Hp → VK → Prop := fun σ vs H1 Q => ∃ (n d : Int) (k : Nat), vs ++ dvs = [.int n, .int d] ∧ d.natAbs < 2 ^ k ∧ k ≤ 8000 ∧ (d = 0 → ∀ H2, Same H1 H2 → W (CD K) none σ H2) ∧
  (d ≠ 0 → ∀ p dp H2 a b, Same H1 H2 → H1 p = none → H2 p = some (.ins (CF K) dp (fsF a b)) → Fq n d a b → Q (.ref p) H2)
def RF (K : PySem.W.Frag) (H : Hp) (Q : VK) (R : Int → Int → Prop) : Prop := ∀ p dp H' n d, Same H H' → H p = none → H' p = some (.ins (CF K) dp (fsF n d)) → R n d → Q (.ref p) H'


/-! ### lists of fractions -/
/-- the list's items are the fractions qs -/
structure FrL (K : PySem.W.Frag) (H : Hp) (xs : List V) (qs : List (Int × Int)) : Prop where
  len : xs.length = qs.length
  at_ : ∀ (i : Nat) (q : Int × Int), qs[i]? = some q → ∃ a dx, xs[i]? = some (.ref a) ∧ H a = some (.ins (CF K) dx (fsF q.1 q.2))
theorem FrL.mono {K : PySem.W.Frag} {H H' : Hp} {xs : List V} {qs : List (Int × Int)} (f : FrL K H xs qs) (sm : Same H H') : FrL K H' xs qs :=
  ⟨f.len, fun i q h => by obtain ⟨a, dx, e, h2⟩ := f.at_ i q h; exact ⟨a, dx, e, sm _ _ h2⟩⟩
theorem FrL.nil {K : PySem.W.Frag} {H : Hp} : FrL K H [] [] := ⟨rfl, fun i q h => by simp at h⟩
theorem FrL.snoc {K : PySem.W.Frag} {H : Hp} {xs : List V} {qs : List (Int × Int)} {a dx : Addr} {n d : Int} (f : FrL K H xs qs) (h : H a = some (.ins (CF K) dx (fsF n d))) : FrL K H (xs ++ [.ref a]) (qs ++ [(n, d)]) := by
  refine ⟨by simp [f.len], fun i q hq => ?_⟩
  by_cases c : i < qs.length
  · rw [List.getElem?_append_left c] at hq
    obtain ⟨b, dy, e, h2⟩ := f.at_ i q hq
    exact ⟨b, dy, by rw [List.getElem?_append_left (by rw [f.len]; exact c)]; exact e, h2⟩
  · rw [List.getElem?_append_right (by omega)] at hq
    have c0 : i - qs.length = 0 := by
      refine Decidable.byContradiction fun z => ?_
      rw [List.getElem?_eq_none (by simp; omega)] at hq
      cases hq
    rw [c0] at hq
    cases hq
    exact ⟨a, dx, by rw [List.getElem?_append_right (by rw [f.len]; omega), f.len, c0]; rfl, h⟩
theorem FrL.upd {K : PySem.W.Frag} {H : Hp} {xs : List V} {qs : List (Int × Int)} {D : Addr} {ys : List V} {o : HO} (f : FrL K H xs qs) (h : H D = some (.lst ys)) : FrL K (upd H D o) xs qs :=
  ⟨f.len, fun i q e => by
    obtain ⟨a, dx, e1, e2⟩ := f.at_ i q e
    have ne : a ≠ D := fun z => by rw [z, h] at e2; cases e2
    exact ⟨a, dx, e1, by rw [upd_ne ne]; exact e2⟩⟩
theorem FrL.take {K : PySem.W.Frag} {H : Hp} {xs : List V} {qs : List (Int × Int)} (f : FrL K H xs qs) (m : Nat) : FrL K H (xs.take m) (qs.take m) := by
  refine ⟨by simp [f.len], fun i q h => ?_⟩
  rw [List.getElem?_take] at h
  by_cases c : i < m
  · rw [if_pos c] at h
    obtain ⟨a, dx, e, h2⟩ := f.at_ i q h
    exact ⟨a, dx, by rw [List.getElem?_take, if_pos c]; exact e, h2⟩
  · rw [if_neg c] at h
    cases h
theorem FrL.drop {K : PySem.W.Frag} {H : Hp} {xs : List V} {qs : List (Int × Int)} (f : FrL K H xs qs) (m : Nat) : FrL K H (xs.drop m) (qs.drop m) := by
  refine ⟨by simp [f.len], fun i q h => ?_⟩
  rw [List.getElem?_drop] at h
  obtain ⟨a, dx, e, h2⟩ := f.at_ _ q h
  exact ⟨a, dx, by rw [List.getElem?_drop]; exact e, h2⟩
/-- the sum of pairs, not in lowest terms -/
def sumQ : List (Int × Int) → Int × Int
  | [] => (0, 1)
  | q :: r => (q.1 * (sumQ r).2 + (sumQ r).1 * q.2, q.2 * (sumQ r).2)
def prodQ : List (Int × Int) → Int × Int
  | [] => (1, 1)
  | q :: r => (q.1 * (prodQ r).1, q.2 * (prodQ r).2)
theorem sumQ_append (xs ys : List (Int × Int)) : sumQ (xs ++ ys) = ((sumQ xs).1 * (sumQ ys).2 + (sumQ ys).1 * (sumQ xs).2, (sumQ xs).2 * (sumQ ys).2) := by
  induction xs with
  | nil => simp [sumQ]
  | cons q r ih =>
    rw [List.cons_append, sumQ, ih, sumQ]
    refine Prod.ext ?_ ?_ <;> dsimp only <;> grind
theorem prodQ_append (xs ys : List (Int × Int)) : prodQ (xs ++ ys) = ((prodQ xs).1 * (prodQ ys).1, (prodQ xs).2 * (prodQ ys).2) := by
  induction xs with
  | nil => simp [prodQ]
  | cons q r ih =>
    rw [List.cons_append, prodQ, ih, prodQ]
    refine Prod.ext ?_ ?_ <;> dsimp only <;> grind
abbrev AllLw (k : Nat) (qs : List (Int × Int)) : Prop := ∀ q ∈ qs, Lw k q.1 q.2
theorem sumQ_pos {k : Nat} : ∀ {qs : List (Int × Int)}, AllLw k qs → 0 < (sumQ qs).2
  | [], _ => by simp [sumQ]
  | q :: r, h => Int.mul_pos (h q (by simp)).pos (sumQ_pos fun x hx => h x (by simp [hx]))
theorem prodQ_pos {k : Nat} : ∀ {qs : List (Int × Int)}, AllLw k qs → 0 < (prodQ qs).2
  | [], _ => by simp [prodQ]
  | q :: r, h => Int.mul_pos (h q (by simp)).pos (prodQ_pos fun x hx => h x (by simp [hx]))
theorem sumQ_bits {k : Nat} : ∀ {qs : List (Int × Int)}, AllLw k qs → (sumQ qs).1.natAbs < 2 ^ ((k + 1) * qs.length + 1) ∧ (sumQ qs).2.natAbs < 2 ^ ((k + 1) * qs.length + 1)
  | [], _ => by simp [sumQ]
  | q :: r, h => by
    have l := h q (by simp)
    obtain ⟨h1, h2⟩ := sumQ_bits (qs := r) fun x hx => h x (by simp [hx])
    have e : (k + 1) * (q :: r).length + 1 = (k + ((k + 1) * r.length + 1)) + 1 := by rw [List.length_cons]; grind
    have a1 := abs_lt_mul l.bn h2
    have a2 := abs_lt_mul h1 l.bd
    have a3 := abs_lt_mul l.bd h2
    rw [Nat.add_comm _ k] at a2
    rw [e]
    constructor
    · have z := sz_add a1 a2
      rw [Nat.max_self] at z
      exact z
    · exact abs_mono a3 (by omega)
theorem prodQ_bits {k : Nat} : ∀ {qs : List (Int × Int)}, AllLw k qs → (prodQ qs).1.natAbs < 2 ^ (k * qs.length + 1) ∧ (prodQ qs).2.natAbs < 2 ^ (k * qs.length + 1)
  | [], _ => by simp [prodQ]
  | q :: r, h => by
    have l := h q (by simp)
    obtain ⟨h1, h2⟩ := prodQ_bits (qs := r) fun x hx => h x (by simp [hx])
    have e : k * (q :: r).length + 1 = k + (k * r.length + 1) := by rw [List.length_cons]; grind
    rw [e]
    exact ⟨abs_lt_mul l.bn h1, abs_lt_mul l.bd h2⟩
theorem AllLw.take {k : Nat} {qs : List (Int × Int)} (h : AllLw k qs) (m : Nat) : AllLw k (qs.take m) := fun q hq => h q (List.mem_of_mem_take hq)
theorem AllLw.drop {k : Nat} {qs : List (Int × Int)} (h : AllLw k qs) (m : Nat) : AllLw k (qs.drop m) := fun q hq => h q (List.mem_of_mem_drop hq)
/-- the answer is a fraction, new or not -/
def RS (K : PySem.W.Frag) (H : Hp) (Q : VK) (R : Int → Int → Prop) : Prop := ∀ p dp H' n d, Same H H' → H' p = some (.ins (CF K) dp (fsF n d)) → R n d → Q (.ref p) H'


theorem yes_ok {σ : L2.St} {H : Hp} {Q : Bool → Hp → Prop} (h : Q true H) : tYes σ H Q := h
/-! ### lists of pairs -/
structure PrOk (p : Int × Int) : Prop where
  l : -9 ≤ p.1 ∧ p.1 ≤ 9
  d : 1 ≤ p.2 ∧ p.2 ≤ 4
abbrev prO (p : Int × Int) : HO := .tup [.int p.1, .int p.2]
structure PrL (H : Hp) (xs : List V) (ps : List (Int × Int)) : Prop where
  len : xs.length = ps.length
  at_ : ∀ (i : Nat) (q : Int × Int), ps[i]? = some q → ∃ a, xs[i]? = some (.ref a) ∧ H a = some (prO q)
theorem PrL.mono {H H' : Hp} {xs : List V} {ps : List (Int × Int)} (f : PrL H xs ps) (sm : Same H H') : PrL H' xs ps :=
  ⟨f.len, fun i q h => by obtain ⟨a, e, h2⟩ := f.at_ i q h; exact ⟨a, e, sm _ _ h2⟩⟩
theorem PrL.nil {H : Hp} : PrL H [] [] := ⟨rfl, fun i q h => by simp at h⟩
theorem PrL.snoc {H : Hp} {xs : List V} {ps : List (Int × Int)} {a : Addr} {p : Int × Int} (f : PrL H xs ps) (h : H a = some (prO p)) : PrL H (xs ++ [.ref a]) (ps ++ [p]) := by
  refine ⟨by simp [f.len], fun i q hq => ?_⟩
  by_cases c : i < ps.length
  · rw [List.getElem?_append_left c] at hq
    obtain ⟨b, e, h2⟩ := f.at_ i q hq
    exact ⟨b, by rw [List.getElem?_append_left (by rw [f.len]; exact c)]; exact e, h2⟩
  · rw [List.getElem?_append_right (by omega)] at hq
    have c0 : i - ps.length = 0 := by
      refine Decidable.byContradiction fun z => ?_
      rw [List.getElem?_eq_none (by simp; omega)] at hq
      cases hq
    rw [c0] at hq
    cases hq
    exact ⟨a, by rw [List.getElem?_append_right (by rw [f.len]; omega), f.len, c0]; rfl, h⟩
theorem PrL.upd {H : Hp} {xs : List V} {ps : List (Int × Int)} {D : Addr} {ys : List V} {o : HO} (f : PrL H xs ps) (h : H D = some (.lst ys)) : PrL (upd H D o) xs ps :=
  ⟨f.len, fun i q e => by
    obtain ⟨a, e1, e2⟩ := f.at_ i q e
    have ne : a ≠ D := fun z => by rw [z, h] at e2; cases e2
    exact ⟨a, e1, by rw [upd_ne ne]; exact e2⟩⟩
theorem PrL.item {H : Hp} {xs : List V} {ps : List (Int × Int)} {i : Nat} {x : V} (f : PrL H xs ps) (h : xs[i]? = some x) : ∃ q b, ps[i]? = some q ∧ x = .ref b ∧ H b = some (prO q) := by
  have hi : i < ps.length := by
    rw [← f.len]
    exact (List.getElem?_eq_some_iff.mp h).1
  obtain ⟨a, e, h2⟩ := f.at_ i _ (List.getElem?_eq_getElem hi)
  rw [h] at e
  cases e
  exact ⟨_, a, List.getElem?_eq_getElem hi, rfl, h2⟩
/-- both numbers have at most k bits -/
structure PrB (k : Nat) (p : Int × Int) : Prop where
  a : p.1.natAbs < 2 ^ k
  b : p.2.natAbs < 2 ^ k

/-- the list's items are the fractions that the pairs tell, of at most k bits -/
def VF (K : PySem.W.Frag) (k : Nat) (H : Hp) (xs : List V) (ps : List (Int × Int)) : Prop :=
  ∃ qs, FrL K H xs qs ∧ AllLw k qs ∧ qs.length = ps.length ∧ ∀ (i : Nat) (x q : Int × Int), ps[i]? = some x → qs[i]? = some q → Fq x.1 x.2 q.1 q.2
theorem VF.mono {K : PySem.W.Frag} {k : Nat} {H H' : Hp} {xs : List V} {ps : List (Int × Int)} (f : VF K k H xs ps) (sm : Same H H') : VF K k H' xs ps := by
  obtain ⟨qs, h1, h2⟩ := f
  exact ⟨qs, h1.mono sm, h2⟩
theorem VF.len {K : PySem.W.Frag} {k : Nat} {H : Hp} {xs : List V} {ps : List (Int × Int)} (f : VF K k H xs ps) : xs.length = ps.length := by
  obtain ⟨qs, h1, _, h3, _⟩ := f
  rw [h1.len, h3]
theorem VF.nil {K : PySem.W.Frag} {k : Nat} {H : Hp} : VF K k H [] [] := ⟨[], .nil, fun q h => absurd h (by simp), rfl, fun i x q h => by simp at h⟩
theorem VF.upd {K : PySem.W.Frag} {k : Nat} {H : Hp} {xs : List V} {ps : List (Int × Int)} {D : Addr} {ys : List V} {o : HO} (f : VF K k H xs ps) (h : H D = some (.lst ys)) : VF K k (upd H D o) xs ps := by
  obtain ⟨qs, h1, h2⟩ := f
  exact ⟨qs, h1.upd h, h2⟩
theorem VF.snoc {K : PySem.W.Frag} {k : Nat} {H : Hp} {xs : List V} {ps : List (Int × Int)} {a dx : Addr} {n d : Int} {x : Int × Int} (f : VF K k H xs ps) (h : H a = some (.ins (CF K) dx (fsF n d))) (l : Lw k n d) (e : Fq x.1 x.2 n d) : VF K k H (xs ++ [.ref a]) (ps ++ [x]) := by
  obtain ⟨qs, h1, h2, h3, h4⟩ := f
  refine ⟨qs ++ [(n, d)], h1.snoc h, fun q hq => ?_, by simp [h3], fun i x' q hx hq => ?_⟩
  · rcases List.mem_append.mp hq with hq | hq
    · exact h2 q hq
    · rw [List.mem_singleton.mp hq]; exact l
  · by_cases c : i < ps.length
    · rw [List.getElem?_append_left c] at hx
      rw [List.getElem?_append_left (by rw [h3]; exact c)] at hq
      exact h4 i x' q hx hq
    · rw [List.getElem?_append_right (by omega)] at hx
      rw [List.getElem?_append_right (by omega), h3] at hq
      have c0 : i - ps.length = 0 := by
        refine Decidable.byContradiction fun z => ?_
        rw [List.getElem?_eq_none (by simp; omega)] at hx
        cases hx
      rw [c0] at hx hq
      cases hx
      cases hq
      exact e
theorem VF.item {K : PySem.W.Frag} {k : Nat} {H : Hp} {xs : List V} {ps : List (Int × Int)} {i : Nat} {v : V} (f : VF K k H xs ps) (h : xs[i]? = some v) : ∃ x n d b dx, ps[i]? = some x ∧ v = .ref b ∧ H b = some (.ins (CF K) dx (fsF n d)) ∧ Lw k n d ∧ Fq x.1 x.2 n d := by
  obtain ⟨qs, h1, h2, h3, h4⟩ := f
  have hi : i < qs.length := by
    rw [← h1.len]
    exact (List.getElem?_eq_some_iff.mp h).1
  obtain ⟨a, dx, e, hx⟩ := h1.at_ i _ (List.getElem?_eq_getElem hi)
  rw [h] at e
  cases e
  have e2 := List.getElem?_eq_getElem (show i < ps.length by omega)
  exact ⟨_, _, _, a, dx, e2, rfl, hx, h2 _ (List.getElem_mem hi), h4 i _ _ e2 (List.getElem?_eq_getElem hi)⟩
theorem PrOk.lw {x : Int × Int} {n d : Int} (h : PrOk x) (f : Fq x.1 x.2 n d) : Lw 4 n d := lw_of f (by have := h.d; omega) (by have := h.l; omega) (by have := h.d; omega)
theorem PrOk.bits {x : Int × Int} (h : PrOk x) : PrB 4 x := ⟨by have := h.l; omega, by have := h.d; omega⟩
/-- a list of lists of pairs; of fractions; of new lists of fractions -/
structure MatP (H : Hp) (xs : List V) (ts : List (List (Int × Int))) : Prop where
  len : xs.length = ts.length
  at_ : ∀ (i : Nat) (r : List (Int × Int)), ts[i]? = some r → ∃ a ys, xs[i]? = some (V.ref a) ∧ H a = some (.lst ys) ∧ PrL H ys r
structure MatF (K : PySem.W.Frag) (k : Nat) (H : Hp) (xs : List V) (ts : List (List (Int × Int))) : Prop where
  len : xs.length = ts.length
  at_ : ∀ (i : Nat) (r : List (Int × Int)), ts[i]? = some r → ∃ a ys, xs[i]? = some (V.ref a) ∧ H a = some (.lst ys) ∧ VF K k H ys r
structure MatN (K : PySem.W.Frag) (k : Nat) (H0 : Hp) (D : Addr) (H : Hp) (xs : List V) (ts : List (List (Int × Int))) : Prop where
  len : xs.length = ts.length
  at_ : ∀ (i : Nat) (r : List (Int × Int)), ts[i]? = some r → ∃ a ys, xs[i]? = some (V.ref a) ∧ H0 a = none ∧ a ≠ D ∧ H a = some (.lst ys) ∧ VF K k H ys r
theorem MatP.mono {H H' : Hp} {xs : List V} {ts : List (List (Int × Int))} (f : MatP H xs ts) (sm : Same H H') : MatP H' xs ts :=
  ⟨f.len, fun i r h => by obtain ⟨a, ys, e, h1, h2⟩ := f.at_ i r h; exact ⟨a, ys, e, sm _ _ h1, h2.mono sm⟩⟩
theorem MatF.mono {K : PySem.W.Frag} {k : Nat} {H H' : Hp} {xs : List V} {ts : List (List (Int × Int))} (f : MatF K k H xs ts) (sm : Same H H') : MatF K k H' xs ts :=
  ⟨f.len, fun i r h => by obtain ⟨a, ys, e, h1, h2⟩ := f.at_ i r h; exact ⟨a, ys, e, sm _ _ h1, h2.mono sm⟩⟩
theorem MatN.mono {K : PySem.W.Frag} {k : Nat} {H0 H H' : Hp} {D : Addr} {xs : List V} {ts : List (List (Int × Int))} (f : MatN K k H0 D H xs ts) (sm : Same H H') : MatN K k H0 D H' xs ts :=
  ⟨f.len, fun i r h => by obtain ⟨a, ys, e, h0, n, h1, h2⟩ := f.at_ i r h; exact ⟨a, ys, e, h0, n, sm _ _ h1, h2.mono sm⟩⟩
theorem MatN.mat {K : PySem.W.Frag} {k : Nat} {H0 H : Hp} {D : Addr} {xs : List V} {ts : List (List (Int × Int))} (f : MatN K k H0 D H xs ts) : MatF K k H xs ts :=
  ⟨f.len, fun i r h => by obtain ⟨a, ys, e, h0, n, h1, h2⟩ := f.at_ i r h; exact ⟨a, ys, e, h1, h2⟩⟩
theorem MatN.old {K : PySem.W.Frag} {k : Nat} {H0 G H : Hp} {D : Addr} {xs : List V} {ts : List (List (Int × Int))} (f : MatN K k G D H xs ts) (sm : Same H0 G) : MatN K k H0 D H xs ts :=
  ⟨f.len, fun i r h => by obtain ⟨a, ys, e, h0, n, h1, h2⟩ := f.at_ i r h; exact ⟨a, ys, e, sm.free h0, n, h1, h2⟩⟩
theorem MatP.item {H : Hp} {xs : List V} {ts : List (List (Int × Int))} {i : Nat} {v : V} (f : MatP H xs ts) (h : xs[i]? = some v) : ∃ r a ys, ts[i]? = some r ∧ v = V.ref a ∧ H a = some (.lst ys) ∧ PrL H ys r := by
  have hi : i < ts.length := by
    rw [← f.len]
    exact (List.getElem?_eq_some_iff.mp h).1
  obtain ⟨a, ys, e, h1, h2⟩ := f.at_ i _ (List.getElem?_eq_getElem hi)
  rw [h] at e
  cases e
  exact ⟨_, a, ys, List.getElem?_eq_getElem hi, rfl, h1, h2⟩
theorem MatF.item {K : PySem.W.Frag} {k : Nat} {H : Hp} {xs : List V} {ts : List (List (Int × Int))} {i : Nat} {v : V} (f : MatF K k H xs ts) (h : xs[i]? = some v) : ∃ r a ys, ts[i]? = some r ∧ v = V.ref a ∧ H a = some (.lst ys) ∧ VF K k H ys r := by
  have hi : i < ts.length := by
    rw [← f.len]
    exact (List.getElem?_eq_some_iff.mp h).1
  obtain ⟨a, ys, e, h1, h2⟩ := f.at_ i _ (List.getElem?_eq_getElem hi)
  rw [h] at e
  cases e
  exact ⟨_, a, ys, List.getElem?_eq_getElem hi, rfl, h1, h2⟩
theorem MatN.nil {K : PySem.W.Frag} {k : Nat} {H0 H : Hp} {D : Addr} : MatN K k H0 D H [] [] := ⟨rfl, fun i r h => by simp at h⟩
/-- one more row, D itself being changed -/
theorem MatN.snoc {K : PySem.W.Frag} {k : Nat} {H0 H : Hp} {xs : List V} {ts : List (List (Int × Int))} {D a : Addr} {zs ys : List V} {r : List (Int × Int)} {o : HO} (f : MatN K k H0 D H xs ts) (hD : H D = some (.lst zs)) (h0 : H0 a = none) (n : a ≠ D) (h1 : H a = some (.lst ys)) (h2 : VF K k H ys r) : MatN K k H0 D (upd H D o) (xs ++ [.ref a]) (ts ++ [r]) := by
  refine ⟨by simp [f.len], fun i r' hr => ?_⟩
  by_cases c : i < ts.length
  · rw [List.getElem?_append_left c] at hr
    obtain ⟨b, ws, e, h3, h4, h5, h6⟩ := f.at_ i r' hr
    exact ⟨b, ws, by rw [List.getElem?_append_left (by rw [f.len]; exact c)]; exact e, h3, h4, by rw [upd_ne h4]; exact h5, h6.upd hD⟩
  · rw [List.getElem?_append_right (by omega)] at hr
    have c0 : i - ts.length = 0 := by
      refine Decidable.byContradiction fun z => ?_
      rw [List.getElem?_eq_none (by simp; omega)] at hr
      cases hr
    rw [c0] at hr
    cases hr
    exact ⟨a, ys, by rw [List.getElem?_append_right (by rw [f.len]; omega), f.len, c0]; rfl, h0, n, by rw [upd_ne n]; exact h1, h2.upd hD⟩

/-- the same number -/
def REq (x y : Int × Int) : Prop := x.1 * y.2 = y.1 * x.2
def mulP (x y : Int × Int) : Int × Int := (x.1 * y.1, x.2 * y.2)
def addP (x y : Int × Int) : Int × Int := (x.1 * y.2 + y.1 * x.2, x.2 * y.2)
def dotP (xs ys : List (Int × Int)) : Int × Int := sumQ (List.zipWith mulP xs ys)
theorem sumQ_one (m : Int × Int) : sumQ [m] = m := by simp [sumQ]
theorem sumQ_snoc (zs : List (Int × Int)) (m : Int × Int) : sumQ (zs ++ [m]) = addP (sumQ zs) m := by
  rw [sumQ_append, sumQ_one]
  rfl
theorem zip_more {xs ys : List (Int × Int)} {i : Nat} {x y : Int × Int} (f : Int × Int → Int × Int → Int × Int) (hx : xs[i]? = some x) (hy : ys[i]? = some y) : List.zipWith f (xs.take (i + 1)) (ys.take (i + 1)) = List.zipWith f (xs.take i) (ys.take i) ++ [f x y] := by
  have h1 : i < xs.length := (List.getElem?_eq_some_iff.mp hx).1
  have h2 : i < ys.length := (List.getElem?_eq_some_iff.mp hy).1
  rw [List.take_succ, List.take_succ, hx, hy, List.zipWith_append (by rw [List.length_take, List.length_take]; omega)]
  rfl
theorem dotP_more {xs ys : List (Int × Int)} {i : Nat} {x y : Int × Int} (hx : xs[i]? = some x) (hy : ys[i]? = some y) : dotP (xs.take (i + 1)) (ys.take (i + 1)) = addP (dotP (xs.take i) (ys.take i)) (mulP x y) := by
  rw [dotP, zip_more mulP hx hy, sumQ_snoc]
  rfl
theorem REq.add {z d m : Int × Int} (h : REq z d) : REq (addP z m) (addP d m) := by
  have e : z.1 * d.2 = d.1 * z.2 := h
  show (z.1 * m.2 + m.1 * z.2) * (d.2 * m.2) = (d.1 * m.2 + m.1 * d.2) * (z.2 * m.2)
  grind
theorem REq.skip {z d m : Int × Int} (h : REq z d) (h0 : m.1 = 0) : REq z (addP d m) := by
  have e : z.1 * d.2 = d.1 * z.2 := h
  show z.1 * (d.2 * m.2) = (d.1 * m.2 + m.1 * d.2) * z.2
  rw [h0]
  grind
theorem PrB.mono {k j : Nat} {x : Int × Int} (h : PrB k x) (l : k ≤ j) : PrB j x := ⟨abs_mono h.a l, abs_mono h.b l⟩
theorem PrB.mul {k j : Nat} {x y : Int × Int} (h : PrB k x) (l : PrB j y) : PrB (k + j) (mulP x y) := ⟨abs_lt_mul h.a l.a, abs_lt_mul h.b l.b⟩
theorem PrB.add {k j : Nat} {x y : Int × Int} (h : PrB k x) (l : PrB j y) : PrB (k + j + 1) (addP x y) := by
  have z := sz_add (abs_lt_mul h.a l.b) (abs_lt_mul l.a h.b)
  exact ⟨abs_mono z (by omega), abs_mono (abs_lt_mul h.b l.b) (by omega)⟩
theorem lc_zip {K : PySem.W.Frag} {a b : Addr} {xs ys : List V} {g : TG} {tt : TT} {te : TE} {vs : List Nat} {σ : L2.St} {H1 : Hp} {D : Addr} {Qd : Hp → Prop} (hl : xs.length = ys.length) (Pv : Nat → Hp → Prop) (h0 : Pv 0 (upd H1 D (.lst [])))
    (hq : ∀ i H, Pv i H → SqL K H a xs ∧ SqL K H b ys)
    (hs : ∀ i x y T H, xs[i]? = some x → ys[i]? = some y → Pv i H → H T = none → g (.ref T) (wipe σ vs) (upd H T (.tup [x, y])) fun σ2 H2 => wipe σ2 vs = wipe σ vs ∧ tt σ2 H2 fun k H3 =>
      if k = true then te σ2 H3 fun y H4 => ∃ acc, H4 D = some (.lst acc) ∧ acc.length < sizeLine ∧ Pv (i + 1) (upd H4 D (.lst (acc ++ [y]))) else Pv (i + 1) H3)
    (hd : ∀ H, Pv xs.length H → Qd H) :
    ∃ W : Nat → Nat → Hp → Prop, (∃ m, W 0 m (upd H1 D (.lst []))) ∧ ∀ i m H, W i m H →
      ((Itz K a b).stop i H ∧ Qd H) ∨ ((Itz K a b).go i H ∧ ∃ Nx : Hp → Prop, (∀ H', Nx H' → ∃ m', m' < m ∧ W (i + 1) m' H') ∧
        ∀ x H', (Itz K a b).yld i H x H' → g x (wipe σ vs) H' fun σ2 H2 => wipe σ2 vs = wipe σ vs ∧ tt σ2 H2 fun k H3 =>
          if k = true then te σ2 H3 fun y H4 => ∃ acc, H4 D = some (.lst acc) ∧ acc.length < sizeLine ∧ Nx (upd H4 D (.lst (acc ++ [y]))) else Nx H3) := by
  refine ⟨fun i m H => m = xs.length - i ∧ i ≤ xs.length ∧ Pv i H, ⟨_, rfl, Nat.zero_le _, h0⟩, fun i m H hw => ?_⟩
  obtain ⟨rfl, hi, p⟩ := hw
  obtain ⟨qa, qb⟩ := hq i H p
  by_cases lt : i < xs.length
  · have lt2 : i < ys.length := by omega
    refine .inr ⟨⟨xs, ys, xs[i], ys[i], qa, qb, List.getElem?_eq_getElem lt, List.getElem?_eq_getElem lt2⟩, Pv (i + 1), fun H' p' => ⟨_, by omega, rfl, lt, p'⟩, fun x H' y => ?_⟩
    obtain ⟨T, z, z2, rfl, nT, rfl, hz, hz2⟩ := y
    exact hs i z z2 T H (hz xs qa) (hz2 ys qb) p nT
  · have e : i = xs.length := by omega
    subst e
    exact .inl ⟨⟨xs, ys, qa, qb, .inl (Nat.le_refl _)⟩, hd H p⟩
theorem sumQ_req : ∀ {qs zs : List (Int × Int)}, qs.length = zs.length → (∀ (i : Nat) (x q : Int × Int), zs[i]? = some x → qs[i]? = some q → Fq x.1 x.2 q.1 q.2) → REq (sumQ qs) (sumQ zs)
  | [], [], _, _ => rfl
  | q :: r, x :: s, hl, h => by
    have e1 := (h 0 x q rfl rfl).eq
    have e2 : (sumQ r).1 * (sumQ s).2 = (sumQ s).1 * (sumQ r).2 := sumQ_req (by simpa using hl) fun i x q hx hq => h (i + 1) x q hx hq
    show (q.1 * (sumQ r).2 + (sumQ r).1 * q.2) * (x.2 * (sumQ s).2) = (x.1 * (sumQ s).2 + (sumQ s).1 * x.2) * (q.2 * (sumQ r).2)
    grind
theorem map_more {A B : Type} {xs : List A} {i : Nat} {x : A} (f : A → B) (h : xs[i]? = some x) : (xs.take (i + 1)).map f = (xs.take i).map f ++ [f x] := by
  rw [List.take_succ, h, List.map_append]
  rfl
/-- the j-th numbers of the rows -/
def colP (ts : List (List (Int × Int))) (j : Nat) : List (Int × Int) := ts.map fun r => r.getD j (0, 1)
def combP (xs : List (Int × Int)) (ts : List (List (Int × Int))) (w : Nat) : List (Int × Int) := (List.range w).map fun j => dotP xs (colP ts j)

def unitP (n : Nat) : List (List (Int × Int)) := (List.range n).map fun i => (List.range n).map fun j => if i = j then (1, 1) else (0, 1)
theorem PrL.set {H : Hp} {xs : List V} {ps : List (Int × Int)} {a : Addr} {p : Int × Int} (i : Nat) (f : PrL H xs ps) (h : H a = some (prO p)) : PrL H (xs.set i (.ref a)) (ps.set i p) := by
  refine ⟨by simp [f.len], fun j q hq => ?_⟩
  by_cases c : j = i
  · subst c
    have lj : j < ps.length := by
      have := (List.getElem?_eq_some_iff.mp hq).1
      rwa [List.length_set] at this
    rw [List.getElem?_set_self lj] at hq
    cases hq
    exact ⟨a, by rw [List.getElem?_set_self (by rw [f.len]; exact lj)], h⟩
  · rw [List.getElem?_set_ne (by omega)] at hq
    obtain ⟨b, e, h2⟩ := f.at_ j q hq
    exact ⟨b, by rw [List.getElem?_set_ne (by omega)]; exact e, h2⟩
theorem MatP.nil {H : Hp} : MatP H [] [] := ⟨rfl, fun i r h => by simp at h⟩
/-- one more row, D itself being changed -/
theorem MatP.snoc {H : Hp} {xs : List V} {ts : List (List (Int × Int))} {D a : Addr} {zs ys : List V} {r : List (Int × Int)} {o : HO} (f : MatP H xs ts) (ne : ∀ (j : Nat) (b : Addr), xs[j]? = some (V.ref b) → b ≠ D) (hD : H D = some (.lst zs)) (n : a ≠ D) (h1 : H a = some (.lst ys)) (h2 : PrL H ys r) : MatP (upd H D o) (xs ++ [.ref a]) (ts ++ [r]) := by
  refine ⟨by simp [f.len], fun i r' hr => ?_⟩
  by_cases c : i < ts.length
  · rw [List.getElem?_append_left c] at hr
    obtain ⟨b, ws, e, h5, h6⟩ := f.at_ i r' hr
    exact ⟨b, ws, by rw [List.getElem?_append_left (by rw [f.len]; exact c)]; exact e, by rw [upd_ne (ne i b e)]; exact h5, h6.upd hD⟩
  · rw [List.getElem?_append_right (by omega)] at hr
    have c0 : i - ts.length = 0 := by
      refine Decidable.byContradiction fun z => ?_
      rw [List.getElem?_eq_none (by simp; omega)] at hr
      cases hr
    rw [c0] at hr
    cases hr
    exact ⟨a, ys, by rw [List.getElem?_append_right (by rw [f.len]; omega), f.len, c0]; rfl, by rw [upd_ne n]; exact h1, h2.upd hD⟩
theorem unit_row (n i : Nat) (h : i < n) : ((List.range n).map fun _ => ((0, 1) : Int × Int)).set i (1, 1) = (List.range n).map fun j => if i = j then ((1, 1) : Int × Int) else (0, 1) := by
  refine List.ext_getElem? fun j => ?_
  by_cases hj : j < n
  · by_cases c : j = i
    · subst c
      rw [List.getElem?_set_self (by simp; omega), List.getElem?_map, List.getElem?_range hj]
      simp
    · rw [List.getElem?_set_ne (by omega), List.getElem?_map, List.getElem?_map, List.getElem?_range hj]
      simp [show ¬ i = j by omega]
  · rw [List.getElem?_eq_none (by simp; omega), List.getElem?_eq_none (by simp; omega)]

/-- some number -/
def spCell (K : PySem.W.Frag) : Sp := fun vs H Q _ => ∃ (a : Addr) (ns : List Int) (k : Int), vs = [.ref a, .int k] ∧ SqL K H a (ns.map V.int) ∧ 0 ≤ k ∧ ∀ c : Int, Q (.int c) H
def spDig (K : PySem.W.Frag) : Sp := fun vs H Q _ => ∃ c l n : Int, vs = [.int c, .int l, .int n] ∧ 0 < l ∧ l ≤ 1000 ∧ 0 ≤ n ∧ n ≤ 100 ∧
  ∀ p H' (ms : List Int), Same H H' → H p = none → H' p = some (.lst (ms.map V.int)) → ms.length = n.toNat → (∀ m ∈ ms, 0 ≤ m ∧ m < l) → Q (.ref p) H'
def spSize (K : PySem.W.Frag) : Sp := fun vs H Q _ => ∃ d : Int, vs = [.int d] ∧ ∀ c : Int, 0 ≤ c → c ≤ 11 → Q (.int c) H
/-- a new pair: a number of at most two digits over 1 to 4 -/
def spPair (K : PySem.W.Frag) : Sp := fun vs H Q _ => ∃ d s : Int, vs = [.int d, .int s] ∧ ∀ p H' (x : Int × Int), Same H H' → H p = none → H' p = some (prO x) → PrOk x → Q (.ref p) H'
/-- a new list of c pairs -/
def spPairs (K : PySem.W.Frag) : Sp := fun vs H Q _ => ∃ c n s : Int, vs = [.int c, .int n, .int s] ∧ 0 ≤ n ∧ n ≤ 100 ∧
  ∀ p H' (xs : List V) (ps : List (Int × Int)), Same H H' → H p = none → H' p = some (.lst xs) → PrL H' xs ps → ps.length = n.toNat → (∀ x ∈ ps, PrOk x) → Q (.ref p) H'
def spInit (K : PySem.W.Frag) : Sp := fun vs H Q E => ∃ (x dx : Addr) (n d : Int) (k : Nat), vs = [.ref x, .int n, .int d] ∧ H x = some (.ins (CF K) dx []) ∧ d.natAbs < 2 ^ k ∧ k ≤ 8000 ∧
  (d = 0 → E (CD K) none H) ∧ (d ≠ 0 → ∀ a b, Fq n d a b → Q .non (upd H x (.ins (CF K) dx (fsF a b))))
theorem mkFr_conv (K : PySem.W.Frag) (dvs : List V) (vs : List V) (H1 : Hp) (Q : VK) (h : mkFr K dvs vs H1 Q) (x dx : Addr) (nx : H1 x = none) (nd : H1 dx = none) (ne : dx ≠ x) :
    spInit K (.ref x :: (vs ++ dvs)) (upd (upd H1 dx (.own x)) x (.ins (CF K) dx [])) (fun v H2 => v = .non ∧ Q (.ref x) H2) E0 := by
  obtain ⟨n, d, k, e, hb, hk, hd, q⟩ := h
  rw [e]
  exact ⟨x, dx, n, d, k, rfl, upd_same, hb, hk, fun z => absurd z hd, fun _ a b f => ⟨rfl, q x dx _ a b (same_made nx nd ne) nx upd_same f⟩⟩
theorem mkFrS_conv (K : PySem.W.Frag) (dvs : List V) (W : WX) (σ : L2.St) (vs : List V) (H1 : Hp) (Q : VK) (h : mkFrS K dvs W σ vs H1 Q) (x dx : Addr) (nx : H1 x = none) (nd : H1 dx = none) (ne : dx ≠ x) :
    spInit K (.ref x :: (vs ++ dvs)) (upd (upd H1 dx (.own x)) x (.ins (CF K) dx [])) (fun v H2 => v = .non ∧ Q (.ref x) H2) (WE W σ) := by
  obtain ⟨n, d, k, e, hb, hk, h0, q⟩ := h
  rw [e]
  exact ⟨x, dx, n, d, k, rfl, upd_same, hb, hk, fun z => h0 z _ (same_made0 nx nd), fun hd a b f => ⟨rfl, q hd x dx _ a b (same_made nx nd ne) nx upd_same f⟩⟩
/-- a new list of the fractions -/
def spLVec (K : PySem.W.Frag) : Sp := fun vs H Q _ => ∃ (a : Addr) (xs : List V) (ps : List (Int × Int)), vs = [.ref a] ∧ SqL K H a xs ∧ PrL H xs ps ∧ (∀ x ∈ ps, PrOk x) ∧ ps.length ≤ 100 ∧
  ∀ p H' (ys : List V), Same H H' → H p = none → H' p = some (.lst ys) → VF K 4 H' ys ps → Q (.ref p) H'
/-- a new list of new lists of fractions -/
def spLMat (K : PySem.W.Frag) : Sp := fun vs H Q _ => ∃ (a : Addr) (xs : List V) (ts : List (List (Int × Int))), vs = [.ref a] ∧ SqL K H a xs ∧ MatP H xs ts ∧ (∀ r ∈ ts, r.length ≤ 100 ∧ ∀ x ∈ r, PrOk x) ∧ ts.length ≤ 100 ∧
  ∀ p H' (ys : List V), Same H H' → H p = none → H' p = some (.lst ys) → MatN K 4 H p H' ys ts → Q (.ref p) H'
def spLTi (K : PySem.W.Frag) : Sp := fun vs H Q _ => ∃ (a b : Addr) (x y : Int × Int) (k : Nat), vs = [.ref a, .ref b] ∧ H a = some (prO x) ∧ H b = some (prO y) ∧ PrB k x ∧ PrB k y ∧ k ≤ 4000 ∧
  ∀ p H', Same H H' → H p = none → H' p = some (prO (x.1 * y.1, x.2 * y.2)) → Q (.ref p) H'
def spLPl (K : PySem.W.Frag) : Sp := fun vs H Q _ => ∃ (a b : Addr) (x y : Int × Int) (k : Nat), vs = [.ref a, .ref b] ∧ H a = some (prO x) ∧ H b = some (prO y) ∧ PrB k x ∧ PrB k y ∧ k ≤ 4000 ∧
  ∀ p H', Same H H' → H p = none → H' p = some (prO (x.1 * y.2 + y.1 * x.2, x.2 * y.2)) → Q (.ref p) H'
/-- the rows times the factors, as the law adds them up -/
def combL (xs : List (Int × Int)) (ts : List (List (Int × Int))) (w : Nat) : Nat → List (Int × Int)
  | 0 => (List.range w).map fun _ => (0, 1)
  | i + 1 => (List.range w).map fun k => addP ((combL xs ts w i).getD k (0, 1)) (mulP (xs.getD i (0, 1)) ((ts.getD i []).getD k (0, 1)))
theorem combL_len (xs : List (Int × Int)) (ts : List (List (Int × Int))) (w i : Nat) : (combL xs ts w i).length = w := by
  cases i <;> simp [combL]
theorem getDx {A : Type} {xs : List A} {i : Nat} {x d : A} (h : xs[i]? = some x) : xs.getD i d = x := by rw [List.getD_eq_getElem?_getD, h]; rfl
theorem combL_bits {xs : List (Int × Int)} {ts : List (List (Int × Int))} {w : Nat} (oa : ∀ x ∈ xs, PrOk x) (ob : ∀ r ∈ ts, r.length = w ∧ ∀ x ∈ r, PrOk x) (hl : xs.length = ts.length) : ∀ i, i ≤ ts.length → ∀ k, k < w → PrB (9 * i + 1) ((combL xs ts w i).getD k (0, 1)) ∧ 0 < ((combL xs ts w i).getD k (0, 1)).2
  | 0, _, k, hk => by
    have e : (combL xs ts w 0)[k]? = some (0, 1) := by rw [combL, List.getElem?_map, List.getElem?_range hk]; rfl
    rw [getDx e]
    exact ⟨⟨by decide, by decide⟩, by decide⟩
  | i + 1, hi, k, hk => by
    have e : (combL xs ts w (i + 1))[k]? = some (addP ((combL xs ts w i).getD k (0, 1)) (mulP (xs.getD i (0, 1)) ((ts.getD i []).getD k (0, 1)))) := by rw [combL, List.getElem?_map, List.getElem?_range hk]; rfl
    rw [getDx e]
    have hx := List.getElem?_eq_getElem (show i < xs.length by omega)
    have ht := List.getElem?_eq_getElem (show i < ts.length by omega)
    rw [getDx hx, getDx ht]
    obtain ⟨rl, ro⟩ := ob _ (List.mem_of_getElem? ht)
    have hr := List.getElem?_eq_getElem (show k < ts[i].length by omega)
    rw [getDx hr]
    have ox := oa _ (List.mem_of_getElem? hx)
    have oy := ro _ (List.mem_of_getElem? hr)
    obtain ⟨b1, b2⟩ := combL_bits oa ob hl i (by omega) k hk
    exact ⟨(b1.add (ox.bits.mul oy.bits)).mono (by omega), Int.mul_pos b2 (Int.mul_pos (by have := ox.d; omega) (by have := oy.d; omega))⟩
/-- a new list of pairs -/
def spLComb (K : PySem.W.Frag) : Sp := fun vs H Q _ => ∃ (a b : Addr) (us ws : List V) (xs : List (Int × Int)) (ts : List (List (Int × Int))) (w : Nat), vs = [.ref a, .ref b, .int (w : Int)] ∧ SqL K H a us ∧ SqL K H b ws ∧ PrL H us xs ∧ MatP H ws ts ∧ (∀ x ∈ xs, PrOk x) ∧ (∀ r ∈ ts, r.length = w ∧ ∀ x ∈ r, PrOk x) ∧ xs.length = ts.length ∧ ts.length ≤ 50 ∧ w ≤ 50 ∧
  ∀ p H' (zs : List V), Same H H' → H p = none → H' p = some (.lst zs) → PrL H' zs (combL xs ts w ts.length) → Q (.ref p) H'
def spLow (K : PySem.W.Frag) : Sp := fun vs H Q _ => ∃ n d : Int, vs = [.int n, .int d] ∧ RF K H Q (fun a b => a = n ∧ b = d)
def spMul (K : PySem.W.Frag) : Sp := fun vs H Q _ => ∃ (a b da db : Addr) (n1 d1 n2 d2 : Int) (k : Nat), vs = [.ref a, .ref b] ∧ H a = some (.ins (CF K) da (fsF n1 d1)) ∧ H b = some (.ins (CF K) db (fsF n2 d2)) ∧ Lw k n1 d1 ∧ Lw k n2 d2 ∧ k ≤ 8000 ∧
  RF K H Q (Fq (n1 * n2) (d1 * d2))
def spAdd (K : PySem.W.Frag) : Sp := fun vs H Q _ => ∃ (a b da db : Addr) (n1 d1 n2 d2 : Int) (k : Nat), vs = [.ref a, .ref b] ∧ H a = some (.ins (CF K) da (fsF n1 d1)) ∧ H b = some (.ins (CF K) db (fsF n2 d2)) ∧ Lw k n1 d1 ∧ Lw k n2 d2 ∧ k ≤ 8000 ∧
  RF K H Q (Fq (n1 * d2 + n2 * d1) (d1 * d2))
def spTot (K : PySem.W.Frag) (j : Nat) : Sp := fun vs H Q _ => ∃ (a z dz : Addr) (xs : List V) (qs : List (Int × Int)) (k : Nat), vs = [.ref a, .ref z] ∧ SqL K H a xs ∧ FrL K H xs qs ∧ H z = some (.ins (CF K) dz (fsF 0 1)) ∧ AllLw k qs ∧ qs.length ≤ 2 ^ j ∧ j ≤ 9 ∧ (k + 1) * qs.length + 1 ≤ 8000 ∧
  RS K H Q (Fq (sumQ qs).1 (sumQ qs).2)
abbrev spTot0 (K : PySem.W.Frag) : Sp := spTot K 7
def spSum (K : PySem.W.Frag) : Sp := fun vs H Q _ => ∃ (a : Addr) (xs : List V) (qs : List (Int × Int)) (k : Nat), vs = [.ref a] ∧ SqL K H a xs ∧ FrL K H xs qs ∧ AllLw k qs ∧ qs.length ≤ 128 ∧ (k + 1) * qs.length + 1 ≤ 8000 ∧
  RS K H Q (Fq (sumQ qs).1 (sumQ qs).2)
/-- a fraction, the number that the two lists tell -/
def spDot (K : PySem.W.Frag) : Sp := fun vs H Q _ => ∃ (a b : Addr) (us ws : List V) (xs ys : List (Int × Int)), vs = [.ref a, .ref b] ∧ SqL K H a us ∧ SqL K H b ws ∧ VF K 4 H us xs ∧ VF K 4 H ws ys ∧ xs.length = ys.length ∧ xs.length ≤ 100 ∧
  RS K H Q (fun n d => Fq (dotP xs ys).1 (dotP xs ys).2 n d ∧ Lw 1000 n d)
/-- a new pair, the number that the two lists tell -/
def spLDot (K : PySem.W.Frag) : Sp := fun vs H Q _ => ∃ (a b : Addr) (us ws : List V) (xs ys : List (Int × Int)), vs = [.ref a, .ref b] ∧ SqL K H a us ∧ SqL K H b ws ∧ PrL H us xs ∧ PrL H ws ys ∧ (∀ x ∈ xs, PrOk x) ∧ (∀ x ∈ ys, PrOk x) ∧ xs.length = ys.length ∧ xs.length ≤ 100 ∧
  ∀ p H' (z : Int × Int), Same H H' → H' p = some (prO z) → 0 < z.2 → PrB (9 * xs.length + 1) z → REq z (dotP xs ys) → Q (.ref p) H'
def spIsWh (K : PySem.W.Frag) : Sp := fun vs H Q _ => ∃ n : Int, vs = [.int n] ∧ Q (.bl true) H
def spIsNu (K : PySem.W.Frag) : Sp := fun vs H Q _ => ∃ (a da : Addr) (n d : Int), vs = [.ref a] ∧ H a = some (.ins (CF K) da (fsF n d)) ∧ 0 < d ∧ Q (.bl true) H
def spIsPr (K : PySem.W.Frag) : Sp := fun vs H Q _ => ∃ (a da b : Addr) (n d : Int) (x : Int × Int) (k j : Nat), vs = [.ref a, .ref b] ∧ H a = some (.ins (CF K) da (fsF n d)) ∧ 0 < d ∧ H b = some (prO x) ∧ n.natAbs < 2 ^ k ∧ d.natAbs < 2 ^ k ∧ PrB j x ∧ k ≤ 2000 ∧ j ≤ 2000 ∧ n * x.2 = x.1 * d ∧ Q (.bl true) H
/-- a new list of fractions: the rows times the list -/
def spApply (K : PySem.W.Frag) : Sp := fun vs H Q _ => ∃ (a b : Addr) (us ws : List V) (ts : List (List (Int × Int))) (ys : List (Int × Int)), vs = [.ref a, .ref b] ∧ SqL K H a us ∧ SqL K H b ws ∧ MatF K 4 H us ts ∧ VF K 4 H ws ys ∧ (∀ r ∈ ts, r.length = ys.length) ∧ ys.length ≤ 100 ∧ ts.length ≤ 100 ∧
  ∀ p H' (zs : List V), Same H H' → H p = none → H' p = some (.lst zs) → VF K 1000 H' zs (ts.map fun r => dotP r ys) → Q (.ref p) H'
def spIsVec (K : PySem.W.Frag) : Sp := fun vs H Q _ => ∃ (a b : Addr) (us ws : List V) (xs ys : List (Int × Int)), vs = [.ref a, .ref b] ∧ H a = some (.lst us) ∧ SqL K H b ws ∧ VF K 1000 H us xs ∧ PrL H ws ys ∧ xs.length = ys.length ∧ ys.length ≤ 100 ∧
  (∀ (i : Nat) (x y : Int × Int), xs[i]? = some x → ys[i]? = some y → REq x y ∧ PrB 1000 y ∧ x.2 ≠ 0) ∧ Q (.bl true) H
/-- a new list of fractions: the list times the rows -/
def spComb (K : PySem.W.Frag) : Sp := fun vs H Q _ => ∃ (a b : Addr) (us ws : List V) (xs : List (Int × Int)) (ts : List (List (Int × Int))) (w : Nat), vs = [.ref a, .ref b, .int (w : Int)] ∧ SqL K H a us ∧ SqL K H b ws ∧ VF K 4 H us xs ∧ MatF K 4 H ws ts ∧ (∀ r ∈ ts, r.length = w) ∧ xs.length = ts.length ∧ ts.length ≤ 100 ∧ w ≤ 100 ∧
  ∀ p H' (zs : List V), Same H H' → H p = none → H' p = some (.lst zs) → VF K 1000 H' zs (combP xs ts w) → Q (.ref p) H'
/-- a new list of new lists of fractions -/
def spMulM (K : PySem.W.Frag) : Sp := fun vs H Q _ => ∃ (a b : Addr) (us ws : List V) (ls ts : List (List (Int × Int))) (w : Nat), vs = [.ref a, .ref b, .int (w : Int)] ∧ SqL K H a us ∧ SqL K H b ws ∧ MatF K 4 H us ls ∧ MatF K 4 H ws ts ∧ (∀ r ∈ ts, r.length = w) ∧ (∀ r ∈ ls, r.length = ts.length) ∧ ts.length ≤ 100 ∧ ls.length ≤ 100 ∧ w ≤ 100 ∧
  ∀ p H' (zs : List V), Same H H' → H p = none → H' p = some (.lst zs) → MatN K 1000 H p H' zs (ls.map fun r => combP r ts w) → Q (.ref p) H'
def spIsMat (K : PySem.W.Frag) : Sp := fun vs H Q _ => ∃ (a b : Addr) (us ws : List V) (ls ts : List (List (Int × Int))), vs = [.ref a, .ref b] ∧ H a = some (.lst us) ∧ SqL K H b ws ∧ MatF K 1000 H us ls ∧ MatP H ws ts ∧ ls.length = ts.length ∧ ts.length ≤ 100 ∧
  (∀ (j : Nat) (xs ys : List (Int × Int)), ls[j]? = some xs → ts[j]? = some ys → xs.length = ys.length ∧ ys.length ≤ 100 ∧ ∀ (i : Nat) (x y : Int × Int), xs[i]? = some x → ys[i]? = some y → REq x y ∧ PrB 1000 y ∧ x.2 ≠ 0) ∧ Q (.bl true) H
/-- a new list of new lists of fractions -/
def spIdM (K : PySem.W.Frag) : Sp := fun vs H Q _ => ∃ n : Nat, vs = [.int (n : Int)] ∧ n ≤ 100 ∧
  ∀ p H' (zs : List V), Same H H' → H p = none → H' p = some (.lst zs) → MatN K 4 H p H' zs (unitP n) → Q (.ref p) H'
/-- a new list of new lists of pairs -/
def spLUn (K : PySem.W.Frag) : Sp := fun vs H Q _ => ∃ n : Nat, vs = [.int (n : Int)] ∧ n ≤ 100 ∧
  ∀ p H' (zs : List V), Same H H' → H' p = some (.lst zs) → MatP H' zs (unitP n) → Q (.ref p) H'
structure Rows (H0 : Hp) (a : Addr) (us : List V) (m : Nat) (H : Hp) : Prop where
  sm : Same H0 H
  hA : H a = some (.lst us)
  at_ : ∀ (i : Nat) (u : V), us[i]? = some u → ∃ b zs, u = .ref b ∧ b ≠ a ∧ H0 b = none ∧ H b = some (.lst zs) ∧ zs.length ≤ m
theorem Rows.mono {H0 H H' : Hp} {a : Addr} {us : List V} {m : Nat} (f : Rows H0 a us m H) (sm : Same H H') : Rows H0 a us m H' :=
  ⟨f.sm.trans sm, sm _ _ f.hA, fun i u h => by obtain ⟨b, zs, e, n, n0, hb, l⟩ := f.at_ i u h; exact ⟨b, zs, e, n, n0, sm _ _ hb, l⟩⟩
theorem Rows.put {H0 H : Hp} {a b : Addr} {us ys : List V} {m j : Nat} (f : Rows H0 a us m H) (n : b ≠ a) (n0 : H0 b = none) (hl : ys.length ≤ j) (hm : m ≤ j) : Rows H0 a us j (upd H b (.lst ys)) :=
  ⟨same_mut f.sm n0, by rw [upd_ne n.symm]; exact f.hA, fun i u h => by
    obtain ⟨c, zs, e, n1, n2, hc, l⟩ := f.at_ i u h
    by_cases z : c = b
    · exact ⟨c, ys, e, n1, n2, by rw [z]; exact upd_same, hl⟩
    · exact ⟨c, zs, e, n1, n2, by rw [upd_ne z]; exact hc, by omega⟩⟩
/-- the lists that the outer list holds are changed, and itself: all else stays -/
def spSpoil (K : PySem.W.Frag) : Sp := fun vs H Q _ => ∃ (a : Addr) (us : List V) (H0 : Hp), vs = [.ref a] ∧ H0 a = none ∧ us.length ≤ 100 ∧ Rows H0 a us 100 H ∧ ∀ H', Same H0 H' → Q .non H'

theorem sumQ_den : ∀ {zs : List (Int × Int)}, (∀ q ∈ zs, 0 < q.2) → 0 < (sumQ zs).2
  | [], _ => by decide
  | q :: r, h => Int.mul_pos (h q (by simp)) (sumQ_den fun x hx => h x (by simp [hx]))
theorem zip_pos : ∀ {xs ys : List (Int × Int)}, (∀ x ∈ xs, PrOk x) → (∀ x ∈ ys, PrOk x) → ∀ q ∈ List.zipWith mulP xs ys, 0 < q.2
  | [], _, _, _, q, h => by simp at h
  | _ :: _, [], _, _, q, h => by simp at h
  | x :: r, y :: s, hx, hy, q, h => by
    rw [List.zipWith_cons_cons] at h
    rcases List.mem_cons.mp h with rfl | h
    · exact Int.mul_pos (by have := (hx x (by simp)).d; omega) (by have := (hy y (by simp)).d; omega)
    · exact zip_pos (fun z hz => hx z (by simp [hz])) (fun z hz => hy z (by simp [hz])) q h
theorem dotP_den {xs ys : List (Int × Int)} (hx : ∀ x ∈ xs, PrOk x) (hy : ∀ x ∈ ys, PrOk x) : 0 < (dotP xs ys).2 := sumQ_den (zip_pos hx hy)
theorem lawEq {z D : Int × Int} {n d : Int} (f : Fq D.1 D.2 n d) (r : REq z D) (h : 0 < D.2) : n * z.2 = z.1 * d := by
  have e1 := f.eq
  have e2 : z.1 * D.2 = D.1 * z.2 := r
  have e3 : (n * z.2) * D.2 = (z.1 * d) * D.2 := by grind
  exact Int.eq_of_mul_eq_mul_right (by omega) e3
theorem combL_at {xs : List (Int × Int)} {ts : List (List (Int × Int))} {w : Nat} (hl : xs.length = ts.length) : ∀ i, i ≤ ts.length → ∀ k, k < w → (combL xs ts w i).getD k (0, 1) = dotP (xs.take i) ((colP ts k).take i)
  | 0, _, k, hk => by
    have e : (combL xs ts w 0)[k]? = some (0, 1) := by rw [combL, List.getElem?_map, List.getElem?_range hk]; rfl
    rw [getDx e]
    simp [dotP, sumQ]
  | i + 1, hi, k, hk => by
    have e : (combL xs ts w (i + 1))[k]? = some (addP ((combL xs ts w i).getD k (0, 1)) (mulP (xs.getD i (0, 1)) ((ts.getD i []).getD k (0, 1)))) := by rw [combL, List.getElem?_map, List.getElem?_range hk]; rfl
    have hx := List.getElem?_eq_getElem (show i < xs.length by omega)
    have ht := List.getElem?_eq_getElem (show i < ts.length by omega)
    have hc : (colP ts k)[i]? = some ((ts[i]).getD k (0, 1)) := by rw [colP, List.getElem?_map, ht]; rfl
    rw [getDx e, combL_at hl i (by omega) k hk, getDx hx, getDx ht]
    exact (dotP_more hx hc).symm
theorem combL_all {xs : List (Int × Int)} {ts : List (List (Int × Int))} {w : Nat} (hl : xs.length = ts.length) : combL xs ts w ts.length = combP xs ts w := by
  refine List.ext_getElem? fun k => ?_
  by_cases hk : k < w
  · have h1 : k < (combL xs ts w ts.length).length := by rw [combL_len]; exact hk
    have z := combL_at (w := w) hl ts.length (Nat.le_refl _) k hk
    rw [List.getD_eq_getElem?_getD, List.getElem?_eq_getElem h1, Option.getD_some, List.take_of_length_le (by omega), List.take_of_length_le (by rw [colP, List.length_map]; exact Nat.le_refl _)] at z
    rw [List.getElem?_eq_getElem h1, z, combP, List.getElem?_map, List.getElem?_range hk]
    rfl
  · rw [List.getElem?_eq_none (by rw [combL_len]; omega), List.getElem?_eq_none (by rw [combP, List.length_map, List.length_range]; omega)]
theorem VF.up {K : PySem.W.Frag} {k j : Nat} {H : Hp} {xs : List V} {ps : List (Int × Int)} (f : VF K k H xs ps) (h : k ≤ j) : VF K j H xs ps := by
  obtain ⟨qs, h1, h2, h3⟩ := f
  exact ⟨qs, h1, fun q hq => (h2 q hq).mono h, h3⟩
theorem MatF.up {K : PySem.W.Frag} {k j : Nat} {H : Hp} {xs : List V} {ts : List (List (Int × Int))} (f : MatF K k H xs ts) (h : k ≤ j) : MatF K j H xs ts :=
  ⟨f.len, fun i r e => by obtain ⟨a, ys, e1, h1, h2⟩ := f.at_ i r e; exact ⟨a, ys, e1, h1, h2.up h⟩⟩
theorem prod_ok {tsR tsS : List (List (Int × Int))} {aN wN : Nat} (okR : ∀ r ∈ tsR, r.length = wN ∧ ∀ x ∈ r, PrOk x) (okS : ∀ r ∈ tsS, r.length = aN ∧ ∀ x ∈ r, PrOk x) (tS : tsS.length = wN) (h1 : wN ≤ 50) (h2 : aN ≤ 50) : ∀ (j : Nat) (xs ys : List (Int × Int)), (tsR.map fun r => combP r tsS aN)[j]? = some xs → (tsR.map fun r => combL r tsS aN tsS.length)[j]? = some ys → xs.length = ys.length ∧ ys.length ≤ 100 ∧ ∀ (i : Nat) (x y : Int × Int), xs[i]? = some x → ys[i]? = some y → REq x y ∧ PrB 1000 y ∧ x.2 ≠ 0 := by
  intro j xs ys h1 h2
  rw [List.getElem?_map] at h1 h2
  cases e : tsR[j]? with
  | none => rw [e] at h1; cases h1
  | some r =>
    rw [e] at h1 h2
    have e1 : combP r tsS aN = xs := Option.some.inj h1
    have e2 : combL r tsS aN tsS.length = ys := Option.some.inj h2
    subst e1 e2
    have okr := okR r (List.mem_of_getElem? e)
    have hl : r.length = tsS.length := by rw [okr.1, tS]
    have al := combL_all (w := aN) hl
    refine ⟨by rw [al], by rw [combL_len]; omega, fun i x y hx hy => ?_⟩
    rw [← al, hy] at hx
    cases hx
    have hk : i < aN := by
      have := (List.getElem?_eq_some_iff.mp hy).1
      rwa [combL_len] at this
    obtain ⟨b1, b2⟩ := combL_bits okr.2 okS hl tsS.length (Nat.le_refl _) i hk
    rw [getDx hy] at b1 b2
    exact ⟨rfl, b1.mono (by omega), Int.ne_of_gt b2⟩
theorem unit_ok {n : Nat} (h : n ≤ 100) : ∀ (j : Nat) (xs ys : List (Int × Int)), (unitP n)[j]? = some xs → (unitP n)[j]? = some ys → xs.length = ys.length ∧ ys.length ≤ 100 ∧ ∀ (i : Nat) (x y : Int × Int), xs[i]? = some x → ys[i]? = some y → REq x y ∧ PrB 1000 y ∧ x.2 ≠ 0 := by
  intro j xs ys h1 h2
  rw [h1] at h2
  cases h2
  rw [unitP, List.getElem?_map] at h1
  cases e : (List.range n)[j]? with
  | none => rw [e] at h1; cases h1
  | some r =>
    rw [e] at h1
    cases h1
    refine ⟨rfl, by rw [List.length_map, List.length_range]; exact h, fun i x y hx hy => ?_⟩
    rw [hx] at hy
    cases hy
    rw [List.getElem?_map] at hx
    cases e2 : (List.range n)[i]? with
    | none => rw [e2] at hx; cases hx
    | some c =>
      rw [e2] at hx
      have ex : (if r = c then ((1, 1) : Int × Int) else (0, 1)) = x := Option.some.inj hx
      by_cases z : r = c
      · rw [if_pos z] at ex
        subst ex
        exact ⟨rfl, (⟨by decide, by decide⟩ : PrB 1 (1, 1)).mono (by decide), by decide⟩
      · rw [if_neg z] at ex
        subst ex
        exact ⟨rfl, (⟨by decide, by decide⟩ : PrB 1 (0, 1)).mono (by decide), by decide⟩
theorem self_ok {ts : List (List (Int × Int))} (h : ∀ r ∈ ts, r.length ≤ 100 ∧ ∀ x ∈ r, PrOk x) : ∀ (j : Nat) (xs ys : List (Int × Int)), ts[j]? = some xs → ts[j]? = some ys → xs.length = ys.length ∧ ys.length ≤ 100 ∧ ∀ (i : Nat) (x y : Int × Int), xs[i]? = some x → ys[i]? = some y → REq x y ∧ PrB 1000 y ∧ x.2 ≠ 0 := by
  intro j xs ys h1 h2
  rw [h1] at h2
  cases h2
  obtain ⟨l, o⟩ := h xs (List.mem_of_getElem? h1)
  refine ⟨rfl, l, fun i x y hx hy => ?_⟩
  rw [hx] at hy
  cases hy
  have ox := o x (List.mem_of_getElem? hx)
  exact ⟨rfl, ox.bits.mono (by decide), by have := ox.d; omega⟩
/-- the heap without the list a and what it holds -/
def hide (a : Addr) (us : List V) (H : Hp) : Hp := fun b => if b = a ∨ V.ref b ∈ us then none else H b
theorem hide_same {H1 H : Hp} {a : Addr} {us : List V} (sm : Same H1 H) (h1 : H1 a = none) (h2 : ∀ b, V.ref b ∈ us → H1 b = none) : Same H1 (hide a us H) := fun b x e => by
  have n1 : ¬ (b = a ∨ V.ref b ∈ us) := by
    rintro (rfl | h)
    · rw [h1] at e; cases e
    · rw [h2 b h] at e; cases e
  show (if b = a ∨ V.ref b ∈ us then none else H b) = some x
  rw [if_neg n1]
  exact sm b x e
theorem hide_keep {H : Hp} {a b : Addr} {us : List V} {x : HO} (e : H b = some x) (n : b ≠ a) (n2 : V.ref b ∉ us) : hide a us H b = some x := by
  show (if b = a ∨ V.ref b ∈ us then none else H b) = some x
  rw [if_neg (by rintro (h | h); exact n h; exact n2 h)]
  exact e
theorem hide_sub {H : Hp} {a : Addr} {us : List V} : Same (hide a us H) H := fun b x e => by
  have e1 : (if b = a ∨ V.ref b ∈ us then none else H b) = some x := e
  split at e1
  · cases e1
  · exact e1
/-- a list of lists, all new since H0 -/
structure NewM (H0 : Hp) (a : Addr) (us : List V) (H : Hp) : Prop where
  hA : H a = some (.lst us)
  n : H0 a = none
  at_ : ∀ (i : Nat) (u : V), us[i]? = some u → ∃ b zs, u = V.ref b ∧ b ≠ a ∧ H0 b = none ∧ H b = some (.lst zs) ∧ zs.length ≤ 100
theorem NewM.mono {H0 H H' : Hp} {a : Addr} {us : List V} (f : NewM H0 a us H) (sm : Same H H') : NewM H0 a us H' :=
  ⟨sm _ _ f.hA, f.n, fun i u h => by obtain ⟨b, zs, e, n, n0, hb, l⟩ := f.at_ i u h; exact ⟨b, zs, e, n, n0, sm _ _ hb, l⟩⟩
theorem NewM.rows {H0 H : Hp} {a : Addr} {us : List V} (f : NewM H0 a us H) : Rows (hide a us H) a us 100 H :=
  ⟨hide_sub, f.hA, fun i u h => by obtain ⟨b, zs, e, n, n0, hb, l⟩ := f.at_ i u h; exact ⟨b, zs, e, n, if_pos (.inr (by rw [← e]; exact List.mem_of_getElem? h)), hb, l⟩⟩
theorem NewM.mem {H0 H : Hp} {a b : Addr} {us : List V} (f : NewM H0 a us H) (h : V.ref b ∈ us) : H0 b = none := by
  obtain ⟨i, hi⟩ := List.mem_iff_getElem?.mp h
  obtain ⟨c, zs, e, n, n0, hb, l⟩ := f.at_ i _ hi
  cases e
  exact n0
theorem NewM.memS {H0 H : Hp} {a b : Addr} {us : List V} (f : NewM H0 a us H) (h : V.ref b ∈ us) : H b ≠ none := by
  obtain ⟨i, hi⟩ := List.mem_iff_getElem?.mp h
  obtain ⟨c, zs, e, n, n0, hb, l⟩ := f.at_ i _ hi
  cases e
  rw [hb]
  exact fun z => nomatch z
/-- it stays when another one is spoilt -/
theorem NewM.pass {H0 J H H' : Hp} {a a' : Addr} {us us' : List V} (f : NewM H0 a us J) (s0 : Same J H) (d : ∀ b zs, H0 b = none → J b = some (.lst zs) → b ≠ a' ∧ V.ref b ∉ us') (sm : Same (hide a' us' H) H') : NewM H0 a us H' :=
  ⟨sm _ _ (hide_keep (s0 _ _ f.hA) (d _ _ f.n f.hA).1 (d _ _ f.n f.hA).2), f.n, fun i u h => by
    obtain ⟨b, zs, e, n, n0, hb, l⟩ := f.at_ i u h
    exact ⟨b, zs, e, n, n0, sm _ _ (hide_keep (s0 _ _ hb) (d _ _ n0 hb).1 (d _ _ n0 hb).2), l⟩⟩
theorem MatN.newM {K : PySem.W.Frag} {k : Nat} {H0 H : Hp} {a : Addr} {us : List V} {ts : List (List (Int × Int))} (f : MatN K k H0 a H us ts) (hA : H a = some (.lst us)) (n : H0 a = none) (hl : ∀ r ∈ ts, r.length ≤ 100) : NewM H0 a us H :=
  ⟨hA, n, fun i u h => by
    have hi : i < ts.length := by
      rw [← f.len]
      exact (List.getElem?_eq_some_iff.mp h).1
    have ht := List.getElem?_eq_getElem hi
    obtain ⟨b, ys, e, h0, nb, hb, hv⟩ := f.at_ i _ ht
    rw [h] at e
    cases e
    exact ⟨b, ys, rfl, nb, h0, hb, by rw [hv.len]; exact hl _ (List.mem_of_getElem? ht)⟩⟩
theorem mat3 {H : Hp} {a b c : Addr} {us vs ws : List V} {x y z : List (Int × Int)} (h1 : H a = some (.lst us)) (h2 : H b = some (.lst vs)) (h3 : H c = some (.lst ws)) (f1 : PrL H us x) (f2 : PrL H vs y) (f3 : PrL H ws z) : MatP H [.ref a, .ref b, .ref c] [x, y, z] :=
  ⟨rfl, fun i r h => match i, h with
    | 0, h => by cases h; exact ⟨a, us, rfl, h1, f1⟩
    | 1, h => by cases h; exact ⟨b, vs, rfl, h2, f2⟩
    | 2, h => by cases h; exact ⟨c, ws, rfl, h3, f3⟩
    | n + 3, h => by simp at h⟩
theorem MatF.three {K : PySem.W.Frag} {k : Nat} {H : Hp} {xs : List V} {x y z : List (Int × Int)} (f : MatF K k H xs [x, y, z]) : ∃ a b c us vs ws, xs = [.ref a, .ref b, .ref c] ∧ H a = some (.lst us) ∧ H b = some (.lst vs) ∧ H c = some (.lst ws) ∧ VF K k H us x ∧ VF K k H vs y ∧ VF K k H ws z := by
  obtain ⟨a, us, e1, h1, f1⟩ := f.at_ 0 x rfl
  obtain ⟨b, vs, e2, h2, f2⟩ := f.at_ 1 y rfl
  obtain ⟨c, ws, e3, h3, f3⟩ := f.at_ 2 z rfl
  refine ⟨a, b, c, us, vs, ws, ?_, h1, h2, h3, f1, f2, f3⟩
  have l := f.len
  match xs, l, e1, e2, e3 with
  | [p, q, r], _, e1, e2, e3 =>
    cases e1
    cases e2
    cases e3
    rfl
theorem three {ms : List Int} (h : ms.length = 3) : ∃ a b c : Int, ms = [a, b, c] :=
  match ms, h with
  | [a, b, c], _ => ⟨a, b, c, rfl⟩
theorem one1 {ms : List Int} (h : ms.length = (1 : Int).toNat) : ∃ a : Int, ms = [a] :=
  match ms, h with
  | [a], _ => ⟨a, rfl⟩
structure PMat (H : Hp) (xs : List V) (ts : List (List (Int × Int))) (w : Nat) : Prop where
  m : MatP H xs ts
  ok : ∀ r ∈ ts, r.length = w ∧ ∀ x ∈ r, PrOk x
/-- one more row, the list D being changed -/
structure PM (H0 : Hp) (D : Addr) (H : Hp) (xs : List V) (ts : List (List (Int × Int))) (w : Nat) : Prop where
  m : MatP H xs ts
  ok : ∀ r ∈ ts, r.length = w ∧ ∀ x ∈ r, PrOk x
  ne : ∀ (j : Nat) (b : Addr), xs[j]? = some (V.ref b) → b ≠ D
theorem PM.nil {H0 H : Hp} {D : Addr} {w : Nat} : PM H0 D H [] [] w := ⟨.nil, fun r h => absurd h (by simp), fun j b h => by simp at h⟩
theorem PM.mono {H0 H H' : Hp} {D : Addr} {w : Nat} {xs : List V} {ts : List (List (Int × Int))} (f : PM H0 D H xs ts w) (sm : Same H H') : PM H0 D H' xs ts w := ⟨f.m.mono sm, f.ok, f.ne⟩
theorem PM.snoc {H0 H : Hp} {D a : Addr} {w : Nat} {xs zs ys : List V} {ts : List (List (Int × Int))} {r : List (Int × Int)} {o : HO} (f : PM H0 D H xs ts w) (hD : H D = some (.lst zs)) (n : a ≠ D) (h1 : H a = some (.lst ys)) (h2 : PrL H ys r) (h3 : r.length = w) (h4 : ∀ x ∈ r, PrOk x) : PM H0 D (upd H D o) (xs ++ [.ref a]) (ts ++ [r]) w := by
  refine ⟨f.m.snoc f.ne hD n h1 h2, fun r' hr => ?_, fun j b hj => ?_⟩
  · rcases List.mem_append.mp hr with hr | hr
    · exact f.ok r' hr
    · rw [List.mem_singleton.mp hr]; exact ⟨h3, h4⟩
  · by_cases c : j < xs.length
    · rw [List.getElem?_append_left c] at hj
      exact f.ne j b hj
    · rw [List.getElem?_append_right (by omega)] at hj
      have c0 : j - xs.length = 0 := by
        refine Decidable.byContradiction fun z => ?_
        rw [List.getElem?_eq_none (by simp; omega)] at hj
        cases hj
      rw [c0] at hj
      cases hj
      exact n

section
variable {P : Program} {w : World} {K : PySem.W.Frag} {mg : Str → Option Value} {base : Heap}
theorem ok__law_cell (T : Tx K mg) : OkF P w K mg base 1 (He.fAd K ("_law_cell", none)) ["script", "k"] (spCell K) := by
  refine okF_of (d := d__law_cell) T.d__law_cell rfl sc__law_cell (fun _ _ _ _ _ _ us hl => match us, hl with | [_, _], _ => rfl) (fun vs H Q E h => ?_) (fun cdv A outer s H vs Q E hr h => ?_)
  · first | (obtain ⟨_, rfl, _⟩ := h; rfl) | (obtain ⟨_, _, rfl, _⟩ := h; rfl) | (obtain ⟨_, _, _, rfl, _⟩ := h; rfl) | (obtain ⟨_, _, _, _, rfl, _⟩ := h; rfl) | (obtain ⟨_, _, _, _, _, rfl, _⟩ := h; rfl) | (obtain ⟨_, _, _, _, _, _, rfl, _⟩ := h; rfl) | (obtain ⟨_, _, _, _, _, _, _, rfl, _⟩ := h; rfl) | (obtain ⟨_, _, _, _, _, _, _, _, rfl, _⟩ := h; rfl) | (obtain ⟨_, _, _, _, _, _, _, _, _, rfl, _⟩ := h; rfl) | (obtain ⟨_, _, _, _, _, _, _, _, _, _, rfl, _⟩ := h; rfl)
  · obtain ⟨a, ns, k, rfl, hS, k0, q⟩ := h
    refine ⟨_, (pss_cons (ps_if (pt_cmpR op_lt (pv 1) (pe_callB call_len_seq (by rfl) T.z_len PySem.boot_len (pa_cons (pv 0) pa_nil)) (nomark _)) (pss_one (ps_ret (pe_ix ix_list (pv 0) (pv 1) (fun _ _ => rfl)))) pss_nil)
      (pss_cons (ps_if (pt_cmpR op_eq (pe_callB call_len_seq (by rfl) T.z_len PySem.boot_len (pa_cons (pv 0) pa_nil)) pe_int (nomark _)) (pss_one (ps_ret (pe_op op_mul pe_int (pv 1)))) pss_nil)
      (pss_one (ps_ret (pe_op op_add (pe_op op_mul (pe_callTy call_int1 (by rfl) T.z_int (by decide +kernel) (pa_cons (pe_ix ix_list (pv 0) pe_int (fun _ _ => rfl)) pa_nil)) pe_int) (pe_op op_mul pe_int (pv 1))))))), ?_⟩
    refine ⟨_, rfl, _, rfl, _, _, rfl, .inl hS, _, _, rfl, rfl, _, rfl, iteD (fun c => ?_) (fun c => ?_)⟩
    · rw [len_map] at c
      obtain ⟨x, _, hx⟩ := get_map (ns := ns) (i := k.toNat) (by omega)
      exact ⟨_, rfl, _, rfl, _, _, _, _, rfl, rfl, hS, at_of (j := k.toNat) (by omega) hx, q x⟩
    refine ⟨_, rfl, _, _, rfl, .inl hS, rfl, _, rfl, iteEq (fun c => ?_) (fun c => ?_)⟩
    · exact ⟨_, rfl, _, _, rfl, rfl, .inl ⟨by decide, by decide⟩, q _⟩
    · obtain ⟨x, _, hx⟩ := get_map (ns := ns) (i := 0) (by simp only [len_map] at c; omega)
      exact ⟨_, rfl, _, _, _, _, rfl, rfl, hS, atI_nat (j := 0) hx, .inl ⟨_, rfl, _, _, rfl, rfl, .inr ⟨by decide, by decide⟩, _, rfl, _, _, rfl, rfl, .inl ⟨by decide, by decide⟩, _, _, rfl, rfl, q _⟩⟩

theorem ok__law_digits (T : Tx K mg) : OkF P w K mg base 1 (He.fAd K ("_law_digits", none)) ["cell", "limit", "count"] (spDig K) := by
  refine okF_of (d := d__law_digits) T.d__law_digits rfl sc__law_digits (fun _ _ _ _ _ _ us hl => match us, hl with | [_, _, _], _ => rfl) (fun vs H Q E h => ?_) (fun cdv A outer s H vs Q E hr h => ?_)
  · first | (obtain ⟨_, rfl, _⟩ := h; rfl) | (obtain ⟨_, _, rfl, _⟩ := h; rfl) | (obtain ⟨_, _, _, rfl, _⟩ := h; rfl) | (obtain ⟨_, _, _, _, rfl, _⟩ := h; rfl) | (obtain ⟨_, _, _, _, _, rfl, _⟩ := h; rfl) | (obtain ⟨_, _, _, _, _, _, rfl, _⟩ := h; rfl) | (obtain ⟨_, _, _, _, _, _, _, rfl, _⟩ := h; rfl) | (obtain ⟨_, _, _, _, _, _, _, _, rfl, _⟩ := h; rfl) | (obtain ⟨_, _, _, _, _, _, _, _, _, rfl, _⟩ := h; rfl) | (obtain ⟨_, _, _, _, _, _, _, _, _, _, rfl, _⟩ := h; rfl)
  · obtain ⟨c, l, n, rfl, l0, l1, n0, n1, q⟩ := h
    refine ⟨_, (pss_cons (ps_setI (i := 3) sc__law_digits.nd rfl (Or.inl rfl) (pe_callB call_abs (by rfl) T.z_abs (by decide +kernel) (pa_cons (pv 0) pa_nil)))
      (pss_cons (ps_set (i := 4) sc__law_digits.nd rfl (Or.inl rfl) (pe_cmpR op_ge (pv 3) (pe_op op_pow pe_int pe_int) (nomark _)))
      (pss_cons (ps_set (i := 5) sc__law_digits.nd rfl (Or.inl rfl) (pe_lst pa_nil))
      (pss_cons (ps_for PassesOwn.leaving rfl (pi_range1 rfl T.z_range (pa_cons (pv 2) pa_nil)) (pg_name (i := 6) sc__law_digits.nd rfl (Or.inl rfl)) (pss_one (ps_if (PW.pt (pw_and (pt_val (pv 4)) (pw_and1 (pt_cmpR op_gt (pv 3) pe_int (nomark _))))) (pss_cons (ps_expr (pe_bm PySem.F.plainAttrs_list PySem.F.slot_list_append PySem.F.type_list_append mt_append (pv 5) (pa_cons (pe_op op_mod (pe_callTy call_int1 (by rfl) T.z_int (by decide +kernel) (pa_cons (pv 3) pa_nil)) (pv 1)) pa_nil)))
      (pss_one (ps_setI (i := 3) sc__law_digits.nd rfl (Or.inl rfl) (pe_op op_fdiv (pv 3) (pv 1))))) (pss_cons (ps_setI (i := 7) sc__law_digits.nd rfl (Or.inl rfl) (pe_op op_mod (pe_callTy call_int1 (by rfl) T.z_int (by decide +kernel) (pa_cons (pe_op op_add (pe_op op_mul (pe_op op_add (pe_callB call_abs (by rfl) T.z_abs (by decide +kernel) (pa_cons (pv 0) pa_nil)) pe_int) pe_int) (pe_op op_mul (pv 6) pe_int)) pa_nil)) pe_int))
      (pss_cons (ps_setI (i := 7) sc__law_digits.nd rfl (Or.inl rfl) (pe_op op_mod (pe_callTy call_int1 (by rfl) T.z_int (by decide +kernel) (pa_cons (pe_op op_add (pe_op op_mul (pv 7) pe_int) (pe_op op_mul pe_int (pv 6))) pa_nil)) pe_int))
      (pss_one (ps_expr (pe_bm PySem.F.plainAttrs_list PySem.F.slot_list_append PySem.F.type_list_append mt_append (pv 5) (pa_cons (pe_op op_mod (pe_callTy call_int1 (by rfl) T.z_int (by decide +kernel) (pa_cons (pe_op op_fdiv (pv 7) pe_int) pa_nil)) (pv 1)) pa_nil)))))))))
      (pss_one (ps_ret (pv 5))))))), ?_⟩
    refine ⟨_, rfl, _, rfl, _, rfl, fun r0 _ => ?_⟩
    refine ⟨_, rfl, _, _, rfl, rfl, ⟨by decide, by decide, by decide⟩, _, _, rfl, rfl, ?_⟩
    obtain ⟨bd, hbd⟩ : ∃ bd : Bool, bd = decide ((10 : Int) ^ (18 : Int).toNat ≤ r0) := ⟨_, rfl⟩
    refine ⟨Nat.zero_le _, fun p np => ?_⟩
    refine ⟨_, rfl, _, rfl, by omega, by omega, for_range (lo := 0) (n := n.toNat) (fun i σ' H' => ∃ (r : Int) (ms : List Int) (y6 y7 : Option V), σ' = [some (.int c), some (.int l), some (.int n), some (.int r), some (.bl bd), some (.ref p), y6, y7] ∧
      Same H H' ∧ H' p = some (.lst (ms.map V.int)) ∧ ms.length = i ∧ ∀ m ∈ ms, 0 ≤ m ∧ m < l) ⟨r0, [], none, none, by rw [hbd]; rfl, sm_new np, upd_same, rfl, fun m hm => absurd hm (by simp)⟩ (fun i σ' H1 hi hI => ?_) (fun σ' H1 hI => ?_)⟩
    · obtain ⟨r, ms, y6, y7, rfl, sm, hp, hm, hb⟩ := hI
      have hz : (ms.map V.int).length < sizeLine := by rw [len_map]; exact small1000 (by omega)
      have more : ∀ (x r : Int) (y6 y7 : Option V), 0 ≤ x → x < l → ∃ (r' : Int) (ms' : List Int) (y6' y7' : Option V), [some (.int c), some (.int l), some (.int n), some (.int r), some (.bl bd), some (.ref p), y6, y7] = [some (.int c), some (.int l), some (.int n), some (.int r'), some (.bl bd), some (.ref p), y6', y7'] ∧
          Same H (upd H1 p (.lst (ms.map V.int ++ [.int x]))) ∧ (upd H1 p (.lst (ms.map V.int ++ [.int x]))) p = some (.lst (ms'.map V.int)) ∧ ms'.length = i + 1 ∧ ∀ m ∈ ms', 0 ≤ m ∧ m < l := fun x r y6 y7 h0 h1 =>
        ⟨r, ms ++ [x], y6, y7, rfl, same_mut sm np, by rw [upd_same, List.map_append]; rfl, by rw [List.length_append, hm]; rfl, fun m hm => by
          rcases List.mem_append.mp hm with hm | hm
          · exact hb m hm
          · rw [List.mem_singleton.mp hm]; exact ⟨h0, h1⟩⟩
      have e0 : (0 : Int) + (i : Int) = (i : Int) := Int.zero_add _
      rw [e0]
      have l2 : ∀ x : Int, 0 ≤ x % l ∧ x % l < l := fun x => ⟨Int.emod_nonneg _ (by omega), Int.emod_lt_of_pos _ l0⟩
      refine ⟨_, rfl, _, rfl, iteShare (iteF ?_) (fun h1 els => ?_)⟩
      · refine ⟨_, rfl, _, rfl, _, _, rfl, rfl, _, _, rfl, rfl, .inr ⟨by decide, by decide⟩, _, rfl, _, _, rfl, rfl, .inr ⟨by decide, by decide⟩, _, _, rfl, rfl, .inl ⟨_, rfl, _, _, rfl, rfl, (show (0 : Int) < 2147483647 by decide), _, rfl, fun y _ => ?_⟩⟩
        refine ⟨_, rfl, _, _, rfl, rfl, .inr ⟨by decide, by decide⟩, _, rfl, _, _, rfl, rfl, .inl ⟨by decide, by decide⟩, _, _, rfl, rfl, .inl ⟨_, rfl, _, _, rfl, rfl, (show (0 : Int) < 2147483629 by decide), _, rfl, fun z _ => ?_⟩⟩
        refine ⟨_, rfl, .inl ⟨rfl, _, SqL.of hp⟩, _, rfl, _, _, rfl, rfl, ⟨by decide, by decide⟩, .inl ⟨_, rfl, _, rfl, _, _, rfl, rfl, l0, _, _, _, rfl, rfl, hp, hz, ?_⟩⟩
        exact more _ r _ _ (l2 _).1 (l2 _).2
      · refine ⟨_, rfl, _, _, rfl, rfl, _, rfl, iteD (fun h2 => ?_) (fun h2 => unF els)⟩
        refine ⟨_, rfl, .inl ⟨rfl, _, SqL.of hp⟩, _, rfl, .inl ⟨_, rfl, _, rfl, _, _, rfl, rfl, l0, _, _, _, rfl, rfl, hp, hz, ?_⟩⟩
        refine ⟨_, rfl, _, rfl, _, _, rfl, rfl, ⟨l0, by omega⟩, _, rfl, fun r2 _ => ?_⟩
        exact more _ r2 _ _ (l2 _).1 (l2 _).2
    · obtain ⟨r, ms, y6, y7, rfl, sm, hp, hm, hb⟩ := hI
      exact ⟨_, rfl, q p H1 ms sm np hp hm hb⟩

theorem ok__law_size (T : Tx K mg) : OkF P w K mg base 1 (He.fAd K ("_law_size", none)) ["d"] (spSize K) := by
  refine okF_of (d := d__law_size) T.d__law_size rfl sc__law_size (fun _ _ _ _ _ _ us hl => match us, hl with | [_], _ => rfl) (fun vs H Q E h => ?_) (fun cdv A outer s H vs Q E hr h => ?_)
  · first | (obtain ⟨_, rfl, _⟩ := h; rfl) | (obtain ⟨_, _, rfl, _⟩ := h; rfl) | (obtain ⟨_, _, _, rfl, _⟩ := h; rfl) | (obtain ⟨_, _, _, _, rfl, _⟩ := h; rfl) | (obtain ⟨_, _, _, _, _, rfl, _⟩ := h; rfl) | (obtain ⟨_, _, _, _, _, _, rfl, _⟩ := h; rfl) | (obtain ⟨_, _, _, _, _, _, _, rfl, _⟩ := h; rfl) | (obtain ⟨_, _, _, _, _, _, _, _, rfl, _⟩ := h; rfl) | (obtain ⟨_, _, _, _, _, _, _, _, _, rfl, _⟩ := h; rfl) | (obtain ⟨_, _, _, _, _, _, _, _, _, _, rfl, _⟩ := h; rfl)
  · obtain ⟨d, rfl, q⟩ := h
    refine ⟨_, (pss_cons (ps_if (pt_cmpR op_ge (pv 0) pe_int (nomark _)) (pss_one (ps_ret (pe_op op_add pe_int (pe_op op_mod (pe_callTy call_int1 (by rfl) T.z_int (by decide +kernel) (pa_cons (pv 0) pa_nil)) pe_int)))) pss_nil)
      (pss_one (ps_ret (pe_op op_mod (pe_callTy call_int1 (by rfl) T.z_int (by decide +kernel) (pa_cons (pv 0) pa_nil)) pe_int)))), ?_⟩
    refine ⟨_, rfl, _, _, rfl, rfl, _, rfl, iteD (fun c => ?_) (fun c => ?_)⟩
    · refine ⟨_, rfl, .inl ⟨_, rfl, _, _, rfl, rfl, (show (0 : Int) < 5 by decide), _, _, rfl, rfl, ?_⟩⟩
      exact q (7 + d % 5) (by omega) (by omega)
    · refine ⟨_, rfl, .inl ⟨_, rfl, _, _, rfl, rfl, (show (0 : Int) < 7 by decide), ?_⟩⟩
      exact q (d % 7) (by omega) (by omega)

theorem ok__law_pair (T : Tx K mg) : OkF P w K mg base 1 (He.fAd K ("_law_pair", none)) ["d", "style"] (spPair K) := by
  refine okF_of (d := d__law_pair) T.d__law_pair rfl sc__law_pair (fun _ _ _ _ _ _ us hl => match us, hl with | [_, _], _ => rfl) (fun vs H Q E h => ?_) (fun cdv A outer s H vs Q E hr h => ?_)
  · first | (obtain ⟨_, rfl, _⟩ := h; rfl) | (obtain ⟨_, _, rfl, _⟩ := h; rfl) | (obtain ⟨_, _, _, rfl, _⟩ := h; rfl) | (obtain ⟨_, _, _, _, rfl, _⟩ := h; rfl) | (obtain ⟨_, _, _, _, _, rfl, _⟩ := h; rfl) | (obtain ⟨_, _, _, _, _, _, rfl, _⟩ := h; rfl) | (obtain ⟨_, _, _, _, _, _, _, rfl, _⟩ := h; rfl) | (obtain ⟨_, _, _, _, _, _, _, _, rfl, _⟩ := h; rfl) | (obtain ⟨_, _, _, _, _, _, _, _, _, rfl, _⟩ := h; rfl) | (obtain ⟨_, _, _, _, _, _, _, _, _, _, rfl, _⟩ := h; rfl)
  · obtain ⟨d, s, rfl, q⟩ := h
    refine ⟨_, (pss_cons (ps_if (PW.pt (pw_and (pt_cmpR op_eq (pv 1) pe_int (nomark _)) (pw_and1 (pt_cmpR op_eq (pe_op op_mod (pe_callTy call_int1 (by rfl) T.z_int (by decide +kernel) (pa_cons (pv 0) pa_nil)) pe_int) pe_int (nomark _))))) (pss_one (ps_ret (pe_tup (pa_cons pe_int (pa_cons pe_int pa_nil))))) pss_nil)
      (pss_cons (ps_if (pt_cmpR op_eq (pv 1) pe_int (nomark _)) (pss_one (ps_ret (pe_tup (pa_cons (pe_op op_sub (pe_op op_mod (pe_callTy call_int1 (by rfl) T.z_int (by decide +kernel) (pa_cons (pv 0) pa_nil)) pe_int) pe_int) (pa_cons pe_int pa_nil))))) pss_nil)
      (pss_one (ps_ret (pe_tup (pa_cons (pe_op op_sub (pe_op op_mod (pe_callTy call_int1 (by rfl) T.z_int (by decide +kernel) (pa_cons (pv 0) pa_nil)) pe_int) pe_int) (pa_cons (pe_op op_add (pe_op op_mod (pe_callTy call_int1 (by rfl) T.z_int (by decide +kernel) (pa_cons (pe_op op_fdiv (pv 0) pe_int) pa_nil)) pe_int) pe_int) pa_nil))))))), ?_⟩
    have made : ∀ a b : Int, -9 ≤ a ∧ a ≤ 9 → 1 ≤ b ∧ b ≤ 4 → ∀ p, H p = none → Q (.ref p) (upd H p (.tup [.int a, .int b])) := fun a b h1 h2 p np => q p _ (a, b) (sm_new np) np upd_same ⟨h1, h2⟩
    refine ⟨_, rfl, rfl, _, rfl, iteShare (iteF ?_) (fun e1 els => ?_)⟩
    · refine ⟨_, rfl, rfl, _, rfl, iteEq (fun e2 => ?_) (fun e2 => ?_)⟩
      · refine ⟨_, rfl, .inl ⟨_, rfl, _, _, rfl, rfl, (show (0 : Int) < 3 by decide), _, _, rfl, rfl, by show 2 ≤ sizeLine; decide, fun p np => ?_⟩⟩
        exact made (d % 3 - 1) 1 (by omega) (by omega) p np
      · refine ⟨_, rfl, .inl ⟨_, rfl, _, _, rfl, rfl, (show (0 : Int) < 19 by decide), _, _, rfl, rfl, _, rfl, _, _, rfl, rfl, ⟨by decide, by decide⟩, .inl ⟨_, rfl, _, _, rfl, rfl, (show (0 : Int) < 4 by decide), _, _, rfl, rfl, by show 2 ≤ sizeLine; decide, fun p np => ?_⟩⟩⟩
        exact made (d % 19 - 9) (d / 19 % 4 + 1) (by omega) (by omega) p np
    · refine ⟨_, rfl, .inl ⟨_, rfl, _, _, rfl, rfl, (show (0 : Int) < 2 by decide), rfl, _, rfl, iteEq (fun e2 => ?_) (fun e2 => unF els)⟩⟩
      exact ⟨by show 2 ≤ sizeLine; decide, fun p np => made 0 1 (by omega) (by omega) p np⟩

theorem ok__law_pairs (T : Tx K mg) (O__law_digits : OkF P w K mg base 1 (He.fAd K ("_law_digits", none)) ["cell", "limit", "count"] (spDig K)) (O__law_pair : OkF P w K mg base 1 (He.fAd K ("_law_pair", none)) ["d", "style"] (spPair K)) : OkF P w K mg base 2 (He.fAd K ("_law_pairs", none)) ["cell", "count", "style"] (spPairs K) := by
  obtain ⟨_, G__law_digits, b__law_digits, k__law_digits⟩ := O__law_digits
  obtain ⟨_, G__law_pair, b__law_pair, k__law_pair⟩ := O__law_pair
  refine okF_of (d := d__law_pairs) T.d__law_pairs rfl sc__law_pairs (fun _ _ _ _ _ _ us hl => match us, hl with | [_, _, _], _ => rfl) (fun vs H Q E h => ?_) (fun cdv A outer s H vs Q E hr h => ?_)
  · first | (obtain ⟨_, rfl, _⟩ := h; rfl) | (obtain ⟨_, _, rfl, _⟩ := h; rfl) | (obtain ⟨_, _, _, rfl, _⟩ := h; rfl) | (obtain ⟨_, _, _, _, rfl, _⟩ := h; rfl) | (obtain ⟨_, _, _, _, _, rfl, _⟩ := h; rfl) | (obtain ⟨_, _, _, _, _, _, rfl, _⟩ := h; rfl) | (obtain ⟨_, _, _, _, _, _, _, rfl, _⟩ := h; rfl) | (obtain ⟨_, _, _, _, _, _, _, _, rfl, _⟩ := h; rfl) | (obtain ⟨_, _, _, _, _, _, _, _, _, rfl, _⟩ := h; rfl) | (obtain ⟨_, _, _, _, _, _, _, _, _, _, rfl, _⟩ := h; rfl)
  · obtain ⟨c, n, s, rfl, n0, n1, q⟩ := h
    refine ⟨_, (pss_one (ps_ret (pe_lc (own := [("d", 3)]) (g := gName 3) rfl sc__law_pairs.nd (pi_list (pe_call G__law_digits (hr.mono (by decide)) (by rfl) T.g__law_digits k__law_digits b__law_digits .nil passL (pa_cons (pv 0) (pa_cons pe_int (pa_cons (pv 1) pa_nil))))) (blkOk_by (own := [("d", 3)]) (N := N__law_pairs) (sc := defScope s__law_pairs) (by decide +kernel)) (fun _ _ _ _ _ => (pg_name (i := 3) sc__law_pairs.nd rfl (Or.inl rfl))) (fun _ _ _ _ _ => pts_nil) (fun _ _ _ _ _ => (pe_call G__law_pair (hr.mono (by decide)) (by rfl) T.g__law_pair k__law_pair b__law_pair .nil passL (pa_cons (pv 3) (pa_cons (pv 2) pa_nil))))))), ?_⟩
    refine ⟨_, rfl, _, rfl, _, _, _, rfl, by decide, by decide, n0, n1, fun p H1 ms sm np hp ml mb => ?_⟩
    refine ⟨_, rfl, ⟨_, SqL.of hp⟩, fun D nD => lc_list (K := K) (a := p) (xs := ms.map V.int) (fun i H' => ∃ (xs : List V) (ps : List (Int × Int)), H' D = some (.lst xs) ∧ Same H1 H' ∧ PrL H' xs ps ∧ ps.length = i ∧ ∀ x ∈ ps, PrOk x)
      ⟨[], [], upd_same, sm_new nD, .nil, rfl, fun x h => absurd h (by simp)⟩ (fun i H' hi hP => ?_) (fun i y H' hi hP => ?_) (fun H2 hP => ?_)⟩
    · obtain ⟨xs, ps, hD, sm2, hf, hl, ho⟩ := hP
      exact sm2.seq (SqL.of hp)
    · obtain ⟨xs, ps, hD, sm2, hf, hl, ho⟩ := hP
      obtain ⟨m, hm, rfl⟩ := get_map_int hi
      refine ⟨rfl, yes_ok (iteK rfl ?_)⟩
      refine ⟨_, rfl, _, rfl, _, _, rfl, fun t H3 x sm3 nt ht ok => ?_⟩
      have hD3 := sm3 _ _ hD
      have li : i < ms.length := (List.getElem?_eq_some_iff.mp hm).1
      refine ⟨xs, hD3, by rw [hf.len]; exact small1000 (by omega), xs ++ [.ref t], ps ++ [x], upd_same, same_mut (sm2.trans sm3) nD, ((hf.mono sm3).snoc ht).upd hD3, by rw [List.length_append, hl]; rfl, fun z hz => ?_⟩
      rcases List.mem_append.mp hz with hz | hz
      · exact ho z hz
      · rw [List.mem_singleton.mp hz]; exact ok
    · obtain ⟨xs, ps, hD, sm2, hf, hl, ho⟩ := hP
      exact q D H2 xs ps (sm.trans sm2) (sm.free nD) hD hf (by rw [hl, len_map, ml]) ho

theorem ok_Fraction___init__ (T : Tx K mg) : OkD P w K mg base 1 (He.fAd K ("Fraction", some "__init__")) ["self", "num", "den"] (He.Dv.v K (.int 1)) (spInit K) := by
  refine okD_of (d := d_Fraction___init__) (dv := .int 1) T.d_Fraction___init__ rfl sc_Fraction___init__ (fun _ _ _ _ _ _ _ us its h1 h2 => match us, its, h1, h2 with | [_, _, _], [_], _, _ => ⟨_, rfl, rfl⟩) (fun _ _ _ _ _ _ _ us its h1 h2 => match us, its, h1, h2 with | [_, _], [_], _, _ => ⟨_, rfl, rfl⟩) (by decide) (fun vs H Q E h => ?_) (fun cdv A outer s H vs Q E hr h => ?_)
  · first | (obtain ⟨_, rfl, _⟩ := h; rfl) | (obtain ⟨_, _, rfl, _⟩ := h; rfl) | (obtain ⟨_, _, _, rfl, _⟩ := h; rfl) | (obtain ⟨_, _, _, _, rfl, _⟩ := h; rfl) | (obtain ⟨_, _, _, _, _, rfl, _⟩ := h; rfl) | (obtain ⟨_, _, _, _, _, _, rfl, _⟩ := h; rfl) | (obtain ⟨_, _, _, _, _, _, _, rfl, _⟩ := h; rfl) | (obtain ⟨_, _, _, _, _, _, _, _, rfl, _⟩ := h; rfl) | (obtain ⟨_, _, _, _, _, _, _, _, _, rfl, _⟩ := h; rfl) | (obtain ⟨_, _, _, _, _, _, _, _, _, _, rfl, _⟩ := h; rfl)
  · obtain ⟨x, dx, n, d, k, rfl, hx, hb, hk, hE, q⟩ := h
    refine ⟨_, (pss_cons (ps_if (pt_cmpR op_eq (pv 2) pe_int (nomark _)) (pss_one (ps_raise rfl (takes_of rfl rfl rfl rfl) (pmk_own PySem.F.excBase_ValueError T.x_DivisionByZero T.g_DivisionByZero T.k_DivisionByZero (T.r_DivisionByZero rfl) rfl))) pss_nil)
      (pss_cons (ps_setI (i := 3) sc_Fraction___init__.nd rfl (Or.inl rfl) (pe_callBfun cr_gcd rfl T.g_gcd (pa_cons (pv 1) (pa_cons (pv 2) pa_nil))))
      (Evl.pss_cut (ps_if (pt_cmpR op_lt (pv 2) pe_int (nomark _)) (pss_one (ps_setI (i := 3) sc_Fraction___init__.nd rfl (Or.inl rfl) (pe_un un_neg (pv 3)))) pss_nil)
      (pss_cons (ps_fld (pv 0) (pe_op op_fdivZ (pv 1) (pv 3)) rfl)
      (pss_one (ps_fld (pv 0) (pe_op op_fdivZ (pv 2) (pv 3)) rfl)))))), ?_⟩
    refine ⟨_, rfl, rfl, _, rfl, iteEq (fun c => ?_) (fun c => ?_)⟩
    · exact hE c
    refine ⟨_, rfl, _, rfl, _, _, rfl, _, rfl, fun common e_common => ?_⟩
    refine ⟨fun σ' H' => H = H' ∧ ∃ c : Int, σ' = [some (.ref x), some (.int n), some (.int d), some (.int c)] ∧ c = if d < 0 then -common else common, ?_, ?_⟩
    · refine ⟨_, rfl, _, _, rfl, rfl, _, rfl, iteD (fun h1 => ?_) (fun h1 => ?_)⟩
      · exact ⟨_, rfl, _, rfl, _, rfl, fun c e => ⟨rfl, c, rfl, by rw [if_pos h1, e]⟩⟩
      · exact ⟨rfl, common, rfl, by rw [if_neg h1]⟩
    rintro _ _ ⟨rfl, cc, rfl, hc⟩
    rw [e_common] at hc
    obtain ⟨c0, cl, f⟩ := fq_init c hc
    have dz : CDivZ n cc := divZ c0 (Nat.lt_of_le_of_lt cl hb) hk
    have dz2 : CDivZ d cc := divZ c0 (Nat.lt_of_le_of_lt cl hb) hk
    refine ⟨_, rfl, _, rfl, _, _, rfl, rfl, dz, _, rfl, x, _, dx, [], rfl, hx, T.cls_Fraction, T.n_Fraction_num, by decide, ?_⟩
    refine ⟨_, rfl, _, rfl, _, _, rfl, rfl, dz2, _, rfl, x, _, dx, _, rfl, upd_same, T.cls_Fraction, T.n_Fraction_den, (show (1 : Nat) < 1000 by decide), ?_⟩
    have z := q c _ _ f
    rw [← upd_upd (H := H) (a := x) (o := .ins (CF K) dx (putF "num" (.int (n.fdiv cc)) []))] at z
    exact z

theorem ok__law_vector (T : Tx K mg) (O_Fraction___init__ : OkD P w K mg base 1 (He.fAd K ("Fraction", some "__init__")) ["self", "num", "den"] (He.Dv.v K (.int 1)) (spInit K)) : OkF P w K mg base 3 (He.fAd K ("_law_vector", none)) ["pairs"] (spLVec K) := by
  obtain ⟨_, G_Fraction___init__, b_Fraction___init__, ⟨_, v_Fraction___init__, bd_Fraction___init__⟩, k_Fraction___init__⟩ := O_Fraction___init__
  refine okF_of (d := d__law_vector) T.d__law_vector rfl sc__law_vector (fun _ _ _ _ _ _ us hl => match us, hl with | [_], _ => rfl) (fun vs H Q E h => ?_) (fun cdv A outer s H vs Q E hr h => ?_)
  · first | (obtain ⟨_, rfl, _⟩ := h; rfl) | (obtain ⟨_, _, rfl, _⟩ := h; rfl) | (obtain ⟨_, _, _, rfl, _⟩ := h; rfl) | (obtain ⟨_, _, _, _, rfl, _⟩ := h; rfl) | (obtain ⟨_, _, _, _, _, rfl, _⟩ := h; rfl) | (obtain ⟨_, _, _, _, _, _, rfl, _⟩ := h; rfl) | (obtain ⟨_, _, _, _, _, _, _, rfl, _⟩ := h; rfl) | (obtain ⟨_, _, _, _, _, _, _, _, rfl, _⟩ := h; rfl) | (obtain ⟨_, _, _, _, _, _, _, _, _, rfl, _⟩ := h; rfl) | (obtain ⟨_, _, _, _, _, _, _, _, _, _, rfl, _⟩ := h; rfl)
  · obtain ⟨a, xs, ps, rfl, hS, hf, ho, hl, q⟩ := h
    refine ⟨_, (pss_one (ps_ret (pe_lc (own := [("pair", 1)]) (g := gName 1) rfl sc__law_vector.nd (pi_list (pv 0)) (blkOk_by (own := [("pair", 1)]) (N := N__law_vector) (sc := defScope s__law_vector) (by decide +kernel)) (fun _ _ _ _ _ => (pg_name (i := 1) sc__law_vector.nd rfl (Or.inl rfl))) (fun _ _ _ _ _ => pts_nil) (fun _ _ _ _ _ => (pe_makeI T.mk_Fraction G_Fraction___init__ (hr.mono (by decide)) (by rfl) T.g_Fraction b_Fraction___init__ .nil passL (mkFr_conv K []) (pa_cons (pe_ix (show IxR _ (rIxT K) from ix_tup) (pv 1) pe_int (fun _ _ => rfl)) (pa_cons (pe_ix (show IxR _ (rIxT K) from ix_tup) (pv 1) pe_int (fun _ _ => rfl)) pa_nil))))))), ?_⟩
    refine ⟨_, rfl, _, rfl, ⟨_, hS⟩, fun D nD => lc_list (K := K) (a := a) (xs := xs) (fun i H' => ∃ (ys : List V), H' D = some (.lst ys) ∧ Same H H' ∧ VF K 4 H' ys (ps.take i))
      ⟨[], upd_same, sm_new nD, .nil⟩ (fun i H' hi hP => ?_) (fun i y H' hi hP => ?_) (fun H2 hP => ?_)⟩
    · obtain ⟨ys, hD, sm, hv⟩ := hP
      exact sm.seq hS
    · obtain ⟨ys, hD, sm, hv⟩ := hP
      obtain ⟨x, b, hx, rfl, hb⟩ := (hf.mono sm).item hi
      have sb : SqT K H' b [.int x.1, .int x.2] := SqT.of hb
      have ok := ho x (List.mem_of_getElem? hx)
      refine ⟨rfl, yes_ok (iteK rfl ?_)⟩
      refine ⟨_, rfl, _, _, _, _, rfl, rfl, sb, atI_nat (j := 0) rfl, _, rfl, _, _, _, _, rfl, rfl, sb, atI_nat (j := 1) rfl, _, _, 3, rfl, by have := ok.d; omega, by decide, by have := ok.d; omega, fun t dt H3 n d sm3 nt ht f => ?_⟩
      have hD3 := sm3 _ _ hD
      have e : ps.take (i + 1) = ps.take i ++ [x] := by rw [List.take_succ, hx]; rfl
      refine ⟨ys, hD3, by rw [hv.len, List.length_take]; exact small1000 (by omega), ys ++ [.ref t], upd_same, same_mut (sm.trans sm3) nD, ?_⟩
      rw [e]
      exact ((hv.mono sm3).snoc ht (ok.lw f) f).upd hD3
    · obtain ⟨ys, hD, sm, hv⟩ := hP
      rw [hf.len, List.take_length] at hv
      exact q D H2 ys sm nD hD hv

theorem ok__law_matrix (T : Tx K mg) (O__law_vector : OkF P w K mg base 3 (He.fAd K ("_law_vector", none)) ["pairs"] (spLVec K)) : OkF P w K mg base 4 (He.fAd K ("_law_matrix", none)) ["rows"] (spLMat K) := by
  obtain ⟨_, G__law_vector, b__law_vector, k__law_vector⟩ := O__law_vector
  refine okF_of (d := d__law_matrix) T.d__law_matrix rfl sc__law_matrix (fun _ _ _ _ _ _ us hl => match us, hl with | [_], _ => rfl) (fun vs H Q E h => ?_) (fun cdv A outer s H vs Q E hr h => ?_)
  · first | (obtain ⟨_, rfl, _⟩ := h; rfl) | (obtain ⟨_, _, rfl, _⟩ := h; rfl) | (obtain ⟨_, _, _, rfl, _⟩ := h; rfl) | (obtain ⟨_, _, _, _, rfl, _⟩ := h; rfl) | (obtain ⟨_, _, _, _, _, rfl, _⟩ := h; rfl) | (obtain ⟨_, _, _, _, _, _, rfl, _⟩ := h; rfl) | (obtain ⟨_, _, _, _, _, _, _, rfl, _⟩ := h; rfl) | (obtain ⟨_, _, _, _, _, _, _, _, rfl, _⟩ := h; rfl) | (obtain ⟨_, _, _, _, _, _, _, _, _, rfl, _⟩ := h; rfl) | (obtain ⟨_, _, _, _, _, _, _, _, _, _, rfl, _⟩ := h; rfl)
  · obtain ⟨a, xs, ts, rfl, hS, hf, ho, hl, q⟩ := h
    refine ⟨_, (pss_one (ps_ret (pe_lc (own := [("row", 1)]) (g := gName 1) rfl sc__law_matrix.nd (pi_list (pv 0)) (blkOk_by (own := [("row", 1)]) (N := N__law_matrix) (sc := defScope s__law_matrix) (by decide +kernel)) (fun _ _ _ _ _ => (pg_name (i := 1) sc__law_matrix.nd rfl (Or.inl rfl))) (fun _ _ _ _ _ => pts_nil) (fun _ _ _ _ _ => (pe_call G__law_vector (hr.mono (by decide)) (by rfl) T.g__law_vector k__law_vector b__law_vector .nil passL (pa_cons (pv 1) pa_nil)))))), ?_⟩
    refine ⟨_, rfl, _, rfl, ⟨_, hS⟩, fun D nD => lc_list (K := K) (a := a) (xs := xs) (fun i H' => ∃ (ys : List V), H' D = some (.lst ys) ∧ Same H H' ∧ MatN K 4 H D H' ys (ts.take i))
      ⟨[], upd_same, sm_new nD, .nil⟩ (fun i H' hi hP => ?_) (fun i y H' hi hP => ?_) (fun H2 hP => ?_)⟩
    · obtain ⟨ys, hD, sm, hv⟩ := hP
      exact sm.seq hS
    · obtain ⟨ys, hD, sm, hv⟩ := hP
      obtain ⟨r, b, zs, hx, rfl, hb, hz⟩ := (hf.mono sm).item hi
      have ok := ho r (List.mem_of_getElem? hx)
      refine ⟨rfl, yes_ok (iteK rfl ?_)⟩
      refine ⟨_, rfl, _, zs, r, rfl, SqL.of hb, hz, ok.2, ok.1, fun t H3 ws sm3 nt ht f => ?_⟩
      have hD3 := sm3 _ _ hD
      have e : ts.take (i + 1) = ts.take i ++ [r] := by rw [List.take_succ, hx]; rfl
      refine ⟨ys, hD3, by rw [hv.len, List.length_take]; exact small1000 (by omega), ys ++ [.ref t], upd_same, same_mut (sm.trans sm3) nD, ?_⟩
      rw [e]
      exact (hv.mono sm3).snoc hD3 (sm.free nt) (ne_of_none hD nt).symm ht f
    · obtain ⟨ys, hD, sm, hv⟩ := hP
      rw [hf.len, List.take_length] at hv
      exact q D H2 ys sm nD hD hv

theorem ok__law_times (T : Tx K mg) : OkF P w K mg base 1 (He.fAd K ("_law_times", none)) ["a", "b"] (spLTi K) := by
  refine okF_of (d := d__law_times) T.d__law_times rfl sc__law_times (fun _ _ _ _ _ _ us hl => match us, hl with | [_, _], _ => rfl) (fun vs H Q E h => ?_) (fun cdv A outer s H vs Q E hr h => ?_)
  · first | (obtain ⟨_, rfl, _⟩ := h; rfl) | (obtain ⟨_, _, rfl, _⟩ := h; rfl) | (obtain ⟨_, _, _, rfl, _⟩ := h; rfl) | (obtain ⟨_, _, _, _, rfl, _⟩ := h; rfl) | (obtain ⟨_, _, _, _, _, rfl, _⟩ := h; rfl) | (obtain ⟨_, _, _, _, _, _, rfl, _⟩ := h; rfl) | (obtain ⟨_, _, _, _, _, _, _, rfl, _⟩ := h; rfl) | (obtain ⟨_, _, _, _, _, _, _, _, rfl, _⟩ := h; rfl) | (obtain ⟨_, _, _, _, _, _, _, _, _, rfl, _⟩ := h; rfl) | (obtain ⟨_, _, _, _, _, _, _, _, _, _, rfl, _⟩ := h; rfl)
  · obtain ⟨a, b, x, y, k, rfl, ha, hb, bx, bY, hk, q⟩ := h
    refine ⟨_, (pss_one (ps_ret (pe_tup (pa_cons (pe_op op_mulW (pe_ix ix_tup (pv 0) pe_int (fun _ _ => rfl)) (pe_ix ix_tup (pv 1) pe_int (fun _ _ => rfl))) (pa_cons (pe_op op_mulW (pe_ix ix_tup (pv 0) pe_int (fun _ _ => rfl)) (pe_ix ix_tup (pv 1) pe_int (fun _ _ => rfl))) pa_nil))))), ?_⟩
    have sa : SqT K H a [.int x.1, .int x.2] := SqT.of ha
    have sb : SqT K H b [.int y.1, .int y.2] := SqT.of hb
    exact ⟨_, rfl, _, _, _, _, rfl, rfl, sa, atI_nat (j := 0) rfl, _, rfl, _, _, _, _, rfl, rfl, sb, atI_nat (j := 0) rfl, _, _, rfl, rfl, mulW bx.a bY.a (by omega), _, rfl, _, _, _, _, rfl, rfl, sa, atI_nat (j := 1) rfl, _, rfl, _, _, _, _, rfl, rfl, sb, atI_nat (j := 1) rfl, _, _, rfl, rfl, mulW bx.b bY.b (by omega), by show 2 ≤ sizeLine; decide, fun p np => q p _ (sm_new np) np upd_same⟩

theorem ok__law_plus (T : Tx K mg) : OkF P w K mg base 1 (He.fAd K ("_law_plus", none)) ["a", "b"] (spLPl K) := by
  refine okF_of (d := d__law_plus) T.d__law_plus rfl sc__law_plus (fun _ _ _ _ _ _ us hl => match us, hl with | [_, _], _ => rfl) (fun vs H Q E h => ?_) (fun cdv A outer s H vs Q E hr h => ?_)
  · first | (obtain ⟨_, rfl, _⟩ := h; rfl) | (obtain ⟨_, _, rfl, _⟩ := h; rfl) | (obtain ⟨_, _, _, rfl, _⟩ := h; rfl) | (obtain ⟨_, _, _, _, rfl, _⟩ := h; rfl) | (obtain ⟨_, _, _, _, _, rfl, _⟩ := h; rfl) | (obtain ⟨_, _, _, _, _, _, rfl, _⟩ := h; rfl) | (obtain ⟨_, _, _, _, _, _, _, rfl, _⟩ := h; rfl) | (obtain ⟨_, _, _, _, _, _, _, _, rfl, _⟩ := h; rfl) | (obtain ⟨_, _, _, _, _, _, _, _, _, rfl, _⟩ := h; rfl) | (obtain ⟨_, _, _, _, _, _, _, _, _, _, rfl, _⟩ := h; rfl)
  · obtain ⟨a, b, x, y, k, rfl, ha, hb, bx, bY, hk, q⟩ := h
    refine ⟨_, (pss_one (ps_ret (pe_tup (pa_cons (pe_op op_add (pe_op op_mulW (pe_ix ix_tup (pv 0) pe_int (fun _ _ => rfl)) (pe_ix ix_tup (pv 1) pe_int (fun _ _ => rfl))) (pe_op op_mulW (pe_ix ix_tup (pv 1) pe_int (fun _ _ => rfl)) (pe_ix ix_tup (pv 0) pe_int (fun _ _ => rfl)))) (pa_cons (pe_op op_mulW (pe_ix ix_tup (pv 0) pe_int (fun _ _ => rfl)) (pe_ix ix_tup (pv 1) pe_int (fun _ _ => rfl))) pa_nil))))), ?_⟩
    have sa : SqT K H a [.int x.1, .int x.2] := SqT.of ha
    have sb : SqT K H b [.int y.1, .int y.2] := SqT.of hb
    exact ⟨_, rfl, _, _, _, _, rfl, rfl, sa, atI_nat (j := 0) rfl, _, rfl, _, _, _, _, rfl, rfl, sb, atI_nat (j := 1) rfl, _, _, rfl, rfl, mulW bx.a bY.b (by omega), _, rfl, _, _, _, _, rfl, rfl, sb, atI_nat (j := 0) rfl, _, rfl, _, _, _, _, rfl, rfl, sa, atI_nat (j := 1) rfl, _, _, rfl, rfl, mulW bY.a bx.b (by omega), _, _, rfl, rfl, _, rfl, _, _, _, _, rfl, rfl, sa, atI_nat (j := 1) rfl, _, rfl, _, _, _, _, rfl, rfl, sb, atI_nat (j := 1) rfl, _, _, rfl, rfl, mulW bx.b bY.b (by omega), by show 2 ≤ sizeLine; decide, fun p np => q p _ (sm_new np) np upd_same⟩

theorem ok__law_combine (T : Tx K mg) (O__law_times : OkF P w K mg base 1 (He.fAd K ("_law_times", none)) ["a", "b"] (spLTi K)) (O__law_plus : OkF P w K mg base 1 (He.fAd K ("_law_plus", none)) ["a", "b"] (spLPl K)) : OkF P w K mg base 2 (He.fAd K ("_law_combine", none)) ["factors", "rows", "width"] (spLComb K) := by
  obtain ⟨_, G__law_times, b__law_times, k__law_times⟩ := O__law_times
  obtain ⟨_, G__law_plus, b__law_plus, k__law_plus⟩ := O__law_plus
  refine okF_of (d := d__law_combine) T.d__law_combine rfl sc__law_combine (fun _ _ _ _ _ _ us hl => match us, hl with | [_, _, _], _ => rfl) (fun vs H Q E h => ?_) (fun cdv A outer s H vs Q E hr h => ?_)
  · first | (obtain ⟨_, rfl, _⟩ := h; rfl) | (obtain ⟨_, _, rfl, _⟩ := h; rfl) | (obtain ⟨_, _, _, rfl, _⟩ := h; rfl) | (obtain ⟨_, _, _, _, rfl, _⟩ := h; rfl) | (obtain ⟨_, _, _, _, _, rfl, _⟩ := h; rfl) | (obtain ⟨_, _, _, _, _, _, rfl, _⟩ := h; rfl) | (obtain ⟨_, _, _, _, _, _, _, rfl, _⟩ := h; rfl) | (obtain ⟨_, _, _, _, _, _, _, _, rfl, _⟩ := h; rfl) | (obtain ⟨_, _, _, _, _, _, _, _, _, rfl, _⟩ := h; rfl) | (obtain ⟨_, _, _, _, _, _, _, _, _, _, rfl, _⟩ := h; rfl)
  · obtain ⟨a, b, us, ws, xs, ts, wd, rfl, hA, hB, fa, fb, oa, ob, hl, h1, h2, q⟩ := h
    refine ⟨_, (pss_cons (ps_set (i := 3) sc__law_combine.nd rfl (Or.inr rfl) (pe_lc (own := [("k", 5)]) (g := gName 5) rfl sc__law_combine.nd (pi_range1 rfl T.z_range (pa_cons (pv 2) pa_nil)) (blkOk_by (own := [("k", 5)]) (N := N__law_combine) (sc := defScope s__law_combine) (by decide +kernel)) (fun _ _ _ _ _ => (pg_name (i := 5) sc__law_combine.nd rfl (Or.inl rfl))) (fun _ _ _ _ _ => pts_nil) (fun _ _ _ _ _ => (pe_tup (pa_cons pe_int (pa_cons pe_int pa_nil))))))
      (pss_cons (ps_for PassesOwn.leaving rfl (pi_range1 rfl T.z_range (pa_cons (pe_callB call_len_seq (by rfl) T.z_len PySem.boot_len (pa_cons (pv 0) pa_nil)) pa_nil)) (pg_name (i := 4) sc__law_combine.nd rfl (Or.inr rfl)) (pss_one (ps_set (i := 3) sc__law_combine.nd rfl (Or.inr rfl) (pe_lc (own := [("k", 5)]) (g := gName 5) rfl sc__law_combine.nd (pi_range1 rfl T.z_range (pa_cons (pv 2) pa_nil)) (blkOk_by (own := [("k", 5)]) (N := N__law_combine) (sc := defScope s__law_combine) (by decide +kernel)) (fun _ _ _ _ _ => (pg_name (i := 5) sc__law_combine.nd rfl (Or.inl rfl))) (fun _ _ _ _ _ => pts_nil) (fun _ _ _ _ _ => (pe_call G__law_plus (hr.mono (by decide)) (by rfl) T.g__law_plus k__law_plus b__law_plus .nil passL (pa_cons (pe_ix (show IxR _ (rIxL K) from ix_list) (pv 3) (pv 5) (fun _ _ => rfl)) (pa_cons (pe_call G__law_times (hr.mono (by decide)) (by rfl) T.g__law_times k__law_times b__law_times .nil passL (pa_cons (pe_ix (show IxR _ (rIxL K) from ix_list) (pv 0) (pv 4) (fun _ _ => rfl)) (pa_cons (pe_ix (show IxR _ (rIxL K) from ix_list) (pe_ix (show IxR _ (rIxL K) from ix_list) (pv 1) (pv 4) (fun _ _ => rfl)) (pv 5) (fun _ _ => rfl)) pa_nil))) pa_nil))))))))
      (pss_one (ps_ret (pv 3))))), ?_⟩
    have ul := fa.len
    have wl := fb.len
    refine ⟨_, rfl, _, rfl, by omega, by omega, fun D nD => lc_range (lo := 0) (n := wd) (fun i H' => ∃ zs : List V, H' D = some (.lst zs) ∧ Same H H' ∧ PrL H' zs ((List.range i).map fun _ => (0, 1)))
      ⟨[], upd_same, sm_new nD, .nil⟩ (fun i H' hi hP => ?_) (fun H1 hP => ?_)⟩
    · obtain ⟨zs, hD, sm, hv⟩ := hP
      refine ⟨rfl, yes_ok (iteK rfl ?_)⟩
      refine ⟨by show 2 ≤ sizeLine; decide, fun p np => ?_⟩
      have s1 := sm_new (o := prO (0, 1)) np
      have hD1 := s1 _ _ hD
      refine ⟨zs, hD1, by rw [hv.len, List.length_map, List.length_range]; exact small1000 (by omega), zs ++ [.ref p], upd_same, same_mut (sm.trans s1) nD, ?_⟩
      rw [List.range_succ, List.map_append]
      exact ((hv.mono s1).snoc upd_same).upd hD1
    obtain ⟨zs0, hD0, sm0, hv0⟩ := hP
    refine ⟨_, rfl, _, _, rfl, .inl (sm0.seq hA), _, rfl, by omega, by omega, for_range (lo := 0) (n := us.length) (fun i σ' H' => ∃ (p : Addr) (zs : List V) (y4 y5 : Option V), σ' = [some (.ref a), some (.ref b), some (.int (wd : Int)), some (.ref p), y4, y5] ∧ Same H H' ∧ H p = none ∧ H' p = some (.lst zs) ∧ PrL H' zs (combL xs ts wd i))
      ⟨D, zs0, none, none, rfl, sm0, nD, hD0, hv0⟩ (fun i σ' H2 hi hI => ?_) (fun σ' H2 hI => ?_)⟩
    · obtain ⟨p, zs, y4, y5, rfl, sm, np, hp, hz⟩ := hI
      have e0 : (0 : Int) + (i : Int) = (i : Int) := Int.zero_add _
      rw [e0]
      have hu : us[i]? = some us[i] := List.getElem?_eq_getElem (by omega)
      have hw : ws[i]? = some ws[i] := List.getElem?_eq_getElem (by omega)
      generalize us[i] = u at hu
      generalize ws[i] = v at hw
      obtain ⟨x, ax, hx, rfl, hax⟩ := (fa.mono sm).item hu
      obtain ⟨r, ar, rs, hr, rfl, har, hrs⟩ := (fb.mono sm).item hw
      obtain ⟨rl, ro⟩ := ob r (List.mem_of_getElem? hr)
      have ox := oa x (List.mem_of_getElem? hx)
      have zl := hz.len
      rw [combL_len] at zl
      have rsl := hrs.len
      refine ⟨_, rfl, _, rfl, by omega, by omega, fun D2 nD2 => lc_range (lo := 0) (n := wd) (fun k H3 => ∃ cs : List V, H3 D2 = some (.lst cs) ∧ Same H2 H3 ∧ PrL H3 cs ((combL xs ts wd (i + 1)).take k))
        ⟨[], upd_same, sm_new nD2, .nil⟩ (fun k H3 hk hP => ?_) (fun H3 hP => ?_)⟩
      · obtain ⟨cs, hD2, sm2, hc⟩ := hP
        have e1 : (0 : Int) + (k : Int) = (k : Int) := Int.zero_add _
        rw [e1]
        refine ⟨rfl, yes_ok (iteK rfl ?_)⟩
        have hzk : zs[k]? = some zs[k] := List.getElem?_eq_getElem (by omega)
        have hrk : rs[k]? = some rs[k] := List.getElem?_eq_getElem (by omega)
        generalize zs[k] = z0 at hzk
        generalize rs[k] = r0 at hrk
        obtain ⟨z, az, hz1, rfl, haz⟩ := (hz.mono sm2).item hzk
        obtain ⟨y, ay, hy1, rfl, hay⟩ := (hrs.mono sm2).item hrk
        have oy := ro y (List.mem_of_getElem? hy1)
        obtain ⟨bz, pz⟩ := combL_bits oa ob hl i (by omega) k hk
        rw [getDx hz1] at bz pz
        have s2 := sm.trans sm2
        refine ⟨_, rfl, _, rfl, _, _, _, _, rfl, rfl, SqL.of (sm2 _ _ hp), atI_nat (j := k) hzk, _, rfl, _, rfl, _, _, _, _, rfl, rfl, s2.seq hA, atI_nat (j := i) hu, _, rfl, _, rfl, _, _, _, _, rfl, rfl, s2.seq hB, atI_nat (j := i) hw, _, rfl, _, _, _, _, rfl, rfl, SqL.of (sm2 _ _ har), atI_nat (j := k) hrk, _, _, x, y, 4, rfl, sm2 _ _ hax, hay, ox.bits, oy.bits, by decide, fun p2 H4 sm4 np2 hp2 => ?_⟩
        have bm : PrB 8 (mulP x y) := ox.bits.mul oy.bits
        refine ⟨_, _, z, mulP x y, 9 * i + 8, rfl, sm4 _ _ haz, hp2, bz.mono (by omega), bm.mono (by omega), by omega, fun p3 H5 sm5 np3 hp3 => ?_⟩
        have s6 := sm4.trans sm5
        have hD5 := s6 _ _ hD2
        refine ⟨cs, hD5, by rw [hc.len, List.length_take, combL_len]; exact small1000 (by omega), cs ++ [.ref p3], upd_same, same_mut (sm2.trans s6) nD2, ?_⟩
        have e : (combL xs ts wd (i + 1))[k]? = some (addP z (mulP x y)) := by
          rw [combL, List.getElem?_map, List.getElem?_range hk]
          simp only [Option.map_some, getDx hz1, getDx hx, getDx hr, getDx hy1]
        have e2 : (combL xs ts wd (i + 1)).take (k + 1) = (combL xs ts wd (i + 1)).take k ++ [addP z (mulP x y)] := by rw [List.take_succ, e]; rfl
        rw [e2]
        exact ((hc.mono s6).snoc hp3).upd hD5
      · obtain ⟨cs, hD2, sm2, hc⟩ := hP
        have e3 : (combL xs ts wd (i + 1)).take wd = combL xs ts wd (i + 1) := List.take_of_length_le (by rw [combL_len]; omega)
        rw [e3] at hc
        exact ⟨D2, cs, _, _, rfl, sm.trans sm2, sm.free nD2, hD2, hc⟩
    · obtain ⟨p, zs, y4, y5, rfl, sm, np, hp, hz⟩ := hI
      rw [ul, hl] at hz
      exact ⟨_, rfl, q p H2 zs sm np hp hz⟩

theorem ok__in_lowest_terms (T : Tx K mg) (O_Fraction___init__ : OkD P w K mg base 1 (He.fAd K ("Fraction", some "__init__")) ["self", "num", "den"] (He.Dv.v K (.int 1)) (spInit K)) : OkF P w K mg base 3 (He.fAd K ("_in_lowest_terms", none)) ["num", "den"] (spLow K) := by
  obtain ⟨_, G_Fraction___init__, b_Fraction___init__, ⟨_, v_Fraction___init__, bd_Fraction___init__⟩, k_Fraction___init__⟩ := O_Fraction___init__
  refine okF_of (d := d__in_lowest_terms) T.d__in_lowest_terms rfl sc__in_lowest_terms (fun _ _ _ _ _ _ us hl => match us, hl with | [_, _], _ => rfl) (fun vs H Q E h => ?_) (fun cdv A outer s H vs Q E hr h => ?_)
  · first | (obtain ⟨_, rfl, _⟩ := h; rfl) | (obtain ⟨_, _, rfl, _⟩ := h; rfl) | (obtain ⟨_, _, _, rfl, _⟩ := h; rfl) | (obtain ⟨_, _, _, _, rfl, _⟩ := h; rfl) | (obtain ⟨_, _, _, _, _, rfl, _⟩ := h; rfl) | (obtain ⟨_, _, _, _, _, _, rfl, _⟩ := h; rfl) | (obtain ⟨_, _, _, _, _, _, _, rfl, _⟩ := h; rfl) | (obtain ⟨_, _, _, _, _, _, _, _, rfl, _⟩ := h; rfl) | (obtain ⟨_, _, _, _, _, _, _, _, _, rfl, _⟩ := h; rfl) | (obtain ⟨_, _, _, _, _, _, _, _, _, _, rfl, _⟩ := h; rfl)
  · obtain ⟨n, d, rfl, q⟩ := h
    refine ⟨_, (pss_cons (ps_set (i := 2) sc__in_lowest_terms.nd rfl (Or.inl rfl) (pe_makeI T.mk_Fraction G_Fraction___init__ (hr.mono (by decide)) (by rfl) T.g_Fraction bd_Fraction___init__ v_Fraction___init__ passL (mkFr_conv K [_]) (pa_cons pe_int pa_nil)))
      (pss_cons (ps_fld (pv 2) (pv 0) rfl)
      (pss_cons (ps_fld (pv 2) (pv 1) rfl)
      (pss_one (ps_ret (pv 2)))))), ?_⟩
    refine ⟨0, 1, 1, rfl, by decide, by decide, by decide, fun p dp H2 a b sm np hp fq => ?_⟩
    refine ⟨_, rfl, _, rfl, p, _, dp, _, rfl, hp, T.cls_Fraction, T.n_Fraction_num, (show (2 : Nat) < 1000 by decide), ?_⟩
    refine ⟨_, rfl, _, rfl, p, _, dp, _, rfl, upd_same, T.cls_Fraction, T.n_Fraction_den, (show (2 : Nat) < 1000 by decide), ?_⟩
    exact ⟨_, rfl, q p dp _ n d (same_mut (same_mut sm np) np) np upd_same ⟨rfl, rfl⟩⟩

theorem ok_Fraction___mul__ (T : Tx K mg) (O__in_lowest_terms : OkF P w K mg base 3 (He.fAd K ("_in_lowest_terms", none)) ["num", "den"] (spLow K)) : OkF P w K mg base 4 (He.fAd K ("Fraction", some "__mul__")) ["self", "other"] (spMul K) := by
  obtain ⟨_, G__in_lowest_terms, b__in_lowest_terms, k__in_lowest_terms⟩ := O__in_lowest_terms
  refine okF_of (d := d_Fraction___mul__) T.d_Fraction___mul__ rfl sc_Fraction___mul__ (fun _ _ _ _ _ _ us hl => match us, hl with | [_, _], _ => rfl) (fun vs H Q E h => ?_) (fun cdv A outer s H vs Q E hr h => ?_)
  · first | (obtain ⟨_, rfl, _⟩ := h; rfl) | (obtain ⟨_, _, rfl, _⟩ := h; rfl) | (obtain ⟨_, _, _, rfl, _⟩ := h; rfl) | (obtain ⟨_, _, _, _, rfl, _⟩ := h; rfl) | (obtain ⟨_, _, _, _, _, rfl, _⟩ := h; rfl) | (obtain ⟨_, _, _, _, _, _, rfl, _⟩ := h; rfl) | (obtain ⟨_, _, _, _, _, _, _, rfl, _⟩ := h; rfl) | (obtain ⟨_, _, _, _, _, _, _, _, rfl, _⟩ := h; rfl) | (obtain ⟨_, _, _, _, _, _, _, _, _, rfl, _⟩ := h; rfl) | (obtain ⟨_, _, _, _, _, _, _, _, _, _, rfl, _⟩ := h; rfl)
  · obtain ⟨a, b, da, db, n1, d1, n2, d2, k, rfl, ha, hb, l1, l2, hk, q⟩ := h
    refine ⟨_, (pss_cons (ps_setI (i := 2) sc_Fraction___mul__.nd rfl (Or.inl rfl) (pe_callBfun cr_gcd rfl T.g_gcd (pa_cons (pe_fld (pv 0) rfl) (pa_cons (pe_fld (pv 1) rfl) pa_nil))))
      (pss_cons (ps_setI (i := 3) sc_Fraction___mul__.nd rfl (Or.inl rfl) (pe_callBfun cr_gcd rfl T.g_gcd (pa_cons (pe_fld (pv 1) rfl) (pa_cons (pe_fld (pv 0) rfl) pa_nil))))
      (pss_cons (ps_setI (i := 4) sc_Fraction___mul__.nd rfl (Or.inl rfl) (pe_op op_mulW (pe_op op_fdivW (pe_fld (pv 0) rfl) (pv 2)) (pe_op op_fdivW (pe_fld (pv 1) rfl) (pv 3))))
      (pss_one (ps_ret (pe_call G__in_lowest_terms (hr.mono (by decide)) (by rfl) T.g__in_lowest_terms k__in_lowest_terms b__in_lowest_terms .nil passL (pa_cons (pv 4) (pa_cons (pe_op op_mulW (pe_op op_fdivW (pe_fld (pv 0) rfl) (pv 3)) (pe_op op_fdivW (pe_fld (pv 1) rfl) (pv 2))) pa_nil)))))))), ?_⟩
    refine ⟨_, rfl, _, _, _, _, _, rfl, ha, T.cls_Fraction, T.n_Fraction_num, rfl, _, rfl, _, _, _, _, _, rfl, hb, T.cls_Fraction, T.n_Fraction_den, rfl, _, _, rfl, _, rfl, fun l el => ?_⟩
    refine ⟨_, rfl, _, _, _, _, _, rfl, hb, T.cls_Fraction, T.n_Fraction_num, rfl, _, rfl, _, _, _, _, _, rfl, ha, T.cls_Fraction, T.n_Fraction_den, rfl, _, _, rfl, _, rfl, fun r er => ?_⟩
    obtain ⟨l0, r0, f⟩ := fq_mul l1.pos l2.pos l1.cop l2.cop el er
    have lb : l.natAbs < 2 ^ k := Nat.lt_of_le_of_lt (by
      rw [el, Int.natAbs_natCast]
      exact Nat.le_of_dvd (by have := l2.pos; omega) (Nat.gcd_dvd_right _ _)) l2.bd
    have rb : r.natAbs < 2 ^ k := Nat.lt_of_le_of_lt (by
      rw [er, Int.natAbs_natCast]
      exact Nat.le_of_dvd (by have := l1.pos; omega) (Nat.gcd_dvd_right _ _)) l1.bd
    have b1 : (n1 / l).natAbs < 2 ^ k := Nat.lt_of_le_of_lt (Int.natAbs_ediv_le_natAbs _ _) l1.bn
    have b2 : (n2 / r).natAbs < 2 ^ k := Nat.lt_of_le_of_lt (Int.natAbs_ediv_le_natAbs _ _) l2.bn
    have b3 : (d1 / r).natAbs < 2 ^ k := Nat.lt_of_le_of_lt (Int.natAbs_ediv_le_natAbs _ _) l1.bd
    have b4 : (d2 / l).natAbs < 2 ^ k := Nat.lt_of_le_of_lt (Int.natAbs_ediv_le_natAbs _ _) l2.bd
    refine ⟨_, rfl, _, _, _, _, _, rfl, ha, T.cls_Fraction, T.n_Fraction_num, rfl, _, rfl, _, _, rfl, rfl, divW l0 lb hk, _, rfl, _, _, _, _, _, rfl, hb, T.cls_Fraction, T.n_Fraction_num, rfl, _, rfl, _, _, rfl, rfl, divW r0 rb hk, _, _, rfl, rfl, mulW b1 b2 (by omega), _, rfl, fun num en => ?_⟩
    refine ⟨_, rfl, _, rfl, _, _, _, _, _, rfl, ha, T.cls_Fraction, T.n_Fraction_den, rfl, _, rfl, _, _, rfl, rfl, divW r0 rb hk, _, rfl, _, _, _, _, _, rfl, hb, T.cls_Fraction, T.n_Fraction_den, rfl, _, rfl, _, _, rfl, rfl, divW l0 lb hk, _, _, rfl, rfl, mulW b3 b4 (by omega), _, _, rfl, fun p dp H' n d sm np hp e => ?_⟩
    obtain ⟨rfl, rfl⟩ := e
    rw [← en] at f
    exact q p dp H' _ _ sm np hp f

theorem ok_Fraction___add__ (T : Tx K mg) (O__in_lowest_terms : OkF P w K mg base 3 (He.fAd K ("_in_lowest_terms", none)) ["num", "den"] (spLow K)) : OkF P w K mg base 4 (He.fAd K ("Fraction", some "__add__")) ["self", "other"] (spAdd K) := by
  obtain ⟨_, G__in_lowest_terms, b__in_lowest_terms, k__in_lowest_terms⟩ := O__in_lowest_terms
  refine okF_of (d := d_Fraction___add__) T.d_Fraction___add__ rfl sc_Fraction___add__ (fun _ _ _ _ _ _ us hl => match us, hl with | [_, _], _ => rfl) (fun vs H Q E h => ?_) (fun cdv A outer s H vs Q E hr h => ?_)
  · first | (obtain ⟨_, rfl, _⟩ := h; rfl) | (obtain ⟨_, _, rfl, _⟩ := h; rfl) | (obtain ⟨_, _, _, rfl, _⟩ := h; rfl) | (obtain ⟨_, _, _, _, rfl, _⟩ := h; rfl) | (obtain ⟨_, _, _, _, _, rfl, _⟩ := h; rfl) | (obtain ⟨_, _, _, _, _, _, rfl, _⟩ := h; rfl) | (obtain ⟨_, _, _, _, _, _, _, rfl, _⟩ := h; rfl) | (obtain ⟨_, _, _, _, _, _, _, _, rfl, _⟩ := h; rfl) | (obtain ⟨_, _, _, _, _, _, _, _, _, rfl, _⟩ := h; rfl) | (obtain ⟨_, _, _, _, _, _, _, _, _, _, rfl, _⟩ := h; rfl)
  · obtain ⟨a, b, da, db, n1, d1, n2, d2, k, rfl, ha, hb, l1, l2, hk, q⟩ := h
    refine ⟨_, (pss_cons (ps_setI (i := 2) sc_Fraction___add__.nd rfl (Or.inl rfl) (pe_callBfun cr_gcd rfl T.g_gcd (pa_cons (pe_fld (pv 0) rfl) (pa_cons (pe_fld (pv 1) rfl) pa_nil))))
      (pss_cons (ps_setI (i := 3) sc_Fraction___add__.nd rfl (Or.inl rfl) (pe_op op_fdivW (pe_fld (pv 1) rfl) (pv 2)))
      (pss_cons (ps_setI (i := 4) sc_Fraction___add__.nd rfl (Or.inl rfl) (pe_op op_add (pe_op op_mulW (pe_fld (pv 0) rfl) (pv 3)) (pe_op op_mulW (pe_fld (pv 1) rfl) (pe_op op_fdivW (pe_fld (pv 0) rfl) (pv 2)))))
      (pss_cons (ps_setI (i := 5) sc_Fraction___add__.nd rfl (Or.inl rfl) (pe_callBfun cr_gcd rfl T.g_gcd (pa_cons (pv 4) (pa_cons (pv 2) pa_nil))))
      (pss_one (ps_ret (pe_call G__in_lowest_terms (hr.mono (by decide)) (by rfl) T.g__in_lowest_terms k__in_lowest_terms b__in_lowest_terms .nil passL (pa_cons (pe_op op_fdivW (pv 4) (pv 5)) (pa_cons (pe_op op_mulW (pe_op op_fdivW (pe_fld (pv 0) rfl) (pv 5)) (pv 3)) pa_nil))))))))), ?_⟩
    refine ⟨_, rfl, _, _, _, _, _, rfl, ha, T.cls_Fraction, T.n_Fraction_den, rfl, _, rfl, _, _, _, _, _, rfl, hb, T.cls_Fraction, T.n_Fraction_den, rfl, _, _, rfl, _, rfl, fun g eg => ?_⟩
    obtain ⟨g0, s0, f⟩ := fq_add l1.pos l2.pos l1.cop l2.cop eg rfl rfl rfl
    have gl : g.natAbs ≤ d1.natAbs := by
      rw [eg, Int.natAbs_natCast]
      exact Nat.le_of_dvd (by have := l1.pos; omega) (Nat.gcd_dvd_left _ _)
    have gb : g.natAbs < 2 ^ k := Nat.lt_of_le_of_lt gl l1.bd
    have b1 : (d1 / g).natAbs < 2 ^ k := Nat.lt_of_le_of_lt (Int.natAbs_ediv_le_natAbs _ _) l1.bd
    have b2 : (d2 / g).natAbs < 2 ^ k := Nat.lt_of_le_of_lt (Int.natAbs_ediv_le_natAbs _ _) l2.bd
    refine ⟨_, rfl, _, _, _, _, _, rfl, hb, T.cls_Fraction, T.n_Fraction_den, rfl, _, rfl, _, _, rfl, rfl, divW g0 gb hk, _, rfl, fun sc es => ?_⟩
    subst es
    refine ⟨_, rfl, _, _, _, _, _, rfl, ha, T.cls_Fraction, T.n_Fraction_num, rfl, _, rfl, _, _, rfl, rfl, mulW l1.bn b2 (by omega), _, rfl, _, _, _, _, _, rfl, hb, T.cls_Fraction, T.n_Fraction_num, rfl, _, rfl, _, _, _, _, _, rfl, ha, T.cls_Fraction, T.n_Fraction_den, rfl, _, rfl, _, _, rfl, rfl, divW g0 gb hk, _, _, rfl, rfl, mulW l2.bn b1 (by omega), _, _, rfl, rfl, _, rfl, fun num en => ?_⟩
    rw [← en] at s0 f
    refine ⟨_, rfl, _, rfl, _, _, rfl, _, rfl, fun sh eh => ?_⟩
    rw [← eh] at s0 f
    have shl : sh.natAbs ≤ g.natAbs := by
      rw [eh, Int.natAbs_natCast]
      exact Nat.le_of_dvd (by omega) (Nat.gcd_dvd_right _ _)
    have shb : sh.natAbs < 2 ^ k := Nat.lt_of_le_of_lt shl gb
    have b3 : (d1 / sh).natAbs < 2 ^ k := Nat.lt_of_le_of_lt (Int.natAbs_ediv_le_natAbs _ _) l1.bd
    refine ⟨_, rfl, _, rfl, _, _, rfl, rfl, divW s0 shb hk, _, rfl, _, _, _, _, _, rfl, ha, T.cls_Fraction, T.n_Fraction_den, rfl, _, rfl, _, _, rfl, rfl, divW s0 shb hk, _, rfl, _, _, rfl, rfl, mulW b3 b2 (by omega), _, _, rfl, fun p dp H' n d sm np hp e => ?_⟩
    obtain ⟨rfl, rfl⟩ := e
    exact q p dp H' _ _ sm np hp f

theorem ok_total_of_f (T : Tx K mg) : OkF P w K mg base 1 (He.fAd K ("total_of", none)) ["parts", "zero"] (fun _ _ _ _ => False) := by
  refine okF_of (d := d_total_of) T.d_total_of rfl sc_total_of (fun _ _ _ _ _ _ us hl => match us, hl with | [_, _], _ => rfl) (fun vs H Q E h => ?_) (fun cdv A outer s H vs Q E hr h => ?_)
  · exact h.elim
  · exact h.elim
theorem ok_total_of_j (T : Tx K mg) (O_Fraction___add__ : OkF P w K mg base 4 (He.fAd K ("Fraction", some "__add__")) ["self", "other"] (spAdd K)) (j : Nat) : OkF P w K mg base (j + 5) (He.fAd K ("total_of", none)) ["parts", "zero"] (spTot K j) := by
  obtain ⟨_, G_Fraction___add__, b_Fraction___add__, k_Fraction___add__⟩ := O_Fraction___add__
  induction j with
  | zero =>
    have O_total_of := ok_total_of_f (P := P) (w := w) (base := base) T
    obtain ⟨_, G_total_of, b_total_of, k_total_of⟩ := O_total_of
    refine okF_of (d := d_total_of) T.d_total_of rfl sc_total_of (fun _ _ _ _ _ _ us hl => match us, hl with | [_, _], _ => rfl) (fun vs H Q E h => ?_) (fun cdv A outer s H vs Q E hr h => ?_)
    · obtain ⟨_, _, _, _, _, _, rfl, _⟩ := h
      rfl
    · obtain ⟨a, z, dz, xs, qs, k, rfl, hS, hf, hz, hl, h1, hj, hk, q⟩ := h
      refine ⟨_, (pss_cons (ps_if (pt_cmpR op_eq (pe_callB call_len_seq (by rfl) T.z_len PySem.boot_len (pa_cons (pv 0) pa_nil)) pe_int (nomark _)) (pss_one (ps_ret (pv 1))) pss_nil)
      (pss_cons (ps_if (pt_cmpR op_eq (pe_callB call_len_seq (by rfl) T.z_len PySem.boot_len (pa_cons (pv 0) pa_nil)) pe_int (nomark _)) (pss_one (ps_ret (pe_ix ix_list (pv 0) pe_int (fun _ _ => rfl)))) pss_nil)
      (pss_cons (ps_setI (i := 2) sc_total_of.nd rfl (Or.inl rfl) (pe_op op_fdiv (pe_callB call_len_seq (by rfl) T.z_len PySem.boot_len (pa_cons (pv 0) pa_nil)) pe_int))
      (pss_one (ps_ret (pe_op (op_own2 T.first_Fraction T.s_Fraction___add__ T.f_Fraction___add__ G_Fraction___add__ (hr.mono (by omega)) b_Fraction___add__ passL) (pe_call G_total_of (hr.mono (by omega)) (by rfl) T.g_total_of k_total_of b_total_of .nil passL (pa_cons (pe_slice sl_list (pv 0) po_none (po_some (pv 2))) (pa_cons (pv 1) pa_nil))) (pe_call G_total_of (hr.mono (by omega)) (by rfl) T.g_total_of k_total_of b_total_of .nil passL (pa_cons (pe_slice sl_list (pv 0) (po_some (pv 2)) po_none) (pa_cons (pv 1) pa_nil))))))))), ?_⟩
      refine ⟨_, rfl, _, _, rfl, .inl hS, rfl, _, rfl, iteEq (fun c => ?_) (fun c => ?_)⟩
      · have e : qs = [] := List.eq_nil_of_length_eq_zero (by have := hf.len; omega)
        subst e
        exact ⟨_, rfl, q z dz H 0 1 (fun _ _ e => e) hz ⟨rfl, by decide, by decide⟩⟩
      have l1 : qs.length = 1 := by
        have := hf.len
        have : qs.length ≤ 1 := h1
        omega
      obtain ⟨q1, rfl⟩ := List.length_eq_one_iff.mp l1
      refine ⟨_, rfl, _, _, rfl, .inl hS, rfl, _, rfl, iteEq (fun c2 => ?_) (fun c2 => ?_)⟩
      · obtain ⟨b, db, e, hb⟩ := hf.at_ 0 q1 rfl
        refine ⟨_, rfl, _, _, _, _, rfl, rfl, hS, atI_nat (j := 0) e, ?_⟩
        refine q b db H q1.1 q1.2 (fun _ _ e => e) hb ?_
        have l := hl q1 (by simp)
        exact ⟨by simp [sumQ], l.pos, l.cop⟩
      · exact absurd (by rw [hf.len]; rfl) c2
  | succ j ih =>
    have O_total_of := ih
    obtain ⟨_, G_total_of, b_total_of, k_total_of⟩ := O_total_of
    refine okF_of (d := d_total_of) T.d_total_of rfl sc_total_of (fun _ _ _ _ _ _ us hl => match us, hl with | [_, _], _ => rfl) (fun vs H Q E h => ?_) (fun cdv A outer s H vs Q E hr h => ?_)
    · obtain ⟨_, _, _, _, _, _, rfl, _⟩ := h
      rfl
    · obtain ⟨a, z, dz, xs, qs, k, rfl, hS, hf, hz, hl, h1, hj, hk, q⟩ := h
      refine ⟨_, (pss_cons (ps_if (pt_cmpR op_eq (pe_callB call_len_seq (by rfl) T.z_len PySem.boot_len (pa_cons (pv 0) pa_nil)) pe_int (nomark _)) (pss_one (ps_ret (pv 1))) pss_nil)
      (pss_cons (ps_if (pt_cmpR op_eq (pe_callB call_len_seq (by rfl) T.z_len PySem.boot_len (pa_cons (pv 0) pa_nil)) pe_int (nomark _)) (pss_one (ps_ret (pe_ix ix_list (pv 0) pe_int (fun _ _ => rfl)))) pss_nil)
      (pss_cons (ps_setI (i := 2) sc_total_of.nd rfl (Or.inl rfl) (pe_op op_fdiv (pe_callB call_len_seq (by rfl) T.z_len PySem.boot_len (pa_cons (pv 0) pa_nil)) pe_int))
      (pss_one (ps_ret (pe_op (op_own2 T.first_Fraction T.s_Fraction___add__ T.f_Fraction___add__ G_Fraction___add__ (hr.mono (by omega)) b_Fraction___add__ passL) (pe_call G_total_of (hr.mono (by omega)) (by rfl) T.g_total_of k_total_of b_total_of .nil passL (pa_cons (pe_slice sl_list (pv 0) po_none (po_some (pv 2))) (pa_cons (pv 1) pa_nil))) (pe_call G_total_of (hr.mono (by omega)) (by rfl) T.g_total_of k_total_of b_total_of .nil passL (pa_cons (pe_slice sl_list (pv 0) (po_some (pv 2)) po_none) (pa_cons (pv 1) pa_nil))))))))), ?_⟩
      refine ⟨_, rfl, _, _, rfl, .inl hS, rfl, _, rfl, iteEq (fun c => ?_) (fun c => ?_)⟩
      · have e : qs = [] := List.eq_nil_of_length_eq_zero (by have := hf.len; omega)
        subst e
        exact ⟨_, rfl, q z dz H 0 1 (fun _ _ e => e) hz ⟨rfl, by decide, by decide⟩⟩
      refine ⟨_, rfl, _, _, rfl, .inl hS, rfl, _, rfl, iteEq (fun c2 => ?_) (fun c2 => ?_)⟩
      · obtain ⟨q1, rfl⟩ := List.length_eq_one_iff.mp (show qs.length = 1 by have := hf.len; omega)
        obtain ⟨b, db, e, hb⟩ := hf.at_ 0 q1 rfl
        refine ⟨_, rfl, _, _, _, _, rfl, rfl, hS, atI_nat (j := 0) e, ?_⟩
        refine q b db H q1.1 q1.2 (fun _ _ e => e) hb ?_
        have l := hl q1 (by simp)
        exact ⟨by simp [sumQ], l.pos, l.cop⟩
      refine ⟨_, rfl, _, _, rfl, .inl hS, _, _, rfl, rfl, ⟨by decide, by decide⟩, _, rfl, fun mid em => ?_⟩
      obtain ⟨m, rfl⟩ : ∃ m : Nat, mid = m := ⟨xs.length / 2, by rw [em]; omega⟩
      have hlen := hf.len
      have hm : m = xs.length / 2 := by omega
      have h2 : 2 ^ (j + 1) = 2 * 2 ^ j := by rw [Nat.pow_succ]; omega
      have lt1 : (qs.take m).length = m := by rw [List.length_take]; omega
      have lt2 : (qs.drop m).length = qs.length - m := List.length_drop ..
      have z1 : (k + 1) * m ≤ (k + 1) * qs.length := Nat.mul_le_mul_left _ (by omega)
      have z2 : (k + 1) * (qs.length - m) ≤ (k + 1) * qs.length := Nat.mul_le_mul_left _ (by omega)
      refine ⟨_, rfl, _, rfl, _, rfl, _, _, rfl, hS, fun p1 np1 => ?_⟩
      rw [cut_lo (show m ≤ xs.length by omega)]
      have s1 := sm_new (o := .lst (xs.take m)) np1
      refine ⟨_, rfl, _, _, _, _, _, k, rfl, SqL.of upd_same, (hf.take m).mono s1, s1 _ _ hz, hl.take m, by omega, by omega, by rw [lt1]; omega, fun p2 dp2 H2 n1 d1 s2 hp2 f1 => ?_⟩
      have sA := s1.trans s2
      refine ⟨_, rfl, _, rfl, _, rfl, _, _, rfl, sA.seq hS, fun p3 np3 => ?_⟩
      rw [cut_hi (show m ≤ xs.length by omega)]
      have s3 := sm_new (o := .lst (xs.drop m)) np3
      have sB := sA.trans s3
      refine ⟨_, rfl, _, _, _, _, _, k, rfl, SqL.of upd_same, (hf.drop m).mono sB, sB _ _ hz, hl.drop m, by omega, by omega, by rw [lt2]; omega, fun p4 dp4 H4 n2 d2 s4 hp4 f2 => ?_⟩
      have hp2' := (s3.trans s4) _ _ hp2
      obtain ⟨b1, b2⟩ := sumQ_bits (hl.take m)
      obtain ⟨b3, b4⟩ := sumQ_bits (hl.drop m)
      rw [lt1] at b1 b2
      rw [lt2] at b3 b4
      have l1 : Lw ((k + 1) * qs.length + 1) n1 d1 := lw_of f1 (by have := sumQ_pos (hl.take m); omega) (abs_mono b1 (by omega)) (abs_mono b2 (by omega))
      have l2 : Lw ((k + 1) * qs.length + 1) n2 d2 := lw_of f2 (by have := sumQ_pos (hl.drop m); omega) (abs_mono b3 (by omega)) (abs_mono b4 (by omega))
      refine ⟨_, _, _, _, _, _, rfl, rfl, hp2', hp4, _, _, _, _, _, _, _, _, _, rfl, hp2', hp4, l1, l2, hk, fun p5 dp5 H5 n d s5 np5 hp5 f => ?_⟩
      refine q p5 dp5 H5 n d ((sB.trans s4).trans s5) hp5 ?_
      have e : sumQ qs = sumQ (qs.take m ++ qs.drop m) := by rw [List.take_append_drop]
      rw [e, sumQ_append]
      exact f1.add f2 f
theorem ok_total_of (T : Tx K mg) (O_Fraction___add__ : OkF P w K mg base 4 (He.fAd K ("Fraction", some "__add__")) ["self", "other"] (spAdd K)) : OkF P w K mg base 12 (He.fAd K ("total_of", none)) ["parts", "zero"] (spTot0 K) := ok_total_of_j T O_Fraction___add__ 7

theorem ok_sum_of (T : Tx K mg) (O_Fraction___init__ : OkD P w K mg base 1 (He.fAd K ("Fraction", some "__init__")) ["self", "num", "den"] (He.Dv.v K (.int 1)) (spInit K)) (O_total_of : OkF P w K mg base 12 (He.fAd K ("total_of", none)) ["parts", "zero"] (spTot0 K)) : OkF P w K mg base 13 (He.fAd K ("sum_of", none)) ["fractions"] (spSum K) := by
  obtain ⟨_, G_Fraction___init__, b_Fraction___init__, ⟨_, v_Fraction___init__, bd_Fraction___init__⟩, k_Fraction___init__⟩ := O_Fraction___init__
  obtain ⟨_, G_total_of, b_total_of, k_total_of⟩ := O_total_of
  refine okF_of (d := d_sum_of) T.d_sum_of rfl sc_sum_of (fun _ _ _ _ _ _ us hl => match us, hl with | [_], _ => rfl) (fun vs H Q E h => ?_) (fun cdv A outer s H vs Q E hr h => ?_)
  · first | (obtain ⟨_, rfl, _⟩ := h; rfl) | (obtain ⟨_, _, rfl, _⟩ := h; rfl) | (obtain ⟨_, _, _, rfl, _⟩ := h; rfl) | (obtain ⟨_, _, _, _, rfl, _⟩ := h; rfl) | (obtain ⟨_, _, _, _, _, rfl, _⟩ := h; rfl) | (obtain ⟨_, _, _, _, _, _, rfl, _⟩ := h; rfl) | (obtain ⟨_, _, _, _, _, _, _, rfl, _⟩ := h; rfl) | (obtain ⟨_, _, _, _, _, _, _, _, rfl, _⟩ := h; rfl) | (obtain ⟨_, _, _, _, _, _, _, _, _, rfl, _⟩ := h; rfl) | (obtain ⟨_, _, _, _, _, _, _, _, _, _, rfl, _⟩ := h; rfl)
  · obtain ⟨a, xs, qs, k, rfl, hS, hf, hl, h1, hk, q⟩ := h
    refine ⟨_, (pss_one (ps_ret (pe_call G_total_of (hr.mono (by decide)) (by rfl) T.g_total_of k_total_of b_total_of .nil passL (pa_cons (pv 0) (pa_cons (pe_makeI T.mk_Fraction G_Fraction___init__ (hr.mono (by decide)) (by rfl) T.g_Fraction bd_Fraction___init__ v_Fraction___init__ passL (mkFr_conv K [_]) (pa_cons pe_int pa_nil)) pa_nil))))), ?_⟩
    refine ⟨_, rfl, _, _, 8, rfl, by decide, by decide, by decide, fun p dp H1 n d sm np hp f => ?_⟩
    obtain ⟨rfl, rfl⟩ := f.uniq (a' := 0) (b' := 1) ⟨rfl, by decide, by decide⟩ (by decide)
    refine ⟨a, p, dp, xs, qs, k, rfl, sm.seq hS, hf.mono sm, hp, hl, h1, by decide, hk, fun p2 dp2 H2 n2 d2 sm2 hp2 f2 => ?_⟩
    exact q p2 dp2 H2 n2 d2 (sm.trans sm2) hp2 f2

theorem ok_dot (T : Tx K mg) (O_Fraction___mul__ : OkF P w K mg base 4 (He.fAd K ("Fraction", some "__mul__")) ["self", "other"] (spMul K)) (O_sum_of : OkF P w K mg base 13 (He.fAd K ("sum_of", none)) ["fractions"] (spSum K)) : OkF P w K mg base 14 (He.fAd K ("dot", none)) ["first", "second"] (spDot K) := by
  obtain ⟨_, G_Fraction___mul__, b_Fraction___mul__, k_Fraction___mul__⟩ := O_Fraction___mul__
  obtain ⟨_, G_sum_of, b_sum_of, k_sum_of⟩ := O_sum_of
  refine okF_of (d := d_dot) T.d_dot rfl sc_dot (fun _ _ _ _ _ _ us hl => match us, hl with | [_, _], _ => rfl) (fun vs H Q E h => ?_) (fun cdv A outer s H vs Q E hr h => ?_)
  · first | (obtain ⟨_, rfl, _⟩ := h; rfl) | (obtain ⟨_, _, rfl, _⟩ := h; rfl) | (obtain ⟨_, _, _, rfl, _⟩ := h; rfl) | (obtain ⟨_, _, _, _, rfl, _⟩ := h; rfl) | (obtain ⟨_, _, _, _, _, rfl, _⟩ := h; rfl) | (obtain ⟨_, _, _, _, _, _, rfl, _⟩ := h; rfl) | (obtain ⟨_, _, _, _, _, _, _, rfl, _⟩ := h; rfl) | (obtain ⟨_, _, _, _, _, _, _, _, rfl, _⟩ := h; rfl) | (obtain ⟨_, _, _, _, _, _, _, _, _, rfl, _⟩ := h; rfl) | (obtain ⟨_, _, _, _, _, _, _, _, _, _, rfl, _⟩ := h; rfl)
  · obtain ⟨a, b, us, ws, xs, ys, rfl, hA, hB, fa, fb, hl, h1, q⟩ := h
    refine ⟨_, (pss_one (ps_ret (pe_call G_sum_of (hr.mono (by decide)) (by rfl) T.g_sum_of k_sum_of b_sum_of .nil passL (pa_cons (pe_lc (own := [("x", 2), ("y", 3)]) (g := gTup K 2 (gCons (gName 2) (gCons (gName 3) gNil))) rfl sc_dot.nd (pi_zip (by rfl) T.z_zip (pa_cons (pv 0) (pa_cons (pv 1) pa_nil))) (blkOk_by (own := [("x", 2), ("y", 3)]) (N := N_dot) (sc := defScope s_dot) (by decide +kernel)) (fun _ _ _ _ _ => (pg_tup rfl (pgs_cons (pg_name (i := 2) sc_dot.nd rfl (Or.inl rfl)) (pgs_cons (pg_name (i := 3) sc_dot.nd rfl (Or.inl rfl)) pgs_nil)))) (fun _ _ _ _ _ => pts_nil) (fun _ _ _ _ _ => (pe_op (op_own2 T.first_Fraction T.s_Fraction___mul__ T.f_Fraction___mul__ G_Fraction___mul__ (hr.mono (by decide)) b_Fraction___mul__ passL) (pv 2) (pv 3)))) pa_nil)))), ?_⟩
    have ul := fa.len
    have wl := fb.len
    refine ⟨_, rfl, _, rfl, a, b, us, ws, rfl, hA, hB, fun D nD => lc_zip (K := K) (xs := us) (ys := ws) (by omega) (fun i H' => ∃ (zs : List V), H' D = some (.lst zs) ∧ Same H H' ∧ VF K 8 H' zs (List.zipWith mulP (xs.take i) (ys.take i))) ⟨[], upd_same, sm_new nD, .nil⟩ (fun i H' hP => ?_) (fun i x y T H' hx hy hP nT => ?_) (fun H' hP => ?_)⟩
    · obtain ⟨zs, hD, sm, hv⟩ := hP
      exact ⟨sm.seq hA, sm.seq hB⟩
    · obtain ⟨zs, hD, sm, hv⟩ := hP
      obtain ⟨p1, n1, d1, b1, db1, e1, rfl, hb1, l1, f1⟩ := (fa.mono sm).item hx
      obtain ⟨p2, n2, d2, b2, db2, e2, rfl, hb2, l2, f2⟩ := (fb.mono sm).item hy
      have sT := sm_new (o := .tup [.ref b1, .ref b2]) nT
      have hDT := sT _ _ hD
      have hvT := hv.mono sT
      have g1 := sT _ _ hb1
      have g2 := sT _ _ hb2
      have smT := sm.trans sT
      refine ⟨T, _, rfl, SqT.of upd_same, rfl, _, _, rfl, _, _, rfl, rfl, rfl, ?_⟩
      unfold tYes
      refine iteK rfl ?_
      refine ⟨_, rfl, _, rfl, _, _, _, _, _, _, rfl, rfl, g1, g2, _, _, _, _, _, _, _, _, _, rfl, g1, g2, l1, l2, by decide, fun p3 dp3 H3 n3 d3 sm3 np3 hp3 f3 => ?_⟩
      have l3 : Lw 8 n3 d3 := lw_of f3 (Int.mul_ne_zero l1.ne l2.ne) (abs_lt_mul l1.bn l2.bn) (abs_lt_mul l1.bd l2.bd)
      have hD3 := sm3 _ _ hDT
      refine ⟨zs, hD3, by rw [hv.len, List.length_zipWith, List.length_take]; exact small1000 (by omega), zs ++ [.ref p3], upd_same, same_mut (smT.trans sm3) nD, ?_⟩
      rw [zip_more mulP e1 e2]
      exact ((hvT.mono sm3).snoc hp3 l3 (f1.mul f2 f3)).upd hD3
    · obtain ⟨zs, hD, sm, hv⟩ := hP
      rw [ul, List.take_length, hl, List.take_length] at hv
      have zl := hv.len
      rw [List.length_zipWith] at zl
      obtain ⟨qs, h2, h3, h4, h5⟩ := hv
      have ql : qs.length ≤ 100 := by rw [h4, List.length_zipWith]; omega
      refine ⟨_, zs, qs, 8, rfl, SqL.of hD, h2, h3, by omega, by omega, fun p2 dp2 H2 n2 d2 sm2 hp2 f2 => ?_⟩
      obtain ⟨b1, b2⟩ := sumQ_bits h3
      have sp := sumQ_pos h3
      refine q p2 dp2 H2 n2 d2 (sm.trans sm2) hp2 ⟨f2.conv (by omega) (sumQ_req h4 h5), lw_of f2 (by omega) (abs_mono b1 (by omega)) (abs_mono b2 (by omega))⟩

theorem ok__law_dot (T : Tx K mg) (O__law_times : OkF P w K mg base 1 (He.fAd K ("_law_times", none)) ["a", "b"] (spLTi K)) (O__law_plus : OkF P w K mg base 1 (He.fAd K ("_law_plus", none)) ["a", "b"] (spLPl K)) : OkF P w K mg base 2 (He.fAd K ("_law_dot", none)) ["xs", "ys"] (spLDot K) := by
  obtain ⟨_, G__law_times, b__law_times, k__law_times⟩ := O__law_times
  obtain ⟨_, G__law_plus, b__law_plus, k__law_plus⟩ := O__law_plus
  refine okF_of (d := d__law_dot) T.d__law_dot rfl sc__law_dot (fun _ _ _ _ _ _ us hl => match us, hl with | [_, _], _ => rfl) (fun vs H Q E h => ?_) (fun cdv A outer s H vs Q E hr h => ?_)
  · first | (obtain ⟨_, rfl, _⟩ := h; rfl) | (obtain ⟨_, _, rfl, _⟩ := h; rfl) | (obtain ⟨_, _, _, rfl, _⟩ := h; rfl) | (obtain ⟨_, _, _, _, rfl, _⟩ := h; rfl) | (obtain ⟨_, _, _, _, _, rfl, _⟩ := h; rfl) | (obtain ⟨_, _, _, _, _, _, rfl, _⟩ := h; rfl) | (obtain ⟨_, _, _, _, _, _, _, rfl, _⟩ := h; rfl) | (obtain ⟨_, _, _, _, _, _, _, _, rfl, _⟩ := h; rfl) | (obtain ⟨_, _, _, _, _, _, _, _, _, rfl, _⟩ := h; rfl) | (obtain ⟨_, _, _, _, _, _, _, _, _, _, rfl, _⟩ := h; rfl)
  · obtain ⟨a, b, us, ws, xs, ys, rfl, hA, hB, fa, fb, oa, ob, hl, h1, q⟩ := h
    refine ⟨_, (pss_cons (ps_set (i := 2) sc__law_dot.nd rfl (Or.inl rfl) (pe_tup (pa_cons pe_int (pa_cons pe_int pa_nil))))
      (pss_cons (ps_for PassesOwn.leaving rfl (pi_range1 rfl T.z_range (pa_cons (pe_callB call_len_seq (by rfl) T.z_len PySem.boot_len (pa_cons (pv 0) pa_nil)) pa_nil)) (pg_name (i := 3) sc__law_dot.nd rfl (Or.inl rfl)) (pss_one (ps_if (PW.pt (pw_and (pt_cmpR op_ne (pe_ix ix_tup (pe_ix ix_list (pv 0) (pv 3) (fun _ _ => rfl)) pe_int (fun _ _ => rfl)) pe_int (nomark _)) (pw_and1 (pt_cmpR op_ne (pe_ix ix_tup (pe_ix ix_list (pv 1) (pv 3) (fun _ _ => rfl)) pe_int (fun _ _ => rfl)) pe_int (nomark _))))) (pss_one (ps_set (i := 2) sc__law_dot.nd rfl (Or.inl rfl) (pe_call G__law_plus (hr.mono (by decide)) (by rfl) T.g__law_plus k__law_plus b__law_plus .nil passL (pa_cons (pv 2) (pa_cons (pe_call G__law_times (hr.mono (by decide)) (by rfl) T.g__law_times k__law_times b__law_times .nil passL (pa_cons (pe_ix ix_list (pv 0) (pv 3) (fun _ _ => rfl)) (pa_cons (pe_ix ix_list (pv 1) (pv 3) (fun _ _ => rfl)) pa_nil))) pa_nil))))) pss_nil)))
      (pss_one (ps_ret (pv 2))))), ?_⟩
    refine ⟨by show 2 ≤ sizeLine; decide, fun p0 np0 => ?_⟩
    have ul := fa.len
    have wl := fb.len
    refine ⟨_, rfl, _, _, rfl, .inl ((sm_new np0).seq hA), _, rfl, by omega, by omega, for_range (lo := 0) (n := us.length) (fun i σ' H' => ∃ (p : Addr) (z : Int × Int) (y3 : Option V), σ' = [some (.ref a), some (.ref b), some (.ref p), y3] ∧ Same H H' ∧ H' p = some (prO z) ∧ 0 < z.2 ∧ PrB (9 * i + 1) z ∧ REq z (dotP (xs.take i) (ys.take i)))
      ⟨p0, (0, 1), none, rfl, sm_new np0, upd_same, by decide, ⟨by decide, by decide⟩, rfl⟩ (fun i σ' H1 hi hI => ?_) (fun σ' H1 hI => ?_)⟩
    · obtain ⟨p, z, y3, rfl, sm, hp, hz, bz, rq⟩ := hI
      have e0 : (0 : Int) + (i : Int) = (i : Int) := Int.zero_add _
      rw [e0]
      obtain ⟨ax, eax, hax⟩ := (fa.mono sm).at_ i xs[i] (List.getElem?_eq_getElem (by omega))
      obtain ⟨ay, eay, hay⟩ := (fb.mono sm).at_ i ys[i] (List.getElem?_eq_getElem (by omega))
      have hx : xs[i]? = some xs[i] := List.getElem?_eq_getElem (by omega)
      have hy : ys[i]? = some ys[i] := List.getElem?_eq_getElem (by omega)
      generalize xs[i] = x at eax hax hx
      generalize ys[i] = y at eay hay hy
      have ox := oa x (List.mem_of_getElem? hx)
      have oy := ob y (List.mem_of_getElem? hy)
      have sx : SqT K H1 ax [.int x.1, .int x.2] := SqT.of hax
      have sy : SqT K H1 ay [.int y.1, .int y.2] := SqT.of hay
      have more := dotP_more hx hy
      have skip : x.1 * y.1 = 0 → ∃ (p' : Addr) (z : Int × Int) (y3 : Option V), [some (V.ref a), some (.ref b), some (.ref p), some (.int (i : Int))] = [some (.ref a), some (.ref b), some (.ref p'), y3] ∧ Same H H1 ∧ H1 p' = some (prO z) ∧ 0 < z.2 ∧ PrB (9 * (i + 1) + 1) z ∧ REq z (dotP (xs.take (i + 1)) (ys.take (i + 1))) := fun h0 =>
        ⟨p, z, _, rfl, sm, hp, hz, bz.mono (by omega), by rw [more]; exact rq.skip h0⟩
      have gA : us[i]? = some (.ref ax) := eax
      have gB : ws[i]? = some (.ref ay) := eay
      refine ⟨_, rfl, _, rfl, _, _, _, _, rfl, rfl, sm.seq hA, atI_nat (j := i) gA, _, _, _, _, rfl, rfl, sx, atI_nat (j := 0) rfl, rfl, _, rfl, iteEqN (fun n1 => ?_) (fun e1 => iteF (skip (by rw [e1, Int.zero_mul])))⟩
      refine ⟨_, rfl, _, rfl, _, _, _, _, rfl, rfl, sm.seq hB, atI_nat (j := i) gB, _, _, _, _, rfl, rfl, sy, atI_nat (j := 0) rfl, rfl, _, rfl, iteEqN (fun n2 => ?_) (fun e2 => skip (by rw [e2, Int.mul_zero]))⟩
      refine ⟨_, rfl, _, rfl, _, rfl, _, _, _, _, rfl, rfl, sm.seq hA, atI_nat (j := i) gA, _, rfl, _, rfl, _, _, _, _, rfl, rfl, sm.seq hB, atI_nat (j := i) gB, _, _, x, y, 4, rfl, hax, hay, ox.bits, oy.bits, by decide, fun p2 H2 sm2 np2 hp2 => ?_⟩
      have bm : PrB 8 (mulP x y) := ox.bits.mul oy.bits
      have mp : 0 < (mulP x y).2 := Int.mul_pos (by have := ox.d; omega) (by have := oy.d; omega)
      refine ⟨_, _, z, mulP x y, 9 * i + 8, rfl, sm2 _ _ hp, hp2, bz.mono (by omega), bm.mono (by omega), by omega, fun p3 H3 sm3 np3 hp3 => ?_⟩
      exact ⟨p3, addP z (mulP x y), _, rfl, (sm.trans sm2).trans sm3, hp3, Int.mul_pos hz mp, (bz.add bm).mono (by omega), by rw [more]; exact rq.add⟩
    · obtain ⟨p, z, y3, rfl, sm, hp, hz, bz, rq⟩ := hI
      rw [ul, List.take_length, hl, List.take_length] at rq
      exact ⟨_, rfl, q p H1 z sm hp hz (by rw [← ul]; exact bz) rq⟩

theorem ok__law_is_whole (T : Tx K mg) : OkF P w K mg base 1 (He.fAd K ("_law_is_whole", none)) ["x"] (spIsWh K) := by
  refine okF_of (d := d__law_is_whole) T.d__law_is_whole rfl sc__law_is_whole (fun _ _ _ _ _ _ us hl => match us, hl with | [_], _ => rfl) (fun vs H Q E h => ?_) (fun cdv A outer s H vs Q E hr h => ?_)
  · first | (obtain ⟨_, rfl, _⟩ := h; rfl) | (obtain ⟨_, _, rfl, _⟩ := h; rfl) | (obtain ⟨_, _, _, rfl, _⟩ := h; rfl) | (obtain ⟨_, _, _, _, rfl, _⟩ := h; rfl) | (obtain ⟨_, _, _, _, _, rfl, _⟩ := h; rfl) | (obtain ⟨_, _, _, _, _, _, rfl, _⟩ := h; rfl) | (obtain ⟨_, _, _, _, _, _, _, rfl, _⟩ := h; rfl) | (obtain ⟨_, _, _, _, _, _, _, _, rfl, _⟩ := h; rfl) | (obtain ⟨_, _, _, _, _, _, _, _, _, rfl, _⟩ := h; rfl) | (obtain ⟨_, _, _, _, _, _, _, _, _, _, rfl, _⟩ := h; rfl)
  · obtain ⟨n, rfl, q⟩ := h
    refine ⟨_, (pss_one (ps_ret (pe_and (pe_callB call_isi (by rfl) T.z_isinstance (by decide +kernel) (pa_cons (pv 0) (pa_cons (pe_bltn (v := .ty "int") rfl T.z_int (by decide +kernel) rfl) pa_nil))) (pe_one (pe_not (pe_callB call_isi (by rfl) T.z_isinstance (by decide +kernel) (pa_cons (pv 0) (pa_cons (pe_bltn (v := .ty "bool") rfl T.z_bool (by decide +kernel) rfl) pa_nil)))))))), ?_⟩
    exact ⟨_, rfl, _, _, _, _, true, rfl, .ty _, .base (.int _), kit_ty (by decide +kernel), _, rfl, iteK rfl ⟨_, rfl, _, _, _, _, false, rfl, .ty _, .base (.int _), kit_ty (by decide +kernel), _, rfl, q⟩⟩

theorem ok__law_is_number (T : Tx K mg) (O__law_is_whole : OkF P w K mg base 1 (He.fAd K ("_law_is_whole", none)) ["x"] (spIsWh K)) : OkF P w K mg base 2 (He.fAd K ("_law_is_number", none)) ["x"] (spIsNu K) := by
  obtain ⟨_, G__law_is_whole, b__law_is_whole, k__law_is_whole⟩ := O__law_is_whole
  refine okF_of (d := d__law_is_number) T.d__law_is_number rfl sc__law_is_number (fun _ _ _ _ _ _ us hl => match us, hl with | [_], _ => rfl) (fun vs H Q E h => ?_) (fun cdv A outer s H vs Q E hr h => ?_)
  · first | (obtain ⟨_, rfl, _⟩ := h; rfl) | (obtain ⟨_, _, rfl, _⟩ := h; rfl) | (obtain ⟨_, _, _, rfl, _⟩ := h; rfl) | (obtain ⟨_, _, _, _, rfl, _⟩ := h; rfl) | (obtain ⟨_, _, _, _, _, rfl, _⟩ := h; rfl) | (obtain ⟨_, _, _, _, _, _, rfl, _⟩ := h; rfl) | (obtain ⟨_, _, _, _, _, _, _, rfl, _⟩ := h; rfl) | (obtain ⟨_, _, _, _, _, _, _, _, rfl, _⟩ := h; rfl) | (obtain ⟨_, _, _, _, _, _, _, _, _, rfl, _⟩ := h; rfl) | (obtain ⟨_, _, _, _, _, _, _, _, _, _, rfl, _⟩ := h; rfl)
  · obtain ⟨a, da, n, d, rfl, ha, hd, q⟩ := h
    refine ⟨_, (pss_one (ps_ret (pe_and (pe_callB call_isi (by rfl) T.z_isinstance (by decide +kernel) (pa_cons (pv 0) (pa_cons (pe_glob (v := .ref (He.ga K "Fraction")) rfl T.g_Fraction rfl) pa_nil))) (pe_and (pe_call G__law_is_whole (hr.mono (by decide)) (by rfl) T.g__law_is_whole k__law_is_whole b__law_is_whole .nil passL (pa_cons (pe_fld (pv 0) rfl) pa_nil)) (pe_and (pe_call G__law_is_whole (hr.mono (by decide)) (by rfl) T.g__law_is_whole k__law_is_whole b__law_is_whole .nil passL (pa_cons (pe_fld (pv 0) rfl) pa_nil)) (pe_one (pe_cmpR op_gt (pe_fld (pv 0) rfl) pe_int (nomark _)))))))), ?_⟩
    refine ⟨_, rfl, _, _, _, _, true, rfl, .own _, T.ty_Fraction ha, kit_same _, _, rfl, iteK rfl ?_⟩
    refine ⟨_, rfl, _, _, _, _, _, rfl, ha, T.cls_Fraction, T.n_Fraction_num, rfl, _, rfl, _, rfl, iteK rfl ?_⟩
    refine ⟨_, rfl, _, _, _, _, _, rfl, ha, T.cls_Fraction, T.n_Fraction_den, rfl, _, rfl, _, rfl, iteK rfl ?_⟩
    refine ⟨_, rfl, _, _, _, _, _, rfl, ha, T.cls_Fraction, T.n_Fraction_den, rfl, _, _, rfl, rfl, ?_⟩
    show Q (.bl (decide (0 < d))) H
    rw [decide_eq_true hd]
    exact q

theorem ok__law_is (T : Tx K mg) (O__law_is_number : OkF P w K mg base 2 (He.fAd K ("_law_is_number", none)) ["x"] (spIsNu K)) : OkF P w K mg base 3 (He.fAd K ("_law_is", none)) ["x", "pair"] (spIsPr K) := by
  obtain ⟨_, G__law_is_number, b__law_is_number, k__law_is_number⟩ := O__law_is_number
  refine okF_of (d := d__law_is) T.d__law_is rfl sc__law_is (fun _ _ _ _ _ _ us hl => match us, hl with | [_, _], _ => rfl) (fun vs H Q E h => ?_) (fun cdv A outer s H vs Q E hr h => ?_)
  · first | (obtain ⟨_, rfl, _⟩ := h; rfl) | (obtain ⟨_, _, rfl, _⟩ := h; rfl) | (obtain ⟨_, _, _, rfl, _⟩ := h; rfl) | (obtain ⟨_, _, _, _, rfl, _⟩ := h; rfl) | (obtain ⟨_, _, _, _, _, rfl, _⟩ := h; rfl) | (obtain ⟨_, _, _, _, _, _, rfl, _⟩ := h; rfl) | (obtain ⟨_, _, _, _, _, _, _, rfl, _⟩ := h; rfl) | (obtain ⟨_, _, _, _, _, _, _, _, rfl, _⟩ := h; rfl) | (obtain ⟨_, _, _, _, _, _, _, _, _, rfl, _⟩ := h; rfl) | (obtain ⟨_, _, _, _, _, _, _, _, _, _, rfl, _⟩ := h; rfl)
  · obtain ⟨a, da, b, n, d, x, k, j, rfl, ha, hd, hb, bn, bd, bx, hk, hj, e, q⟩ := h
    refine ⟨_, (pss_one (ps_ret (pe_and (pe_call G__law_is_number (hr.mono (by decide)) (by rfl) T.g__law_is_number k__law_is_number b__law_is_number .nil passL (pa_cons (pv 0) pa_nil)) (pe_one (pe_cmpR op_eq (pe_op op_mulW (pe_fld (pv 0) rfl) (pe_ix ix_tup (pv 1) pe_int (fun _ _ => rfl))) (pe_op op_mulW (pe_ix ix_tup (pv 1) pe_int (fun _ _ => rfl)) (pe_fld (pv 0) rfl)) (nomark _)))))), ?_⟩
    have sb : SqT K H b [.int x.1, .int x.2] := SqT.of hb
    refine ⟨_, rfl, _, _, _, _, rfl, ha, hd, _, rfl, iteK rfl ?_⟩
    refine ⟨_, rfl, _, _, _, _, _, rfl, ha, T.cls_Fraction, T.n_Fraction_num, rfl, _, rfl, _, _, _, _, rfl, rfl, sb, atI_nat (j := 1) rfl, _, _, rfl, rfl, mulW bn bx.b (by omega), _, rfl, _, _, _, _, rfl, rfl, sb, atI_nat (j := 0) rfl, _, rfl, _, _, _, _, _, rfl, ha, T.cls_Fraction, T.n_Fraction_den, rfl, _, _, rfl, rfl, mulW bx.a bd (by omega), rfl, ?_⟩
    rw [veq e]
    exact q

theorem ok_apply (T : Tx K mg) (O_dot : OkF P w K mg base 14 (He.fAd K ("dot", none)) ["first", "second"] (spDot K)) : OkF P w K mg base 15 (He.fAd K ("apply", none)) ["rows", "vector"] (spApply K) := by
  obtain ⟨_, G_dot, b_dot, k_dot⟩ := O_dot
  refine okF_of (d := d_apply) T.d_apply rfl sc_apply (fun _ _ _ _ _ _ us hl => match us, hl with | [_, _], _ => rfl) (fun vs H Q E h => ?_) (fun cdv A outer s H vs Q E hr h => ?_)
  · first | (obtain ⟨_, rfl, _⟩ := h; rfl) | (obtain ⟨_, _, rfl, _⟩ := h; rfl) | (obtain ⟨_, _, _, rfl, _⟩ := h; rfl) | (obtain ⟨_, _, _, _, rfl, _⟩ := h; rfl) | (obtain ⟨_, _, _, _, _, rfl, _⟩ := h; rfl) | (obtain ⟨_, _, _, _, _, _, rfl, _⟩ := h; rfl) | (obtain ⟨_, _, _, _, _, _, _, rfl, _⟩ := h; rfl) | (obtain ⟨_, _, _, _, _, _, _, _, rfl, _⟩ := h; rfl) | (obtain ⟨_, _, _, _, _, _, _, _, _, rfl, _⟩ := h; rfl) | (obtain ⟨_, _, _, _, _, _, _, _, _, _, rfl, _⟩ := h; rfl)
  · obtain ⟨a, b, us, ws, ts, ys, rfl, hA, hB, fa, fb, ho, h1, h2, q⟩ := h
    refine ⟨_, (pss_one (ps_ret (pe_lc (own := [("row", 2)]) (g := gName 2) rfl sc_apply.nd (pi_list (pv 0)) (blkOk_by (own := [("row", 2)]) (N := N_apply) (sc := defScope s_apply) (by decide +kernel)) (fun _ _ _ _ _ => (pg_name (i := 2) sc_apply.nd rfl (Or.inl rfl))) (fun _ _ _ _ _ => pts_nil) (fun _ _ _ _ _ => (pe_call G_dot (hr.mono (by decide)) (by rfl) T.g_dot k_dot b_dot .nil passL (pa_cons (pv 2) (pa_cons (pv 1) pa_nil))))))), ?_⟩
    have ul := fa.len
    refine ⟨_, rfl, _, rfl, ⟨_, hA⟩, fun D nD => lc_list (K := K) (a := a) (xs := us) (fun i H' => ∃ (zs : List V), H' D = some (.lst zs) ∧ Same H H' ∧ VF K 1000 H' zs ((ts.take i).map fun r => dotP r ys))
      ⟨[], upd_same, sm_new nD, .nil⟩ (fun i H' hi hP => ?_) (fun i y H' hi hP => ?_) (fun H2 hP => ?_)⟩
    · obtain ⟨zs, hD, sm, hv⟩ := hP
      exact sm.seq hA
    · obtain ⟨zs, hD, sm, hv⟩ := hP
      obtain ⟨r, c, vs, hx, rfl, hc, hr⟩ := (fa.mono sm).item hi
      refine ⟨rfl, yes_ok (iteK rfl ?_)⟩
      have rl := ho r (List.mem_of_getElem? hx)
      refine ⟨_, rfl, _, rfl, _, _, vs, ws, r, ys, rfl, SqL.of hc, sm.seq hB, hr, fb.mono sm, rl, by omega, fun p3 dp3 H3 n3 d3 sm3 hp3 f3 => ?_⟩
      have hD3 := sm3 _ _ hD
      refine ⟨zs, hD3, by rw [hv.len, List.length_map, List.length_take]; exact small1000 (by omega), zs ++ [.ref p3], upd_same, same_mut (sm.trans sm3) nD, ?_⟩
      rw [map_more _ hx]
      exact ((hv.mono sm3).snoc hp3 f3.2 f3.1).upd hD3
    · obtain ⟨zs, hD, sm, hv⟩ := hP
      rw [ul, List.take_length] at hv
      exact q D H2 zs sm nD hD hv

theorem ok__law_is_vector (T : Tx K mg) (O__law_is : OkF P w K mg base 3 (He.fAd K ("_law_is", none)) ["x", "pair"] (spIsPr K)) : OkF P w K mg base 4 (He.fAd K ("_law_is_vector", none)) ["xs", "pairs"] (spIsVec K) := by
  obtain ⟨_, G__law_is, b__law_is, k__law_is⟩ := O__law_is
  refine okF_of (d := d__law_is_vector) T.d__law_is_vector rfl sc__law_is_vector (fun _ _ _ _ _ _ us hl => match us, hl with | [_, _], _ => rfl) (fun vs H Q E h => ?_) (fun cdv A outer s H vs Q E hr h => ?_)
  · first | (obtain ⟨_, rfl, _⟩ := h; rfl) | (obtain ⟨_, _, rfl, _⟩ := h; rfl) | (obtain ⟨_, _, _, rfl, _⟩ := h; rfl) | (obtain ⟨_, _, _, _, rfl, _⟩ := h; rfl) | (obtain ⟨_, _, _, _, _, rfl, _⟩ := h; rfl) | (obtain ⟨_, _, _, _, _, _, rfl, _⟩ := h; rfl) | (obtain ⟨_, _, _, _, _, _, _, rfl, _⟩ := h; rfl) | (obtain ⟨_, _, _, _, _, _, _, _, rfl, _⟩ := h; rfl) | (obtain ⟨_, _, _, _, _, _, _, _, _, rfl, _⟩ := h; rfl) | (obtain ⟨_, _, _, _, _, _, _, _, _, _, rfl, _⟩ := h; rfl)
  · obtain ⟨a, b, us, ws, xs, ys, rfl, hA, hB, fa, fb, hl, h1, he, q⟩ := h
    refine ⟨_, (pss_cons (ps_if (PW.pt (pw_or (pt_not (pt_val (pe_callB call_isi (by rfl) T.z_isinstance (by decide +kernel) (pa_cons (pv 0) (pa_cons (pe_bltn (v := .ty "list") rfl T.z_list (by decide +kernel) rfl) pa_nil))))) (pw_or1 (pt_cmpR op_ne (pe_callB call_len_seq (by rfl) T.z_len PySem.boot_len (pa_cons (pv 0) pa_nil)) (pe_callB call_len_seq (by rfl) T.z_len PySem.boot_len (pa_cons (pv 1) pa_nil)) (nomark _))))) (pss_one (ps_ret pe_bl)) pss_nil)
      (pss_cons (ps_for PassesOwn.leaving rfl (pi_range1 rfl T.z_range (pa_cons (pe_callB call_len_seq (by rfl) T.z_len PySem.boot_len (pa_cons (pv 1) pa_nil)) pa_nil)) (pg_name (i := 2) sc__law_is_vector.nd rfl (Or.inl rfl)) (pss_one (ps_if (pt_not (pt_val (pe_call G__law_is (hr.mono (by decide)) (by rfl) T.g__law_is k__law_is b__law_is .nil passL (pa_cons (pe_ix ix_list (pv 0) (pv 2) (fun _ _ => rfl)) (pa_cons (pe_ix ix_list (pv 1) (pv 2) (fun _ _ => rfl)) pa_nil))))) (pss_one (ps_ret pe_bl)) pss_nil)))
      (pss_one (ps_ret pe_bl)))), ?_⟩
    have ul := fa.len
    have wl := fb.len
    refine ⟨_, rfl, _, _, _, _, true, rfl, .ty _, .base (.lst hA), kit_ty (by decide +kernel), _, rfl, iteN rfl ?_⟩
    refine ⟨_, rfl, _, _, rfl, .inl (SqL.of hA), _, rfl, _, _, rfl, .inl hB, rfl, _, rfl, iteEqN (fun ne => absurd (by omega) ne) (fun _ => ?_)⟩
    refine ⟨_, rfl, _, _, rfl, .inl hB, _, rfl, by omega, by omega, for_range (lo := 0) (n := ws.length) (fun i σ' H' => H = H' ∧ ∃ y2 : Option V, σ' = [some (.ref a), some (.ref b), y2]) ⟨rfl, none, rfl⟩ (fun i σ' H1 hi hI => ?_) (fun σ' H1 hI => ?_)⟩
    · obtain ⟨rfl, y2, rfl⟩ := hI
      have e0 : (0 : Int) + (i : Int) = (i : Int) := Int.zero_add _
      rw [e0]
      have hu : us[i]? = some us[i] := List.getElem?_eq_getElem (by omega)
      have hw : ws[i]? = some ws[i] := List.getElem?_eq_getElem (by omega)
      generalize us[i] = u at hu
      generalize ws[i] = v at hw
      obtain ⟨x, n, d, c, dc, hx, rfl, hc, l, f⟩ := fa.item hu
      obtain ⟨y, c2, hy, rfl, hc2⟩ := fb.item hw
      obtain ⟨r, bY, nz⟩ := he i x y hx hy
      have e : n * y.2 = y.1 * d := by
        have e1 : x.1 * y.2 = y.1 * x.2 := r
        have e2 := f.eq
        have e3 : (n * y.2) * x.2 = (y.1 * d) * x.2 := by grind
        exact Int.eq_of_mul_eq_mul_right nz e3
      refine ⟨_, rfl, _, rfl, _, _, _, _, rfl, rfl, SqL.of hA, atI_nat (j := i) hu, _, rfl, _, rfl, _, _, _, _, rfl, rfl, hB, atI_nat (j := i) hw, _, _, _, n, d, y, 1000, 1000, rfl, hc, l.pos, hc2, l.bn, l.bd, bY, by decide, by decide, e, _, rfl, iteN rfl ?_⟩
      exact ⟨rfl, _, rfl⟩
    · obtain ⟨rfl, y2, rfl⟩ := hI
      exact q

theorem ok_combine (T : Tx K mg) (O_dot : OkF P w K mg base 14 (He.fAd K ("dot", none)) ["first", "second"] (spDot K)) : OkF P w K mg base 15 (He.fAd K ("combine", none)) ["vector", "rows", "width"] (spComb K) := by
  obtain ⟨_, G_dot, b_dot, k_dot⟩ := O_dot
  refine okF_of (d := d_combine) T.d_combine rfl sc_combine (fun _ _ _ _ _ _ us hl => match us, hl with | [_, _, _], _ => rfl) (fun vs H Q E h => ?_) (fun cdv A outer s H vs Q E hr h => ?_)
  · first | (obtain ⟨_, rfl, _⟩ := h; rfl) | (obtain ⟨_, _, rfl, _⟩ := h; rfl) | (obtain ⟨_, _, _, rfl, _⟩ := h; rfl) | (obtain ⟨_, _, _, _, rfl, _⟩ := h; rfl) | (obtain ⟨_, _, _, _, _, rfl, _⟩ := h; rfl) | (obtain ⟨_, _, _, _, _, _, rfl, _⟩ := h; rfl) | (obtain ⟨_, _, _, _, _, _, _, rfl, _⟩ := h; rfl) | (obtain ⟨_, _, _, _, _, _, _, _, rfl, _⟩ := h; rfl) | (obtain ⟨_, _, _, _, _, _, _, _, _, rfl, _⟩ := h; rfl) | (obtain ⟨_, _, _, _, _, _, _, _, _, _, rfl, _⟩ := h; rfl)
  · obtain ⟨a, b, us, ws, xs, ts, wd, rfl, hA, hB, fa, fb, ho, hl, h1, h2, q⟩ := h
    refine ⟨_, (pss_one (ps_ret (pe_lc (own := [("j", 3)]) (g := gName 3) rfl sc_combine.nd (pi_range1 rfl T.z_range (pa_cons (pv 2) pa_nil)) (blkOk_by (own := [("j", 3)]) (N := N_combine) (sc := defScope s_combine) (by decide +kernel)) (fun _ _ _ _ _ => (pg_name (i := 3) sc_combine.nd rfl (Or.inr rfl))) (fun _ _ _ _ _ => pts_nil) (fun _ _ _ _ _ => (pe_call G_dot (hr.mono (by decide)) (by rfl) T.g_dot k_dot b_dot .nil passL (pa_cons (pv 0) (pa_cons (pe_lc (own := [("row", 4)]) (g := gName 4) rfl sc_combine.nd (show PI _ _ _ (iList K _) from pi_list (pv 1)) (blkOk_by (own := [("row", 4)]) (N := N_combine) (by rfl)) (fun _ _ _ _ _ => (pg_name (i := 4) sc_combine.nd rfl (Or.inl rfl))) (fun _ _ _ _ _ => pts_nil) (fun _ _ _ _ _ => (pe_ix (show IxR _ (rIxL K) from ix_list) (pv 4) (pv 3) (fun _ _ => rfl)))) pa_nil))))))), ?_⟩
    have ul := fa.len
    have wl := fb.len
    refine ⟨_, rfl, _, rfl, by omega, by omega, fun D nD => lc_range (lo := 0) (n := wd) (fun i H' => ∃ (zs : List V), H' D = some (.lst zs) ∧ Same H H' ∧ VF K 1000 H' zs (combP xs ts i))
      ⟨[], upd_same, sm_new nD, .nil⟩ (fun i H' hi hP => ?_) (fun H2 hP => ?_)⟩
    · obtain ⟨zs, hD, sm, hv⟩ := hP
      refine ⟨rfl, yes_ok (iteK rfl ?_)⟩
      have e0 : (0 : Int) + (i : Int) = (i : Int) := Int.zero_add _
      rw [e0]
      refine ⟨_, rfl, _, rfl, _, rfl, ⟨_, sm.seq hB⟩, fun D2 nD2 => lc_list (K := K) (a := b) (xs := ws) (fun j H2 => ∃ (cs : List V), H2 D2 = some (.lst cs) ∧ Same H' H2 ∧ VF K 4 H2 cs (colP (ts.take j) i))
        ⟨[], upd_same, sm_new nD2, .nil⟩ (fun j H2 hj hP2 => ?_) (fun j y H2 hj hP2 => ?_) (fun H2 hP2 => ?_)⟩
      · obtain ⟨cs, hD2, sm2, hc2⟩ := hP2
        exact (sm.trans sm2).seq hB
      · obtain ⟨cs, hD2, sm2, hc2⟩ := hP2
        obtain ⟨r, c, vs, hx, rfl, hc, hr⟩ := ((fb.mono sm).mono sm2).item hj
        have rl := ho r (List.mem_of_getElem? hx)
        have vl := hr.len
        have hv1 : vs[i]? = some vs[i] := List.getElem?_eq_getElem (by omega)
        generalize vs[i] = v at hv1
        obtain ⟨x, n3, d3, b3, db3, hx3, rfl, hb3, l3, f3⟩ := hr.item hv1
        have ex : r.getD i (0, 1) = x := by rw [List.getD_eq_getElem?_getD, hx3]; rfl
        refine ⟨rfl, yes_ok (iteK rfl ?_)⟩
        refine ⟨_, rfl, _, rfl, _, _, _, _, rfl, rfl, SqL.of hc, atI_nat (j := i) hv1, cs, hD2, by rw [hc2.len, colP, List.length_map, List.length_take]; exact small1000 (by omega), cs ++ [.ref b3], upd_same, same_mut sm2 nD2, ?_⟩
        rw [colP, map_more _ hx, ex]
        exact (hc2.snoc hb3 l3 f3).upd hD2
      · obtain ⟨cs, hD2, sm2, hc2⟩ := hP2
        rw [wl, List.take_length] at hc2
        have sm3 := sm.trans sm2
        refine ⟨_, _, us, cs, xs, colP ts i, rfl, sm3.seq hA, SqL.of hD2, fa.mono sm3, hc2, by rw [colP, List.length_map, hl], by omega, fun p3 dp3 H3 n3 d3 sm4 hp3 f3 => ?_⟩
        have sm5 := sm2.trans sm4
        have hD3 := sm5 _ _ hD
        refine ⟨zs, hD3, by rw [hv.len, combP, List.length_map, List.length_range]; exact small1000 (by omega), zs ++ [.ref p3], upd_same, same_mut (sm.trans sm5) nD, ?_⟩
        rw [combP, List.range_succ, List.map_append]
        exact ((hv.mono sm5).snoc hp3 f3.2 f3.1).upd hD3
    · obtain ⟨zs, hD, sm, hv⟩ := hP
      exact q D H2 zs sm nD hD hv

theorem ok_multiply (T : Tx K mg) (O_combine : OkF P w K mg base 15 (He.fAd K ("combine", none)) ["vector", "rows", "width"] (spComb K)) : OkF P w K mg base 16 (He.fAd K ("multiply", none)) ["left", "right", "width"] (spMulM K) := by
  obtain ⟨_, G_combine, b_combine, k_combine⟩ := O_combine
  refine okF_of (d := d_multiply) T.d_multiply rfl sc_multiply (fun _ _ _ _ _ _ us hl => match us, hl with | [_, _, _], _ => rfl) (fun vs H Q E h => ?_) (fun cdv A outer s H vs Q E hr h => ?_)
  · first | (obtain ⟨_, rfl, _⟩ := h; rfl) | (obtain ⟨_, _, rfl, _⟩ := h; rfl) | (obtain ⟨_, _, _, rfl, _⟩ := h; rfl) | (obtain ⟨_, _, _, _, rfl, _⟩ := h; rfl) | (obtain ⟨_, _, _, _, _, rfl, _⟩ := h; rfl) | (obtain ⟨_, _, _, _, _, _, rfl, _⟩ := h; rfl) | (obtain ⟨_, _, _, _, _, _, _, rfl, _⟩ := h; rfl) | (obtain ⟨_, _, _, _, _, _, _, _, rfl, _⟩ := h; rfl) | (obtain ⟨_, _, _, _, _, _, _, _, _, rfl, _⟩ := h; rfl) | (obtain ⟨_, _, _, _, _, _, _, _, _, _, rfl, _⟩ := h; rfl)
  · obtain ⟨a, b, us, ws, ls, ts, wd, rfl, hA, hB, fa, fb, ho, ho2, h1, h2, h3, q⟩ := h
    refine ⟨_, (pss_one (ps_ret (pe_lc (own := [("row", 3)]) (g := gName 3) rfl sc_multiply.nd (pi_list (pv 0)) (blkOk_by (own := [("row", 3)]) (N := N_multiply) (sc := defScope s_multiply) (by decide +kernel)) (fun _ _ _ _ _ => (pg_name (i := 3) sc_multiply.nd rfl (Or.inl rfl))) (fun _ _ _ _ _ => pts_nil) (fun _ _ _ _ _ => (pe_call G_combine (hr.mono (by decide)) (by rfl) T.g_combine k_combine b_combine .nil passL (pa_cons (pv 3) (pa_cons (pv 1) (pa_cons (pv 2) pa_nil)))))))), ?_⟩
    have ul := fa.len
    refine ⟨_, rfl, _, rfl, ⟨_, hA⟩, fun D nD => lc_list (K := K) (a := a) (xs := us) (fun i H' => ∃ (zs : List V), H' D = some (.lst zs) ∧ Same H H' ∧ MatN K 1000 H D H' zs ((ls.take i).map fun r => combP r ts wd))
      ⟨[], upd_same, sm_new nD, .nil⟩ (fun i H' hi hP => ?_) (fun i y H' hi hP => ?_) (fun H2 hP => ?_)⟩
    · obtain ⟨zs, hD, sm, hv⟩ := hP
      exact sm.seq hA
    · obtain ⟨zs, hD, sm, hv⟩ := hP
      obtain ⟨r, c, vs, hx, rfl, hc, hr⟩ := (fa.mono sm).item hi
      refine ⟨rfl, yes_ok (iteK rfl ?_)⟩
      have rl := ho2 r (List.mem_of_getElem? hx)
      refine ⟨_, rfl, _, rfl, _, rfl, _, _, vs, ws, r, ts, wd, rfl, SqL.of hc, sm.seq hB, hr, fb.mono sm, ho, rl, h1, h3, fun p3 H3 ys sm3 np3 hp3 f3 => ?_⟩
      have hD3 := sm3 _ _ hD
      refine ⟨zs, hD3, by rw [hv.len, List.length_map, List.length_take]; exact small1000 (by omega), zs ++ [.ref p3], upd_same, same_mut (sm.trans sm3) nD, ?_⟩
      rw [map_more _ hx]
      exact (hv.mono sm3).snoc hD3 (sm.free np3) (ne_of_none hD np3).symm hp3 f3
    · obtain ⟨zs, hD, sm, hv⟩ := hP
      rw [ul, List.take_length] at hv
      exact q D H2 zs sm nD hD hv

theorem ok__law_is_matrix (T : Tx K mg) (O__law_is_vector : OkF P w K mg base 4 (He.fAd K ("_law_is_vector", none)) ["xs", "pairs"] (spIsVec K)) : OkF P w K mg base 5 (He.fAd K ("_law_is_matrix", none)) ["xs", "rows"] (spIsMat K) := by
  obtain ⟨_, G__law_is_vector, b__law_is_vector, k__law_is_vector⟩ := O__law_is_vector
  refine okF_of (d := d__law_is_matrix) T.d__law_is_matrix rfl sc__law_is_matrix (fun _ _ _ _ _ _ us hl => match us, hl with | [_, _], _ => rfl) (fun vs H Q E h => ?_) (fun cdv A outer s H vs Q E hr h => ?_)
  · first | (obtain ⟨_, rfl, _⟩ := h; rfl) | (obtain ⟨_, _, rfl, _⟩ := h; rfl) | (obtain ⟨_, _, _, rfl, _⟩ := h; rfl) | (obtain ⟨_, _, _, _, rfl, _⟩ := h; rfl) | (obtain ⟨_, _, _, _, _, rfl, _⟩ := h; rfl) | (obtain ⟨_, _, _, _, _, _, rfl, _⟩ := h; rfl) | (obtain ⟨_, _, _, _, _, _, _, rfl, _⟩ := h; rfl) | (obtain ⟨_, _, _, _, _, _, _, _, rfl, _⟩ := h; rfl) | (obtain ⟨_, _, _, _, _, _, _, _, _, rfl, _⟩ := h; rfl) | (obtain ⟨_, _, _, _, _, _, _, _, _, _, rfl, _⟩ := h; rfl)
  · obtain ⟨a, b, us, ws, ls, ts, rfl, hA, hB, fa, fb, hl, h1, he, q⟩ := h
    refine ⟨_, (pss_cons (ps_if (PW.pt (pw_or (pt_not (pt_val (pe_callB call_isi (by rfl) T.z_isinstance (by decide +kernel) (pa_cons (pv 0) (pa_cons (pe_bltn (v := .ty "list") rfl T.z_list (by decide +kernel) rfl) pa_nil))))) (pw_or1 (pt_cmpR op_ne (pe_callB call_len_seq (by rfl) T.z_len PySem.boot_len (pa_cons (pv 0) pa_nil)) (pe_callB call_len_seq (by rfl) T.z_len PySem.boot_len (pa_cons (pv 1) pa_nil)) (nomark _))))) (pss_one (ps_ret pe_bl)) pss_nil)
      (pss_cons (ps_for PassesOwn.leaving rfl (pi_range1 rfl T.z_range (pa_cons (pe_callB call_len_seq (by rfl) T.z_len PySem.boot_len (pa_cons (pv 1) pa_nil)) pa_nil)) (pg_name (i := 2) sc__law_is_matrix.nd rfl (Or.inl rfl)) (pss_one (ps_if (pt_not (pt_val (pe_call G__law_is_vector (hr.mono (by decide)) (by rfl) T.g__law_is_vector k__law_is_vector b__law_is_vector .nil passL (pa_cons (pe_ix ix_list (pv 0) (pv 2) (fun _ _ => rfl)) (pa_cons (pe_ix ix_list (pv 1) (pv 2) (fun _ _ => rfl)) pa_nil))))) (pss_one (ps_ret pe_bl)) pss_nil)))
      (pss_one (ps_ret pe_bl)))), ?_⟩
    have ul := fa.len
    have wl := fb.len
    refine ⟨_, rfl, _, _, _, _, true, rfl, .ty _, .base (.lst hA), kit_ty (by decide +kernel), _, rfl, iteN rfl ?_⟩
    refine ⟨_, rfl, _, _, rfl, .inl (SqL.of hA), _, rfl, _, _, rfl, .inl hB, rfl, _, rfl, iteEqN (fun ne => absurd (by omega) ne) (fun _ => ?_)⟩
    refine ⟨_, rfl, _, _, rfl, .inl hB, _, rfl, by omega, by omega, for_range (lo := 0) (n := ws.length) (fun i σ' H' => H = H' ∧ ∃ y2 : Option V, σ' = [some (.ref a), some (.ref b), y2]) ⟨rfl, none, rfl⟩ (fun i σ' H1 hi hI => ?_) (fun σ' H1 hI => ?_)⟩
    · obtain ⟨rfl, y2, rfl⟩ := hI
      have e0 : (0 : Int) + (i : Int) = (i : Int) := Int.zero_add _
      rw [e0]
      have hu : us[i]? = some us[i] := List.getElem?_eq_getElem (by omega)
      have hw : ws[i]? = some ws[i] := List.getElem?_eq_getElem (by omega)
      generalize us[i] = u at hu
      generalize ws[i] = v at hw
      obtain ⟨xs, c, us2, hx, rfl, hc, hx2⟩ := fa.item hu
      obtain ⟨ys, c2, ws2, hy, rfl, hc2, hy2⟩ := fb.item hw
      obtain ⟨e1, e2, e3⟩ := he i xs ys hx hy
      refine ⟨_, rfl, _, rfl, _, _, _, _, rfl, rfl, SqL.of hA, atI_nat (j := i) hu, _, rfl, _, rfl, _, _, _, _, rfl, rfl, hB, atI_nat (j := i) hw, _, _, us2, ws2, xs, ys, rfl, hc, SqL.of hc2, hx2, hy2, e1, e2, e3, _, rfl, iteN rfl ?_⟩
      exact ⟨rfl, _, rfl⟩
    · obtain ⟨rfl, y2, rfl⟩ := hI
      exact q

theorem ok_identity (T : Tx K mg) (O_Fraction___init__ : OkD P w K mg base 1 (He.fAd K ("Fraction", some "__init__")) ["self", "num", "den"] (He.Dv.v K (.int 1)) (spInit K)) : OkF P w K mg base 3 (He.fAd K ("identity", none)) ["size"] (spIdM K) := by
  obtain ⟨_, G_Fraction___init__, b_Fraction___init__, ⟨_, v_Fraction___init__, bd_Fraction___init__⟩, k_Fraction___init__⟩ := O_Fraction___init__
  refine okF_of (d := d_identity) T.d_identity rfl sc_identity (fun _ _ _ _ _ _ us hl => match us, hl with | [_], _ => rfl) (fun vs H Q E h => ?_) (fun cdv A outer s H vs Q E hr h => ?_)
  · first | (obtain ⟨_, rfl, _⟩ := h; rfl) | (obtain ⟨_, _, rfl, _⟩ := h; rfl) | (obtain ⟨_, _, _, rfl, _⟩ := h; rfl) | (obtain ⟨_, _, _, _, rfl, _⟩ := h; rfl) | (obtain ⟨_, _, _, _, _, rfl, _⟩ := h; rfl) | (obtain ⟨_, _, _, _, _, _, rfl, _⟩ := h; rfl) | (obtain ⟨_, _, _, _, _, _, _, rfl, _⟩ := h; rfl) | (obtain ⟨_, _, _, _, _, _, _, _, rfl, _⟩ := h; rfl) | (obtain ⟨_, _, _, _, _, _, _, _, _, rfl, _⟩ := h; rfl) | (obtain ⟨_, _, _, _, _, _, _, _, _, _, rfl, _⟩ := h; rfl)
  · obtain ⟨n, rfl, h1, q⟩ := h
    refine ⟨_, (pss_one (ps_ret (pe_lc (own := [("i", 1)]) (g := gName 1) rfl sc_identity.nd (pi_range1 rfl T.z_range (pa_cons (pv 0) pa_nil)) (blkOk_by (own := [("i", 1)]) (N := N_identity) (sc := defScope s_identity) (by decide +kernel)) (fun _ _ _ _ _ => (pg_name (i := 1) sc_identity.nd rfl (Or.inr rfl))) (fun _ _ _ _ _ => pts_nil) (fun _ _ _ _ _ => (pe_lc (own := [("j", 2)]) (g := gName 2) rfl sc_identity.nd (pi_range1 rfl T.z_range (pa_cons (pv 0) pa_nil)) (blkOk_by (own := [("j", 2)]) (N := N_identity) (by rfl)) (fun _ _ _ _ _ => (pg_name (i := 2) sc_identity.nd rfl (Or.inl rfl))) (fun _ _ _ _ _ => pts_nil) (fun _ _ _ _ _ => (pe_makeI T.mk_Fraction G_Fraction___init__ (hr.mono (by decide)) (by rfl) T.g_Fraction bd_Fraction___init__ v_Fraction___init__ passL (mkFr_conv K [_]) (pa_cons (pe_ifExp (pt_cmpR op_eq (pv 1) (pv 2) (nomark _)) pe_int pe_int) pa_nil)))))))), ?_⟩
    refine ⟨_, rfl, _, rfl, by omega, by omega, fun D nD => lc_range (lo := 0) (n := n) (fun i H' => ∃ (zs : List V), H' D = some (.lst zs) ∧ Same H H' ∧ MatN K 4 H D H' zs ((List.range i).map fun i => (List.range n).map fun j => if i = j then (1, 1) else (0, 1)))
      ⟨[], upd_same, sm_new nD, .nil⟩ (fun i H' hi hP => ?_) (fun H2 hP => ?_)⟩
    · obtain ⟨zs, hD, sm, hv⟩ := hP
      refine ⟨rfl, yes_ok (iteK rfl ?_)⟩
      have e0 : (0 : Int) + (i : Int) = (i : Int) := Int.zero_add _
      rw [e0]
      refine ⟨_, rfl, _, rfl, by omega, by omega, fun D2 nD2 => lc_range (lo := 0) (n := (n : Int).toNat) (fun j H2 => ∃ (cs : List V), H2 D2 = some (.lst cs) ∧ Same H' H2 ∧ VF K 4 H2 cs ((List.range j).map fun j => if i = j then (1, 1) else (0, 1)))
        ⟨[], upd_same, sm_new nD2, .nil⟩ (fun j H2 hj hP2 => ?_) (fun H2 hP2 => ?_)⟩
      · obtain ⟨cs, hD2, sm2, hc2⟩ := hP2
        have e1 : (0 : Int) + (j : Int) = (j : Int) := Int.zero_add _
        rw [e1]
        refine ⟨rfl, yes_ok (iteK rfl ?_)⟩
        have more : ∀ (x : Int × Int), x = (if i = j then (1, 1) else (0, 1)) → x.1.natAbs < 2 ^ 4 → x.2 = 1 → mkFr K [He.Dv.v K (He.Dv.int 1)] [.int x.1] H2 fun y H4 => ∃ acc, H4 D2 = some (.lst acc) ∧ acc.length < sizeLine ∧ ∃ cs, upd H4 D2 (.lst (acc ++ [y])) D2 = some (.lst cs) ∧ Same H' (upd H4 D2 (.lst (acc ++ [y]))) ∧ VF K 4 (upd H4 D2 (.lst (acc ++ [y]))) cs ((List.range (j + 1)).map fun j => if i = j then (1, 1) else (0, 1)) := by
          intro x ex hx hd
          refine ⟨_, _, 1, rfl, by decide, by decide, by decide, fun p3 dp3 H3 n3 d3 sm3 np3 hp3 f3 => ?_⟩
          have hD3 := sm3 _ _ hD2
          refine ⟨cs, hD3, by rw [hc2.len, List.length_map, List.length_range]; exact small1000 (by omega), cs ++ [.ref p3], upd_same, same_mut (sm2.trans sm3) nD2, ?_⟩
          rw [List.range_succ, List.map_append]
          show VF K 4 _ _ (_ ++ [if i = j then (1, 1) else (0, 1)])
          rw [← ex]
          exact ((hc2.mono sm3).snoc hp3 (lw_of f3 (by decide) hx (by decide)) (by rw [hd]; exact f3)).upd hD3
        refine ⟨_, rfl, _, rfl, rfl, _, rfl, iteEq (fun e => ?_) (fun e => ?_)⟩
        · exact more (1, 1) (by rw [if_pos (by omega)]) (by decide) rfl
        · exact more (0, 1) (by rw [if_neg (by omega)]) (by decide) rfl
      · obtain ⟨cs, hD2, sm2, hc2⟩ := hP2
        have hD3 := sm2 _ _ hD
        refine ⟨zs, hD3, by rw [hv.len, List.length_map, List.length_range]; exact small1000 (by omega), zs ++ [.ref D2], upd_same, same_mut (sm.trans sm2) nD, ?_⟩
        rw [List.range_succ, List.map_append]
        exact (hv.mono sm2).snoc hD3 (sm.free nD2) (ne_of_none hD nD2).symm hD2 hc2
    · obtain ⟨zs, hD, sm, hv⟩ := hP
      exact q D H2 zs sm nD hD hv

theorem ok__law_unit (T : Tx K mg) : OkF P w K mg base 1 (He.fAd K ("_law_unit", none)) ["size"] (spLUn K) := by
  refine okF_of (d := d__law_unit) T.d__law_unit rfl sc__law_unit (fun _ _ _ _ _ _ us hl => match us, hl with | [_], _ => rfl) (fun vs H Q E h => ?_) (fun cdv A outer s H vs Q E hr h => ?_)
  · first | (obtain ⟨_, rfl, _⟩ := h; rfl) | (obtain ⟨_, _, rfl, _⟩ := h; rfl) | (obtain ⟨_, _, _, rfl, _⟩ := h; rfl) | (obtain ⟨_, _, _, _, rfl, _⟩ := h; rfl) | (obtain ⟨_, _, _, _, _, rfl, _⟩ := h; rfl) | (obtain ⟨_, _, _, _, _, _, rfl, _⟩ := h; rfl) | (obtain ⟨_, _, _, _, _, _, _, rfl, _⟩ := h; rfl) | (obtain ⟨_, _, _, _, _, _, _, _, rfl, _⟩ := h; rfl) | (obtain ⟨_, _, _, _, _, _, _, _, _, rfl, _⟩ := h; rfl) | (obtain ⟨_, _, _, _, _, _, _, _, _, _, rfl, _⟩ := h; rfl)
  · obtain ⟨n, rfl, h1, q⟩ := h
    refine ⟨_, (pss_cons (ps_set (i := 1) sc__law_unit.nd rfl (Or.inl rfl) (pe_lst pa_nil))
      (pss_cons (ps_for PassesOwn.leaving rfl (pi_range1 rfl T.z_range (pa_cons (pv 0) pa_nil)) (pg_name (i := 2) sc__law_unit.nd rfl (Or.inl rfl)) (pss_cons (ps_setLc (i := 3) (own := [("k", 4)]) (g := gName 4) rfl sc__law_unit.nd rfl rfl (sw_true rfl rfl rfl (by decide +kernel)) (pi_range1 rfl T.z_range (pa_cons (pv 0) pa_nil)) (blkOk_by (own := [("k", 4)]) (N := N__law_unit) (sc := defScope s__law_unit) (by decide +kernel)) (fun _ _ _ _ _ => (pg_name (i := 4) sc__law_unit.nd rfl (Or.inl rfl))) (fun _ _ _ _ _ => pts_nil) (fun _ _ _ _ _ => (pe_tup (pa_cons pe_int (pa_cons pe_int pa_nil)))))
      (pss_cons (ps_asg (pe_tup (pa_cons pe_int (pa_cons pe_int pa_nil))) (pg_sub (pv 3) (pv 2) set_list))
      (pss_one (ps_expr (pe_bm PySem.F.plainAttrs_list PySem.F.slot_list_append PySem.F.type_list_append mt_append (pv 1) (pa_cons (pv 3) pa_nil)))))))
      (pss_one (ps_ret (pv 1))))), ?_⟩
    refine ⟨by show 0 ≤ sizeLine; decide, fun pr npr => ?_⟩
    refine ⟨_, rfl, _, rfl, by omega, by omega, for_range (lo := 0) (n := n) (fun i σ' H' => ∃ (zs : List V) (y2 y3 y4 : Option V), σ' = [some (.int (n : Int)), some (.ref pr), y2, y3, y4] ∧ Same H H' ∧ H' pr = some (.lst zs) ∧ MatP H' zs ((List.range i).map fun i => (List.range n).map fun j => if i = j then (1, 1) else (0, 1)) ∧ ∀ (j : Nat) (b : Addr), zs[j]? = some (V.ref b) → b ≠ pr)
      ⟨[], none, none, none, rfl, sm_new npr, upd_same, .nil, fun j b h => by simp at h⟩ (fun i σ' H1 hi hI => ?_) (fun σ' H1 hI => ?_)⟩
    · obtain ⟨zs, y2, y3, y4, rfl, sm, hp, hm, ne⟩ := hI
      have e0 : (0 : Int) + (i : Int) = (i : Int) := Int.zero_add _
      rw [e0]
      refine ⟨_, rfl, _, rfl, by omega, by omega, fun D nD => lc_range (lo := 0) (n := n) (fun k H' => ∃ cs : List V, H' D = some (.lst cs) ∧ Same H1 H' ∧ PrL H' cs ((List.range k).map fun _ => (0, 1)))
        ⟨[], upd_same, sm_new nD, .nil⟩ (fun k H' hk hP => ?_) (fun H2 hP => ?_)⟩
      · obtain ⟨cs, hD, sm2, hv⟩ := hP
        refine ⟨rfl, yes_ok (iteK rfl ?_)⟩
        refine ⟨by show 2 ≤ sizeLine; decide, fun p np => ?_⟩
        have s1 := sm_new (o := prO (0, 1)) np
        have hD1 := s1 _ _ hD
        refine ⟨cs, hD1, by rw [hv.len, List.length_map, List.length_range]; exact small1000 (by omega), cs ++ [.ref p], upd_same, same_mut (sm2.trans s1) nD, ?_⟩
        rw [List.range_succ, List.map_append]
        exact ((hv.mono s1).snoc upd_same).upd hD1
      · obtain ⟨cs, hD, sm2, hv⟩ := hP
        have npD : pr ≠ D := ne_of_none hp nD
        have cl := hv.len
        rw [List.length_map, List.length_range] at cl
        refine ⟨by show 2 ≤ sizeLine; decide, fun p np => ?_⟩
        have s1 := sm_new (o := prO (1, 1)) np
        have hD1 := s1 _ _ hD
        have hv1 := ((hv.mono s1).set i (p := (1, 1)) upd_same).upd (o := .lst (cs.set i (.ref p))) hD1
        rw [unit_row n i hi] at hv1
        refine ⟨_, rfl, _, rfl, D, cs, _, i, rfl, rfl, hD1, ixN_at rfl (by omega), ?_⟩
        have sm3 : Same H1 (upd (upd H2 p (prO (1, 1))) D (.lst (cs.set i (.ref p)))) := same_mut (sm2.trans s1) nD
        have hD3 : (upd (upd H2 p (prO (1, 1))) D (.lst (cs.set i (.ref p)))) D = some (.lst (cs.set i (.ref p))) := upd_same
        generalize upd (upd H2 p (prO (1, 1))) D (.lst (cs.set i (.ref p))) = H3 at sm3 hD3 hv1 ⊢
        have hp3 := sm3 _ _ hp
        have zl := hm.len
        rw [List.length_map, List.length_range] at zl
        refine ⟨_, rfl, .inl ⟨rfl, _, SqL.of hp3⟩, _, rfl, _, _, _, rfl, rfl, hp3, small1000 (by omega), ?_⟩
        refine ⟨zs ++ [.ref D], _, _, _, rfl, same_mut (sm.trans sm3) npr, upd_same, ?_, fun j b hj => ?_⟩
        · rw [List.range_succ, List.map_append]
          exact (hm.mono sm3).snoc ne hp3 npD.symm hD3 hv1
        · by_cases c : j < zs.length
          · rw [List.getElem?_append_left c] at hj
            exact ne j b hj
          · rw [List.getElem?_append_right (by omega)] at hj
            have c0 : j - zs.length = 0 := by
              refine Decidable.byContradiction fun z => ?_
              rw [List.getElem?_eq_none (by simp; omega)] at hj
              cases hj
            rw [c0] at hj
            cases hj
            exact npD.symm
    · obtain ⟨zs, y2, y3, y4, rfl, sm, hp, hm, ne⟩ := hI
      exact ⟨_, rfl, q pr H1 zs sm hp hm⟩

theorem ok__law_spoil (T : Tx K mg) (O_Fraction___init__ : OkD P w K mg base 1 (He.fAd K ("Fraction", some "__init__")) ["self", "num", "den"] (He.Dv.v K (.int 1)) (spInit K)) : OkF P w K mg base 3 (He.fAd K ("_law_spoil", none)) ["rows"] (spSpoil K) := by
  obtain ⟨_, G_Fraction___init__, b_Fraction___init__, ⟨_, v_Fraction___init__, bd_Fraction___init__⟩, k_Fraction___init__⟩ := O_Fraction___init__
  refine okF_of (d := d__law_spoil) T.d__law_spoil rfl sc__law_spoil (fun _ _ _ _ _ _ us hl => match us, hl with | [_], _ => rfl) (fun vs H Q E h => ?_) (fun cdv A outer s H vs Q E hr h => ?_)
  · first | (obtain ⟨_, rfl, _⟩ := h; rfl) | (obtain ⟨_, _, rfl, _⟩ := h; rfl) | (obtain ⟨_, _, _, rfl, _⟩ := h; rfl) | (obtain ⟨_, _, _, _, rfl, _⟩ := h; rfl) | (obtain ⟨_, _, _, _, _, rfl, _⟩ := h; rfl) | (obtain ⟨_, _, _, _, _, _, rfl, _⟩ := h; rfl) | (obtain ⟨_, _, _, _, _, _, _, rfl, _⟩ := h; rfl) | (obtain ⟨_, _, _, _, _, _, _, _, rfl, _⟩ := h; rfl) | (obtain ⟨_, _, _, _, _, _, _, _, _, rfl, _⟩ := h; rfl) | (obtain ⟨_, _, _, _, _, _, _, _, _, _, rfl, _⟩ := h; rfl)
  · obtain ⟨a, us, H0, rfl, nA, hl, hR, q⟩ := h
    refine ⟨_, (pss_cons (ps_for PassesOwn.leaving rfl (pi_list (pv 0)) (pg_name (i := 1) sc__law_spoil.nd rfl (Or.inl rfl)) (pss_cons (ps_for PassesOwn.leaving rfl (pi_range1 rfl T.z_range (pa_cons (pe_callB call_len_seq (by rfl) T.z_len PySem.boot_len (pa_cons (pv 1) pa_nil)) pa_nil)) (pg_name (i := 2) sc__law_spoil.nd rfl (Or.inl rfl)) (pss_one (ps_asg (pe_makeI T.mk_Fraction G_Fraction___init__ (hr.mono (by decide)) (by rfl) T.g_Fraction b_Fraction___init__ .nil passL (mkFr_conv K []) (pa_cons pe_int (pa_cons pe_int pa_nil))) (pg_sub (pv 1) (pv 2) set_list))))
      (pss_one (ps_expr (pe_bm PySem.F.plainAttrs_list PySem.F.slot_list_append PySem.F.type_list_append mt_append (pv 1) (pa_cons (pe_makeI T.mk_Fraction G_Fraction___init__ (hr.mono (by decide)) (by rfl) T.g_Fraction bd_Fraction___init__ v_Fraction___init__ passL (mkFr_conv K [_]) (pa_cons pe_int pa_nil)) pa_nil))))))
      (pss_one (ps_expr (pe_bm PySem.F.plainAttrs_list PySem.F.slot_list_append PySem.F.type_list_append mt_append (pv 0) (pa_cons (pe_lst pa_nil) pa_nil))))), ?_⟩
    refine ⟨_, rfl, _, rfl, ⟨_, SqL.of hR.hA⟩, for_list (K := K) (a := a) (xs := us) (fun i σ' H' => ∃ (y1 y2 : Option V), σ' = [some (.ref a), y1, y2] ∧ Rows H0 a us (100 + i) H') ⟨none, none, rfl, hR⟩ (fun i σ' H' hi hI => ?_) (fun i x σ' H' hi hI => ?_) (fun σ' H' hI => ?_)⟩
    · obtain ⟨y1, y2, rfl, r⟩ := hI
      exact SqL.of r.hA
    · obtain ⟨y1, y2, rfl, r⟩ := hI
      obtain ⟨b, zs, rfl, nb, n0, hb, zl⟩ := r.at_ i x hi
      have il : i < us.length := (List.getElem?_eq_some_iff.mp hi).1
      refine ⟨_, rfl, _, _, rfl, .inl (SqL.of hb), _, rfl, by omega, by omega, for_range (lo := 0) (n := zs.length) (fun j σ' H' => ∃ (y2 : Option V) (ws : List V), σ' = [some (.ref a), some (.ref b), y2] ∧ Rows H0 a us (100 + i) H' ∧ H' b = some (.lst ws) ∧ ws.length = zs.length) ⟨_, zs, rfl, r, hb, rfl⟩ (fun j σ' H2 hj hJ => ?_) (fun σ' H2 hJ => ?_)⟩
      · obtain ⟨y2, ws, rfl, r2, hb2, wl⟩ := hJ
        have e0 : (0 : Int) + (j : Int) = (j : Int) := Int.zero_add _
        rw [e0]
        refine ⟨_, _, 3, rfl, by decide, by decide, by decide, fun p dp H3 n d sm3 np hp f => ?_⟩
        have r3 := r2.mono sm3
        have hb3 := sm3 _ _ hb2
        refine ⟨_, rfl, _, rfl, b, ws, _, j, rfl, rfl, hb3, ixN_at rfl (by omega), ?_⟩
        exact ⟨_, ws.set j (.ref p), rfl, r3.put nb n0 (by rw [List.length_set]; omega) (Nat.le_refl _), upd_same, by rw [List.length_set, wl]⟩
      · obtain ⟨y2, ws, rfl, r2, hb2, wl⟩ := hJ
        refine ⟨_, rfl, .inl ⟨rfl, _, SqL.of hb2⟩, _, _, 2, rfl, by decide, by decide, by decide, fun p dp H3 n d sm3 np hp f => ?_⟩
        have hb3 := sm3 _ _ hb2
        refine ⟨_, _, _, rfl, rfl, hb3, small1000 (by omega), ?_⟩
        exact ⟨_, _, rfl, (r2.mono sm3).put nb n0 (by rw [List.length_append, wl]; show zs.length + 1 ≤ _; omega) (by omega)⟩
    · obtain ⟨y1, y2, rfl, r⟩ := hI
      refine ⟨_, rfl, .inl ⟨rfl, _, SqL.of r.hA⟩, by show 0 ≤ sizeLine; decide, fun l nl => ?_⟩
      have sl := sm_new (o := .lst []) nl
      refine ⟨_, _, _, rfl, rfl, sl _ _ r.hA, small1000 (by omega), ?_⟩
      exact q _ (same_mut (r.sm.trans sl) nA)

end
section
variable {P : Program} {w : World} {K : PySem.W.Frag} {mg : Str → Option Value}
theorem ok_law (T : Tx K mg) (O__law_cell : ∀ base, OkF P w K mg base 1 (He.fAd K ("_law_cell", none)) ["script", "k"] (spCell K)) (O__law_digits : ∀ base, OkF P w K mg base 1 (He.fAd K ("_law_digits", none)) ["cell", "limit", "count"] (spDig K)) (O__law_size : ∀ base, OkF P w K mg base 1 (He.fAd K ("_law_size", none)) ["d"] (spSize K)) (O__law_pairs : ∀ base, OkF P w K mg base 2 (He.fAd K ("_law_pairs", none)) ["cell", "count", "style"] (spPairs K)) (O__law_matrix : ∀ base, OkF P w K mg base 4 (He.fAd K ("_law_matrix", none)) ["rows"] (spLMat K)) (O__law_combine : ∀ base, OkF P w K mg base 2 (He.fAd K ("_law_combine", none)) ["factors", "rows", "width"] (spLComb K)) (O_dot : ∀ base, OkF P w K mg base 14 (He.fAd K ("dot", none)) ["first", "second"] (spDot K)) (O__law_dot : ∀ base, OkF P w K mg base 2 (He.fAd K ("_law_dot", none)) ["xs", "ys"] (spLDot K)) (O__law_is : ∀ base, OkF P w K mg base 3 (He.fAd K ("_law_is", none)) ["x", "pair"] (spIsPr K)) (O_apply : ∀ base, OkF P w K mg base 15 (He.fAd K ("apply", none)) ["rows", "vector"] (spApply K)) (O__law_is_vector : ∀ base, OkF P w K mg base 4 (He.fAd K ("_law_is_vector", none)) ["xs", "pairs"] (spIsVec K)) (O_combine : ∀ base, OkF P w K mg base 15 (He.fAd K ("combine", none)) ["vector", "rows", "width"] (spComb K)) (O_multiply : ∀ base, OkF P w K mg base 16 (He.fAd K ("multiply", none)) ["left", "right", "width"] (spMulM K)) (O__law_is_matrix : ∀ base, OkF P w K mg base 5 (He.fAd K ("_law_is_matrix", none)) ["xs", "rows"] (spIsMat K)) (O_identity : ∀ base, OkF P w K mg base 3 (He.fAd K ("identity", none)) ["size"] (spIdM K)) (O__law_unit : ∀ base, OkF P w K mg base 1 (He.fAd K ("_law_unit", none)) ["size"] (spLUn K)) (O__law_spoil : ∀ base, OkF P w K mg base 3 (He.fAd K ("_law_spoil", none)) ["rows"] (spSpoil K)) : ∃ fd : FuncData, (∀ (s : Shared) (v : Value), BindsTo s fd ⟨[v], []⟩ [("script", v)]) ∧ ∀ base : Heap, FnOk P w K mg base CX0 17 (He.fAd K ("law", none)) fd ["script"] (spLaw K) := by
  refine okLaw_of (d := d_law) T.d_law rfl sc_law (fun _ _ _ _ _ _ us hl => match us, hl with | [_], _ => rfl) (fun vs H Q E h => by obtain ⟨_, _, rfl, _⟩ := h; rfl) (fun base cdv A outer s H vs Q E hr h => ?_)
  · obtain ⟨_, G__law_cell, b__law_cell, k__law_cell⟩ := O__law_cell base
    obtain ⟨_, G__law_digits, b__law_digits, k__law_digits⟩ := O__law_digits base
    obtain ⟨_, G__law_size, b__law_size, k__law_size⟩ := O__law_size base
    obtain ⟨_, G__law_pairs, b__law_pairs, k__law_pairs⟩ := O__law_pairs base
    obtain ⟨_, G__law_matrix, b__law_matrix, k__law_matrix⟩ := O__law_matrix base
    obtain ⟨_, G__law_combine, b__law_combine, k__law_combine⟩ := O__law_combine base
    obtain ⟨_, G_dot, b_dot, k_dot⟩ := O_dot base
    obtain ⟨_, G__law_dot, b__law_dot, k__law_dot⟩ := O__law_dot base
    obtain ⟨_, G__law_is, b__law_is, k__law_is⟩ := O__law_is base
    obtain ⟨_, G_apply, b_apply, k_apply⟩ := O_apply base
    obtain ⟨_, G__law_is_vector, b__law_is_vector, k__law_is_vector⟩ := O__law_is_vector base
    obtain ⟨_, G_combine, b_combine, k_combine⟩ := O_combine base
    obtain ⟨_, G_multiply, b_multiply, k_multiply⟩ := O_multiply base
    obtain ⟨_, G__law_is_matrix, b__law_is_matrix, k__law_is_matrix⟩ := O__law_is_matrix base
    obtain ⟨_, G_identity, b_identity, k_identity⟩ := O_identity base
    obtain ⟨_, G__law_unit, b__law_unit, k__law_unit⟩ := O__law_unit base
    obtain ⟨_, G__law_spoil, b__law_spoil, k__law_spoil⟩ := O__law_spoil base
    obtain ⟨aS, ns, rfl, hS, hl, q⟩ := h
    refine ⟨_, (pss_cons (ps_setLc (i := 1) (own := [("d", 18)]) (g := gName 18) rfl sc_law.nd rfl rfl (sw_true rfl rfl rfl (by decide +kernel)) (pi_list (pe_call G__law_digits (hr.mono (by decide)) (by rfl) T.g__law_digits k__law_digits b__law_digits .nil passL (pa_cons (pe_call G__law_cell (hr.mono (by decide)) (by rfl) T.g__law_cell k__law_cell b__law_cell .nil passL (pa_cons (pv 0) (pa_cons pe_int pa_nil))) (pa_cons pe_int (pa_cons pe_int pa_nil))))) (blkOk_by (own := [("d", 18)]) (N := N_law) (sc := defScope s_law) (by decide +kernel)) (fun _ _ _ _ _ => (pg_name (i := 18) sc_law.nd rfl (Or.inl rfl))) (fun _ _ _ _ _ => pts_nil) (fun _ _ _ _ _ => (pe_call G__law_size (hr.mono (by decide)) (by rfl) T.g__law_size k__law_size b__law_size .nil passL (pa_cons (pv 18) pa_nil))))
      (pss_cons (ps_setI (i := 2) sc_law.nd rfl (Or.inl rfl) (pe_ix ix_list (pv 1) pe_int (fun _ _ => rfl)))
      (pss_cons (ps_setI (i := 3) sc_law.nd rfl (Or.inr rfl) (pe_ix ix_list (pv 1) pe_int (fun _ _ => rfl)))
      (pss_cons (ps_setI (i := 4) sc_law.nd rfl (Or.inr rfl) (pe_ix ix_list (pv 1) pe_int (fun _ _ => rfl)))
      (pss_cons (ps_setI (i := 5) sc_law.nd rfl (Or.inr rfl) (pe_ix ix_list (pe_call G__law_digits (hr.mono (by decide)) (by rfl) T.g__law_digits k__law_digits b__law_digits .nil passL (pa_cons (pe_call G__law_cell (hr.mono (by decide)) (by rfl) T.g__law_cell k__law_cell b__law_cell .nil passL (pa_cons (pv 0) (pa_cons pe_int pa_nil))) (pa_cons pe_int (pa_cons pe_int pa_nil)))) pe_int (fun _ _ => rfl)))
      (pss_cons (ps_setLc (i := 6) (own := [("k", 19)]) (g := gName 19) rfl sc_law.nd rfl rfl (sw_true rfl rfl rfl (by decide +kernel)) (pi_range1 rfl T.z_range (pa_cons (pv 2) pa_nil)) (blkOk_by (own := [("k", 19)]) (N := N_law) (sc := defScope s_law) (by decide +kernel)) (fun _ _ _ _ _ => (pg_name (i := 19) sc_law.nd rfl (Or.inl rfl))) (fun _ _ _ _ _ => pts_nil) (fun _ _ _ _ _ => (pe_call G__law_pairs (hr.mono (by decide)) (by rfl) T.g__law_pairs k__law_pairs b__law_pairs .nil passL (pa_cons (pe_call G__law_cell (hr.mono (by decide)) (by rfl) T.g__law_cell k__law_cell b__law_cell .nil passL (pa_cons (pv 0) (pa_cons (pe_op op_add pe_int (pv 19)) pa_nil))) (pa_cons (pv 3) (pa_cons (pv 5) pa_nil))))))
      (pss_cons (ps_set (i := 7) sc_law.nd rfl (Or.inr rfl) (pe_lc (own := [("k", 19)]) (g := gName 19) rfl sc_law.nd (pi_range1 rfl T.z_range (pa_cons (pv 3) pa_nil)) (blkOk_by (own := [("k", 19)]) (N := N_law) (sc := defScope s_law) (by decide +kernel)) (fun _ _ _ _ _ => (pg_name (i := 19) sc_law.nd rfl (Or.inl rfl))) (fun _ _ _ _ _ => pts_nil) (fun _ _ _ _ _ => (pe_call G__law_pairs (hr.mono (by decide)) (by rfl) T.g__law_pairs k__law_pairs b__law_pairs .nil passL (pa_cons (pe_call G__law_cell (hr.mono (by decide)) (by rfl) T.g__law_cell k__law_cell b__law_cell .nil passL (pa_cons (pv 0) (pa_cons (pe_op op_add pe_int (pv 19)) pa_nil))) (pa_cons (pv 4) (pa_cons (pv 5) pa_nil)))))))
      (pss_cons (ps_set (i := 8) sc_law.nd rfl (Or.inr rfl) (pe_call G__law_pairs (hr.mono (by decide)) (by rfl) T.g__law_pairs k__law_pairs b__law_pairs .nil passL (pa_cons (pe_call G__law_cell (hr.mono (by decide)) (by rfl) T.g__law_cell k__law_cell b__law_cell .nil passL (pa_cons (pv 0) (pa_cons pe_int pa_nil))) (pa_cons (pv 3) (pa_cons pe_int pa_nil)))))
      (pss_cons (ps_set (i := 9) sc_law.nd rfl (Or.inl rfl) (pe_call G__law_pairs (hr.mono (by decide)) (by rfl) T.g__law_pairs k__law_pairs b__law_pairs .nil passL (pa_cons (pe_call G__law_cell (hr.mono (by decide)) (by rfl) T.g__law_cell k__law_cell b__law_cell .nil passL (pa_cons (pv 0) (pa_cons pe_int pa_nil))) (pa_cons (pv 2) (pa_cons pe_int pa_nil)))))
      (pss_cons (ps_set (i := 10) sc_law.nd rfl (Or.inl rfl) (pe_call G__law_pairs (hr.mono (by decide)) (by rfl) T.g__law_pairs k__law_pairs b__law_pairs .nil passL (pa_cons (pe_call G__law_cell (hr.mono (by decide)) (by rfl) T.g__law_cell k__law_cell b__law_cell .nil passL (pa_cons (pv 0) (pa_cons pe_int pa_nil))) (pa_cons (pv 3) (pa_cons pe_int pa_nil)))))
      (pss_cons (ps_set (i := 11) sc_law.nd rfl (Or.inl rfl) (pe_lst (pa_cons (pe_call G__law_matrix (hr.mono (by decide)) (by rfl) T.g__law_matrix k__law_matrix b__law_matrix .nil passL (pa_cons (pv 6) pa_nil)) (pa_cons (pe_call G__law_matrix (hr.mono (by decide)) (by rfl) T.g__law_matrix k__law_matrix b__law_matrix .nil passL (pa_cons (pv 7) pa_nil)) (pa_cons (pe_call G__law_matrix (hr.mono (by decide)) (by rfl) T.g__law_matrix k__law_matrix b__law_matrix .nil passL (pa_cons (pe_lst (pa_cons (pv 8) (pa_cons (pv 9) (pa_cons (pv 10) pa_nil)))) pa_nil)) pa_nil)))))
      (pss_cons (ps_setLc (i := 12) (own := [("row", 20)]) (g := gName 20) rfl sc_law.nd rfl rfl (sw_true rfl rfl rfl (by decide +kernel)) (pi_list (pv 6)) (blkOk_by (own := [("row", 20)]) (N := N_law) (sc := defScope s_law) (by decide +kernel)) (fun _ _ _ _ _ => (pg_name (i := 20) sc_law.nd rfl (Or.inl rfl))) (fun _ _ _ _ _ => pts_nil) (fun _ _ _ _ _ => (pe_call G__law_combine (hr.mono (by decide)) (by rfl) T.g__law_combine k__law_combine b__law_combine .nil passL (pa_cons (pv 20) (pa_cons (pv 7) (pa_cons (pv 4) pa_nil))))))
      (pss_cons (ps_for PassesOwn.leaving rfl (pi_range1 rfl T.z_range (pa_cons pe_int pa_nil)) (pg_name (i := 13) sc_law.nd rfl (Or.inl rfl)) (pss_cons (ps_if (pt_not (pt_val (pe_call G__law_is (hr.mono (by decide)) (by rfl) T.g__law_is k__law_is b__law_is .nil passL (pa_cons (pe_call G_dot (hr.mono (by decide)) (by rfl) T.g_dot k_dot b_dot .nil passL (pa_cons (pe_ix ix_list (pe_ix ix_list (pv 11) pe_int (fun _ _ => rfl)) pe_int (fun _ _ => rfl)) (pa_cons (pe_ix ix_list (pe_ix ix_list (pv 11) pe_int (fun _ _ => rfl)) pe_int (fun _ _ => rfl)) pa_nil))) (pa_cons (pe_call G__law_dot (hr.mono (by decide)) (by rfl) T.g__law_dot k__law_dot b__law_dot .nil passL (pa_cons (pv 8) (pa_cons (pv 10) pa_nil))) pa_nil))))) (pss_one (ps_ret pe_bl)) pss_nil)
      (pss_cons (ps_set (i := 14) sc_law.nd rfl (Or.inl rfl) (pe_call G_apply (hr.mono (by decide)) (by rfl) T.g_apply k_apply b_apply .nil passL (pa_cons (pe_ix ix_list (pv 11) pe_int (fun _ _ => rfl)) (pa_cons (pe_ix ix_list (pe_ix ix_list (pv 11) pe_int (fun _ _ => rfl)) pe_int (fun _ _ => rfl)) pa_nil))))
      (pss_cons (ps_if (pt_not (pt_val (pe_call G__law_is_vector (hr.mono (by decide)) (by rfl) T.g__law_is_vector k__law_is_vector b__law_is_vector .nil passL (pa_cons (pv 14) (pa_cons (pe_lc (own := [("row", 20)]) (g := gName 20) rfl sc_law.nd (pi_list (pv 6)) (blkOk_by (own := [("row", 20)]) (N := N_law) (sc := defScope s_law) (by decide +kernel)) (fun _ _ _ _ _ => (pg_name (i := 20) sc_law.nd rfl (Or.inl rfl))) (fun _ _ _ _ _ => pts_nil) (fun _ _ _ _ _ => (pe_call G__law_dot (hr.mono (by decide)) (by rfl) T.g__law_dot k__law_dot b__law_dot .nil passL (pa_cons (pv 20) (pa_cons (pv 8) pa_nil))))) pa_nil))))) (pss_one (ps_ret pe_bl)) pss_nil)
      (pss_cons (ps_set (i := 15) sc_law.nd rfl (Or.inl rfl) (pe_call G_combine (hr.mono (by decide)) (by rfl) T.g_combine k_combine b_combine .nil passL (pa_cons (pe_ix ix_list (pe_ix ix_list (pv 11) pe_int (fun _ _ => rfl)) pe_int (fun _ _ => rfl)) (pa_cons (pe_ix ix_list (pv 11) pe_int (fun _ _ => rfl)) (pa_cons (pv 3) pa_nil)))))
      (pss_cons (ps_if (pt_not (pt_val (pe_call G__law_is_vector (hr.mono (by decide)) (by rfl) T.g__law_is_vector k__law_is_vector b__law_is_vector .nil passL (pa_cons (pv 15) (pa_cons (pe_call G__law_combine (hr.mono (by decide)) (by rfl) T.g__law_combine k__law_combine b__law_combine .nil passL (pa_cons (pv 9) (pa_cons (pv 6) (pa_cons (pv 3) pa_nil)))) pa_nil))))) (pss_one (ps_ret pe_bl)) pss_nil)
      (pss_cons (ps_set (i := 16) sc_law.nd rfl (Or.inl rfl) (pe_call G_multiply (hr.mono (by decide)) (by rfl) T.g_multiply k_multiply b_multiply .nil passL (pa_cons (pe_ix ix_list (pv 11) pe_int (fun _ _ => rfl)) (pa_cons (pe_ix ix_list (pv 11) pe_int (fun _ _ => rfl)) (pa_cons (pv 4) pa_nil)))))
      (pss_cons (ps_if (pt_not (pt_val (pe_call G__law_is_matrix (hr.mono (by decide)) (by rfl) T.g__law_is_matrix k__law_is_matrix b__law_is_matrix .nil passL (pa_cons (pv 16) (pa_cons (pv 12) pa_nil))))) (pss_one (ps_ret pe_bl)) pss_nil)
      (pss_cons (ps_set (i := 17) sc_law.nd rfl (Or.inl rfl) (pe_call G_identity (hr.mono (by decide)) (by rfl) T.g_identity k_identity b_identity .nil passL (pa_cons (pv 2) pa_nil)))
      (pss_cons (ps_if (pt_not (pt_val (pe_call G__law_is_matrix (hr.mono (by decide)) (by rfl) T.g__law_is_matrix k__law_is_matrix b__law_is_matrix .nil passL (pa_cons (pv 17) (pa_cons (pe_call G__law_unit (hr.mono (by decide)) (by rfl) T.g__law_unit k__law_unit b__law_unit .nil passL (pa_cons (pv 2) pa_nil)) pa_nil))))) (pss_one (ps_ret pe_bl)) pss_nil)
      (pss_cons (ps_expr (pe_call G__law_spoil (hr.mono (by decide)) (by rfl) T.g__law_spoil k__law_spoil b__law_spoil .nil passL (pa_cons (pe_lst (pa_cons (pv 14) (pa_cons (pv 15) pa_nil))) pa_nil)))
      (pss_cons (ps_expr (pe_call G__law_spoil (hr.mono (by decide)) (by rfl) T.g__law_spoil k__law_spoil b__law_spoil .nil passL (pa_cons (pv 16) pa_nil)))
      (pss_one (ps_expr (pe_call G__law_spoil (hr.mono (by decide)) (by rfl) T.g__law_spoil k__law_spoil b__law_spoil .nil passL (pa_cons (pv 17) pa_nil))))))))))))))))
      (pss_cons (ps_if (PW.pt (pw_or (pt_not (pt_val (pe_call G__law_is_matrix (hr.mono (by decide)) (by rfl) T.g__law_is_matrix k__law_is_matrix b__law_is_matrix .nil passL (pa_cons (pe_ix ix_list (pv 11) pe_int (fun _ _ => rfl)) (pa_cons (pv 6) pa_nil))))) (pw_or1 (pt_not (pt_val (pe_call G__law_is_matrix (hr.mono (by decide)) (by rfl) T.g__law_is_matrix k__law_is_matrix b__law_is_matrix .nil passL (pa_cons (pe_ix ix_list (pv 11) pe_int (fun _ _ => rfl)) (pa_cons (pv 7) pa_nil)))))))) (pss_one (ps_ret pe_bl)) pss_nil)
      (pss_one (ps_ret (pe_call G__law_is_matrix (hr.mono (by decide)) (by rfl) T.g__law_is_matrix k__law_is_matrix b__law_is_matrix .nil passL (pa_cons (pe_ix ix_list (pv 11) pe_int (fun _ _ => rfl)) (pa_cons (pe_lst (pa_cons (pv 8) (pa_cons (pv 9) (pa_cons (pv 10) pa_nil)))) pa_nil))))))))))))))))))), ?_⟩
    refine ⟨_, rfl, _, _, _, rfl, hS, by decide, fun cell0 => ?_⟩
    refine ⟨_, _, _, rfl, by decide, by decide, by decide, by decide, fun p0 H1 ms0 sm1 np0 hp0 ml0 mb0 => ?_⟩
    refine ⟨_, rfl, ⟨_, SqL.of hp0⟩, fun D1 nD1 => lc_list (K := K) (a := p0) (xs := ms0.map V.int) (fun i H' => ∃ zs : List Int, H' D1 = some (.lst (zs.map V.int)) ∧ Same H1 H' ∧ zs.length = i ∧ ∀ z ∈ zs, 0 ≤ z ∧ z ≤ 11)
      ⟨[], upd_same, sm_new nD1, rfl, fun z h => absurd h (by simp)⟩ (fun i H' hi hP => ?_) (fun i y H' hi hP => ?_) (fun H2 hP => ?_)⟩
    · obtain ⟨zs, hD, sm, hl1, hb⟩ := hP
      exact sm.seq (SqL.of hp0)
    · obtain ⟨zs, hD, sm, hl1, hb⟩ := hP
      obtain ⟨d, hd, rfl⟩ := get_map_int hi
      refine ⟨rfl, yes_ok (iteK rfl ?_)⟩
      have li : i < ms0.length := (List.getElem?_eq_some_iff.mp hd).1
      refine ⟨_, rfl, _, rfl, fun c c0 c1 => ?_⟩
      have l3 : ms0.length = 3 := ml0
      refine ⟨_, hD, by rw [len_map]; exact small1000 (by omega), zs ++ [c], by rw [upd_same, List.map_append]; rfl, same_mut sm nD1, by rw [List.length_append, hl1]; rfl, fun z hz => ?_⟩
      rcases List.mem_append.mp hz with hz | hz
      · exact hb z hz
      · rw [List.mem_singleton.mp hz]; exact ⟨c0, c1⟩
    obtain ⟨zs, hD1, sm2, zl, zb⟩ := hP
    obtain ⟨hh, ww, aa, rfl⟩ := three (zl.trans (len_map.trans ml0))
    obtain ⟨hh0, hh1⟩ := zb hh (by simp)
    obtain ⟨ww0, ww1⟩ := zb ww (by simp)
    obtain ⟨aa0, aa1⟩ := zb aa (by simp)
    have s2 := sm1.trans sm2
    have sz : SqL K H2 D1 [.int hh, .int ww, .int aa] := SqL.of hD1
    refine ⟨_, rfl, _, _, _, _, rfl, rfl, sz, atI_nat (j := 0) rfl, _, rfl, fun h' eh => ?_⟩
    refine ⟨_, rfl, _, _, _, _, rfl, rfl, sz, atI_nat (j := 1) rfl, _, rfl, fun w' ew => ?_⟩
    refine ⟨_, rfl, _, _, _, _, rfl, rfl, sz, atI_nat (j := 2) rfl, _, rfl, fun a' ea => ?_⟩
    subst eh ew ea
    obtain ⟨hN, rfl⟩ : ∃ n : Nat, h' = n := ⟨h'.toNat, by omega⟩
    obtain ⟨wN, rfl⟩ : ∃ n : Nat, w' = n := ⟨w'.toNat, by omega⟩
    obtain ⟨aN, rfl⟩ : ∃ n : Nat, a' = n := ⟨a'.toNat, by omega⟩
    refine ⟨_, rfl, _, _, _, rfl, s2.seq hS, by decide, fun cell1 => ?_⟩
    refine ⟨_, _, _, rfl, by decide, by decide, by decide, by decide, fun p3 H3 ms3 sm3 np3 hp3 ml3 mb3 => ?_⟩
    obtain ⟨st, rfl⟩ := one1 ml3
    have s3 := s2.trans sm3
    refine ⟨_, _, _, _, rfl, rfl, SqL.of hp3, atI_nat (j := 0) rfl, _, rfl, fun st' est => ?_⟩
    subst est
  
    refine ⟨_, rfl, _, rfl, by omega, by omega, fun DR nDR => lc_range (lo := 0) (n := (hN : Int).toNat) (fun i H' => ∃ (zs : List V) (ts : List (List (Int × Int))), H' DR = some (.lst zs) ∧ Same H3 H' ∧ PM H DR H' zs ts (wN : Int).toNat ∧ ts.length = i)
      ⟨[], [], upd_same, sm_new nDR, .nil, rfl⟩ (fun i H' hi hP => ?_) (fun HR hP => ?_)⟩
    · obtain ⟨zs, ts, hD, sm, hv, hl2⟩ := hP
      refine ⟨rfl, yes_ok (iteK rfl ?_)⟩
      refine ⟨_, rfl, _, rfl, _, _, rfl, rfl, _, _, _, rfl, (s3.trans sm).seq hS, by omega, fun c => ?_⟩
      refine ⟨_, rfl, _, rfl, _, _, _, rfl, by omega, by omega, fun p H3 xs ps sm3 np3 hp3 f3 l3 o3 => ?_⟩
      have hD3 := sm3 _ _ hD
      exact ⟨zs, hD3, by rw [hv.m.len, hl2]; exact small1000 (by omega), zs ++ [.ref p], ts ++ [ps], upd_same, same_mut (sm.trans sm3) nDR, (hv.mono sm3).snoc hD3 (ne_of_none hD np3).symm hp3 f3 l3 o3, by rw [List.length_append, hl2]; rfl⟩
    obtain ⟨xsR, tsR, hpR, smR, pmR, tlR⟩ := hP
    have sR := s3.trans smR
  
    refine ⟨_, rfl, _, rfl, by omega, by omega, fun DS nDS => lc_range (lo := 0) (n := (wN : Int).toNat) (fun i H' => ∃ (zs : List V) (ts : List (List (Int × Int))), H' DS = some (.lst zs) ∧ Same HR H' ∧ PM H DS H' zs ts (aN : Int).toNat ∧ ts.length = i)
      ⟨[], [], upd_same, sm_new nDS, .nil, rfl⟩ (fun i H' hi hP => ?_) (fun HS hP => ?_)⟩
    · obtain ⟨zs, ts, hD, sm, hv, hl2⟩ := hP
      refine ⟨rfl, yes_ok (iteK rfl ?_)⟩
      refine ⟨_, rfl, _, rfl, _, _, rfl, rfl, _, _, _, rfl, (sR.trans sm).seq hS, by omega, fun c => ?_⟩
      refine ⟨_, rfl, _, rfl, _, _, _, rfl, by omega, by omega, fun p H3 xs ps sm3 np3 hp3 f3 l3 o3 => ?_⟩
      have hD3 := sm3 _ _ hD
      exact ⟨zs, hD3, by rw [hv.m.len, hl2]; exact small1000 (by omega), zs ++ [.ref p], ts ++ [ps], upd_same, same_mut (sm.trans sm3) nDS, (hv.mono sm3).snoc hD3 (ne_of_none hD np3).symm hp3 f3 l3 o3, by rw [List.length_append, hl2]; rfl⟩
    obtain ⟨xsS, tsS, hpS, smS, pmS, tlS⟩ := hP
    have sS := sR.trans smS
  
    refine ⟨_, rfl, _, _, _, rfl, sS.seq hS, by decide, fun cellV => ?_⟩
    refine ⟨_, rfl, _, _, _, rfl, by omega, by omega, fun pV HV xsV psV smV npV hpV fV lV oV => ?_⟩
    have sV := sS.trans smV
  
    refine ⟨_, rfl, _, _, _, rfl, sV.seq hS, by decide, fun cellF => ?_⟩
    refine ⟨_, rfl, _, _, _, rfl, by omega, by omega, fun pF HF xsF psF smF npF hpF fF lF oF => ?_⟩
    have sF := sV.trans smF
  
    refine ⟨_, rfl, _, _, _, rfl, sF.seq hS, by decide, fun cellX => ?_⟩
    refine ⟨_, rfl, _, _, _, rfl, by omega, by omega, fun pX HX xsX psX smX npX hpX fX lX oX => ?_⟩
    have sX := sF.trans smX
  
    have sRX : Same HR HX := ((smS.trans smV).trans smF).trans smX
    have sSX : Same HS HX := (smV.trans smF).trans smX
    have sVX : Same HV HX := smF.trans smX
    have lV : psV.length = wN := by omega
    have lF : psF.length = hN := by omega
    have lX : psX.length = wN := by omega
    have tR : tsR.length = hN := by omega
    have tS : tsS.length = wN := by omega
    have okR : ∀ r ∈ tsR, r.length = wN ∧ ∀ x ∈ r, PrOk x := fun r hr => ⟨by have := (pmR.ok r hr).1; omega, (pmR.ok r hr).2⟩
    have okS : ∀ r ∈ tsS, r.length = aN ∧ ∀ x ∈ r, PrOk x := fun r hr => ⟨by have := (pmS.ok r hr).1; omega, (pmS.ok r hr).2⟩
    have hR := sRX _ _ hpR
    have pR := pmR.m.mono sRX
    have hS2 := sSX _ _ hpS
    have pS := pmS.m.mono sSX
    have hV := sVX _ _ hpV
    have pV2 := fV.mono sVX
    have hF := smX _ _ hpF
    have pF2 := fF.mono smX
    refine ⟨_, rfl, _, xsR, tsR, rfl, SqL.of hR, pR, fun r hr => ⟨by have := (okR r hr).1; omega, (okR r hr).2⟩, by omega, fun m0 K0 y0 smA npA hm0 n0 => ?_⟩
    refine ⟨_, rfl, _, xsS, tsS, rfl, SqL.of (smA _ _ hS2), pS.mono smA, fun r hr => ⟨by have := (okS r hr).1; omega, (okS r hr).2⟩, by omega, fun m1 K1 y1 smB npB hm1 n1 => ?_⟩
    refine ⟨_, rfl, _, rfl, _, rfl, by show 3 ≤ sizeLine; decide, fun t nt => ?_⟩
    have sAB := smA.trans smB
    have sT := sAB.trans (sm_new (o := .lst [.ref pV, .ref pF, .ref pX]) nt)
    refine ⟨_, [.ref pV, .ref pF, .ref pX], [psV, psF, psX], rfl, SqL.of upd_same, mat3 (sT _ _ hV) (sT _ _ hF) (sT _ _ hpX) (pV2.mono sT) (pF2.mono sT) (fX.mono sT), fun r hr => ?_, by show 3 ≤ 100; decide, fun m2 K2 y2 smC npC hm2 n2 => ?_⟩
    · rcases List.mem_cons.mp hr with rfl | hr
      · exact ⟨by omega, oV⟩
      rcases List.mem_cons.mp hr with rfl | hr
      · exact ⟨by omega, oF⟩
      rw [List.mem_singleton.mp hr]
      exact ⟨by omega, oX⟩
    refine ⟨by show 3 ≤ sizeLine; decide, fun hd nhd => ?_⟩
    have sC := (sm_new (o := .lst [.ref pV, .ref pF, .ref pX]) nt).trans smC
    have sD := sC.trans (sm_new (o := .lst [.ref m0, .ref m1, .ref m2]) nhd)
    have sXH := sAB.trans sD
    have g0 := sD _ _ (smB _ _ hm0)
    have F0 := (n0.mat.mono smB).mono sD
    have g1 := sD _ _ hm1
    have F1 := n1.mat.mono sD
    have g2 := (sm_new (o := .lst [.ref m0, .ref m1, .ref m2]) nhd) _ _ hm2
    have F2 := n2.mat.mono (sm_new (o := .lst [.ref m0, .ref m1, .ref m2]) nhd)
    have gh : (upd K2 hd (.lst [.ref m0, .ref m1, .ref m2])) hd = some (.lst [.ref m0, .ref m1, .ref m2]) := upd_same
    have sH := sX.trans sXH
    generalize upd K2 hd (.lst [.ref m0, .ref m1, .ref m2]) = G at sD sXH g0 F0 g1 F1 g2 F2 gh sH ⊢
    obtain ⟨cV, cF, cX, uV, uF, uX, rfl, kV, kF, kX, vV, vF, vX⟩ := F2.three
    have hR := sXH _ _ hR
    have pR := pR.mono sXH
    have hS2 := sXH _ _ hS2
    have pS := pS.mono sXH
    have hV := sXH _ _ hV
    have pV2 := pV2.mono sXH
    have hF := sXH _ _ hF
    have pF2 := pF2.mono sXH
    have hX := sXH _ _ hpX
    have pX2 := fX.mono sXH
    refine ⟨_, rfl, _, rfl, ⟨_, SqL.of hR⟩, fun DP nDP => lc_list (K := K) (a := DR) (xs := xsR) (fun i H' => ∃ zs : List V, H' DP = some (.lst zs) ∧ Same G H' ∧ MatP H' zs ((tsR.take i).map fun r => combL r tsS aN tsS.length) ∧ ∀ (j : Nat) (b : Addr), zs[j]? = some (V.ref b) → b ≠ DP)
      ⟨[], upd_same, sm_new nDP, .nil, fun j b h => by simp at h⟩ (fun i H' hi hP => ?_) (fun i y H' hi hP => ?_) (fun HP hP => ?_)⟩
    · obtain ⟨zs, hD, sm, hv, ne⟩ := hP
      exact SqL.of (sm _ _ hR)
    · obtain ⟨zs, hD, sm, hv, ne⟩ := hP
      obtain ⟨r, c, vs, hx, rfl, hc, hr⟩ := (pR.mono sm).item hi
      have okr := okR r (List.mem_of_getElem? hx)
      refine ⟨rfl, yes_ok (iteK rfl ?_)⟩
      refine ⟨_, rfl, _, rfl, _, rfl, _, _, vs, xsS, r, tsS, aN, rfl, SqL.of hc, SqL.of (sm _ _ hS2), hr, pS.mono sm, okr.2, okS, by omega, by omega, by omega, fun p H3 ys sm3 np3 hp3 f3 => ?_⟩
      have hD3 := sm3 _ _ hD
      have npD := (ne_of_none hD np3).symm
      refine ⟨zs, hD3, by rw [hv.len, List.length_map, List.length_take]; exact small1000 (by omega), zs ++ [.ref p], upd_same, same_mut (sm.trans sm3) nDP, ?_, fun j b hj => ?_⟩
      · rw [map_more _ hx]
        exact (hv.mono sm3).snoc ne hD3 npD hp3 f3
      · by_cases c : j < zs.length
        · rw [List.getElem?_append_left c] at hj
          exact ne j b hj
        · rw [List.getElem?_append_right (by omega)] at hj
          have c0 : j - zs.length = 0 := by
            refine Decidable.byContradiction fun z => ?_
            rw [List.getElem?_eq_none (by simp; omega)] at hj
            cases hj
          rw [c0] at hj
          cases hj
          exact npD
    obtain ⟨xsP, hP0, smP, fP, _⟩ := hP
    rw [pR.len, List.take_length] at fP
    have y10 : ∀ r ∈ tsR, r.length = psV.length := fun r hr => by rw [(okR r hr).1, lV]
    have cPR : tsR.map (fun r => combL r tsS aN tsS.length) = tsR.map fun r => combP r tsS aN := List.map_congr_left fun r hr => combL_all (by rw [(okR r hr).1, tS])
    refine ⟨_, rfl, by decide, by decide, for_range (lo := 0) (n := 2) (fun i σ' H' => ∃ (z0 z1 z2 z3 z4 z5 z6 z7 : Option V), σ' = [some (.ref aS), some (.ref D1), some (.int (hN : Int)), some (.int (wN : Int)), some (.int (aN : Int)), some (.int st'), some (.ref DR), some (.ref DS), some (.ref pV), some (.ref pF), some (.ref pX), some (.ref hd), some (.ref DP), z0, z1, z2, z3, z4, z5, z6, z7] ∧ Same HP H')
      ⟨_, _, _, _, _, _, _, _, rfl, fun _ _ h => h⟩ (fun i σ' G0 hi hI => ?_) (fun σ' G0 hI => ?_)⟩
    · obtain ⟨z0, z1, z2, z3, z4, z5, z6, z7, rfl, smI⟩ := hI
      have sI := smP.trans smI
      have hR := sI _ _ hR
      have pR := pR.mono sI
      have hS2 := sI _ _ hS2
      have pS := pS.mono sI
      have hV := sI _ _ hV
      have pV2 := pV2.mono sI
      have hF := sI _ _ hF
      have pF2 := pF2.mono sI
      have hX := sI _ _ hX
      have pX2 := pX2.mono sI
      have g0 := sI _ _ g0
      have F0 := F0.mono sI
      have g1 := sI _ _ g1
      have F1 := F1.mono sI
      have g2 := sI _ _ g2
      have gh := sI _ _ gh
      have kV := sI _ _ kV
      have kF := sI _ _ kF
      have kX := sI _ _ kX
      have vV := vV.mono sI
      have vF := vF.mono sI
      have vX := vX.mono sI
      have hP1 := smI _ _ hP0
      have fP1 := fP.mono smI
      -- dot
      refine ⟨_, rfl, _, _, _, _, rfl, rfl, SqL.of gh, atI_nat (j := 2) rfl, _, _, _, _, rfl, rfl, SqL.of g2, atI_nat (j := 0) rfl, _, rfl, _, _, _, _, rfl, rfl, SqL.of gh, atI_nat (j := 2) rfl, _, _, _, _, rfl, rfl, SqL.of g2, atI_nat (j := 2) rfl, _, _, uV, uX, psV, psX, rfl, SqL.of kV, SqL.of kX, vV, vX, by omega, by omega, fun q1 dq1 J1 n1 d1 sJ1 hq1 f1 => ?_⟩
      refine ⟨_, rfl, _, rfl, _, _, xsV, xsX, psV, psX, rfl, SqL.of (sJ1 _ _ hV), SqL.of (sJ1 _ _ hX), pV2.mono sJ1, pX2.mono sJ1, oV, oX, by omega, by omega, fun q2 J2 zz sJ2 hq2 zp bz rz => ?_⟩
      have sA := sJ1.trans sJ2
      refine ⟨_, _, _, n1, d1, zz, 1000, 1000, rfl, sJ2 _ _ hq1, f1.2.pos, hq2, f1.2.bn, f1.2.bd, bz.mono (by omega), by decide, by decide, lawEq f1.1 rz (dotP_den oV oX), _, rfl, iteN rfl ?_⟩
      -- apply
      have gh2 := sA _ _ gh
      have g22 := sA _ _ g2
      have g02 := sA _ _ g0
      refine ⟨_, rfl, _, _, _, _, rfl, rfl, SqL.of gh2, atI_nat (j := 0) rfl, _, rfl, _, _, _, _, rfl, rfl, SqL.of gh2, atI_nat (j := 2) rfl, _, _, _, _, rfl, rfl, SqL.of g22, atI_nat (j := 0) rfl, _, _, y0, uV, tsR, psV, rfl, SqL.of g02, SqL.of (sA _ _ kV), F0.mono sA, vV.mono sA, y10, by omega, by omega, fun im J3 imz sJ3 npim him vim => ?_⟩
      have sB3 := sA.trans sJ3
      refine ⟨_, rfl, _, rfl, _, rfl, ⟨_, SqL.of (sB3 _ _ hR)⟩, fun E1 nE1 => lc_list (K := K) (a := DR) (xs := xsR) (fun i H' => ∃ (zs : List V) (qs : List (Int × Int)), H' E1 = some (.lst zs) ∧ Same J3 H' ∧ PrL H' zs qs ∧ qs.length = i ∧ ∀ (j : Nat) (x : Int × Int), qs[j]? = some x → ∃ r, tsR[j]? = some r ∧ REq x (dotP r psV) ∧ PrB 1000 x)
        ⟨[], [], upd_same, sm_new nE1, .nil, rfl, fun j x h => by simp at h⟩ (fun i H' hi hP => ?_) (fun i y H' hi hP => ?_) (fun J4 hP => ?_)⟩
      · obtain ⟨zs, qs, hD, sm, hv, hl3, hq⟩ := hP
        exact SqL.of (sm _ _ (sB3 _ _ hR))
      · obtain ⟨zs, qs, hD, sm, hv, hl3, hq⟩ := hP
        have sB4 := sB3.trans sm
        obtain ⟨r, c, vs, hx, rfl, hc, hr⟩ := (pR.mono sB4).item hi
        have okr := okR r (List.mem_of_getElem? hx)
        have li : i < tsR.length := (List.getElem?_eq_some_iff.mp hx).1
        refine ⟨rfl, yes_ok (iteK rfl ?_)⟩
        refine ⟨_, rfl, _, rfl, _, _, vs, xsV, r, psV, rfl, SqL.of hc, SqL.of (sB4 _ _ hV), hr, pV2.mono sB4, okr.2, oV, by omega, by omega, fun p H3 z sm3 hp3 z0 bz rz => ?_⟩
        have hD3 := sm3 _ _ hD
        refine ⟨zs, hD3, by rw [hv.len, hl3]; exact small1000 (by omega), zs ++ [.ref p], qs ++ [z], upd_same, same_mut (sm.trans sm3) nE1, ((hv.mono sm3).snoc hp3).upd hD3, by rw [List.length_append, hl3]; rfl, fun j x hj => ?_⟩
        by_cases cj : j < qs.length
        · rw [List.getElem?_append_left cj] at hj
          exact hq j x hj
        · rw [List.getElem?_append_right (by omega)] at hj
          have c0 : j - qs.length = 0 := by
            refine Decidable.byContradiction fun z => ?_
            rw [List.getElem?_eq_none (by simp; omega)] at hj
            cases hj
          rw [c0] at hj
          cases hj
          have ej : j = i := by omega
          subst ej
          exact ⟨r, hx, rz, bz.mono (by omega)⟩
      obtain ⟨qzs, qqs, hE1, sJ4, fE1, lE1, rE1⟩ := hP
      have xl := pR.len
      refine ⟨_, _, imz, qzs, tsR.map (fun r => dotP r psV), qqs, rfl, sJ4 _ _ him, SqL.of hE1, vim.mono sJ4, fE1, by rw [List.length_map]; omega, by omega, fun i x y hx hy => ?_, _, rfl, iteN rfl ?_⟩
      · obtain ⟨r, hr, e1, e2⟩ := rE1 i y hy
        rw [List.getElem?_map, hr] at hx
        cases hx
        have dp := dotP_den (okR r (List.mem_of_getElem? hr)).2 oV
        exact ⟨e1.symm, e2, Int.ne_of_gt dp⟩
      -- combine
      have sC4 := sB3.trans sJ4
      have gh3 := sC4 _ _ gh
      have g23 := sC4 _ _ g2
      refine ⟨_, rfl, _, _, _, _, rfl, rfl, SqL.of gh3, atI_nat (j := 2) rfl, _, _, _, _, rfl, rfl, SqL.of g23, atI_nat (j := 1) rfl, _, rfl, _, _, _, _, rfl, rfl, SqL.of gh3, atI_nat (j := 0) rfl, _, rfl, _, _, uF, y0, psF, tsR, wN, rfl, SqL.of (sC4 _ _ kF), SqL.of (sC4 _ _ g0), vF.mono sC4, F0.mono sC4, fun r hr => (okR r hr).1, by omega, by omega, by omega, fun cm J5 cmz sJ5 npcm hcm vcm => ?_⟩
      have sC5 := sC4.trans sJ5
      refine ⟨_, rfl, _, rfl, _, rfl, _, rfl, _, _, xsF, xsR, psF, tsR, wN, rfl, SqL.of (sC5 _ _ hF), SqL.of (sC5 _ _ hR), pF2.mono sC5, pR.mono sC5, oF, okR, by omega, by omega, by omega, fun lc J6 lcz sJ6 nplc hlc flc => ?_⟩
      have bitsF := combL_bits (w := wN) oF okR (by omega) tsR.length (Nat.le_refl _)
      have allF := combL_all (w := wN) (xs := psF) (ts := tsR) (by omega)
      refine ⟨_, _, cmz, lcz, combP psF tsR wN, combL psF tsR wN tsR.length, rfl, sJ6 _ _ hcm, SqL.of hlc, vcm.mono sJ6, flc, by rw [allF], by rw [combL_len]; omega, fun i x y hx hy => ?_, _, rfl, iteN rfl ?_⟩
      · rw [← allF, hy] at hx
        cases hx
        have hk : i < wN := by
          have := (List.getElem?_eq_some_iff.mp hy).1
          rwa [combL_len] at this
        obtain ⟨b1, b2⟩ := bitsF i hk
        rw [getDx hy] at b1 b2
        exact ⟨rfl, b1.mono (by omega), by omega⟩
      -- multiply
      have sC6 := sC5.trans sJ6
      have gh6 := sC6 _ _ gh
      refine ⟨_, rfl, _, _, _, _, rfl, rfl, SqL.of gh6, atI_nat (j := 0) rfl, _, rfl, _, _, _, _, rfl, rfl, SqL.of gh6, atI_nat (j := 1) rfl, _, rfl, _, _, y0, y1, tsR, tsS, aN, rfl, SqL.of (sC6 _ _ g0), SqL.of (sC6 _ _ g1), F0.mono sC6, F1.mono sC6, fun r hr => (okS r hr).1, fun r hr => by rw [(okR r hr).1, tS], by omega, by omega, by omega, fun mp J7 mpz sJ7 npmp hmp nmp => ?_⟩
      have sC7 := sC6.trans sJ7
      refine ⟨_, rfl, _, rfl, _, _, mpz, xsP, tsR.map (fun r => combP r tsS aN), tsR.map (fun r => combL r tsS aN tsS.length), rfl, hmp, SqL.of (sC7 _ _ hP1), nmp.mat, fP1.mono sC7, by rw [List.length_map, List.length_map], by rw [List.length_map]; omega, prod_ok okR okS tS (by omega) (by omega), _, rfl, iteN rfl ?_⟩
      -- identity
      refine ⟨_, rfl, hN, rfl, by omega, fun un J8 unz sJ8 npun hun nun => ?_⟩
      refine ⟨_, rfl, _, rfl, hN, rfl, by omega, fun lu J9 luz sJ9 hlu mlu => ?_⟩
      refine ⟨_, _, unz, luz, unitP hN, unitP hN, rfl, sJ9 _ _ hun, SqL.of hlu, (nun.mat.up (by decide)).mono sJ9, mlu, rfl, by rw [unitP, List.length_map, List.length_range]; omega, unit_ok (by omega), _, rfl, iteN rfl ?_⟩
      -- spoil
      have sC8 := sC7.trans sJ8
      have sC9 := sC8.trans sJ9
      have him6 := ((sJ4.trans sJ5).trans sJ6) _ _ him
      have hcm6 := sJ6 _ _ hcm
      have s69 := (sJ7.trans sJ8).trans sJ9
      have him9 := s69 _ _ him6
      have hcm9 := s69 _ _ hcm6
      have NM := nmp.newM hmp npmp fun r hr => by
        obtain ⟨r0, _, rfl⟩ := List.mem_map.mp hr
        rw [combP, List.length_map, List.length_range]; omega
      have NU := nun.newM hun npun fun r hr => by
        obtain ⟨r0, _, rfl⟩ := List.mem_map.mp hr
        rw [List.length_map, List.length_range]; omega
      refine ⟨_, rfl, _, rfl, by show 2 ≤ sizeLine; decide, fun tq ntq => ?_⟩
      have sq := sm_new (o := .lst [.ref im, .ref cm]) ntq
      have N1 : NewM G0 tq [.ref im, .ref cm] (upd J9 tq (.lst [.ref im, .ref cm])) := ⟨upd_same, sC9.free ntq, fun i u h => match i, h with
        | 0, h => by cases h; exact ⟨im, imz, rfl, ne_of_none him9 ntq, sA.free npim, sq _ _ him9, by rw [vim.len, List.length_map]; omega⟩
        | 1, h => by cases h; exact ⟨cm, cmz, rfl, ne_of_none hcm9 ntq, sC4.free npcm, sq _ _ hcm9, by rw [vcm.len, combP, List.length_map, List.length_range]; omega⟩
        | n + 2, h => by simp at h⟩
      refine ⟨tq, _, hide tq [.ref im, .ref cm] (upd J9 tq (.lst [.ref im, .ref cm])), rfl, if_pos (.inl rfl), by show 2 ≤ 100; decide, N1.rows, fun L1 sL1 => ?_⟩
      have sG1 : Same G0 L1 := (hide_same (sC9.trans sq) N1.n fun b h => N1.mem h).trans sL1
      have d1 : ∀ (Z : Hp), (Same J6 Z) → ∀ b zs, Z b = none → J9 b = some (.lst zs) → b ≠ tq ∧ V.ref b ∉ [V.ref im, V.ref cm] := fun Z sZ b zs z hb => ⟨ne_of_none hb ntq, fun h => by
        rcases List.mem_cons.mp h with h | h
        · cases h
          rw [sZ _ _ him6] at z; cases z
        · cases List.mem_singleton.mp h
          rw [sZ _ _ hcm6] at z; cases z⟩
      have NM1 : NewM J6 mp mpz L1 := (NM.mono (sJ8.trans sJ9)).pass sq (d1 J6 fun _ _ h => h) sL1
      have NU1 : NewM J7 un unz L1 := (NU.mono sJ9).pass sq (d1 J7 sJ7) sL1
      refine ⟨_, rfl, mp, mpz, hide mp mpz L1, rfl, if_pos (.inl rfl), by rw [nmp.len, List.length_map]; omega, NM1.rows, fun L2 sL2 => ?_⟩
      have sG2 : Same G0 L2 := (hide_same sG1 (sC6.free NM1.n) fun b h => sC6.free (NM1.mem h)).trans sL2
      have NU2 : NewM J7 un unz L2 := NU1.pass (fun _ _ h => h) (fun b zs z hb => ⟨fun e => (by rw [e, hmp] at z; cases z), fun h => NM.memS h z⟩) sL2
      refine ⟨_, rfl, un, unz, hide un unz L2, rfl, if_pos (.inl rfl), by rw [nun.len, unitP, List.length_map, List.length_range]; omega, NU2.rows, fun L3 sL3 => ?_⟩
      have sG3 : Same G0 L3 := (hide_same sG2 (sC7.free NU2.n) fun b h => sC7.free (NU2.mem h)).trans sL3
      exact ⟨_, _, _, _, _, _, _, _, rfl, smI.trans sG3⟩
    · obtain ⟨z0, z1, z2, z3, z4, z5, z6, z7, rfl, smI⟩ := hI
      have sI := smP.trans smI
      have gh := sI _ _ gh
      have g2 := sI _ _ g2
      refine ⟨_, rfl, _, _, _, _, rfl, rfl, SqL.of gh, atI_nat (j := 0) rfl, _, rfl, _, _, y0, xsR, tsR, tsR, rfl, sI _ _ g0, SqL.of (sI _ _ hR), (F0.mono sI).up (by decide), pR.mono sI, rfl, by omega, self_ok fun r hr => ⟨by have := (okR r hr).1; omega, (okR r hr).2⟩, _, rfl, iteN rfl ?_⟩
      refine ⟨_, rfl, _, _, _, _, rfl, rfl, SqL.of gh, atI_nat (j := 1) rfl, _, rfl, _, _, y1, xsS, tsS, tsS, rfl, sI _ _ g1, SqL.of (sI _ _ hS2), (F1.mono sI).up (by decide), pS.mono sI, rfl, by omega, self_ok fun r hr => ⟨by have := (okS r hr).1; omega, (okS r hr).2⟩, _, rfl, iteN rfl ?_⟩
      refine ⟨_, rfl, _, _, _, _, rfl, rfl, SqL.of gh, atI_nat (j := 2) rfl, _, rfl, _, rfl, _, rfl, by show 3 ≤ sizeLine; decide, fun tf ntf => ?_⟩
      have sf := sI.trans (sm_new (o := .lst [.ref pV, .ref pF, .ref pX]) ntf)
      refine ⟨_, _, [.ref cV, .ref cF, .ref cX], [.ref pV, .ref pF, .ref pX], [psV, psF, psX], [psV, psF, psX], rfl, (sm_new ntf) _ _ g2, SqL.of upd_same, (F2.mono sf).up (by decide), mat3 (sf _ _ hV) (sf _ _ hF) (sf _ _ hX) (pV2.mono sf) (pF2.mono sf) (pX2.mono sf), rfl, by show 3 ≤ 100; decide, self_ok fun r hr => ?_, q _⟩
      rcases List.mem_cons.mp hr with rfl | hr
      · exact ⟨by omega, oV⟩
      rcases List.mem_cons.mp hr with rfl | hr
      · exact ⟨by omega, oF⟩
      rw [List.mem_singleton.mp hr]
      exact ⟨by omega, oX⟩
theorem whole (T : Tx K mg) : ∃ fd : FuncData, (∀ (s : Shared) (v : Value), BindsTo s fd ⟨[v], []⟩ [("script", v)]) ∧ ∀ base : Heap, FnOk P w K mg base CX0 17 (He.fAd K ("law", none)) fd ["script"] (spLaw K) := by
  have O__law_cell : ∀ base, OkF P w K mg base 1 (He.fAd K ("_law_cell", none)) ["script", "k"] (spCell K) := fun base => ok__law_cell T
  have O__law_digits : ∀ base, OkF P w K mg base 1 (He.fAd K ("_law_digits", none)) ["cell", "limit", "count"] (spDig K) := fun base => ok__law_digits T
  have O__law_size : ∀ base, OkF P w K mg base 1 (He.fAd K ("_law_size", none)) ["d"] (spSize K) := fun base => ok__law_size T
  have O__law_pair : ∀ base, OkF P w K mg base 1 (He.fAd K ("_law_pair", none)) ["d", "style"] (spPair K) := fun base => ok__law_pair T
  have O__law_pairs : ∀ base, OkF P w K mg base 2 (He.fAd K ("_law_pairs", none)) ["cell", "count", "style"] (spPairs K) := fun base => ok__law_pairs T (O__law_digits base) (O__law_pair base)
  have O_Fraction___init__ : ∀ base, OkD P w K mg base 1 (He.fAd K ("Fraction", some "__init__")) ["self", "num", "den"] (He.Dv.v K (.int 1)) (spInit K) := fun base => ok_Fraction___init__ T
  have O__law_vector : ∀ base, OkF P w K mg base 3 (He.fAd K ("_law_vector", none)) ["pairs"] (spLVec K) := fun base => ok__law_vector T (O_Fraction___init__ base)
  have O__law_matrix : ∀ base, OkF P w K mg base 4 (He.fAd K ("_law_matrix", none)) ["rows"] (spLMat K) := fun base => ok__law_matrix T (O__law_vector base)
  have O__law_times : ∀ base, OkF P w K mg base 1 (He.fAd K ("_law_times", none)) ["a", "b"] (spLTi K) := fun base => ok__law_times T
  have O__law_plus : ∀ base, OkF P w K mg base 1 (He.fAd K ("_law_plus", none)) ["a", "b"] (spLPl K) := fun base => ok__law_plus T
  have O__law_combine : ∀ base, OkF P w K mg base 2 (He.fAd K ("_law_combine", none)) ["factors", "rows", "width"] (spLComb K) := fun base => ok__law_combine T (O__law_times base) (O__law_plus base)
  have O__in_lowest_terms : ∀ base, OkF P w K mg base 3 (He.fAd K ("_in_lowest_terms", none)) ["num", "den"] (spLow K) := fun base => ok__in_lowest_terms T (O_Fraction___init__ base)
  have O_Fraction___mul__ : ∀ base, OkF P w K mg base 4 (He.fAd K ("Fraction", some "__mul__")) ["self", "other"] (spMul K) := fun base => ok_Fraction___mul__ T (O__in_lowest_terms base)
  have O_Fraction___add__ : ∀ base, OkF P w K mg base 4 (He.fAd K ("Fraction", some "__add__")) ["self", "other"] (spAdd K) := fun base => ok_Fraction___add__ T (O__in_lowest_terms base)
  have O_total_of : ∀ base, OkF P w K mg base 12 (He.fAd K ("total_of", none)) ["parts", "zero"] (spTot0 K) := fun base => ok_total_of T (O_Fraction___add__ base)
  have O_sum_of : ∀ base, OkF P w K mg base 13 (He.fAd K ("sum_of", none)) ["fractions"] (spSum K) := fun base => ok_sum_of T (O_Fraction___init__ base) (O_total_of base)
  have O_dot : ∀ base, OkF P w K mg base 14 (He.fAd K ("dot", none)) ["first", "second"] (spDot K) := fun base => ok_dot T (O_Fraction___mul__ base) (O_sum_of base)
  have O__law_dot : ∀ base, OkF P w K mg base 2 (He.fAd K ("_law_dot", none)) ["xs", "ys"] (spLDot K) := fun base => ok__law_dot T (O__law_times base) (O__law_plus base)
  have O__law_is_whole : ∀ base, OkF P w K mg base 1 (He.fAd K ("_law_is_whole", none)) ["x"] (spIsWh K) := fun base => ok__law_is_whole T
  have O__law_is_number : ∀ base, OkF P w K mg base 2 (He.fAd K ("_law_is_number", none)) ["x"] (spIsNu K) := fun base => ok__law_is_number T (O__law_is_whole base)
  have O__law_is : ∀ base, OkF P w K mg base 3 (He.fAd K ("_law_is", none)) ["x", "pair"] (spIsPr K) := fun base => ok__law_is T (O__law_is_number base)
  have O_apply : ∀ base, OkF P w K mg base 15 (He.fAd K ("apply", none)) ["rows", "vector"] (spApply K) := fun base => ok_apply T (O_dot base)
  have O__law_is_vector : ∀ base, OkF P w K mg base 4 (He.fAd K ("_law_is_vector", none)) ["xs", "pairs"] (spIsVec K) := fun base => ok__law_is_vector T (O__law_is base)
  have O_combine : ∀ base, OkF P w K mg base 15 (He.fAd K ("combine", none)) ["vector", "rows", "width"] (spComb K) := fun base => ok_combine T (O_dot base)
  have O_multiply : ∀ base, OkF P w K mg base 16 (He.fAd K ("multiply", none)) ["left", "right", "width"] (spMulM K) := fun base => ok_multiply T (O_combine base)
  have O__law_is_matrix : ∀ base, OkF P w K mg base 5 (He.fAd K ("_law_is_matrix", none)) ["xs", "rows"] (spIsMat K) := fun base => ok__law_is_matrix T (O__law_is_vector base)
  have O_identity : ∀ base, OkF P w K mg base 3 (He.fAd K ("identity", none)) ["size"] (spIdM K) := fun base => ok_identity T (O_Fraction___init__ base)
  have O__law_unit : ∀ base, OkF P w K mg base 1 (He.fAd K ("_law_unit", none)) ["size"] (spLUn K) := fun base => ok__law_unit T
  have O__law_spoil : ∀ base, OkF P w K mg base 3 (He.fAd K ("_law_spoil", none)) ["rows"] (spSpoil K) := fun base => ok__law_spoil T (O_Fraction___init__ base)
  exact ok_law T O__law_cell O__law_digits O__law_size O__law_pairs O__law_matrix O__law_combine O_dot O__law_dot O__law_is O_apply O__law_is_vector O_combine O_multiply O__law_is_matrix O_identity O__law_unit O__law_spoil
end
/-! ### the head -/
abbrev DN__law_cell : Nat := 0
abbrev DN__law_digits : Nat := 1
abbrev DN__law_size : Nat := 2
abbrev DN__law_pair : Nat := 3
abbrev DN__law_pairs : Nat := 4
abbrev DN_Fraction___init__ : Nat := 5
abbrev DN__law_vector : Nat := 6
abbrev DN__law_matrix : Nat := 7
abbrev DN__law_times : Nat := 8
abbrev DN__law_plus : Nat := 9
abbrev DN__law_combine : Nat := 10
abbrev DN__in_lowest_terms : Nat := 11
abbrev DN_Fraction___mul__ : Nat := 12
abbrev DN_Fraction___add__ : Nat := 13
abbrev DN_total_of : Nat := 14
abbrev DN_sum_of : Nat := 15
abbrev DN_dot : Nat := 16
abbrev DN__law_dot : Nat := 17
abbrev DN__law_is_whole : Nat := 18
abbrev DN__law_is_number : Nat := 19
abbrev DN__law_is : Nat := 20
abbrev DN_apply : Nat := 21
abbrev DN__law_is_vector : Nat := 22
abbrev DN_combine : Nat := 23
abbrev DN_multiply : Nat := 24
abbrev DN__law_is_matrix : Nat := 25
abbrev DN_identity : Nat := 26
abbrev DN__law_unit : Nat := 27
abbrev DN__law_spoil : Nat := 28
abbrev DN_law : Nat := 29
def fnL : List DefG := [d__law_cell, d__law_digits, d__law_size, d__law_pair, d__law_pairs, d_Fraction___init__, d__law_vector, d__law_matrix, d__law_times, d__law_plus, d__law_combine, d__in_lowest_terms, d_Fraction___mul__, d_Fraction___add__, d_total_of, d_sum_of, d_dot, d__law_dot, d__law_is_whole, d__law_is_number, d__law_is, d_apply, d__law_is_vector, d_combine, d_multiply, d__law_is_matrix, d_identity, d__law_unit, d__law_spoil, d_law]
def faL : List He.Fa := [.cls "Fraction", .meth "Fraction" "__add__", .meth "Fraction" "__mul__", .glo "DivisionByZero", .glo "Fraction", .glo "_in_lowest_terms", .glo "_law_cell", .glo "_law_combine", .glo "_law_digits", .glo "_law_dot", .glo "_law_is", .glo "_law_is_matrix", .glo "_law_is_number", .glo "_law_is_vector", .glo "_law_is_whole", .glo "_law_matrix", .glo "_law_pair", .glo "_law_pairs", .glo "_law_plus", .glo "_law_size", .glo "_law_spoil", .glo "_law_times", .glo "_law_unit", .glo "_law_vector", .glo "apply", .glo "combine", .glo "dot", .glo "identity", .glo "law", .glo "multiply", .glo "sum_of", .glo "total_of", .exc "DivisionByZero", .mkr "Fraction", .noat "Fraction" "den", .noat "Fraction" "num", .free "abs", .free "bool", .free "int", .free "isinstance", .free "len", .free "list", .free "range", .free "zip"]
def exL (K : PySem.W.Frag) : List Bool := [PySem.W.selfFirst K (He.ga K "Fraction"),
  He.eqO (PySem.W.nsIn K mainGlobals "gcd") (some (some (.builtin "math.gcd"))),
  He.eqO (PySem.W.findIn K (.ref (He.ga K "Fraction")) "__class__") (some (some (.builtin "object.__class__"))),
  He.eqO (PySem.W.specialIn K (.builtin "object.__class__") "__get__") (some (some (.builtin "getset_descriptor.__get__"))),
  decide (PySem.W.takesIn K (.builtin "object.__class__") = some true),
  decide (PySem.W.mroIn K (He.ga K "Fraction") (.type "object") = some true)]
abbrev R : PySem.W.OpenRow := PySem.W.OpenLaw.row PySem.Challenge.rw_certsums_k21_matrix_functions
abbrev hk : PySem.W.Hook := hookG 6 faL fnL exL
def ob (s : PySem.W.SharedT) : AlG := obsGG 6 faL fnL exL (HandSHeadRun.getT s)
theorem ob_eq (s : PySem.W.SharedT) : ob s = hk.obs s.abs := obsGG_eq (HandSHeadRun.getT_eq s)
def names : List Str := (["_wall", "SummationError", "DivisionByZero", "total_of", "Fraction", "_in_lowest_terms", "sum_of", "dot", "apply", "combine", "multiply", "identity", "_law_cell", "_law_digits", "_law_size", "_law_pair", "_law_pairs", "_law_plus", "_law_times", "_law_dot", "_law_vector", "_law_matrix", "_law_is_whole", "_law_is_number", "_law_is", "_law_is_vector", "_law_is_matrix", "_law_combine", "_law_unit", "_law_spoil"] : List Str)
set_option maxHeartbeats 0 in
theorem run (w : World) : HandSHeadRun.RunEqI R (PySem.W.view R.prog [0, 36]) hk ob 20000 names w := by
  unfold HandSHeadRun.RunEqI
  kernel_rfl
theorem tx_of {K : PySem.W.Frag} {h : Heap} {mg : Str → Option Value} (X : K.In h) (G : h.Ns mainGlobals mg) (c : SaysG faL fnL exL K) : Tx K mg :=
  ⟨He.cls_ok (c.fact 0),
   c.dn DN_Fraction___add__,
   c.dn DN_Fraction___init__,
   c.dn DN_Fraction___mul__,
   c.dn DN__in_lowest_terms,
   c.dn DN__law_cell,
   c.dn DN__law_combine,
   c.dn DN__law_digits,
   c.dn DN__law_dot,
   c.dn DN__law_is,
   c.dn DN__law_is_matrix,
   c.dn DN__law_is_number,
   c.dn DN__law_is_vector,
   c.dn DN__law_is_whole,
   c.dn DN__law_matrix,
   c.dn DN__law_pair,
   c.dn DN__law_pairs,
   c.dn DN__law_plus,
   c.dn DN__law_size,
   c.dn DN__law_spoil,
   c.dn DN__law_times,
   c.dn DN__law_unit,
   c.dn DN__law_vector,
   c.dn DN_apply,
   c.dn DN_combine,
   c.dn DN_dot,
   c.dn DN_identity,
   c.dn DN_law,
   c.dn DN_multiply,
   c.dn DN_sum_of,
   c.dn DN_total_of,
   (He.meth_ok (c.fact 1)).fn,
   (He.meth_ok (c.fact 2)).fn,
   c.more 0,
   He.glo_ok X G (c.fact 3),
   He.glo_ok X G (c.fact 4),
   He.glo_ok X G (c.fact 5),
   He.glo_ok X G (c.fact 6),
   He.glo_ok X G (c.fact 7),
   He.glo_ok X G (c.fact 8),
   He.glo_ok X G (c.fact 9),
   He.glo_ok X G (c.fact 10),
   He.glo_ok X G (c.fact 11),
   He.glo_ok X G (c.fact 12),
   He.glo_ok X G (c.fact 13),
   He.glo_ok X G (c.fact 14),
   He.glo_ok X G (c.fact 15),
   He.glo_ok X G (c.fact 16),
   He.glo_ok X G (c.fact 17),
   He.glo_ok X G (c.fact 18),
   He.glo_ok X G (c.fact 19),
   He.glo_ok X G (c.fact 20),
   He.glo_ok X G (c.fact 21),
   He.glo_ok X G (c.fact 22),
   He.glo_ok X G (c.fact 23),
   He.glo_ok X G (c.fact 24),
   He.glo_ok X G (c.fact 25),
   He.glo_ok X G (c.fact 26),
   PySem.W.mg_of X G (He.eqO_ok (c.more 1)),
   He.glo_ok X G (c.fact 27),
   He.glo_ok X G (c.fact 28),
   He.glo_ok X G (c.fact 29),
   He.glo_ok X G (c.fact 30),
   He.glo_ok X G (c.fact 31),
   (He.exc_ok (c.fact 32)).2.1,
   He.mkr_ok (c.fact 33),
   He.noat_ok (c.fact 34),
   He.noat_ok (c.fact 35),
   @fun X e => by subst e; exact raises_own (He.exc_ok (c.fact 32)).2.2.1 (He.exc_ok (c.fact 32)).2.2.2,
   (He.meth_ok (c.fact 1)).at_,
   (He.meth_ok (c.fact 2)).at_,
   @fun H a dx fs e => .base (.ins e (He.cls_ok (c.fact 0)) (He.eqO_ok (c.more 2)) (He.eqO_ok (c.more 3)) (of_decide_eq_true (c.more 4)) (of_decide_eq_true (c.more 5))),
   (He.exc_ok (c.fact 32)).1,
   He.free_ok X G (c.fact 36),
   He.free_ok X G (c.fact 37),
   He.free_ok X G (c.fact 38),
   He.free_ok X G (c.fact 39),
   He.free_ok X G (c.fact 40),
   He.free_ok X G (c.fact 41),
   He.free_ok X G (c.fact 42),
   He.free_ok X G (c.fact 43)⟩
end CB
open PySem PySem.W PyProof.Rows
set_option maxHeartbeats 0 in
theorem PySem.Challenge.cw_certsums_k21_matrix_functions_holds : PySem.Challenge.rw_certsums_k21_matrix_functions.Holds := by
  w_on; o_law
  refine HandSHeadRun.head_imp (r := CB.R) (q := view CB.R.prog [0, 36]) (H := CB.hk) (ob := CB.ob) (M := 20000) (loose := CB.names) (d := HandSHeadRun.topDef CB.R.prog 36) (kwd := []) CB.ob_eq
    CB.run (by kernel_rfl) (by kernel_rfl) (by kernel_rfl) (by rfl) (by first | assumption | decide +kernel) (by decide +kernel) ⟨rfl, rfl, rfl, rfl, rfl, by decide +kernel⟩ ?hw ?hc
  case hw => w_witness2
  case hc =>
    refine L2.walk_ofE (l := PySem.Challenge.rw_certsums_k21_matrix_functions) (n := 63) (k := 17) (x := "script") (CX := L2.CX0) rfl (by decide) (by kernel_rfl) ⟨rfl, by decide, by decide⟩ ?F (fun _ _ _ _ z => z)
    intro w mg fa h Y G hmg0
    obtain ⟨K, KX, c⟩ := Y
    have hmg : mg ("law" : PySem.Str) = some (.ref fa) := by
      have e : (HandSHeadRun.topDef CB.R.prog 36).name = ("law" : PySem.Str) := by kernel_rfl
      rw [← e]
      exact hmg0
    have T : CB.Tx K mg := CB.tx_of KX G c
    obtain ⟨fd, hb, hF⟩ := CB.whole (P := (PySem.Challenge.rw_certsums_k21_matrix_functions).prog) (w := w) T
    cases (T.g_law.symm.trans hmg)
    exact ⟨K, fd, CB.spLaw K, KX, hb, fun H a ns hl _ hS => ⟨a, ns, rfl, hS, hl, fun _ => rfl⟩, fun base _ _ => hF base⟩
