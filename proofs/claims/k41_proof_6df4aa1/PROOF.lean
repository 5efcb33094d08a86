import PyProof.Rows.All
import Wide.All
import OpenK.AllK
import Wide.FinOn
import KE.KStateDown
import KE.KMathGC
import KE.KOpsOwn
import Lean
import HandS.ForMost
import HandS.Exc
import HandS.ExcOwn
import HandS.ExcIs
import HandS.TryOnly
import HandS.WordsExc
import HandS.Defaults
import HandS.IsInst
import HandS.Wide
import HandS.WideBits
import HandS.Gcd
import HandS.Property
import HandS.OwnEq
import HandS.Flow
import HandS.Evl
import HandS.Head0
import HandS.Head1
import HandS.Head2
import HandS.Head3
import HandS.HeadEnd
import HandS.HeadHook1
import HandS.HeadHook2
import HandS.HeadHook3
import HandS.HeadHook4
import HandS.Iter
import HandS.TupAny
import HandS.List
import HandS.SortKw
import KE.DatumOrd
import HandS.Rev
import HandS.ClsMeth
import HandS.HeadNt
import KE.GoesEnumKw
import PySem.Challenge.RW_certsums_k41_degree_bound
set_option Elab.async false
set_option linter.all false
set_option maxRecDepth 100000
set_option maxHeartbeats 4000000
namespace CB
open PySem PySem.Spec PyProof.Rows L2

/-! ### readings made simpler -/
theorem imp_e {X : Cx} {e : Expr} {t t' : TE} (h : PE X e t) (hi : ∀ σ H Q, t' σ H Q → t σ H Q) : PE X e t' :=
  ⟨fun pins s σ H Q I q => h.run pins s σ H Q I (hi σ H Q q)⟩
theorem imp_s {X : Cx} {e : Stmt} {t t' : TS} (h : PS X e t) (hi : ∀ D σ H, t' D σ H → t D σ H) : PS X e t' :=
  ⟨fun pins s σ H D I q => h.run pins s σ H D I (hi D σ H q)⟩

/-! ### a value is never NotImplemented -/
theorem back_of {P : Value → Shared → Prop} {z : V} {v : Value} {s' : Shared} (r : RelV z v) (h : P v s') : PySem.W.CmpBack P v s' := by
  cases z with
  | non => cases r; exact h
  | bl _ => cases r; exact h
  | int _ => obtain ⟨t, rfl⟩ := r; exact h
  | str _ => obtain ⟨t, rfl⟩ := r; exact h
  | byt _ => obtain ⟨t, rfl⟩ := r; exact h
  | flt _ => obtain ⟨t, rfl⟩ := r; exact h
  | ref _ => cases r; exact h
  | ty _ => cases r; exact h

section
variable {X : Cx} {CX : CXT} {k : Nat} {f C : Addr} {fd : FuncData} {ps : List Str} {sp : Sp} {E : XK}

/-- x op y by the class's own method, both of the class -/
def rOwn2 (C : Addr) (sp : Sp) (E : XK) : R2 := fun x y H Q => ∃ a b dx dy fs gs, x = .ref a ∧ y = .ref b ∧ H a = some (.ins C dx fs) ∧ H b = some (.ins C dy gs) ∧ sp [.ref a, .ref b] H Q E
theorem op_own2 {op : Operator} (hc : PySem.W.selfFirst X.K C = true) (hs : PySem.W.findIn X.K (.ref C) (PySem.dunder op.info.2) = some (some (.ref f))) (hf : PySem.W.isFn X.K (.ref f) = true)
    (F : FnOk X.prog X.w X.K X.mg X.base CX k f fd ps sp) (hr : Room k X.A) (hb : Binds X.K fd ps []) (hx : Passes CX X E) : OpR X (binaryOp op) (rOwn2 C sp E) := by
  intro pins s σ H x y v u Q I rx ry h
  obtain ⟨a, b, dx, dy, fs, gs, rfl, rfl, ha, hb', hq⟩ := h
  cases rx
  cases ry
  obtain ⟨mA, J, _⟩ := ins_get I.hok ha
  obtain ⟨mB, J', _⟩ := ins_get I.hok hb'
  obtain ⟨od, J, _⟩ := J.look
  obtain ⟨od', J', _⟩ := J'.look
  obtain ⟨m, hF⟩ := I.fr
  refine PySem.W.binop_K hF I.ok.mod.kin J J'.type hc hs hf ?_
  refine thn (run_fn (us := [.ref a, .ref b]) (vs := [.ref a, .ref b]) F hr hb .nil hx I (.cons rfl (.cons rfl .nil)) hq) fun w s' h => ?_
  obtain ⟨z, H', I', r, q⟩ := h
  exact back_of r ⟨z, H', I', r, q⟩
/-- - x by the class's own method -/
def rOwn1 (C : Addr) (sp : Sp) (E : XK) : V → Hp → VK → Prop := fun x H Q => ∃ a dx fs, x = .ref a ∧ H a = some (.ins C dx fs) ∧ sp [.ref a] H Q E
theorem un_ownNeg (hs : PySem.W.findIn X.K (.ref C) "__neg__" = some (some (.ref f))) (hf : PySem.W.isFn X.K (.ref f) = true)
    (F : FnOk X.prog X.w X.K X.mg X.base CX k f fd ps sp) (hr : Room k X.A) (hb : Binds X.K fd ps []) (hx : Passes CX X E) : UnR X (unaryOp .USub) (rOwn1 C sp E) := by
  intro pins s σ H x v Q I rx h
  obtain ⟨a, dx, fs, rfl, ha, hq⟩ := h
  cases rx
  obtain ⟨mA, J, _⟩ := ins_get I.hok ha
  obtain ⟨od, J, _⟩ := J.look
  obtain ⟨m, hF⟩ := I.fr
  refine PySem.W.ksp_neg hF I.ok.mod.kin J hs hf ?_
  exact run_fn (us := [.ref a]) (vs := [.ref a]) F hr hb .nil hx I (.cons rfl .nil) hq
/-- the other side of an own ==: what it may be -/
inductive EqTy (K : PySem.W.Frag) (C : Addr) (H : Hp) : V → Prop where
  | int {i : Int} (h : PySem.W.notFirst K C (.type "int") = true) : EqTy K C H (.int i)
  | str {x : Str} (h : PySem.W.notFirst K C (.type "str") = true) : EqTy K C H (.str x)
  | tup {a : Addr} {xs : List V} (e : H a = some (.tup xs)) (h : PySem.W.notFirst K C (.type "tuple") = true) : EqTy K C H (.ref a)
  | lst {a : Addr} {xs : List V} (e : H a = some (.lst xs)) (h : PySem.W.notFirst K C (.type "list") = true) : EqTy K C H (.ref a)
  | own {a dy : Addr} {gs : List (Str × V)} (e : H a = some (.ins C dy gs)) (h : PySem.W.notFirst K C (.ref C) = true) : EqTy K C H (.ref a)
theorem EqTy.look {pins : List (Addr × Obj)} {σ : L2.St} {H : Hp} {s : Shared} {y : V} {u : Value} (I : Inv X pins σ H s) (t : EqTy X.K C H y) (ry : RelV y u) :
    ∃ tb, PySem.W.Looks (model X.prog X.w) s.heap (typeOf u) tb ∧ PySem.W.notFirst X.K C tb = true := by
  cases t with
  | int h => obtain ⟨t, rfl⟩ := ry; exact ⟨_, PySem.W.Looks.of_pure rfl, h⟩
  | str h => obtain ⟨t, rfl⟩ := ry; exact ⟨_, PySem.W.Looks.of_pure rfl, h⟩
  | @tup a xs e h =>
    cases ry
    obtain ⟨_, its, r, o, e1, e2, _⟩ := (show ObjOk X.prog X.w H s.heap a (.tup xs) from I.hok a _ e)
    exact ⟨.type "tuple", fun A Q E s' k q => wpAny_typeOf_ref (k _ _ e1) (by rw [e2]; exact q), h⟩
  | @lst a xs e h =>
    cases ry
    obtain ⟨_, _, n, _, e1⟩ := (show ObjOk X.prog X.w H s.heap a (.lst xs) from I.hok a _ e)
    exact ⟨.type "list", fun A Q E s' k q => wpAny_typeOf_ref (k _ _ e1) q, h⟩
  | @own a dy gs e h =>
    cases ry
    obtain ⟨mB, J', _⟩ := ins_get I.hok e
    obtain ⟨od', J', _⟩ := J'.look
    exact ⟨_, J'.type, h⟩
def rOwnEq (K : PySem.W.Frag) (C : Addr) (sp : Sp) (E : XK) : R2 := fun x y H Q => ∃ a dx fs, x = .ref a ∧ H a = some (.ins C dx fs) ∧ EqTy K C H y ∧ sp [.ref a, y] H Q E
theorem op_ownEq (hs : PySem.W.findIn X.K (.ref C) "__eq__" = some (some (.ref f))) (hf : PySem.W.isFn X.K (.ref f) = true)
    (F : FnOk X.prog X.w X.K X.mg X.base CX k f fd ps sp) (hr : Room k X.A) (hb : Binds X.K fd ps []) (hx : Passes CX X E) : OpR X (compareOp .Eq) (rOwnEq X.K C sp E) := by
  intro pins s σ H x y v u Q I rx ry h
  obtain ⟨a, dx, fs, rfl, ha, ty, hq⟩ := h
  cases rx
  obtain ⟨mA, J, _⟩ := ins_get I.hok ha
  obtain ⟨od, J, _⟩ := J.look
  obtain ⟨m, hF⟩ := I.fr
  obtain ⟨tb, hl, hn⟩ := ty.look I ry
  show wpAny (model X.prog X.w) X.A (richCompare .Eq (.ref a) u) (EP X pins σ Q) X.xe s
  refine PySem.W.cmp_K (op := .Eq) hr.units0 hF I.ok.mod.kin J hl hn hs hf ?_
  refine thn (run_fn (us := [.ref a, u]) (vs := [.ref a, y]) F hr hb .nil hx I (.cons rfl (.cons ry .nil)) hq) fun w s' h => ?_
  obtain ⟨z, H', I', r, q⟩ := h
  exact back_of r ⟨z, H', I', r, q⟩
end

/-! ### whole numbers -/
/-- // by a divisor of any sign below 2 ^ 9000 -/
def CDivZ (_ j : Int) : Prop := j ≠ 0 ∧ j.natAbs.log2 < 9000
section
variable {X : Cx}
theorem op_fdivZ : OpR X (binaryOp .FloorDiv) (rI CDivZ fun i j => .int (i.fdiv j)) := opI fun i j _ _ _ _ _ hc q =>
  floordiv_int hc.1 q (.inl (PyProof.noPylong_of_log2 hc.2))
end

/-! ### small words -/
theorem iteK {c : Bool} {A B : Prop} (h : c = true) (a : A) : if c = true then A else B := by rw [h]; exact iteT a
theorem iteN {c : Bool} {A B : Prop} (h : c = false) (b : B) : if c = true then A else B := by rw [h]; exact iteF b
theorem iteB {c : Bool} {A B : Prop} (h1 : c = true → A) (h2 : c = false → B) : if c = true then A else B := by
  cases c with
  | true => exact iteT (h1 rfl)
  | false => exact iteF (h2 rfl)
theorem iteD {p : Prop} [Decidable p] {A B : Prop} (h1 : p → A) (h2 : ¬ p → B) : if decide p = true then A else B := by
  by_cases h : p
  · rw [decide_eq_true h]; exact iteT (h1 h)
  · rw [decide_eq_false h]; exact iteF (h2 h)
theorem iteDN {p : Prop} [Decidable p] {A B : Prop} (h1 : ¬ p → A) (h2 : p → B) : if (!decide p) = true then A else B := by
  by_cases h : p
  · rw [decide_eq_true h]; exact iteF (h2 h)
  · rw [decide_eq_false h]; exact iteT (h1 h)
theorem iteEq {i j : Int} {A B : Prop} (h1 : i = j → A) (h2 : i ≠ j → B) : if decide (V.int i = V.int j) = true then A else B :=
  iteD (fun h => h1 (V.int.inj h)) fun h => h2 fun e => h (by rw [e])
theorem iteEqN {i j : Int} {A B : Prop} (h1 : i ≠ j → A) (h2 : i = j → B) : if (!decide (V.int i = V.int j)) = true then A else B :=
  iteDN (fun h => h1 fun e => h (by rw [e])) fun h => h2 (V.int.inj h)
theorem iteEqNN {i j : Int} {A B : Prop} (h1 : i = j → A) (h2 : i ≠ j → B) : if (!(!decide (V.int i = V.int j))) = true then A else B := by
  rw [Bool.not_not]; exact iteEq h1 h2
/-- both ways go on alike: the second way shown first -/
theorem iteShare {c : Bool} {A B : Prop} (hb : B) (ha : c = true → B → A) : if c = true then A else B := by
  cases c with
  | true => exact iteT (ha rfl hb)
  | false => exact iteF hb
theorem unF {A B : Prop} (h : if false = true then A else B) : B := by
  rw [if_neg Bool.false_ne_true] at h
  exact h
theorem unT {A B : Prop} (h : if true = true then A else B) : A := by
  rw [if_pos rfl] at h
  exact h
theorem veq {i j : Int} (h : i = j) : decide (V.int i = V.int j) = true := decide_eq_true (by rw [h])
theorem vne {i j : Int} (h : i ≠ j) : decide (V.int i = V.int j) = false := decide_eq_false fun e => h (V.int.inj e)
theorem sm_tup {K : PySem.W.Frag} {H H' : Hp} {a : Addr} {xs : List V} (sm : Same H H') (h : SqT K H a xs) : SqT K H' a xs := by
  rcases h with (h | ⟨o, h⟩) | h
  · exact .inl (.inl (sm _ _ h))
  · exact .inl (.inr ⟨o, sm _ _ h⟩)
  · exact .inr h
theorem kit_same {K : PySem.W.Frag} (t : Value) : PySem.W.kitOne K t t = some true := by
  unfold PySem.W.kitOne
  rw [if_pos (by simp)]
theorem sm_new {H : Hp} {p : Addr} {o : HO} (h : H p = none) : Same H (upd H p o) := fun b x e => by
  rw [upd_ne (ne_of_none e h)]
  exact e
theorem ne_new {H : Hp} {a p : Addr} {o : HO} (h : H a = some o) (hp : H p = none) : a ≠ p := ne_of_none h hp

/-- x = e, e a whole number: behind it the number has a name -/
def tAsgI (te : TE) (i : Nat) : TS := fun D σ H => te σ H fun v H1 => ∃ m : Int, v = .int m ∧ ∀ n : Int, n = m → D.nx (σ.set i (some (.int n))) H1
theorem ps_setI {X : Cx} {i : Nat} {x : Str} {e : Expr} {te : TE} {pos pos' : Pos} (hN : X.N.Nodup) (hi : X.N[i]? = some x) (hx : Loc X.env.scope x) (he : PE X e te) (hs : swapsWith e (some (.Name x pos')) pos.line X.env = pure false := by rfl)
    (hf : X.fn x = true ∨ X.env.scope.names.lookup x = some .local := by first | exact .inl rfl | exact .inr rfl | assumption) : PS X (.Assign [.Name x pos'] e pos) (tAsgI te i) := by
  refine ⟨fun pins s σ H D I h => ?_⟩
  refine wpAny_Assign_Name (thn (he.run pins s σ H _ I h) fun v s1 h1 => ?_) hs
  obtain ⟨y, H1, I1, r1, m, rfl, q1⟩ := h1
  exact store_ok I1 hN hi hx r1 (fun s2 I2 => ⟨_, H1, I2, q1 m rfl⟩) hf

/-! ### defs by where they stand -/
abbrev FnW : Type := He.FnW
/-- one def of the text: where it stands (an address by the written part), its row's parts, its defaults -/
structure DefG where
  at_ : PySem.W.Frag → Addr
  name : Str
  qual : Str
  params : Arguments
  body : List Stmt
  scope : Scope
  dfl : List He.Dv := []
def fnG (K : PySem.W.Frag) (a : Addr) : FnW := match K.lookup a with
  | some ⟨_, _, .func fd, _⟩ => some (fd.name, fd.qualname, fd.params, fd.body, fd.scope, fd.globals, fd.closure, fd.builtins)
  | _ => none
def DefG.val (d : DefG) : FnW := some (d.name, d.qual, d.params, .stmts d.body, d.scope, mainGlobals, [], builtinsNs)
def DefG.dvs (K : PySem.W.Frag) (d : DefG) : List V := d.dfl.map (He.Dv.v K)
def DefG.ok (K : PySem.W.Frag) (d : DefG) : Bool := PySem.W.keepIn K (.ref (d.at_ K)) && (match K.lookup (d.at_ K) with
  | some ⟨_, _, .func fd, _⟩ => PySem.W.codeIn K fd.code d.qual && He.dflB K fd.defaults (d.dvs K)
  | _ => false)
/-- a def of the text, by its datum -/
def Dn (K : PySem.W.Frag) (d : DefG) : Prop := ∃ fd, FunD K d.name d.qual d.params d.body d.scope (d.dvs K) [] (d.at_ K) fd
theorem DefG.funD {K : PySem.W.Frag} {d : DefG} (e : fnG K (d.at_ K) = d.val) (c : d.ok K = true) : Dn K d := by
  obtain ⟨kp, c2⟩ := He.ba c
  unfold fnG at e
  cases q : K.lookup (d.at_ K) with
  | none =>
    rw [q] at c2
    cases c2
  | some o =>
    obtain ⟨oc, od, dt, osl⟩ := o
    rw [q] at c2 e
    cases dt with
    | func fd =>
      obtain ⟨n1, n2, n3, n4, n5, n6, n7, n8, n9, n10, n11, n12, n13, n14, n15⟩ := fd
      have e2 : (some (n1, n2, n3, n4, n5, n6, n7, n15) : FnW) = some (d.name, d.qual, d.params, .stmts d.body, d.scope, mainGlobals, [], builtinsNs) := e
      simp only [Option.some.injEq, Prod.mk.injEq] at e2
      obtain ⟨h1, h2, h3, h4, h5, h6, h7, h8⟩ := e2
      subst h1 h2 h3 h4 h5 h6 h7 h8
      have c3 : (PySem.W.codeIn K n13 d.qual && He.dflB K n8 (d.dvs K)) = true := c2
      obtain ⟨k1, k2⟩ := He.ba c3
      exact ⟨_, ⟨oc, od, n8, n9, n10, n11, n12, n13, n14, osl, rfl, q, k1, He.dflB_ok k2, .inl rfl⟩, kp⟩
    | _ => cases c2

/-! ### the shape of a def's promise: what a caller needs of the def at a -/
/-- the def at a is known by its promise (level k, parameters ps) -/
def OkF (P : Program) (w : World) (K : PySem.W.Frag) (mg : Str → Option Value) (base : Heap) (k : Nat) (a : Addr) (ps : List Str) (sp : Sp) : Prop :=
  ∃ fd : FuncData, FnOk P w K mg base (L2.CX P w) k a fd ps sp ∧ Binds K fd ps [] ∧ PySem.W.keepIn K (.ref a) = true
theorem okF_of {P : Program} {w : World} {K : PySem.W.Frag} {mg : Str → Option Value} {base : Heap} {k : Nat} {d : DefG} {N ps : List Str} {sp : Sp} (D : Dn K d) (hd : d.dfl = []) (S : FnScope N ps d.scope)
    (hb : ∀ (kV doc pm : Value) (an : Option Addr) (cdv ct : Value) (us : List Value), us.length = ps.length → bindArgs (PySem.W.fnOf d.name d.qual d.params d.body d.scope .none kV doc pm an cdv ct) ⟨us, []⟩ = pure (ps.zip us))
    (len : ∀ vs H Q E, sp vs H Q E → vs.length = ps.length)
    (hbody : ∀ (cdv : Value) (A : Around) (outer : List Env) (s : Shared) (H : Hp) (vs : List V) (Q : VK) (E : XK), Room k (A.deeper (envOfC d.qual d.scope s.heap.objs.size (d.at_ K) cdv)) → sp vs H Q E →
      ∃ t, PSs (cxOf (L2.CX P w) P w K mg base N d.qual d.scope (d.at_ K) cdv A outer s H E) d.body t ∧ t { nx := fun _ H' => Q .non H', rt := Q } (start N vs) H) :
    OkF P w K mg base (k + 1) (d.at_ K) ps sp := by
  obtain ⟨fd, F⟩ := D
  have e1 : d.dvs K = [] := by unfold DefG.dvs; rw [hd]; rfl
  rw [e1] at F
  exact ⟨fd, F.ok S len hbody, F.bindsN hb, F.kp⟩
/-- the same of a def with one default, of which all values or all but the last are written -/
def OkD (P : Program) (w : World) (K : PySem.W.Frag) (mg : Str → Option Value) (base : Heap) (k : Nat) (a : Addr) (ps : List Str) (dv : V) (sp : Sp) : Prop :=
  ∃ fd : FuncData, FnOk P w K mg base (L2.CX P w) k a fd ps sp ∧ Binds K fd ps [] ∧ (∃ ds, Vals [dv] ds ∧ Binds K fd ps ds) ∧ PySem.W.keepIn K (.ref a) = true
theorem okD_of {P : Program} {w : World} {K : PySem.W.Frag} {mg : Str → Option Value} {base : Heap} {k : Nat} {d : DefG} {N ps : List Str} {sp : Sp} {dv : He.Dv} (D : Dn K d) (hd : d.dfl = [dv]) (S : FnScope N ps d.scope)
    (hb0 : ∀ (T : Addr) (kV doc pm : Value) (an : Option Addr) (cdv ct : Value) (us its : List Value), us.length = ps.length → its.length = 1 →
      ∃ k, bindArgs (PySem.W.fnOf d.name d.qual d.params d.body d.scope (.ref T) kV doc pm an cdv ct) ⟨us, []⟩ = seqItems? (.ref T) >>= k ∧ k (some its.toArray) = pure (ps.zip (us ++ its.drop 1)))
    (hb1 : ∀ (T : Addr) (kV doc pm : Value) (an : Option Addr) (cdv ct : Value) (us its : List Value), us.length = ps.length - 1 → its.length = 1 →
      ∃ k, bindArgs (PySem.W.fnOf d.name d.qual d.params d.body d.scope (.ref T) kV doc pm an cdv ct) ⟨us, []⟩ = seqItems? (.ref T) >>= k ∧ k (some its.toArray) = pure (ps.zip (us ++ its.drop 0)))
    (hp : 0 < ps.length) (len : ∀ vs H Q E, sp vs H Q E → vs.length = ps.length)
    (hbody : ∀ (cdv : Value) (A : Around) (outer : List Env) (s : Shared) (H : Hp) (vs : List V) (Q : VK) (E : XK), Room k (A.deeper (envOfC d.qual d.scope s.heap.objs.size (d.at_ K) cdv)) → sp vs H Q E →
      ∃ t, PSs (cxOf (L2.CX P w) P w K mg base N d.qual d.scope (d.at_ K) cdv A outer s H E) d.body t ∧ t { nx := fun _ H' => Q .non H', rt := Q } (start N vs) H) :
    OkD P w K mg base (k + 1) (d.at_ K) ps (dv.v K) sp := by
  obtain ⟨fd, F⟩ := D
  have e1 : d.dvs K = [dv.v K] := by unfold DefG.dvs; rw [hd]; rfl
  rw [e1] at F
  obtain ⟨ds0, v0, b0⟩ := FunD.binds1 (ps := ps) F ps.length 1 (by simp) (by simp) fun T kV doc pm an cdv ct us its h1 h2 => hb0 T kV doc pm an cdv ct us its h1 (by simpa using h2)
  obtain ⟨ds1, v1, b1⟩ := FunD.binds1 (ps := ps) F (ps.length - 1) 0 (by simp) (by simp; omega) fun T kV doc pm an cdv ct us its h1 h2 => hb1 T kV doc pm an cdv ct us its h1 (by simpa using h2)
  have z : ds0 = [] := by
    have := v0.length
    simp at this
    exact List.eq_nil_of_length_eq_zero this.symm
  subst z
  exact ⟨fd, F.ok S len hbody, b0, ⟨ds1, v1, b1⟩, F.kp⟩

/-- the law's own def: no exception leaves it -/
theorem okLaw_of {P : Program} {w : World} {K : PySem.W.Frag} {mg : Str → Option Value} {k : Nat} {d : DefG} {N : List Str} {sp : Sp} (D : Dn K d) (hd : d.dfl = []) (S : FnScope N ["script"] d.scope)
    (hb : ∀ (kV doc pm : Value) (an : Option Addr) (cdv ct : Value) (us : List Value), us.length = 1 → bindArgs (PySem.W.fnOf d.name d.qual d.params d.body d.scope .none kV doc pm an cdv ct) ⟨us, []⟩ = pure ((["script"] : List Str).zip us))
    (len : ∀ vs H Q E, sp vs H Q E → vs.length = 1)
    (hbody : ∀ (base : Heap) (cdv : Value) (A : Around) (outer : List Env) (s : Shared) (H : Hp) (vs : List V) (Q : VK) (E : XK), Room k (A.deeper (envOfC d.qual d.scope s.heap.objs.size (d.at_ K) cdv)) → sp vs H Q E →
      ∃ t, PSs (cxOf CX0 P w K mg base N d.qual d.scope (d.at_ K) cdv A outer s H E) d.body t ∧ t { nx := fun _ H' => Q .non H', rt := Q } (start N vs) H) :
    ∃ fd : FuncData, (∀ (s : Shared) (v : Value), BindsTo s fd ⟨[v], []⟩ [("script", v)]) ∧ ∀ base : Heap, FnOk P w K mg base CX0 (k + 1) (d.at_ K) fd ["script"] sp := by
  obtain ⟨fd, F⟩ := D
  have e1 : d.dvs K = [] := by unfold DefG.dvs; rw [hd]; rfl
  rw [e1] at F
  exact ⟨fd, fun s v => FunD.bindsA (ps := ["script"]) F hb s [v] rfl, fun base => F.ok S len (hbody base)⟩
/-- what a law promises: True, of every script -/
def spLaw (K : PySem.W.Frag) : Sp := fun vs H Q _ => ∃ (a : Addr) (ns : List Int), vs = [.ref a] ∧ SqL K H a (ns.map V.int) ∧ ns.length ≤ 63 ∧ ∀ H', Q (.bl true) H'

/-! ### the head's facts by a Hook of our own: defs at any address -/
/-- the getter of a property of a class -/
def prAd (K : PySem.W.Frag) (C : Addr) (x : Str) : Addr := match PySem.W.findIn K (.ref C) x with
  | some (some (.ref p)) => p
  | _ => 0
def gtAd (K : PySem.W.Frag) (C : Addr) (x : Str) : Addr := match PySem.W.recIn K (prAd K C x) "property" with
  | some (.ref g :: _) => g
  | _ => 0
def propB (K : PySem.W.Frag) (C : Addr) (x : Str) : Bool :=
  He.eqO (PySem.W.findIn K (.ref C) x) (some (some (.ref (prAd K C x)))) && (He.eqO (PySem.W.specialIn K (.ref (prAd K C x)) "__get__") (some (some (.builtin "property.__get__"))) && (decide (PySem.W.takesIn K (.ref (prAd K C x)) = some true) &&
    (match PySem.W.recIn K (prAd K C x) "property" with
      | some (.ref _ :: _) => true
      | _ => false)))
theorem propB_ok {K : PySem.W.Frag} {C : Addr} {x : Str} (h : propB K C x = true) : PropOf K C x (prAd K C x) (gtAd K C x) := by
  obtain ⟨h1, h⟩ := He.ba h
  obtain ⟨h2, h⟩ := He.ba h
  obtain ⟨h3, h4⟩ := He.ba h
  refine ⟨He.eqO_ok h1, He.eqO_ok h2, of_decide_eq_true h3, ?_⟩
  unfold gtAd
  cases q : PySem.W.recIn K (prAd K C x) "property" with
  | none => rw [q] at h4; cases h4
  | some l =>
    rw [q] at h4
    cases l with
    | nil => cases h4
    | cons v r =>
      cases v with
      | ref g => exact ⟨r, rfl⟩
      | _ => cases h4
abbrev AlG : Type := Bool × List FnW
def obsG (fa : List He.Fa) (fn : List DefG) (ex : PySem.W.Frag → List Bool) (K : PySem.W.Frag) : AlG := ((fa.all fun f => f.ok K) && ((fn.all fun d => d.ok K) && (ex K).all id), fn.map fun d => fnG K (d.at_ K))
def valG (fn : List DefG) : AlG := (true, fn.map DefG.val)
def SaysG (fa : List He.Fa) (fn : List DefG) (ex : PySem.W.Frag → List Bool) (K : PySem.W.Frag) : Prop := obsG fa fn ex K = valG fn
def obsGG (n : Nat) (fa : List He.Fa) (fn : List DefG) (ex : PySem.W.Frag → List Bool) (g : Addr → Option Obj) : AlG := obsG fa fn ex (He.frG g (He.asD g n ++ [PySem.cStatics]))
def hookG (n : Nat) (fa : List He.Fa) (fn : List DefG) (ex : PySem.W.Frag → List Bool) : PySem.W.Hook where
  α := AlG
  obs := fun s => obsGG n fa fn ex s.heap.get?
  val := fun _ => valG fn
  says := fun _ h => ∃ K : PySem.W.Frag, K.In h ∧ SaysG fa fn ex K
  of := fun _ _ e => ⟨_, He.frG_in, e⟩
  keeps := fun _ _ _ ⟨K, hK, c⟩ k => ⟨K, PySem.W.Frag.In.keeps hK k, c⟩
theorem obsGG_eq {n : Nat} {fa : List He.Fa} {fn : List DefG} {ex : PySem.W.Frag → List Bool} {g : Addr → Option Obj} {s : Shared} (h : ∀ a, g a = s.heap.get? a) : obsGG n fa fn ex g = (hookG n fa fn ex).obs s := by
  have e : g = s.heap.get? := funext h
  rw [e] <;> rfl
section
variable {fa : List He.Fa} {fn : List DefG} {ex : PySem.W.Frag → List Bool} {K : PySem.W.Frag}
theorem SaysG.fact (c : SaysG fa fn ex K) (i : Nat) {f : He.Fa} (h : fa[i]? = some f := by rfl) : f.ok K = true := by
  have c1 := (He.ba (show ((fa.all fun f => f.ok K) && ((fn.all fun d => d.ok K) && (ex K).all id)) = true from congrArg (fun z : AlG => z.1) c)).1
  exact List.all_eq_true.mp c1 f (List.mem_of_getElem? h)
theorem SaysG.more (c : SaysG fa fn ex K) (i : Nat) {b : Bool} (h : (ex K)[i]? = some b := by rfl) : b = true := by
  have c1 := (He.ba (He.ba (show ((fa.all fun f => f.ok K) && ((fn.all fun d => d.ok K) && (ex K).all id)) = true from congrArg (fun z : AlG => z.1) c)).2).2
  exact List.all_eq_true.mp c1 b (List.mem_of_getElem? h)
theorem SaysG.dn (c : SaysG fa fn ex K) (i : Nat) {d : DefG} (h : fn[i]? = some d := by rfl) : Dn K d := by
  have c2 := (He.ba (He.ba (show ((fa.all fun f => f.ok K) && ((fn.all fun d => d.ok K) && (ex K).all id)) = true from congrArg (fun z : AlG => z.1) c)).2).1
  have e : fn.map (fun d => fnG K (d.at_ K)) = fn.map DefG.val := congrArg (fun z : AlG => z.2) c
  have e2 : (fn.map fun d => fnG K (d.at_ K))[i]? = (fn.map DefG.val)[i]? := by rw [e]
  rw [List.getElem?_map, List.getElem?_map, h] at e2
  exact DefG.funD (Option.some.inj e2) (List.all_eq_true.mp c2 d (List.mem_of_getElem? h))
end

/-! ### sizes -/
theorem abs_lt_mul {i j : Int} {a b : Nat} (ha : i.natAbs < 2 ^ a) (hb : j.natAbs < 2 ^ b) : (i * j).natAbs < 2 ^ (a + b) := wide_lt ha hb
theorem abs_lt_add {i j : Int} {a : Nat} (ha : i.natAbs < 2 ^ a) (hb : j.natAbs < 2 ^ a) : (i + j).natAbs < 2 ^ (a + 1) := by
  have := Int.natAbs_add_le i j
  rw [Nat.pow_succ]; omega
theorem abs_mono {i : Int} {a b : Nat} (h : i.natAbs < 2 ^ a) (hab : a ≤ b) : i.natAbs < 2 ^ b := Nat.lt_of_lt_of_le h (Nat.pow_le_pow_right (by decide) hab)
theorem sz_add {i j : Int} {a b : Nat} (ha : i.natAbs < 2 ^ a) (hb : j.natAbs < 2 ^ b) : (i + j).natAbs < 2 ^ (max a b + 1) :=
  abs_lt_add (abs_mono ha (Nat.le_max_left _ _)) (abs_mono hb (Nat.le_max_right _ _))
theorem sz_neg {i : Int} {a : Nat} (ha : i.natAbs < 2 ^ a) : (-i).natAbs < 2 ^ a := by rw [Int.natAbs_neg]; exact ha
theorem sz_sub {i j : Int} {a b : Nat} (ha : i.natAbs < 2 ^ a) (hb : j.natAbs < 2 ^ b) : (i - j).natAbs < 2 ^ (max a b + 1) := by
  rw [Int.sub_eq_add_neg]; exact sz_add ha (sz_neg hb)
theorem sz_pos {i : Int} {a : Nat} (h0 : 0 ≤ i) (h : i < 2 ^ a) : i.natAbs < 2 ^ a := by
  have : ((i.natAbs : Nat) : Int) < ((2 ^ a : Nat) : Int) := by rw [Int.natAbs_of_nonneg h0]; exact_mod_cast h
  exact_mod_cast this
theorem mulW {i j : Int} {a b : Nat} (ha : i.natAbs < 2 ^ a) (hb : j.natAbs < 2 ^ b) (h : a + b + 2 ≤ 1000000) : CMulW i j := wide_mul (a := a + 1) (b := b + 1) (abs_mono ha (by omega)) (abs_mono hb (by omega)) (by omega) (by omega) (by omega)
theorem divW {i j : Int} {b : Nat} (h : 0 < j) (hb : j.natAbs < 2 ^ b) (h9 : b ≤ 8000) : CDivW i j := wide_div (b := b + 1) h (abs_mono hb (by omega)) (by omega) (by omega)
theorem divZ {i j : Int} {b : Nat} (h : j ≠ 0) (hb : j.natAbs < 2 ^ b) (h9 : b ≤ 8000) : CDivZ i j := ⟨h, Nat.lt_of_lt_of_le (PySem.Flt.log2_lt_of (k := b + 1) (by omega) (abs_mono hb (by omega))) (by omega)⟩

/-! ### a new instance, its __init__'s promise taken in another form -/
section
variable {X : Cx} {CX : CXT} {k : Nat} {f C : Addr} {fd : FuncData} {ps : List Str} {sp : Sp} {dvs : List V} {ds : List Value} {E : XK} {x : Str} {p pos : Pos} {e : Expr} {es : List Expr} {t : TA} {B : List V → Hp → VK → Prop}
def tMk (B : List V → Hp → VK → Prop) (t : TA) : TE := fun σ H Q => t σ H fun vs H1 => B vs H1 Q
theorem pe_makeI (M : Mk X.K C f) (F : FnOk X.prog X.w X.K X.mg X.base CX k f fd ps sp) (hr : Room (k + 1) X.A) (hg : Gl X x) (hm : X.mg x = some (.ref C)) (hb : Binds X.K fd ps ds) (hd : Vals dvs ds) (hx : Passes CX X E)
    (conv : ∀ vs H1 Q, B vs H1 Q → ∀ x dx, H1 x = none → H1 dx = none → dx ≠ x → sp (.ref x :: (vs ++ dvs)) (upd (upd H1 dx (.own x)) x (.ins C dx [])) (fun v H2 => v = .non ∧ Q (.ref x) H2) E)
    (ha : PA X (e :: es) t) (hdb : (x == ("__debug__" : Str)) = false := by decide) (he : starEach (e :: es) X.env = (false, eval e X.env) :: starEach es X.env := by rfl) (hpl : (backTo pos (starEach es X.env)).any (·.1) = false := by rfl) :
    PE X (.Call (.Name x p) (e :: es) [] pos) (tMk B t) := by
  refine ⟨fun pins s σ H Q I h => ?_⟩
  refine wpAny_Call_Name_kw (ld_glob I hg hm ?_ hdb)
  refine PySem.W.callWith_K (h₀ := X.base) I.ok.mod.kin M.kp (thn (ha.run pos pins s σ H _ I h) fun us s1 hh => ?_) he hpl
  obtain ⟨vs, H1, I1, r, q⟩ := hh
  exact ⟨I1.kIn, run_make M F hr hb hd hx I1 r (conv vs H1 Q q)⟩
/-- .. in a try's body: what is wished of an exception knows the slots -/
theorem run_makeS {pins : List (Addr × Obj)} {σ : L2.St} {H : Hp} {s : Shared} {Q : VK} {us : List Value} {vs : List V} {E : L2.St → XK} (M : Mk X.K C f) (F : FnOk X.prog X.w X.K X.mg X.base CX k f fd ps sp) (hr : Room (k + 1) X.A) (hb : Binds X.K fd ps ds) (hd : Vals dvs ds)
    (hx : PassesAt CX X σ (E σ)) (I : Inv X pins σ H s) (r : Vals vs us)
    (h : ∀ x dx, H x = none → H dx = none → dx ≠ x → sp (.ref x :: (vs ++ dvs)) (upd (upd H dx (.own x)) x (.ins C dx [])) (fun v H2 => v = .non ∧ Q (.ref x) H2) (E σ)) :
    wpAny (model X.prog X.w) X.A (call (.ref C) us) (EP X pins σ Q) X.xe s := by
  have hq := h (s.heap.objs.size + 1) s.heap.objs.size (I.hok.fresh (Nat.le_succ _)) (I.hok.fresh (Nat.le_refl _)) (Nat.ne_of_lt (Nat.lt_succ_self _))
  have I2 := Inv.made (C := C) I
  have r2 : Vals (V.ref (s.heap.objs.size + 1) :: (vs ++ dvs)) (Value.ref (s.heap.objs.size + 1) :: (us ++ ds)) := .cons rfl (r.append hd)
  have hl : (Value.ref (s.heap.objs.size + 1) :: us ++ ds).length = ps.length := by
    have e := r2.length
    rw [F.len _ _ _ _ hq] at e
    exact e.symm
  refine wpAny_call (make_map (f := f) I.kIn M.makes M.init (beq_iff_eq.mp M.fn) (codeAny_mono (F.run _ X.stack _ _ ⟨Value.ref (s.heap.objs.size + 1) :: us, []⟩ (Value.ref (s.heap.objs.size + 1) :: (us ++ ds)) _ _ (E σ) (hr.make C us [])
    (I2.env0.make C us []) (hb _ (Value.ref (s.heap.objs.size + 1) :: us) I2.kIn hl) r2 hq) fun r s' hq' => ?_))
  cases r with
  | error e => exact hx pins _ _ e s' I2 hq'
  | ok fl =>
    cases fl with
    | ret u =>
      obtain ⟨v, H', I3, rv, ev, q3⟩ := I2.after hq'
      subst ev
      exact ⟨rv, ⟨V.ref (s.heap.objs.size + 1), H', I3, rfl, q3⟩⟩
    | next => exact False.elim hq'
    | brk => exact False.elim hq'
    | cont => exact False.elim hq'
def tMkS (B : L2.St → List V → Hp → VK → Prop) (t : TA) : TE := fun σ H Q => t σ H fun vs H1 => B σ vs H1 Q
theorem pe_makeIS {E : L2.St → XK} {B : L2.St → List V → Hp → VK → Prop} (M : Mk X.K C f) (F : FnOk X.prog X.w X.K X.mg X.base CX k f fd ps sp) (hr : Room (k + 1) X.A) (hg : Gl X x) (hm : X.mg x = some (.ref C)) (hb : Binds X.K fd ps ds) (hd : Vals dvs ds) (hx : ∀ σ, PassesAt CX X σ (E σ))
    (conv : ∀ σ vs H1 Q, B σ vs H1 Q → ∀ x dx, H1 x = none → H1 dx = none → dx ≠ x → sp (.ref x :: (vs ++ dvs)) (upd (upd H1 dx (.own x)) x (.ins C dx [])) (fun v H2 => v = .non ∧ Q (.ref x) H2) (E σ))
    (ha : PA X (e :: es) t) (hdb : (x == ("__debug__" : Str)) = false := by decide) (he : starEach (e :: es) X.env = (false, eval e X.env) :: starEach es X.env := by rfl) (hpl : (backTo pos (starEach es X.env)).any (·.1) = false := by rfl) :
    PE X (.Call (.Name x p) (e :: es) [] pos) (tMkS B t) := by
  refine ⟨fun pins s σ H Q I h => ?_⟩
  refine wpAny_Call_Name_kw (ld_glob I hg hm ?_ hdb)
  refine PySem.W.callWith_K (h₀ := X.base) I.ok.mod.kin M.kp (thn (ha.run pos pins s σ H _ I h) fun us s1 hh => ?_) he hpl
  obtain ⟨vs, H1, I1, r, q⟩ := hh
  exact ⟨I1.kIn, run_makeS M F hr hb hd (hx σ) I1 r (conv σ vs H1 Q q)⟩
end
/-- what a new instance's heap keeps -/
theorem same_made {H : Hp} {p dp C : Addr} {o : HO} (np : H p = none) (nd : H dp = none) (h : dp ≠ p) : Same H (upd (upd (upd H dp (.own p)) p (.ins C dp [])) p o) := fun b x e => by
  rw [upd_ne (ne_of_none e np), upd_ne (ne_of_none e np), upd_ne (ne_of_none e nd)]
  exact e
/-! ### caught errors -/
theorem pss_hyp {X : Cx} {p : Prop} {b : List Stmt} {t : TS} (h : p → PSs X b t) : PSs X b (fun D σ H => p ∧ t D σ H) :=
  ⟨fun pins s σ H D I q => (h q.1).run pins s σ H D I q.2⟩
def excCB (K : PySem.W.Frag) (D : Addr) : Bool :=
  He.eqO (PySem.W.findIn K (.ref D) "__getattribute__") (some (some (.builtin "BaseException.__getattribute__"))) && (He.eqO (PySem.W.findIn K (.ref D) "__getattr__") (some none) && (decide (PySem.W.subIn K (.ref D) (.type "BaseException") = some true) &&
    (PySem.W.hasDictIn K D && (He.eqO (PySem.W.findIn K (.ref D) "__class__") (some (some (.builtin "object.__class__"))) && (He.eqO (PySem.W.specialIn K (.builtin "object.__class__") "__get__") (some (some (.builtin "getset_descriptor.__get__"))) &&
      (decide (PySem.W.takesIn K (.builtin "object.__class__") = some true) && decide (PySem.W.mroIn K D (.type "object") = some true)))))))
theorem excCB_ok {K : PySem.W.Frag} {D : Addr} (h : excCB K D = true) : ExcC K D := by
  obtain ⟨h1, h⟩ := He.ba h
  obtain ⟨h2, h⟩ := He.ba h
  obtain ⟨h3, h⟩ := He.ba h
  obtain ⟨h4, h⟩ := He.ba h
  obtain ⟨h5, h⟩ := He.ba h
  obtain ⟨h6, h⟩ := He.ba h
  obtain ⟨h7, h8⟩ := He.ba h
  exact ⟨He.eqO_ok h1, He.eqO_ok h2, of_decide_eq_true h3, h4, He.eqO_ok h5, He.eqO_ok h6, of_decide_eq_true h7, of_decide_eq_true h8⟩
theorem iff_false {r : Bool} {p : Prop} (h : r = true ↔ p) (n : ¬ p) : r = false := by
  cases r with
  | true => exact absurd (h.mp rfl) n
  | false => rfl
theorem vnn {i j : Int} (h : i = j) : (!decide (V.int i = V.int j)) = false := by rw [veq h]; rfl
theorem vny {i j : Int} (h : i ≠ j) : (!decide (V.int i = V.int j)) = true := by rw [vne h]; rfl
theorem vbi {i j k l : Int} (h : i = j ↔ k = l) : (!decide (V.bl (decide (V.int i = V.int j)) = V.bl (decide (V.int k = V.int l)))) = false := by
  have e : decide (V.int i = V.int j) = decide (V.int k = V.int l) := by
    by_cases c : i = j
    · rw [veq c, veq (h.mp c)]
    · rw [vne c, vne fun z => c (h.mpr z)]
  rw [e]
  simp
/-! ### o.m(e, ..) in a try's body: what is wished of an exception knows the slots -/
def tMethE (C : Addr) (m : Str) (sp : Sp) (E : L2.St → XK) (ta : TE) (t : TA) : TE := fun σ H Q => ta σ H fun x H1 => ∃ a dx fs, x = .ref a ∧ H1 a = some (.ins C dx fs) ∧ fs.lookup m = none ∧
  t σ H1 fun vs H2 => sp (x :: vs) H2 Q (E σ)
section
variable {X : Cx} {CX : CXT} {k : Nat} {f C : Addr} {fd : FuncData} {ps : List Str} {sp : Sp} {x m : Str} {p pos apos : Pos} {e o : Expr} {es : List Expr} {ta : TE} {t : TA} {E : L2.St → XK}
theorem pe_methE {pl : Sem Bool} (he : PE X o ta) (c : Cls X.K C) (hm : Meth X.K C m f) (F : FnOk X.prog X.w X.K X.mg X.base CX k f fd ps sp) (hr : Room k X.A)
    (hb : Binds X.K fd ps []) (hx : ∀ σ, PassesAt CX X σ (E σ)) (ha : PA X (e :: es) t)
    (hst : starEach (e :: es) X.env = (false, eval e X.env) :: starEach es X.env := by rfl)
    (hpl : (backTo pos (starEach es X.env)).any (·.1) = false := by rfl)
    (ht : eval (.Call (.Attribute o m apos) (e :: es) [] pos) X.env = (do
      let ov ← eval o X.env
      standAt apos.atName
      let (f, first) ← holding [ov] (getMethod ov m pl)
      callWith pos f first (backTo pos (starEach (e :: es) X.env)) (backToKw pos (keywordEach [] X.env))) := by rfl) :
    PE X (.Call (.Attribute o m apos) (e :: es) [] pos) (tMethE C m sp E ta t) := by
  refine ⟨fun pins s σ H Q I h => ?_⟩
  refine PySem.W.methodCall_KW (pl := pl) (thn (he.run pins s σ H _ I h) fun u s1 hh => ?_) ht
  obtain ⟨x, H1, I1, rx, a, dx, fs, ex, ea, l, q⟩ := hh
  subst ex
  have eu : u = Value.ref a := rx
  subst eu
  refine getmeth_ok I1 ea c hm l ?_
  refine PySem.W.callWith_K (first := [.ref a]) (h₀ := X.base) I.ok.mod.kin hm.kp (thn (ha.run pos pins s1 σ H1 _ I1 q) fun us s2 h2 => ?_) hst hpl
  obtain ⟨vs, H2, I2, r, q2⟩ := h2
  exact ⟨I2.kIn, run_fnS (us := .ref a :: us) (vs := .ref a :: vs) F hr hb (hx σ) I2 (.cons rfl r) q2⟩
end
theorem bit_one (n : Nat) : PySem.Builtin.bitAnd (n : Int) 1 = ((n % 2 : Nat) : Int) := by
  show ((n &&& 1 : Nat) : Int) = _
  rw [Nat.and_one_is_mod]
/-- the size of a power -/
theorem pow_bits {b : Int} {k : Nat} (h : b.natAbs < 2 ^ k) (r : Nat) : (b ^ r).natAbs < 2 ^ (k * r + 1) := by
  rw [Int.natAbs_pow]
  have z := Nat.pow_le_pow_left (Nat.le_of_lt h) r
  rw [← Nat.pow_mul] at z
  have : 2 ^ (k * r) < 2 ^ (k * r + 1) := Nat.pow_lt_pow_right (by decide) (by omega)
  omega
theorem get_map {ns : List Int} {i : Nat} (h : i < ns.length) : ∃ x, ns[i]? = some x ∧ (ns.map V.int)[i]? = some (.int x) :=
  ⟨ns[i], List.getElem?_eq_getElem h, by rw [List.getElem?_map, List.getElem?_eq_getElem h]; rfl⟩
theorem len_map {ns : List Int} : (ns.map V.int).length = ns.length := List.length_map ..
theorem map_at {ns : List Int} {i : Nat} {x : Int} (h : ns[i]? = some x) : (ns.map V.int)[i]? = some (.int x) := by rw [List.getElem?_map, h]; rfl
theorem cut_lo {xs : List V} {m : Nat} (h : m ≤ xs.length) : cutV xs none (some (m : Int)) = xs.take m := by
  have e : HT.sIx xs.length xs.length (some (m : Int)) = m := by rw [HT.sIx_nat]; omega
  simp [cutV, e, HT.sIx_none]
theorem cut_hi {xs : List V} {m : Nat} (h : m ≤ xs.length) : cutV xs (some (m : Int)) none = xs.drop m := by
  have e : HT.sIx xs.length 0 (some (m : Int)) = m := by rw [HT.sIx_nat]; omega
  simp only [cutV, e, HT.sIx_none]
  exact List.take_of_length_le (by simp)
/-- within a comprehension: the written part said -/
theorem pe_fldK {X : Cx} {K : PySem.W.Frag} {o : Expr} {ta : TE} {f : Str} {pos : Pos} (hK : X.K = K) (h : PE X (.Attribute o f pos) (tFld X.K ta f)) : PE X (.Attribute o f pos) (tFld K ta f) := by
  subst hK
  exact h
end CB

namespace CB
/-- a / b is n / d in lowest terms, with a positive denominator -/
structure Fq (n d a b : Int) : Prop where
  eq : a * d = n * b
  pos : 0 < b
  cop : Nat.gcd a.natAbs b.natAbs = 1

theorem dvd_of_cop {a b c : Int} (h : b ∣ a * c) (g : Nat.gcd a.natAbs b.natAbs = 1) : b ∣ c := by
  have h1 : b.natAbs ∣ a.natAbs * c.natAbs := by rw [← Int.natAbs_mul]; exact Int.natAbs_dvd_natAbs.mpr h
  have h2 : Nat.Coprime b.natAbs a.natAbs := by rw [Nat.coprime_iff_gcd_eq_one, Nat.gcd_comm]; exact g
  exact Int.natAbs_dvd_natAbs.mp (h2.dvd_of_dvd_mul_left h1)
theorem Fq.den_dvd {n d a b : Int} (f : Fq n d a b) : b ∣ d := dvd_of_cop ⟨n, by have := f.eq; grind⟩ f.cop
theorem Fq.num_dvd {n d a b : Int} (f : Fq n d a b) : a ∣ n := by
  have h : a ∣ b * n := ⟨d, by have := f.eq; grind⟩
  exact dvd_of_cop h (by rw [Nat.gcd_comm]; exact f.cop)
theorem natAbs_le_of_dvd {a b : Int} (h : a ∣ b) (hb : b ≠ 0) : a.natAbs ≤ b.natAbs := Nat.le_of_dvd (by omega) (Int.natAbs_dvd_natAbs.mpr h)
theorem Fq.den_le {n d a b : Int} (f : Fq n d a b) (hd : d ≠ 0) : b.natAbs ≤ d.natAbs := natAbs_le_of_dvd f.den_dvd hd
theorem Fq.num_le {n d a b : Int} (f : Fq n d a b) (hd : d ≠ 0) : a.natAbs ≤ n.natAbs := by
  by_cases hn : n = 0
  · have e := f.eq
    rw [hn, Int.zero_mul] at e
    rcases Int.mul_eq_zero.mp e with e | e
    · rw [e]; exact Nat.zero_le _
    · exact absurd e hd
  · exact natAbs_le_of_dvd f.num_dvd hn
theorem Fq.uniq {n d a b a' b' : Int} (f : Fq n d a b) (f' : Fq n d a' b') (hd : d ≠ 0) : a = a' ∧ b = b' := by
  have h1 := f.eq
  have h2 := f'.eq
  have e : a * b' = a' * b := by
    have : (a * b') * d = (a' * b) * d := by grind
    exact Int.eq_of_mul_eq_mul_right hd this
  have p := f.pos
  have p' := f'.pos
  have d1 : b ∣ b' := dvd_of_cop (a := a) ⟨a', by grind⟩ f.cop
  have d2 : b' ∣ b := dvd_of_cop (a := a') ⟨a, by grind⟩ f'.cop
  have e2 : b = b' := by
    have x1 := natAbs_le_of_dvd d1 (by omega)
    have x2 := natAbs_le_of_dvd d2 (by omega)
    omega
  subst e2
  exact ⟨Int.eq_of_mul_eq_mul_right (by omega) e, rfl⟩
/-- the same number by another pair -/
theorem Fq.conv {n d a b n' d' : Int} (f : Fq n d a b) (hd : d ≠ 0) (h : n * d' = n' * d) : Fq n' d' a b := by
  refine ⟨?_, f.pos, f.cop⟩
  have e := f.eq
  have : (a * d') * d = (n' * b) * d := by grind
  exact Int.eq_of_mul_eq_mul_right hd this
theorem Fq.self {a b : Int} (p : 0 < b) (c : Nat.gcd a.natAbs b.natAbs = 1) : Fq a b a b := ⟨rfl, p, c⟩
/-- what __init__ stores -/
theorem fq_init {n d c : Int} (hd : d ≠ 0) (hc : c = if d < 0 then -((Nat.gcd n.natAbs d.natAbs : Nat) : Int) else ((Nat.gcd n.natAbs d.natAbs : Nat) : Int)) : c ≠ 0 ∧ c.natAbs ≤ d.natAbs ∧ Fq n d (n.fdiv c) (d.fdiv c) := by
  have gp : 0 < Nat.gcd n.natAbs d.natAbs := Nat.gcd_pos_of_pos_right _ (by omega)
  have g1 : c.natAbs = Nat.gcd n.natAbs d.natAbs := by rw [hc]; split <;> omega
  have c0 : c ≠ 0 := by omega
  have cn : c ∣ n := Int.natAbs_dvd_natAbs.mp (by rw [g1]; exact Nat.gcd_dvd_left _ _)
  have cd : c ∣ d := Int.natAbs_dvd_natAbs.mp (by rw [g1]; exact Nat.gcd_dvd_right _ _)
  obtain ⟨n', hn⟩ := cn
  obtain ⟨d', hd'⟩ := cd
  have e1 : n.fdiv c = n' := by rw [hn, Int.mul_fdiv_cancel_left _ c0]
  have e2 : d.fdiv c = d' := by rw [hd', Int.mul_fdiv_cancel_left _ c0]
  refine ⟨c0, natAbs_le_of_dvd ⟨d', hd'⟩ hd, ?_⟩
  rw [e1, e2]
  refine ⟨by grind, ?_, ?_⟩
  · refine Decidable.byContradiction fun hn => ?_
    have hn : d' ≤ 0 := by omega
    by_cases h : d < 0
    · have hc' : c < 0 := by rw [hc, if_pos h]; omega
      have z := Int.mul_nonneg (show 0 ≤ -c by omega) (show 0 ≤ -d' by omega)
      rw [Int.neg_mul_neg] at z
      omega
    · have hc' : 0 < c := by rw [hc, if_neg h]; omega
      have z := Int.mul_nonneg (show 0 ≤ c by omega) (show 0 ≤ -d' by omega)
      rw [Int.mul_neg] at z
      omega
  · have z := Nat.gcd_mul_left c.natAbs n'.natAbs d'.natAbs
    rw [← Int.natAbs_mul, ← Int.natAbs_mul, ← hn, ← hd', ← g1] at z
    have : 0 < c.natAbs := by omega
    exact Nat.eq_of_mul_eq_mul_left this (by omega)

abbrev Cop (a b : Int) : Prop := Nat.gcd a.natAbs b.natAbs = 1
theorem Cop.dvd {a b d : Int} (h : Cop a b) (h1 : d ∣ a) (h2 : d ∣ b) : d ∣ 1 := by
  have z := Nat.dvd_gcd (Int.natAbs_dvd_natAbs.mpr h1) (Int.natAbs_dvd_natAbs.mpr h2)
  have z2 : d.natAbs ∣ (1 : Int).natAbs := by rw [h] at z; exact z
  exact Int.natAbs_dvd_natAbs.mp z2
theorem cop_of {a b : Int} (h : ∀ d : Int, d ∣ a → d ∣ b → d ∣ 1) : Cop a b := by
  have z := h ((Nat.gcd a.natAbs b.natAbs : Nat) : Int) (Int.natAbs_dvd_natAbs.mp (by rw [Int.natAbs_natCast]; exact Nat.gcd_dvd_left _ _)) (Int.natAbs_dvd_natAbs.mp (by rw [Int.natAbs_natCast]; exact Nat.gcd_dvd_right _ _))
  have z2 := Int.natAbs_dvd_natAbs.mpr z
  rw [Int.natAbs_natCast] at z2
  exact Nat.eq_one_of_dvd_one z2
theorem Cop.symm {a b : Int} (h : Cop a b) : Cop b a := by unfold Cop; rw [Nat.gcd_comm]; exact h
theorem Cop.left {a a' b : Int} (h : Cop a b) (d : a' ∣ a) : Cop a' b := cop_of fun x h1 h2 => h.dvd (Int.dvd_trans h1 d) h2
theorem Cop.right {a b b' : Int} (h : Cop a b) (d : b' ∣ b) : Cop a b' := cop_of fun x h1 h2 => h.dvd h1 (Int.dvd_trans h2 d)
theorem Cop.mul {a b c : Int} (h1 : Cop a b) (h2 : Cop a c) : Cop a (b * c) := cop_of fun x k1 k2 => by
  have k3 : x ∣ c := dvd_of_cop (a := b) k2 (cop_of fun y y1 y2 => h1.dvd (Int.dvd_trans y2 k1) y1)
  exact h2.dvd k1 k3
theorem Cop.mull {a b c : Int} (h1 : Cop a c) (h2 : Cop b c) : Cop (a * b) c := (h1.symm.mul h2.symm).symm
theorem cop_one {a : Int} : Cop a 1 := cop_of fun _ _ h => h
/-- two numbers by their greatest common divisor -/
theorem gcd_parts {n d : Int} (h : n ≠ 0 ∨ d ≠ 0) : ∃ (g x y : Int), g = ((Nat.gcd n.natAbs d.natAbs : Nat) : Int) ∧ 0 < g ∧ n = g * x ∧ d = g * y ∧ Cop x y ∧ n / g = x ∧ d / g = y := by
  have gp : 0 < Nat.gcd n.natAbs d.natAbs := by
    rcases h with h | h
    · exact Nat.gcd_pos_of_pos_left _ (by omega)
    · exact Nat.gcd_pos_of_pos_right _ (by omega)
  obtain ⟨x, hx⟩ : ((Nat.gcd n.natAbs d.natAbs : Nat) : Int) ∣ n := Int.natAbs_dvd_natAbs.mp (by rw [Int.natAbs_natCast]; exact Nat.gcd_dvd_left _ _)
  obtain ⟨y, hy⟩ : ((Nat.gcd n.natAbs d.natAbs : Nat) : Int) ∣ d := Int.natAbs_dvd_natAbs.mp (by rw [Int.natAbs_natCast]; exact Nat.gcd_dvd_right _ _)
  generalize hg : ((Nat.gcd n.natAbs d.natAbs : Nat) : Int) = g at hx hy
  have g0 : 0 < g := by omega
  refine ⟨g, x, y, rfl, g0, hx, hy, ?_, ?_, ?_⟩
  · have z := Nat.gcd_mul_left g.natAbs x.natAbs y.natAbs
    rw [← Int.natAbs_mul, ← Int.natAbs_mul, ← hx, ← hy] at z
    have g1 : g.natAbs = Nat.gcd n.natAbs d.natAbs := by rw [← hg, Int.natAbs_natCast]
    rw [← g1] at z
    have : 0 < g.natAbs := by omega
    exact Nat.eq_of_mul_eq_mul_left this (by omega)
  · rw [hx, Int.mul_ediv_cancel_left _ (by omega)]
  · rw [hy, Int.mul_ediv_cancel_left _ (by omega)]
/-- the sum as the program reckons it -/
theorem fq_add {a1 b1 a2 b2 g sc num sh : Int} (p1 : 0 < b1) (p2 : 0 < b2) (c1 : Cop a1 b1) (c2 : Cop a2 b2) (hg : g = ((Nat.gcd b1.natAbs b2.natAbs : Nat) : Int)) (hs : sc = b2 / g) (hn : num = a1 * sc + a2 * (b1 / g))
    (hh : sh = ((Nat.gcd num.natAbs g.natAbs : Nat) : Int)) : 0 < g ∧ 0 < sh ∧ Fq (a1 * b2 + a2 * b1) (b1 * b2) (num / sh) (b1 / sh * sc) := by
  obtain ⟨g', x, y, e1, g0, ex, ey, cxy, dx, dy⟩ := gcd_parts (n := b1) (d := b2) (.inl (by omega))
  rw [← hg] at e1
  subst e1
  rw [dx] at hn
  rw [dy] at hs
  subst hs
  obtain ⟨s', m, t, e2, s0, em, et, cmt, dm, dt⟩ := gcd_parts (n := num) (d := g') (.inr (by omega))
  rw [← hh] at e2
  subst e2
  have ebs : b1 / s' = t * x := by
    have e : b1 = s' * (t * x) := by rw [ex, et]; grind
    rw [e, Int.mul_ediv_cancel_left _ (by omega)]
  refine ⟨g0, s0, ?_⟩
  rw [dm, ebs]
  have x0 : 0 < x := Decidable.byContradiction fun h => by
    have z := Int.mul_nonneg (show 0 ≤ g' by omega) (show 0 ≤ -x by omega)
    rw [Int.mul_neg] at z
    omega
  have y0 : 0 < sc := Decidable.byContradiction fun h => by
    have z := Int.mul_nonneg (show 0 ≤ g' by omega) (show 0 ≤ -sc by omega)
    rw [Int.mul_neg] at z
    omega
  have t0 : 0 < t := Decidable.byContradiction fun h => by
    have z := Int.mul_nonneg (show 0 ≤ s' by omega) (show 0 ≤ -t by omega)
    rw [Int.mul_neg] at z
    omega
  refine ⟨by grind, Int.mul_pos (Int.mul_pos t0 x0) y0, ?_⟩
  have nx : Cop num x := cop_of fun d k1 k2 => by
    have k3 : d ∣ a1 * sc := by
      have : a1 * sc = num - a2 * x := by rw [hn]; omega
      rw [this]
      exact Int.dvd_sub k1 (Int.dvd_mul_of_dvd_right k2)
    have k4 : d ∣ sc := dvd_of_cop (a := a1) k3 ((c1.right ⟨g', by rw [ex]; grind⟩ : Cop a1 x).right k2)
    exact cxy.dvd k2 k4
  have ny : Cop num sc := cop_of fun d k1 k2 => by
    have k3 : d ∣ a2 * x := by
      have : a2 * x = num - a1 * sc := by rw [hn]; omega
      rw [this]
      exact Int.dvd_sub k1 (Int.dvd_mul_of_dvd_right k2)
    have k4 : d ∣ x := dvd_of_cop (a := a2) k3 ((c2.right ⟨g', by rw [ey]; grind⟩ : Cop a2 sc).right k2)
    exact cxy.dvd k4 k2
  have md : m ∣ num := ⟨s', by rw [em]; grind⟩
  exact (cmt.mul (nx.left md)).mul (ny.left md)
/-- the product as the program reckons it -/
theorem fq_mul {a1 b1 a2 b2 l r : Int} (p1 : 0 < b1) (p2 : 0 < b2) (c1 : Cop a1 b1) (c2 : Cop a2 b2) (hl : l = ((Nat.gcd a1.natAbs b2.natAbs : Nat) : Int)) (hr : r = ((Nat.gcd a2.natAbs b1.natAbs : Nat) : Int)) :
    0 < l ∧ 0 < r ∧ Fq (a1 * a2) (b1 * b2) (a1 / l * (a2 / r)) (b1 / r * (b2 / l)) := by
  obtain ⟨l', x, y, e1, l0, ex, ey, cxy, dx, dy⟩ := gcd_parts (n := a1) (d := b2) (.inr (by omega))
  rw [← hl] at e1
  subst e1
  obtain ⟨r', z, w, e2, r0, ez, ew, czw, dz, dw⟩ := gcd_parts (n := a2) (d := b1) (.inr (by omega))
  rw [← hr] at e2
  subst e2
  rw [dx, dy, dz, dw]
  have y0 : 0 < y := Decidable.byContradiction fun h => by
    have q := Int.mul_nonneg (show 0 ≤ l' by omega) (show 0 ≤ -y by omega)
    rw [Int.mul_neg] at q
    omega
  have w0 : 0 < w := Decidable.byContradiction fun h => by
    have q := Int.mul_nonneg (show 0 ≤ r' by omega) (show 0 ≤ -w by omega)
    rw [Int.mul_neg] at q
    omega
  refine ⟨l0, r0, by grind, Int.mul_pos w0 y0, ?_⟩
  have xw : Cop x w := (c1.left ⟨l', by rw [ex]; grind⟩).right ⟨r', by rw [ew]; grind⟩
  have zy : Cop z y := (c2.left ⟨r', by rw [ez]; grind⟩).right ⟨l', by rw [ey]; grind⟩
  exact (xw.mull czw).mul (cxy.mull zy)
theorem fq_neg {a b : Int} (p : 0 < b) (c : Cop a b) : Fq (-a) b (-a) b := ⟨rfl, p, by unfold Cop at c; rw [Int.natAbs_neg]; exact c⟩
/-- two pairs in lowest terms of the same number -/
theorem Fq.same {n d a b n' d' a' b' : Int} (f : Fq n d a b) (f' : Fq n' d' a' b') (hd : d ≠ 0) (hd' : d' ≠ 0) (h : n * d' = n' * d) : a = a' ∧ b = b' :=
  (f.conv hd h).uniq f' hd'
theorem Fq.back {n d a b n' d' a' b' : Int} (f : Fq n d a b) (f' : Fq n' d' a' b') (h : a = a' ∧ b = b') : n * d' = n' * d := by
  obtain ⟨rfl, rfl⟩ := h
  have e1 := f.eq
  have e2 := f'.eq
  have p := f.pos
  have : (n * d') * b = (n' * d) * b := by grind
  exact Int.eq_of_mul_eq_mul_right (by omega) this
theorem Fq.zero_iff {n d a b : Int} (f : Fq n d a b) (hd : d ≠ 0) : a = 0 ↔ n = 0 := by
  have e := f.eq
  have p := f.pos
  constructor
  · rintro rfl
    rw [Int.zero_mul] at e
    rcases Int.mul_eq_zero.mp e.symm with z | z
    · exact z
    · omega
  · rintro rfl
    rw [Int.zero_mul] at e
    rcases Int.mul_eq_zero.mp e with z | z
    · exact z
    · exact absurd z hd
theorem pos_of_mul {a b : Int} (h : 0 < a * b) (hb : 0 < b) : 0 < a := Decidable.byContradiction fun c => by
  have z := Int.mul_nonneg (show 0 ≤ -a by omega) (show 0 ≤ b by omega)
  rw [Int.neg_mul] at z
  omega
theorem nonneg_of_mul {a b : Int} (h : 0 ≤ a * b) (hb : 0 < b) : 0 ≤ a := Decidable.byContradiction fun c => by
  have z := Int.mul_pos (show 0 < -a by omega) hb
  rw [Int.neg_mul] at z
  omega
theorem Fq.pos_iff {n d a b : Int} (f : Fq n d a b) (hd : 0 < d) : 0 < a ↔ 0 < n := by
  have e := f.eq
  have p := f.pos
  constructor
  · intro h
    exact pos_of_mul (by rw [← e]; exact Int.mul_pos h hd) p
  · intro h
    exact pos_of_mul (by rw [e]; exact Int.mul_pos h p) hd
/-- the floor, by the pair that was given -/
theorem Fq.low {n d a b : Int} (f : Fq n d a b) (hd : 0 < d) : a / b * d ≤ n ∧ n < (a / b + 1) * d := by
  have e := f.eq
  have p := f.pos
  have h1 := Int.ediv_mul_le a (show b ≠ 0 by omega)
  have h2 := Int.lt_ediv_add_one_mul_self a p
  generalize a / b = q at h1 h2 ⊢
  constructor
  · have z := nonneg_of_mul (a := n - q * d) (b := b) (by
      have z := Int.mul_nonneg (show 0 ≤ a - q * b by omega) (show 0 ≤ d by omega)
      have e2 : (n - q * d) * b = (a - q * b) * d := by grind
      omega) p
    omega
  · have z := pos_of_mul (a := (q + 1) * d - n) (b := b) (by
      have z := Int.mul_pos (show 0 < (q + 1) * b - a by omega) hd
      have e2 : ((q + 1) * d - n) * b = ((q + 1) * b - a) * d := by grind
      omega) p
    omega
/-- whole where the denominator is 1 -/
theorem Fq.whole_iff {n d a b : Int} (f : Fq n d a b) (hd : 0 < d) : b = 1 ↔ a / b * d = n := by
  constructor
  · rintro rfl
    rw [Int.ediv_one]
    have e := f.eq
    omega
  · intro h
    have g : Fq n d (a / b) 1 := ⟨by rw [h, Int.mul_one], by decide, cop_one⟩
    exact (f.uniq g (by omega)).2
theorem Cop.powl {a b : Int} (h : Cop a b) (n : Nat) : Cop (a ^ n) b := by
  induction n with
  | zero => rw [Int.pow_zero]; exact cop_one.symm
  | succ n ih => rw [Int.pow_succ]; exact ih.mull h
theorem Cop.pow {a b : Int} (h : Cop a b) (n : Nat) : Cop (a ^ n) (b ^ n) := ((h.powl n).symm.powl n).symm
theorem fq_pow {a b : Int} (p : 0 < b) (c : Cop a b) (n : Nat) : Fq (a ^ n) (b ^ n) (a ^ n) (b ^ n) := ⟨rfl, Int.pow_pos p, c.pow n⟩
theorem mul_pow_int (a b : Int) (n : Nat) : (a * b) ^ n = a ^ n * b ^ n := by
  induction n with
  | zero => rw [Int.pow_zero, Int.pow_zero, Int.pow_zero, Int.mul_one]
  | succ n ih => rw [Int.pow_succ, Int.pow_succ, Int.pow_succ, ih]; grind
/-- the same power of an equal pair -/
theorem Fq.pow {n d a b n' d' : Int} (f : Fq n d a b) (hd : d ≠ 0) (e : Nat) (h1 : n' = n ^ e) (h2 : d' = d ^ e) : Fq n' d' (a ^ e) (b ^ e) := by
  subst h1 h2
  refine ⟨?_, Int.pow_pos f.pos, Cop.pow f.cop e⟩
  rw [← mul_pow_int, ← mul_pow_int, f.eq]
theorem pow_ne {a : Int} (h : a ≠ 0) (n : Nat) : a ^ n ≠ 0 := by
  induction n with
  | zero => rw [Int.pow_zero]; decide
  | succ n ih => rw [Int.pow_succ]; exact Int.mul_ne_zero ih h
/-- the sum of two numbers, by other pairs of theirs -/
theorem Fq.add {a b n1 d1 x y n2 d2 n d : Int} (f1 : Fq a b n1 d1) (f2 : Fq x y n2 d2) (f : Fq (n1 * d2 + n2 * d1) (d1 * d2) n d) : Fq (a * y + x * b) (b * y) n d := by
  have p1 := f1.pos
  have p2 := f2.pos
  have e1 := f1.eq
  have e2 := f2.eq
  refine f.conv (Int.mul_ne_zero (by omega) (by omega)) ?_
  grind
theorem Fq.mul {a b n1 d1 x y n2 d2 n d : Int} (f1 : Fq a b n1 d1) (f2 : Fq x y n2 d2) (f : Fq (n1 * n2) (d1 * d2) n d) : Fq (a * x) (b * y) n d := by
  have p1 := f1.pos
  have p2 := f2.pos
  have e1 := f1.eq
  have e2 := f2.eq
  refine f.conv (Int.mul_ne_zero (by omega) (by omega)) ?_
  grind
end CB

namespace CB
open PySem PySem.Spec PyProof.Rows L2
def rComb : List V → Hp → VK → Prop := fun vs H Q => ∃ a b : Int, vs = [.int a, .int b] ∧ 0 ≤ a ∧ 0 ≤ b ∧ a < 2 ^ 64 ∧ (b ≤ 9000 ∨ a ≤ 18000) ∧ Q (.int (PySem.W.mcComb a b)) H
theorem cr_comb {X : Cx} : CallR X (.builtin "math.comb") rComb := by
  intro pins s σ H vs us Q I r h
  obtain ⟨a, b, rfl, h1, h2, h3, h4, q⟩ := h
  obtain ⟨t, u, rfl⟩ := Vals.int2 r
  exact PySem.W.mc_comb h1 h2 h3 h4 fun _ => ⟨.int _, H, I.tok _, ⟨_, rfl⟩, q⟩
def rPerm : List V → Hp → VK → Prop := fun vs H Q => ∃ a b : Int, vs = [.int a, .int b] ∧ 0 ≤ a ∧ 0 ≤ b ∧ a < 2 ^ 64 ∧ b ≤ 20000 ∧ Q (.int (PySem.W.mcPerm a b)) H
theorem cr_perm {X : Cx} : CallR X (.builtin "math.perm") rPerm := by
  intro pins s σ H vs us Q I r h
  obtain ⟨a, b, rfl, h1, h2, h3, h4, q⟩ := h
  obtain ⟨t, u, rfl⟩ := Vals.int2 r
  exact PySem.W.mc_perm h1 h2 h3 h4 fun _ => ⟨.int _, H, I.tok _, ⟨_, rfl⟩, q⟩
def rLcm : List V → Hp → VK → Prop := fun vs H Q => ∃ a b : Int, vs = [.int a, .int b] ∧ a.natAbs < 2 ^ 64 ∧ b.natAbs < 2 ^ 64 ∧ Q (.int ((Nat.lcm a.natAbs b.natAbs : Nat) : Int)) H
theorem cr_lcm {X : Cx} : CallR X (.builtin "math.lcm") rLcm := by
  intro pins s σ H vs us Q I r h
  obtain ⟨a, b, rfl, h1, h2, q⟩ := h
  obtain ⟨t, u, rfl⟩ := Vals.int2 r
  exact PySem.W.mc_lcm h1 h2 fun _ => ⟨.int _, H, I.tok _, ⟨_, rfl⟩, q⟩
/-- the triangle's entry -/
def chs : Nat → Nat → Nat
  | _, 0 => 1
  | 0, _ + 1 => 0
  | n + 1, k + 1 => chs n k + chs n (k + 1)
def fac : Nat → Nat
  | 0 => 1
  | n + 1 => (n + 1) * fac n
theorem fac_pos (n : Nat) : 0 < fac n := by
  induction n with
  | zero => decide
  | succ n ih => exact Nat.mul_pos (Nat.succ_pos n) ih
theorem chs_above : ∀ {n k : Nat}, n < k → chs n k = 0
  | _, 0, h => absurd h (Nat.not_lt_zero _)
  | 0, k + 1, _ => by simp [chs]
  | n + 1, k + 1, h => by rw [chs, chs_above (by omega), chs_above (by omega)]
theorem chs_zero (n : Nat) : chs n 0 = 1 := by cases n <;> rfl
theorem chs_self : ∀ n : Nat, chs n n = 1
  | 0 => rfl
  | n + 1 => by rw [chs, chs_self n, chs_above (Nat.lt_succ_self n)]
theorem chs_fac : ∀ {n k : Nat}, k ≤ n → chs n k * (fac k * fac (n - k)) = fac n
  | n, 0, _ => by rw [chs_zero]; simp [fac]
  | n + 1, k + 1, h => by
    have h1 := chs_fac (n := n) (k := k) (by omega)
    rw [chs, fac, show n + 1 - (k + 1) = n - k by omega]
    by_cases e : k = n
    · subst e
      rw [chs_above (Nat.lt_succ_self k), chs_self, Nat.sub_self]
      simp [fac]
    · have h2 := chs_fac (n := n) (k := k + 1) (by omega)
      have e2 : fac (n - k) = (n - k) * fac (n - (k + 1)) := by
        have : n - k = (n - (k + 1)) + 1 := by omega
        rw [this]
        rfl
      obtain ⟨d, hd⟩ : ∃ d, n - k = d := ⟨_, rfl⟩
      have e3 : n = k + d := by omega
      rw [e2] at h1 ⊢
      rw [fac] at h2
      rw [show fac (n + 1) = (n + 1) * fac n from rfl]
      rw [hd] at h1 ⊢
      generalize fac (n - (k + 1)) = x at *
      generalize fac k = y at *
      generalize chs n k = u at *
      generalize chs n (k + 1) = v at *
      generalize fac n = z at *
      subst e3
      grind
theorem chs_symm {n k : Nat} (h : k ≤ n) : chs n (n - k) = chs n k := by
  have h1 := chs_fac h
  have h2 := chs_fac (n := n) (k := n - k) (by omega)
  rw [show n - (n - k) = k by omega] at h2
  have p := Nat.mul_pos (fac_pos k) (fac_pos (n - k))
  refine Nat.eq_of_mul_eq_mul_right p ?_
  rw [h1, ← h2]
  grind
open PySem.W in
theorem fp_fac (n : Nat) : ∀ k : Nat, k ≤ n → PySem.Builtin.Math.fallingProduct (n : Int) k * (fac (n - k) : Int) = (fac n : Int)
  | 0, _ => by rw [mc_fp_zero]; simp
  | k + 1, h => by
    have ih := fp_fac n k (by omega)
    rw [mc_fp_succ]
    have e : fac (n - k) = (n - k) * fac (n - (k + 1)) := by
      have : n - k = (n - (k + 1)) + 1 := by omega
      rw [this]
      rfl
    rw [e] at ih
    rw [← ih, Int.natCast_mul]
    have : ((n - k : Nat) : Int) = (n : Int) - (k : Int) := by omega
    rw [this]
    grind
theorem fp_chs {n k : Nat} (h : k ≤ n) : PySem.Builtin.Math.fallingProduct (n : Int) k = (chs n k : Int) * (fac k : Int) := by
  have h1 := fp_fac n k h
  have h2 := chs_fac h
  have p := fac_pos (n - k)
  refine Int.eq_of_mul_eq_mul_right (a := (fac (n - k) : Int)) (by omega) ?_
  rw [h1, ← h2, Int.natCast_mul, Int.natCast_mul]
  grind
theorem fp_self (k : Nat) : PySem.Builtin.Math.fallingProduct (k : Int) k = (fac k : Int) := by
  rw [fp_chs (Nat.le_refl k), chs_self]
  simp
theorem comb_chs (n k : Nat) : PySem.W.mcComb (n : Int) (k : Int) = (chs n k : Int) := by
  by_cases h : k ≤ n
  · have one : ∀ m : Nat, m ≤ n → PySem.Builtin.Math.fallingProduct (n : Int) m / PySem.Builtin.Math.fallingProduct (m : Int) m = (chs n m : Int) := fun m hm => by
      rw [fp_chs hm, fp_self]
      exact Int.mul_ediv_cancel _ (by have := fac_pos m; omega)
    by_cases c : k ≤ n - k
    · rw [PySem.W.mcComb_at (by omega) (by omega) (m := (k : Int)) (by omega), Int.toNat_natCast]
      exact one k h
    · rw [PySem.W.mcComb_at (by omega) (by omega) (m := ((n - k : Nat) : Int)) (by omega), Int.toNat_natCast, one (n - k) (by omega), chs_symm h]
  · rw [PySem.W.mcComb_above (by omega), chs_above (by omega)]
    rfl
theorem perm_fac (n : Nat) : PySem.W.mcPerm (n : Int) (n : Int) = (fac n : Int) := by
  rw [PySem.W.mcPerm_at (by omega), Int.toNat_natCast, fp_self]
theorem chs_le (n k : Nat) : chs n k ≤ 2 ^ n := by
  induction n generalizing k with
  | zero => cases k <;> simp [chs]
  | succ n ih =>
    cases k with
    | zero => rw [chs_zero]; exact Nat.pos_of_ne_zero (by simp)
    | succ k =>
      rw [chs, Nat.pow_succ]
      have h1 := ih k
      have h2 := ih (k + 1)
      omega
theorem fac_le (n : Nat) : n ≤ 256 → fac n ≤ 2 ^ (8 * n) := by
  induction n with
  | zero => intro _; decide
  | succ n ih =>
    intro h
    have h1 := ih (by omega)
    have h2 := Nat.mul_le_mul (show n + 1 ≤ 2 ^ 8 by simpa using h) h1
    rw [← Nat.pow_add] at h2
    rw [fac, show 8 * (n + 1) = 8 + 8 * n by omega]
    exact h2
end CB

namespace CB.Z
open PySem
abbrev TZ : String := "itertools.zip_longest"
theorem zMro : mroOf (.type "itertools.zip_longest") = pure [.type "itertools.zip_longest", .type "object"] := by
  rw [mroOf_type]
  kernel_rfl
theorem zNew : typeLookup (.type "itertools.zip_longest") "__new__" = pure (some (.builtin "itertools.zip_longest.__new__")) := by
  rw [typeLookup_type, builtinLookup_eq_fast]
  kernel_rfl
theorem zSub : isSubtype (.type "itertools.zip_longest") (.type "itertools.zip_longest") = pure true := by
  rw [isSubtype_type]
  kernel_rfl
theorem zSlotInit : Slot "itertools.zip_longest" "__init__" "object.__init__" := by
  refine Slot.of (owner := "object") (n := "__init__") ?_ (by decide +kernel) (by decide +kernel) (by decide +kernel) (.inl (by decide +kernel)) ?_
  · rw [typeLookup_type, builtinLookup_eq_fast]
    kernel_rfl
  · rw [isSubtype_type]
    kernel_rfl
theorem zSlotNext : Slot "itertools.zip_longest" "__next__" "itertools.zip_longest.__next__" := by
  refine Slot.of (owner := "itertools.zip_longest") (n := "__next__") ?_ (by decide +kernel) (by decide +kernel) (by decide +kernel) (by first | exact .inr (by decide +kernel) | exact .inl (by decide +kernel)) zSub
  rw [typeLookup_type, builtinLookup_eq_fast]
  kernel_rfl
theorem zSlotIter : Slot "itertools.zip_longest" "__iter__" "itertools.zip_longest.__iter__" := by
  refine Slot.of (owner := "itertools.zip_longest") (n := "__iter__") ?_ (by decide +kernel) (by decide +kernel) (by decide +kernel) (by first | exact .inr (by decide +kernel) | exact .inl (by decide +kernel)) zSub
  rw [typeLookup_type, builtinLookup_eq_fast]
  kernel_rfl
theorem zCalled : TypeCalled "itertools.zip_longest" "itertools.zip_longest.__new__" "object.__init__" :=
  ⟨by decide +kernel, by decide +kernel, ⟨_, _, zMro⟩, madeBy_type zMro zNew (by decide +kernel), by decide +kernel, zSub, zSlotInit⟩
theorem zTypeCall (a b c : Value) : checkTypeCall "itertools.zip_longest" ⟨[a, b], [(Str.ofString "fillvalue", c)]⟩ = pure () := by kernel_rfl
theorem zNewCall (a b c : Value) : checkBuiltinCall "itertools.zip_longest.__new__" ⟨[.type "itertools.zip_longest", a, b], [(Str.ofString "fillvalue", c)]⟩ = pure () := by kernel_rfl
theorem zInitArgs (o a b c : Value) : argsOk "object.__init__" ⟨[o, a, b], [(Str.ofString "fillvalue", c)]⟩ := by
  unfold argsOk
  kernel_rfl
theorem zEntryNew : entryFor table "itertools.zip_longest.__new__" = some Builtin.«itertools.zip_longest.__new__» := entryFor_of_tree (by kernel_rfl)
theorem zEntryNext : entryFor table "itertools.zip_longest.__next__" = some Builtin.«itertools.zip_longest.__next__» := entryFor_of_tree (by kernel_rfl)
theorem zArgsNext (a : Value) : argsOk "itertools.zip_longest.__next__" ⟨[a], []⟩ := by
  unfold argsOk
  kernel_rfl
theorem zArgsIter (a : Value) : argsOk "itertools.zip_longest.__iter__" ⟨[a], []⟩ := by
  unfold argsOk
  kernel_rfl
/-! ### it is made -/
abbrev ItO (l : Addr) : Obj := { cls := .type "list_iterator", data := .fields #[.ref l, .int 0 0] }
abbrev TuO (a b : Value) : Obj := { cls := .type "tuple", data := .seq #[a, b] }
abbrev ZlO (f0 fill : Value) (run : Int) (TI TO : Addr) : Obj := { cls := .type "itertools.zip_longest", dict := none, data := .fields #[f0, .bool false, fill, rawInt run, .ref TI, .ref TO], slots := #[] }
abbrev zA (h : Heap) (l1 : Addr) : Heap := h.push (ItO l1)
abbrev zB (h : Heap) (l1 l2 : Addr) : Heap := (zA h l1).push (ItO l2)
abbrev zC (h : Heap) (l1 l2 : Addr) : Heap := (zB h l1 l2).push (TuO (.ref h.objs.size) (.ref (zA h l1).objs.size))
abbrev zD (h : Heap) (l1 l2 : Addr) : Heap := (zC h l1 l2).push (TuO .none .none)
abbrev zH (h : Heap) (l1 l2 : Addr) (c : Value) : Heap := (zD h l1 l2).push (ZlO .none c 2 (zB h l1 l2).objs.size (zC h l1 l2).objs.size)
set_option maxHeartbeats 8000000 in
theorem zMeetsNew (l1 l2 : Addr) (xs ys : Array Value) (c : Value) :
    Meets (Builtin.«itertools.zip_longest.__new__» ⟨[.type "itertools.zip_longest", .ref l1, .ref l2], [(Str.ofString "fillvalue", c)]⟩) (fun _ R s => s.heap.IsList l1 xs ∧ s.heap.IsList l2 ys ∧
      R (.ok (.ret (.ref (zD s.heap l1 l2).objs.size))) { s with heap := zH s.heap l1 l2 c }) :=
  .of_wp fun prog w A R s h => by
    obtain ⟨hp, g, d, tk, os⟩ := s
    obtain ⟨hl1, hl2, h⟩ := h
    have hsub : isSubtype (.type "itertools.zip_longest") (.type ("itertools." ++ "zip_longest")) = pure true := by
      rw [show "itertools." ++ "zip_longest" = "itertools.zip_longest" by decide]
      exact zSub
    have q1 : Heap.IsList (Shared.heap ⟨hp, g, d, tk, os⟩) l1 xs := hl1
    have q2 : Heap.IsList (Shared.heap ⟨hp.push (ItO l1), g, d, tk, os⟩) l2 ys := Heap.IsList.push hl2 _
    have e1 : (Str.ofString "fillvalue" == ("fillvalue" : Str)) = true := by decide +kernel
    wp_walk using wpAny_pyIter_list q1, wpAny_pyIter_list q2
    exact ⟨_, rfl, h⟩
end CB.Z

namespace CB.Z
open PySem
abbrev IsZl (h : Heap) (z TI TO : Addr) (f0 c : Value) (run : Int) : Prop := h.get? z = some (ZlO f0 c run TI TO)
abbrev IsTu (h : Heap) (T : Addr) (a b : Value) : Prop := h.get? T = some (TuO a b)
section
variable {prog : Program} {w : World} {A : Around} {E : Value → Shared → Prop} {s : Shared}
theorem zPool {T : Addr} {a b : Value} {Q : Array Value → Shared → Prop} (hT : IsTu s.heap T a b) (h : Q #[a, b] s) : wpAny (model prog w) A (Builtin.Itertools.itPoolItems (.ref T)) Q E s :=
  wpAny_bind (wpAny_seqItems hT rfl (wpAny_pure h))
theorem zInt {z TI TO : Addr} {f0 c : Value} {run : Int} {Q : Int → Shared → Prop} (hz : IsZl s.heap z TI TO f0 c run) (h : Q run s) : wpAny (model prog w) A (Builtin.Itertools.itIntField (.ref z) 3) Q E s :=
  wpAny_bind (wpAny_field hz rfl (x := rawInt run) rfl (wpAny_pure h))
theorem zFree {z TI TO : Addr} {c : Value} {run : Int} {Q : Bool → Shared → Prop} (hz : IsZl s.heap z TI TO .none c run) (h : Q true s) : wpAny (model prog w) A (Builtin.Itertools.itOwnedIsFree (.ref z)) Q E s :=
  wpAny_bind (wpAny_field hz rfl (x := .none) rfl (wpAny_pure h))
theorem zSet0 {z TI TO : Addr} {f0 c : Value} {run : Int} {v : Value} {Q : Unit → Shared → Prop} (hz : IsZl s.heap z TI TO f0 c run) (h : ∀ h', IsZl h' z TI TO v c run → Heap.SameBut z s.heap h' → Q () { s with heap := h' }) :
    wpAny (model prog w) A (setField (.ref z) 0 v) Q E s :=
  wpAny_setField_rec hz (by simp) fun h' z' k' => h h' z' k'
theorem zSet3 {z TI TO : Addr} {f0 c : Value} {run r2 : Int} {Q : Unit → Shared → Prop} (hz : IsZl s.heap z TI TO f0 c run) (h : ∀ h', IsZl h' z TI TO f0 c r2 → Heap.SameBut z s.heap h' → Q () { s with heap := h' }) :
    wpAny (model prog w) A (setField (.ref z) 3 (rawInt r2)) Q E s :=
  wpAny_setField_rec hz (by simp) fun h' z' k' => h h' z' k'
theorem zOut {z TI TO T : Addr} {f0 c : Value} {run : Int} {Q : Unit → Shared → Prop} (hz : IsZl s.heap z TI TO f0 c run)
    (h : ∀ h', IsZl h' z TI TO (rawInt T) c run → Heap.ExtBut z s.heap h' → h'.objs.size = s.heap.objs.size → Q () { s with heap := h' }) : wpAny (model prog w) A (Builtin.Itertools.itOwnedHandOut (.ref z) (.ref T)) Q E s := by
  unfold Builtin.Itertools.itOwnedHandOut
  refine wpAny_bind (zSet0 hz fun h1 z1 k1 => ?_)
  refine wpAny_setField_rec z1 (by simp) fun h2 z2 k2 => ?_
  exact h h2 z2 (fun b o nb e => k2.extBut _ _ nb (k1.extBut _ _ nb e)) (by rw [k2.1, k1.1])
def Gone (h : Heap) (it : Addr) : Prop := ∃ o vs, h.get? it = some o ∧ o.data = .fields vs
theorem zEnd {it l : Addr} {i : Nat} {xs : Array Value} {Q : Option Value → Shared → Prop} (hh : A.handled = none) (hi : s.heap.IsListIter it l i) (hl : s.heap.IsList l xs) (hx : xs[i]? = none)
    (h : ∀ h', Heap.ExtBut it s.heap h' → s.heap.objs.size ≤ h'.objs.size → Gone h' it → Q none { s with heap := h' }) : wpAny (model prog w) A (pyNext (.ref it)) Q E s := by
  obtain ⟨o, ho, hc, hd⟩ := id hi
  obtain ⟨p, hp, _, n, hdl⟩ := hl
  unfold pyNext
  have slot := slot_listiter_next
  refine wpAny_bind (wpAny_attempt (wpAny_callSpecial?_slot (name := Str.ofString "__next__") hi.typeIs slot (wpAny_call_entry slot hi.typeIs entry_listiter_next ?_ (args_listiter_next _))))
  show wpAny _ _ (field (.ref it) 0 >>= _) _ _ _
  refine wpAny_bind (wpAny_field ho hd (x := .ref l) rfl (show wpAny _ _ (if (Value.ref l == Value.none) = true then _ else _) _ _ _ from ?_))
  rw [if_neg (fun z : (Value.ref l == Value.none) = true => Bool.false_ne_true z)]
  refine wpAny_bind (wpAny_field ho hd (x := .int i 0) rfl (show wpAny _ _ (seqItems? (.ref l) >>= _) _ _ _ from ?_))
  refine wpAny_bind (wpAny_seqItems hp hdl ?_)
  simp only [Int.toNat_natCast, hx]
  refine wpAny_bind (wpAny_rule (wpAny_bind (wpAny_setField ho hd (by simp) (show wpAny _ _ (newExc (.type "StopIteration") [] >>= _) _ _ _ from ?_))))
  refine wpAny_bind ?_
  simp only [newExc, newTuple]
  refine wpAny_bind (wpAny_newObj_type ?_ (by size_fits))
  refine wpAny_bind (m := firstArgMember _ _) (wpAny_of_eq (a := Value.none) (by first | rfl | (simp only [firstArgMember] <;> rfl)) ?_)
  refine wpAny_newObj_type ?_ (by size_fits)
  unfold raiseNew
  refine wpAny_bind (wpAny_handled ?_)
  have e : A.in1.handled = none := hh
  rw [e]
  refine wpAny_bind (wpAny_pure (wpAny_throw ?_))
  refine wpAny_bind ?_
  refine wpAny_isInstance (T := "StopIteration") (b := true) ⟨_, Heap.get?_push_size _ rfl, rfl⟩ isSubtype_stop ?_
  refine wpAny_pure (h _ (((Heap.SameBut.update ..).extBut.push _).push _) ?_ ⟨_, _, Heap.get?_push_of_some _ (Heap.get?_push_of_some _ (Heap.get?_update_self _ ho (Obj.isFreed_of_fields (Obj.data_mapFields hd _)))), Obj.data_mapFields hd _⟩)
  rw [Heap.size_push, Heap.size_push]
  exact Nat.le_trans (Nat.le_of_eq (Heap.SameBut.update s.heap it _).1.symm) (Nat.le_add_right _ 2)
/-- a column: its entry, live or not -/
def Col (h : Heap) (e : Value) (it l : Addr) (n i : Nat) : Prop := (e = .ref it ∧ h.IsListIter it l i ∧ i ≤ n) ∨ (e = .none ∧ n < i ∧ Gone h it)
theorem Col.ext {h h' : Heap} {e : Value} {it l : Addr} {n i : Nat} (c : Col h e it l n i) (k : ∀ o, h.get? it = some o → h'.get? it = some o) : Col h' e it l n i := by
  rcases c with ⟨e, q, le⟩ | ⟨e, lt, o, vs, g, d⟩
  · exact .inl ⟨e, q.at k, le⟩
  · exact .inr ⟨e, lt, o, vs, k _ g, d⟩
def lives (n i : Nat) : Int := if i ≤ n then 1 else 0
structure ZA (z TI TO i1 i2 l1 l2 : Addr) : Prop extends ZipApart z TI TO i1 i2 l1 l2 where
  l1TI : l1 ≠ TI
  l2TI : l2 ≠ TI
structure ZCol (h : Heap) (TI i1 i2 l1 l2 : Addr) (n1 j1 n2 j2 : Nat) : Prop where
  ex : ∃ a b, IsTu h TI a b ∧ Col h a i1 l1 n1 j1 ∧ Col h b i2 l2 n2 j2
/-- all but z, the tuples and the iterators stays -/
def Kp (z TI TO i1 i2 : Addr) (h h' : Heap) : Prop := ∀ b o, b ≠ z → b ≠ TI → b ≠ TO → b ≠ i1 → b ≠ i2 → h.get? b = some o → h'.get? b = some o
theorem zItem {z TI TO i1 i2 l1 l2 : Addr} {c : Value} {i : Nat} {xs ys : Array Value} {Q : Value → Shared → Prop} (hh : A.handled = none) (D : ZA z TI TO i1 i2 l1 l2)
    (hz : IsZl s.heap z TI TO .none c (lives xs.size i + lives ys.size i)) (hc : ZCol s.heap TI i1 i2 l1 l2 xs.size i ys.size i) (hT : ∃ a b, IsTu s.heap TO a b)
    (hl1 : s.heap.IsList l1 xs) (hl2 : s.heap.IsList l2 ys) (hi : i < xs.size ∨ i < ys.size)
    (hQ : ∀ h' T, s.heap.objs.size ≤ T → IsZl h' z TI TO (rawInt T) c (lives xs.size (i + 1) + lives ys.size (i + 1)) → ZCol h' TI i1 i2 l1 l2 xs.size (i + 1) ys.size (i + 1) → (∃ a b, IsTu h' TO a b) →
      IsTu h' T (xs.getD i c) (ys.getD i c) → Kp z TI TO i1 i2 s.heap h' → Q (.ref T) { s with heap := h' }) :
    wpAny (model prog w) A (Builtin.«itertools.zip_longest.__next__» ⟨[.ref z], []⟩) (fun fin s' => ∃ v, fin = .done (.ret v) ∧ Q v s') E s := by
  obtain ⟨a0, b0, hTO⟩ := hT
  obtain ⟨⟨a, b, hTI, ca, cb⟩⟩ := hc
  have run0 : ¬ ((lives xs.size i + lives ys.size i == 0) = true) := by
    unfold lives
    rcases hi with h | h
    · rw [if_pos (show i ≤ xs.size by omega)]
      split <;> decide
    · rw [if_pos (show i ≤ ys.size by omega)]
      split <;> decide
  show wpAny _ _ (Builtin.Itertools.itIntField (.ref z) 3 >>= _) _ _ _
  refine wpAny_bind (zInt hz ?_)
  show wpAny _ _ (if (lives xs.size i + lives ys.size i == 0) = true then _ else _) _ _ _
  rw [if_neg run0]
  show wpAny _ _ (field (.ref z) 4 >>= _) _ _ _
  refine wpAny_bind (wpAny_field hz rfl (x := .ref TI) rfl ?_)
  refine wpAny_bind (zPool hTI ?_)
  refine wpAny_bind (zFree hz ?_)
  simp only [if_true]
  refine wpAny_bind (wpAny_rule ?_)
  refine wpAny_bind (wpAny_field hz rfl (x := .ref TO) rfl ?_)
  refine wpAny_bind (zSet0 hz fun h1 hz1 k1 => ?_)
  rw [show List.range (#[a, b] : Array Value).size = [0, 1] from rfl]
  simp only [List.forIn_cons, List.forIn_nil]
  refine wpAny_bind ?_
  refine wpAny_bind ?_
  refine wpAny_bind (wpAny_mono (Q := fun r s' => r = some (xs.getD i c) ∧ ∃ h2, s' = { s with heap := h2 } ∧ IsZl h2 z TI TO .ellipsis c (lives xs.size (i + 1) + lives ys.size i) ∧ ZCol h2 TI i1 i2 l1 l2 xs.size (i + 1) ys.size i ∧ IsTu h2 TO a0 b0 ∧
    Kp z TI TO i1 i2 s.heap h2 ∧ s.heap.objs.size ≤ h2.objs.size) (E := E) (wpAny_onRaise ?d1) ?r1 (fun _ _ x => x))
  case d1 =>
    have hTI1 : IsTu h1 TI a b := k1.extBut _ _ D.TIz hTI
    have hTO1 : IsTu h1 TO a0 b0 := k1.extBut _ _ D.TOz hTO
    have sz1 : h1.objs.size = s.heap.objs.size := k1.1
    show wpAny _ _ (field (.ref z) 4 >>= _) _ _ _
    refine wpAny_bind (wpAny_field hz1 rfl (x := .ref TI) rfl ?_)
    refine wpAny_bind (zPool hTI1 ?_)
    refine wpAny_bind (wpAny_field hz1 rfl (x := c) rfl ?_)
    have cb1 : Col h1 b i2 l2 ys.size i := cb.ext fun o e => k1.extBut _ _ D.i2z e
    rcases ca with ⟨rfl, q, le⟩ | ⟨rfl, lt, gn⟩
    · show wpAny _ _ (if (Value.ref i1 == Value.none) = true then _ else _) _ _ _
      rw [if_neg (fun z : (Value.ref i1 == Value.none) = true => Bool.false_ne_true z)]
      cases hx : xs[i]? with
      | some x =>
        refine wpAny_bind (wpAny_onRaise (wpAny_pyNext_list_item (q.extBut k1.extBut D.i1z) (hl1.extBut k1.extBut D.l1z) hx fun h2 q2 k2 => wpAny_pure ?_))
        have lt : i < xs.size := by
          obtain ⟨h, _⟩ := Array.getElem?_eq_some_iff.mp hx
          exact h
        have e1 : lives xs.size (i + 1) = lives xs.size i := by unfold lives; rw [if_pos (by omega), if_pos (by omega)]
        refine ⟨by rw [Array.getD_eq_getD_getElem?, hx]; rfl, h2, rfl, by rw [e1]; exact k2.extBut _ _ D.i1z.symm hz1, ⟨_, _, k2.extBut _ _ D.TIi1 hTI1, .inl ⟨rfl, q2, lt⟩, ?_⟩, k2.extBut _ _ D.TOi1 hTO1, fun p o n1 n2 n3 n4 n5 e => k2.extBut _ _ n4 (k1.extBut _ _ n1 e), Nat.le_of_eq (sz1.symm.trans k2.1.symm)⟩
        exact cb1.ext fun o e => k2.extBut _ _ D.i12.symm e
      | none =>
        have ex : i = xs.size := by
          have := Array.getElem?_eq_none_iff.mp hx
          omega
        have iy : i < ys.size := by omega
        have e1 : lives xs.size i + lives ys.size i = 2 := by unfold lives; rw [if_pos (by omega), if_pos (by omega)]; rfl
        have e2 : lives xs.size (i + 1) + lives ys.size i = 1 := by unfold lives; rw [if_neg (by omega), if_pos (by omega)]; rfl
        rw [e1] at hz1
        rw [e2]
        refine wpAny_bind (wpAny_onRaise (zEnd hh (q.extBut k1.extBut D.i1z) (hl1.extBut k1.extBut D.l1z) hx fun h2 k2 g2 gone2 => ?_))
        have hz2 := k2 _ _ D.i1z.symm hz1
        have hTI2 : IsTu h2 TI (.ref i1) b := k2 _ _ D.TIi1 hTI1
        show wpAny _ _ (Builtin.Itertools.itPoolItems (.ref TI) >>= _) _ _ _
        refine wpAny_bind (zPool hTI2 ?_)
        show wpAny _ _ (if (Value.ref i1 == Value.none) = true then _ else _) _ _ _
        rw [if_neg (fun z : (Value.ref i1 == Value.none) = true => Bool.false_ne_true z)]
        refine wpAny_bind (zInt hz2 ?_)
        refine wpAny_bind (zSet3 hz2 fun h3 hz3 k3 => ?_)
        have hTI3 : IsTu h3 TI (.ref i1) b := k3.extBut _ _ D.TIz hTI2
        show wpAny _ _ (rule _ >>= _) _ _ _
        refine wpAny_bind (wpAny_rule ?_)
        refine wpAny_bind (wpAny_updateSeq_pair hTI3 fun h4 hTI4 k4 => ?_)
        refine wpAny_bind (wpAny_letGo (wpAny_pure ?_))
        have kp : ∀ p o, p ≠ z → p ≠ TI → p ≠ TO → p ≠ i1 → p ≠ i2 → h1.get? p = some o → h4.get? p = some o := fun p o n1 n2 n3 n4 n5 e => k4.extBut _ _ n2 (k3.extBut _ _ n1 (k2 _ _ n4 e))
        refine ⟨by rw [Array.getD_eq_getD_getElem?, hx]; rfl, h4, rfl, k4.extBut _ _ D.TIz.symm hz3, ⟨_, _, hTI4, .inr ⟨rfl, by omega, ?_⟩, ?_⟩, k4.extBut _ _ D.TITO.symm (k3.extBut _ _ D.TOz (k2 _ _ D.TOi1 hTO1)),
          fun p o n1 n2 n3 n4 n5 e => kp p o n1 n2 n3 n4 n5 (k1.extBut _ _ n1 e), ?_⟩
        · obtain ⟨o, vs, g, d⟩ := gone2
          exact ⟨o, vs, k4.extBut _ _ D.TIi1.symm (k3.extBut _ _ D.i1z g), d⟩
        · exact cb1.ext fun o e => k4.extBut _ _ D.TIi2.symm (k3.extBut _ _ D.i2z (k2 _ _ D.i12.symm e))
        · have g3 : h3.objs.size = h2.objs.size := k3.1
          have g4 : h4.objs.size = h3.objs.size := k4.1
          have g5 : h1.objs.size ≤ h2.objs.size := g2
          omega
    · show wpAny _ _ (if (Value.none == Value.none) = true then _ else _) _ _ _
      rw [if_pos (show (Value.none == Value.none) = true by rfl)]
      have e1 : lives xs.size (i + 1) = lives xs.size i := by unfold lives; rw [if_neg (by omega), if_neg (by omega)]
      refine wpAny_pure ⟨?_, h1, rfl, by rw [e1]; exact hz1, ⟨_, _, hTI1, .inr ⟨rfl, by omega, (by obtain ⟨o, vs, g, d⟩ := gn; exact ⟨o, vs, k1.extBut _ _ D.i1z g, d⟩)⟩, cb1⟩, hTO1, fun p o n1 n2 n3 n4 n5 e => k1.extBut _ _ n1 e, Nat.le_of_eq sz1.symm⟩
      rw [Array.getD_eq_getD_getElem?, Array.getElem?_eq_none_iff.mpr (by omega)]
      rfl
  rintro r _ ⟨rfl, h2, rfl, hz2, hc2, hTO2, kp2, sz2⟩
  show wpAny _ _ (Builtin.Itertools.itPoolItems (.ref TO) >>= _) _ _ _
  refine wpAny_bind (zPool hTO2 ?_)
  refine wpAny_bind (wpAny_updateSeq_pair hTO2 fun h3 hTO3 k3 => ?_)
  refine wpAny_bind (wpAny_letGo (wpAny_pure ?_))
  replace hTO3 : IsTu h3 TO (xs.getD i c) b0 := hTO3
  have hz3 := k3.extBut _ _ D.TOz.symm hz2
  obtain ⟨⟨a2, b2, hTI2, ca2, cb2⟩⟩ := hc2
  have hTI3 : IsTu h3 TI a2 b2 := k3.extBut _ _ D.TITO hTI2
  have ca3 : Col h3 a2 i1 l1 xs.size (i + 1) := ca2.ext fun o e => k3.extBut _ _ D.TOi1.symm e
  have kp3 : Kp z TI TO i1 i2 s.heap h3 := fun p o n1 n2 n3 n4 n5 e => k3.extBut _ _ n3 (kp2 p o n1 n2 n3 n4 n5 e)
  have sz3 : s.heap.objs.size ≤ h3.objs.size := Nat.le_trans sz2 (Nat.le_of_eq k3.1.symm)
  have hl23 : h3.IsList l2 ys := hl2.at fun o e => kp3 _ _ D.l2z D.l2TI D.l2TO D.l2i1 D.l2i2 e
  show wpAny _ _ (_ >>= _) _ _ _
  refine wpAny_bind ?_
  refine wpAny_bind (wpAny_mono (Q := fun r s' => r = some (ys.getD i c) ∧ ∃ h4, s' = { s with heap := h4 } ∧ IsZl h4 z TI TO .ellipsis c (lives xs.size (i + 1) + lives ys.size (i + 1)) ∧ ZCol h4 TI i1 i2 l1 l2 xs.size (i + 1) ys.size (i + 1) ∧ IsTu h4 TO (xs.getD i c) b0 ∧
    Kp z TI TO i1 i2 s.heap h4 ∧ s.heap.objs.size ≤ h4.objs.size) (E := E) (wpAny_onRaise ?d2) ?r2 (fun _ _ x => x))
  case d2 =>
    show wpAny _ _ (field (.ref z) 4 >>= _) _ _ _
    refine wpAny_bind (wpAny_field hz3 rfl (x := .ref TI) rfl ?_)
    refine wpAny_bind (zPool hTI3 ?_)
    refine wpAny_bind (wpAny_field hz3 rfl (x := c) rfl ?_)
    rcases cb2 with ⟨rfl, q, le⟩ | ⟨rfl, lt, gn⟩
    · show wpAny _ _ (if (Value.ref i2 == Value.none) = true then _ else _) _ _ _
      rw [if_neg (fun z : (Value.ref i2 == Value.none) = true => Bool.false_ne_true z)]
      cases hy : ys[i]? with
      | some y =>
        refine wpAny_bind (wpAny_onRaise (wpAny_pyNext_list_item (q.extBut k3.extBut D.TOi2.symm) hl23 hy fun h4 q4 k4 => wpAny_pure ?_))
        have lt : i < ys.size := by
          obtain ⟨h, _⟩ := Array.getElem?_eq_some_iff.mp hy
          exact h
        have e1 : lives ys.size (i + 1) = lives ys.size i := by unfold lives; rw [if_pos (by omega), if_pos (by omega)]
        refine ⟨by rw [Array.getD_eq_getD_getElem?, hy]; rfl, h4, rfl, by rw [e1]; exact k4.extBut _ _ D.i2z.symm hz3, ⟨_, _, k4.extBut _ _ D.TIi2 hTI3, ?_, .inl ⟨rfl, q4, lt⟩⟩, k4.extBut _ _ D.TOi2 hTO3, fun p o n1 n2 n3 n4 n5 e => k4.extBut _ _ n5 (kp3 p o n1 n2 n3 n4 n5 e), Nat.le_trans sz3 (Nat.le_of_eq k4.1.symm)⟩
        exact ca3.ext fun o e => k4.extBut _ _ D.i12 e
      | none =>
        have ex : i = ys.size := by
          have := Array.getElem?_eq_none_iff.mp hy
          omega
        have ix : i < xs.size := by omega
        have e1 : lives xs.size (i + 1) + lives ys.size i = 2 := by unfold lives; rw [if_pos (by omega), if_pos (by omega)]; rfl
        have e2 : lives xs.size (i + 1) + lives ys.size (i + 1) = 1 := by unfold lives; rw [if_pos (by omega), if_neg (by omega)]; rfl
        rw [e1] at hz3
        rw [e2]
        refine wpAny_bind (wpAny_onRaise (zEnd hh (q.extBut k3.extBut D.TOi2.symm) hl23 hy fun h4 k4 g4 gone4 => ?_))
        have hz4 := k4 _ _ D.i2z.symm hz3
        have hTI4 : IsTu h4 TI a2 (.ref i2) := k4 _ _ D.TIi2 hTI3
        show wpAny _ _ (Builtin.Itertools.itPoolItems (.ref TI) >>= _) _ _ _
        refine wpAny_bind (zPool hTI4 ?_)
        show wpAny _ _ (if (Value.ref i2 == Value.none) = true then _ else _) _ _ _
        rw [if_neg (fun z : (Value.ref i2 == Value.none) = true => Bool.false_ne_true z)]
        refine wpAny_bind (zInt hz4 ?_)
        refine wpAny_bind (zSet3 hz4 fun h5 hz5 k5 => ?_)
        have hTI5 : IsTu h5 TI a2 (.ref i2) := k5.extBut _ _ D.TIz hTI4
        show wpAny _ _ (rule _ >>= _) _ _ _
        refine wpAny_bind (wpAny_rule ?_)
        refine wpAny_bind (wpAny_updateSeq_pair hTI5 fun h6 hTI6 k6 => ?_)
        refine wpAny_bind (wpAny_letGo (wpAny_pure ?_))
        refine ⟨by rw [Array.getD_eq_getD_getElem?, hy]; rfl, h6, rfl, k6.extBut _ _ D.TIz.symm hz5, ⟨_, _, hTI6, ?_, .inr ⟨rfl, by omega, ?_⟩⟩, k6.extBut _ _ D.TITO.symm (k5.extBut _ _ D.TOz (k4 _ _ D.TOi2 hTO3)),
          fun p o n1 n2 n3 n4 n5 e => k6.extBut _ _ n2 (k5.extBut _ _ n1 (k4 _ _ n5 (kp3 p o n1 n2 n3 n4 n5 e))), ?_⟩
        · exact ca3.ext fun o e => k6.extBut _ _ D.TIi1.symm (k5.extBut _ _ D.i1z (k4 _ _ D.i12 e))
        · obtain ⟨o, vs, g, d⟩ := gone4
          exact ⟨o, vs, k6.extBut _ _ D.TIi2.symm (k5.extBut _ _ D.i2z g), d⟩
        · have g5 : h5.objs.size = h4.objs.size := k5.1
          have g6 : h6.objs.size = h5.objs.size := k6.1
          have g7 : h3.objs.size ≤ h4.objs.size := g4
          omega
    · show wpAny _ _ (if (Value.none == Value.none) = true then _ else _) _ _ _
      rw [if_pos (show (Value.none == Value.none) = true by rfl)]
      have e1 : lives ys.size (i + 1) = lives ys.size i := by unfold lives; rw [if_neg (by omega), if_neg (by omega)]
      refine wpAny_pure ⟨?_, h3, rfl, by rw [e1]; exact hz3, ⟨_, _, hTI3, ca3, .inr ⟨rfl, by omega, (by obtain ⟨o, vs, g, d⟩ := gn; exact ⟨o, vs, k3.extBut _ _ D.TOi2.symm g, d⟩)⟩⟩, hTO3, kp3, sz3⟩
      rw [Array.getD_eq_getD_getElem?, Array.getElem?_eq_none_iff.mpr (by omega)]
      rfl
  rintro r _ ⟨rfl, h4, rfl, hz4, hc4, hTO4, kp4, sz4⟩
  show wpAny _ _ (Builtin.Itertools.itPoolItems (.ref TO) >>= _) _ _ _
  refine wpAny_bind (zPool hTO4 ?_)
  refine wpAny_bind (wpAny_updateSeq_pair hTO4 fun h5 hTO5 k5 => ?_)
  refine wpAny_bind (wpAny_letGo (wpAny_pure (wpAny_pure ?_)))
  replace hTO5 : IsTu h5 TO (xs.getD i c) (ys.getD i c) := hTO5
  have hz5 := k5.extBut _ _ D.TOz.symm hz4
  refine wpAny_bind (zPool hTO5 ?_)
  refine wpAny_bind (wpAny_newTuple ?_)
  have hz6 : IsZl (h5.push (TuO (xs.getD i c) (ys.getD i c))) z TI TO .ellipsis c (lives xs.size (i + 1) + lives ys.size (i + 1)) := Heap.get?_push_of_some _ hz5
  refine wpAny_bind (zOut (T := h5.objs.size) hz6 fun h7 hz7 k7 g7 => ?_)
  have kz : h5.objs.size ≠ z := Nat.ne_of_gt (Heap.lt_size hz5)
  have up : ∀ p o, p ≠ z → h5.get? p = some o → h7.get? p = some o := fun p o n e => k7 _ _ n (Heap.get?_push_of_some _ e)
  refine wpAny_pure ⟨_, rfl, hQ h7 h5.objs.size (Nat.le_trans sz4 (Nat.le_of_eq k5.1.symm)) hz7 ?_ ⟨_, _, up _ _ D.TOz hTO5⟩ (k7 _ _ kz (Heap.get?_push_size _ rfl)) fun p o n1 n2 n3 n4 n5 e => up _ _ n1 (k5.extBut _ _ n3 (kp4 p o n1 n2 n3 n4 n5 e))⟩
  obtain ⟨⟨a4, b4, hTI5, ca4, cb4⟩⟩ := hc4
  refine ⟨_, _, up _ _ D.TIz (k5.extBut _ _ D.TITO hTI5), ?_, ?_⟩
  · exact ca4.ext fun o e => up _ _ D.i1z (k5.extBut _ _ D.TOi1.symm e)
  · exact cb4.ext fun o e => up _ _ D.i2z (k5.extBut _ _ D.TOi2.symm e)
theorem zRaise {α : Type} {Q : α → Shared → Prop} (hh : A.handled = none) (h : ∀ h' e, (∀ b o, s.heap.get? b = some o → h'.get? b = some o) → (∃ o, h'.get? e = some o ∧ o.cls = .type "StopIteration") → E (.ref e) { s with heap := h' }) :
    wpAny (model prog w) A (Builtin.Itertools.itStop : Sem α) Q E s := by
  unfold Builtin.Itertools.itStop
  refine wpAny_bind ?_
  simp only [newExc, newTuple]
  refine wpAny_bind (wpAny_newObj_type ?_ (by size_fits))
  refine wpAny_bind (m := firstArgMember _ _) (wpAny_of_eq (a := Value.none) (by first | rfl | (simp only [firstArgMember] <;> rfl)) ?_)
  refine wpAny_newObj_type ?_ (by size_fits)
  unfold raiseNew
  refine wpAny_bind (wpAny_handled ?_)
  rw [hh]
  refine wpAny_bind (wpAny_pure (wpAny_throw ?_))
  exact h _ _ (fun b o e => Heap.get?_push_of_some _ (Heap.get?_push_of_some _ e)) ⟨_, Heap.get?_push_size _ rfl, rfl⟩
theorem zLast {z TI TO i1 i2 l1 l2 : Addr} {c : Value} {i : Nat} {xs ys : Array Value} {Q : Fin → Shared → Prop} (hh : A.handled = none) (D : ZA z TI TO i1 i2 l1 l2)
    (hz : IsZl s.heap z TI TO .none c (lives xs.size i + lives ys.size i)) (hc : ZCol s.heap TI i1 i2 l1 l2 xs.size i ys.size i) (hT : ∃ a b, IsTu s.heap TO a b)
    (hl1 : s.heap.IsList l1 xs) (hl2 : s.heap.IsList l2 ys) (hi : xs.size ≤ i ∧ ys.size ≤ i) (hj : i ≤ xs.size ∨ i ≤ ys.size)
    (hE : ∀ h' e, Kp z TI TO i1 i2 s.heap h' → (∃ o, h'.get? e = some o ∧ o.cls = .type "StopIteration") → E (.ref e) { s with heap := h' }) :
    wpAny (model prog w) A (Builtin.«itertools.zip_longest.__next__» ⟨[.ref z], []⟩) Q E s := by
  obtain ⟨a0, b0, hTO⟩ := hT
  obtain ⟨⟨a, b, hTI, ca, cb⟩⟩ := hc
  have run0 : ¬ ((lives xs.size i + lives ys.size i == 0) = true) := by
    unfold lives
    rcases hj with h | h
    · rw [if_pos (show i ≤ xs.size by omega)]
      split <;> decide
    · rw [if_pos (show i ≤ ys.size by omega)]
      split <;> decide
  show wpAny _ _ (Builtin.Itertools.itIntField (.ref z) 3 >>= _) _ _ _
  refine wpAny_bind (zInt hz ?_)
  show wpAny _ _ (if (lives xs.size i + lives ys.size i == 0) = true then _ else _) _ _ _
  rw [if_neg run0]
  show wpAny _ _ (field (.ref z) 4 >>= _) _ _ _
  refine wpAny_bind (wpAny_field hz rfl (x := .ref TI) rfl ?_)
  refine wpAny_bind (zPool hTI ?_)
  refine wpAny_bind (zFree hz ?_)
  simp only [if_true]
  refine wpAny_bind (wpAny_rule ?_)
  refine wpAny_bind (wpAny_field hz rfl (x := .ref TO) rfl ?_)
  refine wpAny_bind (zSet0 hz fun h1 hz1 k1 => ?_)
  rw [show List.range (#[a, b] : Array Value).size = [0, 1] from rfl]
  simp only [List.forIn_cons, List.forIn_nil]
  refine wpAny_bind ?_
  refine wpAny_bind ?_
  have hTI1 : IsTu h1 TI a b := k1.extBut _ _ D.TIz hTI
  have hTO1 : IsTu h1 TO a0 b0 := k1.extBut _ _ D.TOz hTO
  have kp1 : Kp z TI TO i1 i2 s.heap h1 := fun p o n1 n2 n3 n4 n5 e => k1.extBut _ _ n1 e
  have fin : ∀ {β : Type} {Q : β → Shared → Prop} (h2 : Heap) (run : Int), IsZl h2 z TI TO .ellipsis c run → Kp z TI TO i1 i2 s.heap h2 → ∀ f : Unit → Sem β,
      wpAny (model prog w) A (setField (.ref z) 0 Value.none >>= fun _ => (Builtin.Itertools.itStop : Sem Unit) >>= f) Q E { s with heap := h2 } := fun h2 run hz2 kp2 f => by
    refine wpAny_bind (zSet0 hz2 fun h3 hz3 k3 => ?_)
    exact wpAny_bind (zRaise hh fun h4 e k4 he => hE h4 e (fun p o n1 n2 n3 n4 n5 e => k4 _ _ (k3.extBut _ _ n1 (kp2 p o n1 n2 n3 n4 n5 e))) he)
  refine wpAny_bind (wpAny_mono (Q := fun r s' => (r = none ∧ ∃ h2, s' = { s with heap := h2 } ∧ IsZl h2 z TI TO .ellipsis c 0 ∧ Kp z TI TO i1 i2 s.heap h2) ∨ (r = some c ∧ ∃ h2, s' = { s with heap := h2 } ∧ IsZl h2 z TI TO .ellipsis c 1 ∧ (∃ a', IsTu h2 TI a' (.ref i2)) ∧
    h2.IsListIter i2 l2 i ∧ IsTu h2 TO a0 b0 ∧ Kp z TI TO i1 i2 s.heap h2)) (E := E) (wpAny_onRaise ?d1) ?r1 (fun _ _ x => x))
  case d1 =>
    show wpAny _ _ (field (.ref z) 4 >>= _) _ _ _
    refine wpAny_bind (wpAny_field hz1 rfl (x := .ref TI) rfl ?_)
    refine wpAny_bind (zPool hTI1 ?_)
    refine wpAny_bind (wpAny_field hz1 rfl (x := c) rfl ?_)
    rcases ca with ⟨rfl, q, le⟩ | ⟨rfl, lt, gn⟩
    · show wpAny _ _ (if (Value.ref i1 == Value.none) = true then _ else _) _ _ _
      rw [if_neg (fun z : (Value.ref i1 == Value.none) = true => Bool.false_ne_true z)]
      refine wpAny_bind (wpAny_onRaise (zEnd hh (q.extBut k1.extBut D.i1z) (hl1.extBut k1.extBut D.l1z) (Array.getElem?_eq_none_iff.mpr (by omega)) fun h2 k2 g2 _ => ?_))
      have hz2 := k2 _ _ D.i1z.symm hz1
      have hTI2 : IsTu h2 TI (.ref i1) b := k2 _ _ D.TIi1 hTI1
      show wpAny _ _ (Builtin.Itertools.itPoolItems (.ref TI) >>= _) _ _ _
      refine wpAny_bind (zPool hTI2 ?_)
      show wpAny _ _ (if (Value.ref i1 == Value.none) = true then _ else _) _ _ _
      rw [if_neg (fun z : (Value.ref i1 == Value.none) = true => Bool.false_ne_true z)]
      refine wpAny_bind (zInt hz2 ?_)
      rcases cb with ⟨rfl, r, le2⟩ | ⟨rfl, lt2, _⟩
      · have e1 : lives xs.size i + lives ys.size i = 2 := by unfold lives; rw [if_pos (by omega), if_pos (by omega)]; rfl
        rw [e1] at hz2 ⊢
        refine wpAny_bind (zSet3 hz2 fun h3 hz3 k3 => ?_)
        have hTI3 : IsTu h3 TI (.ref i1) (.ref i2) := k3.extBut _ _ D.TIz hTI2
        show wpAny _ _ (rule _ >>= _) _ _ _
        refine wpAny_bind (wpAny_rule ?_)
        refine wpAny_bind (wpAny_updateSeq_pair hTI3 fun h4 hTI4 k4 => ?_)
        refine wpAny_bind (wpAny_letGo (wpAny_pure ?_))
        exact .inr ⟨rfl, h4, rfl, k4.extBut _ _ D.TIz.symm hz3, ⟨_, hTI4⟩, (((r.extBut k1.extBut D.i2z).at fun o e => k2 _ _ D.i12.symm e).extBut k3.extBut D.i2z).extBut k4.extBut D.TIi2.symm,
          k4.extBut _ _ D.TITO.symm (k3.extBut _ _ D.TOz (k2 _ _ D.TOi1 hTO1)), fun p o n1 n2 n3 n4 n5 e => k4.extBut _ _ n2 (k3.extBut _ _ n1 (k2 _ _ n4 (kp1 p o n1 n2 n3 n4 n5 e)))⟩
      · have e1 : lives xs.size i + lives ys.size i = 1 := by unfold lives; rw [if_pos (by omega), if_neg (by omega)]; rfl
        rw [e1] at hz2 ⊢
        refine wpAny_bind (zSet3 hz2 fun h3 hz3 k3 => ?_)
        exact wpAny_pure (.inl ⟨rfl, h3, rfl, hz3, fun p o n1 n2 n3 n4 n5 e => k3.extBut _ _ n1 (k2 _ _ n4 (kp1 p o n1 n2 n3 n4 n5 e))⟩)
    · show wpAny _ _ (if (Value.none == Value.none) = true then _ else _) _ _ _
      rw [if_pos (show (Value.none == Value.none) = true by rfl)]
      rcases cb with ⟨rfl, r, le2⟩ | ⟨rfl, lt2, _⟩
      · have e1 : lives xs.size i + lives ys.size i = 1 := by unfold lives; rw [if_neg (by omega), if_pos (by omega)]; rfl
        rw [e1] at hz1
        exact wpAny_pure (.inr ⟨rfl, h1, rfl, hz1, ⟨_, hTI1⟩, r.extBut k1.extBut D.i2z, hTO1, kp1⟩)
      · omega
  rintro r _ (⟨rfl, h2, rfl, hz2, kp2⟩ | ⟨rfl, h2, rfl, hz2, ⟨a', hTI2⟩, q2, hTO2, kp2⟩)
  · exact fin h2 0 hz2 kp2 _
  show wpAny _ _ (Builtin.Itertools.itPoolItems (.ref TO) >>= _) _ _ _
  refine wpAny_bind (zPool hTO2 ?_)
  refine wpAny_bind (wpAny_updateSeq_pair hTO2 fun h3 hTO3 k3 => ?_)
  refine wpAny_bind (wpAny_letGo (wpAny_pure ?_))
  have hz3 := k3.extBut _ _ D.TOz.symm hz2
  have hTI3 : IsTu h3 TI a' (.ref i2) := k3.extBut _ _ D.TITO hTI2
  have kp3 : Kp z TI TO i1 i2 s.heap h3 := fun p o n1 n2 n3 n4 n5 e => k3.extBut _ _ n3 (kp2 p o n1 n2 n3 n4 n5 e)
  have hl23 : h3.IsList l2 ys := hl2.at fun o e => kp3 _ _ D.l2z D.l2TI D.l2TO D.l2i1 D.l2i2 e
  show wpAny _ _ (_ >>= _) _ _ _
  refine wpAny_bind ?_
  refine wpAny_bind (wpAny_mono (Q := fun r s' => r = none ∧ ∃ h2, s' = { s with heap := h2 } ∧ IsZl h2 z TI TO .ellipsis c 0 ∧ Kp z TI TO i1 i2 s.heap h2) (E := E) (wpAny_onRaise ?d2) ?r2 (fun _ _ x => x))
  case d2 =>
    show wpAny _ _ (field (.ref z) 4 >>= _) _ _ _
    refine wpAny_bind (wpAny_field hz3 rfl (x := .ref TI) rfl ?_)
    refine wpAny_bind (zPool hTI3 ?_)
    refine wpAny_bind (wpAny_field hz3 rfl (x := c) rfl ?_)
    show wpAny _ _ (if (Value.ref i2 == Value.none) = true then _ else _) _ _ _
    rw [if_neg (fun z : (Value.ref i2 == Value.none) = true => Bool.false_ne_true z)]
    refine wpAny_bind (wpAny_onRaise (zEnd hh (q2.extBut k3.extBut D.TOi2.symm) hl23 (Array.getElem?_eq_none_iff.mpr (by omega)) fun h4 k4 g4 _ => ?_))
    have hz4 := k4 _ _ D.i2z.symm hz3
    have hTI4 : IsTu h4 TI a' (.ref i2) := k4 _ _ D.TIi2 hTI3
    show wpAny _ _ (Builtin.Itertools.itPoolItems (.ref TI) >>= _) _ _ _
    refine wpAny_bind (zPool hTI4 ?_)
    show wpAny _ _ (if (Value.ref i2 == Value.none) = true then _ else _) _ _ _
    rw [if_neg (fun z : (Value.ref i2 == Value.none) = true => Bool.false_ne_true z)]
    refine wpAny_bind (zInt hz4 ?_)
    refine wpAny_bind (zSet3 hz4 fun h5 hz5 k5 => ?_)
    exact wpAny_pure ⟨rfl, h5, rfl, hz5, fun p o n1 n2 n3 n4 n5 e => k5.extBut _ _ n1 (k4 _ _ n5 (kp3 p o n1 n2 n3 n4 n5 e))⟩
  rintro r _ ⟨rfl, h4, rfl, hz4, kp4⟩
  exact fin h4 0 hz4 kp4 _
end
end CB.Z

namespace CB.Z
open PySem PySem.Spec PyProof.Rows L2
theorem zEntryIter : entryFor table "itertools.zip_longest.__iter__" = some Builtin.«dict_keyiterator.__iter__» :=
  entryFor_alias (id' := "dict_keyiterator.__iter__") (by kernel_rfl) (by first | decide +kernel | (unfold String.splitOn; simp +decide [String.splitOnAux])) (by decide +kernel) (by kernel_rfl)
section
variable {prog : Program} {w : World} {A : Around} {E : Value → Shared → Prop} {s : Shared}
theorem zNextItem {z TI TO i1 i2 l1 l2 : Addr} {c : Value} {i : Nat} {xs ys : Array Value} {Q : Option Value → Shared → Prop} (hh : A.handled = none) (D : ZA z TI TO i1 i2 l1 l2)
    (hz : IsZl s.heap z TI TO .none c (lives xs.size i + lives ys.size i)) (hc : ZCol s.heap TI i1 i2 l1 l2 xs.size i ys.size i) (hT : ∃ a b, IsTu s.heap TO a b)
    (hl1 : s.heap.IsList l1 xs) (hl2 : s.heap.IsList l2 ys) (hi : i < xs.size ∨ i < ys.size)
    (hQ : ∀ h' T, s.heap.objs.size ≤ T → IsZl h' z TI TO (rawInt T) c (lives xs.size (i + 1) + lives ys.size (i + 1)) → ZCol h' TI i1 i2 l1 l2 xs.size (i + 1) ys.size (i + 1) → (∃ a b, IsTu h' TO a b) →
      IsTu h' T (xs.getD i c) (ys.getD i c) → Kp z TI TO i1 i2 s.heap h' → Q (some (.ref T)) { s with heap := h' }) : wpAny (model prog w) A (pyNext (.ref z)) Q E s := by
  have ty : s.TypeIs (.ref z) "itertools.zip_longest" := ⟨_, hz, rfl⟩
  unfold pyNext
  refine wpAny_bind (wpAny_attempt (wpAny_callSpecial?_slot (name := Str.ofString "__next__") ty zSlotNext (wpAny_call_entry zSlotNext ty zEntryNext ?_ (zArgsNext _))))
  exact zItem hh D hz hc hT hl1 hl2 hi fun h' T g a1 a2 a3 a4 a5 => wpAny_pure (hQ h' T g a1 a2 a3 a4 a5)
theorem zNextLast {z TI TO i1 i2 l1 l2 : Addr} {c : Value} {i : Nat} {xs ys : Array Value} {Q : Option Value → Shared → Prop} (hh : A.handled = none) (D : ZA z TI TO i1 i2 l1 l2)
    (hz : IsZl s.heap z TI TO .none c (lives xs.size i + lives ys.size i)) (hc : ZCol s.heap TI i1 i2 l1 l2 xs.size i ys.size i) (hT : ∃ a b, IsTu s.heap TO a b)
    (hl1 : s.heap.IsList l1 xs) (hl2 : s.heap.IsList l2 ys) (hi : xs.size ≤ i ∧ ys.size ≤ i) (hj : i ≤ xs.size ∨ i ≤ ys.size)
    (hQ : ∀ h', Kp z TI TO i1 i2 s.heap h' → Q none { s with heap := h' }) : wpAny (model prog w) A (pyNext (.ref z)) Q E s := by
  have ty : s.TypeIs (.ref z) "itertools.zip_longest" := ⟨_, hz, rfl⟩
  unfold pyNext
  refine wpAny_bind (wpAny_attempt (wpAny_callSpecial?_slot (name := Str.ofString "__next__") ty zSlotNext (wpAny_call_entry zSlotNext ty zEntryNext ?_ (zArgsNext _))))
  refine zLast hh D hz hc hT hl1 hl2 hi hj fun h' e k he => ?_
  obtain ⟨o, ho, hc⟩ := he
  refine wpAny_bind (wpAny_isInstance (T := "StopIteration") (b := true) ⟨o, ho, hc⟩ isSubtype_stop ?_)
  exact wpAny_pure (hQ _ k)
theorem zGo {elts : List Expr} {x1 : Nat} {pos : Pos} {z TI TO T : Addr} {c : Value} {run : Int} {Q : Unit → Shared → Prop} (hz : IsZl s.heap z TI TO (rawInt T) c run)
    (hQ : ∀ h', IsZl h' z TI TO .none c run → Heap.SameBut z s.heap h' → Q () { s with heap := h' }) : wpAny (model prog w) A (letOwnedTupleGo (.Tuple elts x1 pos) (.ref z) (.ref T)) Q E s := by
  unfold letOwnedTupleGo
  refine wpAny_bind (wpAny_load hz ?_)
  show wpAny _ _ (if (_ && (#[rawInt T, .bool false, c, rawInt run, .ref TI, .ref TO] : Array Value)[0]? == some (rawInt T)) = true then _ else _) Q E s
  rw [if_pos (by simp)]
  refine wpAny_bind (wpAny_rule ?_)
  exact zSet0 hz hQ
theorem zIter {z TI TO : Addr} {f0 c : Value} {run : Int} {Q : Value → Shared → Prop} (hz : IsZl s.heap z TI TO f0 c run) (h : Q (.ref z) s) : wpAny (model prog w) A (pyIter (.ref z)) Q E s := by
  have ty : s.TypeIs (.ref z) "itertools.zip_longest" := ⟨_, hz, rfl⟩
  refine wpAny_pyIter_slot ty zSlotIter (wpAny_call_entry zSlotIter ty zEntryIter ?_ (zArgsIter _))
  exact wpAny_pure ⟨_, rfl, "itertools.zip_longest", _, ty, zSlotNext.lookup, h⟩
theorem zCall {l1 l2 : Addr} {xs ys : Array Value} {c : Value} {Q : Value → Shared → Prop} (hl1 : s.heap.IsList l1 xs) (hl2 : s.heap.IsList l2 ys)
    (h : ∀ h', IsZl h' (s.heap.objs.size + 4) (s.heap.objs.size + 2) (s.heap.objs.size + 3) .none c 2 → IsTu h' (s.heap.objs.size + 2) (.ref s.heap.objs.size) (.ref (s.heap.objs.size + 1)) →
      IsTu h' (s.heap.objs.size + 3) .none .none → h'.IsListIter s.heap.objs.size l1 0 → h'.IsListIter (s.heap.objs.size + 1) l2 0 → (∀ b o, s.heap.get? b = some o → h'.get? b = some o) → Q (.ref (s.heap.objs.size + 4)) { s with heap := h' }) :
    wpAny (model prog w) A (call (.type "itertools.zip_longest") [.ref l1, .ref l2] [(Str.ofString "fillvalue", c)]) Q E s := by
  refine callType_newKw zCalled (by decide) (zTypeCall _ _ _) (zNewCall _ _ _) (fun obj => zInitArgs obj _ _ _) zEntryNew (zMeetsNew l1 l2 xs ys c) ⟨hl1, hl2, ?_⟩
  generalize hn : s.heap.objs.size = n at h ⊢
  have a1 : (zA s.heap l1).objs.size = n + 1 := by rw [Heap.size_push, hn]
  have a2 : (zB s.heap l1 l2).objs.size = n + 2 := by rw [Heap.size_push, a1]
  have a3 : (zC s.heap l1 l2).objs.size = n + 3 := by rw [Heap.size_push, a2]
  have a4 : (zD s.heap l1 l2).objs.size = n + 4 := by rw [Heap.size_push, a3]
  have b1 := Heap.get?_push_size s.heap (o := ItO l1) rfl
  have b2 := Heap.get?_push_size (zA s.heap l1) (o := ItO l2) rfl
  have b3 := Heap.get?_push_size (zB s.heap l1 l2) (o := TuO (.ref s.heap.objs.size) (.ref (zA s.heap l1).objs.size)) rfl
  have b4 := Heap.get?_push_size (zC s.heap l1 l2) (o := TuO .none .none) rfl
  have b5 := Heap.get?_push_size (zD s.heap l1 l2) (o := ZlO .none c 2 (zB s.heap l1 l2).objs.size (zC s.heap l1 l2).objs.size) rfl
  have up : ∀ b o, s.heap.get? b = some o → (zH s.heap l1 l2 c).get? b = some o := fun b o e => Heap.get?_push_of_some _ (Heap.get?_push_of_some _ (Heap.get?_push_of_some _ (Heap.get?_push_of_some _ (Heap.get?_push_of_some _ e))))
  have u1 : (zH s.heap l1 l2 c).get? s.heap.objs.size = some _ := Heap.get?_push_of_some _ (Heap.get?_push_of_some _ (Heap.get?_push_of_some _ (Heap.get?_push_of_some _ b1)))
  have u2 : (zH s.heap l1 l2 c).get? (zA s.heap l1).objs.size = some _ := Heap.get?_push_of_some _ (Heap.get?_push_of_some _ (Heap.get?_push_of_some _ b2))
  have u3 : (zH s.heap l1 l2 c).get? (zB s.heap l1 l2).objs.size = some _ := Heap.get?_push_of_some _ (Heap.get?_push_of_some _ b3)
  have u4 : (zH s.heap l1 l2 c).get? (zC s.heap l1 l2).objs.size = some _ := Heap.get?_push_of_some _ b4
  have u5 : (zH s.heap l1 l2 c).get? (zD s.heap l1 l2).objs.size = some _ := b5
  show _ ∧ _
  rw [hn] at u1
  rw [a1] at u2
  rw [a2, hn, a1] at u3
  rw [a3] at u4
  rw [a4, a2, a3] at u5
  rw [a4]
  exact ⟨⟨_, u5, rfl⟩, h _ u5 u3 u4 ⟨_, u1, rfl, rfl⟩ ⟨_, u2, rfl, rfl⟩ up⟩
end
end CB.Z

namespace CB.Z
open PySem PySem.Spec PyProof.Rows L2
/-- the lists xs at a and ys at b in step, the shorter one filled up -/
def ItZl (K : PySem.W.Frag) (a b : Addr) (xs ys : List V) (n : Int) : It :=
  ⟨fun i H => SqL K H a xs ∧ SqL K H b ys ∧ (i < xs.length ∨ i < ys.length),
    fun i H v H' => ∃ T, v = .ref T ∧ H T = none ∧ H' = upd H T (.tup [xs.getD i (.int n), ys.getD i (.int n)]),
    fun i H => SqL K H a xs ∧ SqL K H b ys ∧ xs.length ≤ i ∧ ys.length ≤ i⟩
theorem relGetD {xs : List V} {us : List Value} {n : Int} {t : Tok} (r : Vals xs us) (i : Nat) : RelV (xs.getD i (.int n)) (us.toArray.getD i (.int n t)) := by
  have l := r.length
  by_cases h : i < xs.length
  · obtain ⟨u, hu, ru⟩ := r.get (List.getElem?_eq_getElem h)
    have e1 : xs.getD i (.int n) = xs[i] := by rw [List.getD_eq_getElem?_getD, List.getElem?_eq_getElem h]; rfl
    have e2 : us.toArray.getD i (.int n t) = u := by rw [Array.getD_eq_getD_getElem?]; simp [hu]
    rw [e1, e2]
    exact ru
  · have e1 : xs.getD i (.int n) = .int n := by rw [List.getD_eq_getElem?_getD, List.getElem?_eq_none (by omega)]; rfl
    have e2 : us.toArray.getD i (.int n t) = .int n t := by
      rw [Array.getD_eq_getD_getElem?, Array.getElem?_eq_none (by simp; omega)]
      rfl
    rw [e1, e2]
    exact ⟨t, rfl⟩
theorem turnZl {P : Program} {w : World} {K : PySem.W.Frag} {elts : List Expr} {kk : Nat} {tpos : Pos} {a b z TI TO i1 i2 : Addr} {xs ys : List V} {n : Int} {t : Tok} (D : ZA z TI TO i1 i2 a b) :
    Turn P w K (.Tuple elts kk tpos) (ItZl K a b xs ys n) [z, TI, TO, i1, i2] z (fun i h => IsZl h z TI TO .none (.int n t) (lives xs.length i + lives ys.length i) ∧ ZCol h TI i1 i2 a b xs.length i ys.length i ∧ (∃ x y, IsTu h TO x y) ∧ (i ≤ xs.length ∨ i ≤ ys.length)) where
  mem := by simp
  obj := fun i h st c hc => by
    obtain ⟨hz, ⟨⟨x, y, hTI, ca, cb⟩⟩, ⟨x2, y2, hTO⟩, _⟩ := st
    have gone : ∀ {e : Value} {it l : Addr} {m j : Nat}, Col h e it l m j → ∃ o, h.get? it = some o ∧ ∀ v, o.data ≠ .cell v := fun c => by
      rcases c with ⟨_, ⟨o, g, _, d⟩, _⟩ | ⟨_, _, o, vs, g, d⟩
      · exact ⟨o, g, fun v q => by rw [d] at q; cases q⟩
      · exact ⟨o, g, fun v q => by rw [d] at q; cases q⟩
    simp only [List.mem_cons, List.not_mem_nil, or_false] at hc
    rcases hc with rfl | rfl | rfl | rfl | rfl
    · exact ⟨_, hz, fun v q => nomatch q⟩
    · exact ⟨_, hTI, fun v q => nomatch q⟩
    · exact ⟨_, hTO, fun v q => nomatch q⟩
    · exact gone ca
    · exact gone cb
  keep := fun i h h' st k => by
    obtain ⟨hz, ⟨⟨x, y, hTI, ca, cb⟩⟩, ⟨x2, y2, hTO⟩, q⟩ := st
    exact ⟨k z (by simp) _ hz, ⟨_, _, k TI (by simp) _ hTI, ca.ext fun o e => k i1 (by simp) o e, cb.ext fun o e => k i2 (by simp) o e⟩, ⟨_, _, k TO (by simp) _ hTO⟩, q⟩
  item := by
    intro X hP hw hK hc i pins s σ H E I hf st hg
    subst hP hw hK
    obtain ⟨hz, hcol, hTO, hij⟩ := st
    obtain ⟨hqx, hqy, hi⟩ := hg
    obtain ⟨us, rv, p, _⟩ := I.list hqx
    obtain ⟨us2, rv2, p2, _⟩ := I.list hqy
    have n1 : us.toArray.size = xs.length := by rw [List.size_toArray, rv.length]
    have n2 : us2.toArray.size = ys.length := by rw [List.size_toArray, rv2.length]
    rw [← n1, ← n2] at hz hcol hi
    refine zNextItem (I.ok.hd hc) D hz hcol hTO p.isList p2.isList hi fun h' T hle hz' hcol' hTO' hT kp => ?_
    refine ⟨_, rfl, zGo (s := { s with heap := h' }) hz' fun h'' hz'' sb => ?_⟩
    have zlt : z < s.heap.objs.size := Heap.lt_size hz
    have Tz : T ≠ z := Nat.ne_of_gt (Nat.lt_of_lt_of_le zlt hle)
    have hT2 : h''.get? T = some (TuO (us.toArray.getD i (.int n t)) (us2.toArray.getD i (.int n t))) := sb.extBut _ _ Tz hT
    have new : ObjOk X.prog X.w (upd H T (.tup [xs.getD i (.int n), ys.getD i (.int n)])) h'' T (.tup [xs.getD i (.int n), ys.getD i (.int n)]) :=
      ⟨by show 2 ≤ sizeLine; decide, [us.toArray.getD i (.int n t), us2.toArray.getD i (.int n t)], .cons (relGetD rv i) (.cons (relGetD rv2 i) .nil), ⟨_, hT2, rfl, _, rfl⟩⟩
    have I1 : Inv X pins σ (upd H T (.tup [xs.getD i (.int n), ys.getD i (.int n)])) { s with heap := h'' } :=
      I.turnedNew (t' := s.toks) (ch := [z, TI, TO, i1, i2]) (fun c o hb q => sb.extBut _ _ (fun e => hb (by simp [e])) (kp c o (fun e => hb (by simp [e])) (fun e => hb (by simp [e])) (fun e => hb (by simp [e])) (fun e => hb (by simp [e])) (fun e => hb (by simp [e])) q)) hf hle new
    rw [n1, n2] at hz'' hcol'
    obtain ⟨⟨x3, y3, hTI3, ca3, cb3⟩⟩ := hcol'
    obtain ⟨x4, y4, hTO4⟩ := hTO'
    refine ⟨.ref T, _, I1, rfl, ⟨T, rfl, I.hok.fresh hle, rfl⟩, ⟨hz'', ⟨_, _, sb.extBut _ _ D.TIz hTI3, ca3.ext fun o e => sb.extBut _ _ D.i1z e, cb3.ext fun o e => sb.extBut _ _ D.i2z e⟩, ⟨_, _, sb.extBut _ _ D.TOz hTO4⟩, by omega⟩, fun c hcm => ?_⟩
    have hcn := (hf c hcm).1
    have ne : c ≠ T := fun e => by
      obtain ⟨o, g, _⟩ : ∃ o, s.heap.get? c = some o ∧ True := by
        obtain ⟨⟨x5, y5, hTI5, ca5, cb5⟩⟩ := hcol
        obtain ⟨x6, y6, hTO6⟩ := hTO
        have gone : ∀ {e : Value} {it l : Addr} {m j : Nat}, Col s.heap e it l m j → ∃ o, s.heap.get? it = some o ∧ True := fun c => by
          rcases c with ⟨_, ⟨o, g, _, d⟩, _⟩ | ⟨_, _, o, vs, g, d⟩
          · exact ⟨o, g, trivial⟩
          · exact ⟨o, g, trivial⟩
        simp only [List.mem_cons, List.not_mem_nil, or_false] at hcm
        rcases hcm with rfl | rfl | rfl | rfl | rfl
        · exact ⟨_, hz, trivial⟩
        · exact ⟨_, hTI5, trivial⟩
        · exact ⟨_, hTO6, trivial⟩
        · exact gone ca5
        · exact gone cb5
      have := Heap.lt_size g
      rw [e] at this
      exact absurd (Nat.lt_of_lt_of_le this hle) (Nat.lt_irrefl _)
    rw [upd_ne ne]
    exact hcn
  done := by
    intro X hP hw hK hc i pins s σ H E I hf st hg
    subst hP hw hK
    obtain ⟨hz, hcol, hTO, hij⟩ := st
    obtain ⟨hqx, hqy, hi⟩ := hg
    obtain ⟨us, rv, p, _⟩ := I.list hqx
    obtain ⟨us2, rv2, p2, _⟩ := I.list hqy
    have n1 : us.toArray.size = xs.length := by rw [List.size_toArray, rv.length]
    have n2 : us2.toArray.size = ys.length := by rw [List.size_toArray, rv2.length]
    rw [← n1, ← n2] at hz hcol hi hij
    exact zNextLast (I.ok.hd hc) D hz hcol hTO p.isList p2.isList hi hij fun h' kp => ⟨rfl, I.turnedL (t' := s.toks) (ch := [z, TI, TO, i1, i2]) (fun c o hb q =>
      kp c o (fun e => hb (by simp [e])) (fun e => hb (by simp [e])) (fun e => hb (by simp [e])) (fun e => hb (by simp [e])) (fun e => hb (by simp [e])) q) hf⟩
  self := fun A i s Q E st h => zIter st.1 h
def iZipL (K : PySem.W.Frag) (ta tk : TA) : TI := fun σ H R => ta σ H fun vs H1 => tk σ H1 fun ks H2 => ∃ a b xs ys n, vs = [.ref a, .ref b] ∧ ks = [.int n] ∧ SqL K H2 a xs ∧ SqL K H2 b ys ∧ R (ItZl K a b xs ys n) H2
theorem callTK {M : Model} {A : Around} {E : Value → Shared → Prop} {s : Shared} {env : Env} {pos : Pos} {T : String} {e : Expr} {rest : List Expr} {kws : List Keyword} {Q : Value → Shared → Prop}
    (h : wpAny M A (spliced (backTo pos (starEach (e :: rest) env))) (fun vs s₁ => wpAny M A (evalAll ((backToKw pos (keywordEach kws env)).map (·.2)))
      (fun ws s₂ => wpAny M A (call (.type T) vs (((backToKw pos (keywordEach kws env)).filterMap (·.1)).zip ws)) Q E s₂) E s₁) E s)
    (h1 : backTo pos (starEach (e :: rest) env) = (false, eval e env) :: backTo pos (starEach rest env)) (h2 : (backTo pos (starEach (e :: rest) env)).any (·.1) = false)
    (h3 : (backToKw pos (keywordEach kws env)).all (·.1.isSome) = true) (h4 : (backToKw pos (keywordEach kws env)).any (·.1.isNone) = false) :
    wpAny M A (callWith pos (.type T) [] (backTo pos (starEach (e :: rest) env)) (backToKw pos (keywordEach kws env))) Q E s := by
  have g : wpAny M A (evalArgs (.type T) true (backTo pos (starEach (e :: rest) env)) (backToKw pos (keywordEach kws env))) (fun a s₁ => wpAny M A (call (.type T) ([] ++ a.pos) a.kw) Q E s₁) E s := by
    rw [h1] at h ⊢
    exact evalArgs_kwB h3 h
  unfold callWith
  refine wpAny_bind (wpAny_holding (wpAny_mono g (fun a s₁ q => wpAny_bind (wpAny_standAt ?_)) fun _ _ x => x))
  simp only [h2, h4, Bool.or_false]
  refine wpAny_bind (wpAny_pure (wpAny_bind (wpAny_mono q (fun r s₂ hr => ?_) fun _ _ x => x)))
  exact wpAny_bind (wpAny_holding (wpAny_point (wpAny_pure hr)))
theorem pi_zipL {X : Cx} {e e2 ev : Expr} {ta tk : TA} {p pos tpos kp : Pos} {elts : List Expr} {kk : Nat} (hg : Gl X "zip_longest") (hm : X.mg "zip_longest" = some (.type "itertools.zip_longest")) (ha : PA X [e, e2] ta)
    (hk : PK X [⟨some "fillvalue", ev, kp⟩] tk) (h1 : backTo pos (starEach [e, e2] X.env) = (false, eval e X.env) :: backTo pos (starEach [e2] X.env) := by rfl) (h2 : (backTo pos (starEach [e, e2] X.env)).any (·.1) = false := by rfl) :
    PI X (.Tuple elts kk tpos) (.Call (.Name "zip_longest" p) [e, e2] [⟨some "fillvalue", ev, kp⟩] pos) (iZipL X.K ta tk) := by
  refine ⟨fun pins s σ H R I h => ?_⟩
  refine wpAny_Call_Name_kw (ld_glob I hg hm ?_ (by decide))
  refine callTK (thn (ha.run pos pins s σ H _ I h) fun us s1 q => ?_) h1 h2 rfl rfl
  obtain ⟨vs, H1, I1, r1, q1⟩ := q
  refine thn (hk.run pos pins s1 σ H1 _ I1 q1) fun ws s2 q => ?_
  obtain ⟨ks, H2, I2, r2, a, b, xs, ys, n, ev, ek, hqx, hqy, q2⟩ := q
  subst ev ek
  cases r1 with
  | cons ra rr =>
    cases rr with
    | cons rb rr =>
      cases rr
      cases ra
      cases rb
      cases r2 with
      | cons rn rr =>
        cases rr
        obtain ⟨t, rfl⟩ := rn
        obtain ⟨us, rv, p1, _⟩ := I2.list hqx
        obtain ⟨us2, rv2, p2, _⟩ := I2.list hqy
        have la : a < s2.heap.objs.size := p1.lt
        have lb : b < s2.heap.objs.size := p2.lt
        refine zCall p1.isList p2.isList fun h' hz hTI hTO h1 h2 hk => zIter hz ?_
        have D : ZA (s2.heap.objs.size + 4) (s2.heap.objs.size + 2) (s2.heap.objs.size + 3) s2.heap.objs.size (s2.heap.objs.size + 1) a b :=
          { toZipApart := PySem.W.ktu_apart s2.heap.objs.size a b la lb, l1TI := Nat.ne_of_lt (Nat.lt_add_right 2 la), l2TI := Nat.ne_of_lt (Nat.lt_add_right 2 lb) }
        have I3 : Inv X pins σ H2 { s2 with heap := h' } := I2.kept (t' := s2.toks) hk
        refine ⟨s2.heap.objs.size + 4, [s2.heap.objs.size + 4, s2.heap.objs.size + 2, s2.heap.objs.size + 3, s2.heap.objs.size, s2.heap.objs.size + 1], _, _, H2, rfl, I3, turnZl (xs := xs) (ys := ys) (n := n) (t := t) D,
          ⟨by unfold lives; rw [if_pos (Nat.zero_le _), if_pos (Nat.zero_le _)]; exact hz, ⟨_, _, hTI, .inl ⟨rfl, h1, Nat.zero_le _⟩, .inl ⟨rfl, h2, Nat.zero_le _⟩⟩, ⟨_, _, hTO⟩, .inl (Nat.zero_le _)⟩, fun c hcm => ?_, q2⟩
        have hle : s2.heap.objs.size ≤ c := by
          simp only [List.mem_cons, List.not_mem_nil, or_false] at hcm
          rcases hcm with z | z | z | z | z <;> (rw [z]; omega)
        exact I2.fpOk hle (I2.hok.fresh hle)
end CB.Z

namespace CB.Z
open PySem PySem.Spec PyProof.Rows L2
/-- the reading of a comprehension over zip_longest -/
theorem lc_zl {K : PySem.W.Frag} {a b : Addr} {xs ys : List V} {n : Int} {g : TG} {tt : TT} {te : TE} {vs : List Nat} {σ : L2.St} {H1 : Hp} {D : Addr} {Qd : Hp → Prop} (Pv : Nat → Hp → Prop) (h0 : Pv 0 (upd H1 D (.lst [])))
    (hq : ∀ i H, Pv i H → SqL K H a xs ∧ SqL K H b ys)
    (hs : ∀ i T H, (i < xs.length ∨ i < ys.length) → Pv i H → H T = none → g (.ref T) (wipe σ vs) (upd H T (.tup [xs.getD i (.int n), ys.getD i (.int n)])) fun σ2 H2 => wipe σ2 vs = wipe σ vs ∧ tt σ2 H2 fun k H3 =>
      if k = true then te σ2 H3 fun y H4 => ∃ acc, H4 D = some (.lst acc) ∧ acc.length < sizeLine ∧ Pv (i + 1) (upd H4 D (.lst (acc ++ [y]))) else Pv (i + 1) H3)
    (hd : ∀ H, Pv (max xs.length ys.length) H → Qd H) :
    ∃ W : Nat → Nat → Hp → Prop, (∃ m, W 0 m (upd H1 D (.lst []))) ∧ ∀ i m H, W i m H →
      ((ItZl K a b xs ys n).stop i H ∧ Qd H) ∨ ((ItZl K a b xs ys n).go i H ∧ ∃ Nx : Hp → Prop, (∀ H', Nx H' → ∃ m', m' < m ∧ W (i + 1) m' H') ∧
        ∀ x H', (ItZl K a b xs ys n).yld i H x H' → g x (wipe σ vs) H' fun σ2 H2 => wipe σ2 vs = wipe σ vs ∧ tt σ2 H2 fun k H3 =>
          if k = true then te σ2 H3 fun y H4 => ∃ acc, H4 D = some (.lst acc) ∧ acc.length < sizeLine ∧ Nx (upd H4 D (.lst (acc ++ [y]))) else Nx H3) := by
  refine ⟨fun i m H => m = max xs.length ys.length - i ∧ i ≤ max xs.length ys.length ∧ Pv i H, ⟨_, rfl, Nat.zero_le _, h0⟩, fun i m H hw => ?_⟩
  obtain ⟨rfl, hi, p⟩ := hw
  obtain ⟨qa, qb⟩ := hq i H p
  by_cases lt : i < max xs.length ys.length
  · refine .inr ⟨⟨qa, qb, by omega⟩, Pv (i + 1), fun H' p' => ⟨_, by omega, rfl, lt, p'⟩, fun x H' y => ?_⟩
    obtain ⟨T, rfl, nT, rfl⟩ := y
    exact hs i T H (by omega) p nT
  · have e : i = max xs.length ys.length := by omega
    subst e
    exact .inl ⟨⟨qa, qb, by omega, by omega⟩, hd H p⟩
end CB.Z

namespace CB
open PySem PySem.Spec PyProof.Rows L2
/-- n is where xs ends without its last zeros -/
structure Trim (xs : List Int) (n : Nat) : Prop where
  le : n ≤ xs.length
  up : ∀ k, n ≤ k → xs.getD k 0 = 0
  at_ : n = 0 ∨ xs.getD (n - 1) 0 ≠ 0
theorem getD_take {xs : List Int} {n k : Nat} : (xs.take n).getD k 0 = if k < n then xs.getD k 0 else 0 := by
  rw [List.getD_eq_getElem?_getD, List.getD_eq_getElem?_getD, List.getElem?_take]
  split <;> rfl
theorem Trim.take {xs : List Int} {n : Nat} (t : Trim xs n) (k : Nat) : (xs.take n).getD k 0 = xs.getD k 0 := by
  rw [getD_take]
  split
  · rfl
  · exact (t.up k (by omega)).symm
theorem getD_map {f : Int → Int} (h : f 0 = 0) (xs : List Int) (k : Nat) : (xs.map f).getD k 0 = f (xs.getD k 0) := by
  rw [List.getD_eq_getElem?_getD, List.getD_eq_getElem?_getD, List.getElem?_map]
  cases xs[k]? with
  | none => exact h.symm
  | some x => rfl
theorem getD_mem {xs : List Int} {k : Nat} (h : k < xs.length) : xs.getD k 0 ∈ xs := by
  rw [List.getD_eq_getElem?_getD, List.getElem?_eq_getElem h]
  exact List.getElem_mem h
theorem getD_of {xs : List Int} {k : Nat} {x : Int} (h : xs[k]? = some x) : xs.getD k 0 = x := by rw [List.getD_eq_getElem?_getD, h]; rfl
theorem getD_end {xs : List Int} {k : Nat} (h : xs.length ≤ k) : xs.getD k 0 = 0 := by rw [List.getD_eq_getElem?_getD, List.getElem?_eq_none h]; rfl
theorem get_of_lt {xs : List Int} {k : Nat} (h : k < xs.length) : xs[k]? = some (xs.getD k 0) := by rw [List.getD_eq_getElem?_getD, List.getElem?_eq_getElem h]; rfl
theorem list_ext {xs ys : List Int} (h : xs.length = ys.length) (e : ∀ k, xs.getD k 0 = ys.getD k 0) : xs = ys := by
  refine List.ext_getElem? fun k => ?_
  by_cases c : k < xs.length
  · rw [get_of_lt c, get_of_lt (by omega), e]
  · rw [List.getElem?_eq_none (by omega), List.getElem?_eq_none (by omega)]
/-! ### the greatest common divisor of a list -/
def gcdL (xs : List Int) : Nat := xs.foldl (fun g x => Nat.gcd g x.natAbs) 0
theorem foldg_dvd (xs : List Int) : ∀ g : Nat, xs.foldl (fun g x => Nat.gcd g x.natAbs) g ∣ g ∧ ∀ x ∈ xs, xs.foldl (fun g x => Nat.gcd g x.natAbs) g ∣ x.natAbs := by
  induction xs with
  | nil => intro g; exact ⟨Nat.dvd_refl _, fun x h => absurd h (by simp)⟩
  | cons y r ih =>
    intro g
    obtain ⟨h1, h2⟩ := ih (Nat.gcd g y.natAbs)
    refine ⟨Nat.dvd_trans h1 (Nat.gcd_dvd_left _ _), fun x hx => ?_⟩
    rcases List.mem_cons.mp hx with rfl | hx
    · exact Nat.dvd_trans h1 (Nat.gcd_dvd_right _ _)
    · exact h2 x hx
theorem foldg_great (xs : List Int) {d : Nat} : ∀ g : Nat, d ∣ g → (∀ x ∈ xs, d ∣ x.natAbs) → d ∣ xs.foldl (fun g x => Nat.gcd g x.natAbs) g := by
  induction xs with
  | nil => intro g h _; exact h
  | cons y r ih => intro g h h2; exact ih _ (Nat.dvd_gcd h (h2 y (by simp))) fun x hx => h2 x (by simp [hx])
theorem gcdL_dvd {xs : List Int} {x : Int} (h : x ∈ xs) : gcdL xs ∣ x.natAbs := (foldg_dvd xs 0).2 x h
theorem gcdL_great {xs : List Int} {d : Nat} (h : ∀ x ∈ xs, d ∣ x.natAbs) : d ∣ gcdL xs := foldg_great xs 0 (Nat.dvd_zero d) h
theorem gcdL_more {xs : List Int} {i : Nat} {x : Int} (h : xs[i]? = some x) : gcdL (xs.take (i + 1)) = Nat.gcd (gcdL (xs.take i)) x.natAbs := by
  unfold gcdL
  rw [List.take_succ, h, List.foldl_append]
  rfl
theorem gcdL_one {xs : List Int} {i : Nat} (h : gcdL (xs.take i) = 1) : gcdL xs = 1 := by
  have z : gcdL xs ∣ gcdL (xs.take i) := gcdL_great fun x hx => gcdL_dvd (List.mem_of_mem_take hx)
  rw [h] at z
  exact Nat.eq_one_of_dvd_one z
/-! ### the one form -/
/-- ks / e is the one form of cs / d -/
structure Pq (cs : List Int) (d : Int) (ks : List Int) (e : Int) : Prop where
  eq : ∀ i, ks.getD i 0 * d = cs.getD i 0 * e
  pos : 0 < e
  last : ks = [] ∨ ks.getD (ks.length - 1) 0 ≠ 0
  cop : ∀ g : Int, g ∣ e → (∀ i, g ∣ ks.getD i 0) → g ∣ 1
theorem Pq.len {cs : List Int} {d : Int} {ks : List Int} {e : Int} (p : Pq cs d ks e) (hd : d ≠ 0) : ks.length ≤ cs.length := Decidable.byContradiction fun c => by
  rcases p.last with h | h
  · rw [h] at c; simp at c
  · have z := p.eq (ks.length - 1)
    rw [getD_end (xs := cs) (by omega), Int.zero_mul] at z
    rcases Int.mul_eq_zero.mp z with z | z
    · exact h z
    · exact hd z
/-- the same polynomial by another pair -/
theorem Pq.conv {cs cs' : List Int} {d d' : Int} {ks : List Int} {e : Int} (p : Pq cs d ks e) (hd : d ≠ 0) (h : ∀ i, cs.getD i 0 * d' = cs'.getD i 0 * d) : Pq cs' d' ks e := by
  refine ⟨fun i => ?_, p.pos, p.last, p.cop⟩
  have z := p.eq i
  have z2 := h i
  have : (ks.getD i 0 * d') * d = (cs'.getD i 0 * e) * d := by grind
  exact Int.eq_of_mul_eq_mul_right hd this
theorem Pq.den_dvd {cs : List Int} {d : Int} {ks ks' : List Int} {e e' : Int} (p : Pq cs d ks e) (p' : Pq cs d ks' e') (hd : d ≠ 0) : e ∣ e' := by
  have cross : ∀ i, ks.getD i 0 * e' = ks'.getD i 0 * e := fun i => by
    have z := p.eq i
    have z2 := p'.eq i
    have : (ks.getD i 0 * e') * d = (ks'.getD i 0 * e) * d := by grind
    exact Int.eq_of_mul_eq_mul_right hd this
  have pe := p.pos
  obtain ⟨g, x, y, _, g0, ex, ey, cxy, _, _⟩ := gcd_parts (n := e) (d := e') (.inl (by omega))
  have hx : ∀ i, x ∣ ks.getD i 0 := fun i => by
    have z := cross i
    rw [ex, ey] at z
    have z2 : ks.getD i 0 * y = ks'.getD i 0 * x := by
      have : (ks.getD i 0 * y) * g = (ks'.getD i 0 * x) * g := by grind
      exact Int.eq_of_mul_eq_mul_right (by omega) this
    exact dvd_of_cop (a := y) ⟨ks'.getD i 0, by grind⟩ cxy.symm
  have h1 := p.cop x ⟨g, by rw [ex]; grind⟩ hx
  obtain ⟨u, hu⟩ := h1
  refine ⟨y * u, ?_⟩
  rw [ey, ex]
  grind
theorem Pq.uniq {cs : List Int} {d : Int} {ks ks' : List Int} {e e' : Int} (p : Pq cs d ks e) (p' : Pq cs d ks' e') (hd : d ≠ 0) : ks = ks' ∧ e = e' := by
  have h1 := p.den_dvd p' hd
  have h2 := p'.den_dvd p hd
  have q1 := p.pos
  have q2 := p'.pos
  have ee : e = e' := by
    have z1 := natAbs_le_of_dvd h1 (by omega)
    have z2 := natAbs_le_of_dvd h2 (by omega)
    omega
  subst ee
  have same : ∀ i, ks.getD i 0 = ks'.getD i 0 := fun i => by
    have z1 := p.eq i
    have z2 := p'.eq i
    exact Int.eq_of_mul_eq_mul_right hd (z1.trans z2.symm)
  refine ⟨list_ext ?_ same, rfl⟩
  have le : ∀ {as bs : List Int}, (∀ i, as.getD i 0 = bs.getD i 0) → (as = [] ∨ as.getD (as.length - 1) 0 ≠ 0) → as.length ≤ bs.length := fun {as bs} h l => Decidable.byContradiction fun c => by
    rcases l with l | l
    · rw [l] at c; simp at c
    · rw [h, getD_end (by omega)] at l
      exact l rfl
  exact Nat.le_antisymm (le same p.last) (le (fun i => (same i).symm) p'.last)
theorem fdiv_dvd {c x : Int} (hc : c ≠ 0) (h : c ∣ x) : x.fdiv c * c = x := by
  obtain ⟨y, rfl⟩ := h
  rw [Int.mul_fdiv_cancel_left _ hc]
  grind
/-- what __init__ stores -/
theorem pq_init {cs : List Int} {d c : Int} {n : Nat} (hd : d ≠ 0) (t : Trim cs n) (hc : c = if d < 0 then -((gcdL (d :: cs.take n) : Nat) : Int) else ((gcdL (d :: cs.take n) : Nat) : Int)) :
    c ≠ 0 ∧ c.natAbs ≤ d.natAbs ∧ Pq cs d ((cs.take n).map fun x => x.fdiv c) (d.fdiv c) := by
  have dv : ∀ x ∈ d :: cs.take n, gcdL (d :: cs.take n) ∣ x.natAbs := fun x hx => gcdL_dvd hx
  have gd := dv d (by simp)
  have g0 : 0 < gcdL (d :: cs.take n) := Nat.pos_of_dvd_of_pos gd (by omega)
  have ca : c.natAbs = gcdL (d :: cs.take n) := by rw [hc]; split <;> omega
  have c0 : c ≠ 0 := by omega
  have cd : ∀ x ∈ d :: cs.take n, c ∣ x := fun x hx => Int.natAbs_dvd_natAbs.mp (by rw [ca]; exact dv x hx)
  have e1 := fdiv_dvd c0 (cd d (by simp))
  have f0 : (0 : Int).fdiv c = 0 := Int.zero_fdiv c
  have e2 : ∀ i, ((cs.take n).map fun x => x.fdiv c).getD i 0 * c = cs.getD i 0 := fun i => by
    rw [getD_map f0, t.take]
    by_cases h : i < n
    · refine fdiv_dvd c0 (cd _ (List.mem_cons_of_mem _ ?_))
      rw [← t.take i]
      refine getD_mem ?_
      rw [List.length_take]
      have := t.le
      omega
    · rw [t.up i (by omega), f0, Int.zero_mul]
  have sgn : 0 < d.fdiv c := Decidable.byContradiction fun hn => by
    have hn : d.fdiv c ≤ 0 := by omega
    generalize d.fdiv c = u at *
    by_cases h : d < 0
    · have : c < 0 := by rw [hc, if_pos h]; omega
      have z := Int.mul_nonneg (show 0 ≤ -u by omega) (show 0 ≤ -c by omega)
      rw [Int.neg_mul_neg] at z
      omega
    · have : 0 < c := by rw [hc, if_neg h]; omega
      have z := Int.mul_nonneg (show 0 ≤ -u by omega) (show 0 ≤ c by omega)
      rw [Int.neg_mul] at z
      omega
  refine ⟨c0, by rw [ca]; exact Nat.le_of_dvd (by omega) gd, fun i => ?_, sgn, ?_, fun g h1 h2 => ?_⟩
  · have z := e2 i
    generalize ((cs.take n).map fun x => x.fdiv c).getD i 0 = u at *
    rw [← z]
    generalize d.fdiv c = v at *
    rw [← e1]
    grind
  · have ln : ((cs.take n).map fun x => x.fdiv c).length = n := by
      rw [List.length_map, List.length_take]
      have := t.le
      omega
    rcases t.at_ with h | h
    · left
      exact List.eq_nil_of_length_eq_zero (by omega)
    · right
      rw [ln]
      intro z
      have z2 := e2 (n - 1)
      rw [z, Int.zero_mul] at z2
      exact h z2.symm
  · -- g c divides all
    have k1 : (g * c).natAbs ∣ gcdL (d :: cs.take n) := gcdL_great fun x hx => Int.natAbs_dvd_natAbs.mpr (by
      rcases List.mem_cons.mp hx with rfl | hx
      · obtain ⟨u, hu⟩ := h1
        exact ⟨u, by rw [← e1, hu]; grind⟩
      · obtain ⟨i, hi, rfl⟩ := List.mem_iff_getElem.mp hx
        have z := e2 i
        rw [← t.take i] at z
        obtain ⟨u, hu⟩ := h2 i
        refine ⟨u, ?_⟩
        have z3 : (cs.take n)[i] = (cs.take n).getD i 0 := by rw [List.getD_eq_getElem?_getD, List.getElem?_eq_getElem hi]; rfl
        rw [z3, ← z, hu]
        grind)
    rw [← ca, Int.natAbs_mul] at k1
    have k2 : g.natAbs * c.natAbs ≤ 1 * c.natAbs := by
      rw [Nat.one_mul]
      exact Nat.le_of_dvd (by omega) k1
    have k3 : g.natAbs ≤ 1 := Nat.le_of_mul_le_mul_right k2 (by omega)
    have k4 : g ≠ 0 := fun z => by
      rw [z] at h1
      obtain ⟨u, hu⟩ := h1
      rw [Int.zero_mul] at hu
      omega
    have : g.natAbs = 1 := by omega
    exact Int.natAbs_dvd_natAbs.mp (by rw [this]; exact Nat.one_dvd _)
/-! ### == of tuples of whole numbers -/
theorem eqvA (xs ys : List Int) : PyData.eqvAll (xs.map PyData.int) (ys.map PyData.int) = decide (xs = ys) := by
  induction xs generalizing ys with
  | nil => cases ys <;> simp [PyData.eqvAll]
  | cons x r ih =>
    cases ys with
    | nil => simp [PyData.eqvAll]
    | cons y s =>
      have e : (x == y) = decide (x = y) := rfl
      simp [PyData.eqvAll, PyData.eqv, ih, e]
theorem eqvT (xs ys : List Int) : PyData.eqv (.tuple (xs.map PyData.int)) (.tuple (ys.map PyData.int)) = decide (xs = ys) := by
  rw [← eqvA]
  simp [PyData.eqv]
theorem eqvL (xs ys : List Int) : PyData.eqv (.list (xs.map PyData.int)) (.list (ys.map PyData.int)) = decide (xs = ys) := by
  rw [← eqvA]
  simp [PyData.eqv]
theorem dpI {K : PySem.W.Frag} {H : Hp} : ∀ xs : List Int, DpAll K H (xs.map V.int) (xs.map PyData.int)
  | [] => .nil
  | x :: r => .cons (.int x) (dpI r)
theorem layI (xs : List Int) : PyData.canLayAll0 (xs.map PyData.int) = true := by
  induction xs with
  | nil => rfl
  | cons x r ih => simp [PyData.canLayAll0, PyData.canLay0, ih]
theorem depI (xs : List Int) : PyData.depthAll (xs.map PyData.int) ≤ 1 := by
  induction xs with
  | nil => decide
  | cons x r ih =>
    simp only [List.map_cons, PyData.depthAll, PyData.depth]
    omega
theorem shT (xs : List Int) : SeqAt.shaped (.tuple (xs.map PyData.int)) = true := by
  have d := depI xs
  unfold SeqAt.shaped
  simp [PyData.canLay0, layI, PyData.depth]
  omega
theorem shL (xs : List Int) : SeqAt.shaped (.list (xs.map PyData.int)) = true := by
  have d := depI xs
  unfold SeqAt.shaped
  simp [PyData.canLay0, layI, PyData.depth]
  omega
/-! ### sums -/
def addL (xs ys : List Int) : List Int := (List.range (max xs.length ys.length)).map fun i => xs.getD i 0 + ys.getD i 0
theorem addL_at (xs ys : List Int) (i : Nat) : (addL xs ys).getD i 0 = xs.getD i 0 + ys.getD i 0 := by
  unfold addL
  by_cases h : i < max xs.length ys.length
  · rw [List.getD_eq_getElem?_getD, List.getElem?_map, List.getElem?_range h]
    rfl
  · rw [getD_end (by rw [List.length_map, List.length_range]; omega), getD_end (xs := xs) (by omega), getD_end (xs := ys) (by omega)]
    rfl
theorem addL_len (xs ys : List Int) : (addL xs ys).length = max xs.length ys.length := by rw [addL, List.length_map, List.length_range]
theorem mul_at (xs : List Int) (c : Int) (i : Nat) : (xs.map fun x => x * c).getD i 0 = xs.getD i 0 * c := getD_map (f := fun x => x * c) (Int.zero_mul c) xs i
theorem neg_at (xs : List Int) (i : Nat) : (xs.map fun x => -x).getD i 0 = -(xs.getD i 0) := getD_map (f := fun x => -x) rfl xs i
/-- cs / d + cs' / d' -/
abbrev sumP (cs : List Int) (d : Int) (cs' : List Int) (d' : Int) : List Int := addL (cs.map fun x => x * d') (cs'.map fun x => x * d)
theorem sumP_at (cs : List Int) (d : Int) (cs' : List Int) (d' : Int) (i : Nat) : (sumP cs d cs' d').getD i 0 = cs.getD i 0 * d' + cs'.getD i 0 * d := by rw [addL_at, mul_at, mul_at]
/-- sums by other pairs -/
theorem Pq.add {a b : Int} {as bs ks js ms : List Int} {e f g : Int} (p1 : Pq as a ks e) (p2 : Pq bs b js f) (p : Pq (sumP ks e js f) (e * f) ms g) : Pq (sumP as a bs b) (a * b) ms g := by
  have q1 := p1.pos
  have q2 := p2.pos
  refine p.conv (Int.mul_ne_zero (by omega) (by omega)) fun i => ?_
  rw [sumP_at, sumP_at]
  have e1 := p1.eq i
  have e2 := p2.eq i
  grind
theorem Pq.neg {as ks ms : List Int} {a e g : Int} (p1 : Pq as a ks e) (p : Pq (ks.map fun x => -x) e ms g) : Pq (as.map fun x => -x) a ms g := by
  refine p.conv (by have := p1.pos; omega) fun i => ?_
  rw [neg_at, neg_at]
  have e1 := p1.eq i
  grind
theorem Pq.self {cs : List Int} {d : Int} {ks : List Int} {e : Int} (p : Pq cs d ks e) : Pq ks e ks e := ⟨fun i => rfl, p.pos, p.last, p.cop⟩
theorem pq_neg_self {js : List Int} {f : Int} (s : Pq js f js f) : Pq (js.map fun x => -x) f (js.map fun x => -x) f := by
  refine ⟨fun i => rfl, s.pos, ?_, fun g h1 h2 => s.cop g h1 fun i => ?_⟩
  · rcases s.last with h | h
    · left; rw [h]; rfl
    · right
      rw [List.length_map, neg_at]
      omega
  · have z := h2 i
    rw [neg_at] at z
    exact Int.dvd_neg.mp z
/-- the denominator of the one form divides the one that was given -/
theorem Pq.den_dvd1 {cs ks : List Int} {d e : Int} (p : Pq cs d ks e) (hd : d ≠ 0) : e ∣ d := by
  have pe := p.pos
  obtain ⟨g, x, y, _, g0, ex, ey, cxy, _, _⟩ := gcd_parts (n := e) (d := d) (.inl (by omega))
  have hx : ∀ i, x ∣ ks.getD i 0 := fun i => by
    have z := p.eq i
    rw [ex, ey] at z
    have z2 : ks.getD i 0 * y = cs.getD i 0 * x := by
      have : (ks.getD i 0 * y) * g = (cs.getD i 0 * x) * g := by grind
      exact Int.eq_of_mul_eq_mul_right (by omega) this
    exact dvd_of_cop (a := y) ⟨cs.getD i 0, by grind⟩ cxy.symm
  obtain ⟨u, hu⟩ := p.cop x ⟨g, by rw [ex]; grind⟩ hx
  refine ⟨y * u, ?_⟩
  rw [ey, ex]
  grind
theorem Pq.den_le {cs ks : List Int} {d e : Int} (p : Pq cs d ks e) (hd : d ≠ 0) : e.natAbs ≤ d.natAbs := natAbs_le_of_dvd (p.den_dvd1 hd) hd
theorem at_last {xs : List V} {v : V} (h : xs[xs.length - 1]? = some v) : atI xs (-1) = some v := by
  have hj : xs.length - 1 < xs.length := (List.getElem?_eq_some_iff.mp h).1
  have e : ixN xs.length (-1) = some (xs.length - 1) := by
    unfold ixN
    rw [if_neg (by decide), if_pos (by omega)]
    congr 1
    omega
  unfold atI
  rw [e]
  exact h
theorem gcd_one_of {ks : List Int} {e : Int} (pos : 0 < e) (cop : ∀ g : Int, g ∣ e → (∀ i, g ∣ ks.getD i 0) → g ∣ 1) : gcdL (e :: ks) = 1 := by
  have z := cop ((gcdL (e :: ks) : Nat) : Int) (Int.natAbs_dvd_natAbs.mp (by rw [Int.natAbs_natCast]; exact gcdL_dvd (by simp))) fun i => by
    by_cases c : i < ks.length
    · exact Int.natAbs_dvd_natAbs.mp (by rw [Int.natAbs_natCast]; exact gcdL_dvd (List.mem_cons_of_mem _ (getD_mem c)))
    · rw [getD_end (by omega)]; exact Int.dvd_zero _
  have z2 := Int.natAbs_dvd_natAbs.mpr z
  rw [Int.natAbs_natCast] at z2
  exact Nat.eq_one_of_dvd_one z2
theorem getD_pad {xs : List Int} {n i : Nat} : (xs ++ List.replicate n (0 : Int)).getD i 0 = xs.getD i 0 := by
  rw [List.getD_eq_getElem?_getD, List.getD_eq_getElem?_getD]
  by_cases h : i < xs.length
  · rw [List.getElem?_append_left h]
  · rw [List.getElem?_append_right (by omega), List.getElem?_eq_none (l := xs) (by omega), List.getElem?_replicate]
    split <;> rfl
end CB

namespace CB
open PySem PySem.Spec PyProof.Rows L2
/-- the def of a staticmethod of a class -/
def stAd (K : PySem.W.Frag) (C : Addr) (m : Str) : Addr := He5.wf K C "staticmethod" m
def statB (K : PySem.W.Frag) (C : Addr) (m : Str) : Bool := He5.wrapB K C "staticmethod" "staticmethod.__get__" m && (PySem.W.readsIn K C (.type "type") && He.eqO (PySem.W.specialIn K (.ref C) "__getattribute__") (some (some (.builtin "type.__getattribute__"))))
structure Stat (K : PySem.W.Frag) (C : Addr) (m : Str) : Prop where
  at_ : PySem.W.findCls K (.ref C) (.type "type") m = some (.get (.builtin "staticmethod.__get__") (.ref (He.ma K C m)) .none (.ref C))
  rc : ∃ rest, PySem.W.recIn K (He.ma K C m) "staticmethod" = some (.ref (stAd K C m) :: rest)
  rd : ClX.CRead K C (.type "type")
theorem statB_ok {K : PySem.W.Frag} {C : Addr} {m : Str} (h : statB K C m = true) : Stat K C m := by
  obtain ⟨h1, h⟩ := He.ba h
  obtain ⟨h2, h3⟩ := He.ba h
  obtain ⟨k1, k2⟩ := He5.wrapB_ok h1
  exact ⟨k1, k2, h2, He.eqO_ok h3⟩
def tSta (C : Addr) (sp : Sp) (E : XK) (ta : TE) (t : TA) : TE := fun σ H Q => ta σ H fun x H1 => x = .ref C ∧ t σ H1 fun vs H2 => sp vs H2 Q E
section
variable {X : Cx} {CX : CXT} {k : Nat} {C : Addr} {fd : FuncData} {ps : List Str} {sp : Sp} {E : XK} {m : Str} {p pos apos : Pos} {e o : Expr} {es : List Expr} {ta : TE} {t : TA}
theorem getSta {pl : Sem Bool} {pins : List (Addr × Obj)} {σ : L2.St} {H : Hp} {s : Shared} {A : Around} {E : Value → Shared → Prop} {Q : Value × List Value → Shared → Prop} (I : Inv X pins σ H s) (S : Stat X.K C m)
    (h : ∀ s', Inv X pins σ H s' → Q (.ref (stAd X.K C m), []) s') : wpAny (model X.prog X.w) A (getMethod (.ref C) m pl) Q E s := by
  obtain ⟨rest, hp⟩ := S.rc
  refine PySem.W.method_cls I.kIn S.rd.ga ?_
  refine PySem.W.cls_bind I.kIn S.rd.rd S.at_ ?_
  exact wpAny_call (PySem.W.sm_get (s := { s with toks := s.toks + 1 }) I.kIn hp (PySem.W.handed_on rfl (h _ (I.tok _))))
theorem pe_stat {pl : Sem Bool} (he : PE X o ta) (S : Stat X.K C m) (kp : PySem.W.keepIn X.K (.ref (stAd X.K C m)) = true) (F : FnOk X.prog X.w X.K X.mg X.base CX k (stAd X.K C m) fd ps sp) (hr : Room k X.A)
    (hb : Binds X.K fd ps []) (hx : Passes CX X E) (ha : PA X (e :: es) t)
    (hst : starEach (e :: es) X.env = (false, eval e X.env) :: starEach es X.env := by rfl)
    (hpl : (backTo pos (starEach es X.env)).any (·.1) = false := by rfl)
    (ht : eval (.Call (.Attribute o m apos) (e :: es) [] pos) X.env = (do
      let ov ← eval o X.env
      standAt apos.atName
      let (f, first) ← holding [ov] (getMethod ov m pl)
      callWith pos f first (backTo pos (starEach (e :: es) X.env)) (backToKw pos (keywordEach [] X.env))) := by rfl) :
    PE X (.Call (.Attribute o m apos) (e :: es) [] pos) (tSta C sp E ta t) := by
  refine ⟨fun pins s σ H Q I h => ?_⟩
  refine PySem.W.methodCall_KW (pl := pl) (thn (he.run pins s σ H _ I h) fun u s1 hh => ?_) ht
  obtain ⟨x, H1, I1, rx, ex, q⟩ := hh
  subst ex
  have eu : u = Value.ref C := rx
  subst eu
  refine getSta I1 S fun s2 I2 => ?_
  refine PySem.W.callWith_K (first := []) (h₀ := X.base) I.ok.mod.kin kp (thn (ha.run pos pins s2 σ H1 _ I2 q) fun us s3 h3 => ?_) hst hpl
  obtain ⟨vs, H2, I3, r, q2⟩ := h3
  exact ⟨I3.kIn, run_fn (ds := []) (dvs := []) F hr hb .nil hx I3 r (by rw [List.append_nil]; exact q2)⟩
end
end CB

namespace CB.Z
open PySem PySem.Spec PyProof.Rows L2
/-! ### enumerate(a tuple): own work -/
abbrev TuIt (t : Addr) : Obj := { cls := .type "tuple_iterator", data := .fields #[.ref t, .int 0 0] }
abbrev EnOb (it : Addr) : Obj := { cls := .type "enumerate", data := .fields #[.none, .bool false, .ref it, rawInt 0, .none, .none] }
set_option maxHeartbeats 8000000 in
theorem enNewT (t : Addr) (us : Array Value) :
    Meets (Builtin.«enumerate.__new__» ⟨[.type "enumerate", .ref t], []⟩) (fun _ R s => s.heap.IsTuple t us ∧ R (.ok (.ret (.ref (s.heap.push (TuIt t)).objs.size))) { s with heap := (s.heap.push (TuIt t)).push (EnOb s.heap.objs.size) }) :=
  .of_wp fun pr wo A R s hyp => by
    obtain ⟨hp, gl, dr, tk, os⟩ := s
    obtain ⟨ht, hyp⟩ := hyp
    have hs1 := sub_enumerate
    have go : ∀ {A' : Around} {E : Value → Shared → Prop} {Q : Value → Shared → Prop}, Q (.ref hp.objs.size) ⟨hp.push (TuIt t), gl, dr, tk, os⟩ → wpAny (model pr wo) A' (pyIter (.ref t)) Q E ⟨hp, gl, dr, tk, os⟩ := fun q => (begins_tuple t us).iter pr wo _ _ ⟨hp, gl, dr, tk, os⟩ _ ht q
    wp_walk using go
    refine wpAny_stack_any fun st => wpAny_pure ?_
    split
    · rename_i c _ _ _ _ _
      cases (c == Value.type "enumerate") <;> (wp_walk using go; exact ⟨_, rfl, hyp⟩)
    · wp_walk using go
      exact ⟨_, rfl, hyp⟩
theorem callEnT {pr : Program} {wo : World} {A : Around} {E : Value → Shared → Prop} {s : Shared} {t : Addr} {us : Array Value} {Q : Value → Shared → Prop} (ht : s.heap.IsTuple t us)
    (q : ∀ h2, IsEnum h2 (s.heap.objs.size + 1) s.heap.objs.size 0 .none → h2.IsTupleIter s.heap.objs.size t 0 → (∀ b o, s.heap.get? b = some o → h2.get? b = some o) → Q (.ref (s.heap.objs.size + 1)) { s with heap := h2 }) :
    wpAny (model pr wo) A (call (.type "enumerate") [.ref t]) Q E s := by
  refine callType_new F.called_enumerate (by decide) (F.typeCall_enumerate_1 _) (F.newCall_enumerate_1 _) (fun obj => F.args_object_init_2 obj _) F.entry_enumerate_new (enNewT t us) ⟨ht, ?_⟩
  have z1 : (s.heap.push (TuIt t)).objs.size = s.heap.objs.size + 1 := Heap.size_push ..
  show _ ∧ _
  rw [z1]
  have gE : IsEnum ((s.heap.push (TuIt t)).push (EnOb s.heap.objs.size)) (s.heap.objs.size + 1) s.heap.objs.size 0 .none := by
    have := Heap.get?_push_size (s.heap.push (TuIt t)) (o := EnOb s.heap.objs.size) rfl
    rw [z1] at this
    exact this
  exact ⟨⟨_, gE, rfl⟩, q _ gE ⟨_, Heap.get?_push_of_some _ (Heap.get?_push_size _ rfl), rfl, rfl⟩ fun b o x => Heap.get?_push_of_some _ (Heap.get?_push_of_some _ x)⟩
/-- the tuple xs at a, each item in a new pair with its number -/
def IteT (K : PySem.W.Frag) (a : Addr) (xs : List V) : It :=
  ⟨fun i H => SqT K H a xs ∧ i < xs.length, fun i H v H' => ∃ T x, xs[i]? = some x ∧ v = .ref T ∧ H T = none ∧ H' = upd H T (.tup [.int (i : Nat), x]), fun i H => SqT K H a xs ∧ xs.length ≤ i⟩
theorem turnEnT {P : Program} {w : World} {K : PySem.W.Frag} {elts : List Expr} {kk : Nat} {tpos : Pos} {a e it : Addr} {xs : List V} (ea : e ≠ it) (ta : a ≠ it) :
    Turn P w K (.Tuple elts kk tpos) (IteT K a xs) [e, it] e (fun i h => (∃ old, IsEnum h e it ((i : Nat) : Int) old) ∧ h.IsTupleIter it a i) where
  mem := by simp
  obj := fun i h st b hb => by
    obtain ⟨⟨old, he⟩, o, ho, hc, hd⟩ := st
    simp only [List.mem_cons, List.not_mem_nil, or_false] at hb
    rcases hb with rfl | rfl
    · exact ⟨_, he, fun v q => nomatch q⟩
    · exact ⟨o, ho, fun v q => by rw [hd] at q; cases q⟩
  keep := fun i h h' st k => by
    obtain ⟨⟨old, he⟩, hi⟩ := st
    exact ⟨⟨old, k e (by simp) _ he⟩, hi.at fun o q => k it (by simp) o q⟩
  item := by
    intro X hP hw hK hc i pins s σ H E I hf st hg
    subst hP hw hK
    obtain ⟨⟨old, he⟩, hit⟩ := st
    obtain ⟨hq, hlt⟩ := hg
    obtain ⟨us, rv, p, hz⟩ := I.tuple hq
    have n1 : us.toArray.size = xs.length := by rw [List.size_toArray, rv.length]
    have ne : e ≠ a := fun z => by
      obtain ⟨o, ho, hcl, _⟩ := p
      rw [← z] at ho
      have g := ho.symm.trans he
      obtain rfl := Option.some.inj g
      exact absurd (Value.type.inj hcl) (by decide)
    have D := Draws.tuple (prog := X.prog) (w := X.w) (A := X.A.in1) (show X.A.in1.handled = none from I.ok.hd hc) it a ta us.toArray
    refine wpAny_pyNext_enum_itemD D he ⟨hit, p⟩ (by rw [n1]; exact hlt) ea (by simp [ea, ne]) fun u h2 tk hu ho hit2 hT hsz hk => ?_
    have elt : e < s.heap.objs.size := Heap.lt_size he
    have ilt : it < s.heap.objs.size := by obtain ⟨_, q, _⟩ := hit; exact Heap.lt_size q
    have hx : xs[i]? = some xs[i] := List.getElem?_eq_getElem hlt
    obtain ⟨u', hu', ru⟩ := rv.get hx
    have eu : u' = u := by
      rw [List.getElem?_toArray] at hu
      rw [hu] at hu'
      exact (Option.some.inj hu').symm
    subst eu
    refine ⟨_, rfl, wpAny_letOwnedTupleGo_enum (s := { s with heap := h2, toks := tk + 1 }) ho fun h3 he3 sb => ?_⟩
    have hT3 : h3.get? s.heap.objs.size = some { cls := .type "tuple", data := .seq #[.int i tk, u'] } := (sb.2 _ (Nat.ne_of_gt elt)).trans hT
    have new : ObjOk X.prog X.w (upd H s.heap.objs.size (.tup [.int (i : Nat), xs[i]])) h3 s.heap.objs.size (.tup [.int (i : Nat), xs[i]]) :=
      ⟨by show 2 ≤ sizeLine; decide, [.int i tk, u'], .cons ⟨_, rfl⟩ (.cons ru .nil), ⟨_, hT3, rfl, _, rfl⟩⟩
    have I1 : Inv X pins σ (upd H s.heap.objs.size (.tup [.int (i : Nat), xs[i]])) { s with heap := h3, toks := tk + 1 } :=
      I.turnedNew (ch := [e, it]) (fun b ob hb q => (sb.2 b fun z => hb (by simp [z])).trans (hk b ob (fun z => hb (by simp [z])) (fun z => hb (by simp [z])) q)) hf (Nat.le_refl _) new
    refine ⟨.ref s.heap.objs.size, _, I1, rfl, ⟨_, _, hx, rfl, I.hok.fresh (Nat.le_refl _), rfl⟩, ⟨⟨u', ?_⟩, hit2.1.at fun o q => (sb.2 it (Ne.symm ea)).trans q⟩, fun b hb => ?_⟩
    · have e1 : ((i + 1 : Nat) : Int) = (i : Int) + 1 := by omega
      rw [e1]
      exact he3
    · have hb2 : b < s.heap.objs.size := by
        simp only [List.mem_cons, List.not_mem_nil, or_false] at hb
        rcases hb with rfl | rfl
        · exact elt
        · exact ilt
      rw [upd_ne (Nat.ne_of_lt hb2)]
      exact (hf b hb).1
  done := by
    intro X hP hw hK hc i pins s σ H E I hf st hg
    subst hP hw hK
    obtain ⟨⟨old, he⟩, hit⟩ := st
    obtain ⟨hq, hle⟩ := hg
    obtain ⟨us, rv, p, hz⟩ := I.tuple hq
    have n1 : us.toArray.size = xs.length := by rw [List.size_toArray, rv.length]
    obtain ⟨f0, f1, f2, f3, f4, f5⟩ := hf it (by simp)
    have hT : s.TypeIs (.ref e) "enumerate" := ⟨_, he, rfl⟩
    unfold pyNext
    refine wpAny_bind (wpAny_attempt (wpAny_callSpecial?_slot (name := Str.ofString "__next__") hT F.slot_enumerate_next (wpAny_call_entry F.slot_enumerate_next hT F.entry_enumerate_next ?_ (F.args_enumerate_next_1 _))))
    show wpAny _ _ (field (.ref e) 2 >>= _) _ _ _
    refine wpAny_bind (wpAny_field he rfl (x := .ref it) rfl ?_)
    refine wpAny_bind (PySem.wpAny_nextOf_tuple_end (I.ok.hd hc) hit p (by rw [List.getElem?_toArray]; exact List.getElem?_eq_none (by rw [← rv.length]; exact hle)) fun h2 x eb ⟨o, ho, hcl⟩ => ?_)
    refine wpAny_bind (wpAny_isInstance (T := "StopIteration") (b := true) ⟨o, ho, hcl⟩ isSubtype_stop ?_)
    exact wpAny_pure ⟨rfl, I.turned (t' := s.toks) (fun b o hb q => eb b o hb q) f0 f1 f3 f4 f5⟩
  self := fun A i s Q E st h => let ⟨⟨_, he⟩, _⟩ := st; wpAny_pyIter_enum he h
def iEnumT (K : PySem.W.Frag) (ta : TA) : TI := fun σ H R => ta σ H fun vs H1 => ∃ a xs, vs = [.ref a] ∧ SqT K H1 a xs ∧ R (IteT K a xs) H1
theorem pi_enumT {X : Cx} {e : Expr} {ta : TA} {p pos tpos : Pos} {elts : List Expr} {kk : Nat} (hg : Gl X "enumerate") (hm : X.mg "enumerate" = none) (ha : PA X [e] ta) (hs : starEach [e] X.env = [(false, eval e X.env)] := by rfl) : PI X (.Tuple elts kk tpos) (.Call (.Name "enumerate" p) [e] [] pos) (iEnumT X.K ta) := by
  refine ⟨fun pins s σ H R I h => ?_⟩
  refine Call_ (ld_blt I hg hm boot_enumerate (PyProof.Rows.callWith_type1 (thn (ha.run pos pins s σ H _ I h) fun us s1 ⟨vs, H1, I1, r1, q1⟩ => ?_) hs rfl))
  obtain ⟨a, xs, rfl, hq, q⟩ := q1
  cases r1 with
  | cons r rr =>
    cases rr
    cases r
    obtain ⟨its, rv, p', hz⟩ := I1.tuple hq
    have alt : a < s1.heap.objs.size := by obtain ⟨_, g, _⟩ := id p'; exact Heap.lt_size g
    refine callEnT p' fun h2 he hit hk => wpAny_pyIter_enum he ?_
    have I2 : Inv X pins σ H1 { s1 with heap := h2 } := I1.kept (t' := s1.toks) hk
    refine ⟨s1.heap.objs.size + 1, [s1.heap.objs.size + 1, s1.heap.objs.size], _, _, H1, rfl, I2, turnEnT (e := s1.heap.objs.size + 1) (it := s1.heap.objs.size) (Nat.succ_ne_self _) (Nat.ne_of_lt alt), ⟨⟨.none, he⟩, hit⟩, fun b hb => ?_, q⟩
    have hle : s1.heap.objs.size ≤ b := by
      simp only [List.mem_cons, List.not_mem_nil, or_false] at hb
      rcases hb with rfl | rfl <;> omega
    exact I1.fpOk hle (I1.hok.fresh hle)
/-- a loop over enumerate of a tuple -/
theorem for_enT {K : PySem.W.Frag} {a : Addr} {xs : List V} {g : TG} {tb : TS} {D : Ends} {σ : L2.St} {H : Hp} (Pv : Nat → L2.St → Hp → Prop) (h0 : Pv 0 σ H) (hq : ∀ i σ H, Pv i σ H → SqT K H a xs)
    (hs : ∀ (i : Nat) (x : V) (T : Addr) (σ : L2.St) (H : Hp), xs[i]? = some x → Pv i σ H → H T = none → g (.ref T) σ (upd H T (.tup [.int (i : Nat), x])) fun σ2 H2 => tb { D with nx := Pv (i + 1), ct := Pv (i + 1), bk := D.nx } σ2 H2) (hd : ∀ σ H, Pv xs.length σ H → D.nx σ H) :
    ∃ W : Nat → Nat → L2.St → Hp → Prop, (∃ m, W 0 m σ H) ∧ ∀ i m σ H, W i m σ H →
      ((IteT K a xs).stop i H ∧ D.nx σ H) ∨ ((IteT K a xs).go i H ∧ ∃ N : L2.St → Hp → Prop, (∀ σ' H', N σ' H' → ∃ m', m' < m ∧ W (i + 1) m' σ' H') ∧ ∀ v H', (IteT K a xs).yld i H v H' → g v σ H' fun σ2 H2 => tb { D with nx := N, ct := N, bk := D.nx } σ2 H2) := by
  refine ⟨fun i m σ H => m = xs.length - i ∧ i ≤ xs.length ∧ Pv i σ H, ⟨_, rfl, Nat.zero_le _, h0⟩, fun i m σ H hw => ?_⟩
  obtain ⟨rfl, hi, p⟩ := hw
  by_cases lt : i < xs.length
  · refine .inr ⟨⟨hq i σ H p, lt⟩, Pv (i + 1), fun σ' H' p' => ⟨_, by omega, rfl, lt, p'⟩, fun v H' y => ?_⟩
    obtain ⟨T, x, hx, rfl, hT, rfl⟩ := y
    exact hs i x T σ H hx p hT
  · have e : i = xs.length := by omega
    subst e
    exact .inl ⟨⟨hq _ σ H p, Nat.le_refl _⟩, hd σ H p⟩
end CB.Z

namespace CB
open PySem PySem.Spec PyProof.Rows L2
/-! ### products of polynomials -/
/-- what the first i coefficients of xs give to the coefficient k of the product -/
def cvS (xs ys : List Int) : Nat → Nat → Int
  | 0, _ => 0
  | i + 1, k => cvS xs ys i k + if i ≤ k then xs.getD i 0 * ys.getD (k - i) 0 else 0
/-- the coefficient k of the product -/
def cv (xs ys : List Int) (k : Nat) : Int := cvS xs ys xs.length k
theorem cvS_end {xs ys : List Int} (k n : Nat) : cvS xs ys (xs.length + n) k = cv xs ys k := by
  induction n with
  | zero => rfl
  | succ n ih =>
    show cvS xs ys (xs.length + n) k + _ = _
    rw [ih, getD_end (xs := xs) (by show xs.length ≤ xs.length + n; omega)]
    simp
theorem cvS_ge {xs ys : List Int} {k n : Nat} (h : xs.length ≤ n) : cvS xs ys n k = cv xs ys k := by
  obtain ⟨m, rfl⟩ : ∃ m, n = xs.length + m := ⟨n - xs.length, by omega⟩
  exact cvS_end k m
theorem cvS_zero {xs ys : List Int} {k : Nat} (h : xs.length + ys.length ≤ k + 1) : ∀ n, n ≤ xs.length → cvS xs ys n k = 0
  | 0, _ => rfl
  | n + 1, hn => by
    rw [cvS, cvS_zero h n (by omega)]
    split
    · rw [getD_end (xs := ys) (by omega), Int.mul_zero]; rfl
    · rfl
theorem cv_zero {xs ys : List Int} {k : Nat} (h : xs.length + ys.length ≤ k + 1) : cv xs ys k = 0 := cvS_zero h _ (Nat.le_refl _)
theorem cvS_nil {xs ys : List Int} (h : ys.length = 0) (k : Nat) : ∀ n, cvS xs ys n k = 0
  | 0 => rfl
  | n + 1 => by
    rw [cvS, cvS_nil h k n]
    split
    · rw [getD_end (xs := ys) (by omega), Int.mul_zero]; rfl
    · rfl
theorem cv_nil {xs ys : List Int} (h : xs.length = 0 ∨ ys.length = 0) (k : Nat) : cv xs ys k = 0 := by
  rcases h with h | h
  · unfold cv; rw [h]; rfl
  · exact cvS_nil h k _
/-- the product of other pairs -/
theorem cvS_conv {as bs xs ys : List Int} {a b e f : Int} (h1 : ∀ i, as.getD i 0 * e = xs.getD i 0 * a) (h2 : ∀ i, bs.getD i 0 * f = ys.getD i 0 * b) (k : Nat) : ∀ n, cvS as bs n k * (e * f) = cvS xs ys n k * (a * b)
  | 0 => by simp [cvS]
  | n + 1 => by
    have ih := cvS_conv h1 h2 k n
    rw [cvS, cvS, Int.add_mul, Int.add_mul, ih]
    congr 1
    split
    · have e1 := h1 n
      have e2 := h2 (k - n)
      grind
    · simp
theorem cv_conv {as bs xs ys : List Int} {a b e f : Int} (h1 : ∀ i, as.getD i 0 * e = xs.getD i 0 * a) (h2 : ∀ i, bs.getD i 0 * f = ys.getD i 0 * b) (k : Nat) : cv as bs k * (e * f) = cv xs ys k * (a * b) := by
  have z := cvS_conv h1 h2 k (max as.length xs.length)
  rwa [cvS_ge (by omega), cvS_ge (by omega)] at z
theorem cvS_bits {xs ys : List Int} {p q : Nat} (h1 : ∀ i, (xs.getD i 0).natAbs < 2 ^ p) (h2 : ∀ i, (ys.getD i 0).natAbs < 2 ^ q) (k : Nat) : ∀ n, (cvS xs ys n k).natAbs < 2 ^ (p + q + n)
  | 0 => Nat.pow_pos (by decide)
  | n + 1 => by
    have ih := cvS_bits h1 h2 k n
    rw [cvS]
    have t : (if n ≤ k then xs.getD n 0 * ys.getD (k - n) 0 else 0).natAbs < 2 ^ (p + q) := by
      split
      · exact abs_lt_mul (h1 n) (h2 _)
      · exact Nat.pow_pos (by decide)
    refine abs_mono (sz_add ih t) ?_
    omega
/-- zs is the product of xs and ys -/
structure IsMul (zs xs ys : List Int) : Prop where
  at_ : ∀ k, zs.getD k 0 = cv xs ys k
  len : zs.length ≤ xs.length + ys.length
theorem Pq.mul {a b : Int} {as bs ks js ms zs ws : List Int} {e f g : Int} (p1 : Pq as a ks e) (p2 : Pq bs b js f) (z : IsMul zs ks js) (w : IsMul ws as bs) (p : Pq zs (e * f) ms g) : Pq ws (a * b) ms g := by
  have q1 := p1.pos
  have q2 := p2.pos
  refine p.conv (Int.mul_ne_zero (by omega) (by omega)) fun i => ?_
  rw [z.at_, w.at_]
  exact cv_conv p1.eq p2.eq i
/-- the list while it is made: i rows are added, and j items of the next one -/
structure MulAt (fs xs ys : List Int) (N i j : Nat) : Prop where
  len : fs.length = N
  at_ : ∀ k, fs.getD k 0 = cvS xs ys i k + if i ≤ k ∧ k - i < j then xs.getD i 0 * ys.getD (k - i) 0 else 0
theorem MulAt.start {xs ys : List Int} {N : Nat} : MulAt (List.replicate N 0) xs ys N 0 0 := ⟨List.length_replicate, fun k => by
  have z : (List.replicate N (0 : Int)).getD k 0 = 0 := by
    rw [List.getD_eq_getElem?_getD, List.getElem?_replicate]
    split <;> rfl
  rw [z]
  simp [cvS]⟩
theorem MulAt.row {fs xs ys : List Int} {N i j : Nat} (m : MulAt fs xs ys N i j) (h : ys.length ≤ j) : MulAt fs xs ys N (i + 1) 0 := ⟨m.len, fun k => by
  rw [m.at_ k, cvS]
  simp only [Nat.not_lt_zero, and_false, if_false, Int.add_zero]
  congr 1
  by_cases c : i ≤ k
  · by_cases c2 : k - i < j
    · rw [if_pos ⟨c, c2⟩, if_pos c]
    · rw [if_neg (fun z => c2 z.2), if_pos c, getD_end (xs := ys) (by omega), Int.mul_zero]
  · rw [if_neg (fun z => c z.1), if_neg c]⟩
theorem MulAt.skip {fs xs ys : List Int} {N i : Nat} (m : MulAt fs xs ys N i 0) (h : xs.getD i 0 = 0) : MulAt fs xs ys N (i + 1) 0 := ⟨m.len, fun k => by
  rw [m.at_ k, cvS, h]
  simp⟩
theorem getD_set {fs : List Int} {n k : Nat} {v : Int} (h : n < fs.length) : (fs.set n v).getD k 0 = if k = n then v else fs.getD k 0 := by
  rw [List.getD_eq_getElem?_getD, List.getD_eq_getElem?_getD, List.getElem?_set]
  by_cases c : n = k
  · subst c
    rw [if_pos rfl, if_pos h, if_pos rfl]
    rfl
  · rw [if_neg c, if_neg (fun z => c z.symm)]
theorem MulAt.step {fs xs ys : List Int} {N i j : Nat} {v : Int} (m : MulAt fs xs ys N i j) (h : i + j < N) (hv : v = fs.getD (i + j) 0 + xs.getD i 0 * ys.getD j 0) : MulAt (fs.set (i + j) v) xs ys N i (j + 1) := ⟨by rw [List.length_set, m.len], fun k => by
  rw [getD_set (by rw [m.len]; exact h)]
  by_cases c : k = i + j
  · subst c
    rw [if_pos rfl, hv, m.at_, if_neg (by omega), if_pos (by omega)]
    have e : i + j - i = j := by omega
    rw [e, Int.add_zero]
  · rw [if_neg c, m.at_]
    congr 1
    by_cases c2 : i ≤ k ∧ k - i < j
    · rw [if_pos c2, if_pos (by omega)]
    · rw [if_neg c2, if_neg (by omega)]⟩
theorem MulAt.fin {fs xs ys : List Int} {N i : Nat} (m : MulAt fs xs ys N i 0) (h : xs.length ≤ i) (hN : N ≤ xs.length + ys.length) : IsMul fs xs ys := ⟨fun k => by
  rw [m.at_, cvS_ge h]
  simp, by rw [m.len]; exact hN⟩
theorem get_map_int {xs : List Int} {i : Nat} {x : V} (h : (xs.map V.int)[i]? = some x) : ∃ c, xs[i]? = some c ∧ x = .int c := by
  rw [List.getElem?_map] at h
  cases e : xs[i]? with
  | none => rw [e] at h; cases h
  | some u => rw [e] at h; cases h; exact ⟨u, rfl, rfl⟩
/-- a name of the module that holds a number -/
theorem pe_globI {X : Cx} {x : Str} {n : Int} {p : Pos} (hg : Gl X x) (h : ∃ t, X.mg x = some (.int n t)) (hd : (x == ("__debug__" : Str)) = false := by decide) : PE X (.Name x p) (tC (.int n)) := by
  obtain ⟨t, h⟩ := h
  exact pe_glob (v := .int n) hg h ⟨_, rfl⟩ hd
/-- what no reading reaches -/
theorem pss_dead {X : Cx} {st : List Stmt} : PSs X st (fun _ _ _ => False) := ⟨fun _ _ _ _ _ _ h => h.elim⟩
theorem map_set_V {xs : List Int} {n : Nat} {x : Int} : (xs.map V.int).set n (.int x) = (xs.set n x).map V.int := by rw [List.map_set]
theorem ixN_at {n j : Nat} {i : Int} (h : i = j) (l : j < n) : ixN n i = some j := by
  subst h
  unfold ixN
  rw [if_pos (by omega), if_pos (by omega)]
  rfl
end CB

namespace CB
open PySem PySem.Spec PyProof.Rows L2
/-! ### finite sums -/
def sumTo (f : Nat → Int) : Nat → Int
  | 0 => 0
  | n + 1 => sumTo f n + f n
theorem sumTo_congr {f g : Nat → Int} : ∀ n, (∀ i, i < n → f i = g i) → sumTo f n = sumTo g n
  | 0, _ => rfl
  | n + 1, h => by rw [sumTo, sumTo, sumTo_congr n fun i hi => h i (by omega), h n (by omega)]
theorem sumTo_add (f g : Nat → Int) : ∀ n, sumTo (fun i => f i + g i) n = sumTo f n + sumTo g n
  | 0 => rfl
  | n + 1 => by rw [sumTo, sumTo, sumTo, sumTo_add f g n]; omega
theorem sumTo_mul (c : Int) (f : Nat → Int) : ∀ n, sumTo (fun i => c * f i) n = c * sumTo f n
  | 0 => by simp [sumTo]
  | n + 1 => by rw [sumTo, sumTo, sumTo_mul c f n, Int.mul_add]
theorem sumTo_zero {f : Nat → Int} : ∀ n, (∀ i, i < n → f i = 0) → sumTo f n = 0
  | 0, _ => rfl
  | n + 1, h => by rw [sumTo, sumTo_zero n fun i hi => h i (by omega), h n (by omega)]; rfl
theorem sumTo_first (f : Nat → Int) : ∀ n, sumTo f (n + 1) = f 0 + sumTo (fun i => f (i + 1)) n
  | 0 => by simp [sumTo]
  | n + 1 => by rw [sumTo, sumTo_first f n, sumTo]; omega
theorem sumTo_swap (f : Nat → Nat → Int) (m : Nat) : ∀ n, sumTo (fun i => sumTo (fun j => f i j) m) n = sumTo (fun j => sumTo (fun i => f i j) n) m
  | 0 => (sumTo_zero m fun _ _ => rfl).symm
  | n + 1 => by
    rw [sumTo, sumTo_swap f m n, ← sumTo_add]
    exact sumTo_congr m fun i _ => rfl
theorem sumTo_one {f : Nat → Int} {k : Nat} : ∀ n, k < n → (∀ i, i < n → i ≠ k → f i = 0) → sumTo f n = f k
  | 0, h, _ => absurd h (Nat.not_lt_zero _)
  | n + 1, h, z => by
    rw [sumTo]
    by_cases c : k = n
    · subst c
      rw [sumTo_zero k fun i hi => z i (by omega) (by omega)]
      omega
    · rw [sumTo_one n (by omega) fun i hi ne => z i (by omega) ne, z n (by omega) (fun e => c e.symm)]
      omega
/-! ### the powers of x + s -/
def pw (s : Int) : Nat → Nat → Int
  | 0, 0 => 1
  | 0, _ + 1 => 0
  | i + 1, 0 => s * pw s i 0
  | i + 1, k + 1 => s * pw s i (k + 1) + pw s i k
theorem pw_high (s : Int) : ∀ i k, i < k → pw s i k = 0
  | 0, k + 1, _ => rfl
  | i + 1, k + 1, h => by
    rw [pw, pw_high s i (k + 1) (by omega), pw_high s i k (by omega)]
    simp
theorem pw_zero : ∀ i k, pw 0 i k = if i = k then 1 else 0
  | 0, 0 => rfl
  | 0, k + 1 => rfl
  | i + 1, 0 => by rw [pw, Int.zero_mul, if_neg (by omega)]
  | i + 1, k + 1 => by
    rw [pw, Int.zero_mul, pw_zero i k, Int.zero_add]
    by_cases c : i = k
    · rw [if_pos c, if_pos (by omega)]
    · rw [if_neg c, if_neg (by omega)]
/-- the coefficient k of f(x + s), f with n coefficients -/
def shV (s : Int) (f : Nat → Int) (n k : Nat) : Int := sumTo (fun i => f i * pw s i k) n
theorem shV_more {s : Int} {f : Nat → Int} {n : Nat} (k m : Nat) (h : ∀ i, n ≤ i → f i = 0) : shV s f (n + m) k = shV s f n k := by
  induction m with
  | zero => rfl
  | succ m ih =>
    show sumTo _ (n + m) + f (n + m) * _ = _
    rw [h (n + m) (by omega), Int.zero_mul, Int.add_zero]
    exact ih
theorem shV_ge {s : Int} {f : Nat → Int} {n m : Nat} (k : Nat) (h : ∀ i, n ≤ i → f i = 0) (l : n ≤ m) : shV s f m k = shV s f n k := by
  obtain ⟨j, rfl⟩ : ∃ j, m = n + j := ⟨m - n, by omega⟩
  exact shV_more k j h
theorem shV_mul {s c : Int} {f : Nat → Int} {n : Nat} (k : Nat) : shV s (fun i => c * f i) n k = c * shV s f n k := by
  unfold shV
  rw [← sumTo_mul]
  exact sumTo_congr n fun i _ => by grind
theorem shV_congr {s : Int} {f g : Nat → Int} {n : Nat} (k : Nat) (h : ∀ i, i < n → f i = g i) : shV s f n k = shV s g n k := sumTo_congr n fun i hi => by rw [h i hi]
/-- (x + s) ^ j, moved back -/
theorem pw_back (s : Int) : ∀ (j k m : Nat), j < m → sumTo (fun i => pw s j i * pw (-s) i k) m = if j = k then 1 else 0
  | 0, k, m, h => by
    rw [sumTo_one (k := 0) m h fun i hi ne => by
      cases i with
      | zero => exact absurd rfl ne
      | succ i => rw [pw, Int.zero_mul]]
    cases k with
    | zero => rfl
    | succ k => simp [pw]
  | j + 1, k, m, h => by
    obtain ⟨m, rfl⟩ : ∃ n, m = n + 1 := ⟨m - 1, by omega⟩
    -- the part of s
    have e1 : sumTo (fun i => pw s (j + 1) i * pw (-s) i k) (m + 1) = s * sumTo (fun i => pw s j i * pw (-s) i k) (m + 1) + sumTo (fun i => pw s j i * pw (-s) (i + 1) k) m := by
      rw [sumTo_first, sumTo_first (fun i => pw s j i * pw (-s) i k), Int.mul_add, ← sumTo_mul, Int.add_assoc, ← sumTo_add]
      congr 1
      · show pw s (j + 1) 0 * _ = _
        rw [pw]
        grind
      · exact sumTo_congr m fun i _ => by
          show pw s (j + 1) (i + 1) * _ = _
          rw [pw]
          grind
    have b := pw_back s j k (m + 1) (by omega)
    have b1 := pw_back s j k m (by omega)
    rw [e1, b]
    cases k with
    | zero =>
      have e2 : sumTo (fun i => pw s j i * pw (-s) (i + 1) 0) m = -s * sumTo (fun i => pw s j i * pw (-s) i 0) m := by
        rw [← sumTo_mul]
        exact sumTo_congr m fun i _ => by
          rw [pw]
          grind
      rw [e2, b1]
      by_cases c : j = 0
      · rw [if_pos c, if_neg (by omega)]; grind
      · rw [if_neg c, if_neg (by omega)]; grind
    | succ k =>
      have e2 : sumTo (fun i => pw s j i * pw (-s) (i + 1) (k + 1)) m = -s * sumTo (fun i => pw s j i * pw (-s) i (k + 1)) m + sumTo (fun i => pw s j i * pw (-s) i k) m := by
        rw [← sumTo_mul, ← sumTo_add]
        exact sumTo_congr m fun i _ => by
          rw [pw]
          grind
      rw [e2, b1, pw_back s j k m (by omega)]
      by_cases c : j = k
      · rw [if_pos c, if_pos (show j + 1 = k + 1 by omega), if_neg (show ¬ j = k + 1 by omega)]; grind
      · rw [if_neg c, if_neg (show ¬ j + 1 = k + 1 by omega)]
        split <;> grind
/-- moved and moved back -/
theorem shV_back {s : Int} {f : Nat → Int} {n k : Nat} (h : ∀ i, n ≤ i → f i = 0) : shV (-s) (fun i => shV s f n i) n k = f k := by
  have e : shV (-s) (fun i => shV s f n i) n k = sumTo (fun j => f j * sumTo (fun i => pw s j i * pw (-s) i k) n) n := by
    unfold shV
    have z : ∀ i, sumTo (fun j => f j * pw s j i) n * pw (-s) i k = sumTo (fun j => pw (-s) i k * (f j * pw s j i)) n := fun i => by rw [sumTo_mul]; grind
    rw [sumTo_congr n fun i _ => z i, sumTo_swap]
    exact sumTo_congr n fun j _ => by
      rw [← sumTo_mul]
      exact sumTo_congr n fun i _ => by grind
  rw [e]
  by_cases c : k < n
  · rw [sumTo_one (k := k) n c fun i hi ne => by rw [pw_back s i k n hi, if_neg ne, Int.mul_zero], pw_back s k k n c, if_pos rfl, Int.mul_one]
  · rw [h k (by omega)]
    exact sumTo_zero n fun i hi => by rw [pw_back s i k n hi, if_neg (by omega), Int.mul_zero]
/-! ### by the first coefficient -/
def shC (s : Int) : List Int → Nat → Int
  | [], _ => 0
  | c :: r, 0 => c + s * shC s r 0
  | c :: r, k + 1 => shC s r k + s * shC s r (k + 1)
theorem shC_eq (s : Int) : ∀ (cs : List Int) (k : Nat), shC s cs k = shV s (fun i => cs.getD i 0) cs.length k
  | [], _ => rfl
  | c :: r, k => by
    unfold shV
    rw [List.length_cons, sumTo_first]
    cases k with
    | zero =>
      show c + s * shC s r 0 = c * 1 + sumTo (fun i => r.getD i 0 * (s * pw s i 0)) r.length
      rw [shC_eq s r 0, Int.mul_one]
      congr 1
      unfold shV
      rw [← sumTo_mul]
      exact sumTo_congr _ fun i _ => by grind
    | succ k =>
      show shC s r k + s * shC s r (k + 1) = c * 0 + sumTo (fun i => r.getD i 0 * (s * pw s i (k + 1) + pw s i k)) r.length
      rw [shC_eq s r k, shC_eq s r (k + 1), Int.mul_zero, Int.zero_add]
      unfold shV
      rw [← sumTo_mul, ← sumTo_add]
      exact sumTo_congr _ fun i _ => by grind
/-- one pass of the division by x - s -/
def hornL (s : Int) : List Int → List Int
  | [] => []
  | c :: r => (c + s * shC s r 0) :: hornL s r
theorem hornL_len (s : Int) : ∀ r, (hornL s r).length = r.length
  | [] => rfl
  | c :: r => by rw [hornL, List.length_cons, List.length_cons, hornL_len s r]
theorem hornL_at (s : Int) : ∀ (r : List Int) (k : Nat), (hornL s r).getD k 0 = shC s (r.drop k) 0
  | [], k => by cases k <;> rfl
  | c :: r, 0 => rfl
  | c :: r, k + 1 => hornL_at s r k
theorem shC_step (s : Int) : ∀ (r : List Int) (c : Int) (k : Nat), shC s (c :: r) (k + 1) = shC s (hornL s r) k
  | [], c, k => by cases k <;> simp [shC, hornL]
  | d :: r, c, 0 => by
    have e := shC_step s r d 0
    show shC s (d :: r) 0 + s * shC s (d :: r) (0 + 1) = (d + s * shC s r 0) + s * shC s (hornL s r) 0
    rw [e]
    rfl
  | d :: r, c, k + 1 => by
    have e1 := shC_step s r d k
    have e2 := shC_step s r d (k + 1)
    show shC s (d :: r) (k + 1) + s * shC s (d :: r) (k + 1 + 1) = shC s (hornL s r) k + s * shC s (hornL s r) (k + 1)
    rw [e1, e2]
theorem drop_one {fs : List Int} {i : Nat} (h : i < fs.length) : fs.drop i = fs.getD i 0 :: fs.drop (i + 1) := by
  rw [List.drop_eq_getElem_cons h]
  congr 1
  rw [List.getD_eq_getElem?_getD, List.getElem?_eq_getElem h]
  rfl
/-- i passes are done -/
structure ShAt (s : Int) (cs fs : List Int) (i : Nat) : Prop where
  len : fs.length = cs.length
  lo : ∀ k, k < i → fs.getD k 0 = shC s cs k
  hi : ∀ k, shC s cs (i + k) = shC s (fs.drop i) k
/-- within a pass: the places from j on are done -/
structure ShIn (s : Int) (fs gs : List Int) (j : Nat) : Prop where
  len : gs.length = fs.length
  lo : ∀ k, k < j → gs.getD k 0 = fs.getD k 0
  hi : ∀ k, j ≤ k → gs.getD k 0 = shC s (fs.drop k) 0
theorem ShAt.start {s : Int} {cs : List Int} : ShAt s cs cs 0 := ⟨rfl, fun k h => absurd h (Nat.not_lt_zero _), fun k => by rw [Nat.zero_add, List.drop_zero]⟩
theorem ShIn.start {s : Int} {fs : List Int} : ShIn s fs fs (fs.length - 1) := ⟨rfl, fun _ _ => rfl, fun k h => by
  by_cases c : k < fs.length
  · rw [drop_one c, show fs.drop (k + 1) = [] from List.drop_of_length_le (by omega)]
    simp [shC]
  · rw [getD_end (by omega), List.drop_of_length_le (by omega)]
    rfl⟩
theorem ShIn.step {s v : Int} {fs gs : List Int} {j : Nat} (m : ShIn s fs gs (j + 1)) (h : j + 1 < fs.length) (hv : v = gs.getD j 0 + s * gs.getD (j + 1) 0) : ShIn s fs (gs.set j v) j := by
  have hj : j < gs.length := by rw [m.len]; omega
  refine ⟨by rw [List.length_set, m.len], fun k hk => ?_, fun k hk => ?_⟩
  · rw [getD_set hj, if_neg (by omega)]
    exact m.lo k (by omega)
  · rw [getD_set hj]
    by_cases c : k = j
    · subst c
      rw [if_pos rfl, hv, m.lo k (by omega), m.hi (k + 1) (Nat.le_refl _), drop_one (i := k) (by omega)]
      rfl
    · rw [if_neg c]
      exact m.hi k (by omega)
theorem ShAt.pass {s : Int} {cs fs gs : List Int} {i : Nat} (a : ShAt s cs fs i) (m : ShIn s fs gs i) (h : i < fs.length) : ShAt s cs gs (i + 1) := by
  refine ⟨by rw [m.len, a.len], fun k hk => ?_, fun k => ?_⟩
  · by_cases c : k = i
    · subst c
      rw [m.hi k (Nat.le_refl _)]
      exact (a.hi 0).symm
    · rw [m.lo k (by omega)]
      exact a.lo k (by omega)
  · have e : gs.drop (i + 1) = hornL s (fs.drop (i + 1)) := by
      refine list_ext (by rw [hornL_len, List.length_drop, List.length_drop, m.len]) fun k => ?_
      rw [hornL_at, List.drop_drop, List.getD_eq_getElem?_getD, List.getElem?_drop, ← List.getD_eq_getElem?_getD]
      exact m.hi _ (by omega)
    rw [e, ← shC_step s (fs.drop (i + 1)) (fs.getD i 0) k, ← drop_one h, ← a.hi (k + 1)]
    congr 1
    omega
theorem ShAt.fin {s : Int} {cs fs : List Int} {i : Nat} (a : ShAt s cs fs i) (h : cs.length ≤ i + 1) (k : Nat) : fs.getD k 0 = shC s cs k := by
  by_cases c : k < i
  · exact a.lo k c
  · have e := a.hi (k - i)
    rw [show i + (k - i) = k by omega] at e
    rw [e]
    by_cases c2 : i < fs.length
    · rw [drop_one c2, show fs.drop (i + 1) = [] from List.drop_of_length_le (by rw [a.len]; omega)]
      obtain ⟨m, hm⟩ : ∃ m, k - i = m := ⟨_, rfl⟩
      rw [hm]
      cases m with
      | zero => rw [show k = i by omega]; simp [shC]
      | succ m => rw [getD_end (by rw [a.len]; omega)]; simp [shC]
    · rw [List.drop_of_length_le (by omega), getD_end (by omega)]
      rfl
/-- zs is cs moved by s -/
structure IsSh (s : Int) (zs cs : List Int) : Prop where
  at_ : ∀ k, zs.getD k 0 = shV s (fun i => cs.getD i 0) cs.length k
  len : zs.length = cs.length
theorem shV_list {s : Int} {cs : List Int} {n : Nat} (h : cs.length ≤ n) (k : Nat) : shV s (fun i => cs.getD i 0) n k = shV s (fun i => cs.getD i 0) cs.length k := shV_ge k (fun i hi => getD_end hi) h
theorem shV_pair {s : Int} {as xs : List Int} {a e : Int} (h : ∀ i, as.getD i 0 * e = xs.getD i 0 * a) (k : Nat) :
    shV s (fun i => as.getD i 0) as.length k * e = shV s (fun i => xs.getD i 0) xs.length k * a := by
  rw [← shV_list (n := max as.length xs.length) (by omega), ← shV_list (cs := xs) (n := max as.length xs.length) (by omega), Int.mul_comm, Int.mul_comm _ a, ← shV_mul, ← shV_mul]
  exact shV_congr k fun i _ => by
    have := h i
    grind
theorem Pq.shift {s a e g : Int} {as ks zs ws ms : List Int} (p : Pq as a ks e) (z : IsSh s zs ks) (w : ∀ k, ws.getD k 0 = shV s (fun i => as.getD i 0) as.length k) (q : Pq zs e ms g) : Pq ws a ms g := by
  refine q.conv (by have := p.pos; omega) fun i => ?_
  rw [z.at_, w]
  exact shV_pair p.eq i
/-- back again -/
theorem Pq.unshift {s a e g f : Int} {as ks zs ms ys js : List Int} (p : Pq as a ks e) (z : IsSh s zs ks) (q : Pq zs e ms g) (y : IsSh (-s) ys ms) (r : Pq ys g js f) : Pq as a js f := by
  have e0 := p.pos
  have g0 := q.pos
  refine r.conv (by omega) fun i => ?_
  have h1 := shV_pair (s := -s) q.eq i
  rw [← y.at_] at h1
  -- zs moved back is ks
  have h2 : shV (-s) (fun i => zs.getD i 0) zs.length i = ks.getD i 0 := by
    rw [z.len, shV_congr i fun j _ => z.at_ j]
    exact shV_back fun i hi => getD_end hi
  rw [h2] at h1
  have h3 := p.eq i
  have : (ys.getD i 0 * a) * e = (as.getD i 0 * g) * e := by grind
  exact Int.eq_of_mul_eq_mul_right (by omega) this
theorem IsSh.zero {zs cs : List Int} (z : IsSh 0 zs cs) (k : Nat) : zs.getD k 0 = cs.getD k 0 := by
  rw [z.at_]
  by_cases c : k < cs.length
  · unfold shV
    rw [sumTo_one (k := k) _ c fun i hi ne => by rw [pw_zero, if_neg ne, Int.mul_zero], pw_zero, if_pos rfl, Int.mul_one]
  · rw [getD_end (xs := cs) (by omega)]
    exact sumTo_zero _ fun i hi => by rw [pw_zero, if_neg (by omega), Int.mul_zero]
/-! ### the powers of x + s as products -/
theorem cvS_lin {xs : List Int} {s : Int} (k : Nat) : ∀ n, cvS xs [s, 1] n k = (if k < n then s * xs.getD k 0 else 0) + if 0 < k ∧ k - 1 < n then xs.getD (k - 1) 0 else 0
  | 0 => by simp [cvS]
  | n + 1 => by
    rw [cvS, cvS_lin k n]
    by_cases c1 : n = k
    · subst c1
      rw [if_pos (Nat.le_refl _), Nat.sub_self, if_neg (Nat.lt_irrefl _), if_pos (Nat.lt_succ_self _)]
      show 0 + _ + xs.getD n 0 * s = _
      by_cases c2 : 0 < n
      · rw [if_pos ⟨c2, by omega⟩, if_pos ⟨c2, by omega⟩]; grind
      · rw [if_neg (fun z => c2 z.1), if_neg (fun z => c2 z.1)]; grind
    · by_cases c2 : n + 1 = k
      · subst c2
        rw [if_pos (show n ≤ n + 1 by omega), if_neg (show ¬ n + 1 < n by omega), if_neg (show ¬ (0 < n + 1 ∧ n + 1 - 1 < n) by omega), if_neg (show ¬ n + 1 < n + 1 by omega), if_pos (show 0 < n + 1 ∧ n + 1 - 1 < n + 1 by omega), show n + 1 - n = 1 by omega, show n + 1 - 1 = n by omega]
        show 0 + 0 + xs.getD n 0 * 1 = _
        omega
      · have e : (if n ≤ k then xs.getD n 0 * [s, 1].getD (k - n) 0 else 0) = 0 := by
          split
          · rw [getD_end (xs := [s, 1]) (by show 2 ≤ k - n; omega), Int.mul_zero]
          · rfl
        rw [e, Int.add_zero]
        congr 1
        · by_cases c3 : k < n
          · rw [if_pos c3, if_pos (by omega)]
          · rw [if_neg c3, if_neg (by omega)]
        · by_cases c3 : 0 < k ∧ k - 1 < n
          · rw [if_pos c3, if_pos (by omega)]
          · rw [if_neg c3, if_neg (by omega)]
theorem pw_next {s : Int} {ps qs : List Int} {i : Nat} (h : ∀ k, ps.getD k 0 = pw s i k) (m : IsMul qs ps [s, 1]) (k : Nat) : qs.getD k 0 = pw s (i + 1) k := by
  rw [m.at_]
  have e := cvS_lin (xs := ps) (s := s) k (ps.length + k + 1)
  rw [cvS_ge (by omega)] at e
  rw [e, if_pos (by omega)]
  cases k with
  | zero => rw [if_neg (by omega), h, pw]; omega
  | succ k => rw [if_pos (by omega), h, show k + 1 - 1 = k by omega, h, pw]
end CB

namespace CB
open PySem PySem.Spec PyProof.Rows L2
/-! ### division with remainder -/
theorem cvS_set {xs ys : List Int} {a : Nat} {v : Int} (h : a < xs.length) (k : Nat) : ∀ n, cvS (xs.set a v) ys n k = cvS xs ys n k + if a < n ∧ a ≤ k then (v - xs.getD a 0) * ys.getD (k - a) 0 else 0
  | 0 => by rw [if_neg (by omega)]; rfl
  | n + 1 => by
    rw [cvS, cvS, cvS_set h k n, getD_set h]
    by_cases c : n = a
    · subst c
      rw [if_pos rfl, if_neg (show ¬ (n < n ∧ n ≤ k) by omega)]
      by_cases c2 : n ≤ k
      · rw [if_pos c2, if_pos c2, if_pos (show n < n + 1 ∧ n ≤ k by omega), Int.sub_mul]
        omega
      · rw [if_neg c2, if_neg c2, if_neg (show ¬ (n < n + 1 ∧ n ≤ k) by omega)]
    · rw [if_neg c]
      by_cases c2 : a < n ∧ a ≤ k
      · rw [if_pos c2, if_pos (show a < n + 1 ∧ a ≤ k by omega)]
        omega
      · rw [if_neg c2, if_neg (show ¬ (a < n + 1 ∧ a ≤ k) by omega)]
        omega
theorem cv_set {xs ys : List Int} {a : Nat} {v : Int} (h : a < xs.length) (k : Nat) : cv (xs.set a v) ys k = cv xs ys k + if a ≤ k then (v - xs.getD a 0) * ys.getD (k - a) 0 else 0 := by
  unfold cv
  rw [List.length_set, cvS_set h]
  congr 1
  by_cases c : a ≤ k
  · rw [if_pos ⟨h, c⟩, if_pos c]
  · rw [if_neg (fun z => c z.2), if_neg c]
theorem cv_scale {xs ys : List Int} {s : Int} (k : Nat) : cv (xs.map fun x => x * s) ys k = cv xs ys k * s := by
  have z := cv_conv (as := xs.map fun x => x * s) (bs := ys) (xs := xs) (ys := ys) (a := s) (b := 1) (e := 1) (f := 1) (fun i => by rw [mul_at, Int.mul_one]) (fun i => rfl) k
  rwa [Int.mul_one, Int.mul_one, Int.mul_one] at z
theorem cv_rep {ys : List Int} {n : Nat} (k : Nat) : cv (List.replicate n 0) ys k = 0 := by
  have z : ∀ m, cvS (List.replicate n (0 : Int)) ys m k = 0 := by
    intro m
    induction m with
    | zero => rfl
    | succ m ih =>
      rw [cvS, ih]
      have e : (List.replicate n (0 : Int)).getD m 0 = 0 := by
        rw [List.getD_eq_getElem?_getD, List.getElem?_replicate]
        split <;> rfl
      rw [e, Int.zero_mul]
      split <;> rfl
  exact z _
/-- the quotient and the rest while they are made: the places below n are still to do -/
structure DivAt (f : Int) (xs qs rs ys : List Int) (n : Nat) : Prop where
  f0 : f ≠ 0
  rl : rs.length = xs.length
  eq : ∀ k, f * xs.getD k 0 = cv qs ys k + rs.getD k 0
  lo : ∀ i, i < n → qs.getD i 0 = 0
  hi : ∀ k, n + ys.length ≤ k + 1 → rs.getD k 0 = 0
theorem DivAt.start {xs ys : List Int} {n : Nat} (h : (n : Int) = xs.length - ys.length + 1 ∨ (n = 0 ∧ xs.length + 1 ≤ ys.length)) : DivAt 1 xs (List.replicate n 0) xs ys n :=
  ⟨by decide, rfl, fun k => by rw [cv_rep]; omega, fun i _ => by
    rw [List.getD_eq_getElem?_getD, List.getElem?_replicate]
    split <;> rfl, fun k hk => getD_end (by omega)⟩
theorem DivAt.scale {f s : Int} {xs qs rs ys : List Int} {n : Nat} (m : DivAt f xs qs rs ys n) (h : s ≠ 0) : DivAt (f * s) xs (qs.map fun x => x * s) (rs.map fun x => x * s) ys n :=
  ⟨Int.mul_ne_zero m.f0 h, by rw [List.length_map, m.rl], fun k => by
    rw [cv_scale, mul_at]
    have := m.eq k
    grind, fun i hi => by rw [mul_at, m.lo i hi, Int.zero_mul], fun k hk => by rw [mul_at, m.hi k hk, Int.zero_mul]⟩
/-- the rest while a multiple is taken from it -/
structure SubAt (zs rs ys : List Int) (v : Int) (a j : Nat) : Prop where
  len : zs.length = rs.length
  at_ : ∀ k, zs.getD k 0 = rs.getD k 0 - if a ≤ k ∧ k - a < j then v * ys.getD (k - a) 0 else 0
theorem SubAt.start {rs ys : List Int} {v : Int} {a : Nat} : SubAt rs rs ys v a 0 := ⟨rfl, fun k => by rw [if_neg (by omega), Int.sub_zero]⟩
theorem SubAt.step {zs rs ys : List Int} {v u : Int} {a j : Nat} (m : SubAt zs rs ys v a j) (h : a + j < rs.length) (hu : u = zs.getD (a + j) 0 - v * ys.getD j 0) : SubAt (zs.set (a + j) u) rs ys v a (j + 1) := ⟨by rw [List.length_set, m.len], fun k => by
  rw [getD_set (by rw [m.len]; exact h)]
  by_cases c : k = a + j
  · subst c
    rw [if_pos rfl, hu, m.at_, if_neg (by omega), if_pos (by omega), show a + j - a = j by omega, Int.sub_zero]
  · rw [if_neg c, m.at_]
    congr 1
    by_cases c2 : a ≤ k ∧ k - a < j
    · rw [if_pos c2, if_pos (by omega)]
    · rw [if_neg c2, if_neg (by omega)]⟩
theorem SubAt.fin {zs rs ys : List Int} {v : Int} {a : Nat} (m : SubAt zs rs ys v a ys.length) (k : Nat) : zs.getD k 0 = rs.getD k 0 - if a ≤ k then v * ys.getD (k - a) 0 else 0 := by
  rw [m.at_]
  congr 1
  by_cases c : a ≤ k
  · by_cases c2 : k - a < ys.length
    · rw [if_pos ⟨c, c2⟩, if_pos c]
    · rw [if_neg (fun z => c2 z.2), if_pos c, getD_end (xs := ys) (by omega), Int.mul_zero]
  · rw [if_neg (fun z => c z.1), if_neg c]
theorem DivAt.step {f v : Int} {xs qs rs zs ys : List Int} {n : Nat} (m : DivAt f xs qs rs ys (n + 1)) (h : n < qs.length) (hy : 0 < ys.length) (hv : v * ys.getD (ys.length - 1) 0 = rs.getD (n + ys.length - 1) 0) (zl : zs.length = rs.length)
    (hz : ∀ k, zs.getD k 0 = rs.getD k 0 - if n ≤ k then v * ys.getD (k - n) 0 else 0) : DivAt f xs (qs.set n v) zs ys n :=
  ⟨m.f0, by rw [zl, m.rl], fun k => by
    rw [cv_set h, hz, m.eq k, m.lo n (by omega), Int.sub_zero]
    split <;> omega, fun i hi => by
    rw [getD_set h, if_neg (by omega)]
    exact m.lo i (by omega), fun k hk => by
    rw [hz, if_pos (show n ≤ k by omega)]
    by_cases c : k = n + ys.length - 1
    · subst c
      rw [show n + ys.length - 1 - n = ys.length - 1 by omega, hv]
      omega
    · rw [m.hi k (by omega), getD_end (xs := ys) (by omega), Int.mul_zero]
      rfl⟩
theorem dvd_scale {t l g s : Int} (hg : g = ((Nat.gcd t.natAbs l.natAbs : Nat) : Int)) (hl : l ≠ 0) (hs : s = l.fdiv g) : g ≠ 0 ∧ g.natAbs ≤ l.natAbs ∧ s ≠ 0 ∧ s.natAbs ≤ l.natAbs ∧ l ∣ t * s := by
  have d1 : g ∣ l := by rw [hg]; exact Int.natAbs_dvd_natAbs.mp (by rw [Int.natAbs_natCast]; exact Nat.gcd_dvd_right _ _)
  have d2 : g ∣ t := by rw [hg]; exact Int.natAbs_dvd_natAbs.mp (by rw [Int.natAbs_natCast]; exact Nat.gcd_dvd_left _ _)
  have g0 : g ≠ 0 := fun z => by rw [z] at d1; exact hl (Int.zero_dvd.mp d1)
  have e := fdiv_dvd g0 d1
  rw [← hs] at e
  have s0 : s ≠ 0 := fun z => by rw [z, Int.zero_mul] at e; exact hl e.symm
  refine ⟨g0, natAbs_le_of_dvd d1 hl, s0, natAbs_le_of_dvd ⟨g, e.symm⟩ hl, ?_⟩
  obtain ⟨u, rfl⟩ := d2
  exact ⟨u, by rw [← e]; grind⟩
theorem dvd_of_fmod {a b : Int} (h : a.fmod b = 0) : b ∣ a := Int.dvd_of_fmod_eq_zero h
theorem bits_mulE {k : Nat} {xs : List Int} {s : Int} {j : Nat} (h : ∀ x ∈ xs, x.natAbs < 2 ^ k) (hs : s.natAbs < 2 ^ j) : ∀ x ∈ (xs.map fun x => x * s), x.natAbs < 2 ^ (k + j) := fun x hx => by
  obtain ⟨y, hy, rfl⟩ := List.mem_map.mp hx
  exact abs_lt_mul (h y hy) hs
theorem SubAt.bits {zs rs ys : List Int} {v : Int} {a j p q : Nat} (m : SubAt zs rs ys v a j) (h1 : ∀ i, (rs.getD i 0).natAbs < 2 ^ (p + q)) (h2 : v.natAbs < 2 ^ p) (h3 : ∀ i, (ys.getD i 0).natAbs < 2 ^ q) (k : Nat) : (zs.getD k 0).natAbs < 2 ^ (p + q + 1) := by
  rw [m.at_]
  have t : (if a ≤ k ∧ k - a < j then v * ys.getD (k - a) 0 else 0).natAbs < 2 ^ (p + q) := by
    split
    · exact abs_lt_mul h2 (h3 _)
    · exact Nat.pow_pos (by decide)
  have z := sz_sub (h1 k) t
  rwa [Nat.max_self] at z
end CB
namespace CB
open PySem PySem.Spec PyProof.Rows L2
/-! ### a quotient is the only one -/
theorem cvS_top {ts js : List Int} {n : Nat} (j0 : 0 < js.length) (h : ∀ i, n < i → ts.getD i 0 = 0) : ∀ m, cvS ts js m (n + js.length - 1) = if n < m then ts.getD n 0 * js.getD (js.length - 1) 0 else 0
  | 0 => by rw [if_neg (by omega)]; rfl
  | m + 1 => by
    rw [cvS, cvS_top j0 h m]
    by_cases c : m = n
    · subst c
      rw [if_neg (Nat.lt_irrefl _), if_pos (show m ≤ m + js.length - 1 by omega), if_pos (show m < m + 1 by omega), show m + js.length - 1 - m = js.length - 1 by omega, Int.zero_add]
    · by_cases c2 : n < m
      · rw [if_pos c2, if_pos (show n < m + 1 by omega), h m c2]
        simp
      · rw [if_neg c2, if_neg (show ¬ n < m + 1 by omega), Int.zero_add]
        split
        · rw [getD_end (xs := js) (by omega), Int.mul_zero]
        · rfl
theorem cv_top {ts js : List Int} {n : Nat} (j0 : 0 < js.length) (h : ∀ i, n < i → ts.getD i 0 = 0) : cv ts js (n + js.length - 1) = ts.getD n 0 * js.getD (js.length - 1) 0 := by
  unfold cv
  rw [cvS_top j0 h]
  by_cases c : n < ts.length
  · rw [if_pos c]
  · rw [if_neg c, getD_end (by omega), Int.zero_mul]
/-- a product that is shorter than the second factor has the first factor 0 -/
theorem cv_cancel {ts js : List Int} (j0 : 0 < js.length) (lz : js.getD (js.length - 1) 0 ≠ 0) (h : ∀ k, js.length ≤ k + 1 → cv ts js k = 0) : ∀ i, ts.getD i 0 = 0 := by
  have main : ∀ d n, ts.length ≤ n + d → ∀ i, n ≤ i → ts.getD i 0 = 0 := by
    intro d
    induction d with
    | zero => intro n hn i hi; exact getD_end (by omega)
    | succ d ih =>
      intro n hn i hi
      have up := ih (n + 1) (by omega)
      by_cases c : i = n
      · subst c
        have z := h (i + js.length - 1) (by omega)
        rw [cv_top j0 (fun k hk => up k (by omega))] at z
        rcases Int.mul_eq_zero.mp z with z | z
        · exact z
        · exact absurd z lz
      · exact up i (by omega)
  exact fun i => main ts.length 0 (by omega) i (Nat.zero_le _)
def linL (xs ys : List Int) (A B : Int) : List Int := (List.range (max xs.length ys.length)).map fun i => xs.getD i 0 * A - ys.getD i 0 * B
theorem linL_at (xs ys : List Int) (A B : Int) (i : Nat) : (linL xs ys A B).getD i 0 = xs.getD i 0 * A - ys.getD i 0 * B := by
  unfold linL
  by_cases c : i < max xs.length ys.length
  · rw [List.getD_eq_getElem?_getD, List.getElem?_map, List.getElem?_range c]; rfl
  · rw [getD_end (xs := xs) (by omega), getD_end (xs := ys) (by omega), getD_end (by rw [List.length_map, List.length_range]; omega)]
    omega
theorem cvS_lin2 {xs ys js : List Int} {A B : Int} (k : Nat) : ∀ n, cvS (linL xs ys A B) js n k = cvS xs js n k * A - cvS ys js n k * B
  | 0 => by simp [cvS]
  | n + 1 => by
    rw [cvS, cvS, cvS, cvS_lin2 k n, linL_at]
    split <;> grind
theorem cv_lin2 {xs ys js : List Int} {A B : Int} (k : Nat) : cv (linL xs ys A B) js k = cv xs js k * A - cv ys js k * B := by
  have l : (linL xs ys A B).length = max xs.length ys.length := by rw [linL, List.length_map, List.length_range]
  have z := cvS_lin2 (xs := xs) (ys := ys) (js := js) (A := A) (B := B) k (max xs.length ys.length)
  rwa [cvS_ge (by omega), cvS_ge (by omega), cvS_ge (by omega)] at z
/-- the quotient of a multiple is the factor -/
theorem quot_uniq {fc qc cs ks js qs rs : List Int} {pd qd e f F : Int} (j0 : 0 < js.length) (lz : js.getD (js.length - 1) 0 ≠ 0) (hcs : ∀ k, cs.getD k 0 = cv fc qc k)
    (hp : ∀ i, ks.getD i 0 * pd = cs.getD i 0 * e) (hq : ∀ i, js.getD i 0 * qd = qc.getD i 0 * f) (heq : ∀ k, F * ks.getD k 0 = cv qs js k + rs.getD k 0) (hhi : ∀ k, js.length ≤ k + 1 → rs.getD k 0 = 0) :
    ∀ i, qs.getD i 0 * f * pd = fc.getD i 0 * qd * (F * e) := by
  have z := cv_cancel (ts := linL qs fc (f * pd) (qd * (F * e))) j0 lz (fun k hk => by
    rw [cv_lin2]
    have h1 := heq k
    rw [hhi k hk, Int.add_zero] at h1
    have h2 : cv fc qc k * f = cv fc js k * qd := by
      have z := cv_conv (as := fc) (bs := qc) (xs := fc) (ys := js) (a := 1) (b := qd) (e := 1) (f := f) (fun i => rfl) (fun i => (hq i).symm) k
      rwa [Int.one_mul, Int.one_mul] at z
    have h3 := hp k
    rw [hcs] at h3
    rw [← h1]
    grind)
  intro i
  have y := z i
  rw [linL_at] at y
  grind
end CB

namespace CB
open PySem PySem.Spec PyProof.Rows L2
/-! ### products and powers of coefficient functions -/
def cf (f g : Nat → Int) (k : Nat) : Int := sumTo (fun i => f i * g (k - i)) (k + 1)
theorem sumTo_rev (F : Nat → Int) : ∀ n, sumTo F n = sumTo (fun i => F (n - 1 - i)) n
  | 0 => rfl
  | n + 1 => by
    rw [sumTo_first (fun i => F (n + 1 - 1 - i)) n]
    show sumTo F n + F n = F (n + 1 - 1 - 0) + sumTo (fun i => F (n + 1 - 1 - (i + 1))) n
    rw [sumTo_rev F n, Int.add_comm]
    have e : n + 1 - 1 - 0 = n := by omega
    rw [e]
    congr 1
    exact sumTo_congr n fun i hi => by
      have : n + 1 - 1 - (i + 1) = n - 1 - i := by omega
      rw [this]
theorem cf_comm (f g : Nat → Int) (k : Nat) : cf f g k = cf g f k := by
  unfold cf
  rw [sumTo_rev]
  exact sumTo_congr _ fun i hi => by
    have e1 : k + 1 - 1 - i = k - i := by omega
    have e2 : k - (k - i) = i := by omega
    rw [e1, e2, Int.mul_comm]
theorem sumTo_tri (F : Nat → Nat → Int) : ∀ n, sumTo (fun i => sumTo (fun j => F i j) (i + 1)) n = sumTo (fun j => sumTo (fun m => F (j + m) j) (n - j)) n
  | 0 => rfl
  | n + 1 => by
    show sumTo (fun i => sumTo (fun j => F i j) (i + 1)) n + sumTo (fun j => F n j) (n + 1) = _
    rw [sumTo_tri F n]
    have e : sumTo (fun j => sumTo (fun m => F (j + m) j) (n + 1 - j)) (n + 1) = sumTo (fun j => sumTo (fun m => F (j + m) j) (n - j) + F n j) (n + 1) := sumTo_congr _ fun j hj => by
      have z : n + 1 - j = (n - j) + 1 := by omega
      rw [z]
      show _ + F (j + (n - j)) j = _
      rw [show j + (n - j) = n by omega]
    rw [e, sumTo_add]
    congr 1
    show _ = sumTo (fun j => sumTo (fun m => F (j + m) j) (n - j)) n + sumTo (fun m => F (n + m) n) (n - n)
    rw [Nat.sub_self]
    exact (Int.add_zero _).symm
theorem sumTo_mulr (c : Int) (f : Nat → Int) (n : Nat) : sumTo (fun i => f i * c) n = sumTo f n * c := by
  rw [Int.mul_comm, ← sumTo_mul]
  exact sumTo_congr n fun i _ => Int.mul_comm _ _
theorem cf_assoc (f g h : Nat → Int) (k : Nat) : cf (cf f g) h k = cf f (cf g h) k := by
  unfold cf
  have e1 : sumTo (fun i => sumTo (fun i_1 => f i_1 * g (i - i_1)) (i + 1) * h (k - i)) (k + 1) = sumTo (fun i => sumTo (fun j => f j * g (i - j) * h (k - i)) (i + 1)) (k + 1) := sumTo_congr _ fun i _ => (sumTo_mulr _ _ _).symm
  rw [e1, sumTo_tri (fun i j => f j * g (i - j) * h (k - i)) (k + 1)]
  exact sumTo_congr _ fun j hj => by
    rw [← sumTo_mul, show k + 1 - j = k - j + 1 by omega]
    exact sumTo_congr _ fun m hm => by
      rw [show j + m - j = m by omega, show k - (j + m) = k - j - m by omega, Int.mul_assoc]
theorem cf_congr {f f' g g' : Nat → Int} (h1 : ∀ i, f i = f' i) (h2 : ∀ i, g i = g' i) (k : Nat) : cf f g k = cf f' g' k := by
  have e1 : f = f' := funext h1
  have e2 : g = g' := funext h2
  rw [e1, e2]
theorem cf_add (f g h : Nat → Int) (k : Nat) : cf f (fun i => g i + h i) k = cf f g k + cf f h k := by
  unfold cf
  rw [← sumTo_add]
  exact sumTo_congr _ fun i _ => Int.mul_add _ _ _
theorem cf_scale (f g : Nat → Int) (c : Int) (k : Nat) : cf f (fun i => c * g i) k = c * cf f g k := by
  unfold cf
  rw [← sumTo_mul]
  exact sumTo_congr _ fun i _ => by rw [Int.mul_left_comm]
/-- the derivative -/
def dv (f : Nat → Int) (k : Nat) : Int := ((k : Int) + 1) * f (k + 1)
theorem dv_cf (f g : Nat → Int) (k : Nat) : dv (cf f g) k = cf (dv f) g k + cf f (dv g) k := by
  -- (k+1) sum_{i<k+2} f i g (k+1-i) = sum i f i g(k+1-i) + sum (k+1-i) f i g (k+1-i)
  have e1 : dv (cf f g) k = sumTo (fun i => (i : Int) * f i * g (k + 1 - i) + (((k + 1 - i : Nat)) : Int) * f i * g (k + 1 - i)) (k + 2) := by
    unfold dv cf
    rw [← sumTo_mul]
    exact sumTo_congr _ fun i hi => by
      have : ((k + 1 - i : Nat) : Int) = (k : Int) + 1 - i := by omega
      rw [this]
      grind
  rw [e1, sumTo_add]
  congr 1
  · rw [sumTo_first]
    rw [show ((0 : Nat) : Int) * f 0 * g (k + 1 - 0) = 0 by simp, Int.zero_add]
    unfold cf dv
    exact sumTo_congr _ fun i hi => by
      rw [show k + 1 - (i + 1) = k - i by omega]
      push_cast
      rfl
  · show sumTo _ (k + 1) + ((k + 1 - (k + 1) : Nat) : Int) * f (k + 1) * g (k + 1 - (k + 1)) = _
    rw [show ((k + 1 - (k + 1) : Nat) : Int) * f (k + 1) * g (k + 1 - (k + 1)) = 0 by rw [Nat.sub_self]; simp, Int.add_zero]
    unfold cf dv
    exact sumTo_congr _ fun i hi => by
      rw [show k + 1 - i = k - i + 1 by omega]
      push_cast
      grind
/-- powers -/
def pwf (f : Nat → Int) : Nat → Nat → Int
  | 0, k => if k = 0 then 1 else 0
  | e + 1, k => cf (pwf f e) f k
theorem pwf_dv (f : Nat → Int) : ∀ e k, cf f (dv (pwf f e)) k = (e : Int) * cf (dv f) (pwf f e) k
  | 0, k => by
    have z : ∀ i, dv (pwf f 0) i = 0 := fun i => by
      unfold dv pwf
      rw [if_neg (by omega), Int.mul_zero]
    have : cf f (dv (pwf f 0)) k = 0 := by
      unfold cf
      exact sumTo_zero _ fun i _ => by rw [z, Int.mul_zero]
    rw [this]
    simp
  | e + 1, k => by
    have ih := pwf_dv f e
    have e1 : ∀ i, dv (pwf f (e + 1)) i = cf (dv (pwf f e)) f i + cf (pwf f e) (dv f) i := fun i => dv_cf (pwf f e) f i
    rw [cf_congr (fun _ => rfl) e1, cf_add]
    have a1 : cf f (cf (dv (pwf f e)) f) k = (e : Int) * cf (dv f) (pwf f (e + 1)) k := by
      rw [← cf_assoc, cf_congr ih (fun _ => rfl), cf_comm, cf_scale, cf_comm, cf_assoc]
      rfl
    have a2 : cf f (cf (pwf f e) (dv f)) k = cf (dv f) (pwf f (e + 1)) k := by
      rw [← cf_assoc, cf_comm, cf_congr (fun _ => rfl) (fun i => cf_comm f (pwf f e) i)]
      rfl
    rw [a1, a2]
    push_cast
    grind
/-- each coefficient of a power from those before it -/
theorem pwf_rec (f : Nat → Int) (e k : Nat) : ((k : Int) + 1) * f 0 * pwf f e (k + 1) = sumTo (fun i => (((e : Int) + 1) * ((i : Int) + 1) - ((k : Int) + 1)) * f (i + 1) * pwf f e (k - i)) (k + 1) := by
  have h := pwf_dv f e k
  unfold cf at h
  rw [sumTo_first, ← sumTo_mul] at h
  -- h: f 0 * dv q k + sum_{i<k} f (i+1) dv q (k-(i+1)) = sum_{i<k+1} e * (dv f i * q (k-i))
  have e1 : sumTo (fun i => (((e : Int) + 1) * ((i : Int) + 1) - ((k : Int) + 1)) * f (i + 1) * pwf f e (k - i)) (k + 1) = sumTo (fun i => (e : Int) * (dv f i * pwf f e (k - i)) + -(((k - i : Nat) : Int) * f (i + 1) * pwf f e (k - i))) (k + 1) := sumTo_congr _ fun i hi => by
    unfold dv
    have : ((k - i : Nat) : Int) = (k : Int) - i := by omega
    rw [this]
    grind
  rw [e1, sumTo_add, ← h]
  have e2 : sumTo (fun i => -(((k - i : Nat) : Int) * f (i + 1) * pwf f e (k - i))) (k + 1) = -sumTo (fun i => f (i + 1) * dv (pwf f e) (k - (i + 1))) k := by
    show sumTo _ k + -(((k - k : Nat) : Int) * f (k + 1) * pwf f e (k - k)) = _
    rw [Nat.sub_self, show -(((0 : Nat) : Int) * f (k + 1) * pwf f e 0) = 0 by simp, Int.add_zero, show -sumTo (fun i => f (i + 1) * dv (pwf f e) (k - (i + 1))) k = (-1) * sumTo (fun i => f (i + 1) * dv (pwf f e) (k - (i + 1))) k by omega, ← sumTo_mul]
    exact sumTo_congr _ fun i hi => by
      unfold dv
      have a : k - (i + 1) + 1 = k - i := by omega
      have b : ((k - (i + 1) : Nat) : Int) + 1 = ((k - i : Nat) : Int) := by omega
      rw [a, b]
      grind
  rw [e2]
  unfold dv
  rw [Nat.sub_zero]
  grind
theorem pwf_zero (f : Nat → Int) : ∀ e, pwf f e 0 = f 0 ^ e
  | 0 => by unfold pwf; rw [if_pos rfl, Int.pow_zero]
  | e + 1 => by
    show cf (pwf f e) f 0 = _
    unfold cf
    show 0 + pwf f e 0 * f 0 = _
    rw [pwf_zero f e, Int.pow_succ, Int.zero_add]
/-- moved up by z places -/
def up (z : Nat) (f : Nat → Int) (k : Nat) : Int := if k < z then 0 else f (k - z)
theorem up_lt {z : Nat} {f : Nat → Int} {k : Nat} (h : k < z) : up z f k = 0 := if_pos h
theorem up_ge {z : Nat} {f : Nat → Int} {k : Nat} (h : ¬ k < z) : up z f k = f (k - z) := if_neg h
theorem sumTo_app (F : Nat → Int) (p : Nat) : ∀ q, sumTo F (p + q) = sumTo F p + sumTo (fun i => F (p + i)) q
  | 0 => (Int.add_zero _).symm
  | q + 1 => by show sumTo F (p + q) + F (p + q) = _ + (_ + _); rw [sumTo_app F p q, Int.add_assoc]
theorem cf_up (f g : Nat → Int) (a b k : Nat) : cf (up a f) (up b g) k = up (a + b) (cf f g) k := by
  by_cases c : k < a + b
  · rw [up_lt c]
    unfold cf
    exact sumTo_zero _ fun i hi => by
      by_cases c1 : i < a
      · rw [up_lt c1, Int.zero_mul]
      · rw [up_lt (show k - i < b by omega), Int.mul_zero]
  · rw [up_ge c]
    unfold cf
    rw [show k + 1 = a + ((k - (a + b) + 1) + b) by omega, sumTo_app, sumTo_app, sumTo_zero a fun i hi => by rw [up_lt hi, Int.zero_mul], sumTo_zero b fun i hi => by
      rw [up_lt (show k - (a + (k - (a + b) + 1 + i)) < b by omega), Int.mul_zero], Int.zero_add, Int.add_zero]
    exact sumTo_congr _ fun i hi => by
      rw [up_ge (show ¬ a + i < a by omega), up_ge (show ¬ k - (a + i) < b by omega), show a + i - a = i by omega, show k - (a + i) - b = k - (a + b) - i by omega]
theorem pwf_up (f : Nat → Int) (z : Nat) : ∀ e k, pwf (up z f) e k = up (z * e) (pwf f e) k
  | 0, k => by
    rw [Nat.mul_zero, up_ge (Nat.not_lt_zero _)]
    rfl
  | e + 1, k => by
    show cf (pwf (up z f) e) (up z f) k = _
    rw [cf_congr (pwf_up f z e) (fun _ => rfl), cf_up, Nat.mul_add, Nat.mul_one]
    rfl
theorem pwf_congr {f g : Nat → Int} (h : ∀ i, f i = g i) (e k : Nat) : pwf f e k = pwf g e k := by
  have : f = g := funext h
  rw [this]
/-- a power's coefficients end -/
theorem pwf_end {f : Nat → Int} {d : Nat} (h : ∀ i, d < i → f i = 0) : ∀ e k, d * e < k → pwf f e k = 0
  | 0, k, hk => by
    unfold pwf
    rw [if_neg (by omega)]
  | e + 1, k, hk => by
    show cf (pwf f e) f k = 0
    unfold cf
    refine sumTo_zero _ fun i hi => ?_
    rw [Nat.mul_add, Nat.mul_one] at hk
    by_cases c : d * e < i
    · rw [pwf_end h e i c, Int.zero_mul]
    · rw [h (k - i) (by omega), Int.mul_zero]
/-- lists -/
abbrev ff (xs : List Int) : Nat → Int := fun i => xs.getD i 0
theorem cvS_sum (xs ys : List Int) (k : Nat) : ∀ n, cvS xs ys n k = sumTo (fun i => if i ≤ k then xs.getD i 0 * ys.getD (k - i) 0 else 0) n
  | 0 => rfl
  | n + 1 => by rw [cvS, cvS_sum xs ys k n]; rfl
theorem sumTo_more {F : Nat → Int} {n : Nat} (h : ∀ i, n ≤ i → F i = 0) : ∀ m, sumTo F (n + m) = sumTo F n
  | 0 => rfl
  | m + 1 => by
    show sumTo F (n + m) + F (n + m) = _
    rw [sumTo_more h m, h _ (by omega), Int.add_zero]
theorem cv_cf (xs ys : List Int) (k : Nat) : cv xs ys k = cf (ff xs) (ff ys) k := by
  have z : cv xs ys k = cvS xs ys (xs.length + (k + 1)) k := (cvS_end k (k + 1)).symm
  rw [z, cvS_sum, Nat.add_comm, sumTo_more fun i hi => if_neg (by omega)]
  unfold cf
  exact sumTo_congr _ fun i hi => if_pos (by omega)
/-- zs is the power e of cs -/
structure IsPow (zs cs : List Int) (e : Nat) : Prop where
  at_ : ∀ k, zs.getD k 0 = pwf (ff cs) e k
theorem IsPow.one {cs : List Int} : IsPow [1] cs 0 := ⟨fun k => by
  unfold pwf
  cases k with
  | zero => rfl
  | succ k => rw [if_neg (by omega), getD_end (by simp)]⟩
theorem IsPow.more {zs ps cs : List Int} {e : Nat} (p : IsPow ps cs e) (m : IsMul zs ps cs) : IsPow zs cs (e + 1) := ⟨fun k => by
  rw [m.at_, cv_cf]
  exact cf_congr p.at_ (fun _ => rfl) k⟩
/-- the power of another pair -/
theorem pwf_conv {f g : Nat → Int} {a b : Int} (h : ∀ i, f i * a = g i * b) : ∀ e k, pwf f e k * a ^ e = pwf g e k * b ^ e
  | 0, k => by rw [Int.pow_zero, Int.pow_zero]; rfl
  | e + 1, k => by
    have ih := pwf_conv h e
    show cf (pwf f e) f k * _ = cf (pwf g e) g k * _
    unfold cf
    rw [← sumTo_mulr, ← sumTo_mulr]
    exact sumTo_congr _ fun i _ => by
      have z1 := ih i
      have z2 := h (k - i)
      rw [Int.pow_succ, Int.pow_succ]
      grind
theorem Pq.power {as ks zs ws ms : List Int} {a b g : Int} {e : Nat} (p : Pq as a ks b) (z : IsPow zs ks e) (w : IsPow ws as e) (q : Pq zs (b ^ e) ms g) : Pq ws (a ^ e) ms g := by
  have b0 := p.pos
  refine q.conv (pow_ne (by omega) e) fun i => ?_
  rw [z.at_, w.at_]
  exact pwf_conv (f := ff ks) (g := ff as) p.eq e i
end CB

namespace CB.Z
open PySem PySem.Spec PyProof.Rows L2
/-- the reading of a comprehension over enumerate of a tuple -/
theorem lc_enT {K : PySem.W.Frag} {a : Addr} {xs : List V} {g : TG} {tt : TT} {te : TE} {vs : List Nat} {σ : L2.St} {H1 : Hp} {D : Addr} {Qd : Hp → Prop} (Pv : Nat → Hp → Prop) (h0 : Pv 0 (upd H1 D (.lst [])))
    (hq : ∀ i H, Pv i H → SqT K H a xs)
    (hs : ∀ i x T H, xs[i]? = some x → Pv i H → H T = none → g (.ref T) (wipe σ vs) (upd H T (.tup [.int (i : Nat), x])) fun σ2 H2 => wipe σ2 vs = wipe σ vs ∧ tt σ2 H2 fun k H3 =>
      if k = true then te σ2 H3 fun y H4 => ∃ acc, H4 D = some (.lst acc) ∧ acc.length < sizeLine ∧ Pv (i + 1) (upd H4 D (.lst (acc ++ [y]))) else Pv (i + 1) H3)
    (hd : ∀ H, Pv xs.length H → Qd H) :
    ∃ W : Nat → Nat → Hp → Prop, (∃ m, W 0 m (upd H1 D (.lst []))) ∧ ∀ i m H, W i m H →
      ((IteT K a xs).stop i H ∧ Qd H) ∨ ((IteT K a xs).go i H ∧ ∃ Nx : Hp → Prop, (∀ H', Nx H' → ∃ m', m' < m ∧ W (i + 1) m' H') ∧
        ∀ x H', (IteT K a xs).yld i H x H' → g x (wipe σ vs) H' fun σ2 H2 => wipe σ2 vs = wipe σ vs ∧ tt σ2 H2 fun k H3 =>
          if k = true then te σ2 H3 fun y H4 => ∃ acc, H4 D = some (.lst acc) ∧ acc.length < sizeLine ∧ Nx (upd H4 D (.lst (acc ++ [y]))) else Nx H3) := by
  refine ⟨fun i m H => m = xs.length - i ∧ i ≤ xs.length ∧ Pv i H, ⟨_, rfl, Nat.zero_le _, h0⟩, fun i m H hw => ?_⟩
  obtain ⟨rfl, hi, p⟩ := hw
  have qa := hq i H p
  by_cases lt : i < xs.length
  · refine .inr ⟨⟨qa, lt⟩, Pv (i + 1), fun H' p' => ⟨_, by omega, rfl, lt, p'⟩, fun x H' y => ?_⟩
    obtain ⟨T, z, hz, rfl, nT, rfl⟩ := y
    exact hs i z T H hz p nT
  · have e : i = xs.length := by omega
    subst e
    exact .inl ⟨⟨qa, Nat.le_refl _⟩, hd H p⟩
end CB.Z
namespace CB
open PySem PySem.Spec PyProof.Rows L2 CB.Z
/-! ### the power's terms -/
def tS (g : Int → Int) : List (Addr × Int × Int) → Int
  | [] => 0
  | t :: r => g t.2.1 * t.2.2 + tS g r
theorem tS_app (g : Int → Int) (t : Addr × Int × Int) : ∀ xs, tS g (xs ++ [t]) = tS g xs + g t.2.1 * t.2.2
  | [] => by simp [tS]
  | x :: r => by
    show _ + tS g (r ++ [t]) = _ + _ + _
    rw [tS_app g t r, Int.add_assoc]
theorem sumTo_bits {F : Nat → Int} {b : Nat} : ∀ n, (∀ i, i < n → (F i).natAbs < 2 ^ b) → (sumTo F n).natAbs < 2 ^ (b + n)
  | 0, _ => Nat.pow_pos (by decide)
  | n + 1, h => by
    have ih := sumTo_bits n fun i hi => h i (by omega)
    refine abs_mono (sz_add ih (h n (by omega))) ?_
    omega
theorem pwf_bits {f : Nat → Int} {k n : Nat} (h1 : ∀ i, (f i).natAbs < 2 ^ k) (h2 : ∀ i, n ≤ i → f i = 0) : ∀ e j, (pwf f e j).natAbs < 2 ^ ((k + n) * e + 1)
  | 0, j => by
    unfold pwf
    split
    · exact Nat.lt_of_lt_of_le (show 1 < 2 ^ 1 by decide) (Nat.pow_le_pow_right (by decide) (by omega))
    · exact Nat.pow_pos (by decide)
  | e + 1, j => by
    show (cf (pwf f e) f j).natAbs < _
    rw [cf_comm]
    unfold cf
    have ih := pwf_bits h1 h2 e
    have tb : ∀ i, (f i * pwf f e (j - i)).natAbs < 2 ^ (k + ((k + n) * e + 1)) := fun i => abs_lt_mul (h1 i) (ih _)
    have e1 : (k + n) * (e + 1) = (k + n) * e + (k + n) := by rw [Nat.mul_add, Nat.mul_one]
    by_cases c : n ≤ j + 1
    · rw [show j + 1 = n + (j + 1 - n) by omega, sumTo_more fun i hi => by rw [h2 i hi, Int.zero_mul]]
      exact abs_mono (sumTo_bits n fun i _ => tb i) (by omega)
    · exact abs_mono (sumTo_bits (j + 1) fun i _ => tb i) (by omega)
/-- the next coefficient, by the terms -/
theorem pow_next {f : Nat → Int} {e k d : Nat} {q : Nat → Int} (hq : ∀ i, i < k + 1 → q i = pwf f e i) (S : Int) (hf : ∀ i, d < i → f i = 0)
    (hS : S = sumTo (fun t => if 0 < t then (if (t : Int) ≤ ((k + 1 : Nat) : Int) then (((e : Int) + 1) * (t : Int) - ((k + 1 : Nat) : Int)) * q (k + 1 - t) else 0) * f t else 0) (d + 1)) :
    S = (((k + 1 : Nat) : Int) * f 0) * pwf f e (k + 1) := by
  have r := pwf_rec f e k
  rw [show (((k + 1 : Nat) : Int)) = (k : Int) + 1 by omega, r, hS, sumTo_first, if_neg (Nat.lt_irrefl 0), Int.zero_add]
  -- both sides over max
  have a1 : sumTo (fun i => if 0 < i + 1 then (if ((i + 1 : Nat) : Int) ≤ ((k + 1 : Nat) : Int) then (((e : Int) + 1) * ((i + 1 : Nat) : Int) - ((k + 1 : Nat) : Int)) * q (k + 1 - (i + 1)) else 0) * f (i + 1) else 0) d
      = sumTo (fun i => (if i < k + 1 then (((e : Int) + 1) * ((i : Int) + 1) - ((k : Int) + 1)) * f (i + 1) * pwf f e (k - i) else 0)) d := sumTo_congr d fun i hi => by
    rw [if_pos (by omega)]
    by_cases c : i < k + 1
    · rw [if_pos (by omega), if_pos c, hq _ (by omega), show k + 1 - (i + 1) = k - i by omega]
      push_cast
      grind
    · rw [if_neg (by omega), if_neg c, Int.zero_mul]
  rw [a1]
  by_cases c : d ≤ k + 1
  · rw [show k + 1 = d + (k + 1 - d) by omega, sumTo_more fun i hi => by rw [hf (i + 1) (by omega)]; simp]
    exact sumTo_congr d fun i hi => by rw [if_pos (by omega)]
  · rw [show d = (k + 1) + (d - (k + 1)) by omega, sumTo_more fun i hi => if_neg (by omega)]
    exact sumTo_congr _ fun i hi => by rw [if_pos hi]
theorem fdiv_exact {a b c : Int} (h : a = b * c) (hb : b ≠ 0) : a.fdiv b = c := by
  rw [h]
  exact Int.mul_fdiv_cancel_left c hb
/-- the power of a polynomial whose first coefficients are 0 -/
theorem pow_zeros {cs : List Int} {z e : Nat} (h : ∀ i, i < z → cs.getD i 0 = 0) (k : Nat) : pwf (ff cs) e k = up (z * e) (pwf (fun i => cs.getD (z + i) 0) e) k := by
  rw [← pwf_up]
  refine pwf_congr (fun i => ?_) e k
  by_cases c : i < z
  · rw [up_lt c]; exact h i c
  · rw [up_ge c]
    show cs.getD i 0 = cs.getD (z + (i - z)) 0
    rw [show z + (i - z) = i by omega]
end CB

namespace CB
open PySem PySem.Spec PyProof.Rows L2
/-! ### values of polynomials -/
/-- the value of a polynomial, from the highest power -/
def evL (x : Int) : List Int → Int
  | [] => 0
  | c :: r => evL x r * x + c
theorem evL_bits {x : Int} {k j : Nat} (hx : x.natAbs < 2 ^ j) : ∀ {cs : List Int}, (∀ c ∈ cs, c.natAbs < 2 ^ k) → (evL x cs).natAbs < 2 ^ (k + (j + 1) * cs.length + 1)
  | [], _ => by simp [evL]; exact Nat.pow_pos (by decide)
  | c :: r, h => by
    have ih := evL_bits hx (cs := r) fun y hy => h y (by simp [hy])
    have z := sz_add (abs_lt_mul ih hx) (h c (by simp))
    rw [evL]
    refine abs_mono z ?_
    rw [List.length_cons]
    have : (j + 1) * (r.length + 1) = (j + 1) * r.length + (j + 1) := by rw [Nat.mul_add, Nat.mul_one]
    omega
theorem drop_rev {cs : List Int} {i : Nat} {c : Int} (h : cs[cs.length - 1 - i]? = some c) (hi : i < cs.length) : cs.drop (cs.length - (i + 1)) = c :: cs.drop (cs.length - i) := by
  have e : cs.length - (i + 1) = cs.length - 1 - i := by omega
  have lt : cs.length - 1 - i < cs.length := by omega
  rw [e, List.drop_eq_getElem_cons lt]
  rw [List.getElem?_eq_getElem lt] at h
  rw [Option.some.inj h]
  congr 2
  omega
/-- the value at num / den, times den to the length -/
def vaL (num den : Int) : List Int → Int
  | [] => 0
  | c :: r => vaL num den r * num + c * den ^ (r.length + 1)
def vaT (num den : Int) (cs : List Int) (N : Nat) (j : Nat) : Int := cs.getD j 0 * num ^ j * den ^ (N - j)
theorem vaL_sum (num den : Int) : ∀ cs : List Int, vaL num den cs = sumTo (vaT num den cs cs.length) cs.length
  | [] => rfl
  | c :: r => by
    show vaL num den r * num + c * den ^ (r.length + 1) = sumTo _ (r.length + 1)
    rw [sumTo_first, vaL_sum num den r, ← sumTo_mulr, Int.add_comm]
    congr 1
    · show _ = c * num ^ 0 * den ^ (r.length + 1 - 0)
      rw [Int.pow_zero, Int.mul_one, Nat.sub_zero]
    · exact sumTo_congr _ fun i hi => by
        show r.getD i 0 * num ^ i * den ^ (r.length - i) * num = r.getD i 0 * num ^ (i + 1) * den ^ (r.length + 1 - (i + 1))
        rw [Int.pow_succ, show r.length + 1 - (i + 1) = r.length - i by omega]
        grind
/-- values of equal polynomials at equal numbers -/
theorem va_conv {ks cs : List Int} {n f u b d e : Int} (hc : ∀ i, ks.getD i 0 * d = cs.getD i 0 * e) (hx : n * b = u * f) (d0 : d ≠ 0) (e0 : e ≠ 0) :
    vaL n f ks * (d * b ^ cs.length) = vaL u b cs * (e * f ^ ks.length) := by
  have pw_ : ∀ j, n ^ j * b ^ j = u ^ j * f ^ j := fun j => by rw [← mul_pow_int, ← mul_pow_int, hx]
  have e1 : vaL n f ks = sumTo (vaT n f ks ks.length) (ks.length + cs.length) := by rw [vaL_sum, sumTo_more fun i hi => by unfold vaT; rw [getD_end hi]; simp]
  have e2 : vaL u b cs = sumTo (vaT u b cs cs.length) (ks.length + cs.length) := by rw [vaL_sum, Nat.add_comm, sumTo_more fun i hi => by unfold vaT; rw [getD_end hi]; simp]
  rw [e1, e2, ← sumTo_mulr, ← sumTo_mulr]
  refine sumTo_congr _ fun j _ => ?_
  unfold vaT
  have h := hc j
  by_cases c1 : j < ks.length
  · by_cases c2 : j < cs.length
    · have a1 : b ^ cs.length = b ^ j * b ^ (cs.length - j) := by rw [← Int.pow_add]; congr 1; omega
      have a2 : f ^ ks.length = f ^ j * f ^ (ks.length - j) := by rw [← Int.pow_add]; congr 1; omega
      rw [a1, a2]
      have a3 := pw_ j
      calc _ = (ks.getD j 0 * d) * (n ^ j * b ^ j) * (f ^ (ks.length - j) * b ^ (cs.length - j)) := by grind
        _ = (cs.getD j 0 * e) * (u ^ j * f ^ j) * (f ^ (ks.length - j) * b ^ (cs.length - j)) := by rw [h, a3]
        _ = _ := by grind
    · rw [getD_end (xs := cs) (by omega), Int.zero_mul] at h
      have z : ks.getD j 0 = 0 := by rcases Int.mul_eq_zero.mp h with z | z; exact z; exact absurd z d0
      rw [z, getD_end (xs := cs) (by omega)]
      simp
  · rw [getD_end (xs := ks) (by omega), Int.zero_mul] at h
    have z : cs.getD j 0 = 0 := by rcases Int.mul_eq_zero.mp h.symm with z | z; exact z; exact absurd z e0
    rw [z, getD_end (xs := ks) (by omega)]
    simp
theorem evL_va (x : Int) : ∀ cs, evL x cs = vaL x 1 cs
  | [] => rfl
  | c :: r => by
    show evL x r * x + c = vaL x 1 r * x + c * 1 ^ (r.length + 1)
    rw [evL_va x r, Int.one_pow, Int.mul_one]
/-- what the law's sum says -/
structure DuAt (num den : Int) (cs : List Int) (top bl : Int) : Prop where
  eq : top * den ^ cs.length = bl * vaL num den cs
  b0 : 0 < bl
  tb : top.natAbs < 2 ^ 4000
  bb : bl.natAbs < 2 ^ 2000
theorem DuAt.fq {n f u b d e top bl : Int} {ks cs : List Int} (m : DuAt u b cs top bl) (hc : ∀ i, ks.getD i 0 * d = cs.getD i 0 * e) (hx : n * b = u * f) (d0 : d ≠ 0) (e0 : e ≠ 0) (b0 : b ≠ 0) :
    vaL n f ks * (bl * d) = top * (e * f ^ ks.length) := by
  have h := va_conv hc hx d0 e0
  have h2 := m.eq
  apply Int.eq_of_mul_eq_mul_right (pow_ne b0 cs.length)
  calc _ = bl * (vaL n f ks * (d * b ^ cs.length)) := by grind
    _ = (bl * vaL u b cs) * (e * f ^ ks.length) := by rw [h]; grind
    _ = _ := by rw [← h2]; grind
end CB

namespace CB
open PySem PySem.Spec PyProof.Rows L2 PySem.W
/-! ### max(.., default=d) -/
theorem maxOf_spec : ∀ (xs : List Int) (x : Int), maxOf x xs ∈ x :: xs ∧ ∀ y ∈ x :: xs, y ≤ maxOf x xs
  | [], x => ⟨by simp [maxOf], fun y hy => by rw [List.mem_singleton.mp hy]; exact Int.le_refl _⟩
  | z :: r, x => by
    have e : maxOf x (z :: r) = maxOf (if DatumOrd.lt x z = true then z else x) r := rfl
    rw [e]
    have d : DatumOrd.lt x z = decide (x < z) := rfl
    rw [d]
    by_cases c : x < z
    · rw [decide_eq_true c, if_pos rfl]
      obtain ⟨h1, h2⟩ := maxOf_spec r z
      refine ⟨List.mem_cons_of_mem _ h1, fun y hy => ?_⟩
      rcases List.mem_cons.mp hy with rfl | hy
      · exact Int.le_trans (Int.le_of_lt c) (h2 z (List.mem_cons_self ..))
      · exact h2 y hy
    · rw [decide_eq_false c, if_neg (by decide)]
      obtain ⟨h1, h2⟩ := maxOf_spec r x
      refine ⟨?_, fun y hy => ?_⟩
      · rcases List.mem_cons.mp h1 with h | h
        · rw [h]; exact List.mem_cons_self ..
        · exact List.mem_cons_of_mem _ (List.mem_cons_of_mem _ h)
      · rcases List.mem_cons.mp hy with rfl | hy
        · exact h2 y (List.mem_cons_self ..)
        · rcases List.mem_cons.mp hy with rfl | hy
          · exact Int.le_trans (by omega) (h2 x (List.mem_cons_self ..))
          · exact h2 y (List.mem_cons_of_mem _ hy)
theorem holds_int_is {h : Heap} {v : Value} {n : Int} (H : Holds h v n) : ∃ t, v = .int n t := by
  obtain ⟨as, r⟩ := H
  cases r
  exact ⟨_, rfl⟩
section
variable {X : Cx}
def rMaxD (K : PySem.W.Frag) : List V → List V → Hp → VK → Prop := fun vs zs H Q => ∃ (a : Addr) (ns : List Int) (d : Int), vs = [V.ref a] ∧ zs = [V.int d] ∧ SqL K H a (ns.map V.int) ∧ (ns = [] → Q (.int d) H) ∧ ∀ m, m ∈ ns → (∀ y, y ∈ ns → y ≤ m) → Q (.int m) H
theorem cr_maxD (hc : X.calm = true) (hu : X.A.units + 64 < cLine) : CallRK X (.builtin "max") [Str.ofString "default"] (rMaxD X.K) := by
  intro pins s σ H vs zs us ws Q I r rz h
  obtain ⟨a, ns, d, rfl, rfl, hs, h0, q⟩ := h
  obtain ⟨its, rv, hl, _⟩ := I.list hs
  rw [Vals.ref1 r]
  cases rz with
  | cons r1 r2 =>
    cases r2
    obtain ⟨t, rfl⟩ := r1
    refine max_list_datum_default (α := Int) (xs := ns) (I.ok.hd hc) hl.isList (by rw [List.toList_toArray]; exact HoldAll.of_ints rv.ints) (by show X.A.units + 1 + 0 < cLine; omega) (fun e h' tk hk => ?_) (fun y ys i v h' tk e hi hv hk => ?_)
    · exact ⟨.int _, H, I.kept hk, ⟨_, rfl⟩, h0 e⟩
    · obtain ⟨t, rfl⟩ := holds_int_is hv
      subst e
      obtain ⟨h1, h2⟩ := maxOf_spec ys y
      exact ⟨.int _, H, I.kept hk, ⟨_, rfl⟩, q _ h1 h2⟩
end
end CB

namespace CB
open PySem PySem.Spec PyProof.Rows L2
/-! ### a def with keyword-only parameters without defaults -/
def OkK (P : Program) (w : World) (K : PySem.W.Frag) (mg : Str → Option Value) (base : Heap) (k : Nat) (a : Addr) (ps : List Str) (n : Nat) (ks : List Str) (sp : Sp) : Prop :=
  ∃ fd : FuncData, FnOk P w K mg base (L2.CX P w) k a fd ps sp ∧ KBn K fd ps n ks (fun us ws => us ++ ws) (fun vs zs => vs ++ zs) ∧ PySem.W.keepIn K (.ref a) = true
theorem okK_of {P : Program} {w : World} {K : PySem.W.Frag} {mg : Str → Option Value} {base : Heap} {k : Nat} {d : DefG} {N ps : List Str} {n : Nat} {ks : List Str} {sp : Sp} (D : Dn K d) (hd : d.dfl = []) (S : FnScope N ps d.scope)
    (hb : ∀ (kV doc pm : Value) (an : Option Addr) (cdv ct : Value) (us ws : List Value), us.length = n → ws.length = ks.length → bindArgs (PySem.W.fnOf d.name d.qual d.params d.body d.scope .none kV doc pm an cdv ct) ⟨us, ks.zip ws⟩ = pure (ps.zip (us ++ ws)))
    (len : ∀ vs H Q E, sp vs H Q E → vs.length = ps.length)
    (hbody : ∀ (cdv : Value) (A : Around) (outer : List Env) (s : Shared) (H : Hp) (vs : List V) (Q : VK) (E : XK), Room k (A.deeper (envOfC d.qual d.scope s.heap.objs.size (d.at_ K) cdv)) → sp vs H Q E →
      ∃ t, PSs (cxOf (L2.CX P w) P w K mg base N d.qual d.scope (d.at_ K) cdv A outer s H E) d.body t ∧ t { nx := fun _ H' => Q .non H', rt := Q } (start N vs) H) :
    OkK P w K mg base (k + 1) (d.at_ K) ps n ks sp := by
  obtain ⟨fd, F⟩ := D
  have e1 : d.dvs K = [] := by unfold DefG.dvs; rw [hd]; rfl
  rw [e1] at F
  refine ⟨fd, F.ok S len hbody, ?_, F.kp⟩
  obtain ⟨oc, od, dV, kV, doc, pm, an, cdv, ct, osl, rfl, lk, hcd, hD, hK⟩ := F.ex
  rcases hD with ⟨_, rfl⟩ | ⟨e, _⟩
  · exact ⟨fun s us ws X l1 l2 => BindsTo.of_looks fun M => KwChain.looks (D := 0) X (l := []) (fun q hq => absurd hq (by simp)) (hb kV doc pm an cdv ct us ws l1 l2), fun r1 r2 => r1.append r2⟩
  · exact absurd rfl e
section
variable {X : Cx} {CX : CXT} {k n : Nat} {f : Addr} {fd : FuncData} {ps ks : List Str} {sp : Sp} {E : L2.St → XK} {x : Str} {p pos : Pos} {e : Expr} {es : List Expr} {kws : List Keyword} {t tk : TA} {g : List Value → List Value → List Value} {gV : List V → List V → List V}
def tCallNS (n m : Nat) (sp : Sp) (gV : List V → List V → List V) (E : L2.St → XK) (t tk : TA) : TE := fun σ H Q => t σ H fun vs H1 => tk σ H1 fun zs H2 => vs.length = n ∧ zs.length = m ∧ sp (gV vs zs) H2 Q (E σ)
theorem run_fnNS {pins : List (Addr × Obj)} {σ : L2.St} {H : Hp} {s : Shared} {Q : VK} {us ws : List Value} {vs zs : List V} (F : FnOk X.prog X.w X.K X.mg X.base CX k f fd ps sp) (hr : Room k X.A) (hb : KBn X.K fd ps n ks g gV) (hx : PassesAt CX X σ (E σ))
    (I : Inv X pins σ H s) (r : Vals vs us) (rz : Vals zs ws) (l1 : vs.length = n) (l2 : zs.length = ks.length) (h : sp (gV vs zs) H Q (E σ)) : wpAny (model X.prog X.w) X.A (call (.ref f) us (ks.zip ws)) (EP X pins σ Q) X.xe s := by
  have r2 := hb.rel r rz
  refine wpAny_call (codeAny_mono (F.run X.A X.stack s H ⟨us, ks.zip ws⟩ (g us ws) (gV vs zs) Q (E σ) hr I.env0 (hb.to s us ws I.kIn (r.length.symm.trans l1) (rz.length.symm.trans l2)) r2 h) fun r s' hq => ?_)
  cases r with
  | error e => exact hx pins H s e s' I hq
  | ok fl =>
    cases fl with
    | ret u => exact I.after hq
    | next => exact False.elim hq
    | brk => exact False.elim hq
    | cont => exact False.elim hq
theorem pe_callNS (F : FnOk X.prog X.w X.K X.mg X.base CX k f fd ps sp) (hr : Room k X.A) (hg : Gl X x) (hm : X.mg x = some (.ref f)) (hk : PySem.W.keepIn X.K (.ref f) = true) (hb : KBn X.K fd ps n ks g gV) (hx : ∀ σ, PassesAt CX X σ (E σ))
    (ha : PA X (e :: es) t) (hkw : PK X kws tk) (hall : (backToKw pos (keywordEach kws X.env)).all (·.1.isSome) = true := by rfl) (hks : (backToKw pos (keywordEach kws X.env)).filterMap (·.1) = ks := by rfl)
    (hdb : (x == ("__debug__" : Str)) = false := by decide) (he : starEach (e :: es) X.env = (false, eval e X.env) :: starEach es X.env := by rfl)
    (hpl : ((backTo pos (starEach (e :: es) X.env)).any (·.1) || (backToKw pos (keywordEach kws X.env)).any (·.1.isNone)) = false := by rfl) :
    PE X (.Call (.Name x p) (e :: es) kws pos) (tCallNS n ks.length sp gV E t tk) := by
  refine ⟨fun pins s σ H Q I h => ?_⟩
  refine wpAny_Call_Name_kw (ld_glob I hg hm ?_ hdb)
  refine PySem.W.callWith_KW (h₀ := X.base) I.ok.mod.kin hk hall (thn (ha.run pos pins s σ H _ I h) fun us s1 ⟨vs, H1, I1, r, q⟩ => ?_) hpl he
  refine thn (hkw.run pos pins s1 σ H1 _ I1 q) fun ws s2 ⟨zs, H2, I2, rz, l1, l2, q2⟩ => ⟨I2.kIn, ?_⟩
  rw [hks]
  exact run_fnNS F hr hb (hx σ) I2 r rz l1 l2 q2
end
end CB

namespace CB
open PySem PySem.Spec PyProof.Rows L2
/-! ### settled signs -/
/-- (x + s) ^ j, moved on by t -/
theorem pw_add (s t : Int) : ∀ (j k m : Nat), j < m → sumTo (fun i => pw s j i * pw t i k) m = pw (s + t) j k
  | 0, k, m, h => by
    rw [sumTo_one (k := 0) m h fun i hi ne => by
      cases i with
      | zero => exact absurd rfl ne
      | succ i => rw [pw, Int.zero_mul]]
    cases k with
    | zero => rfl
    | succ k => simp [pw]
  | j + 1, k, m, h => by
    obtain ⟨m, rfl⟩ : ∃ n, m = n + 1 := ⟨m - 1, by omega⟩
    have e1 : sumTo (fun i => pw s (j + 1) i * pw t i k) (m + 1) = s * sumTo (fun i => pw s j i * pw t i k) (m + 1) + sumTo (fun i => pw s j i * pw t (i + 1) k) m := by
      rw [sumTo_first, sumTo_first (fun i => pw s j i * pw t i k), Int.mul_add, ← sumTo_mul, Int.add_assoc, ← sumTo_add]
      congr 1
      · show pw s (j + 1) 0 * _ = _
        rw [pw]
        grind
      · exact sumTo_congr m fun i _ => by
          show pw s (j + 1) (i + 1) * _ = _
          rw [pw]
          grind
    have b := pw_add s t j k (m + 1) (by omega)
    have b1 := pw_add s t j k m (by omega)
    rw [e1, b]
    cases k with
    | zero =>
      have e2 : sumTo (fun i => pw s j i * pw t (i + 1) 0) m = t * sumTo (fun i => pw s j i * pw t i 0) m := by
        rw [← sumTo_mul]
        exact sumTo_congr m fun i _ => by
          rw [pw]
          grind
      rw [e2, b1, pw]
      grind
    | succ k =>
      have e2 : sumTo (fun i => pw s j i * pw t (i + 1) (k + 1)) m = t * sumTo (fun i => pw s j i * pw t i (k + 1)) m + sumTo (fun i => pw s j i * pw t i k) m := by
        rw [← sumTo_mul, ← sumTo_add]
        exact sumTo_congr m fun i _ => by
          rw [pw]
          grind
      rw [e2, b1, pw_add s t j k m (by omega), pw]
      grind
theorem shV_shV {s t : Int} {f : Nat → Int} {n k : Nat} : shV t (fun i => shV s f n i) n k = shV (s + t) f n k := by
  have e : shV t (fun i => shV s f n i) n k = sumTo (fun j => f j * sumTo (fun i => pw s j i * pw t i k) n) n := by
    unfold shV
    have z : ∀ i, sumTo (fun j => f j * pw s j i) n * pw t i k = sumTo (fun j => pw t i k * (f j * pw s j i)) n := fun i => by rw [sumTo_mul]; grind
    rw [sumTo_congr n fun i _ => z i, sumTo_swap]
    exact sumTo_congr n fun j _ => by
      rw [← sumTo_mul]
      exact sumTo_congr n fun i _ => by grind
  rw [e]
  unfold shV
  exact sumTo_congr n fun j hj => by rw [pw_add s t j k n hj]
theorem pw_nn {s : Int} (h : 0 ≤ s) : ∀ i k, 0 ≤ pw s i k
  | 0, 0 => by show (0 : Int) ≤ 1; decide
  | 0, _ + 1 => by simp [pw]
  | i + 1, 0 => by rw [pw]; exact Int.mul_nonneg h (pw_nn h i 0)
  | i + 1, k + 1 => by rw [pw]; exact Int.add_nonneg (Int.mul_nonneg h (pw_nn h i (k + 1))) (pw_nn h i k)
theorem pw_up {s : Int} (h : 0 ≤ s) (i k : Nat) : ∀ j, s ^ j * pw s i k ≤ pw s (i + j) k
  | 0 => by rw [Int.pow_zero, Int.one_mul]; exact Int.le_refl _
  | j + 1 => by
    have ih := Int.mul_le_mul_of_nonneg_left (pw_up h i k j) h
    have e : s ^ (j + 1) * pw s i k = s * (s ^ j * pw s i k) := by rw [Int.pow_succ]; grind
    rw [e]
    refine Int.le_trans ih ?_
    show s * pw s (i + j) k ≤ pw s (i + j + 1) k
    cases k with
    | zero => rw [pw]; exact Int.le_refl _
    | succ k =>
      rw [pw]
      have := pw_nn h (i + j) k
      omega
theorem pw_first (s : Int) : ∀ i, pw s i 0 = s ^ i
  | 0 => by rw [Int.pow_zero]; rfl
  | i + 1 => by rw [pw, pw_first s i, Int.pow_succ, Int.mul_comm]
theorem pw_scale (a s : Int) : ∀ i k, pw (a * s) i k * a ^ k = a ^ i * pw s i k
  | 0, 0 => by simp [pw]
  | 0, k + 1 => by simp [pw]
  | i + 1, 0 => by
    have h := pw_scale a s i 0
    rw [Int.pow_zero, Int.mul_one] at *
    rw [pw, pw, h, Int.pow_succ]
    grind
  | i + 1, k + 1 => by
    have h1 := pw_scale a s i (k + 1)
    have h2 := pw_scale a s i k
    rw [pw, pw, Int.add_mul, Int.mul_assoc, h1, Int.pow_succ a k, ← Int.mul_assoc (pw (a * s) i k), h2, Int.pow_succ a i]
    grind
/-- no two coefficients have opposite signs, and the value at 0 is not 0 -/
def StF (g : Nat → Int) : Prop := g 0 ≠ 0 ∧ ((∀ k, 0 ≤ g k) ∨ ∀ k, g k ≤ 0)
theorem StF.congr {f g : Nat → Int} (h : ∀ k, f k = g k) (s : StF f) : StF g := by
  have : f = g := funext h
  rwa [← this]
theorem StF.neg {g : Nat → Int} (h : StF g) : StF fun k => -g k := ⟨fun z => h.1 (by have : -g 0 = 0 := z; omega), by
  rcases h.2 with p | p
  · exact .inr fun k => by have := p k; show -g k ≤ 0; omega
  · exact .inl fun k => by have := p k; show 0 ≤ -g k; omega⟩
theorem shV_neg {s : Int} {f : Nat → Int} {n k : Nat} : shV s (fun i => -f i) n k = -shV s f n k := by
  have e := shV_mul (s := s) (c := -1) (f := f) (n := n) k
  rw [show (fun i => -1 * f i) = (fun i => -f i) from funext fun i => by omega] at e
  omega
theorem sumTo_nn {F : Nat → Int} : ∀ n, (∀ i, i < n → 0 ≤ F i) → 0 ≤ sumTo F n
  | 0, _ => Int.le_refl _
  | n + 1, h => Int.add_nonneg (sumTo_nn n fun i hi => h i (by omega)) (h n (by omega))
theorem st_pos {t : Int} {g : Nat → Int} {n : Nat} (ht : 0 ≤ t) (hz : ∀ i, n ≤ i → g i = 0) (g0 : g 0 ≠ 0) (p : ∀ k, 0 ≤ g k) : StF fun k => shV t g n k := by
  refine ⟨?_, .inl fun k => sumTo_nn n fun i _ => Int.mul_nonneg (p i) (pw_nn ht i k)⟩
  show shV t g n 0 ≠ 0
  cases n with
  | zero => exact absurd (hz 0 (Nat.le_refl _)) g0
  | succ n =>
    unfold shV
    rw [sumTo_first]
    have a := sumTo_nn (F := fun i => g (i + 1) * pw t (i + 1) 0) n fun i _ => Int.mul_nonneg (p _) (pw_nn ht _ 0)
    have b := p 0
    have c : g 0 * pw t 0 0 = g 0 := by show g 0 * 1 = g 0; omega
    rw [c]
    omega
/-- settled from further numbers too -/
theorem StF.more {t : Int} {g : Nat → Int} {n : Nat} (s : StF g) (ht : 0 ≤ t) (hz : ∀ i, n ≤ i → g i = 0) : StF fun k => shV t g n k := by
  rcases s.2 with p | p
  · exact st_pos ht hz s.1 p
  · have z := (st_pos (t := t) (g := fun k => -g k) (n := n) ht (fun i hi => by rw [hz i hi]; rfl) (fun w => s.1 (by omega)) (fun k => by have := p k; omega)).neg
    exact z.congr fun k => by rw [shV_neg]; omega
/-- far away the leading coefficient decides -/
theorem far_pos {f : Nat → Int} {d m : Nat} (fd : 0 < f d) (h : ∀ i, i < d → ((f i).natAbs : Int) ≤ f d * 2 ^ (m * (d - i))) (k : Nat) : f d * pw (2 ^ (m + 1)) d k ≤ shV (2 ^ (m + 1)) f (d + 1) k * 2 ^ d := by
  have s0 : (0 : Int) ≤ 2 ^ (m + 1) := Int.le_of_lt (Int.pow_pos (by decide))
  obtain ⟨s, hs⟩ : ∃ s : Int, s = 2 ^ (m + 1) := ⟨_, rfl⟩
  obtain ⟨M, hM⟩ : ∃ M : Int, M = f d * pw s d k := ⟨_, rfl⟩
  rw [← hs] at s0 ⊢
  rw [← hM]
  have M0 : 0 ≤ M := by rw [hM]; exact Int.mul_nonneg (by omega) (pw_nn s0 d k)
  have one : ∀ i, i < d → ((f i).natAbs : Int) * pw s i k * 2 ^ (d - i) ≤ M := fun i hi => by
    have a := Int.mul_le_mul_of_nonneg_right (h i hi) (pw_nn s0 i k)
    have b := Int.mul_le_mul_of_nonneg_right a (show (0 : Int) ≤ 2 ^ (d - i) from Int.le_of_lt (Int.pow_pos (by decide)))
    refine Int.le_trans b ?_
    have e : f d * 2 ^ (m * (d - i)) * pw s i k * 2 ^ (d - i) = f d * (s ^ (d - i) * pw s i k) := by
      have z : s ^ (d - i) = 2 ^ (m * (d - i)) * 2 ^ (d - i) := by
        rw [hs, ← Int.pow_mul, Nat.add_mul, Nat.one_mul, Int.pow_add]
      rw [z]
      grind
    rw [e, hM]
    have c := pw_up s0 i k (d - i)
    rw [show i + (d - i) = d by omega] at c
    exact Int.mul_le_mul_of_nonneg_left c (by omega)
  have all : ∀ n, n ≤ d → -(M * (2 ^ n - 1)) ≤ sumTo (fun i => f i * pw s i k) n * 2 ^ d := by
    intro n
    induction n with
    | zero => intro _; show -(M * (2 ^ 0 - 1)) ≤ 0 * 2 ^ d; rw [Int.pow_zero]; omega
    | succ n ih =>
      intro hn
      have i1 := ih (by omega)
      have i2 := one n (by omega)
      have i3 := Int.mul_le_mul_of_nonneg_right i2 (show (0 : Int) ≤ 2 ^ n from Int.le_of_lt (Int.pow_pos (by decide)))
      have e : (2 : Int) ^ (d - n) * 2 ^ n = 2 ^ d := by rw [← Int.pow_add]; congr 1; omega
      rw [Int.mul_assoc, e] at i3
      show _ ≤ (sumTo (fun i => f i * pw s i k) n + f n * pw s n k) * 2 ^ d
      rw [Int.add_mul]
      have i4 : -(((f n).natAbs : Int) * pw s n k * 2 ^ d) ≤ f n * pw s n k * 2 ^ d := by
        have p0 := Int.mul_nonneg (pw_nn s0 n k) (show (0 : Int) ≤ 2 ^ d from Int.le_of_lt (Int.pow_pos (by decide)))
        have q : -((f n).natAbs : Int) ≤ f n := by omega
        have r := Int.mul_le_mul_of_nonneg_right q p0
        rw [Int.neg_mul, ← Int.mul_assoc, ← Int.mul_assoc] at r
        exact r
      have e2 : M * (2 ^ (n + 1) - 1) = M * (2 ^ n - 1) + M * 2 ^ n := by rw [Int.pow_succ]; grind
      omega
  have fin := all d (Nat.le_refl _)
  show M ≤ (sumTo (fun i => f i * pw s i k) d + f d * pw s d k) * 2 ^ d
  rw [Int.add_mul, ← hM]
  have e3 : M * (2 ^ d - 1) = M * 2 ^ d - M := by grind
  omega
theorem far_st1 {f : Nat → Int} {d m : Nat} (fd : 0 < f d) (h : ∀ i, i < d → ((f i).natAbs : Int) ≤ f d * 2 ^ (m * (d - i))) : StF fun k => shV (2 ^ (m + 1)) f (d + 1) k := by
  have s0 : (0 : Int) < 2 ^ (m + 1) := Int.pow_pos (by decide)
  have p2 : (0 : Int) < 2 ^ d := Int.pow_pos (by decide)
  refine ⟨fun z => ?_, .inl fun k => ?_⟩
  · have a := far_pos fd h 0
    have z2 : shV (2 ^ (m + 1)) f (d + 1) 0 = 0 := z
    rw [z2, Int.zero_mul, pw_first] at a
    have b := Int.mul_pos fd (show 0 < ((2 : Int) ^ (m + 1)) ^ d from Int.pow_pos s0)
    omega
  · have a := far_pos fd h k
    have b := Int.mul_nonneg (Int.le_of_lt fd) (pw_nn (Int.le_of_lt s0) d k)
    show 0 ≤ shV (2 ^ (m + 1)) f (d + 1) k
    exact nonneg_of_mul (Int.le_trans b a) p2
theorem far_st {f : Nat → Int} {d m : Nat} (fd : f d ≠ 0) (h : ∀ i, i < d → (f i).natAbs ≤ (f d).natAbs * 2 ^ (m * (d - i))) : StF fun k => shV (2 ^ (m + 1)) f (d + 1) k := by
  have c2 : ∀ a b : Nat, ((a * 2 ^ b : Nat) : Int) = (a : Int) * 2 ^ b := fun a b => by rw [Int.natCast_mul, Int.natCast_pow]; rfl
  by_cases c : 0 < f d
  · refine far_st1 c fun i hi => ?_
    have a : ((f i).natAbs : Int) ≤ (((f d).natAbs * 2 ^ (m * (d - i)) : Nat) : Int) := Int.ofNat_le.mpr (h i hi)
    rwa [c2, show ((f d).natAbs : Int) = f d by omega] at a
  · have z := (far_st1 (f := fun i => -f i) (d := d) (m := m) (by omega) fun i hi => by
      have a : ((f i).natAbs : Int) ≤ (((f d).natAbs * 2 ^ (m * (d - i)) : Nat) : Int) := Int.ofNat_le.mpr (h i hi)
      rw [Int.natAbs_neg]
      rwa [c2, show ((f d).natAbs : Int) = -f d by omega] at a).neg
    exact z.congr fun k => by rw [shV_neg]; omega
/-- by the numbers of bits -/
theorem bits_up {c : Int} : c.natAbs < 2 ^ (Builtin.Int.intBits c) := by
  unfold Builtin.Int.intBits
  split
  · rename_i h
    rw [beq_iff_eq] at h
    rw [h]
    decide
  · exact Nat.lt_log2_self
theorem bits_dn {c : Int} (h : c ≠ 0) : 2 ^ (Builtin.Int.intBits c - 1) ≤ c.natAbs ∧ 1 ≤ Builtin.Int.intBits c := by
  unfold Builtin.Int.intBits
  rw [if_neg (by rw [beq_iff_eq]; exact h)]
  refine ⟨?_, by omega⟩
  rw [Nat.add_sub_cancel]
  exact Nat.log2_self_le (by omega)
theorem bits_le {c : Int} {k : Nat} (h : c.natAbs < 2 ^ k) : Builtin.Int.intBits c ≤ k := PyProof.Rows.intBits_le h
theorem ratio_le {x y : Int} {m w : Nat} (hy : y ≠ 0) (w0 : 0 < w) (h : -((((Builtin.Int.intBits y : Nat) : Int) - 1 - ((Builtin.Int.intBits x : Nat) : Int)) / (w : Int)) ≤ (m : Int)) : x.natAbs ≤ y.natAbs * 2 ^ (m * w) := by
  obtain ⟨h1, h2⟩ := bits_dn hy
  have h3 := bits_up (c := x)
  have q := Int.ediv_mul_le (((Builtin.Int.intBits y : Nat) : Int) - 1 - ((Builtin.Int.intBits x : Nat) : Int)) (show (w : Int) ≠ 0 by omega)
  have q2 : -(m : Int) * w ≤ ((((Builtin.Int.intBits y : Nat) : Int) - 1 - ((Builtin.Int.intBits x : Nat) : Int)) / (w : Int)) * w := Int.mul_le_mul_of_nonneg_right (by omega) (by omega)
  have e : -(m : Int) * w = -((m * w : Nat) : Int) := by push_cast; rw [Int.neg_mul]
  rw [e] at q2
  have le : Builtin.Int.intBits x ≤ (Builtin.Int.intBits y - 1) + m * w := by omega
  refine Nat.le_of_lt (Nat.lt_of_lt_of_le h3 (Nat.le_trans (Nat.pow_le_pow_right (by decide) le) ?_))
  rw [Nat.pow_add]
  exact Nat.mul_le_mul_right _ h1
/-- sizes -/
theorem pw_bits {s : Int} {b : Nat} (h : s.natAbs < 2 ^ b) : ∀ i k, (pw s i k).natAbs < 2 ^ ((b + 1) * i + 1)
  | 0, 0 => by show 1 < 2 ^ ((b + 1) * 0 + 1); rw [Nat.mul_zero]; decide
  | 0, _ + 1 => Nat.pow_pos (by decide)
  | i + 1, 0 => by
    rw [pw, Nat.mul_add (b + 1), Nat.mul_one]
    exact abs_mono (abs_lt_mul h (pw_bits h i 0)) (by omega)
  | i + 1, k + 1 => by
    rw [pw, Nat.mul_add (b + 1), Nat.mul_one]
    exact abs_mono (sz_add (abs_lt_mul h (pw_bits h i (k + 1))) (pw_bits h i k)) (by omega)
theorem shV_bits {s : Int} {f : Nat → Int} {kb b n : Nat} (h : s.natAbs < 2 ^ b) (hf : ∀ i, (f i).natAbs < 2 ^ kb) (k : Nat) : (shV s f n k).natAbs < 2 ^ (kb + ((b + 1) * n + 1) + n) := by
  unfold shV
  exact sumTo_bits n fun i hi => abs_lt_mul (hf i) (abs_mono (pw_bits h i k) (by have := Nat.mul_le_mul_left (b + 1) (show i ≤ n by omega); omega))
/-- moved by a power of two, over numbers made larger -/
theorem pow2_move {a : Int} (a0 : a ≠ 0) {f : Nat → Int} {n k : Nat} : shV 1 (fun i => f i * a ^ i) n k = shV a f n k * a ^ k := by
  unfold shV
  rw [← sumTo_mulr]
  exact sumTo_congr n fun i _ => by
    have z := pw_scale a 1 i k
    rw [Int.mul_one] at z
    rw [Int.mul_assoc, ← z, Int.mul_assoc]
end CB

namespace CB.Z
open PySem PySem.Spec PyProof.Rows L2
/-- the reading of a comprehension over enumerate of a list -/
theorem lc_en {K : PySem.W.Frag} {a : Addr} {xs : List V} {g : TG} {tt : TT} {te : TE} {vs : List Nat} {σ : L2.St} {H1 : Hp} {D : Addr} {Qd : Hp → Prop} (Pv : Nat → Hp → Prop) (h0 : Pv 0 (upd H1 D (.lst [])))
    (hq : ∀ i H, Pv i H → SqL K H a xs)
    (hs : ∀ i x T H, xs[i]? = some x → Pv i H → H T = none → g (.ref T) (wipe σ vs) (upd H T (.tup [.int (i : Nat), x])) fun σ2 H2 => wipe σ2 vs = wipe σ vs ∧ tt σ2 H2 fun k H3 =>
      if k = true then te σ2 H3 fun y H4 => ∃ acc, H4 D = some (.lst acc) ∧ acc.length < sizeLine ∧ Pv (i + 1) (upd H4 D (.lst (acc ++ [y]))) else Pv (i + 1) H3)
    (hd : ∀ H, Pv xs.length H → Qd H) :
    ∃ W : Nat → Nat → Hp → Prop, (∃ m, W 0 m (upd H1 D (.lst []))) ∧ ∀ i m H, W i m H →
      ((Ite K a).stop i H ∧ Qd H) ∨ ((Ite K a).go i H ∧ ∃ Nx : Hp → Prop, (∀ H', Nx H' → ∃ m', m' < m ∧ W (i + 1) m' H') ∧
        ∀ x H', (Ite K a).yld i H x H' → g x (wipe σ vs) H' fun σ2 H2 => wipe σ2 vs = wipe σ vs ∧ tt σ2 H2 fun k H3 =>
          if k = true then te σ2 H3 fun y H4 => ∃ acc, H4 D = some (.lst acc) ∧ acc.length < sizeLine ∧ Nx (upd H4 D (.lst (acc ++ [y]))) else Nx H3) := by
  refine ⟨fun i m H => m = xs.length - i ∧ i ≤ xs.length ∧ Pv i H, ⟨_, rfl, Nat.zero_le _, h0⟩, fun i m H hw => ?_⟩
  obtain ⟨rfl, hi, p⟩ := hw
  have qa := hq i H p
  by_cases lt : i < xs.length
  · refine .inr ⟨⟨xs, xs[i], qa, List.getElem?_eq_getElem lt⟩, Pv (i + 1), fun H' p' => ⟨_, by omega, rfl, lt, p'⟩, fun x H' y => ?_⟩
    obtain ⟨T, z, rfl, nT, rfl, hz⟩ := y
    exact hs i z T H (hz xs qa) p nT
  · have e : i = xs.length := by omega
    subst e
    exact .inl ⟨⟨xs, qa, Nat.le_refl _⟩, hd H p⟩
end CB.Z

namespace CB
open PySem PySem.Spec PyProof.Rows L2
/-- a hook that looks its facts up in a tree of the objects -/
def hkT (H : PySem.W.Hook) (ob : PySem.W.SharedT → H.α) (he : ∀ s : PySem.W.SharedT, ob s = H.obs s.abs) : PySem.W.Hook where
  α := Option H.α
  obs := fun s => match HandSHeadRun.treeOf s with
    | some x => HandSHeadRun.frS x fun x => some (ob x)
    | none => none
  val := fun w => some (H.val w)
  says := H.says
  of := fun w s e => by
    have e1 : (match HandSHeadRun.treeOf s with
      | some x => HandSHeadRun.frS x fun x => some (ob x)
      | none => none) = some (H.val w) := e
    cases h : HandSHeadRun.treeOf s with
    | none => rw [h] at e1; cases e1
    | some x =>
      rw [h] at e1
      have e2 : (HandSHeadRun.frS x fun x => some (ob x)) = some (H.val w) := e1
      rw [HandSHeadRun.frS_eq] at e2
      have e3 := Option.some.inj e2
      rw [he, (HandSHeadRun.treeOf_eq h).1] at e3
      exact H.of w s e3
  keeps := H.keeps
end CB

namespace CB
open PySem PySem.Spec PyProof.Rows L2
/-- a list without zeros at its end, with these coefficients -/
structure Tf (zs : List Int) (f : Nat → Int) : Prop where
  at_ : ∀ k, zs.getD k 0 = f k
  tr : zs.length = 0 ∨ zs.getD (zs.length - 1) 0 ≠ 0
theorem Tf.nil {f : Nat → Int} (h : ∀ k, f k = 0) : Tf [] f := ⟨fun k => by rw [h]; rfl, .inl rfl⟩
theorem Tf.self {zs : List Int} {f : Nat → Int} (t : Tf zs f) : Tf zs (ff zs) := ⟨fun _ => rfl, t.tr⟩
theorem Tf.congr {zs : List Int} {f g : Nat → Int} (t : Tf zs f) (h : ∀ k, f k = g k) : Tf zs g := ⟨fun k => by rw [t.at_, h], t.tr⟩
theorem Tf.len {zs : List Int} {f : Nat → Int} {n : Nat} (t : Tf zs f) (h : ∀ k, n ≤ k → f k = 0) : zs.length ≤ n := Decidable.byContradiction fun c => by
  rcases t.tr with z | z
  · omega
  · exact z (by rw [t.at_]; exact h _ (by omega))
theorem Tf.lenE {zs ws : List Int} {f g : Nat → Int} (a : Tf zs f) (b : Tf ws g) (h : ∀ k, f k = 0 ↔ g k = 0) : zs.length = ws.length := by
  have h1 : zs.length ≤ ws.length := a.len fun k hk => by rw [h, ← b.at_]; exact getD_end hk
  have h2 : ws.length ≤ zs.length := b.len fun k hk => by rw [← h, ← a.at_]; exact getD_end hk
  omega
theorem Tf.uniq {zs ws : List Int} {f g : Nat → Int} (a : Tf zs f) (b : Tf ws g) (h : ∀ k, f k = g k) : zs = ws :=
  list_ext (a.lenE b fun k => by rw [h]) fun k => by rw [a.at_, b.at_, h]
theorem Trim.tf {xs : List Int} {n : Nat} (t : Trim xs n) : Tf (xs.take n) (ff xs) := by
  have hl : (xs.take n).length = n := by rw [List.length_take]; have := t.le; omega
  refine ⟨t.take, ?_⟩
  rw [hl, t.take]
  exact t.at_
theorem Pq.tf {cs ks : List Int} {d e : Int} (p : Pq cs d ks e) : Tf ks (ff ks) := ⟨fun _ => rfl, p.last.elim (fun h => .inl (by rw [h]; rfl)) .inr⟩
/-- the size that is found so far -/
structure TrA (xs : List Int) (i n : Nat) : Prop where
  le : n ≤ i
  up : ∀ k, n ≤ k → k < i → xs.getD k 0 = 0
  at_ : n = 0 ∨ xs.getD (n - 1) 0 ≠ 0
theorem TrA.fin {xs : List Int} {n : Nat} (t : TrA xs xs.length n) : Trim xs n := ⟨t.le, fun k hk => if c : k < xs.length then t.up k hk c else getD_end (by omega), t.at_⟩
theorem TrA.yes {xs : List Int} {i n : Nat} (t : TrA xs i n) (h : xs.getD i 0 ≠ 0) : TrA xs (i + 1) (i + 1) := ⟨Nat.le_refl _, fun k h1 h2 => by omega, .inr h⟩
theorem TrA.no {xs : List Int} {i n : Nat} (t : TrA xs i n) (h : xs.getD i 0 = 0) : TrA xs (i + 1) n := ⟨by have := t.le; omega, fun k h1 h2 => by
  by_cases c : k = i
  · rw [c]; exact h
  · exact t.up k h1 (by omega), t.at_⟩
/-- a sum in the making -/
structure SuA (fs xs ys : List Int) (N i j : Nat) : Prop where
  len : fs.length = N
  at_ : ∀ k, fs.getD k 0 = (if k < i then xs.getD k 0 else 0) + if k < j then ys.getD k 0 else 0
theorem SuA.start {xs ys : List Int} {N : Nat} : SuA (List.replicate N 0) xs ys N 0 0 := ⟨List.length_replicate, fun k => by
  rw [List.getD_eq_getElem?_getD, List.getElem?_replicate]
  split <;> rfl⟩
theorem SuA.one {fs xs ys : List Int} {N i : Nat} (m : SuA fs xs ys N i 0) (h : i < N) : SuA (fs.set i (xs.getD i 0)) xs ys N (i + 1) 0 := ⟨by rw [List.length_set, m.len], fun k => by
  rw [getD_set (by rw [m.len]; exact h)]
  by_cases c : k = i
  · subst c
    rw [if_pos rfl, if_pos (show k < k + 1 by omega), if_neg (show ¬ k < 0 by omega)]
    omega
  · rw [if_neg c, m.at_]
    congr 1
    by_cases c2 : k < i
    · rw [if_pos c2, if_pos (by omega)]
    · rw [if_neg c2, if_neg (by omega)]⟩
theorem SuA.two {fs xs ys : List Int} {v : Int} {N i j : Nat} (m : SuA fs xs ys N i j) (h : j < N) (hv : v = fs.getD j 0 + ys.getD j 0) : SuA (fs.set j v) xs ys N i (j + 1) := ⟨by rw [List.length_set, m.len], fun k => by
  rw [getD_set (by rw [m.len]; exact h)]
  by_cases c : k = j
  · subst c
    rw [if_pos rfl, hv, m.at_, if_neg (show ¬ k < k by omega), if_pos (show k < k + 1 by omega)]
    omega
  · rw [if_neg c, m.at_]
    congr 1
    by_cases c2 : k < j
    · rw [if_pos c2, if_pos (by omega)]
    · rw [if_neg c2, if_neg (by omega)]⟩
theorem SuA.fin {fs xs ys : List Int} {N : Nat} (m : SuA fs xs ys N xs.length ys.length) (k : Nat) : fs.getD k 0 = xs.getD k 0 + ys.getD k 0 := by
  rw [m.at_]
  congr 1
  · split
    · rfl
    · rw [getD_end (by omega)]
  · split
    · rfl
    · rw [getD_end (by omega)]
/-! ### coefficients as rational numbers -/
def rv (cs : List Int) (d : Int) (i : Nat) : Rat := ((cs.getD i 0 : Int) : Rat) / ((d : Int) : Rat)
theorem ratc_ne {d : Int} (h : d ≠ 0) : ((d : Int) : Rat) ≠ 0 := by exact_mod_cast h
theorem rv_eq {cs ks : List Int} {d e : Int} {i : Nat} (hd : d ≠ 0) (he : e ≠ 0) : rv cs d i = rv ks e i ↔ cs.getD i 0 * e = ks.getD i 0 * d := by
  have h1 := ratc_ne hd
  have h2 := ratc_ne he
  have key : cs.getD i 0 * e = ks.getD i 0 * d ↔ ((cs.getD i 0 : Int) : Rat) * (e : Rat) = ((ks.getD i 0 : Int) : Rat) * (d : Rat) := by
    rw [← Rat.intCast_mul, ← Rat.intCast_mul, Rat.intCast_inj]
  rw [key]
  unfold rv
  constructor
  · intro h; grind
  · intro h; grind
theorem rv_zero {cs : List Int} {d : Int} {i : Nat} (hd : d ≠ 0) : rv cs d i = 0 ↔ cs.getD i 0 = 0 := by
  have h1 := ratc_ne hd
  have key : cs.getD i 0 = 0 ↔ ((cs.getD i 0 : Int) : Rat) = 0 := by
    rw [← Rat.intCast_zero, Rat.intCast_inj]
  rw [key]
  unfold rv
  constructor
  · intro h; grind
  · intro h; grind
theorem Pq.rv {cs ks : List Int} {d e : Int} (p : Pq cs d ks e) (hd : d ≠ 0) (i : Nat) : rv ks e i = CB.rv cs d i :=
  (rv_eq (by have := p.pos; omega) hd).mpr (p.eq i)
end CB

namespace CB
open PySem PySem.Spec PyProof.Rows L2
def sR (f : Nat → Rat) : Nat → Rat
  | 0 => 0
  | n + 1 => sR f n + f n
theorem sR_congr {f g : Nat → Rat} : ∀ n, (∀ i, i < n → f i = g i) → sR f n = sR g n
  | 0, _ => rfl
  | n + 1, h => by rw [sR, sR, sR_congr n fun i hi => h i (by omega), h n (by omega)]
theorem sR_zero {f : Nat → Rat} : ∀ n, (∀ i, i < n → f i = 0) → sR f n = 0
  | 0, _ => rfl
  | n + 1, h => by rw [sR, sR_zero n fun i hi => h i (by omega), h n (by omega)]; grind
theorem sR_add (f g : Nat → Rat) : ∀ n, sR (fun i => f i + g i) n = sR f n + sR g n
  | 0 => by show (0 : Rat) = 0 + 0; grind
  | n + 1 => by rw [sR, sR, sR, sR_add f g n]; grind
theorem sR_mul (c : Rat) (f : Nat → Rat) : ∀ n, sR (fun i => c * f i) n = c * sR f n
  | 0 => by show (0 : Rat) = c * 0; grind
  | n + 1 => by rw [sR, sR, sR_mul c f n]; grind
theorem sR_one {f : Nat → Rat} {k : Nat} : ∀ n, k < n → (∀ i, i < n → i ≠ k → f i = 0) → sR f n = f k
  | 0, h, _ => absurd h (Nat.not_lt_zero _)
  | n + 1, h, z => by
    rw [sR]
    by_cases c : k = n
    · subst c
      rw [sR_zero k fun i hi => z i (by omega) (by omega)]
      grind
    · rw [sR_one n (by omega) fun i hi ne => z i (by omega) ne, z n (by omega) (by omega)]
      grind
theorem sR_more {f : Nat → Rat} {n : Nat} (h : ∀ i, n ≤ i → f i = 0) : ∀ m, sR f (n + m) = sR f n
  | 0 => rfl
  | m + 1 => by rw [← Nat.add_assoc, sR, sR_more h m, h _ (by omega)]; grind
theorem sR_cast (f : Nat → Int) : ∀ n, ((sumTo f n : Int) : Rat) = sR (fun i => ((f i : Int) : Rat)) n
  | 0 => rfl
  | n + 1 => by rw [sumTo, sR, Rat.intCast_add, sR_cast f n]
/-- the product's coefficient -/
def cR (f g : Nat → Rat) (k : Nat) : Rat := sR (fun i => f i * g (k - i)) (k + 1)
theorem cR_congr {f f' g g' : Nat → Rat} (h1 : ∀ i, f i = f' i) (h2 : ∀ i, g i = g' i) (k : Nat) : cR f g k = cR f' g' k :=
  sR_congr _ fun i _ => by rw [h1, h2]
theorem cR_addl (f f' g : Nat → Rat) (k : Nat) : cR (fun i => f i + f' i) g k = cR f g k + cR f' g k := by
  unfold cR
  rw [← sR_add]
  exact sR_congr _ fun i _ => by grind
theorem cR_addr (f g g' : Nat → Rat) (k : Nat) : cR f (fun i => g i + g' i) k = cR f g k + cR f g' k := by
  unfold cR
  rw [← sR_add]
  exact sR_congr _ fun i _ => by grind
theorem cR_mull (c : Rat) (f g : Nat → Rat) (k : Nat) : cR (fun i => c * f i) g k = c * cR f g k := by
  unfold cR
  rw [← sR_mul]
  exact sR_congr _ fun i _ => by grind
theorem cR_mulr (c : Rat) (f g : Nat → Rat) (k : Nat) : cR f (fun i => c * g i) k = c * cR f g k := by
  unfold cR
  rw [← sR_mul]
  exact sR_congr _ fun i _ => by grind
theorem cR_cast (f g : Nat → Int) (k : Nat) : ((cf f g k : Int) : Rat) = cR (fun i => ((f i : Int) : Rat)) (fun i => ((g i : Int) : Rat)) k := by
  unfold cf cR
  rw [sR_cast]
  exact sR_congr _ fun i _ => by rw [Rat.intCast_mul]
theorem cR_zero {f g : Nat → Rat} {n m k : Nat} (hf : ∀ i, n ≤ i → f i = 0) (hg : ∀ i, m ≤ i → g i = 0) (h : n + m ≤ k + 1) : cR f g k = 0 :=
  sR_zero _ fun i hi => by
    by_cases c : n ≤ i
    · rw [hf i c]; grind
    · rw [hg (k - i) (by omega)]; grind
theorem cR_zl {f g : Nat → Rat} {k : Nat} (hf : ∀ i, f i = 0) : cR f g k = 0 := sR_zero _ fun i _ => by rw [hf i]; grind
theorem cR_zr {f g : Nat → Rat} {k : Nat} (hg : ∀ i, g i = 0) : cR f g k = 0 := sR_zero _ fun i _ => by rw [hg]; grind
theorem cR_top {f g : Nat → Rat} {n m : Nat} (hf : ∀ i, n < i → f i = 0) (hg : ∀ i, m < i → g i = 0) : cR f g (n + m) = f n * g m := by
  unfold cR
  rw [sR_one (k := n) _ (by omega) fun i hi ne => by
    by_cases c : n < i
    · rw [hf i c]; grind
    · rw [hg (n + m - i) (by omega)]; grind]
  rw [show n + m - n = m by omega]
theorem rv_mul {xs ys zs : List Int} {d e : Int} (hd : d ≠ 0) (he : e ≠ 0) (h : ∀ k, zs.getD k 0 = cv xs ys k) (k : Nat) : rv zs (d * e) k = cR (rv xs d) (rv ys e) k := by
  have h1 := ratc_ne hd
  have h2 := ratc_ne he
  have a1 : ∀ i, rv xs d i = (1 / (d : Rat)) * ((ff xs i : Int) : Rat) := fun i => by unfold rv; grind
  have a2 : ∀ i, rv ys e i = (1 / (e : Rat)) * ((ff ys i : Int) : Rat) := fun i => by unfold rv; grind
  rw [cR_congr a1 a2, cR_mull, cR_mulr, ← cR_cast, ← cv_cf, ← h]
  unfold rv
  rw [Rat.intCast_mul]
  grind
/-- n is the degree plus 1 -/
structure Ln (P : Nat → Rat) (n : Nat) : Prop where
  up : ∀ i, n ≤ i → P i = 0
  at_ : n = 0 ∨ P (n - 1) ≠ 0
theorem Ln.congr {P Q : Nat → Rat} {n : Nat} (l : Ln P n) (h : ∀ i, P i = Q i) : Ln Q n := ⟨fun i hi => by rw [← h]; exact l.up i hi, l.at_.imp id fun z w => z (by rw [h]; exact w)⟩
theorem Ln.le {P : Nat → Rat} {n m : Nat} (l : Ln P n) (h : ∀ i, m ≤ i → P i = 0) : n ≤ m := Decidable.byContradiction fun c => by
  rcases l.at_ with z | z
  · omega
  · exact z (h _ (by omega))
theorem Ln.uniq {P : Nat → Rat} {n m : Nat} (a : Ln P n) (b : Ln P m) : n = m := Nat.le_antisymm (a.le b.up) (b.le a.up)
theorem Tf.ln {zs : List Int} {f : Nat → Int} {d : Int} (t : Tf zs f) (hd : d ≠ 0) : Ln (rv zs d) zs.length :=
  ⟨fun i hi => (rv_zero hd).mpr (getD_end hi), t.tr.imp id fun z w => z ((rv_zero hd).mp w)⟩
/-- v is the degree bound for c and for p = a - b and s = a + b -/
def DB (C p s : Nat → Rat) (v : Int) : Prop := ∃ mc mm mt : Nat, Ln C mc ∧ Ln p mm ∧ Ln s mt ∧
  ((mt ≤ mm ∧ v = max (-1) ((mc : Int) - mm)) ∨
   (mm < mt ∧ ((∃ w : Int, (w : Rat) * s (mt - 1) = -2 * (if 2 ≤ mt then p (mt - 2) else 0) ∧ v = max (-1) (max ((mc : Int) - mt + 1) w)) ∨
     ((∀ w : Int, (w : Rat) * s (mt - 1) ≠ -2 * (if 2 ≤ mt then p (mt - 2) else 0)) ∧ v = max (-1) ((mc : Int) - mt + 1)))))
theorem DB.uniq {C p s : Nat → Rat} {v v' : Int} (a : DB C p s v) (b : DB C p s v') : v = v' := by
  obtain ⟨mc, mm, mt, l1, l2, l3, h⟩ := a
  obtain ⟨mc', mm', mt', l1', l2', l3', h'⟩ := b
  cases l1.uniq l1'
  cases l2.uniq l2'
  cases l3.uniq l3'
  rcases h with ⟨h, e⟩ | ⟨h, e⟩ <;> rcases h' with ⟨h', e'⟩ | ⟨h', e'⟩
  · rw [e, e']
  · omega
  · omega
  · have s0 : s (mt - 1) ≠ 0 := l3.at_.resolve_left (by omega)
    rcases e with ⟨w, hw, e⟩ | ⟨hw, e⟩ <;> rcases e' with ⟨w', hw', e'⟩ | ⟨hw', e'⟩
    · have : (w : Rat) = (w' : Rat) := by grind
      rw [Rat.intCast_inj] at this
      rw [e, e', this]
    · exact absurd hw (hw' w)
    · exact absurd hw' (hw w')
    · rw [e, e']
theorem DB.congr {C p s C' p' s' : Nat → Rat} {v : Int} (a : DB C p s v) (h1 : ∀ i, C i = C' i) (h2 : ∀ i, p i = p' i) (h3 : ∀ i, s i = s' i) : DB C' p' s' v := by
  obtain ⟨mc, mm, mt, l1, l2, l3, h⟩ := a
  refine ⟨mc, mm, mt, l1.congr h1, l2.congr h2, l3.congr h3, ?_⟩
  rw [← h2, ← h3]
  exact h
theorem DB.least {A B C x y : Nat → Rat} {v : Int} {m nA nB : Nat} (hA : ∀ i, nA ≤ i → A i = 0) (hB : ∀ i, nB ≤ i → B i = 0) (lx : Ln x (m + 1)) (y0 : ∀ i, m < i → y i = 0) (y1 : y m = x m) (y2 : ∀ j, m = j + 1 → y j = x j + (m : Rat) * x m)
    (hC : ∀ i, C i = cR A y i - cR B x i) (nz : ∃ i, C i ≠ 0) (h : DB C (fun i => A i - B i) (fun i => A i + B i) v) : (m : Int) ≤ v := by
  obtain ⟨mc, mm, mt, l1, l2, l3, h⟩ := h
  have xm : x m ≠ 0 := lx.at_.resolve_left (by omega)
  have x0 : ∀ i, m < i → x i = 0 := fun i hi => lx.up i (by omega)
  have z0 : ∀ i, m ≤ i → y i - x i = 0 := fun i hi => by
    by_cases c : i = m
    · rw [c, y1]; grind
    · rw [y0 i (by omega), x0 i (by omega)]; grind
  have w0 : ∀ i, m < i → y i + x i = 0 := fun i hi => by rw [y0 i hi, x0 i hi]; grind
  have two : ∀ k, 2 * C k = cR (fun i => A i - B i) (fun i => y i + x i) k + cR (fun i => A i + B i) (fun i => y i - x i) k := fun k => by
    rw [hC]
    have e1 : cR (fun i => A i - B i) (fun i => y i + x i) k = cR A y k + cR A x k - cR B y k - cR B x k := by
      have z1 : ∀ i, (fun i => A i - B i) i = (fun i => A i + (-1) * B i) i := fun i => by show A i - B i = A i + (-1) * B i; grind
      rw [cR_congr z1 (fun _ => rfl), cR_addl, cR_addr, cR_addr, cR_mull, cR_mull]
      grind
    have e2 : cR (fun i => A i + B i) (fun i => y i - x i) k = cR A y k - cR A x k + cR B y k - cR B x k := by
      have z1 : ∀ i, (fun i => y i - x i) i = (fun i => y i + (-1) * x i) i := fun i => by show y i - x i = y i + (-1) * x i; grind
      rw [cR_congr (fun _ => rfl) z1, cR_addl, cR_addr, cR_addr, cR_mulr, cR_mulr]
      grind
    rw [e1, e2]
    grind
  generalize hp : (fun i => A i - B i) = p at *
  generalize hs : (fun i => A i + B i) = s at *
  have half : ∀ k, cR p (fun i => y i + x i) k + cR s (fun i => y i - x i) k = 0 → C k = 0 := fun k e => by
    have := two k
    grind
  have halfn : ∀ k, cR p (fun i => y i + x i) k + cR s (fun i => y i - x i) k ≠ 0 → C k ≠ 0 := fun k e w => e (by rw [← two, w]; grind)
  rcases h with ⟨h, e⟩ | ⟨h, e⟩
  · -- the degree of p is the greater one
    by_cases c : mm = 0
    · obtain ⟨i, hi⟩ := nz
      refine absurd (half i ?_) hi
      rw [cR_zl fun j => l2.up j (by omega), cR_zl fun j => l3.up j (by omega)]
      grind
    · obtain ⟨a, rfl⟩ : ∃ a, mm = a + 1 := ⟨mm - 1, by omega⟩
      have pa : p a ≠ 0 := l2.at_.resolve_left (by omega)
      have lc : Ln C (a + m + 1) := by
        refine ⟨fun i hi => half i ?_, .inr (halfn _ ?_)⟩
        · rw [cR_zero (n := a + 1) (m := m + 1) l2.up (fun j hj => w0 j (by omega)) (by omega), cR_zero (n := a + 1) (m := m) (fun j hj => l3.up j (by omega)) z0 (by omega)]
          grind
        · rw [show a + m + 1 - 1 = a + m by omega, cR_top (n := a) (m := m) (fun j hj => l2.up j (by omega)) w0, cR_zero (n := a + 1) (m := m) (fun j hj => l3.up j (by omega)) z0 (by omega), y1]
          intro z
          have : p a * x m = 0 := by grind
          grind
      cases l1.uniq lc
      omega
  · obtain ⟨t, rfl⟩ : ∃ t, mt = t + 1 := ⟨mt - 1, by omega⟩
    have st : s t ≠ 0 := l3.at_.resolve_left (by omega)
    have s0 : ∀ i, t < i → s i = 0 := fun i hi => l3.up i (by omega)
    have pt : ∀ i, t ≤ i → p i = 0 := fun i hi => l2.up i (by omega)
    have bound : (mc : Int) - ((t + 1 : Nat) : Int) + 1 ≤ v := by
      rcases e with ⟨w, _, e⟩ | ⟨_, e⟩ <;> omega
    -- the coefficient at t + m - 1
    have zm : ∀ j, m = j + 1 → y j - x j = (m : Rat) * x m := fun j hj => by rw [y2 j hj]; grind
    have zz : ∀ j, m = j + 1 → ∀ i, j < i → y i - x i = 0 := fun j hj i hi => z0 i (by omega)
    have above : ∀ i, t + m ≤ i → C i = 0 := fun i hi => half i (by
      rw [cR_zero (n := t) (m := m + 1) pt (fun j hj => w0 j (by omega)) (by omega), cR_zero (n := t + 1) (m := m) (fun j hj => s0 j (by omega)) z0 (by omega)]
      grind)
    by_cases c : t + m = 0
    · obtain ⟨i, hi⟩ := nz
      exact absurd (above i (by omega)) hi
    have key : cR p (fun i => y i + x i) (t + m - 1) + cR s (fun i => y i - x i) (t + m - 1) = x m * (2 * (if 2 ≤ t + 1 then p (t + 1 - 2) else 0) + (m : Rat) * s t) := by
      have k1 : cR p (fun i => y i + x i) (t + m - 1) = x m * (2 * (if 2 ≤ t + 1 then p (t + 1 - 2) else 0)) := by
        by_cases c1 : t = 0
        · subst c1
          rw [cR_zl fun j => pt j (by omega), if_neg (by omega)]
          grind
        · obtain ⟨u, rfl⟩ : ∃ u, t = u + 1 := ⟨t - 1, by omega⟩
          rw [show u + 1 + m - 1 = u + m by omega, cR_top (n := u) (m := m) (fun j hj => pt j (by omega)) w0, if_pos (by omega), show u + 1 + 1 - 2 = u by omega, y1]
          grind
      have k2 : cR s (fun i => y i - x i) (t + m - 1) = x m * ((m : Rat) * s t) := by
        by_cases c1 : m = 0
        · subst c1
          rw [cR_zr fun j => z0 j (by omega)]
          have : ((0 : Nat) : Rat) = 0 := rfl
          grind
        · obtain ⟨u, hu⟩ : ∃ u, m = u + 1 := ⟨m - 1, by omega⟩
          rw [show t + m - 1 = t + u by omega, cR_top (n := t) (m := u) s0 (zz u hu), zm u hu]
          grind
      rw [k1, k2]
      grind
    by_cases c2 : 2 * (if 2 ≤ t + 1 then p (t + 1 - 2) else 0) + (m : Rat) * s t = 0
    · rcases e with ⟨w, hw, e⟩ | ⟨hw, e⟩
      · rw [show t + 1 - 1 = t by omega] at hw
        have : (w : Rat) = (((m : Nat) : Int) : Rat) := by
          have h2 : (((m : Nat) : Int) : Rat) = (m : Rat) := rfl
          rw [h2]
          have : ((w : Rat) - (m : Rat)) * s t = 0 := by grind
          grind
        rw [Rat.intCast_inj] at this
        omega
      · refine absurd ?_ (hw (m : Int))
        rw [show t + 1 - 1 = t by omega]
        have h2 : (((m : Nat) : Int) : Rat) = (m : Rat) := rfl
        rw [h2]
        grind
    · have lc : Ln C (t + m) := by
        refine ⟨above, .inr (halfn _ ?_)⟩
        rw [key]
        intro z
        grind
      cases l1.uniq lc
      omega
theorem pw_diag (s : Int) : ∀ i, pw s i i = 1
  | 0 => rfl
  | i + 1 => by
    show s * pw s i (i + 1) + pw s i i = 1
    rw [pw_diag s i, pw_high s i (i + 1) (by omega)]
    omega
theorem pw_near (s : Int) : ∀ i, pw s (i + 1) i = ((i : Int) + 1) * s
  | 0 => by show s * 1 = _; simp
  | i + 1 => by
    show s * pw s (i + 1) (i + 1) + pw s (i + 1) i = _
    rw [pw_near s i, pw_diag s (i + 1)]
    push_cast
    grind
theorem IsSh.top {s : Int} {zs cs : List Int} (h : IsSh s zs cs) {m : Nat} (hl : cs.length = m + 1) : zs.getD m 0 = cs.getD m 0 ∧ ∀ j, m = j + 1 → zs.getD j 0 = cs.getD j 0 + (m : Int) * s * cs.getD m 0 := by
  constructor
  · rw [h.at_, hl]
    unfold shV
    rw [sumTo_one (k := m) _ (by omega) fun i hi ne => by rw [pw_high s i m (by omega), Int.mul_zero], pw_diag, Int.mul_one]
  · intro j hj
    subst hj
    rw [h.at_, hl]
    unfold shV
    rw [sumTo, sumTo_one (k := j) _ (by omega) fun i hi ne => by rw [pw_high s i j (by omega), Int.mul_zero], pw_diag, pw_near]
    push_cast
    grind
end CB

namespace CB
open PySem PySem.Spec PyProof.Rows L2 CB.Z
local macro_rules | `(tactic| walk_at "cb sz") => `(tactic| first
  | assumption
  | (apply abs_lt_mul <;> walk_at "cb sz")
  | (apply sz_add <;> walk_at "cb sz")
  | (apply sz_sub <;> walk_at "cb sz")
  | (apply sz_neg <;> walk_at "cb sz")
  | (show _ < 2 ^ 64; decide)
  | (show _ < 2 ^ 128; decide)
  | (show _ < 2 ^ 144; decide)
  | (show _ < 2 ^ 250; decide))
local macro_rules | `(tactic| walk_at "cb size") => `(tactic| (apply abs_mono <;> first | walk_at "cb sz" | decide))
local macro_rules | `(tactic| walk_at "cb mul") => `(tactic| (apply mulW <;> first | walk_at "cb sz" | decide))
local macro_rules | `(tactic| walk_at "cb ne") => `(tactic| first
  | omega
  | (apply Int.mul_ne_zero <;> walk_at "cb ne"))
def top (i : Nat) : Stmt := PySem.Challenge.pw_certsums_k41_degree_bound.main.body.getD i (.Pass ⟨0, 0, 0, 0⟩)
abbrev mth (i j : Nat) : Stmt := inClass (top i) j
abbrev s__law_cell : Stmt := top 31
abbrev N__law_cell : List Str := ["script", "k"]
theorem sc__law_cell : FnScope N__law_cell ["script", "k"] (defScope s__law_cell) := ⟨rfl, rfl, rfl, by decide +kernel, rfl, by decide +kernel, by decide +kernel⟩
abbrev d__law_cell : DefG := ⟨fun K => He.fAd K ("_law_cell", none), "_law_cell", "_law_cell", defArgs s__law_cell, defBody s__law_cell, defScope s__law_cell, []⟩
abbrev s__law_digits : Stmt := top 32
abbrev N__law_digits : List Str := ["cell", "limit", "count", "rest", "whole", "found", "k", "mixed"]
theorem sc__law_digits : FnScope N__law_digits ["cell", "limit", "count"] (defScope s__law_digits) := ⟨rfl, rfl, rfl, by decide +kernel, rfl, by decide +kernel, by decide +kernel⟩
abbrev d__law_digits : DefG := ⟨fun K => He.fAd K ("_law_digits", none), "_law_digits", "_law_digits", defArgs s__law_digits, defBody s__law_digits, defScope s__law_digits, []⟩
abbrev s__law_trim : Stmt := top 33
abbrev N__law_trim : List Str := ["xs", "size", "k"]
theorem sc__law_trim : FnScope N__law_trim ["xs"] (defScope s__law_trim) := ⟨rfl, rfl, rfl, by decide +kernel, rfl, by decide +kernel, by decide +kernel⟩
abbrev d__law_trim : DefG := ⟨fun K => He.fAd K ("_law_trim", none), "_law_trim", "_law_trim", defArgs s__law_trim, defBody s__law_trim, defScope s__law_trim, []⟩
abbrev s__law_draw : Stmt := top 48
abbrev N__law_draw : List Str := ["cell", "most", "ds", "coefs", "d"]
theorem sc__law_draw : FnScope N__law_draw ["cell", "most"] (defScope s__law_draw) := ⟨rfl, rfl, rfl, by decide +kernel, rfl, by decide +kernel, by decide +kernel⟩
abbrev d__law_draw : DefG := ⟨fun K => He.fAd K ("_law_draw", none), "_law_draw", "_law_draw", defArgs s__law_draw, defBody s__law_draw, defScope s__law_draw, []⟩
abbrev s__law_scale : Stmt := top 36
abbrev N__law_scale : List Str := ["xs", "factor", "x"]
theorem sc__law_scale : FnScope N__law_scale ["xs", "factor"] (defScope s__law_scale) := ⟨rfl, rfl, rfl, by decide +kernel, rfl, by decide +kernel, by decide +kernel⟩
abbrev d__law_scale : DefG := ⟨fun K => He.fAd K ("_law_scale", none), "_law_scale", "_law_scale", defArgs s__law_scale, defBody s__law_scale, defScope s__law_scale, []⟩
abbrev s__law_sum : Stmt := top 35
abbrev N__law_sum : List Str := ["xs", "ys", "found", "i", "j", "k"]
theorem sc__law_sum : FnScope N__law_sum ["xs", "ys"] (defScope s__law_sum) := ⟨rfl, rfl, rfl, by decide +kernel, rfl, by decide +kernel, by decide +kernel⟩
abbrev d__law_sum : DefG := ⟨fun K => He.fAd K ("_law_sum", none), "_law_sum", "_law_sum", defArgs s__law_sum, defBody s__law_sum, defScope s__law_sum, []⟩
abbrev s__law_back : Stmt := top 49
abbrev N__law_back : List Str := ["a", "cell", "style", "lower", "k"]
theorem sc__law_back : FnScope N__law_back ["a", "cell", "style"] (defScope s__law_back) := ⟨rfl, rfl, rfl, by decide +kernel, rfl, by decide +kernel, by decide +kernel⟩
abbrev d__law_back : DefG := ⟨fun K => He.fAd K ("_law_back", none), "_law_back", "_law_back", defArgs s__law_back, defBody s__law_back, defScope s__law_back, []⟩
abbrev s__law_shift : Stmt := top 38
abbrev N__law_shift : List Str := ["xs", "step", "found", "i", "j"]
theorem sc__law_shift : FnScope N__law_shift ["xs", "step"] (defScope s__law_shift) := ⟨rfl, rfl, rfl, by decide +kernel, rfl, by decide +kernel, by decide +kernel⟩
abbrev d__law_shift : DefG := ⟨fun K => He.fAd K ("_law_shift", none), "_law_shift", "_law_shift", defArgs s__law_shift, defBody s__law_shift, defScope s__law_shift, []⟩
abbrev s__law_move : Stmt := top 39
abbrev N__law_move : List Str := ["part", "step"]
theorem sc__law_move : FnScope N__law_move ["part", "step"] (defScope s__law_move) := ⟨rfl, rfl, rfl, by decide +kernel, rfl, by decide +kernel, by decide +kernel⟩
abbrev d__law_move : DefG := ⟨fun K => He.fAd K ("_law_move", none), "_law_move", "_law_move", defArgs s__law_move, defBody s__law_move, defScope s__law_move, []⟩
abbrev s__law_mul : Stmt := top 34
abbrev N__law_mul : List Str := ["xs", "ys", "found", "i", "j", "k"]
theorem sc__law_mul : FnScope N__law_mul ["xs", "ys"] (defScope s__law_mul) := ⟨rfl, rfl, rfl, by decide +kernel, rfl, by decide +kernel, by decide +kernel⟩
abbrev d__law_mul : DefG := ⟨fun K => He.fAd K ("_law_mul", none), "_law_mul", "_law_mul", defArgs s__law_mul, defBody s__law_mul, defScope s__law_mul, []⟩
abbrev s__law_times : Stmt := top 40
abbrev N__law_times : List Str := ["a", "b"]
theorem sc__law_times : FnScope N__law_times ["a", "b"] (defScope s__law_times) := ⟨rfl, rfl, rfl, by decide +kernel, rfl, by decide +kernel, by decide +kernel⟩
abbrev d__law_times : DefG := ⟨fun K => He.fAd K ("_law_times", none), "_law_times", "_law_times", defArgs s__law_times, defBody s__law_times, defScope s__law_times, []⟩
abbrev s__law_plus : Stmt := top 41
abbrev N__law_plus : List Str := ["a", "b"]
theorem sc__law_plus : FnScope N__law_plus ["a", "b"] (defScope s__law_plus) := ⟨rfl, rfl, rfl, by decide +kernel, rfl, by decide +kernel, by decide +kernel⟩
abbrev d__law_plus : DefG := ⟨fun K => He.fAd K ("_law_plus", none), "_law_plus", "_law_plus", defArgs s__law_plus, defBody s__law_plus, defScope s__law_plus, []⟩
abbrev s__law_minus : Stmt := top 42
abbrev N__law_minus : List Str := ["a", "b"]
theorem sc__law_minus : FnScope N__law_minus ["a", "b"] (defScope s__law_minus) := ⟨rfl, rfl, rfl, by decide +kernel, rfl, by decide +kernel, by decide +kernel⟩
abbrev d__law_minus : DefG := ⟨fun K => He.fAd K ("_law_minus", none), "_law_minus", "_law_minus", defArgs s__law_minus, defBody s__law_minus, defScope s__law_minus, []⟩
abbrev s_trimmed : Stmt := top 11
abbrev N_trimmed : List Str := ["coefs", "length"]
theorem sc_trimmed : FnScope N_trimmed ["coefs"] (defScope s_trimmed) := ⟨rfl, rfl, rfl, by decide +kernel, rfl, by decide +kernel, by decide +kernel⟩
abbrev d_trimmed : DefG := ⟨fun K => He.fAd K ("trimmed", none), "trimmed", "trimmed", defArgs s_trimmed, defBody s_trimmed, defScope s_trimmed, []⟩
abbrev s_common_factor : Stmt := top 10
abbrev N_common_factor : List Str := ["numbers", "found", "number"]
theorem sc_common_factor : FnScope N_common_factor ["numbers"] (defScope s_common_factor) := ⟨rfl, rfl, rfl, by decide +kernel, rfl, by decide +kernel, by decide +kernel⟩
abbrev d_common_factor : DefG := ⟨fun K => He.fAd K ("common_factor", none), "common_factor", "common_factor", defArgs s_common_factor, defBody s_common_factor, defScope s_common_factor, []⟩
abbrev s_Poly___init__ : Stmt := mth 28 0
abbrev N_Poly___init__ : List Str := ["self", "coefs", "den", "kept", "common", "c"]
theorem sc_Poly___init__ : FnScope N_Poly___init__ ["self", "coefs", "den"] (defScope s_Poly___init__) := ⟨rfl, rfl, rfl, by decide +kernel, rfl, by decide +kernel, by decide +kernel⟩
abbrev d_Poly___init__ : DefG := ⟨fun K => He.fAd K ("Poly", some "__init__"), "__init__", "Poly.__init__", defArgs s_Poly___init__, defBody s_Poly___init__, defScope s_Poly___init__, [.int 1]⟩
abbrev s__law_poly : Stmt := top 44
abbrev N__law_poly : List Str := ["part"]
theorem sc__law_poly : FnScope N__law_poly ["part"] (defScope s__law_poly) := ⟨rfl, rfl, rfl, by decide +kernel, rfl, by decide +kernel, by decide +kernel⟩
abbrev d__law_poly : DefG := ⟨fun K => He.fAd K ("_law_poly", none), "_law_poly", "_law_poly", defArgs s__law_poly, defBody s__law_poly, defScope s__law_poly, []⟩
abbrev s_Poly_is_zero : Stmt := mth 28 7
abbrev N_Poly_is_zero : List Str := ["self"]
theorem sc_Poly_is_zero : FnScope N_Poly_is_zero ["self"] (defScope s_Poly_is_zero) := ⟨rfl, rfl, rfl, by decide +kernel, rfl, by decide +kernel, by decide +kernel⟩
abbrev d_Poly_is_zero : DefG := ⟨fun K => gtAd K (He.ga K "Poly") "is_zero", "is_zero", "Poly.is_zero", defArgs s_Poly_is_zero, defBody s_Poly_is_zero, defScope s_Poly_is_zero, []⟩
abbrev s_shifted_coefs : Stmt := top 14
abbrev N_shifted_coefs : List Str := ["coefs", "step", "found", "last", "i", "j"]
theorem sc_shifted_coefs : FnScope N_shifted_coefs ["coefs", "step"] (defScope s_shifted_coefs) := ⟨rfl, rfl, rfl, by decide +kernel, rfl, by decide +kernel, by decide +kernel⟩
abbrev d_shifted_coefs : DefG := ⟨fun K => He.fAd K ("shifted_coefs", none), "shifted_coefs", "shifted_coefs", defArgs s_shifted_coefs, defBody s_shifted_coefs, defScope s_shifted_coefs, []⟩
abbrev s_Poly_shifted : Stmt := mth 28 13
abbrev N_Poly_shifted : List Str := ["self", "step"]
theorem sc_Poly_shifted : FnScope N_Poly_shifted ["self", "step"] (defScope s_Poly_shifted) := ⟨rfl, rfl, rfl, by decide +kernel, rfl, by decide +kernel, by decide +kernel⟩
abbrev d_Poly_shifted : DefG := ⟨fun K => He.fAd K ("Poly", some "shifted"), "shifted", "Poly.shifted", defArgs s_Poly_shifted, defBody s_Poly_shifted, defScope s_Poly_shifted, []⟩
abbrev s_Poly___neg__ : Stmt := mth 28 5
abbrev N_Poly___neg__ : List Str := ["self", "c"]
theorem sc_Poly___neg__ : FnScope N_Poly___neg__ ["self"] (defScope s_Poly___neg__) := ⟨rfl, rfl, rfl, by decide +kernel, rfl, by decide +kernel, by decide +kernel⟩
abbrev d_Poly___neg__ : DefG := ⟨fun K => He.fAd K ("Poly", some "__neg__"), "__neg__", "Poly.__neg__", defArgs s_Poly___neg__, defBody s_Poly___neg__, defScope s_Poly___neg__, []⟩
abbrev s__coefs_over : Stmt := top 29
abbrev N__coefs_over : List Str := ["p", "den", "scale", "c"]
theorem sc__coefs_over : FnScope N__coefs_over ["p", "den"] (defScope s__coefs_over) := ⟨rfl, rfl, rfl, by decide +kernel, rfl, by decide +kernel, by decide +kernel⟩
abbrev d__coefs_over : DefG := ⟨fun K => He.fAd K ("_coefs_over", none), "_coefs_over", "_coefs_over", defArgs s__coefs_over, defBody s__coefs_over, defScope s__coefs_over, []⟩
abbrev s_added : Stmt := top 15
abbrev N_added : List Str := ["first", "second", "x", "y"]
theorem sc_added : FnScope N_added ["first", "second"] (defScope s_added) := ⟨rfl, rfl, rfl, by decide +kernel, rfl, by decide +kernel, by decide +kernel⟩
abbrev d_added : DefG := ⟨fun K => He.fAd K ("added", none), "added", "added", defArgs s_added, defBody s_added, defScope s_added, []⟩
abbrev s_Poly___add__ : Stmt := mth 28 2
abbrev N_Poly___add__ : List Str := ["self", "other", "den"]
theorem sc_Poly___add__ : FnScope N_Poly___add__ ["self", "other"] (defScope s_Poly___add__) := ⟨rfl, rfl, rfl, by decide +kernel, rfl, by decide +kernel, by decide +kernel⟩
abbrev d_Poly___add__ : DefG := ⟨fun K => He.fAd K ("Poly", some "__add__"), "__add__", "Poly.__add__", defArgs s_Poly___add__, defBody s_Poly___add__, defScope s_Poly___add__, []⟩
abbrev s_Poly___sub__ : Stmt := mth 28 3
abbrev N_Poly___sub__ : List Str := ["self", "other"]
theorem sc_Poly___sub__ : FnScope N_Poly___sub__ ["self", "other"] (defScope s_Poly___sub__) := ⟨rfl, rfl, rfl, by decide +kernel, rfl, by decide +kernel, by decide +kernel⟩
abbrev d_Poly___sub__ : DefG := ⟨fun K => He.fAd K ("Poly", some "__sub__"), "__sub__", "Poly.__sub__", defArgs s_Poly___sub__, defBody s_Poly___sub__, defScope s_Poly___sub__, []⟩
abbrev s_Poly_degree : Stmt := mth 28 6
abbrev N_Poly_degree : List Str := ["self"]
theorem sc_Poly_degree : FnScope N_Poly_degree ["self"] (defScope s_Poly_degree) := ⟨rfl, rfl, rfl, by decide +kernel, rfl, by decide +kernel, by decide +kernel⟩
abbrev d_Poly_degree : DefG := ⟨fun K => gtAd K (He.ga K "Poly") "degree", "degree", "Poly.degree", defArgs s_Poly_degree, defBody s_Poly_degree, defScope s_Poly_degree, []⟩
abbrev s_Fraction___init__ : Stmt := mth 23 0
abbrev N_Fraction___init__ : List Str := ["self", "num", "den", "common"]
theorem sc_Fraction___init__ : FnScope N_Fraction___init__ ["self", "num", "den"] (defScope s_Fraction___init__) := ⟨rfl, rfl, rfl, by decide +kernel, rfl, by decide +kernel, by decide +kernel⟩
abbrev d_Fraction___init__ : DefG := ⟨fun K => He.fAd K ("Fraction", some "__init__"), "__init__", "Fraction.__init__", defArgs s_Fraction___init__, defBody s_Fraction___init__, defScope s_Fraction___init__, [.int 1]⟩
abbrev s_Poly_coefficient : Stmt := mth 28 9
abbrev N_Poly_coefficient : List Str := ["self", "index"]
theorem sc_Poly_coefficient : FnScope N_Poly_coefficient ["self", "index"] (defScope s_Poly_coefficient) := ⟨rfl, rfl, rfl, by decide +kernel, rfl, by decide +kernel, by decide +kernel⟩
abbrev d_Poly_coefficient : DefG := ⟨fun K => He.fAd K ("Poly", some "coefficient"), "coefficient", "Poly.coefficient", defArgs s_Poly_coefficient, defBody s_Poly_coefficient, defScope s_Poly_coefficient, []⟩
abbrev s_Poly_lead : Stmt := mth 28 8
abbrev N_Poly_lead : List Str := ["self"]
theorem sc_Poly_lead : FnScope N_Poly_lead ["self"] (defScope s_Poly_lead) := ⟨rfl, rfl, rfl, by decide +kernel, rfl, by decide +kernel, by decide +kernel⟩
abbrev d_Poly_lead : DefG := ⟨fun K => gtAd K (He.ga K "Poly") "lead", "lead", "Poly.lead", defArgs s_Poly_lead, defBody s_Poly_lead, defScope s_Poly_lead, []⟩
abbrev s_Fraction_is_zero : Stmt := mth 23 6
abbrev N_Fraction_is_zero : List Str := ["self"]
theorem sc_Fraction_is_zero : FnScope N_Fraction_is_zero ["self"] (defScope s_Fraction_is_zero) := ⟨rfl, rfl, rfl, by decide +kernel, rfl, by decide +kernel, by decide +kernel⟩
abbrev d_Fraction_is_zero : DefG := ⟨fun K => gtAd K (He.ga K "Fraction") "is_zero", "is_zero", "Fraction.is_zero", defArgs s_Fraction_is_zero, defBody s_Fraction_is_zero, defScope s_Fraction_is_zero, []⟩
abbrev s__in_lowest_terms : Stmt := top 24
abbrev N__in_lowest_terms : List Str := ["num", "den", "made"]
theorem sc__in_lowest_terms : FnScope N__in_lowest_terms ["num", "den"] (defScope s__in_lowest_terms) := ⟨rfl, rfl, rfl, by decide +kernel, rfl, by decide +kernel, by decide +kernel⟩
abbrev d__in_lowest_terms : DefG := ⟨fun K => He.fAd K ("_in_lowest_terms", none), "_in_lowest_terms", "_in_lowest_terms", defArgs s__in_lowest_terms, defBody s__in_lowest_terms, defScope s__in_lowest_terms, []⟩
abbrev s_Fraction___mul__ : Stmt := mth 23 4
abbrev N_Fraction___mul__ : List Str := ["self", "other", "left", "right", "num"]
theorem sc_Fraction___mul__ : FnScope N_Fraction___mul__ ["self", "other"] (defScope s_Fraction___mul__) := ⟨rfl, rfl, rfl, by decide +kernel, rfl, by decide +kernel, by decide +kernel⟩
abbrev d_Fraction___mul__ : DefG := ⟨fun K => He.fAd K ("Fraction", some "__mul__"), "__mul__", "Fraction.__mul__", defArgs s_Fraction___mul__, defBody s_Fraction___mul__, defScope s_Fraction___mul__, []⟩
abbrev s_Fraction_over : Stmt := mth 23 8
abbrev N_Fraction_over : List Str := ["self", "other"]
theorem sc_Fraction_over : FnScope N_Fraction_over ["self", "other"] (defScope s_Fraction_over) := ⟨rfl, rfl, rfl, by decide +kernel, rfl, by decide +kernel, by decide +kernel⟩
abbrev d_Fraction_over : DefG := ⟨fun K => He.fAd K ("Fraction", some "over"), "over", "Fraction.over", defArgs s_Fraction_over, defBody s_Fraction_over, defScope s_Fraction_over, []⟩
abbrev s_Fraction_is_whole : Stmt := mth 23 7
abbrev N_Fraction_is_whole : List Str := ["self"]
theorem sc_Fraction_is_whole : FnScope N_Fraction_is_whole ["self"] (defScope s_Fraction_is_whole) := ⟨rfl, rfl, rfl, by decide +kernel, rfl, by decide +kernel, by decide +kernel⟩
abbrev d_Fraction_is_whole : DefG := ⟨fun K => gtAd K (He.ga K "Fraction") "is_whole", "is_whole", "Fraction.is_whole", defArgs s_Fraction_is_whole, defBody s_Fraction_is_whole, defScope s_Fraction_is_whole, []⟩
abbrev s_degree_bound : Stmt := top 26
abbrev N_degree_bound : List Str := ["a", "b", "c", "below", "difference", "total", "bound", "other"]
theorem sc_degree_bound : FnScope N_degree_bound ["a", "b", "c"] (defScope s_degree_bound) := ⟨rfl, rfl, rfl, by decide +kernel, rfl, by decide +kernel, by decide +kernel⟩
abbrev d_degree_bound : DefG := ⟨fun K => He.fAd K ("degree_bound", none), "degree_bound", "degree_bound", defArgs s_degree_bound, defBody s_degree_bound, defScope s_degree_bound, []⟩
abbrev s__law_is_whole : Stmt := top 45
abbrev N__law_is_whole : List Str := ["x"]
theorem sc__law_is_whole : FnScope N__law_is_whole ["x"] (defScope s__law_is_whole) := ⟨rfl, rfl, rfl, by decide +kernel, rfl, by decide +kernel, by decide +kernel⟩
abbrev d__law_is_whole : DefG := ⟨fun K => He.fAd K ("_law_is_whole", none), "_law_is_whole", "_law_is_whole", defArgs s__law_is_whole, defBody s__law_is_whole, defScope s__law_is_whole, []⟩
abbrev s__law_bound : Stmt := top 47
abbrev N__law_bound : List Str := ["a", "b", "c", "back", "difference", "total", "bound", "below", "top", "lead"]
theorem sc__law_bound : FnScope N__law_bound ["a", "b", "c"] (defScope s__law_bound) := ⟨rfl, rfl, rfl, by decide +kernel, rfl, by decide +kernel, by decide +kernel⟩
abbrev d__law_bound : DefG := ⟨fun K => He.fAd K ("_law_bound", none), "_law_bound", "_law_bound", defArgs s__law_bound, defBody s__law_bound, defScope s__law_bound, []⟩
abbrev s__law_read : Stmt := top 46
abbrev N__law_read : List Str := ["p", "x"]
theorem sc__law_read : FnScope N__law_read ["p"] (defScope s__law_read) := ⟨rfl, rfl, rfl, by decide +kernel, rfl, by decide +kernel, by decide +kernel⟩
abbrev d__law_read : DefG := ⟨fun K => He.fAd K ("_law_read", none), "_law_read", "_law_read", defArgs s__law_read, defBody s__law_read, defScope s__law_read, []⟩
abbrev s__law_alike : Stmt := top 43
abbrev N__law_alike : List Str := ["a", "b"]
theorem sc__law_alike : FnScope N__law_alike ["a", "b"] (defScope s__law_alike) := ⟨rfl, rfl, rfl, by decide +kernel, rfl, by decide +kernel, by decide +kernel⟩
abbrev d__law_alike : DefG := ⟨fun K => He.fAd K ("_law_alike", none), "_law_alike", "_law_alike", defArgs s__law_alike, defBody s__law_alike, defScope s__law_alike, []⟩
abbrev s__law_refused : Stmt := top 50
abbrev N__law_refused : List Str := ["a", "b", "c", "e"]
theorem sc__law_refused : FnScope N__law_refused ["a", "b", "c"] (defScope s__law_refused) := ⟨rfl, rfl, rfl, by decide +kernel, rfl, by decide +kernel, by decide +kernel⟩
abbrev d__law_refused : DefG := ⟨fun K => He.fAd K ("_law_refused", none), "_law_refused", "_law_refused", defArgs s__law_refused, defBody s__law_refused, defScope s__law_refused, []⟩
abbrev s_law : Stmt := top 51
abbrev N_law : List Str := ["script", "choices", "style", "a", "b", "c", "least", "x", "image", "handed", "actual", "zero"]
theorem sc_law : FnScope N_law ["script"] (defScope s_law) := ⟨rfl, rfl, rfl, by decide +kernel, rfl, by decide +kernel, by decide +kernel⟩
abbrev d_law : DefG := ⟨fun K => He.fAd K ("law", none), "law", "law", defArgs s_law, defBody s_law, defScope s_law, []⟩
/-- what the written part says of this text -/
structure Tx (K : PySem.W.Frag) (mg : Str → Option Value) : Prop where
  cls_Fraction : Cls K (He.ga K "Fraction")
  cls_Poly : Cls K (He.ga K "Poly")
  d_Fraction___init__ : Dn K d_Fraction___init__
  d_Fraction___mul__ : Dn K d_Fraction___mul__
  d_Fraction_is_whole : Dn K d_Fraction_is_whole
  d_Fraction_is_zero : Dn K d_Fraction_is_zero
  d_Fraction_over : Dn K d_Fraction_over
  d_Poly___add__ : Dn K d_Poly___add__
  d_Poly___init__ : Dn K d_Poly___init__
  d_Poly___neg__ : Dn K d_Poly___neg__
  d_Poly___sub__ : Dn K d_Poly___sub__
  d_Poly_coefficient : Dn K d_Poly_coefficient
  d_Poly_degree : Dn K d_Poly_degree
  d_Poly_is_zero : Dn K d_Poly_is_zero
  d_Poly_lead : Dn K d_Poly_lead
  d_Poly_shifted : Dn K d_Poly_shifted
  d__coefs_over : Dn K d__coefs_over
  d__in_lowest_terms : Dn K d__in_lowest_terms
  d__law_alike : Dn K d__law_alike
  d__law_back : Dn K d__law_back
  d__law_bound : Dn K d__law_bound
  d__law_cell : Dn K d__law_cell
  d__law_digits : Dn K d__law_digits
  d__law_draw : Dn K d__law_draw
  d__law_is_whole : Dn K d__law_is_whole
  d__law_minus : Dn K d__law_minus
  d__law_move : Dn K d__law_move
  d__law_mul : Dn K d__law_mul
  d__law_plus : Dn K d__law_plus
  d__law_poly : Dn K d__law_poly
  d__law_read : Dn K d__law_read
  d__law_refused : Dn K d__law_refused
  d__law_scale : Dn K d__law_scale
  d__law_shift : Dn K d__law_shift
  d__law_sum : Dn K d__law_sum
  d__law_times : Dn K d__law_times
  d__law_trim : Dn K d__law_trim
  d_added : Dn K d_added
  d_common_factor : Dn K d_common_factor
  d_degree_bound : Dn K d_degree_bound
  d_law : Dn K d_law
  d_shifted_coefs : Dn K d_shifted_coefs
  d_trimmed : Dn K d_trimmed
  ec_ZeroPolynomial : ExcC K (He.ga K "ZeroPolynomial")
  em_ZeroPolynomial : PySem.W.exmOne K (.ref (He.ga K "ZeroPolynomial")) (.ref (He.ga K "ZeroPolynomial")) = some true
  f_Fraction___mul__ : PySem.W.isFn K (.ref (He.fAd K ("Fraction", some "__mul__"))) = true
  f_Poly___add__ : PySem.W.isFn K (.ref (He.fAd K ("Poly", some "__add__"))) = true
  f_Poly___neg__ : PySem.W.isFn K (.ref (He.fAd K ("Poly", some "__neg__"))) = true
  f_Poly___sub__ : PySem.W.isFn K (.ref (He.fAd K ("Poly", some "__sub__"))) = true
  first_Fraction : PySem.W.selfFirst K (He.ga K "Fraction") = true
  first_Poly : PySem.W.selfFirst K (He.ga K "Poly") = true
  g_DivisionByZero : mg "DivisionByZero" = some (.ref (He.ga K "DivisionByZero"))
  g_Fraction : mg "Fraction" = some (.ref (He.ga K "Fraction"))
  g_Poly : mg "Poly" = some (.ref (He.ga K "Poly"))
  g_SummationError : mg "SummationError" = some (.ref (He.ga K "SummationError"))
  g_ZeroPolynomial : mg "ZeroPolynomial" = some (.ref (He.ga K "ZeroPolynomial"))
  g__coefs_over : mg "_coefs_over" = some (.ref (He.fAd K ("_coefs_over", none)))
  g__in_lowest_terms : mg "_in_lowest_terms" = some (.ref (He.fAd K ("_in_lowest_terms", none)))
  g__law_alike : mg "_law_alike" = some (.ref (He.fAd K ("_law_alike", none)))
  g__law_back : mg "_law_back" = some (.ref (He.fAd K ("_law_back", none)))
  g__law_bound : mg "_law_bound" = some (.ref (He.fAd K ("_law_bound", none)))
  g__law_cell : mg "_law_cell" = some (.ref (He.fAd K ("_law_cell", none)))
  g__law_digits : mg "_law_digits" = some (.ref (He.fAd K ("_law_digits", none)))
  g__law_draw : mg "_law_draw" = some (.ref (He.fAd K ("_law_draw", none)))
  g__law_is_whole : mg "_law_is_whole" = some (.ref (He.fAd K ("_law_is_whole", none)))
  g__law_minus : mg "_law_minus" = some (.ref (He.fAd K ("_law_minus", none)))
  g__law_move : mg "_law_move" = some (.ref (He.fAd K ("_law_move", none)))
  g__law_mul : mg "_law_mul" = some (.ref (He.fAd K ("_law_mul", none)))
  g__law_plus : mg "_law_plus" = some (.ref (He.fAd K ("_law_plus", none)))
  g__law_poly : mg "_law_poly" = some (.ref (He.fAd K ("_law_poly", none)))
  g__law_read : mg "_law_read" = some (.ref (He.fAd K ("_law_read", none)))
  g__law_refused : mg "_law_refused" = some (.ref (He.fAd K ("_law_refused", none)))
  g__law_scale : mg "_law_scale" = some (.ref (He.fAd K ("_law_scale", none)))
  g__law_shift : mg "_law_shift" = some (.ref (He.fAd K ("_law_shift", none)))
  g__law_sum : mg "_law_sum" = some (.ref (He.fAd K ("_law_sum", none)))
  g__law_times : mg "_law_times" = some (.ref (He.fAd K ("_law_times", none)))
  g__law_trim : mg "_law_trim" = some (.ref (He.fAd K ("_law_trim", none)))
  g_added : mg "added" = some (.ref (He.fAd K ("added", none)))
  g_common_factor : mg "common_factor" = some (.ref (He.fAd K ("common_factor", none)))
  g_degree_bound : mg "degree_bound" = some (.ref (He.fAd K ("degree_bound", none)))
  g_gcd : mg "gcd" = some (.builtin "math.gcd")
  g_law : mg "law" = some (.ref (He.fAd K ("law", none)))
  g_lcm : mg "lcm" = some (.builtin "math.lcm")
  g_shifted_coefs : mg "shifted_coefs" = some (.ref (He.fAd K ("shifted_coefs", none)))
  g_trimmed : mg "trimmed" = some (.ref (He.fAd K ("trimmed", none)))
  g_zip_longest : mg "zip_longest" = some (.type "itertools.zip_longest")
  k_DivisionByZero : PySem.W.keepIn K (.ref (He.ga K "DivisionByZero")) = true
  k_ZeroPolynomial : PySem.W.keepIn K (.ref (He.ga K "ZeroPolynomial")) = true
  kb1_ZeroPolynomial__SummationError : PySem.W.kitOne K (.ref (He.ga K "ZeroPolynomial")) (.ref (He.ga K "SummationError")) = some true
  kb1_ZeroPolynomial__ValueError : PySem.W.kitOne K (.ref (He.ga K "ZeroPolynomial")) (.type "ValueError") = some true
  m_Fraction_over : Meth K (He.ga K "Fraction") "over" (He.fAd K ("Fraction", some "over"))
  m_Poly_coefficient : Meth K (He.ga K "Poly") "coefficient" (He.fAd K ("Poly", some "coefficient"))
  m_Poly_shifted : Meth K (He.ga K "Poly") "shifted" (He.fAd K ("Poly", some "shifted"))
  mk_Fraction : Mk K (He.ga K "Fraction") (He.fAd K ("Fraction", some "__init__"))
  mk_Poly : Mk K (He.ga K "Poly") (He.fAd K ("Poly", some "__init__"))
  n_Fraction_den : NoAttr K (He.ga K "Fraction") "den"
  n_Fraction_num : NoAttr K (He.ga K "Fraction") "num"
  n_Poly_coefs : NoAttr K (He.ga K "Poly") "coefs"
  n_Poly_den : NoAttr K (He.ga K "Poly") "den"
  p_Fraction_is_whole : PropOf K (He.ga K "Fraction") "is_whole" (prAd K (He.ga K "Fraction") "is_whole") (gtAd K (He.ga K "Fraction") "is_whole")
  p_Fraction_is_zero : PropOf K (He.ga K "Fraction") "is_zero" (prAd K (He.ga K "Fraction") "is_zero") (gtAd K (He.ga K "Fraction") "is_zero")
  p_Poly_degree : PropOf K (He.ga K "Poly") "degree" (prAd K (He.ga K "Poly") "degree") (gtAd K (He.ga K "Poly") "degree")
  p_Poly_is_zero : PropOf K (He.ga K "Poly") "is_zero" (prAd K (He.ga K "Poly") "is_zero") (gtAd K (He.ga K "Poly") "is_zero")
  p_Poly_lead : PropOf K (He.ga K "Poly") "lead" (prAd K (He.ga K "Poly") "lead") (gtAd K (He.ga K "Poly") "lead")
  r_DivisionByZero : ∀ {X : Cx}, X.K = K → Raises X (.ref (He.ga K "DivisionByZero"))
  r_ZeroPolynomial : ∀ {X : Cx}, X.K = K → Raises X (.ref (He.ga K "ZeroPolynomial"))
  s_Fraction___mul__ : PySem.W.findIn K (.ref (He.ga K "Fraction")) "__mul__" = some (some (.ref (He.fAd K ("Fraction", some "__mul__"))))
  s_Poly___add__ : PySem.W.findIn K (.ref (He.ga K "Poly")) "__add__" = some (some (.ref (He.fAd K ("Poly", some "__add__"))))
  s_Poly___neg__ : PySem.W.findIn K (.ref (He.ga K "Poly")) "__neg__" = some (some (.ref (He.fAd K ("Poly", some "__neg__"))))
  s_Poly___sub__ : PySem.W.findIn K (.ref (He.ga K "Poly")) "__sub__" = some (some (.ref (He.fAd K ("Poly", some "__sub__"))))
  ty_Poly : ∀ {H : Hp} {a dx : Addr} {fs : List (Str × V)}, H a = some (.ins (He.ga K "Poly") dx fs) → TyX K H (.ref a) (.ref (He.ga K "Poly"))
  x_DivisionByZero : PySem.W.excIn K (He.ga K "DivisionByZero") He.veBase "ValueError.__new__" = true
  x_ZeroPolynomial : PySem.W.excIn K (He.ga K "ZeroPolynomial") He.veBase "ValueError.__new__" = true
  z_ValueError : mg "ValueError" = none
  z_abs : mg "abs" = none
  z_bool : mg "bool" = none
  z_int : mg "int" = none
  z_isinstance : mg "isinstance" = none
  z_len : mg "len" = none
  z_list : mg "list" = none
  z_max : mg "max" = none
  z_range : mg "range" = none
  z_tuple : mg "tuple" = none

/-! ### what the defs promise -/
abbrev CF (K : PySem.W.Frag) : Addr := He.ga K "Fraction"
abbrev CD (K : PySem.W.Frag) : Value := .ref (He.ga K "DivisionByZero")
/-- a Fraction at a: its numerator and denominator -/
abbrev fsF (n d : Int) : List (Str × V) := [("num", .int n), ("den", .int d)]
/-- in lowest terms and of at most k bits -/
structure Lw (k : Nat) (n d : Int) : Prop where
  pos : 0 < d
  cop : Cop n d
  bn : n.natAbs < 2 ^ k
  bd : d.natAbs < 2 ^ k
theorem Lw.fq {k : Nat} {n d : Int} (l : Lw k n d) : Fq n d n d := ⟨rfl, l.pos, l.cop⟩
theorem Lw.ne {k : Nat} {n d : Int} (l : Lw k n d) : d ≠ 0 := by have := l.pos; omega
theorem Lw.mono {k j : Nat} {n d : Int} (l : Lw k n d) (h : k ≤ j) : Lw j n d := ⟨l.pos, l.cop, abs_mono l.bn h, abs_mono l.bd h⟩
theorem lw_of {k : Nat} {n d a b : Int} (f : Fq n d a b) (hd : d ≠ 0) (hn : n.natAbs < 2 ^ k) (hk : d.natAbs < 2 ^ k) : Lw k a b :=
  ⟨f.pos, f.cop, Nat.lt_of_le_of_lt (f.num_le hd) hn, Nat.lt_of_le_of_lt (f.den_le hd) hk⟩
/-- the value is a new Fraction n / d -/
theorem same_mut {H H2 : Hp} {p : Addr} {o : HO} (sm : Same H H2) (np : H p = none) : Same H (upd H2 p o) := fun b x e => by
  rw [upd_ne (ne_of_none e np)]
  exact sm _ _ e
theorem same_made0 {H : Hp} {p dp C : Addr} (np : H p = none) (nd : H dp = none) : Same H (upd (upd H dp (.own p)) p (.ins C dp [])) := fun b x e => by
  rw [upd_ne (ne_of_none e np), upd_ne (ne_of_none e nd)]
  exact e
/-- Fraction(..), its values all written or with the default; nothing is raised -/
def mkFr (K : PySem.W.Frag) (dvs : List V) : List V → Hp → VK → Prop := fun vs H1 Q => ∃ (n d : Int) (k : Nat), vs ++ dvs = [.int n, .int d] ∧ d.natAbs < 2 ^ k ∧ k ≤ 8000 ∧ d ≠ 0 ∧
  ∀ p dp H2 a b, Same H1 H2 → H1 p = none → H2 p = some (.ins (CF K) dp (fsF a b)) → Fq n d a b → Q (.ref p) H2
/-- .. in a try's body: W is wished of an exception, with the slots -/
def mkFrS (K : PySem.W.Frag) (dvs : List V) (W : WX) : L2.St → List V → Hp → VK → Prop := fun σ vs H1 Q => ∃ (n d : Int) (k : Nat), vs ++ dvs = [.int n, .int d] ∧ d.natAbs < 2 ^ k ∧ k ≤ 8000 ∧ (d = 0 → ∀ H2, Same H1 H2 → W (CD K) none σ H2) ∧
  (d ≠ 0 → ∀ p dp H2 a b, Same H1 H2 → H1 p = none → H2 p = some (.ins (CF K) dp (fsF a b)) → Fq n d a b → Q (.ref p) H2)
def RF (K : PySem.W.Frag) (H : Hp) (Q : VK) (R : Int → Int → Prop) : Prop := ∀ p dp H' n d, Same H H' → H p = none → H' p = some (.ins (CF K) dp (fsF n d)) → R n d → Q (.ref p) H'


/-! ### lists of fractions -/
/-- the list's items are the fractions qs -/
structure FrL (K : PySem.W.Frag) (H : Hp) (xs : List V) (qs : List (Int × Int)) : Prop where
  len : xs.length = qs.length
  at_ : ∀ (i : Nat) (q : Int × Int), qs[i]? = some q → ∃ a dx, xs[i]? = some (.ref a) ∧ H a = some (.ins (CF K) dx (fsF q.1 q.2))
theorem FrL.mono {K : PySem.W.Frag} {H H' : Hp} {xs : List V} {qs : List (Int × Int)} (f : FrL K H xs qs) (sm : Same H H') : FrL K H' xs qs :=
  ⟨f.len, fun i q h => by obtain ⟨a, dx, e, h2⟩ := f.at_ i q h; exact ⟨a, dx, e, sm _ _ h2⟩⟩
theorem FrL.nil {K : PySem.W.Frag} {H : Hp} : FrL K H [] [] := ⟨rfl, fun i q h => by simp at h⟩
theorem FrL.snoc {K : PySem.W.Frag} {H : Hp} {xs : List V} {qs : List (Int × Int)} {a dx : Addr} {n d : Int} (f : FrL K H xs qs) (h : H a = some (.ins (CF K) dx (fsF n d))) : FrL K H (xs ++ [.ref a]) (qs ++ [(n, d)]) := by
  refine ⟨by simp [f.len], fun i q hq => ?_⟩
  by_cases c : i < qs.length
  · rw [List.getElem?_append_left c] at hq
    obtain ⟨b, dy, e, h2⟩ := f.at_ i q hq
    exact ⟨b, dy, by rw [List.getElem?_append_left (by rw [f.len]; exact c)]; exact e, h2⟩
  · rw [List.getElem?_append_right (by omega)] at hq
    have c0 : i - qs.length = 0 := by
      refine Decidable.byContradiction fun z => ?_
      rw [List.getElem?_eq_none (by simp; omega)] at hq
      cases hq
    rw [c0] at hq
    cases hq
    exact ⟨a, dx, by rw [List.getElem?_append_right (by rw [f.len]; omega), f.len, c0]; rfl, h⟩
theorem FrL.upd {K : PySem.W.Frag} {H : Hp} {xs : List V} {qs : List (Int × Int)} {D : Addr} {ys : List V} {o : HO} (f : FrL K H xs qs) (h : H D = some (.lst ys)) : FrL K (upd H D o) xs qs :=
  ⟨f.len, fun i q e => by
    obtain ⟨a, dx, e1, e2⟩ := f.at_ i q e
    have ne : a ≠ D := fun z => by rw [z, h] at e2; cases e2
    exact ⟨a, dx, e1, by rw [upd_ne ne]; exact e2⟩⟩
theorem FrL.take {K : PySem.W.Frag} {H : Hp} {xs : List V} {qs : List (Int × Int)} (f : FrL K H xs qs) (m : Nat) : FrL K H (xs.take m) (qs.take m) := by
  refine ⟨by simp [f.len], fun i q h => ?_⟩
  rw [List.getElem?_take] at h
  by_cases c : i < m
  · rw [if_pos c] at h
    obtain ⟨a, dx, e, h2⟩ := f.at_ i q h
    exact ⟨a, dx, by rw [List.getElem?_take, if_pos c]; exact e, h2⟩
  · rw [if_neg c] at h
    cases h
theorem FrL.drop {K : PySem.W.Frag} {H : Hp} {xs : List V} {qs : List (Int × Int)} (f : FrL K H xs qs) (m : Nat) : FrL K H (xs.drop m) (qs.drop m) := by
  refine ⟨by simp [f.len], fun i q h => ?_⟩
  rw [List.getElem?_drop] at h
  obtain ⟨a, dx, e, h2⟩ := f.at_ _ q h
  exact ⟨a, dx, by rw [List.getElem?_drop]; exact e, h2⟩
/-- the sum of pairs, not in lowest terms -/
def sumQ : List (Int × Int) → Int × Int
  | [] => (0, 1)
  | q :: r => (q.1 * (sumQ r).2 + (sumQ r).1 * q.2, q.2 * (sumQ r).2)
def prodQ : List (Int × Int) → Int × Int
  | [] => (1, 1)
  | q :: r => (q.1 * (prodQ r).1, q.2 * (prodQ r).2)
theorem sumQ_append (xs ys : List (Int × Int)) : sumQ (xs ++ ys) = ((sumQ xs).1 * (sumQ ys).2 + (sumQ ys).1 * (sumQ xs).2, (sumQ xs).2 * (sumQ ys).2) := by
  induction xs with
  | nil => simp [sumQ]
  | cons q r ih =>
    rw [List.cons_append, sumQ, ih, sumQ]
    refine Prod.ext ?_ ?_ <;> dsimp only <;> grind
theorem prodQ_append (xs ys : List (Int × Int)) : prodQ (xs ++ ys) = ((prodQ xs).1 * (prodQ ys).1, (prodQ xs).2 * (prodQ ys).2) := by
  induction xs with
  | nil => simp [prodQ]
  | cons q r ih =>
    rw [List.cons_append, prodQ, ih, prodQ]
    refine Prod.ext ?_ ?_ <;> dsimp only <;> grind
abbrev AllLw (k : Nat) (qs : List (Int × Int)) : Prop := ∀ q ∈ qs, Lw k q.1 q.2
theorem sumQ_pos {k : Nat} : ∀ {qs : List (Int × Int)}, AllLw k qs → 0 < (sumQ qs).2
  | [], _ => by simp [sumQ]
  | q :: r, h => Int.mul_pos (h q (by simp)).pos (sumQ_pos fun x hx => h x (by simp [hx]))
theorem prodQ_pos {k : Nat} : ∀ {qs : List (Int × Int)}, AllLw k qs → 0 < (prodQ qs).2
  | [], _ => by simp [prodQ]
  | q :: r, h => Int.mul_pos (h q (by simp)).pos (prodQ_pos fun x hx => h x (by simp [hx]))
theorem sumQ_bits {k : Nat} : ∀ {qs : List (Int × Int)}, AllLw k qs → (sumQ qs).1.natAbs < 2 ^ ((k + 1) * qs.length + 1) ∧ (sumQ qs).2.natAbs < 2 ^ ((k + 1) * qs.length + 1)
  | [], _ => by simp [sumQ]
  | q :: r, h => by
    have l := h q (by simp)
    obtain ⟨h1, h2⟩ := sumQ_bits (qs := r) fun x hx => h x (by simp [hx])
    have e : (k + 1) * (q :: r).length + 1 = (k + ((k + 1) * r.length + 1)) + 1 := by rw [List.length_cons]; grind
    have a1 := abs_lt_mul l.bn h2
    have a2 := abs_lt_mul h1 l.bd
    have a3 := abs_lt_mul l.bd h2
    rw [Nat.add_comm _ k] at a2
    rw [e]
    constructor
    · have z := sz_add a1 a2
      rw [Nat.max_self] at z
      exact z
    · exact abs_mono a3 (by omega)
theorem prodQ_bits {k : Nat} : ∀ {qs : List (Int × Int)}, AllLw k qs → (prodQ qs).1.natAbs < 2 ^ (k * qs.length + 1) ∧ (prodQ qs).2.natAbs < 2 ^ (k * qs.length + 1)
  | [], _ => by simp [prodQ]
  | q :: r, h => by
    have l := h q (by simp)
    obtain ⟨h1, h2⟩ := prodQ_bits (qs := r) fun x hx => h x (by simp [hx])
    have e : k * (q :: r).length + 1 = k + (k * r.length + 1) := by rw [List.length_cons]; grind
    rw [e]
    exact ⟨abs_lt_mul l.bn h1, abs_lt_mul l.bd h2⟩
theorem AllLw.take {k : Nat} {qs : List (Int × Int)} (h : AllLw k qs) (m : Nat) : AllLw k (qs.take m) := fun q hq => h q (List.mem_of_mem_take hq)
theorem AllLw.drop {k : Nat} {qs : List (Int × Int)} (h : AllLw k qs) (m : Nat) : AllLw k (qs.drop m) := fun q hq => h q (List.mem_of_mem_drop hq)
/-- the answer is a fraction, new or not -/
def RS (K : PySem.W.Frag) (H : Hp) (Q : VK) (R : Int → Int → Prop) : Prop := ∀ p dp H' n d, Same H H' → H' p = some (.ins (CF K) dp (fsF n d)) → R n d → Q (.ref p) H'


/-! ### polynomials -/
abbrev CP (K : PySem.W.Frag) : Addr := He.ga K "Poly"
abbrev fsP (t : Addr) (e : Int) : List (Str × V) := [("coefs", .ref t), ("den", .int e)]
/-- a Poly at p: its coefficients and denominator -/
def PoA (K : PySem.W.Frag) (H : Hp) (p : Addr) (ks : List Int) (e : Int) : Prop := ∃ dp t, H p = some (.ins (CP K) dp (fsP t e)) ∧ H t = some (.tup (ks.map V.int))
theorem PoA.mono {K : PySem.W.Frag} {H H' : Hp} {p : Addr} {ks : List Int} {e : Int} (h : PoA K H p ks e) (sm : Same H H') : PoA K H' p ks e := by
  obtain ⟨dp, t, h1, h2⟩ := h
  exact ⟨dp, t, sm _ _ h1, sm _ _ h2⟩
/-- a list or a tuple of whole numbers -/
def Sq (K : PySem.W.Frag) (H : Hp) (a : Addr) (xs : List Int) : Prop := SqL K H a (xs.map V.int) ∨ SqT K H a (xs.map V.int)
structure Bits (k : Nat) (xs : List Int) : Prop where
  all : ∀ x ∈ xs, x.natAbs < 2 ^ k
theorem Bits.getD {k : Nat} {xs : List Int} (h : Bits k xs) (i : Nat) : (xs.getD i 0).natAbs < 2 ^ k := by
  by_cases c : i < xs.length
  · exact h.all _ (getD_mem c)
  · rw [getD_end (by omega)]
    exact Nat.pow_pos (by decide)
theorem bits_of_at {k : Nat} {xs : List Int} (h : ∀ i, (xs.getD i 0).natAbs < 2 ^ k) : Bits k xs := ⟨fun x hx => by
  obtain ⟨i, hi, rfl⟩ := List.mem_iff_getElem.mp hx
  have z := h i
  rwa [List.getD_eq_getElem?_getD, List.getElem?_eq_getElem hi] at z⟩
theorem bits_put {k : Nat} {xs : List Int} {n : Nat} {x : Int} (h1 : Bits k xs) (h : x.natAbs < 2 ^ k) : Bits k (xs.set n x) := ⟨fun y hy => by
  rcases List.mem_or_eq_of_mem_set hy with hy | hy
  · exact h1.all y hy
  · rw [hy]; exact h⟩
theorem Bits.mono {k j : Nat} {xs : List Int} (h : Bits k xs) (c : k ≤ j) : Bits j xs := ⟨fun x hx => abs_mono (h.all x hx) c⟩
theorem Bits.neg {k : Nat} {xs : List Int} (h : Bits k xs) : Bits k (xs.map fun x => -x) := ⟨fun x hx => by
  obtain ⟨y, hy, rfl⟩ := List.mem_map.mp hx
  rw [Int.natAbs_neg]
  exact h.all y hy⟩
theorem Bits.mul {k j : Nat} {xs : List Int} {c : Int} (h : Bits k xs) (hc : c.natAbs < 2 ^ j) : Bits (k + j) (xs.map fun x => x * c) := ⟨fun x hx => by
  obtain ⟨y, hy, rfl⟩ := List.mem_map.mp hx
  exact abs_lt_mul (h.all y hy) hc⟩
theorem Bits.add {k : Nat} {xs ys : List Int} (h : Bits k xs) (h2 : Bits k ys) : Bits (k + 1) (addL xs ys) := ⟨fun x hx => by
  unfold addL at hx
  obtain ⟨i, _, rfl⟩ := List.mem_map.mp hx
  have z := sz_add (h.getD i) (h2.getD i)
  rw [Nat.max_self] at z
  exact z⟩
theorem Pq.bits {cs ks : List Int} {d e : Int} {k : Nat} (p : Pq cs d ks e) (hd : d ≠ 0) (h : Bits k cs) : Bits k ks := ⟨fun x hx => by
  obtain ⟨i, hi, rfl⟩ := List.mem_iff_getElem.mp hx
  have z : ks[i] = ks.getD i 0 := by rw [List.getD_eq_getElem?_getD, List.getElem?_eq_getElem hi]; rfl
  have c := h.getD i
  have q := p.eq i
  rw [z]
  have p0 := p.pos
  -- e divides d
  have dv := p.den_dvd1 hd
  obtain ⟨u, hu⟩ := dv
  have u0 : u ≠ 0 := fun w => by rw [w] at hu; omega
  have e1 : cs.getD i 0 = ks.getD i 0 * u := by
    rw [hu] at q
    have : cs.getD i 0 * e = (ks.getD i 0 * u) * e := by grind
    exact Int.eq_of_mul_eq_mul_right (by omega) this
  rw [e1, Int.natAbs_mul] at c
  exact Nat.lt_of_le_of_lt (Nat.le_mul_of_pos_right _ (by omega)) c⟩
/-- all that a check of a polynomial asks -/
structure POk (k : Nat) (cs : List Int) (den : Int) (ks : List Int) (e : Int) : Prop where
  pq : Pq cs den ks e
  l1 : ks.length ≤ 400
  l2 : cs.length ≤ 400
  b1 : ∀ x ∈ ks, x.natAbs < 2 ^ k
  b2 : ∀ x ∈ cs, x.natAbs < 2 ^ k
  b3 : e.natAbs < 2 ^ k
  b4 : den.natAbs < 2 ^ k
theorem pOk {k : Nat} {cs : List Int} {den : Int} {ks : List Int} {e : Int} (pq : Pq cs den ks e) (hd : den ≠ 0) (l : cs.length ≤ 400) (b : Bits k cs) (b4 : den.natAbs < 2 ^ k) : POk k cs den ks e :=
  ⟨pq, Nat.le_trans (pq.len hd) l, l, (pq.bits hd b).all, b.all, Nat.lt_of_le_of_lt (pq.den_le hd) b4, b4⟩
theorem PoA.upd {K : PySem.W.Frag} {H : Hp} {p D : Addr} {ks : List Int} {e : Int} {ys : List V} {o : HO} (h : PoA K H p ks e) (hD : H D = some (.lst ys)) : PoA K (upd H D o) p ks e := by
  obtain ⟨dp, t, h1, h2⟩ := h
  have n1 : p ≠ D := fun z => by rw [z, hD] at h1; cases h1
  have n2 : t ≠ D := fun z => by rw [z, hD] at h2; cases h2
  exact ⟨dp, t, by rw [upd_ne n1]; exact h1, by rw [upd_ne n2]; exact h2⟩
def mkPo (K : PySem.W.Frag) (dvs : List V) : List V → Hp → VK → Prop := fun vs H1 Q => ∃ (a : Addr) (cs : List Int) (d : Int) (k : Nat), vs ++ dvs = [.ref a, .int d] ∧ Sq K H1 a cs ∧ cs.length ≤ 900 ∧ d.natAbs < 2 ^ k ∧ k ≤ 8000 ∧ d ≠ 0 ∧
  ∀ p H2 ks e, Same H1 H2 → H1 p = none → PoA K H2 p ks e → Pq cs d ks e → Q (.ref p) H2
/-- .. in a try's body -/
def mkPoS (K : PySem.W.Frag) (dvs : List V) (W : WX) : L2.St → List V → Hp → VK → Prop := fun σ vs H1 Q => ∃ (a : Addr) (cs : List Int) (d : Int) (k : Nat), vs ++ dvs = [.ref a, .int d] ∧ Sq K H1 a cs ∧ cs.length ≤ 900 ∧ d.natAbs < 2 ^ k ∧ k ≤ 8000 ∧ (d = 0 → ∀ H2, Same H1 H2 → W (CD K) none σ H2) ∧
  (d ≠ 0 → ∀ p H2 ks e, Same H1 H2 → H1 p = none → PoA K H2 p ks e → Pq cs d ks e → Q (.ref p) H2)
/-- the answer is a new polynomial -/
def RP (K : PySem.W.Frag) (H : Hp) (Q : VK) (R : List Int → Int → Prop) : Prop := ∀ p H' ks e, Same H H' → H p = none → PoA K H' p ks e → R ks e → Q (.ref p) H'


theorem Bits.set {k : Nat} {xs : List Int} {n : Nat} {x : Int} (h1 : Bits k xs) (h : x.natAbs < 2 ^ k) : Bits k (xs.set n x) := ⟨fun y hy => by
  rcases List.mem_or_eq_of_mem_set hy with hy | hy
  · exact h1.all y hy
  · rw [hy]; exact h⟩
/-- the bits that a move gives -/
def shB (kb sb n : Nat) : Nat := kb + (sb + 1) * ((n + 1) * (n + 1))


theorem yes_ok {σ : L2.St} {H : Hp} {Q : Bool → Hp → Prop} (h : Q true H) : tYes σ H Q := h
/-- a pair (list, number) -/
def PtA (H : Hp) (p : Addr) (cs : List Int) (d : Int) : Prop := ∃ l, H p = some (.tup [.ref l, .int d]) ∧ H l = some (.lst (cs.map V.int))
theorem PtA.mono {H H' : Hp} {p : Addr} {cs : List Int} {d : Int} (h : PtA H p cs d) (sm : Same H H') : PtA H' p cs d := by
  obtain ⟨l, h1, h2⟩ := h
  exact ⟨l, sm _ _ h1, sm _ _ h2⟩
/-- what a def that makes a pair promises -/
def RPt (H : Hp) (Q : VK) (P : List Int → Int → Prop) : Prop := ∀ p H' zs d, Same H H' → H p = none → PtA H' p zs d → P zs d → Q (.ref p) H'
theorem bits_tf {zs : List Int} {f : Nat → Int} {k : Nat} (t : Tf zs f) (h : ∀ i, (f i).natAbs < 2 ^ k) : Bits k zs := bits_of_at fun i => by rw [t.at_]; exact h i


abbrev CZ (K : PySem.W.Frag) : Value := .ref (He.ga K "ZeroPolynomial")
theorem Fq.rat {n d a b : Int} (f : Fq n d a b) (hd : d ≠ 0) : ((a : Int) : Rat) / ((b : Int) : Rat) = ((n : Int) : Rat) / ((d : Int) : Rat) := by
  have h1 := ratc_ne hd
  have h2 : ((b : Int) : Rat) ≠ 0 := ratc_ne (by have := f.pos; omega)
  have h3 : ((a : Int) : Rat) * (d : Rat) = (n : Rat) * (b : Rat) := by rw [← Rat.intCast_mul, ← Rat.intCast_mul, Rat.intCast_inj]; exact f.eq
  grind
theorem rv_add {ks js : List Int} {e f : Int} (he : e ≠ 0) (hf : f ≠ 0) (i : Nat) : rv (sumP ks e js f) (e * f) i = rv ks e i + rv js f i := by
  have h1 := ratc_ne he
  have h2 := ratc_ne hf
  unfold rv
  rw [sumP_at, Rat.intCast_add, Rat.intCast_mul, Rat.intCast_mul, Rat.intCast_mul]
  grind
theorem rv_neg {js : List Int} {f : Int} (i : Nat) : rv (js.map fun x => -x) f i = -rv js f i := by
  unfold rv
  rw [neg_at, Rat.intCast_neg]
  grind
theorem rv_sub {ks js : List Int} {e f : Int} (he : e ≠ 0) (hf : f ≠ 0) (i : Nat) : rv (sumP ks e (js.map fun x => -x) f) (e * f) i = rv ks e i - rv js f i := by
  rw [rv_add he hf, rv_neg]
  grind


theorem cutV_map (ms : List Int) (lo hi : Option Int) : cutV (ms.map V.int) lo hi = ((ms.drop (HT.sIx ms.length 0 lo)).take (HT.sIx ms.length ms.length hi - HT.sIx ms.length 0 lo)).map V.int := by
  unfold cutV
  rw [len_map, ← List.map_drop, ← List.map_take]
theorem rv_subL {us xs ys : List Int} {d e : Int} (hd : d ≠ 0) (he : e ≠ 0) (h : ∀ i, us.getD i 0 = e * xs.getD i 0 - d * ys.getD i 0) (i : Nat) : rv us (d * e) i = rv xs d i - rv ys e i := by
  have h1 := ratc_ne hd
  have h2 := ratc_ne he
  unfold rv
  rw [h, Rat.intCast_sub, Rat.intCast_mul, Rat.intCast_mul, Rat.intCast_mul]
  grind
theorem rv_addL {us xs ys : List Int} {d e : Int} (hd : d ≠ 0) (he : e ≠ 0) (h : ∀ i, us.getD i 0 = e * xs.getD i 0 + d * ys.getD i 0) (i : Nat) : rv us (d * e) i = rv xs d i + rv ys e i := by
  have h1 := ratc_ne hd
  have h2 := ratc_ne he
  unfold rv
  rw [h, Rat.intCast_add, Rat.intCast_mul, Rat.intCast_mul, Rat.intCast_mul]
  grind
/-- a part that is not zero and not large -/
structure PtS (zs : List Int) (d : Int) : Prop where
  tf : Tf zs (ff zs)
  ne : zs ≠ []
  bits : Bits 400 zs
  dp : 1 ≤ d
  dl : d ≤ 1000
  len : zs.length ≤ 20
theorem PtS.db {zs : List Int} {d : Int} (h : PtS zs d) : d.natAbs < 2 ^ 20 := by have := h.dp; have := h.dl; omega

/-- some number -/
def spCell (K : PySem.W.Frag) : Sp := fun vs H Q _ => ∃ (a : Addr) (ns : List Int) (k : Int), vs = [.ref a, .int k] ∧ SqL K H a (ns.map V.int) ∧ 0 ≤ k ∧ ∀ c : Int, Q (.int c) H
def spDig (K : PySem.W.Frag) : Sp := fun vs H Q _ => ∃ c l n : Int, vs = [.int c, .int l, .int n] ∧ 0 < l ∧ l ≤ 1000 ∧ 0 ≤ n ∧ n ≤ 100 ∧
  ∀ p H' (ms : List Int), Same H H' → H p = none → H' p = some (.lst (ms.map V.int)) → ms.length = n.toNat → (∀ m ∈ ms, 0 ≤ m ∧ m < l) → Q (.ref p) H'
def spTri (K : PySem.W.Frag) : Sp := fun vs H Q _ => ∃ (a : Addr) (xs : List Int), vs = [.ref a] ∧ SqL K H a (xs.map V.int) ∧ xs.length ≤ 900 ∧
  ∀ p H' zs, Same H H' → H p = none → H' p = some (.lst (zs.map V.int)) → Tf zs (ff xs) → zs.length ≤ xs.length → Q (.ref p) H'
def spLDw (K : PySem.W.Frag) : Sp := fun vs H Q _ => ∃ (c m : Int), vs = [.int c, .int m] ∧ 0 ≤ m ∧ m ≤ 4 ∧ RPt H Q fun zs d => Tf zs (ff zs) ∧ zs ≠ [] ∧ Bits 5 zs ∧ 1 ≤ d ∧ d ≤ 3 ∧ zs.length ≤ 7
def spLSc (K : PySem.W.Frag) : Sp := fun vs H Q _ => ∃ (a : Addr) (xs : List Int) (c : Int) (k : Nat), vs = [.ref a, .int c] ∧ SqL K H a (xs.map V.int) ∧ Bits k xs ∧ c.natAbs < 2 ^ k ∧ xs.length ≤ 900 ∧ k ≤ 400000 ∧
  ∀ p H' (zs : List Int), Same H H' → H p = none → H' p = some (.lst (zs.map V.int)) → Tf zs (fun k => c * xs.getD k 0) → zs.length ≤ xs.length → Q (.ref p) H'
def spLSm (K : PySem.W.Frag) : Sp := fun vs H Q _ => ∃ (a b : Addr) (xs ys : List Int), vs = [.ref a, .ref b] ∧ SqL K H a (xs.map V.int) ∧ SqL K H b (ys.map V.int) ∧ xs.length ≤ 900 ∧ ys.length ≤ 900 ∧
  ∀ p H' (zs : List Int), Same H H' → H p = none → H' p = some (.lst (zs.map V.int)) → Tf zs (fun k => xs.getD k 0 + ys.getD k 0) → zs.length ≤ max xs.length ys.length → Q (.ref p) H'
def spLBk (K : PySem.W.Frag) : Sp := fun vs H Q _ => ∃ (a : Addr) (xs : List Int) (d c s : Int), vs = [.ref a, .int c, .int s] ∧ PtA H a xs d ∧ Tf xs (ff xs) ∧ xs ≠ [] ∧ Bits 5 xs ∧ 1 ≤ d ∧ d ≤ 3 ∧ xs.length ≤ 7 ∧
  ∀ p H' zs, Same H H' → PtA H' p zs d → Tf zs (ff zs) → zs ≠ [] → Bits 20 zs → zs.length ≤ 7 → Q (.ref p) H'
def spLSh (K : PySem.W.Frag) : Sp := fun vs H Q _ => ∃ (a : Addr) (cs : List Int) (s : Int) (kb sb : Nat), vs = [.ref a, .int s] ∧ SqL K H a (cs.map V.int) ∧ Bits kb cs ∧ s.natAbs < 2 ^ sb ∧ cs.length ≤ 400 ∧ sb ≤ 100000 ∧ shB kb sb cs.length ≤ 400000 ∧
  ∀ p H' zs, Same H H' → H p = none → H' p = some (.lst (zs.map V.int)) → IsSh s zs cs → Bits (shB kb sb cs.length) zs → Q (.ref p) H'
def spLMv (K : PySem.W.Frag) : Sp := fun vs H Q _ => ∃ (a : Addr) (cs : List Int) (d s : Int) (kb sb : Nat), vs = [.ref a, .int s] ∧ PtA H a cs d ∧ Bits kb cs ∧ s.natAbs < 2 ^ sb ∧ cs.length ≤ 400 ∧ sb ≤ 100000 ∧ shB kb sb cs.length ≤ 400000 ∧
  RPt H Q fun zs e => e = d ∧ IsSh s zs cs ∧ Bits (shB kb sb cs.length) zs
def spLMl (K : PySem.W.Frag) : Sp := fun vs H Q _ => ∃ (a b : Addr) (xs ys : List Int) (k : Nat), vs = [.ref a, .ref b] ∧ SqL K H a (xs.map V.int) ∧ SqL K H b (ys.map V.int) ∧ Bits k xs ∧ Bits k ys ∧ xs.length ≤ 400 ∧ ys.length ≤ 400 ∧ k ≤ 400000 ∧
  ∀ p H' zs, Same H H' → H p = none → H' p = some (.lst (zs.map V.int)) → Tf zs (cv xs ys) → zs.length ≤ xs.length + ys.length → Q (.ref p) H'
def spLTm (K : PySem.W.Frag) : Sp := fun vs H Q _ => ∃ (a b : Addr) (xs ys : List Int) (d e : Int) (k : Nat), vs = [.ref a, .ref b] ∧ PtA H a xs d ∧ PtA H b ys e ∧ Bits k xs ∧ Bits k ys ∧ d.natAbs < 2 ^ k ∧ e.natAbs < 2 ^ k ∧ xs.length ≤ 400 ∧ ys.length ≤ 400 ∧ k ≤ 4000 ∧
  RPt H Q fun zs g => g = d * e ∧ Tf zs (cv xs ys) ∧ zs.length ≤ xs.length + ys.length
def spLPp (K : PySem.W.Frag) : Sp := fun vs H Q _ => ∃ (a b : Addr) (xs ys : List Int) (d e : Int) (k : Nat), vs = [.ref a, .ref b] ∧ PtA H a xs d ∧ PtA H b ys e ∧ Bits k xs ∧ Bits k ys ∧ d.natAbs < 2 ^ k ∧ e.natAbs < 2 ^ k ∧ xs.length ≤ 400 ∧ ys.length ≤ 400 ∧ k ≤ 4000 ∧
  RPt H Q fun zs g => g = d * e ∧ Tf zs (fun i => e * xs.getD i 0 + d * ys.getD i 0) ∧ zs.length ≤ max xs.length ys.length
def spLMn (K : PySem.W.Frag) : Sp := fun vs H Q _ => ∃ (a b : Addr) (xs ys : List Int) (d e : Int) (k : Nat), vs = [.ref a, .ref b] ∧ PtA H a xs d ∧ PtA H b ys e ∧ Bits k xs ∧ Bits k ys ∧ d.natAbs < 2 ^ k ∧ e.natAbs < 2 ^ k ∧ 0 < k ∧ xs.length ≤ 400 ∧ ys.length ≤ 400 ∧ k ≤ 4000 ∧
  RPt H Q fun zs g => g = d * e ∧ Tf zs (fun i => e * xs.getD i 0 - d * ys.getD i 0) ∧ zs.length ≤ max xs.length ys.length
def spTrim (K : PySem.W.Frag) : Sp := fun vs H Q _ => ∃ (a : Addr) (xs : List Int), vs = [.ref a] ∧ (SqL K H a (xs.map V.int) ∨ SqT K H a (xs.map V.int)) ∧
  ∀ p H' n, Same H H' → H p = none → H' p = some (.lst ((xs.take n).map V.int)) → Trim xs n → Q (.ref p) H'
def spCom (K : PySem.W.Frag) : Sp := fun vs H Q _ => ∃ (a : Addr) (xs : List Int), vs = [.ref a] ∧ SqL K H a (xs.map V.int) ∧ Q (.int ((gcdL xs : Nat) : Int)) H
def spPInit (K : PySem.W.Frag) : Sp := fun vs H Q E => ∃ (x dx a : Addr) (cs : List Int) (d : Int) (k : Nat), vs = [.ref x, .ref a, .int d] ∧ H x = some (.ins (CP K) dx []) ∧ Sq K H a cs ∧ cs.length ≤ 900 ∧ d.natAbs < 2 ^ k ∧ k ≤ 8000 ∧
  (d = 0 → E (CD K) none H) ∧ (d ≠ 0 → ∀ H' t ks e, Same H H' → H' t = some (.tup (ks.map V.int)) → t ≠ x → Pq cs d ks e → Q .non (upd H' x (.ins (CP K) dx (fsP t e))))
theorem mkPo_conv (K : PySem.W.Frag) (dvs : List V) (vs : List V) (H1 : Hp) (Q : VK) (h : mkPo K dvs vs H1 Q) (x dx : Addr) (nx : H1 x = none) (nd : H1 dx = none) (ne : dx ≠ x) :
    spPInit K (.ref x :: (vs ++ dvs)) (upd (upd H1 dx (.own x)) x (.ins (CP K) dx [])) (fun v H2 => v = .non ∧ Q (.ref x) H2) E0 := by
  obtain ⟨a, cs, d, k, e, hS, hl, hb, hk, hd, q⟩ := h
  have s0 : Same H1 (upd (upd H1 dx (.own x)) x (.ins (CP K) dx [])) := same_made0 nx nd
  rw [e]
  refine ⟨x, dx, a, cs, d, k, rfl, upd_same, ?_, hl, hb, hk, fun z => absurd z hd, fun _ H' t ks e sm ht tx pq => ⟨rfl, ?_⟩⟩
  · rcases hS with h | h
    · exact .inl (s0.seq h)
    · exact .inr (sm_tup s0 h)
  · exact q x _ ks e (same_mut (s0.trans sm) nx) nx ⟨dx, t, upd_same, by rw [upd_ne tx]; exact ht⟩ pq
theorem mkPoS_conv (K : PySem.W.Frag) (dvs : List V) (W : WX) (σ : L2.St) (vs : List V) (H1 : Hp) (Q : VK) (h : mkPoS K dvs W σ vs H1 Q) (x dx : Addr) (nx : H1 x = none) (nd : H1 dx = none) (ne : dx ≠ x) :
    spPInit K (.ref x :: (vs ++ dvs)) (upd (upd H1 dx (.own x)) x (.ins (CP K) dx [])) (fun v H2 => v = .non ∧ Q (.ref x) H2) (WE W σ) := by
  obtain ⟨a, cs, d, k, e, hS, hl, hb, hk, h0, q⟩ := h
  have s0 : Same H1 (upd (upd H1 dx (.own x)) x (.ins (CP K) dx [])) := same_made0 nx nd
  rw [e]
  refine ⟨x, dx, a, cs, d, k, rfl, upd_same, ?_, hl, hb, hk, fun z => h0 z _ s0, fun hd H' t ks e sm ht tx pq => ⟨rfl, ?_⟩⟩
  · rcases hS with h | h
    · exact .inl (s0.seq h)
    · exact .inr (sm_tup s0 h)
  · exact q hd x _ ks e (same_mut (s0.trans sm) nx) nx ⟨dx, t, upd_same, by rw [upd_ne tx]; exact ht⟩ pq
def spLPo (K : PySem.W.Frag) : Sp := fun vs H Q _ => ∃ (a : Addr) (xs : List Int) (d : Int) (k : Nat), vs = [.ref a] ∧ PtA H a xs d ∧ xs.length ≤ 400 ∧ d.natAbs < 2 ^ k ∧ k ≤ 8000 ∧ d ≠ 0 ∧ RP K H Q fun ks e => Pq xs d ks e
def spPZer (K : PySem.W.Frag) : Sp := fun vs H Q _ => ∃ (a : Addr) (ks : List Int) (e : Int), vs = [.ref a] ∧ PoA K H a ks e ∧ Q (.bl (decide (V.int (ks.length : Int) = V.int 0))) H
def spShc (K : PySem.W.Frag) : Sp := fun vs H Q _ => ∃ (a : Addr) (cs : List Int) (s : Int) (kb sb : Nat), vs = [.ref a, .int s] ∧ (SqL K H a (cs.map V.int) ∨ SqT K H a (cs.map V.int)) ∧ Bits kb cs ∧ s.natAbs < 2 ^ sb ∧ cs.length ≤ 400 ∧ sb ≤ 100000 ∧ shB kb sb cs.length ≤ 400000 ∧
  ∀ p H' zs, Same H H' → H p = none → H' p = some (.lst (zs.map V.int)) → IsSh s zs cs → Bits (shB kb sb cs.length) zs → Q (.ref p) H'
def spPShi (K : PySem.W.Frag) : Sp := fun vs H Q _ => ∃ (a : Addr) (ks : List Int) (e s : Int) (kb sb : Nat), vs = [.ref a, .int s] ∧ PoA K H a ks e ∧ 0 < e ∧ e.natAbs < 2 ^ 60 ∧ Bits kb ks ∧ s.natAbs < 2 ^ sb ∧ ks.length ≤ 400 ∧ sb ≤ 100000 ∧ shB kb sb ks.length ≤ 400000 ∧
  RP K H Q (fun ms g => ∃ zs, IsSh s zs ks ∧ Bits (shB kb sb ks.length) zs ∧ Pq zs e ms g)
def spPNeg (K : PySem.W.Frag) : Sp := fun vs H Q _ => ∃ (a : Addr) (ks : List Int) (e : Int) (k : Nat), vs = [.ref a] ∧ PoA K H a ks e ∧ 0 < e ∧ e.natAbs < 2 ^ k ∧ k ≤ 8000 ∧ ks.length ≤ 900 ∧ RP K H Q (Pq (ks.map fun x => -x) e)
/-- what is known of a polynomial's numbers: in one form, of at most k bits -/
structure Po (k : Nat) (ks : List Int) (e : Int) : Prop where
  self : Pq ks e ks e
  bn : Bits k ks
  bd : e.natAbs < 2 ^ k
theorem Po.mono {k j : Nat} {ks : List Int} {e : Int} (p : Po k ks e) (h : k ≤ j) : Po j ks e := ⟨p.self, p.bn.mono h, abs_mono p.bd h⟩
theorem Po.pos {k : Nat} {ks : List Int} {e : Int} (p : Po k ks e) : 0 < e := p.self.pos
theorem gcd_dvd_list {e : Int} {ks : List Int} (cop : ∀ g : Int, g ∣ e → (∀ i, g ∣ ks.getD i 0) → g ∣ 1) : True := trivial
def spOvr (K : PySem.W.Frag) : Sp := fun vs H Q _ => ∃ (a : Addr) (ks : List Int) (e d : Int) (k : Nat), vs = [.ref a, .int d] ∧ PoA K H a ks e ∧ 0 < e ∧ e.natAbs < 2 ^ 8000 ∧ ks.length ≤ 900 ∧ Bits k ks ∧ d.natAbs < 2 ^ k ∧ k ≤ 100000 ∧
  ∀ p H', Same H H' → H p = none → H' p = some (.lst ((ks.map fun x => x * (d / e)).map V.int)) → Q (.ref p) H'
def spAdded (K : PySem.W.Frag) : Sp := fun vs H Q _ => ∃ (a b : Addr) (xs ys : List Int), vs = [.ref a, .ref b] ∧ SqL K H a (xs.map V.int) ∧ SqL K H b (ys.map V.int) ∧ xs.length ≤ 900 ∧ ys.length ≤ 900 ∧
  ∀ p H', Same H H' → H p = none → H' p = some (.lst ((addL xs ys).map V.int)) → Q (.ref p) H'
theorem lcm_bits {a b : Int} {k : Nat} (ha : a.natAbs < 2 ^ k) (hb : b.natAbs < 2 ^ k) : ((Nat.lcm a.natAbs b.natAbs : Nat) : Int).natAbs < 2 ^ (k + k) := by
  rw [Int.natAbs_natCast]
  have z := PySem.W.mc_lcm_le a.natAbs b.natAbs
  have z2 := abs_lt_mul ha hb
  rw [Int.natAbs_mul] at z2
  exact Nat.lt_of_le_of_lt z z2
def spPAdd (K : PySem.W.Frag) : Sp := fun vs H Q _ => ∃ (a b : Addr) (ks js : List Int) (e f : Int) (k : Nat), vs = [.ref a, .ref b] ∧ PoA K H a ks e ∧ PoA K H b js f ∧ Pq ks e ks e ∧ Pq js f js f ∧ Bits k ks ∧ Bits k js ∧ k ≤ 50000 ∧ e.natAbs < 2 ^ 60 ∧ f.natAbs < 2 ^ 60 ∧
  ks.length ≤ 900 ∧ js.length ≤ 900 ∧ RP K H Q (Pq (sumP ks e js f) (e * f))
def spPSub (K : PySem.W.Frag) : Sp := fun vs H Q _ => ∃ (a b : Addr) (ks js : List Int) (e f : Int) (k : Nat), vs = [.ref a, .ref b] ∧ PoA K H a ks e ∧ PoA K H b js f ∧ Pq ks e ks e ∧ Pq js f js f ∧ Bits k ks ∧ Bits k js ∧ k ≤ 50000 ∧ e.natAbs < 2 ^ 60 ∧ f.natAbs < 2 ^ 60 ∧
  ks.length ≤ 900 ∧ js.length ≤ 900 ∧ RP K H Q (Pq (sumP ks e (js.map fun x => -x) f) (e * f))
def spPDeg (K : PySem.W.Frag) : Sp := fun vs H Q _ => ∃ (a : Addr) (ks : List Int) (e : Int), vs = [.ref a] ∧ PoA K H a ks e ∧ Q (.int ((ks.length : Int) - 1)) H
def spInit (K : PySem.W.Frag) : Sp := fun vs H Q E => ∃ (x dx : Addr) (n d : Int) (k : Nat), vs = [.ref x, .int n, .int d] ∧ H x = some (.ins (CF K) dx []) ∧ d.natAbs < 2 ^ k ∧ k ≤ 8000 ∧
  (d = 0 → E (CD K) none H) ∧ (d ≠ 0 → ∀ a b, Fq n d a b → Q .non (upd H x (.ins (CF K) dx (fsF a b))))
theorem mkFr_conv (K : PySem.W.Frag) (dvs : List V) (vs : List V) (H1 : Hp) (Q : VK) (h : mkFr K dvs vs H1 Q) (x dx : Addr) (nx : H1 x = none) (nd : H1 dx = none) (ne : dx ≠ x) :
    spInit K (.ref x :: (vs ++ dvs)) (upd (upd H1 dx (.own x)) x (.ins (CF K) dx [])) (fun v H2 => v = .non ∧ Q (.ref x) H2) E0 := by
  obtain ⟨n, d, k, e, hb, hk, hd, q⟩ := h
  rw [e]
  exact ⟨x, dx, n, d, k, rfl, upd_same, hb, hk, fun z => absurd z hd, fun _ a b f => ⟨rfl, q x dx _ a b (same_made nx nd ne) nx upd_same f⟩⟩
theorem mkFrS_conv (K : PySem.W.Frag) (dvs : List V) (W : WX) (σ : L2.St) (vs : List V) (H1 : Hp) (Q : VK) (h : mkFrS K dvs W σ vs H1 Q) (x dx : Addr) (nx : H1 x = none) (nd : H1 dx = none) (ne : dx ≠ x) :
    spInit K (.ref x :: (vs ++ dvs)) (upd (upd H1 dx (.own x)) x (.ins (CF K) dx [])) (fun v H2 => v = .non ∧ Q (.ref x) H2) (WE W σ) := by
  obtain ⟨n, d, k, e, hb, hk, h0, q⟩ := h
  rw [e]
  exact ⟨x, dx, n, d, k, rfl, upd_same, hb, hk, fun z => h0 z _ (same_made0 nx nd), fun hd a b f => ⟨rfl, q hd x dx _ a b (same_made nx nd ne) nx upd_same f⟩⟩
def coI (ks : List Int) (i : Int) : Int := if i < 0 then 0 else ks.getD i.toNat 0
def spPCo (K : PySem.W.Frag) : Sp := fun vs H Q _ => ∃ (a : Addr) (ks : List Int) (e i : Int) (k : Nat), vs = [.ref a, .int i] ∧ PoA K H a ks e ∧ 0 < e ∧ e.natAbs < 2 ^ k ∧ k ≤ 8000 ∧ RF K H Q (Fq (coI ks i) e)
def spPLe (K : PySem.W.Frag) : Sp := fun vs H Q _ => ∃ (a : Addr) (ks : List Int) (e : Int) (k : Nat), vs = [.ref a] ∧ PoA K H a ks e ∧ 0 < e ∧ e.natAbs < 2 ^ k ∧ k ≤ 8000 ∧ RF K H Q (Fq (coI ks ((ks.length : Int) - 1)) e)
def spZero (K : PySem.W.Frag) : Sp := fun vs H Q _ => ∃ (a da : Addr) (n1 d1 : Int), vs = [.ref a] ∧ H a = some (.ins (CF K) da (fsF n1 d1)) ∧ Q (.bl (decide (V.int n1 = V.int 0))) H
def spLow (K : PySem.W.Frag) : Sp := fun vs H Q _ => ∃ n d : Int, vs = [.int n, .int d] ∧ RF K H Q (fun a b => a = n ∧ b = d)
def spMul (K : PySem.W.Frag) : Sp := fun vs H Q _ => ∃ (a b da db : Addr) (n1 d1 n2 d2 : Int) (k : Nat), vs = [.ref a, .ref b] ∧ H a = some (.ins (CF K) da (fsF n1 d1)) ∧ H b = some (.ins (CF K) db (fsF n2 d2)) ∧ Lw k n1 d1 ∧ Lw k n2 d2 ∧ k ≤ 8000 ∧
  RF K H Q (Fq (n1 * n2) (d1 * d2))
def spOver (K : PySem.W.Frag) : Sp := fun vs H Q E => ∃ (a b da db : Addr) (n1 d1 n2 d2 : Int) (k : Nat), vs = [.ref a, .ref b] ∧ H a = some (.ins (CF K) da (fsF n1 d1)) ∧ H b = some (.ins (CF K) db (fsF n2 d2)) ∧ Lw k n1 d1 ∧ Lw k n2 d2 ∧ k ≤ 8000 ∧
  (n2 = 0 → E (CD K) none H) ∧ (n2 ≠ 0 → RF K H Q (Fq (n1 * d2) (d1 * n2)))
def spWhole (K : PySem.W.Frag) : Sp := fun vs H Q _ => ∃ (a da : Addr) (n1 d1 : Int), vs = [.ref a] ∧ H a = some (.ins (CF K) da (fsF n1 d1)) ∧ Q (.bl (decide (V.int d1 = V.int 1))) H
/-- a polynomial in its one form, not a large one -/
structure PoS (K : PySem.W.Frag) (H : Hp) (a : Addr) (ks : List Int) (e : Int) : Prop where
  at_ : PoA K H a ks e
  pq : Pq ks e ks e
  bits : Bits 400 ks
  ed : e.natAbs < 2 ^ 20
  len : ks.length ≤ 20
theorem PoS.mono {K : PySem.W.Frag} {H H' : Hp} {a : Addr} {ks : List Int} {e : Int} (h : PoS K H a ks e) (sm : Same H H') : PoS K H' a ks e := ⟨h.at_.mono sm, h.pq, h.bits, h.ed, h.len⟩
def spDB (K : PySem.W.Frag) : Sp := fun vs H Q E => ∃ (a b c : Addr) (ka kb kc : List Int) (ea eb ec : Int) (x y z : Nat), vs = [.ref a, .ref b, .ref c] ∧ PoS K H a ka ea ∧ PoS K H b kb eb ∧ PoS K H c kc ec ∧
  ((ka = [] ∨ kb = [] ∨ kc = []) → E (CZ K) none H) ∧
  (ka ≠ [] → kb ≠ [] → kc ≠ [] → ∀ (v : Int) H' zs, Same H H' → IsSh (-1) zs kb → DB (rv kc ec) (fun i => rv ka ea i - rv zs eb i) (fun i => rv ka ea i + rv zs eb i) v → Q (.int v) H')
theorem max2 (i j : Int) : (if i < j then j else i) = max i j := by split <;> omega
def spIsWh (K : PySem.W.Frag) : Sp := fun vs H Q _ => ∃ n : Int, vs = [.int n] ∧ Q (.bl true) H
def spLBd (K : PySem.W.Frag) : Sp := fun vs H Q _ => ∃ (a b c : Addr) (xs ys zs : List Int) (d e g : Int), vs = [.ref a, .ref b, .ref c] ∧ (PtA H a xs d ∧ PtA H b ys e ∧ PtA H c zs g) ∧ PtS xs d ∧ PtS ys e ∧ PtS zs g ∧
  (∀ (v : Int) H' ws, Same H H' → IsSh (-1) ws ys → DB (rv zs g) (fun i => rv xs d i - rv ws e i) (fun i => rv xs d i + rv ws e i) v → Q (.int v) H')
def spLRd (K : PySem.W.Frag) : Sp := fun vs H Q _ => ∃ (a : Addr) (ks : List Int) (e : Int), vs = [.ref a] ∧ PoA K H a ks e ∧ 0 < e ∧ Tf ks (ff ks) ∧ ks.length ≤ 400 ∧ RPt H Q fun zs d => zs = ks ∧ d = e
def spLAl (K : PySem.W.Frag) : Sp := fun vs H Q _ => ∃ (a b : Addr) (xs ys : List Int) (d e : Int) (k : Nat), vs = [.ref a, .ref b] ∧ PtA H a xs d ∧ PtA H b ys e ∧ Bits k xs ∧ Bits k ys ∧ d.natAbs < 2 ^ k ∧ e.natAbs < 2 ^ k ∧ xs.length ≤ 400 ∧ ys.length ≤ 400 ∧ k ≤ 4000 ∧
  ∀ (r : Bool) H', Same H H' → (r = true ↔ ∀ i, e * xs.getD i 0 = d * ys.getD i 0) → Q (.bl r) H'
def spLRf (K : PySem.W.Frag) : Sp := fun vs H Q _ => ∃ (a b c : Addr) (ka kb kc : List Int) (ea eb ec : Int), vs = [.ref a, .ref b, .ref c] ∧ PoS K H a ka ea ∧ PoS K H b kb eb ∧ PoS K H c kc ec ∧ (ka = [] ∨ kb = [] ∨ kc = []) ∧ ∀ H', Same H H' → Q (.bl true) H'

theorem IsSh.tf {s : Int} {zs cs : List Int} {f : Nat → Int} (h : IsSh s zs cs) (t : Tf cs f) : Tf zs (ff zs) := by
  refine ⟨fun _ => rfl, ?_⟩
  by_cases c : cs.length = 0
  · exact .inl (by rw [h.len, c])
  · obtain ⟨m, hm⟩ : ∃ m, cs.length = m + 1 := ⟨cs.length - 1, by omega⟩
    refine .inr ?_
    rw [h.len, hm, show m + 1 - 1 = m by omega, (h.top hm).1]
    have := t.tr.resolve_left c
    rwa [hm] at this
theorem IsSh.ne {s : Int} {zs cs : List Int} (h : IsSh s zs cs) (t : cs ≠ []) : zs ≠ [] := fun z => by
  have := h.len
  rw [z] at this
  exact t (List.eq_nil_of_length_eq_zero this.symm)
theorem DB.ge {C p s : Nat → Rat} {v : Int} (h : DB C p s v) : -1 ≤ v := by
  obtain ⟨mc, mm, mt, _, _, _, h⟩ := h
  rcases h with ⟨_, h⟩ | ⟨_, ⟨w, _, h⟩ | ⟨_, h⟩⟩ <;> omega
theorem IsSh.rv {s : Int} {zs ws ks ys : List Int} {e f : Int} (h1 : IsSh s zs ks) (h2 : IsSh s ws ys) (p : Pq ys e ks f) (he : e ≠ 0) (i : Nat) : CB.rv zs f i = CB.rv ws e i := by
  rw [rv_eq (by have := p.pos; omega) he, h1.at_, h2.at_]
  exact shV_pair p.eq i
theorem bits_cv {k : Nat} {xs ys zs : List Int} (t : Tf zs (cv xs ys)) (h1 : Bits k xs) (h2 : Bits k ys) : Bits (k + k + xs.length) zs := bits_tf t fun i => cvS_bits h1.getD h2.getD i xs.length

section
variable {P : Program} {w : World} {K : PySem.W.Frag} {mg : Str → Option Value} {base : Heap}
theorem ok__law_cell (T : Tx K mg) : OkF P w K mg base 1 (He.fAd K ("_law_cell", none)) ["script", "k"] (spCell K) := by
  refine okF_of (d := d__law_cell) T.d__law_cell rfl sc__law_cell (fun _ _ _ _ _ _ us hl => match us, hl with | [_, _], _ => rfl) (fun vs H Q E h => ?_) (fun cdv A outer s H vs Q E hr h => ?_)
  · first | (obtain ⟨_, rfl, _⟩ := h; rfl) | (obtain ⟨_, _, rfl, _⟩ := h; rfl) | (obtain ⟨_, _, _, rfl, _⟩ := h; rfl) | (obtain ⟨_, _, _, _, rfl, _⟩ := h; rfl) | (obtain ⟨_, _, _, _, _, rfl, _⟩ := h; rfl) | (obtain ⟨_, _, _, _, _, _, rfl, _⟩ := h; rfl) | (obtain ⟨_, _, _, _, _, _, _, rfl, _⟩ := h; rfl) | (obtain ⟨_, _, _, _, _, _, _, _, rfl, _⟩ := h; rfl) | (obtain ⟨_, _, _, _, _, _, _, _, _, rfl, _⟩ := h; rfl) | (obtain ⟨_, _, _, _, _, _, _, _, _, _, rfl, _⟩ := h; rfl)
  · obtain ⟨a, ns, k, rfl, hS, k0, q⟩ := h
    refine ⟨_, (pss_cons (ps_if (pt_cmpR op_lt (pv 1) (pe_callB call_len_seq (by rfl) T.z_len PySem.boot_len (pa_cons (pv 0) pa_nil)) (nomark _)) (pss_one (ps_ret (pe_ix ix_list (pv 0) (pv 1) (fun _ _ => rfl)))) pss_nil)
      (pss_cons (ps_if (pt_cmpR op_eq (pe_callB call_len_seq (by rfl) T.z_len PySem.boot_len (pa_cons (pv 0) pa_nil)) pe_int (nomark _)) (pss_one (ps_ret (pe_op op_mul pe_int (pv 1)))) pss_nil)
      (pss_one (ps_ret (pe_op op_add (pe_op op_mul (pe_callTy call_int1 (by rfl) T.z_int (by decide +kernel) (pa_cons (pe_ix ix_list (pv 0) pe_int (fun _ _ => rfl)) pa_nil)) pe_int) (pe_op op_mul pe_int (pv 1))))))), ?_⟩
    refine ⟨_, rfl, _, rfl, _, _, rfl, .inl hS, _, _, rfl, rfl, _, rfl, iteD (fun c => ?_) (fun c => ?_)⟩
    · rw [len_map] at c
      obtain ⟨x, _, hx⟩ := get_map (ns := ns) (i := k.toNat) (by omega)
      exact ⟨_, rfl, _, rfl, _, _, _, _, rfl, rfl, hS, at_of (j := k.toNat) (by omega) hx, q x⟩
    refine ⟨_, rfl, _, _, rfl, .inl hS, rfl, _, rfl, iteEq (fun c => ?_) (fun c => ?_)⟩
    · exact ⟨_, rfl, _, _, rfl, rfl, .inl ⟨by decide, by decide⟩, q _⟩
    · obtain ⟨x, _, hx⟩ := get_map (ns := ns) (i := 0) (by simp only [len_map] at c; omega)
      exact ⟨_, rfl, _, _, _, _, rfl, rfl, hS, atI_nat (j := 0) hx, .inl ⟨_, rfl, _, _, rfl, rfl, .inr ⟨by decide, by decide⟩, _, rfl, _, _, rfl, rfl, .inl ⟨by decide, by decide⟩, _, _, rfl, rfl, q _⟩⟩

theorem ok__law_digits (T : Tx K mg) : OkF P w K mg base 1 (He.fAd K ("_law_digits", none)) ["cell", "limit", "count"] (spDig K) := by
  refine okF_of (d := d__law_digits) T.d__law_digits rfl sc__law_digits (fun _ _ _ _ _ _ us hl => match us, hl with | [_, _, _], _ => rfl) (fun vs H Q E h => ?_) (fun cdv A outer s H vs Q E hr h => ?_)
  · first | (obtain ⟨_, rfl, _⟩ := h; rfl) | (obtain ⟨_, _, rfl, _⟩ := h; rfl) | (obtain ⟨_, _, _, rfl, _⟩ := h; rfl) | (obtain ⟨_, _, _, _, rfl, _⟩ := h; rfl) | (obtain ⟨_, _, _, _, _, rfl, _⟩ := h; rfl) | (obtain ⟨_, _, _, _, _, _, rfl, _⟩ := h; rfl) | (obtain ⟨_, _, _, _, _, _, _, rfl, _⟩ := h; rfl) | (obtain ⟨_, _, _, _, _, _, _, _, rfl, _⟩ := h; rfl) | (obtain ⟨_, _, _, _, _, _, _, _, _, rfl, _⟩ := h; rfl) | (obtain ⟨_, _, _, _, _, _, _, _, _, _, rfl, _⟩ := h; rfl)
  · obtain ⟨c, l, n, rfl, l0, l1, n0, n1, q⟩ := h
    refine ⟨_, (pss_cons (ps_setI (i := 3) sc__law_digits.nd rfl (Or.inl rfl) (pe_callB call_abs (by rfl) T.z_abs (by decide +kernel) (pa_cons (pv 0) pa_nil)))
      (pss_cons (ps_set (i := 4) sc__law_digits.nd rfl (Or.inl rfl) (pe_cmpR op_ge (pv 3) (pe_op op_pow pe_int pe_int) (nomark _)))
      (pss_cons (ps_set (i := 5) sc__law_digits.nd rfl (Or.inl rfl) (pe_lst pa_nil))
      (pss_cons (ps_for PassesOwn.leaving rfl (pi_range1 rfl T.z_range (pa_cons (pv 2) pa_nil)) (pg_name (i := 6) sc__law_digits.nd rfl (Or.inl rfl)) (pss_one (ps_if (PW.pt (pw_and (pt_val (pv 4)) (pw_and1 (pt_cmpR op_gt (pv 3) pe_int (nomark _))))) (pss_cons (ps_expr (pe_bm PySem.F.plainAttrs_list PySem.F.slot_list_append PySem.F.type_list_append mt_append (pv 5) (pa_cons (pe_op op_mod (pe_callTy call_int1 (by rfl) T.z_int (by decide +kernel) (pa_cons (pv 3) pa_nil)) (pv 1)) pa_nil)))
      (pss_one (ps_setI (i := 3) sc__law_digits.nd rfl (Or.inl rfl) (pe_op op_fdiv (pv 3) (pv 1))))) (pss_cons (ps_setI (i := 7) sc__law_digits.nd rfl (Or.inl rfl) (pe_op op_mod (pe_callTy call_int1 (by rfl) T.z_int (by decide +kernel) (pa_cons (pe_op op_add (pe_op op_mul (pe_op op_add (pe_callB call_abs (by rfl) T.z_abs (by decide +kernel) (pa_cons (pv 0) pa_nil)) pe_int) pe_int) (pe_op op_mul (pv 6) pe_int)) pa_nil)) pe_int))
      (pss_cons (ps_setI (i := 7) sc__law_digits.nd rfl (Or.inl rfl) (pe_op op_mod (pe_callTy call_int1 (by rfl) T.z_int (by decide +kernel) (pa_cons (pe_op op_add (pe_op op_mul (pv 7) pe_int) (pe_op op_mul pe_int (pv 6))) pa_nil)) pe_int))
      (pss_one (ps_expr (pe_bm PySem.F.plainAttrs_list PySem.F.slot_list_append PySem.F.type_list_append mt_append (pv 5) (pa_cons (pe_op op_mod (pe_callTy call_int1 (by rfl) T.z_int (by decide +kernel) (pa_cons (pe_op op_fdiv (pv 7) pe_int) pa_nil)) (pv 1)) pa_nil)))))))))
      (pss_one (ps_ret (pv 5))))))), ?_⟩
    refine ⟨_, rfl, _, rfl, _, rfl, fun r0 _ => ?_⟩
    refine ⟨_, rfl, _, _, rfl, rfl, ⟨by decide, by decide, by decide⟩, _, _, rfl, rfl, ?_⟩
    obtain ⟨bd, hbd⟩ : ∃ bd : Bool, bd = decide ((10 : Int) ^ (18 : Int).toNat ≤ r0) := ⟨_, rfl⟩
    refine ⟨Nat.zero_le _, fun p np => ?_⟩
    refine ⟨_, rfl, _, rfl, by omega, by omega, for_range (lo := 0) (n := n.toNat) (fun i σ' H' => ∃ (r : Int) (ms : List Int) (y6 y7 : Option V), σ' = [some (.int c), some (.int l), some (.int n), some (.int r), some (.bl bd), some (.ref p), y6, y7] ∧
      Same H H' ∧ H' p = some (.lst (ms.map V.int)) ∧ ms.length = i ∧ ∀ m ∈ ms, 0 ≤ m ∧ m < l) ⟨r0, [], none, none, by rw [hbd]; rfl, sm_new np, upd_same, rfl, fun m hm => absurd hm (by simp)⟩ (fun i σ' H1 hi hI => ?_) (fun σ' H1 hI => ?_)⟩
    · obtain ⟨r, ms, y6, y7, rfl, sm, hp, hm, hb⟩ := hI
      have hz : (ms.map V.int).length < sizeLine := by rw [len_map]; exact small1000 (by omega)
      have more : ∀ (x r : Int) (y6 y7 : Option V), 0 ≤ x → x < l → ∃ (r' : Int) (ms' : List Int) (y6' y7' : Option V), [some (.int c), some (.int l), some (.int n), some (.int r), some (.bl bd), some (.ref p), y6, y7] = [some (.int c), some (.int l), some (.int n), some (.int r'), some (.bl bd), some (.ref p), y6', y7'] ∧
          Same H (upd H1 p (.lst (ms.map V.int ++ [.int x]))) ∧ (upd H1 p (.lst (ms.map V.int ++ [.int x]))) p = some (.lst (ms'.map V.int)) ∧ ms'.length = i + 1 ∧ ∀ m ∈ ms', 0 ≤ m ∧ m < l := fun x r y6 y7 h0 h1 =>
        ⟨r, ms ++ [x], y6, y7, rfl, same_mut sm np, by rw [upd_same, List.map_append]; rfl, by rw [List.length_append, hm]; rfl, fun m hm => by
          rcases List.mem_append.mp hm with hm | hm
          · exact hb m hm
          · rw [List.mem_singleton.mp hm]; exact ⟨h0, h1⟩⟩
      have e0 : (0 : Int) + (i : Int) = (i : Int) := Int.zero_add _
      rw [e0]
      have l2 : ∀ x : Int, 0 ≤ x % l ∧ x % l < l := fun x => ⟨Int.emod_nonneg _ (by omega), Int.emod_lt_of_pos _ l0⟩
      refine ⟨_, rfl, _, rfl, iteShare (iteF ?_) (fun h1 els => ?_)⟩
      · refine ⟨_, rfl, _, rfl, _, _, rfl, rfl, _, _, rfl, rfl, .inr ⟨by decide, by decide⟩, _, rfl, _, _, rfl, rfl, .inr ⟨by decide, by decide⟩, _, _, rfl, rfl, .inl ⟨_, rfl, _, _, rfl, rfl, (show (0 : Int) < 2147483647 by decide), _, rfl, fun y _ => ?_⟩⟩
        refine ⟨_, rfl, _, _, rfl, rfl, .inr ⟨by decide, by decide⟩, _, rfl, _, _, rfl, rfl, .inl ⟨by decide, by decide⟩, _, _, rfl, rfl, .inl ⟨_, rfl, _, _, rfl, rfl, (show (0 : Int) < 2147483629 by decide), _, rfl, fun z _ => ?_⟩⟩
        refine ⟨_, rfl, .inl ⟨rfl, _, SqL.of hp⟩, _, rfl, _, _, rfl, rfl, ⟨by decide, by decide⟩, .inl ⟨_, rfl, _, rfl, _, _, rfl, rfl, l0, _, _, _, rfl, rfl, hp, hz, ?_⟩⟩
        exact more _ r _ _ (l2 _).1 (l2 _).2
      · refine ⟨_, rfl, _, _, rfl, rfl, _, rfl, iteD (fun h2 => ?_) (fun h2 => unF els)⟩
        refine ⟨_, rfl, .inl ⟨rfl, _, SqL.of hp⟩, _, rfl, .inl ⟨_, rfl, _, rfl, _, _, rfl, rfl, l0, _, _, _, rfl, rfl, hp, hz, ?_⟩⟩
        refine ⟨_, rfl, _, rfl, _, _, rfl, rfl, ⟨l0, by omega⟩, _, rfl, fun r2 _ => ?_⟩
        exact more _ r2 _ _ (l2 _).1 (l2 _).2
    · obtain ⟨r, ms, y6, y7, rfl, sm, hp, hm, hb⟩ := hI
      exact ⟨_, rfl, q p H1 ms sm np hp hm hb⟩

theorem ok__law_trim (T : Tx K mg) : OkF P w K mg base 1 (He.fAd K ("_law_trim", none)) ["xs"] (spTri K) := by
  refine okF_of (d := d__law_trim) T.d__law_trim rfl sc__law_trim (fun _ _ _ _ _ _ us hl => match us, hl with | [_], _ => rfl) (fun vs H Q E h => ?_) (fun cdv A outer s H vs Q E hr h => ?_)
  · first | (obtain ⟨_, rfl, _⟩ := h; rfl) | (obtain ⟨_, _, rfl, _⟩ := h; rfl) | (obtain ⟨_, _, _, rfl, _⟩ := h; rfl) | (obtain ⟨_, _, _, _, rfl, _⟩ := h; rfl) | (obtain ⟨_, _, _, _, _, rfl, _⟩ := h; rfl) | (obtain ⟨_, _, _, _, _, _, rfl, _⟩ := h; rfl) | (obtain ⟨_, _, _, _, _, _, _, rfl, _⟩ := h; rfl) | (obtain ⟨_, _, _, _, _, _, _, _, rfl, _⟩ := h; rfl) | (obtain ⟨_, _, _, _, _, _, _, _, _, rfl, _⟩ := h; rfl) | (obtain ⟨_, _, _, _, _, _, _, _, _, _, rfl, _⟩ := h; rfl)
  · obtain ⟨a, xs, rfl, hS, hl, q⟩ := h
    refine ⟨_, (pss_cons (ps_setI (i := 1) sc__law_trim.nd rfl (Or.inl rfl) pe_int)
      (pss_cons (ps_for PassesOwn.leaving rfl (pi_range1 rfl T.z_range (pa_cons (pe_callB call_len_seq (by rfl) T.z_len PySem.boot_len (pa_cons (pv 0) pa_nil)) pa_nil)) (pg_name (i := 2) sc__law_trim.nd rfl (Or.inl rfl)) (pss_one (ps_if (pt_cmpR op_ne (pe_ix ix_list (pv 0) (pv 2) (fun _ _ => rfl)) pe_int (nomark _)) (pss_one (ps_setI (i := 1) sc__law_trim.nd rfl (Or.inl rfl) (pe_op op_add (pv 2) pe_int))) pss_nil)))
      (pss_one (ps_ret (pe_slice sl_list (pv 0) po_none (po_some (pv 1))))))), ?_⟩
    refine ⟨_, rfl, fun s0 e0 => ?_⟩
    refine ⟨_, rfl, _, _, rfl, .inl hS, _, rfl, by rw [len_map]; omega, by rw [len_map]; omega, for_range (lo := 0) (n := ((xs.map V.int).length : Int).toNat) (fun i σ' H' => H = H' ∧ ∃ (n : Nat) (y : Option V), σ' = [some (.ref a), some (.int (n : Int)), y] ∧ TrA xs i n)
      ⟨rfl, 0, none, by rw [e0]; rfl, Nat.le_refl _, fun k h1 h2 => by omega, .inl rfl⟩ (fun i σ' H' hi hI => ?_) (fun σ' H' hI => ?_)⟩
    · obtain ⟨rfl, n, y, rfl, t⟩ := hI
      rw [len_map] at hi
      have il : i < xs.length := by omega
      refine ⟨_, rfl, _, rfl, _, _, _, _, rfl, rfl, hS, at_of (j := i) (by omega) (map_at (get_of_lt il)), rfl, _, rfl, iteEqN (fun c => ?_) (fun c => ?_)⟩
      · refine ⟨_, rfl, _, _, rfl, rfl, _, rfl, fun n1 e1 => ?_⟩
        refine ⟨rfl, i + 1, some (.int (0 + (i : Int))), ?_, t.yes c⟩
        rw [e1, show (0 : Int) + (i : Int) + 1 = ((i + 1 : Nat) : Int) by omega]
        rfl
      · exact ⟨rfl, n, _, rfl, t.no c⟩
    · obtain ⟨rfl, n, y, rfl, t⟩ := hI
      rw [len_map] at t
      replace t : TrA xs xs.length n := t
      have hn : n ≤ xs.length := t.le
      refine ⟨_, rfl, _, rfl, _, rfl, _, _, rfl, hS, fun p np => ?_⟩
      rw [cut_lo (by rw [len_map]; exact hn), ← List.map_take]
      exact q p _ _ (sm_new np) np upd_same t.fin.tf (by rw [List.length_take]; omega)

theorem ok__law_draw (T : Tx K mg) (O__law_digits : OkF P w K mg base 1 (He.fAd K ("_law_digits", none)) ["cell", "limit", "count"] (spDig K)) (O__law_trim : OkF P w K mg base 1 (He.fAd K ("_law_trim", none)) ["xs"] (spTri K)) : OkF P w K mg base 2 (He.fAd K ("_law_draw", none)) ["cell", "most"] (spLDw K) := by
  obtain ⟨_, G__law_digits, b__law_digits, k__law_digits⟩ := O__law_digits
  obtain ⟨_, G__law_trim, b__law_trim, k__law_trim⟩ := O__law_trim
  refine okF_of (d := d__law_draw) T.d__law_draw rfl sc__law_draw (fun _ _ _ _ _ _ us hl => match us, hl with | [_, _], _ => rfl) (fun vs H Q E h => ?_) (fun cdv A outer s H vs Q E hr h => ?_)
  · first | (obtain ⟨_, rfl, _⟩ := h; rfl) | (obtain ⟨_, _, rfl, _⟩ := h; rfl) | (obtain ⟨_, _, _, rfl, _⟩ := h; rfl) | (obtain ⟨_, _, _, _, rfl, _⟩ := h; rfl) | (obtain ⟨_, _, _, _, _, rfl, _⟩ := h; rfl) | (obtain ⟨_, _, _, _, _, _, rfl, _⟩ := h; rfl) | (obtain ⟨_, _, _, _, _, _, _, rfl, _⟩ := h; rfl) | (obtain ⟨_, _, _, _, _, _, _, _, rfl, _⟩ := h; rfl) | (obtain ⟨_, _, _, _, _, _, _, _, _, rfl, _⟩ := h; rfl) | (obtain ⟨_, _, _, _, _, _, _, _, _, _, rfl, _⟩ := h; rfl)
  · obtain ⟨c, m, rfl, m0, m1, q⟩ := h
    refine ⟨_, (pss_cons (ps_set (i := 2) sc__law_draw.nd rfl (Or.inl rfl) (pe_call G__law_digits (hr.mono (by decide)) (by rfl) T.g__law_digits k__law_digits b__law_digits .nil passL (pa_cons (pv 0) (pa_cons pe_int (pa_cons (pe_op op_add (pv 1) pe_int) pa_nil)))))
      (pss_cons (ps_set (i := 3) sc__law_draw.nd rfl (Or.inl rfl) (pe_lst pa_nil))
      (pss_cons (ps_for PassesOwn.leaving rfl (pi_list (pe_slice sl_list (pv 2) (po_some pe_int) (po_some (pe_op op_add pe_int (pe_op op_mod (pe_callTy call_int1 (by rfl) T.z_int (by decide +kernel) (pa_cons (pe_ix ix_list (pv 2) pe_int (fun _ _ => rfl)) pa_nil)) (pe_op op_add (pv 1) pe_int)))))) (pg_name (i := 4) sc__law_draw.nd rfl (Or.inl rfl)) (pss_one (ps_if (PW.pt (pw_and (pt_cmpR op_eq (pe_op op_mod (pe_callTy call_int1 (by rfl) T.z_int (by decide +kernel) (pa_cons (pe_ix ix_list (pv 2) pe_int (fun _ _ => rfl)) pa_nil)) pe_int) pe_int (nomark _)) (pw_and1 (pt_cmpR op_eq (pe_op op_mod (pe_callTy call_int1 (by rfl) T.z_int (by decide +kernel) (pa_cons (pe_op op_fdiv (pv 4) pe_int) pa_nil)) pe_int) pe_int (nomark _))))) (pss_one (ps_expr (pe_bm PySem.F.plainAttrs_list PySem.F.slot_list_append PySem.F.type_list_append mt_append (pv 3) (pa_cons pe_int pa_nil)))) (pss_one (ps_expr (pe_bm PySem.F.plainAttrs_list PySem.F.slot_list_append PySem.F.type_list_append mt_append (pv 3) (pa_cons (pe_op op_sub (pe_op op_mod (pe_callTy call_int1 (by rfl) T.z_int (by decide +kernel) (pa_cons (pv 4) pa_nil)) pe_int) pe_int) pa_nil)))))))
      (Evl.pss_cut (ps_if (pt_cmpR op_eq (pe_callB call_len_seq (by rfl) T.z_len PySem.boot_len (pa_cons (pe_call G__law_trim (hr.mono (by decide)) (by rfl) T.g__law_trim k__law_trim b__law_trim .nil passL (pa_cons (pv 3) pa_nil)) pa_nil)) pe_int (nomark _)) (pss_one (ps_set (i := 3) sc__law_draw.nd rfl (Or.inl rfl) (pe_lst (pa_cons (pe_op op_add (pe_op op_mod (pe_callTy call_int1 (by rfl) T.z_int (by decide +kernel) (pa_cons (pe_ix ix_list (pv 2) pe_int (fun _ _ => rfl)) pa_nil)) pe_int) pe_int) pa_nil)))) pss_nil)
      (pss_one (ps_ret (pe_tup (pa_cons (pe_call G__law_trim (hr.mono (by decide)) (by rfl) T.g__law_trim k__law_trim b__law_trim .nil passL (pa_cons (pv 3) pa_nil)) (pa_cons (pe_op op_add (pe_op op_mod (pe_callTy call_int1 (by rfl) T.z_int (by decide +kernel) (pa_cons (pe_op op_fdiv (pe_ix ix_list (pv 2) pe_int (fun _ _ => rfl)) pe_int) pa_nil)) pe_int) pe_int) pa_nil))))))))), ?_⟩
    refine ⟨_, rfl, _, rfl, _, _, rfl, rfl, c, 228, m + 3, rfl, by decide, by decide, by omega, by omega, fun p H1 ms s1 np hp ml mb => ?_⟩
    have sd : SqL K H1 p (ms.map V.int) := SqL.of hp
    have i0 : (0 : Nat) < ms.length := by omega
    have i1 : (1 : Nat) < ms.length := by omega
    refine ⟨Nat.zero_le _, fun pc npc => ?_⟩
    have s2 := sm_new (o := .lst []) npc
    refine ⟨_, rfl, _, rfl, _, rfl, _, _, _, _, rfl, rfl, s2.seq sd, atI_nat (j := 0) (map_at (get_of_lt i0)), .inl ⟨_, rfl, _, rfl, _, _, rfl, rfl, _, _, rfl, rfl, (show (0 : Int) < _ by omega), _, _, rfl, rfl, _, rfl, p, _, rfl, s2.seq sd, fun pk npk => ?_⟩⟩
    rw [cutV_map]
    obtain ⟨cut, hcut, cm, cl⟩ : ∃ cut : List Int, (ms.drop (HT.sIx ms.length 0 (some 2))).take (HT.sIx ms.length ms.length (some (3 + ms.getD 0 0 % (m + 1))) - HT.sIx ms.length 0 (some 2)) = cut ∧ (∀ x ∈ cut, x ∈ ms) ∧ cut.length ≤ ms.length := ⟨_, rfl, fun x hx => List.mem_of_mem_drop (List.mem_of_mem_take hx), by rw [List.length_take, List.length_drop]; omega⟩
    rw [hcut]
    have s3 := sm_new (o := .lst (cut.map V.int)) npk
    have hk : (upd (upd H1 pc (.lst [])) pk (.lst (cut.map V.int))) pk = some (.lst (cut.map V.int)) := upd_same
    have hc0 : (upd (upd H1 pc (.lst [])) pk (.lst (cut.map V.int))) pc = some (.lst (([] : List Int).map V.int)) := s3 _ _ upd_same
    have s23 := s2.trans s3
    generalize upd (upd H1 pc (.lst [])) pk (.lst (cut.map V.int)) = H2 at hk hc0 s23 ⊢
    have pck : pk ≠ pc := fun z => by rw [z] at npk; rw [upd_same] at npk; cases npk
    have s13 := s1.trans s23
    refine ⟨_, rfl, ⟨_, SqL.of hk⟩, for_list (K := K) (a := pk) (xs := cut.map V.int) (fun i σ' H' => ∃ (cs : List Int) (y : Option V), σ' = [some (.int c), some (.int m), some (.ref p), some (.ref pc), y] ∧ Same H1 H' ∧ H' pk = some (.lst (cut.map V.int)) ∧ H' pc = some (.lst (cs.map V.int)) ∧ cs.length = i ∧ Bits 5 cs)
      ⟨[], none, rfl, s23, hk, hc0, rfl, ⟨fun x h => absurd h (by simp)⟩⟩ (fun i σ' H' hi hI => ?_) (fun i x σ' H' hi hI => ?_) (fun σ' H' hI => ?_)⟩
    · obtain ⟨cs, y, rfl, sm, hk', hc', cl2, cb⟩ := hI
      exact SqL.of hk'
    · obtain ⟨cs, y, rfl, sm, hk', hc', cl2, cb⟩ := hI
      obtain ⟨x, hx, rfl⟩ := get_map_int hi
      have il : i < cut.length := (List.getElem?_eq_some_iff.mp hx).1
      have sz : (cs.map V.int).length < sizeLine := by rw [len_map]; exact small1000 (by omega)
      have more : ∀ v : Int, -9 ≤ v ∧ v ≤ 9 → ∃ (cs' : List Int) (y : Option V), [some (.int c), some (.int m), some (.ref p), some (.ref pc), some (.int x)] = [some (.int c), some (.int m), some (.ref p), some (.ref pc), y] ∧ Same H1 (upd H' pc (.lst (cs.map V.int ++ [.int v]))) ∧ (upd H' pc (.lst (cs.map V.int ++ [.int v]))) pk = some (.lst (cut.map V.int)) ∧ (upd H' pc (.lst (cs.map V.int ++ [.int v]))) pc = some (.lst (cs'.map V.int)) ∧ cs'.length = i + 1 ∧ Bits 5 cs' := fun v hv =>
        ⟨cs ++ [v], _, rfl, same_mut sm npc, by rw [upd_ne pck]; exact hk', by rw [upd_same, List.map_append]; rfl, by rw [List.length_append, cl2]; rfl, ⟨fun z hz => by
          rcases List.mem_append.mp hz with hz | hz
          · exact cb.all z hz
          · rw [List.mem_singleton.mp hz]; omega⟩⟩
      have addno : 0 ≤ x := (mb x (cm x (List.mem_of_getElem? hx))).1
      have els : ∀ {A B : Prop}, B → (if false = true then A else B) := fun h => iteF h
      refine ⟨_, rfl, _, _, _, _, rfl, rfl, sm.seq sd, atI_nat (j := 1) (map_at (get_of_lt i1)), .inl ⟨_, rfl, _, _, rfl, rfl, (show (0 : Int) < 3 by decide), rfl, _, rfl, iteEq (fun c1 => ?_) (fun c1 => iteN rfl ?_)⟩⟩
      · refine ⟨_, rfl, _, _, rfl, rfl, ⟨by decide, by decide⟩, .inl ⟨_, rfl, _, _, rfl, rfl, (show (0 : Int) < 2 by decide), rfl, _, rfl, iteEq (fun c2 => ?_) (fun c2 => ?_)⟩⟩
        · refine ⟨_, rfl, .inl ⟨rfl, _, SqL.of hc'⟩, _, _, _, rfl, rfl, hc', sz, ?_⟩
          exact more 0 (by omega)
        · refine ⟨_, rfl, .inl ⟨rfl, _, SqL.of hc'⟩, _, rfl, .inl ⟨_, rfl, _, _, rfl, rfl, (show (0 : Int) < 19 by decide), _, _, rfl, rfl, _, _, _, rfl, rfl, hc', sz, ?_⟩⟩
          exact more (x % 19 - 9) (by omega)
      · refine ⟨_, rfl, .inl ⟨rfl, _, SqL.of hc'⟩, _, rfl, .inl ⟨_, rfl, _, _, rfl, rfl, (show (0 : Int) < 19 by decide), _, _, rfl, rfl, _, _, _, rfl, rfl, hc', sz, ?_⟩⟩
        exact more (x % 19 - 9) (by omega)
    obtain ⟨cs, y, rfl, sm, hk', hc', cl2, cb⟩ := hI
    rw [len_map] at cl2
    have csl : cs.length ≤ 7 := by omega
    have np1 : H pc = none := s1.free npc
    have sH := s1.trans sm
    -- the end, for any list of coefficients that is not all zeros
    refine ⟨fun σ' H'' => ∃ (pd : Addr) (ds : List Int), σ' = [some (.int c), some (.int m), some (.ref p), some (.ref pd), y] ∧ Same H1 H'' ∧ H'' pd = some (.lst (ds.map V.int)) ∧ ds.length ≤ 7 ∧ Bits 5 ds ∧ ∃ i, ds.getD i 0 ≠ 0, ?_, ?_⟩
    · refine ⟨_, rfl, pc, cs, rfl, SqL.of hc', by omega, fun p2 H3 zs s4 np2 hp2 tz lz => ?_⟩
      refine ⟨_, _, rfl, .inl (SqL.of hp2), rfl, _, rfl, iteEq (fun z => ?_) (fun z => ?_)⟩
      · refine ⟨_, rfl, _, _, _, _, rfl, rfl, (sm.trans s4).seq sd, atI_nat (j := 0) (map_at (get_of_lt i0)), .inl ⟨_, rfl, _, _, rfl, rfl, (show (0 : Int) < 7 by decide), _, _, rfl, rfl, by show 1 ≤ sizeLine; decide, fun p4 np4 => ?_⟩⟩
        refine ⟨p4, [ms.getD 0 0 % 7 + 1], rfl, (sm.trans s4).trans (sm_new np4), upd_same, by show 1 ≤ 7; decide, ⟨fun x hx => ?_⟩, 0, ?_⟩
        · rw [List.mem_singleton.mp hx]; omega
        · show ms.getD 0 0 % 7 + 1 ≠ 0
          omega
      · rw [len_map] at z
        refine ⟨pc, cs, rfl, sm.trans s4, s4 _ _ hc', csl, cb, ?_⟩
        refine Classical.byContradiction fun no => z ?_
        have : zs.length ≤ 0 := tz.len fun k _ => Classical.byContradiction fun w => no ⟨k, w⟩
        omega
    · rintro _ H3 ⟨pd, ds, rfl, sm3, hd, dl, dbt, i, nz⟩
      refine ⟨_, rfl, pd, ds, rfl, SqL.of hd, by omega, fun p2 H4 zs s4 np2 hp2 tz lz => ?_⟩
      refine ⟨_, rfl, _, _, _, _, rfl, rfl, (sm3.trans s4).seq sd, atI_nat (j := 1) (map_at (get_of_lt i1)), _, _, rfl, rfl, ⟨by decide, by decide⟩, .inl ⟨_, rfl, _, _, rfl, rfl, (show (0 : Int) < 3 by decide), _, _, rfl, rfl, by show 2 ≤ sizeLine; decide, fun p5 np5 => ?_⟩⟩
      have s5 := sm_new (o := .tup [.ref p2, .int (ms.getD 1 0 / 3 % 3 + 1)]) np5
      refine q p5 _ zs (ms.getD 1 0 / 3 % 3 + 1) ((s1.trans (sm3.trans s4)).trans s5) (s1.free (sm3.free (s4.free np5))) ⟨p2, upd_same, s5 _ _ hp2⟩ ⟨tz.self, fun z => nz ?_, bits_tf tz fun k => dbt.getD k, by omega, by omega, by omega⟩
      rw [show ds.getD i 0 = ff ds i from rfl, ← tz.at_, z]
      rfl

theorem ok__law_scale (T : Tx K mg) (O__law_trim : OkF P w K mg base 1 (He.fAd K ("_law_trim", none)) ["xs"] (spTri K)) : OkF P w K mg base 2 (He.fAd K ("_law_scale", none)) ["xs", "factor"] (spLSc K) := by
  obtain ⟨_, G__law_trim, b__law_trim, k__law_trim⟩ := O__law_trim
  refine okF_of (d := d__law_scale) T.d__law_scale rfl sc__law_scale (fun _ _ _ _ _ _ us hl => match us, hl with | [_, _], _ => rfl) (fun vs H Q E h => ?_) (fun cdv A outer s H vs Q E hr h => ?_)
  · first | (obtain ⟨_, rfl, _⟩ := h; rfl) | (obtain ⟨_, _, rfl, _⟩ := h; rfl) | (obtain ⟨_, _, _, rfl, _⟩ := h; rfl) | (obtain ⟨_, _, _, _, rfl, _⟩ := h; rfl) | (obtain ⟨_, _, _, _, _, rfl, _⟩ := h; rfl) | (obtain ⟨_, _, _, _, _, _, rfl, _⟩ := h; rfl) | (obtain ⟨_, _, _, _, _, _, _, rfl, _⟩ := h; rfl) | (obtain ⟨_, _, _, _, _, _, _, _, rfl, _⟩ := h; rfl) | (obtain ⟨_, _, _, _, _, _, _, _, _, rfl, _⟩ := h; rfl) | (obtain ⟨_, _, _, _, _, _, _, _, _, _, rfl, _⟩ := h; rfl)
  · obtain ⟨a, xs, c, k, rfl, hA, b1, bc, l1, hk, q⟩ := h
    refine ⟨_, (pss_one (ps_ret (pe_call G__law_trim (hr.mono (by decide)) (by rfl) T.g__law_trim k__law_trim b__law_trim .nil passL (pa_cons (pe_lc (own := [("x", 2)]) (g := gName 2) rfl sc__law_scale.nd (pi_list (pv 0)) (blkOk_by (own := [("x", 2)]) (N := N__law_scale) (sc := defScope s__law_scale) (by decide +kernel)) (fun _ _ _ _ _ => (pg_name (i := 2) sc__law_scale.nd rfl (Or.inl rfl))) (fun _ _ _ _ _ => pts_nil) (fun _ _ _ _ _ => (pe_op op_mulW (pv 1) (pv 2)))) pa_nil)))), ?_⟩
    refine ⟨_, rfl, _, rfl, ⟨_, hA⟩, fun D nD => lc_list (K := K) (a := a) (xs := xs.map V.int) (fun i H' => Same H H' ∧ ∃ ms : List Int, H' D = some (.lst (ms.map V.int)) ∧ ms.length = i ∧ ms = (xs.take i).map (fun x => c * x)) ⟨sm_new nD, [], upd_same, rfl, rfl⟩ (fun i H' hi hP => hP.1.seq hA) (fun i x H' hi hP => ?_) (fun H' hP => ?_)⟩
    · obtain ⟨sm, ms, hD, hml, hm⟩ := hP
      obtain ⟨m, hx, rfl⟩ := get_map_int hi
      have il : i < xs.length := (List.getElem?_eq_some_iff.mp hx).1
      refine ⟨rfl, yes_ok (iteK rfl ?_)⟩
      refine ⟨_, rfl, _, rfl, _, _, rfl, rfl, mulW bc (b1.all m (List.mem_of_getElem? hx)) (by omega), ms.map V.int, hD, by rw [len_map]; exact small1000 (by omega), same_mut sm nD, ms ++ [c * m], ?_, by rw [List.length_append, hml]; rfl, ?_⟩
      · rw [upd_same, List.map_append]
        rfl
      · rw [hm, List.take_succ, hx, List.map_append]
        rfl
    · obtain ⟨sm, ms, hD, hml, hm⟩ := hP
      rw [len_map, List.take_length] at hm
      have ml2 : ms.length = xs.length := by rw [hml, len_map]
      refine ⟨D, ms, rfl, SqL.of hD, by omega, fun p H2 zs sm2 np hp t tl => ?_⟩
      exact q p H2 zs (sm.trans sm2) (sm.free np) hp (t.congr fun k => by rw [hm]; exact getD_map (f := fun x => c * x) (Int.mul_zero c) xs k) (by omega)

theorem ok__law_sum (T : Tx K mg) (O__law_trim : OkF P w K mg base 1 (He.fAd K ("_law_trim", none)) ["xs"] (spTri K)) : OkF P w K mg base 2 (He.fAd K ("_law_sum", none)) ["xs", "ys"] (spLSm K) := by
  obtain ⟨_, G__law_trim, b__law_trim, k__law_trim⟩ := O__law_trim
  refine okF_of (d := d__law_sum) T.d__law_sum rfl sc__law_sum (fun _ _ _ _ _ _ us hl => match us, hl with | [_, _], _ => rfl) (fun vs H Q E h => ?_) (fun cdv A outer s H vs Q E hr h => ?_)
  · first | (obtain ⟨_, rfl, _⟩ := h; rfl) | (obtain ⟨_, _, rfl, _⟩ := h; rfl) | (obtain ⟨_, _, _, rfl, _⟩ := h; rfl) | (obtain ⟨_, _, _, _, rfl, _⟩ := h; rfl) | (obtain ⟨_, _, _, _, _, rfl, _⟩ := h; rfl) | (obtain ⟨_, _, _, _, _, _, rfl, _⟩ := h; rfl) | (obtain ⟨_, _, _, _, _, _, _, rfl, _⟩ := h; rfl) | (obtain ⟨_, _, _, _, _, _, _, _, rfl, _⟩ := h; rfl) | (obtain ⟨_, _, _, _, _, _, _, _, _, rfl, _⟩ := h; rfl) | (obtain ⟨_, _, _, _, _, _, _, _, _, _, rfl, _⟩ := h; rfl)
  · obtain ⟨a, b, xs, ys, rfl, hA, hB, l1, l2, q⟩ := h
    refine ⟨_, (pss_cons (ps_setLc (i := 2) (own := [("k", 5)]) (g := gName 5) rfl sc__law_sum.nd rfl rfl (sw_true rfl rfl rfl (by decide +kernel)) (pi_range1 rfl T.z_range (pa_cons (pe_callB (call_max2 rfl) (by rfl) T.z_max (by decide +kernel) (pa_cons (pe_callB call_len_seq (by rfl) T.z_len PySem.boot_len (pa_cons (pv 0) pa_nil)) (pa_cons (pe_callB call_len_seq (by rfl) T.z_len PySem.boot_len (pa_cons (pv 1) pa_nil)) pa_nil))) pa_nil)) (blkOk_by (own := [("k", 5)]) (N := N__law_sum) (sc := defScope s__law_sum) (by decide +kernel)) (fun _ _ _ _ _ => (pg_name (i := 5) sc__law_sum.nd rfl (Or.inl rfl))) (fun _ _ _ _ _ => pts_nil) (fun _ _ _ _ _ => pe_int))
      (pss_cons (ps_for PassesOwn.leaving rfl (pi_range1 rfl T.z_range (pa_cons (pe_callB call_len_seq (by rfl) T.z_len PySem.boot_len (pa_cons (pv 0) pa_nil)) pa_nil)) (pg_name (i := 3) sc__law_sum.nd rfl (Or.inl rfl)) (pss_one (ps_asg (pe_ix ix_list (pv 0) (pv 3) (fun _ _ => rfl)) (pg_sub (pv 2) (pv 3) set_list))))
      (pss_cons (ps_for PassesOwn.leaving rfl (pi_range1 rfl T.z_range (pa_cons (pe_callB call_len_seq (by rfl) T.z_len PySem.boot_len (pa_cons (pv 1) pa_nil)) pa_nil)) (pg_name (i := 4) sc__law_sum.nd rfl (Or.inl rfl)) (pss_one (ps_asg (pe_op op_add (pe_ix ix_list (pv 2) (pv 4) (fun _ _ => rfl)) (pe_ix ix_list (pv 1) (pv 4) (fun _ _ => rfl))) (pg_sub (pv 2) (pv 4) set_list))))
      (pss_one (ps_ret (pe_call G__law_trim (hr.mono (by decide)) (by rfl) T.g__law_trim k__law_trim b__law_trim .nil passL (pa_cons (pv 2) pa_nil))))))), ?_⟩
    obtain ⟨N, hN, eN⟩ : ∃ N : Nat, N = max xs.length ys.length ∧ (if ((xs.map V.int).length : Int) < ((ys.map V.int).length : Int) then ((ys.map V.int).length : Int) else ((xs.map V.int).length : Int)) = (N : Int) := ⟨_, rfl, by rw [len_map, len_map]; split <;> omega⟩
    refine ⟨_, rfl, _, _, rfl, .inl hA, _, rfl, _, _, rfl, .inl hB, _, _, rfl, _, rfl, by rw [eN]; omega, by rw [eN]; omega, fun D nD => ?_⟩
    rw [eN]
    refine lc_range (lo := 0) (n := N) (fun i H' => Same H H' ∧ H' D = some (.lst ((List.replicate i (0 : Int)).map V.int))) ⟨sm_new nD, upd_same⟩ (fun i H' hi hP => ?_) (fun H1 hP => ?_)
    · obtain ⟨sm, hD⟩ := hP
      refine ⟨rfl, yes_ok (iteK rfl ?_)⟩
      refine ⟨_, hD, by rw [len_map, List.length_replicate]; exact small1000 (by omega), same_mut sm nD, ?_⟩
      rw [upd_same, List.replicate_succ', List.map_append]
      rfl
    obtain ⟨s1, hD⟩ := hP
    refine ⟨_, rfl, _, _, rfl, .inl (s1.seq hA), _, rfl, by rw [len_map]; omega, by rw [len_map]; omega, for_range (lo := 0) (n := ((xs.map V.int).length : Int).toNat) (fun i σ' H' => ∃ (fs : List Int) (yi : Option V), σ' = [some (.ref a), some (.ref b), some (.ref D), yi, none, none] ∧ Same H H' ∧ H' D = some (.lst (fs.map V.int)) ∧ SuA fs xs ys N i 0)
      ⟨_, none, rfl, s1, hD, SuA.start⟩ (fun i σ' H' hi hI => ?_) (fun σ' H' hI => ?_)⟩
    · obtain ⟨fs, yk, rfl, sm, hf, m⟩ := hI
      rw [len_map] at hi
      have il : i < xs.length := by omega
      have fl : i < fs.length := by rw [m.len]; omega
      refine ⟨_, rfl, _, rfl, _, _, _, _, rfl, rfl, sm.seq hA, at_of (j := i) (by omega) (map_at (get_of_lt il)), _, rfl, _, rfl, D, _, _, i, rfl, rfl, hf, ixN_at (by omega) (by rw [len_map]; exact fl), ?_⟩
      exact ⟨_, _, rfl, same_mut sm nD, by rw [upd_same, map_set_V], m.one (by omega)⟩
    obtain ⟨fs, yk, rfl, sm, hf, m⟩ := hI
    rw [len_map] at m
    replace m : SuA fs xs ys N xs.length 0 := m
    refine ⟨_, rfl, _, _, rfl, .inl (sm.seq hB), _, rfl, by rw [len_map]; omega, by rw [len_map]; omega, for_range (lo := 0) (n := ((ys.map V.int).length : Int).toNat) (fun i σ' H' => ∃ (fs : List Int) (yj : Option V), σ' = [some (.ref a), some (.ref b), some (.ref D), yk, yj, none] ∧ Same H H' ∧ H' D = some (.lst (fs.map V.int)) ∧ SuA fs xs ys N xs.length i)
      ⟨_, _, rfl, sm, hf, m⟩ (fun i σ' H' hi hI => ?_) (fun σ' H' hI => ?_)⟩
    · obtain ⟨fs, yj, rfl, sm, hf, m⟩ := hI
      rw [len_map] at hi
      have il : i < ys.length := by omega
      have fl : i < fs.length := by rw [m.len]; omega
      refine ⟨_, rfl, _, rfl, _, _, _, _, rfl, rfl, SqL.of hf, at_of (j := i) (by omega) (map_at (get_of_lt fl)), _, rfl, _, rfl, _, _, _, _, rfl, rfl, sm.seq hB, at_of (j := i) (by omega) (map_at (get_of_lt il)), _, _, rfl, rfl, _, rfl, _, rfl, D, _, _, i, rfl, rfl, hf, ixN_at (by omega) (by rw [len_map]; exact fl), ?_⟩
      exact ⟨_, _, rfl, same_mut sm nD, by rw [upd_same, map_set_V], m.two (by omega) rfl⟩
    · obtain ⟨fs, yj, rfl, sm, hf, m⟩ := hI
      rw [len_map] at m
      replace m : SuA fs xs ys N xs.length ys.length := m
      refine ⟨_, rfl, D, fs, rfl, SqL.of hf, by rw [m.len]; omega, fun p H2 zs sm2 np hp t tl => ?_⟩
      exact q p H2 zs (sm.trans sm2) (sm.free np) hp (t.congr m.fin) (by rw [m.len] at tl; omega)

theorem ok__law_back (T : Tx K mg) (O__law_scale : OkF P w K mg base 2 (He.fAd K ("_law_scale", none)) ["xs", "factor"] (spLSc K)) (O__law_draw : OkF P w K mg base 2 (He.fAd K ("_law_draw", none)) ["cell", "most"] (spLDw K)) (O__law_sum : OkF P w K mg base 2 (He.fAd K ("_law_sum", none)) ["xs", "ys"] (spLSm K)) : OkF P w K mg base 4 (He.fAd K ("_law_back", none)) ["a", "cell", "style"] (spLBk K) := by
  obtain ⟨_, G__law_scale, b__law_scale, k__law_scale⟩ := O__law_scale
  obtain ⟨_, G__law_draw, b__law_draw, k__law_draw⟩ := O__law_draw
  obtain ⟨_, G__law_sum, b__law_sum, k__law_sum⟩ := O__law_sum
  refine okF_of (d := d__law_back) T.d__law_back rfl sc__law_back (fun _ _ _ _ _ _ us hl => match us, hl with | [_, _, _], _ => rfl) (fun vs H Q E h => ?_) (fun cdv A outer s H vs Q E hr h => ?_)
  · first | (obtain ⟨_, rfl, _⟩ := h; rfl) | (obtain ⟨_, _, rfl, _⟩ := h; rfl) | (obtain ⟨_, _, _, rfl, _⟩ := h; rfl) | (obtain ⟨_, _, _, _, rfl, _⟩ := h; rfl) | (obtain ⟨_, _, _, _, _, rfl, _⟩ := h; rfl) | (obtain ⟨_, _, _, _, _, _, rfl, _⟩ := h; rfl) | (obtain ⟨_, _, _, _, _, _, _, rfl, _⟩ := h; rfl) | (obtain ⟨_, _, _, _, _, _, _, _, rfl, _⟩ := h; rfl) | (obtain ⟨_, _, _, _, _, _, _, _, _, rfl, _⟩ := h; rfl) | (obtain ⟨_, _, _, _, _, _, _, _, _, _, rfl, _⟩ := h; rfl)
  · obtain ⟨a, xs, d, c, s, rfl, hPa, tx, nx, bx, d1, d3, lx, q⟩ := h
    obtain ⟨l, ha, hA⟩ := id hPa
    refine ⟨_, (pss_cons (ps_if (pt_cmpR op_eq (pv 2) pe_int (nomark _)) (pss_one (ps_ret (pv 0))) pss_nil)
      (pss_cons (ps_if (pt_cmpR op_eq (pv 2) pe_int (nomark _)) (pss_one (ps_ret (pe_tup (pa_cons (pe_call G__law_scale (hr.mono (by decide)) (by rfl) T.g__law_scale k__law_scale b__law_scale .nil passL (pa_cons (pe_ix ix_tup (pv 0) pe_int (fun _ _ => rfl)) (pa_cons (pe_un un_neg pe_int) pa_nil))) (pa_cons (pe_ix ix_tup (pv 0) pe_int (fun _ _ => rfl)) pa_nil))))) pss_nil)
      (pss_cons (ps_set (i := 3) sc__law_back.nd rfl (Or.inl rfl) (pe_slice sl_list (pe_ix ix_tup (pe_call G__law_draw (hr.mono (by decide)) (by rfl) T.g__law_draw k__law_draw b__law_draw .nil passL (pa_cons (pv 1) (pa_cons pe_int pa_nil))) pe_int (fun _ _ => rfl)) po_none (po_some (pe_op op_sub (pe_callB call_len_seq (by rfl) T.z_len PySem.boot_len (pa_cons (pe_ix ix_tup (pv 0) pe_int (fun _ _ => rfl)) pa_nil)) pe_int))))
      (Evl.pss_cut (ps_if (PW.pt (pw_and (pt_cmpR op_eq (pv 2) pe_int (nomark _)) (pw_and1 (pt_cmpR op_gt (pe_callB call_len_seq (by rfl) T.z_len PySem.boot_len (pa_cons (pv 3) pa_nil)) pe_int (nomark _))))) (pss_cons (ps_set (i := 3) sc__law_back.nd rfl (Or.inl rfl) (pe_op op_cat (pv 3) (pe_lc (own := [("k", 4)]) (g := gName 4) rfl sc__law_back.nd (pi_range1 rfl T.z_range (pa_cons (pe_op op_sub (pe_op op_sub (pe_callB call_len_seq (by rfl) T.z_len PySem.boot_len (pa_cons (pe_ix ix_tup (pv 0) pe_int (fun _ _ => rfl)) pa_nil)) pe_int) (pe_callB call_len_seq (by rfl) T.z_len PySem.boot_len (pa_cons (pv 3) pa_nil))) pa_nil)) (blkOk_by (own := [("k", 4)]) (N := N__law_back) (sc := defScope s__law_back) (by decide +kernel)) (fun _ _ _ _ _ => (pg_name (i := 4) sc__law_back.nd rfl (Or.inl rfl))) (fun _ _ _ _ _ => pts_nil) (fun _ _ _ _ _ => pe_int))))
      (pss_one (ps_asg (pe_op op_mulW (pe_ix ix_list (pe_ix ix_tup (pv 0) pe_int (fun _ _ => rfl)) (pe_op op_sub (pe_callB call_len_seq (by rfl) T.z_len PySem.boot_len (pa_cons (pe_ix ix_tup (pv 0) pe_int (fun _ _ => rfl)) pa_nil)) pe_int) (fun _ _ => rfl)) (pe_op op_sub (pe_op op_mod (pe_callTy call_int1 (by rfl) T.z_int (by decide +kernel) (pa_cons (pv 1) pa_nil)) pe_int) pe_int)) (pg_sub (pv 3) (pe_op op_sub (pe_callB call_len_seq (by rfl) T.z_len PySem.boot_len (pa_cons (pe_ix ix_tup (pv 0) pe_int (fun _ _ => rfl)) pa_nil)) pe_int) set_list)))) pss_nil)
      (pss_one (ps_ret (pe_tup (pa_cons (pe_call G__law_sum (hr.mono (by decide)) (by rfl) T.g__law_sum k__law_sum b__law_sum .nil passL (pa_cons (pe_ix ix_tup (pv 0) pe_int (fun _ _ => rfl)) (pa_cons (pv 3) pa_nil))) (pa_cons (pe_ix ix_tup (pv 0) pe_int (fun _ _ => rfl)) pa_nil))))))))), ?_⟩
    have xl : 0 < xs.length := List.length_pos_iff.mpr nx
    have top : xs.getD (xs.length - 1) 0 ≠ 0 := tx.tr.resolve_left (by omega)
    refine ⟨_, rfl, rfl, _, rfl, iteEq (fun c1 => ?_) (fun c1 => ?_)⟩
    · exact ⟨_, rfl, q a H xs (fun _ _ e => e) hPa tx nx (bx.mono (by decide)) lx⟩
    refine ⟨_, rfl, rfl, _, rfl, iteEq (fun c2 => ?_) (fun c2 => ?_)⟩
    · refine ⟨_, rfl, _, _, _, _, rfl, rfl, SqT.of ha, atI_nat (j := 0) rfl, _, rfl, l, xs, -1, 5, rfl, SqL.of hA, bx, by decide, by omega, by decide, fun p H1 zs s1 np hp tz lz => ?_⟩
      refine ⟨_, rfl, _, _, _, _, rfl, rfl, SqT.of (s1 _ _ ha), atI_nat (j := 1) rfl, by show 2 ≤ sizeLine; decide, fun p2 np2 => ?_⟩
      have s2 := sm_new (o := .tup [.ref p, .int d]) np2
      refine q p2 _ zs (s1.trans s2) ⟨p, upd_same, s2 _ _ hp⟩ tz.self (fun z => top ?_) (bits_tf tz fun k => by rw [Int.neg_mul, Int.one_mul, Int.natAbs_neg]; exact abs_mono (bx.getD k) (by decide)) (by omega)
      have e := tz.at_ (xs.length - 1)
      rw [z] at e
      have e2 : (0 : Int) = -1 * xs.getD (xs.length - 1) 0 := e
      omega
    -- lower
    refine ⟨_, rfl, c, 4, rfl, by decide, by decide, fun p1 H1 ws g s1 np1 ⟨lw, hp1, hw⟩ ⟨tw, nw, bw, g1, g3, wl⟩ => ?_⟩
    refine ⟨_, _, _, _, rfl, rfl, SqT.of hp1, atI_nat (j := 0) rfl, _, rfl, _, _, _, _, rfl, rfl, SqT.of (s1 _ _ ha), atI_nat (j := 0) rfl, _, _, rfl, .inl (SqL.of (s1 _ _ hA)), _, _, rfl, rfl, _, rfl, lw, _, rfl, SqL.of hw, fun p2 np2 => ?_⟩
    rw [cutV_map]
    obtain ⟨lo, hlo, lol, lob⟩ : ∃ lo : List Int, (ws.drop (HT.sIx ws.length 0 none)).take (HT.sIx ws.length ws.length (some (((xs.map V.int).length : Int) - 1)) - HT.sIx ws.length 0 none) = lo ∧ lo.length ≤ xs.length - 1 ∧ Bits 5 lo := ⟨_, rfl, by
      rw [len_map, show ((xs.length : Int) - 1) = ((xs.length - 1 : Nat) : Int) by omega, HT.sIx_nat, List.length_take]
      omega, ⟨fun x hx => bw.all x (List.mem_of_mem_drop (List.mem_of_mem_take hx))⟩⟩
    rw [hlo]
    have s2 := sm_new (o := .lst (lo.map V.int)) np2
    have h2 : (upd H1 p2 (.lst (lo.map V.int))) p2 = some (.lst (lo.map V.int)) := upd_same
    generalize upd H1 p2 (.lst (lo.map V.int)) = H2 at s2 h2 ⊢
    have s12 := s1.trans s2
    refine ⟨fun σ' H' => ∃ (pl : Addr) (ls : List Int), σ' = [some (.ref a), some (.int c), some (.int s), some (.ref pl), none] ∧ Same H H' ∧ H' pl = some (.lst (ls.map V.int)) ∧ ls.length ≤ xs.length - 1 ∧ Bits 10 ls, ?_, ?_⟩
    · have no : ∃ (pl : Addr) (ls : List Int), ([some (V.ref a), some (V.int c), some (V.int s), some (V.ref p2), none] : List (Option V)) = [some (V.ref a), some (V.int c), some (V.int s), some (V.ref pl), none] ∧ Same H H2 ∧ H2 pl = some (.lst (ls.map V.int)) ∧ ls.length ≤ xs.length - 1 ∧ Bits 10 ls :=
        ⟨p2, lo, rfl, s12, h2, lol, lob.mono (by decide)⟩
      refine ⟨_, rfl, rfl, _, rfl, iteEq (fun c3 => ?_) (fun c3 => iteN rfl no)⟩
      refine ⟨_, rfl, _, _, rfl, .inl (SqL.of h2), _, _, rfl, rfl, _, rfl, iteD (fun c4 => ?_) (fun c4 => no)⟩
      rw [len_map] at c4
      have x2 : 2 ≤ xs.length := by omega
      refine ⟨_, rfl, _, rfl, _, _, _, _, rfl, rfl, SqT.of (s12 _ _ ha), atI_nat (j := 0) rfl, _, _, rfl, .inl (SqL.of (s12 _ _ hA)), _, _, rfl, rfl, _, rfl, _, _, rfl, .inl (SqL.of h2), _, _, rfl, rfl, _, rfl, by rw [len_map, len_map]; omega, by rw [len_map, len_map]; omega, fun D nD => lc_range (lo := 0) (n := (((xs.map V.int).length : Int) - 1 - ((lo.map V.int).length : Int)).toNat) (fun i HL => Same H2 HL ∧ HL D = some (.lst ((List.replicate i (0 : Int)).map V.int))) ⟨sm_new nD, upd_same⟩ (fun i HL hi hP => ?_) (fun H3 hP => ?_)⟩
      · obtain ⟨sm, hD⟩ := hP
        refine ⟨rfl, yes_ok (iteK rfl ?_)⟩
        rw [len_map, len_map] at hi
        refine ⟨_, hD, by rw [len_map, List.length_replicate]; exact small1000 (by omega), same_mut sm nD, ?_⟩
        rw [upd_same, List.replicate_succ', List.map_append]
        rfl
      obtain ⟨s3, hD⟩ := hP
      rw [len_map, len_map] at hD
      obtain ⟨zn, hzn⟩ : ∃ zn : Nat, ((xs.length : Int) - 1 - (lo.length : Int)).toNat = zn := ⟨_, rfl⟩
      rw [hzn] at hD
      refine ⟨_, _, _, _, rfl, rfl, s3 _ _ h2, hD, by rw [len_map, len_map, List.length_replicate]; exact Nat.le_of_lt (small1000 (by omega)), fun p3 np3 => ?_⟩
      have s4 := s3.trans (sm_new (o := .lst (lo.map V.int ++ (List.replicate zn (0 : Int)).map V.int)) np3)
      have h3 : (upd H3 p3 (.lst (lo.map V.int ++ (List.replicate zn (0 : Int)).map V.int))) p3 = some (.lst ((lo ++ List.replicate zn (0 : Int)).map V.int)) := by rw [upd_same, List.map_append]
      generalize upd H3 p3 (.lst (lo.map V.int ++ (List.replicate zn (0 : Int)).map V.int)) = H4 at s4 h3 ⊢
      have np3' : H p3 = none := s12.free (s3.free np3)
      have s14 := s12.trans s4
      have fl : (lo ++ List.replicate zn (0 : Int)).length = xs.length - 1 := by rw [List.length_append, List.length_replicate]; omega
      have fb : Bits 5 (lo ++ List.replicate zn (0 : Int)) := ⟨fun x hx => by
        rcases List.mem_append.mp hx with hx | hx
        · exact lob.all x hx
        · rw [(List.mem_replicate.mp hx).2]; decide⟩
      have xl1 : xs.length - 1 < xs.length := by omega
      refine ⟨_, rfl, _, _, _, _, rfl, rfl, SqT.of (s14 _ _ ha), atI_nat (j := 0) rfl, _, rfl, _, _, _, _, rfl, rfl, SqT.of (s14 _ _ ha), atI_nat (j := 0) rfl, _, _, rfl, .inl (SqL.of (s14 _ _ hA)), _, _, rfl, rfl, _, _, _, _, rfl, rfl, SqL.of (s14 _ _ hA), at_of (j := xs.length - 1) (by rw [len_map]; omega) (map_at (get_of_lt xl1)), _, rfl, .inl ⟨_, rfl, _, _, rfl, rfl, (show (0 : Int) < 13 by decide), _, _, rfl, rfl, _, _, rfl, rfl, mulW (bx.getD _) (show (c % 13 - 3).natAbs < 2 ^ 5 by omega) (by decide), ?_⟩⟩
      refine ⟨_, rfl, _, rfl, _, _, _, _, rfl, rfl, SqT.of (s14 _ _ ha), atI_nat (j := 0) rfl, _, _, rfl, .inl (SqL.of (s14 _ _ hA)), _, _, rfl, rfl, p3, _, _, xs.length - 2, rfl, rfl, h3, ixN_at (by rw [len_map]; omega) (by rw [len_map]; omega), ?_⟩
      refine ⟨p3, (lo ++ List.replicate zn (0 : Int)).set (xs.length - 2) (xs.getD (xs.length - 1) 0 * (c % 13 - 3)), rfl, same_mut s14 np3', by rw [upd_same, map_set_V], by rw [List.length_set, fl]; exact Nat.le_refl _, (fb.mono (by decide)).set (abs_lt_mul (bx.getD _) (show (c % 13 - 3).natAbs < 2 ^ 5 by omega))⟩
    rintro _ H5 ⟨pl, ls, rfl, s5, hls, lsl, bls⟩
    refine ⟨_, rfl, _, _, _, _, rfl, rfl, SqT.of (s5 _ _ ha), atI_nat (j := 0) rfl, _, rfl, l, pl, xs, ls, rfl, SqL.of (s5 _ _ hA), SqL.of hls, by omega, by omega, fun p6 H6 zs s6 np6 hp6 tz lz => ?_⟩
    have s16 := s5.trans s6
    refine ⟨_, rfl, _, _, _, _, rfl, rfl, SqT.of (s16 _ _ ha), atI_nat (j := 1) rfl, by show 2 ≤ sizeLine; decide, fun p7 np7 => ?_⟩
    have s7 := sm_new (o := .tup [.ref p6, .int d]) np7
    refine q p7 _ zs (s16.trans s7) ⟨p6, upd_same, s7 _ _ hp6⟩ tz.self (fun z => top ?_) (bits_tf tz fun k => abs_mono (sz_add (bx.getD k) (bls.getD k)) (by decide)) (by omega)
    have e := tz.at_ (xs.length - 1)
    rw [z] at e
    have e2 : (0 : Int) = xs.getD (xs.length - 1) 0 + ls.getD (xs.length - 1) 0 := e
    rw [getD_end (xs := ls) (by omega)] at e2
    omega

theorem ok__law_shift (T : Tx K mg) : OkF P w K mg base 1 (He.fAd K ("_law_shift", none)) ["xs", "step"] (spLSh K) := by
  refine okF_of (d := d__law_shift) T.d__law_shift rfl sc__law_shift (fun _ _ _ _ _ _ us hl => match us, hl with | [_, _], _ => rfl) (fun vs H Q E h => ?_) (fun cdv A outer s H vs Q E hr h => ?_)
  · first | (obtain ⟨_, rfl, _⟩ := h; rfl) | (obtain ⟨_, _, rfl, _⟩ := h; rfl) | (obtain ⟨_, _, _, rfl, _⟩ := h; rfl) | (obtain ⟨_, _, _, _, rfl, _⟩ := h; rfl) | (obtain ⟨_, _, _, _, _, rfl, _⟩ := h; rfl) | (obtain ⟨_, _, _, _, _, _, rfl, _⟩ := h; rfl) | (obtain ⟨_, _, _, _, _, _, _, rfl, _⟩ := h; rfl) | (obtain ⟨_, _, _, _, _, _, _, _, rfl, _⟩ := h; rfl) | (obtain ⟨_, _, _, _, _, _, _, _, _, rfl, _⟩ := h; rfl) | (obtain ⟨_, _, _, _, _, _, _, _, _, _, rfl, _⟩ := h; rfl)
  · obtain ⟨a, cs, s, kb, sb, rfl, hA, hb, hs, hl, hsb, hk, q⟩ := h
    refine ⟨_, (pss_cons (ps_set (i := 2) sc__law_shift.nd rfl (Or.inl rfl) (pe_callTy call_list_of (by rfl) T.z_list (by decide +kernel) (pa_cons (pv 0) pa_nil)))
      (pss_cons (ps_for PassesOwn.leaving rfl (pi_range1 rfl T.z_range (pa_cons (pe_op op_sub (pe_callB call_len_seq (by rfl) T.z_len PySem.boot_len (pa_cons (pv 2) pa_nil)) pe_int) pa_nil)) (pg_name (i := 3) sc__law_shift.nd rfl (Or.inl rfl)) (pss_one (ps_for PassesOwn.leaving rfl (pi_range3 rfl T.z_range (pa_cons (pe_op op_sub (pe_callB call_len_seq (by rfl) T.z_len PySem.boot_len (pa_cons (pv 2) pa_nil)) pe_int) (pa_cons (pe_op op_sub (pv 3) pe_int) (pa_cons (pe_un un_neg pe_int) pa_nil)))) (pg_name (i := 4) sc__law_shift.nd rfl (Or.inl rfl)) (pss_one (ps_asg (pe_op op_add (pe_ix ix_list (pv 2) (pv 4) (fun _ _ => rfl)) (pe_op op_mulW (pv 1) (pe_ix ix_list (pv 2) (pe_op op_add (pv 4) pe_int) (fun _ _ => rfl)))) (pg_sub (pv 2) (pv 4) set_list))))))
      (pss_one (ps_ret (pv 2))))), ?_⟩
    refine ⟨_, rfl, a, _, rfl, .inl hA, fun p np => ?_⟩
    have s1 := sm_new (o := .lst (cs.map V.int)) np
    have hp : (upd H p (.lst (cs.map V.int))) p = some (.lst (cs.map V.int)) := upd_same
    generalize upd H p (.lst (cs.map V.int)) = H1 at s1 hp ⊢
    have le : ∀ t, t ≤ (cs.length + 1) * (cs.length + 1) → kb + (sb + 1) * t ≤ 400000 := fun t ht => Nat.le_trans (Nat.add_le_add_left (Nat.mul_le_mul_left _ ht) _) hk
    have fin : ∀ H' fs i, Same H H' → H' p = some (.lst (fs.map V.int)) → ShAt s cs fs i → cs.length ≤ i + 1 → Bits (kb + (sb + 1) * (i * (cs.length + 1))) fs → i ≤ cs.length → Q (.ref p) H' := fun H' fs i sm hf m hi mb il => by
      refine q p H' fs sm np hf ⟨fun k => by rw [m.fin hi, shC_eq], m.len⟩ (mb.mono ?_)
      exact Nat.add_le_add_left (Nat.mul_le_mul_left _ (Nat.mul_le_mul_right _ (by omega))) _
    refine ⟨_, rfl, _, _, rfl, .inl (SqL.of hp), _, _, rfl, rfl, _, rfl, by rw [len_map]; omega, by rw [len_map]; omega, for_range (lo := 0) (n := (((cs.map V.int).length : Int) - 1).toNat) (fun i σ' H' => ∃ (fs : List Int) (yi yj : Option V), σ' = [some (.ref a), some (.int s), some (.ref p), yi, yj] ∧ Same H H' ∧ H' p = some (.lst (fs.map V.int)) ∧ ShAt s cs fs i ∧ Bits (kb + (sb + 1) * (i * (cs.length + 1))) fs)
      ⟨cs, none, none, rfl, s1, hp, ShAt.start, by rw [Nat.zero_mul, Nat.mul_zero]; exact hb⟩ (fun i σ' H' hi hI => ?_) (fun σ' H' hI => ?_)⟩
    · obtain ⟨fs, yi, yj, rfl, sm, hf, m, mb⟩ := hI
      rw [len_map] at hi
      have il : i + 1 < cs.length := by omega
      have fl := m.len
      have lt1 : i * (cs.length + 1) + (cs.length + 1) ≤ (cs.length + 1) * (cs.length + 1) := by
        have z := Nat.mul_le_mul_right (cs.length + 1) (show i + 1 ≤ cs.length + 1 by omega)
        rwa [Nat.add_mul, Nat.one_mul] at z
      have lm : ((fs.map V.int).length : Int) = (cs.length : Int) := by rw [len_map, fl]
      refine ⟨_, rfl, _, _, rfl, .inl (SqL.of hf), _, _, rfl, rfl, _, rfl, _, _, rfl, rfl, _, rfl, _, _, _, _, rfl, RgC.neg (by omega) (by omega) (by omega) (by omega), ?_⟩
      rw [lm]
      refine for_rangeC (lo := (cs.length : Int) - 2) (c := -1) (n := ((cs.length : Int) - 2 - (0 + (i : Int) - 1)).toNat) (fun t σ' H' => ∃ (gs : List Int) (yj : Option V), σ' = [some (.ref a), some (.int s), some (.ref p), some (.int (0 + (i : Int))), yj] ∧ Same H H' ∧ H' p = some (.lst (gs.map V.int)) ∧ ShIn s fs gs (cs.length - 1 - t) ∧ Bits (kb + (sb + 1) * (i * (cs.length + 1) + t)) gs)
        ⟨fs, _, rfl, sm, hf, by have z := ShIn.start (s := s) (fs := fs); rwa [fl] at z, mb⟩ (fun t σ' H' ht hI => ?_) (fun σ' H' hI => ?_)
      · obtain ⟨gs, yj, rfl, sm, hg, mi, gb⟩ := hI
        obtain ⟨j, hj⟩ : ∃ j : Nat, cs.length - 1 - t = j + 1 := ⟨cs.length - 2 - t, by omega⟩
        rw [hj] at mi
        have gl := mi.len
        have le1 := le (i * (cs.length + 1) + t) (by omega)
        refine ⟨_, rfl, _, rfl, _, _, _, _, rfl, rfl, SqL.of hg, at_of (j := j) (by omega) (map_at (get_of_lt (by omega))), _, rfl, _, rfl, _, rfl, _, _, rfl, rfl, _, _, _, _, rfl, rfl, SqL.of hg, at_of (j := j + 1) (by omega) (map_at (get_of_lt (by omega))), _, _, rfl, rfl, mulW hs (gb.getD (j + 1)) (by omega), _, _, rfl, rfl, _, rfl, _, rfl, p, _, _, j, rfl, rfl, hg, ixN_at (by omega) (by rw [len_map]; omega), ?_⟩
        have e2 : cs.length - 1 - (t + 1) = j := by omega
        have gb2 : Bits (kb + (sb + 1) * (i * (cs.length + 1) + (t + 1))) gs := gb.mono (Nat.add_le_add_left (Nat.mul_le_mul_left _ (by omega)) _)
        refine ⟨_, _, rfl, same_mut sm np, by rw [upd_same, map_set_V], by rw [e2]; exact mi.step (by omega) rfl, gb2.set (abs_mono (sz_add (gb.getD j) (abs_lt_mul hs (gb.getD (j + 1)))) ?_)⟩
        rw [show i * (cs.length + 1) + (t + 1) = (i * (cs.length + 1) + t) + 1 by omega, Nat.mul_add (sb + 1) _ 1]
        omega
      · obtain ⟨gs, yj, rfl, sm, hg, mi, gb⟩ := hI
        rw [show cs.length - 1 - ((cs.length : Int) - 2 - (0 + (i : Int) - 1)).toNat = i by omega] at mi
        refine ⟨gs, _, _, rfl, sm, hg, m.pass mi (by omega), gb.mono (Nat.add_le_add_left (Nat.mul_le_mul_left _ ?_) _)⟩
        rw [Nat.add_mul, Nat.one_mul]
        omega
    · obtain ⟨fs, yi, yj, rfl, sm, hf, m, mb⟩ := hI
      rw [len_map] at m mb
      exact ⟨_, rfl, fin H' fs _ sm hf m (by omega) mb (by omega)⟩

theorem ok__law_move (T : Tx K mg) (O__law_shift : OkF P w K mg base 1 (He.fAd K ("_law_shift", none)) ["xs", "step"] (spLSh K)) : OkF P w K mg base 3 (He.fAd K ("_law_move", none)) ["part", "step"] (spLMv K) := by
  obtain ⟨_, G__law_shift, b__law_shift, k__law_shift⟩ := O__law_shift
  refine okF_of (d := d__law_move) T.d__law_move rfl sc__law_move (fun _ _ _ _ _ _ us hl => match us, hl with | [_, _], _ => rfl) (fun vs H Q E h => ?_) (fun cdv A outer s H vs Q E hr h => ?_)
  · first | (obtain ⟨_, rfl, _⟩ := h; rfl) | (obtain ⟨_, _, rfl, _⟩ := h; rfl) | (obtain ⟨_, _, _, rfl, _⟩ := h; rfl) | (obtain ⟨_, _, _, _, rfl, _⟩ := h; rfl) | (obtain ⟨_, _, _, _, _, rfl, _⟩ := h; rfl) | (obtain ⟨_, _, _, _, _, _, rfl, _⟩ := h; rfl) | (obtain ⟨_, _, _, _, _, _, _, rfl, _⟩ := h; rfl) | (obtain ⟨_, _, _, _, _, _, _, _, rfl, _⟩ := h; rfl) | (obtain ⟨_, _, _, _, _, _, _, _, _, rfl, _⟩ := h; rfl) | (obtain ⟨_, _, _, _, _, _, _, _, _, _, rfl, _⟩ := h; rfl)
  · obtain ⟨a, cs, d, s, kb, sb, rfl, ⟨l, ha, hA⟩, hb, hs, hl, hsb, hk, q⟩ := h
    refine ⟨_, (pss_one (ps_ret (pe_tup (pa_cons (pe_call G__law_shift (hr.mono (by decide)) (by rfl) T.g__law_shift k__law_shift b__law_shift .nil passL (pa_cons (pe_ix ix_tup (pv 0) pe_int (fun _ _ => rfl)) (pa_cons (pv 1) pa_nil))) (pa_cons (pe_ix ix_tup (pv 0) pe_int (fun _ _ => rfl)) pa_nil))))), ?_⟩
    refine ⟨_, rfl, _, _, _, _, rfl, rfl, SqT.of ha, atI_nat (j := 0) rfl, _, rfl, l, cs, s, kb, sb, rfl, SqL.of hA, hb, hs, hl, hsb, hk, fun p H1 zs sm np hp iz bz => ?_⟩
    refine ⟨_, rfl, _, _, _, _, rfl, rfl, SqT.of (sm _ _ ha), atI_nat (j := 1) rfl, by show 2 ≤ sizeLine; decide, fun p2 np2 => ?_⟩
    have s2 := sm_new (o := .tup [.ref p, .int d]) np2
    exact q p2 _ zs d (sm.trans s2) (sm.free np2) ⟨p, upd_same, s2 _ _ hp⟩ ⟨rfl, iz, bz⟩

theorem ok__law_mul (T : Tx K mg) (O__law_trim : OkF P w K mg base 1 (He.fAd K ("_law_trim", none)) ["xs"] (spTri K)) : OkF P w K mg base 2 (He.fAd K ("_law_mul", none)) ["xs", "ys"] (spLMl K) := by
  obtain ⟨_, G__law_trim, b__law_trim, k__law_trim⟩ := O__law_trim
  refine okF_of (d := d__law_mul) T.d__law_mul rfl sc__law_mul (fun _ _ _ _ _ _ us hl => match us, hl with | [_, _], _ => rfl) (fun vs H Q E h => ?_) (fun cdv A outer s H vs Q E hr h => ?_)
  · first | (obtain ⟨_, rfl, _⟩ := h; rfl) | (obtain ⟨_, _, rfl, _⟩ := h; rfl) | (obtain ⟨_, _, _, rfl, _⟩ := h; rfl) | (obtain ⟨_, _, _, _, rfl, _⟩ := h; rfl) | (obtain ⟨_, _, _, _, _, rfl, _⟩ := h; rfl) | (obtain ⟨_, _, _, _, _, _, rfl, _⟩ := h; rfl) | (obtain ⟨_, _, _, _, _, _, _, rfl, _⟩ := h; rfl) | (obtain ⟨_, _, _, _, _, _, _, _, rfl, _⟩ := h; rfl) | (obtain ⟨_, _, _, _, _, _, _, _, _, rfl, _⟩ := h; rfl) | (obtain ⟨_, _, _, _, _, _, _, _, _, _, rfl, _⟩ := h; rfl)
  · obtain ⟨a, b, xs, ys, k, rfl, hA, hB, b1, b2, l1, l2, hk, q⟩ := h
    refine ⟨_, (pss_cons (ps_setLc (i := 2) (own := [("k", 5)]) (g := gName 5) rfl sc__law_mul.nd rfl rfl (sw_true rfl rfl rfl (by decide +kernel)) (pi_range1 rfl T.z_range (pa_cons (pe_op op_add (pe_callB call_len_seq (by rfl) T.z_len PySem.boot_len (pa_cons (pv 0) pa_nil)) (pe_callB call_len_seq (by rfl) T.z_len PySem.boot_len (pa_cons (pv 1) pa_nil))) pa_nil)) (blkOk_by (own := [("k", 5)]) (N := N__law_mul) (sc := defScope s__law_mul) (by decide +kernel)) (fun _ _ _ _ _ => (pg_name (i := 5) sc__law_mul.nd rfl (Or.inl rfl))) (fun _ _ _ _ _ => pts_nil) (fun _ _ _ _ _ => pe_int))
      (pss_cons (ps_for PassesOwn.leaving rfl (pi_range1 rfl T.z_range (pa_cons (pe_callB call_len_seq (by rfl) T.z_len PySem.boot_len (pa_cons (pv 0) pa_nil)) pa_nil)) (pg_name (i := 3) sc__law_mul.nd rfl (Or.inl rfl)) (pss_one (ps_for PassesOwn.leaving rfl (pi_range1 rfl T.z_range (pa_cons (pe_callB call_len_seq (by rfl) T.z_len PySem.boot_len (pa_cons (pv 1) pa_nil)) pa_nil)) (pg_name (i := 4) sc__law_mul.nd rfl (Or.inl rfl)) (pss_one (ps_asg (pe_op op_add (pe_ix ix_list (pv 2) (pe_op op_add (pv 3) (pv 4)) (fun _ _ => rfl)) (pe_op op_mulW (pe_ix ix_list (pv 0) (pv 3) (fun _ _ => rfl)) (pe_ix ix_list (pv 1) (pv 4) (fun _ _ => rfl)))) (pg_sub (pv 2) (pe_op op_add (pv 3) (pv 4)) set_list))))))
      (pss_one (ps_ret (pe_call G__law_trim (hr.mono (by decide)) (by rfl) T.g__law_trim k__law_trim b__law_trim .nil passL (pa_cons (pv 2) pa_nil)))))), ?_⟩
    refine ⟨_, rfl, _, _, rfl, .inl hA, _, rfl, _, _, rfl, .inl hB, _, _, rfl, rfl, _, rfl, by rw [len_map, len_map]; omega, by rw [len_map, len_map]; omega, fun D nD => lc_range (lo := 0) (n := (((xs.map V.int).length : Int) + ((ys.map V.int).length : Int)).toNat) (fun i H' => Same H H' ∧ H' D = some (.lst ((List.replicate i (0 : Int)).map V.int))) ⟨sm_new nD, upd_same⟩ (fun i H' hi hP => ?_) (fun H1 hP => ?_)⟩
    · obtain ⟨sm, hD⟩ := hP
      refine ⟨rfl, yes_ok (iteK rfl ?_)⟩
      rw [len_map, len_map] at hi
      refine ⟨_, hD, by rw [len_map, List.length_replicate]; exact small1000 (by omega), same_mut sm nD, ?_⟩
      rw [upd_same, List.replicate_succ', List.map_append]
      rfl
    obtain ⟨s1, hD⟩ := hP
    rw [len_map, len_map] at hD
    obtain ⟨N, hN⟩ : ∃ N : Nat, ((xs.length : Int) + (ys.length : Int)).toNat = N := ⟨_, rfl⟩
    rw [hN] at hD
    have hN2 : N = xs.length + ys.length := by omega
    refine ⟨_, rfl, _, _, rfl, .inl (s1.seq hA), _, rfl, by rw [len_map]; omega, by rw [len_map]; omega, for_range (lo := 0) (n := ((xs.map V.int).length : Int).toNat) (fun i σ' H' => ∃ (fs : List Int) (yi yj : Option V), σ' = [some (.ref a), some (.ref b), some (.ref D), yi, yj, none] ∧ Same H H' ∧ H' D = some (.lst (fs.map V.int)) ∧ MulAt fs xs ys N i 0)
      ⟨_, none, none, rfl, s1, hD, MulAt.start⟩ (fun i σ' H' hi hI => ?_) (fun σ' H' hI => ?_)⟩
    · obtain ⟨fs, yi, yj, rfl, sm, hf, m⟩ := hI
      rw [len_map] at hi
      refine ⟨_, rfl, _, _, rfl, .inl (sm.seq hB), _, rfl, by rw [len_map]; omega, by rw [len_map]; omega, for_range (lo := 0) (n := ((ys.map V.int).length : Int).toNat) (fun j σ' H' => ∃ (fs : List Int) (yj : Option V), σ' = [some (.ref a), some (.ref b), some (.ref D), some (.int (0 + (i : Int))), yj, none] ∧ Same H H' ∧ H' D = some (.lst (fs.map V.int)) ∧ MulAt fs xs ys N i j)
        ⟨_, _, rfl, sm, hf, m⟩ (fun j σ' H' hj hI => ?_) (fun σ' H' hI => ?_)⟩
      · obtain ⟨fs, yj, rfl, sm, hf, m⟩ := hI
        rw [len_map] at hj
        have il : i < xs.length := by omega
        have jl : j < ys.length := by omega
        have fl : i + j < fs.length := by rw [m.len]; omega
        refine ⟨_, rfl, _, rfl, _, rfl, _, _, rfl, rfl, _, _, _, _, rfl, rfl, SqL.of hf, at_of (j := i + j) (by omega) (map_at (get_of_lt fl)), _, rfl, _, rfl, _, _, _, _, rfl, rfl, sm.seq hA, at_of (j := i) (by omega) (map_at (get_of_lt il)), _, rfl, _, rfl, _, _, _, _, rfl, rfl, sm.seq hB, at_of (j := j) (by omega) (map_at (get_of_lt jl)), _, _, rfl, rfl, mulW (b1.getD i) (b2.getD j) (by omega), _, _, rfl, rfl, _, rfl, _, rfl, _, rfl, _, _, rfl, rfl, D, _, _, i + j, rfl, rfl, hf, ixN_at (by omega) (by rw [len_map]; exact fl), ?_⟩
        exact ⟨_, _, rfl, same_mut sm nD, by rw [upd_same, map_set_V], m.step (by omega) rfl⟩
      · obtain ⟨fs, yj, rfl, sm, hf, m⟩ := hI
        exact ⟨_, _, _, rfl, sm, hf, m.row (by rw [len_map]; omega)⟩
    · obtain ⟨fs, yi, yj, rfl, sm, hf, m⟩ := hI
      have fm := m.fin (by rw [len_map]; omega) (by omega)
      refine ⟨_, rfl, D, fs, rfl, SqL.of hf, by rw [m.len]; omega, fun p H2 zs sm2 np hp t tl => ?_⟩
      exact q p H2 zs (sm.trans sm2) (sm.free np) hp (t.congr fm.at_) (by rw [m.len] at tl; omega)

theorem ok__law_times (T : Tx K mg) (O__law_mul : OkF P w K mg base 2 (He.fAd K ("_law_mul", none)) ["xs", "ys"] (spLMl K)) : OkF P w K mg base 3 (He.fAd K ("_law_times", none)) ["a", "b"] (spLTm K) := by
  obtain ⟨_, G__law_mul, b__law_mul, k__law_mul⟩ := O__law_mul
  refine okF_of (d := d__law_times) T.d__law_times rfl sc__law_times (fun _ _ _ _ _ _ us hl => match us, hl with | [_, _], _ => rfl) (fun vs H Q E h => ?_) (fun cdv A outer s H vs Q E hr h => ?_)
  · first | (obtain ⟨_, rfl, _⟩ := h; rfl) | (obtain ⟨_, _, rfl, _⟩ := h; rfl) | (obtain ⟨_, _, _, rfl, _⟩ := h; rfl) | (obtain ⟨_, _, _, _, rfl, _⟩ := h; rfl) | (obtain ⟨_, _, _, _, _, rfl, _⟩ := h; rfl) | (obtain ⟨_, _, _, _, _, _, rfl, _⟩ := h; rfl) | (obtain ⟨_, _, _, _, _, _, _, rfl, _⟩ := h; rfl) | (obtain ⟨_, _, _, _, _, _, _, _, rfl, _⟩ := h; rfl) | (obtain ⟨_, _, _, _, _, _, _, _, _, rfl, _⟩ := h; rfl) | (obtain ⟨_, _, _, _, _, _, _, _, _, _, rfl, _⟩ := h; rfl)
  · obtain ⟨a, b, xs, ys, d, e, k, rfl, ⟨l, ha, hA⟩, ⟨m, hb, hB⟩, b1, b2, b3, b4, l1, l2, hk, q⟩ := h
    refine ⟨_, (pss_one (ps_ret (pe_tup (pa_cons (pe_call G__law_mul (hr.mono (by decide)) (by rfl) T.g__law_mul k__law_mul b__law_mul .nil passL (pa_cons (pe_ix ix_tup (pv 0) pe_int (fun _ _ => rfl)) (pa_cons (pe_ix ix_tup (pv 1) pe_int (fun _ _ => rfl)) pa_nil))) (pa_cons (pe_op op_mulW (pe_ix ix_tup (pv 0) pe_int (fun _ _ => rfl)) (pe_ix ix_tup (pv 1) pe_int (fun _ _ => rfl))) pa_nil))))), ?_⟩
    refine ⟨_, rfl, _, _, _, _, rfl, rfl, SqT.of ha, atI_nat (j := 0) rfl, _, rfl, _, _, _, _, rfl, rfl, SqT.of hb, atI_nat (j := 0) rfl, l, m, xs, ys, k, rfl, SqL.of hA, SqL.of hB, b1, b2, l1, l2, by omega, fun p H1 zs sm np hp t tl => ?_⟩
    refine ⟨_, rfl, _, _, _, _, rfl, rfl, SqT.of (sm _ _ ha), atI_nat (j := 1) rfl, _, rfl, _, _, _, _, rfl, rfl, SqT.of (sm _ _ hb), atI_nat (j := 1) rfl, _, _, rfl, rfl, mulW b3 b4 (by omega), by show 2 ≤ sizeLine; decide, fun p2 np2 => ?_⟩
    have s2 := sm_new (o := .tup [.ref p, .int (d * e)]) np2
    exact q p2 _ zs (d * e) (sm.trans s2) (sm.free np2) ⟨p, upd_same, s2 _ _ hp⟩ ⟨rfl, t, tl⟩

theorem ok__law_plus (T : Tx K mg) (O__law_scale : OkF P w K mg base 2 (He.fAd K ("_law_scale", none)) ["xs", "factor"] (spLSc K)) (O__law_sum : OkF P w K mg base 2 (He.fAd K ("_law_sum", none)) ["xs", "ys"] (spLSm K)) : OkF P w K mg base 3 (He.fAd K ("_law_plus", none)) ["a", "b"] (spLPp K) := by
  obtain ⟨_, G__law_scale, b__law_scale, k__law_scale⟩ := O__law_scale
  obtain ⟨_, G__law_sum, b__law_sum, k__law_sum⟩ := O__law_sum
  refine okF_of (d := d__law_plus) T.d__law_plus rfl sc__law_plus (fun _ _ _ _ _ _ us hl => match us, hl with | [_, _], _ => rfl) (fun vs H Q E h => ?_) (fun cdv A outer s H vs Q E hr h => ?_)
  · first | (obtain ⟨_, rfl, _⟩ := h; rfl) | (obtain ⟨_, _, rfl, _⟩ := h; rfl) | (obtain ⟨_, _, _, rfl, _⟩ := h; rfl) | (obtain ⟨_, _, _, _, rfl, _⟩ := h; rfl) | (obtain ⟨_, _, _, _, _, rfl, _⟩ := h; rfl) | (obtain ⟨_, _, _, _, _, _, rfl, _⟩ := h; rfl) | (obtain ⟨_, _, _, _, _, _, _, rfl, _⟩ := h; rfl) | (obtain ⟨_, _, _, _, _, _, _, _, rfl, _⟩ := h; rfl) | (obtain ⟨_, _, _, _, _, _, _, _, _, rfl, _⟩ := h; rfl) | (obtain ⟨_, _, _, _, _, _, _, _, _, _, rfl, _⟩ := h; rfl)
  · obtain ⟨a, b, xs, ys, d, e, k, rfl, ⟨l, ha, hA⟩, ⟨m, hb, hB⟩, b1, b2, b3, b4, l1, l2, hk, q⟩ := h
    refine ⟨_, (pss_one (ps_ret (pe_tup (pa_cons (pe_call G__law_sum (hr.mono (by decide)) (by rfl) T.g__law_sum k__law_sum b__law_sum .nil passL (pa_cons (pe_call G__law_scale (hr.mono (by decide)) (by rfl) T.g__law_scale k__law_scale b__law_scale .nil passL (pa_cons (pe_ix ix_tup (pv 0) pe_int (fun _ _ => rfl)) (pa_cons (pe_ix ix_tup (pv 1) pe_int (fun _ _ => rfl)) pa_nil))) (pa_cons (pe_call G__law_scale (hr.mono (by decide)) (by rfl) T.g__law_scale k__law_scale b__law_scale .nil passL (pa_cons (pe_ix ix_tup (pv 1) pe_int (fun _ _ => rfl)) (pa_cons (pe_ix ix_tup (pv 0) pe_int (fun _ _ => rfl)) pa_nil))) pa_nil))) (pa_cons (pe_op op_mulW (pe_ix ix_tup (pv 0) pe_int (fun _ _ => rfl)) (pe_ix ix_tup (pv 1) pe_int (fun _ _ => rfl))) pa_nil))))), ?_⟩
    refine ⟨_, rfl, _, _, _, _, rfl, rfl, SqT.of ha, atI_nat (j := 0) rfl, _, rfl, _, _, _, _, rfl, rfl, SqT.of hb, atI_nat (j := 1) rfl, l, xs, e, k, rfl, SqL.of hA, b1, b4, by omega, by omega, fun p1 H1 us s1 np1 hp1 t1 tl1 => ?_⟩
    refine ⟨_, rfl, _, _, _, _, rfl, rfl, SqT.of (s1 _ _ hb), atI_nat (j := 0) rfl, _, rfl, _, _, _, _, rfl, rfl, SqT.of (s1 _ _ ha), atI_nat (j := 1) rfl, m, ys, d, k, rfl, SqL.of (s1 _ _ hB), b2, b3, by omega, by omega, fun p2 H2 ws s2 np2 hp2 t2 tl2 => ?_⟩
    refine ⟨p1, p2, us, ws, rfl, SqL.of (s2 _ _ hp1), SqL.of hp2, by omega, by omega, fun p3 H3 zs s3 np3 hp3 t3 tl3 => ?_⟩
    have s13 := (s1.trans s2).trans s3
    refine ⟨_, rfl, _, _, _, _, rfl, rfl, SqT.of (s13 _ _ ha), atI_nat (j := 1) rfl, _, rfl, _, _, _, _, rfl, rfl, SqT.of (s13 _ _ hb), atI_nat (j := 1) rfl, _, _, rfl, rfl, mulW b3 b4 (by omega), by show 2 ≤ sizeLine; decide, fun p4 np4 => ?_⟩
    have s4 := sm_new (o := .tup [.ref p3, .int (d * e)]) np4
    exact q p4 _ zs (d * e) (s13.trans s4) (s13.free np4) ⟨p3, upd_same, s4 _ _ hp3⟩ ⟨rfl, t3.congr fun i => by rw [t1.at_, t2.at_], by omega⟩

theorem ok__law_minus (T : Tx K mg) (O__law_scale : OkF P w K mg base 2 (He.fAd K ("_law_scale", none)) ["xs", "factor"] (spLSc K)) (O__law_plus : OkF P w K mg base 3 (He.fAd K ("_law_plus", none)) ["a", "b"] (spLPp K)) : OkF P w K mg base 4 (He.fAd K ("_law_minus", none)) ["a", "b"] (spLMn K) := by
  obtain ⟨_, G__law_scale, b__law_scale, k__law_scale⟩ := O__law_scale
  obtain ⟨_, G__law_plus, b__law_plus, k__law_plus⟩ := O__law_plus
  refine okF_of (d := d__law_minus) T.d__law_minus rfl sc__law_minus (fun _ _ _ _ _ _ us hl => match us, hl with | [_, _], _ => rfl) (fun vs H Q E h => ?_) (fun cdv A outer s H vs Q E hr h => ?_)
  · first | (obtain ⟨_, rfl, _⟩ := h; rfl) | (obtain ⟨_, _, rfl, _⟩ := h; rfl) | (obtain ⟨_, _, _, rfl, _⟩ := h; rfl) | (obtain ⟨_, _, _, _, rfl, _⟩ := h; rfl) | (obtain ⟨_, _, _, _, _, rfl, _⟩ := h; rfl) | (obtain ⟨_, _, _, _, _, _, rfl, _⟩ := h; rfl) | (obtain ⟨_, _, _, _, _, _, _, rfl, _⟩ := h; rfl) | (obtain ⟨_, _, _, _, _, _, _, _, rfl, _⟩ := h; rfl) | (obtain ⟨_, _, _, _, _, _, _, _, _, rfl, _⟩ := h; rfl) | (obtain ⟨_, _, _, _, _, _, _, _, _, _, rfl, _⟩ := h; rfl)
  · obtain ⟨a, b, xs, ys, d, e, k, rfl, hPa, ⟨m, hb, hB⟩, b1, b2, b3, b4, k0, l1, l2, hk, q⟩ := h
    refine ⟨_, (pss_one (ps_ret (pe_call G__law_plus (hr.mono (by decide)) (by rfl) T.g__law_plus k__law_plus b__law_plus .nil passL (pa_cons (pv 0) (pa_cons (pe_tup (pa_cons (pe_call G__law_scale (hr.mono (by decide)) (by rfl) T.g__law_scale k__law_scale b__law_scale .nil passL (pa_cons (pe_ix ix_tup (pv 1) pe_int (fun _ _ => rfl)) (pa_cons (pe_un un_neg pe_int) pa_nil))) (pa_cons (pe_ix ix_tup (pv 1) pe_int (fun _ _ => rfl)) pa_nil))) pa_nil))))), ?_⟩
    have one : (-1 : Int).natAbs < 2 ^ k := Nat.lt_of_lt_of_le (show (-1 : Int).natAbs < 2 ^ 1 by decide) (Nat.pow_le_pow_right (by decide) k0)
    refine ⟨_, rfl, _, rfl, _, _, _, _, rfl, rfl, SqT.of hb, atI_nat (j := 0) rfl, _, rfl, m, ys, -1, k, rfl, SqL.of hB, b2, one, by omega, by omega, fun p1 H1 us s1 np1 hp1 t1 tl1 => ?_⟩
    refine ⟨_, rfl, _, _, _, _, rfl, rfl, SqT.of (s1 _ _ hb), atI_nat (j := 1) rfl, by show 2 ≤ sizeLine; decide, fun p2 np2 => ?_⟩
    have s2 := sm_new (o := .tup [.ref p1, .int e]) np2
    have bu : Bits k us := bits_tf t1 fun i => by rw [Int.neg_mul, Int.one_mul, Int.natAbs_neg]; exact b2.getD i
    refine ⟨a, p2, xs, us, d, e, k, rfl, (hPa.mono s1).mono s2, ⟨p1, upd_same, s2 _ _ hp1⟩, b1, bu, b3, b4, l1, by omega, hk, fun p3 H3 zs g s3 np3 hp3 ⟨eg, t3, tl3⟩ => ?_⟩
    exact q p3 H3 zs g ((s1.trans s2).trans s3) ((s1.trans s2).free np3) hp3 ⟨eg, t3.congr fun i => by rw [t1.at_]; grind, by omega⟩

theorem ok_trimmed (T : Tx K mg) : OkF P w K mg base 1 (He.fAd K ("trimmed", none)) ["coefs"] (spTrim K) := by
  refine okF_of (d := d_trimmed) T.d_trimmed rfl sc_trimmed (fun _ _ _ _ _ _ us hl => match us, hl with | [_], _ => rfl) (fun vs H Q E h => ?_) (fun cdv A outer s H vs Q E hr h => ?_)
  · first | (obtain ⟨_, rfl, _⟩ := h; rfl) | (obtain ⟨_, _, rfl, _⟩ := h; rfl) | (obtain ⟨_, _, _, rfl, _⟩ := h; rfl) | (obtain ⟨_, _, _, _, rfl, _⟩ := h; rfl) | (obtain ⟨_, _, _, _, _, rfl, _⟩ := h; rfl) | (obtain ⟨_, _, _, _, _, _, rfl, _⟩ := h; rfl) | (obtain ⟨_, _, _, _, _, _, _, rfl, _⟩ := h; rfl) | (obtain ⟨_, _, _, _, _, _, _, _, rfl, _⟩ := h; rfl) | (obtain ⟨_, _, _, _, _, _, _, _, _, rfl, _⟩ := h; rfl) | (obtain ⟨_, _, _, _, _, _, _, _, _, _, rfl, _⟩ := h; rfl)
  · obtain ⟨a, xs, rfl, hS, q⟩ := h
    rcases hS with hS | hS
    · refine ⟨_, (pss_cons (ps_setI (i := 1) sc_trimmed.nd rfl (Or.inl rfl) (pe_callB call_len_seq (by rfl) T.z_len PySem.boot_len (pa_cons (pv 0) pa_nil)))
      (pss_cons (ps_while PassesOwn.leaving (PW.pt (pw_and (pt_cmpR op_gt (pv 1) pe_int (nomark _)) (pw_and1 (pt_cmpR op_eq (pe_ix ix_list (pv 0) (pe_op op_sub (pv 1) pe_int) (fun _ _ => rfl)) pe_int (nomark _))))) (pss_one (ps_setI (i := 1) sc_trimmed.nd rfl (Or.inl rfl) (pe_op op_sub (pv 1) pe_int))))
      (pss_one (ps_ret (pe_callTy call_list_of (by rfl) T.z_list (by decide +kernel) (pa_cons (pe_slice sl_list (pv 0) po_none (po_some (pv 1))) pa_nil)))))), ?_⟩
      refine ⟨_, rfl, _, _, rfl, .inl hS, _, rfl, fun l0 el => ?_⟩
      rw [len_map] at el
      refine ⟨fun m σ' H' => H = H' ∧ ∃ n : Nat, σ' = [some (.ref a), some (.int (n : Int))] ∧ m = n ∧ n ≤ xs.length ∧ ∀ k, n ≤ k → xs.getD k 0 = 0, ⟨_, rfl, xs.length, by rw [el]; rfl, rfl, Nat.le_refl _, fun k hk => getD_end hk⟩, ?_⟩
      rintro m _ _ ⟨rfl, n, rfl, rfl, hn, hz⟩
      have fin : (m = 0 ∨ xs.getD (m - 1) 0 ≠ 0) → Trim xs m := fun h => ⟨hn, hz, h⟩
      refine ⟨_, rfl, _, _, rfl, rfl, _, rfl, iteD (fun h1 => ?_) (fun h1 => ?_)⟩
      · have hm : m - 1 < xs.length := by omega
        refine ⟨_, rfl, _, rfl, _, _, rfl, rfl, _, _, _, _, rfl, rfl, hS, at_of (j := m - 1) (by omega) (map_at (get_of_lt hm)), rfl, _, rfl, iteEq (fun h2 => ?_) (fun h2 => ?_)⟩
        · refine ⟨fun σ2 H2 => ∃ m', m' < m ∧ H = H2 ∧ ∃ n : Nat, σ2 = [some (.ref a), some (.int (n : Int))] ∧ m' = n ∧ n ≤ xs.length ∧ ∀ k, n ≤ k → xs.getD k 0 = 0, fun _ _ h => h, ?_⟩
          refine ⟨_, rfl, _, _, rfl, rfl, _, rfl, fun l1 e1 => ?_⟩
          refine ⟨m - 1, by omega, rfl, m - 1, by rw [e1, show (m : Int) - 1 = ((m - 1 : Nat) : Int) by omega]; rfl, rfl, by omega, fun k hk => ?_⟩
          by_cases c : k = m - 1
          · rw [c]; exact h2
          · exact hz k (by omega)
        · have t := fin (.inr h2)
          refine ⟨_, rfl, _, rfl, _, rfl, _, _, rfl, hS, fun p np => ?_⟩
          rw [cut_lo (by rw [len_map]; exact hn), ← List.map_take]
          exact ⟨_, _, rfl, .inl (SqL.of upd_same), fun l nl => q l _ m ((sm_new np).trans (sm_new nl)) ((sm_new np).free nl) upd_same t⟩
      · have t := fin (.inl (by omega))
        refine ⟨_, rfl, _, rfl, _, rfl, _, _, rfl, hS, fun p np => ?_⟩
        rw [cut_lo (by rw [len_map]; exact hn), ← List.map_take]
        exact ⟨_, _, rfl, .inl (SqL.of upd_same), fun l nl => q l _ m ((sm_new np).trans (sm_new nl)) ((sm_new np).free nl) upd_same t⟩
    · refine ⟨_, (pss_cons (ps_setI (i := 1) sc_trimmed.nd rfl (Or.inl rfl) (pe_callB call_len_seq (by rfl) T.z_len PySem.boot_len (pa_cons (pv 0) pa_nil)))
      (pss_cons (ps_while PassesOwn.leaving (PW.pt (pw_and (pt_cmpR op_gt (pv 1) pe_int (nomark _)) (pw_and1 (pt_cmpR op_eq (pe_ix ix_tup (pv 0) (pe_op op_sub (pv 1) pe_int) (fun _ _ => rfl)) pe_int (nomark _))))) (pss_one (ps_setI (i := 1) sc_trimmed.nd rfl (Or.inl rfl) (pe_op op_sub (pv 1) pe_int))))
      (pss_one (ps_ret (pe_callTy call_list_of (by rfl) T.z_list (by decide +kernel) (pa_cons (pe_slice sl_tupA (pv 0) po_none (po_some (pv 1))) pa_nil)))))), ?_⟩
      refine ⟨_, rfl, _, _, rfl, .inr hS, _, rfl, fun l0 el => ?_⟩
      rw [len_map] at el
      refine ⟨fun m σ' H' => H = H' ∧ ∃ n : Nat, σ' = [some (.ref a), some (.int (n : Int))] ∧ m = n ∧ n ≤ xs.length ∧ ∀ k, n ≤ k → xs.getD k 0 = 0, ⟨_, rfl, xs.length, by rw [el]; rfl, rfl, Nat.le_refl _, fun k hk => getD_end hk⟩, ?_⟩
      rintro m _ _ ⟨rfl, n, rfl, rfl, hn, hz⟩
      have fin : (m = 0 ∨ xs.getD (m - 1) 0 ≠ 0) → Trim xs m := fun h => ⟨hn, hz, h⟩
      refine ⟨_, rfl, _, _, rfl, rfl, _, rfl, iteD (fun h1 => ?_) (fun h1 => ?_)⟩
      · have hm : m - 1 < xs.length := by omega
        refine ⟨_, rfl, _, rfl, _, _, rfl, rfl, _, _, _, _, rfl, rfl, hS, at_of (j := m - 1) (by omega) (map_at (get_of_lt hm)), rfl, _, rfl, iteEq (fun h2 => ?_) (fun h2 => ?_)⟩
        · refine ⟨fun σ2 H2 => ∃ m', m' < m ∧ H = H2 ∧ ∃ n : Nat, σ2 = [some (.ref a), some (.int (n : Int))] ∧ m' = n ∧ n ≤ xs.length ∧ ∀ k, n ≤ k → xs.getD k 0 = 0, fun _ _ h => h, ?_⟩
          refine ⟨_, rfl, _, _, rfl, rfl, _, rfl, fun l1 e1 => ?_⟩
          refine ⟨m - 1, by omega, rfl, m - 1, by rw [e1, show (m : Int) - 1 = ((m - 1 : Nat) : Int) by omega]; rfl, rfl, by omega, fun k hk => ?_⟩
          by_cases c : k = m - 1
          · rw [c]; exact h2
          · exact hz k (by omega)
        · have t := fin (.inr h2)
          refine ⟨_, rfl, _, rfl, _, rfl, _, _, rfl, hS, fun w => ?_, fun w p np => ?_⟩
          · have e : xs.take m = xs := by
              have z := w.2
              rw [HT.sIx_nat, len_map] at z
              exact List.take_of_length_le (by omega)
            exact ⟨_, _, rfl, .inr hS, fun l nl => q l _ m (sm_new nl) nl (by rw [e]; exact upd_same) t⟩
          · rw [cut_lo (by rw [len_map]; exact hn), ← List.map_take]
            exact ⟨_, _, rfl, .inr (SqT.of upd_same), fun l nl => q l _ m ((sm_new np).trans (sm_new nl)) ((sm_new np).free nl) upd_same t⟩
      · have t := fin (.inl (by omega))
        refine ⟨_, rfl, _, rfl, _, rfl, _, _, rfl, hS, fun w => ?_, fun w p np => ?_⟩
        · have e : xs.take m = xs := by
            have z := w.2
            rw [HT.sIx_nat, len_map] at z
            exact List.take_of_length_le (by omega)
          exact ⟨_, _, rfl, .inr hS, fun l nl => q l _ m (sm_new nl) nl (by rw [e]; exact upd_same) t⟩
        · rw [cut_lo (by rw [len_map]; exact hn), ← List.map_take]
          exact ⟨_, _, rfl, .inr (SqT.of upd_same), fun l nl => q l _ m ((sm_new np).trans (sm_new nl)) ((sm_new np).free nl) upd_same t⟩

theorem ok_common_factor (T : Tx K mg) : OkF P w K mg base 1 (He.fAd K ("common_factor", none)) ["numbers"] (spCom K) := by
  refine okF_of (d := d_common_factor) T.d_common_factor rfl sc_common_factor (fun _ _ _ _ _ _ us hl => match us, hl with | [_], _ => rfl) (fun vs H Q E h => ?_) (fun cdv A outer s H vs Q E hr h => ?_)
  · first | (obtain ⟨_, rfl, _⟩ := h; rfl) | (obtain ⟨_, _, rfl, _⟩ := h; rfl) | (obtain ⟨_, _, _, rfl, _⟩ := h; rfl) | (obtain ⟨_, _, _, _, rfl, _⟩ := h; rfl) | (obtain ⟨_, _, _, _, _, rfl, _⟩ := h; rfl) | (obtain ⟨_, _, _, _, _, _, rfl, _⟩ := h; rfl) | (obtain ⟨_, _, _, _, _, _, _, rfl, _⟩ := h; rfl) | (obtain ⟨_, _, _, _, _, _, _, _, rfl, _⟩ := h; rfl) | (obtain ⟨_, _, _, _, _, _, _, _, _, rfl, _⟩ := h; rfl) | (obtain ⟨_, _, _, _, _, _, _, _, _, _, rfl, _⟩ := h; rfl)
  · obtain ⟨a, xs, rfl, hS, q⟩ := h
    refine ⟨_, (pss_cons (ps_setI (i := 1) sc_common_factor.nd rfl (Or.inl rfl) pe_int)
      (pss_cons (ps_for PassesOwn.leaving rfl (pi_list (pv 0)) (pg_name (i := 2) sc_common_factor.nd rfl (Or.inl rfl)) (pss_cons (ps_setI (i := 1) sc_common_factor.nd rfl (Or.inl rfl) (pe_callBfun cr_gcd rfl T.g_gcd (pa_cons (pv 1) (pa_cons (pv 2) pa_nil))))
      (pss_one (ps_if (pt_cmpR op_eq (pv 1) pe_int (nomark _)) (pss_one (ps_ret pe_int)) pss_nil))))
      (pss_one (ps_ret (pv 1))))), ?_⟩
    refine ⟨_, rfl, fun f0 ef => ?_⟩
    refine ⟨_, rfl, _, rfl, ⟨_, hS⟩, for_list (K := K) (a := a) (xs := xs.map V.int) (fun i σ' H' => H = H' ∧ ∃ y : Option V, σ' = [some (.ref a), some (.int ((gcdL (xs.take i) : Nat) : Int)), y]) ⟨rfl, _, by rw [ef]; rfl⟩ (fun i σ' H' hi hI => ?_) (fun i x σ' H' hi hI => ?_) (fun σ' H' hI => ?_)⟩
    · obtain ⟨rfl, y, rfl⟩ := hI
      exact hS
    · obtain ⟨rfl, y, rfl⟩ := hI
      obtain ⟨n, hn, rfl⟩ : ∃ n, xs[i]? = some n ∧ x = V.int n := by
        rw [List.getElem?_map] at hi
        cases e : xs[i]? with
        | none => rw [e] at hi; cases hi
        | some n => rw [e] at hi; cases hi; exact ⟨n, rfl, rfl⟩
      refine ⟨_, rfl, _, rfl, _, _, rfl, _, rfl, fun f1 e1 => ?_⟩
      rw [Int.natAbs_natCast, ← gcdL_more hn] at e1
      refine ⟨_, rfl, rfl, _, rfl, iteEq (fun c => ?_) (fun c => ?_)⟩
      · have g1 : gcdL xs = 1 := gcdL_one (i := i + 1) (by omega)
        rw [g1] at q
        exact q
      · exact ⟨rfl, _, by rw [e1]; rfl⟩
    · obtain ⟨rfl, y, rfl⟩ := hI
      rw [len_map, List.take_length]
      exact ⟨_, rfl, q⟩

theorem ok_Poly___init__ (T : Tx K mg) (O_trimmed : OkF P w K mg base 1 (He.fAd K ("trimmed", none)) ["coefs"] (spTrim K)) (O_common_factor : OkF P w K mg base 1 (He.fAd K ("common_factor", none)) ["numbers"] (spCom K)) : OkD P w K mg base 2 (He.fAd K ("Poly", some "__init__")) ["self", "coefs", "den"] (He.Dv.v K (.int 1)) (spPInit K) := by
  obtain ⟨_, G_trimmed, b_trimmed, k_trimmed⟩ := O_trimmed
  obtain ⟨_, G_common_factor, b_common_factor, k_common_factor⟩ := O_common_factor
  refine okD_of (d := d_Poly___init__) (dv := .int 1) T.d_Poly___init__ rfl sc_Poly___init__ (fun _ _ _ _ _ _ _ us its h1 h2 => match us, its, h1, h2 with | [_, _, _], [_], _, _ => ⟨_, rfl, rfl⟩) (fun _ _ _ _ _ _ _ us its h1 h2 => match us, its, h1, h2 with | [_, _], [_], _, _ => ⟨_, rfl, rfl⟩) (by decide) (fun vs H Q E h => ?_) (fun cdv A outer s H vs Q E hr h => ?_)
  · first | (obtain ⟨_, rfl, _⟩ := h; rfl) | (obtain ⟨_, _, rfl, _⟩ := h; rfl) | (obtain ⟨_, _, _, rfl, _⟩ := h; rfl) | (obtain ⟨_, _, _, _, rfl, _⟩ := h; rfl) | (obtain ⟨_, _, _, _, _, rfl, _⟩ := h; rfl) | (obtain ⟨_, _, _, _, _, _, rfl, _⟩ := h; rfl) | (obtain ⟨_, _, _, _, _, _, _, rfl, _⟩ := h; rfl) | (obtain ⟨_, _, _, _, _, _, _, _, rfl, _⟩ := h; rfl) | (obtain ⟨_, _, _, _, _, _, _, _, _, rfl, _⟩ := h; rfl) | (obtain ⟨_, _, _, _, _, _, _, _, _, _, rfl, _⟩ := h; rfl)
  · obtain ⟨x, dx, a, cs, d, k, rfl, hx, hS, hlen, hb, hk, hE, q⟩ := h
    refine ⟨_, (pss_cons (ps_if (pt_cmpR op_eq (pv 2) pe_int (nomark _)) (pss_one (ps_raise rfl (takes_of rfl rfl rfl rfl) (pmk_own PySem.F.excBase_ValueError T.x_DivisionByZero T.g_DivisionByZero T.k_DivisionByZero (T.r_DivisionByZero rfl) rfl))) pss_nil)
      (pss_cons (ps_set (i := 3) sc_Poly___init__.nd rfl (Or.inl rfl) (pe_call G_trimmed (hr.mono (by decide)) (by rfl) T.g_trimmed k_trimmed b_trimmed .nil passL (pa_cons (pv 1) pa_nil)))
      (pss_cons (ps_setI (i := 4) sc_Poly___init__.nd rfl (Or.inr rfl) (pe_call G_common_factor (hr.mono (by decide)) (by rfl) T.g_common_factor k_common_factor b_common_factor .nil passL (pa_cons (pe_op op_cat (pe_lst (pa_cons (pv 2) pa_nil)) (pv 3)) pa_nil)))
      (Evl.pss_cut (ps_if (pt_cmpR op_lt (pv 2) pe_int (nomark _)) (pss_one (ps_setI (i := 4) sc_Poly___init__.nd rfl (Or.inr rfl) (pe_un un_neg (pv 4)))) pss_nil)
      (pss_cons (ps_fld (pv 0) (pe_callTy call_tuple_of (by rfl) T.z_tuple (by decide +kernel) (pa_cons (pe_lc (own := [("c", 5)]) (g := gName 5) rfl sc_Poly___init__.nd (pi_list (pv 3)) (blkOk_by (own := [("c", 5)]) (N := N_Poly___init__) (sc := defScope s_Poly___init__) (by decide +kernel)) (fun _ _ _ _ _ => (pg_name (i := 5) sc_Poly___init__.nd rfl (Or.inl rfl))) (fun _ _ _ _ _ => pts_nil) (fun _ _ _ _ _ => (pe_op op_fdivZ (pv 5) (pv 4)))) pa_nil)) rfl)
      (pss_one (ps_fld (pv 0) (pe_op op_fdivZ (pv 2) (pv 4)) rfl))))))), ?_⟩
    refine ⟨_, rfl, rfl, _, rfl, iteEq (fun c => ?_) (fun c => ?_)⟩
    · exact hE c
    refine ⟨_, rfl, a, cs, rfl, hS, fun p1 H1 n sm1 np1 hp1 tr => ?_⟩
    refine ⟨_, rfl, by show 1 ≤ sizeLine; decide, fun p2 np2 => ?_⟩
    have s2 := sm_new (o := .lst [.int d]) np2
    have lt : (cs.take n).length ≤ 900 := by rw [List.length_take]; omega
    refine ⟨_, rfl, _, _, _, _, rfl, rfl, upd_same, s2 _ _ hp1, (by show 1 + ((cs.take n).map V.int).length ≤ sizeLine; rw [len_map]; exact Nat.le_of_lt (small1000 (by omega))), fun p3 np3 => ?_⟩
    have s3 := sm_new (o := .lst ([.int d] ++ (cs.take n).map V.int)) np3
    refine ⟨_, d :: cs.take n, rfl, SqL.of upd_same, _, rfl, fun c0 ec => ?_⟩
    generalize hG : upd (upd H1 p2 (.lst [.int d])) p3 (.lst ([.int d] ++ (cs.take n).map V.int)) = G at s3
    have s4 : Same H1 G := s2.trans s3
    refine ⟨fun σ' H' => G = H' ∧ ∃ c : Int, σ' = [some (.ref x), some (.ref a), some (.int d), some (.ref p1), some (.int c), none] ∧ c = if d < 0 then -c0 else c0, ?_, ?_⟩
    · refine ⟨_, rfl, _, _, rfl, rfl, _, rfl, iteD (fun h1 => ?_) (fun h1 => ?_)⟩
      · exact ⟨_, rfl, _, rfl, _, rfl, fun c e => ⟨rfl, c, rfl, by rw [if_pos h1, e]⟩⟩
      · exact ⟨rfl, c0, rfl, by rw [if_neg h1]⟩
    rintro _ _ ⟨rfl, cc, rfl, hc⟩
    rw [ec] at hc
    obtain ⟨cn0, cl, pq⟩ := pq_init c tr hc
    have dz : ∀ u, CDivZ u cc := fun u => divZ cn0 (Nat.lt_of_le_of_lt cl hb) hk
    have hp1G := s4 _ _ hp1
    refine ⟨_, rfl, _, rfl, ⟨_, SqL.of hp1G⟩, fun D nD => lc_list (K := K) (a := p1) (xs := (cs.take n).map V.int) (fun i H' => Same G H' ∧ H' D = some (.lst ((((cs.take n).map fun x => x.fdiv cc).take i).map V.int))) ⟨sm_new nD, by rw [upd_same]; rfl⟩ (fun i H' hi hP => SqL.of (hP.1 _ _ hp1G)) (fun i y H' hi hP => ?_) (fun H' hP => ?_)⟩
    · obtain ⟨sm, hD⟩ := hP
      obtain ⟨u, hu, rfl⟩ : ∃ u, (cs.take n)[i]? = some u ∧ y = V.int u := by
        rw [List.getElem?_map] at hi
        cases e : (cs.take n)[i]? with
        | none => rw [e] at hi; cases hi
        | some u => rw [e] at hi; cases hi; exact ⟨u, rfl, rfl⟩
      refine ⟨rfl, ?_⟩
      unfold tYes
      refine iteK rfl ?_
      refine ⟨_, rfl, _, rfl, _, _, rfl, rfl, dz u, _, hD, ?_, same_mut sm nD, ?_⟩
      · rw [len_map, List.length_take, List.length_map]
        exact small1000 (by omega)
      · rw [upd_same, List.take_succ, List.map_append, List.getElem?_map, hu]
        rfl
    · obtain ⟨sm, hD⟩ := hP
      have e : ((cs.take n).map fun x => x.fdiv cc).take ((cs.take n).map V.int).length = (cs.take n).map fun x => x.fdiv cc := List.take_of_length_le (by rw [List.length_map, List.length_map]; exact Nat.le_refl _)
      rw [e] at hD
      refine ⟨D, _, rfl, .inl ⟨SqL.of hD, fun t nt => ?_⟩⟩
      have s5 : Same H (upd H' t (.tup (((cs.take n).map fun x => x.fdiv cc).map V.int))) := ((sm1.trans s4).trans sm).trans (sm_new nt)
      refine ⟨_, rfl, x, _, dx, [], rfl, s5 _ _ hx, T.cls_Poly, T.n_Poly_coefs, by decide, ?_⟩
      refine ⟨_, rfl, _, rfl, _, _, rfl, rfl, dz d, _, rfl, x, _, dx, _, rfl, upd_same, T.cls_Poly, T.n_Poly_den, (show (1 : Nat) < 1000 by decide), ?_⟩
      have tx : t ≠ x := fun z => by
        have := ((sm1.trans s4).trans sm) _ _ hx
        rw [z, this] at nt
        cases nt
      have z := q c _ t _ _ s5 upd_same tx pq
      rw [← upd_upd (a := x) (o := .ins (CP K) dx (putF "coefs" (.ref t) []))] at z
      exact z

theorem ok__law_poly (T : Tx K mg) (O_Poly___init__ : OkD P w K mg base 2 (He.fAd K ("Poly", some "__init__")) ["self", "coefs", "den"] (He.Dv.v K (.int 1)) (spPInit K)) : OkF P w K mg base 4 (He.fAd K ("_law_poly", none)) ["part"] (spLPo K) := by
  obtain ⟨_, G_Poly___init__, b_Poly___init__, ⟨_, v_Poly___init__, bd_Poly___init__⟩, k_Poly___init__⟩ := O_Poly___init__
  refine okF_of (d := d__law_poly) T.d__law_poly rfl sc__law_poly (fun _ _ _ _ _ _ us hl => match us, hl with | [_], _ => rfl) (fun vs H Q E h => ?_) (fun cdv A outer s H vs Q E hr h => ?_)
  · first | (obtain ⟨_, rfl, _⟩ := h; rfl) | (obtain ⟨_, _, rfl, _⟩ := h; rfl) | (obtain ⟨_, _, _, rfl, _⟩ := h; rfl) | (obtain ⟨_, _, _, _, rfl, _⟩ := h; rfl) | (obtain ⟨_, _, _, _, _, rfl, _⟩ := h; rfl) | (obtain ⟨_, _, _, _, _, _, rfl, _⟩ := h; rfl) | (obtain ⟨_, _, _, _, _, _, _, rfl, _⟩ := h; rfl) | (obtain ⟨_, _, _, _, _, _, _, _, rfl, _⟩ := h; rfl) | (obtain ⟨_, _, _, _, _, _, _, _, _, rfl, _⟩ := h; rfl) | (obtain ⟨_, _, _, _, _, _, _, _, _, _, rfl, _⟩ := h; rfl)
  · obtain ⟨a, xs, d, k, rfl, ⟨l, ha, hA⟩, l1, b3, hk, d0, q⟩ := h
    refine ⟨_, (pss_one (ps_ret (pe_makeI T.mk_Poly G_Poly___init__ (hr.mono (by decide)) (by rfl) T.g_Poly b_Poly___init__ .nil passL (mkPo_conv K []) (pa_cons (pe_callTy call_list_of (by rfl) T.z_list (by decide +kernel) (pa_cons (pe_ix ix_tup (pv 0) pe_int (fun _ _ => rfl)) pa_nil)) (pa_cons (pe_ix ix_tup (pv 0) pe_int (fun _ _ => rfl)) pa_nil))))), ?_⟩
    refine ⟨_, rfl, _, _, _, _, rfl, rfl, SqT.of ha, atI_nat (j := 0) rfl, l, _, rfl, .inl (SqL.of hA), fun p np => ?_⟩
    have s1 := sm_new (o := .lst (xs.map V.int)) np
    refine ⟨_, rfl, _, _, _, _, rfl, rfl, SqT.of (s1 _ _ ha), atI_nat (j := 1) rfl, p, xs, d, k, rfl, .inl (SqL.of upd_same), by omega, b3, hk, d0, fun p2 H2 ks e s2 np2 hp2 pq => ?_⟩
    exact q p2 H2 ks e (s1.trans s2) (s1.free np2) hp2 pq

theorem ok_Poly_is_zero (T : Tx K mg) : OkF P w K mg base 1 (gtAd K (He.ga K "Poly") "is_zero") ["self"] (spPZer K) := by
  refine okF_of (d := d_Poly_is_zero) T.d_Poly_is_zero rfl sc_Poly_is_zero (fun _ _ _ _ _ _ us hl => match us, hl with | [_], _ => rfl) (fun vs H Q E h => ?_) (fun cdv A outer s H vs Q E hr h => ?_)
  · first | (obtain ⟨_, rfl, _⟩ := h; rfl) | (obtain ⟨_, _, rfl, _⟩ := h; rfl) | (obtain ⟨_, _, _, rfl, _⟩ := h; rfl) | (obtain ⟨_, _, _, _, rfl, _⟩ := h; rfl) | (obtain ⟨_, _, _, _, _, rfl, _⟩ := h; rfl) | (obtain ⟨_, _, _, _, _, _, rfl, _⟩ := h; rfl) | (obtain ⟨_, _, _, _, _, _, _, rfl, _⟩ := h; rfl) | (obtain ⟨_, _, _, _, _, _, _, _, rfl, _⟩ := h; rfl) | (obtain ⟨_, _, _, _, _, _, _, _, _, rfl, _⟩ := h; rfl) | (obtain ⟨_, _, _, _, _, _, _, _, _, _, rfl, _⟩ := h; rfl)
  · obtain ⟨a, ks, e, rfl, ⟨da, t, ha, ht⟩, q⟩ := h
    refine ⟨_, (pss_one (ps_ret (pe_cmpR op_eq (pe_callB call_len_seq (by rfl) T.z_len PySem.boot_len (pa_cons (pe_fld (pv 0) rfl) pa_nil)) pe_int (nomark _)))), ?_⟩
    rw [← len_map] at q
    exact ⟨_, rfl, _, _, _, _, _, rfl, ha, T.cls_Poly, T.n_Poly_coefs, rfl, _, _, rfl, .inr (SqT.of ht), rfl, q⟩

theorem ok_shifted_coefs (T : Tx K mg) : OkF P w K mg base 1 (He.fAd K ("shifted_coefs", none)) ["coefs", "step"] (spShc K) := by
  refine okF_of (d := d_shifted_coefs) T.d_shifted_coefs rfl sc_shifted_coefs (fun _ _ _ _ _ _ us hl => match us, hl with | [_, _], _ => rfl) (fun vs H Q E h => ?_) (fun cdv A outer s H vs Q E hr h => ?_)
  · first | (obtain ⟨_, rfl, _⟩ := h; rfl) | (obtain ⟨_, _, rfl, _⟩ := h; rfl) | (obtain ⟨_, _, _, rfl, _⟩ := h; rfl) | (obtain ⟨_, _, _, _, rfl, _⟩ := h; rfl) | (obtain ⟨_, _, _, _, _, rfl, _⟩ := h; rfl) | (obtain ⟨_, _, _, _, _, _, rfl, _⟩ := h; rfl) | (obtain ⟨_, _, _, _, _, _, _, rfl, _⟩ := h; rfl) | (obtain ⟨_, _, _, _, _, _, _, _, rfl, _⟩ := h; rfl) | (obtain ⟨_, _, _, _, _, _, _, _, _, rfl, _⟩ := h; rfl) | (obtain ⟨_, _, _, _, _, _, _, _, _, _, rfl, _⟩ := h; rfl)
  · obtain ⟨a, cs, s, kb, sb, rfl, hA, hb, hs, hl, hsb, hk, q⟩ := h
    refine ⟨_, (pss_cons (ps_set (i := 2) sc_shifted_coefs.nd rfl (Or.inl rfl) (pe_callTy call_list_of (by rfl) T.z_list (by decide +kernel) (pa_cons (pv 0) pa_nil)))
      (pss_cons (ps_setI (i := 3) sc_shifted_coefs.nd rfl (Or.inl rfl) (pe_op op_sub (pe_callB call_len_seq (by rfl) T.z_len PySem.boot_len (pa_cons (pv 2) pa_nil)) pe_int))
      (pss_cons (ps_for PassesOwn.leaving rfl (pi_range1 rfl T.z_range (pa_cons (pv 3) pa_nil)) (pg_name (i := 4) sc_shifted_coefs.nd rfl (Or.inl rfl)) (pss_one (ps_for PassesOwn.leaving rfl (pi_range3 rfl T.z_range (pa_cons (pe_op op_sub (pv 3) pe_int) (pa_cons (pe_op op_sub (pv 4) pe_int) (pa_cons (pe_un un_neg pe_int) pa_nil)))) (pg_name (i := 5) sc_shifted_coefs.nd rfl (Or.inl rfl)) (pss_one (ps_asg (pe_op op_add (pe_ix ix_list (pv 2) (pv 5) (fun _ _ => rfl)) (pe_op op_mulW (pv 1) (pe_ix ix_list (pv 2) (pe_op op_add (pv 5) pe_int) (fun _ _ => rfl)))) (pg_sub (pv 2) (pv 5) set_list))))))
      (pss_one (ps_ret (pv 2)))))), ?_⟩
    refine ⟨_, rfl, a, _, rfl, hA, fun p np => ?_⟩
    have s1 := sm_new (o := .lst (cs.map V.int)) np
    have hp : (upd H p (.lst (cs.map V.int))) p = some (.lst (cs.map V.int)) := upd_same
    generalize upd H p (.lst (cs.map V.int)) = H1 at s1 hp ⊢
    refine ⟨_, rfl, _, _, rfl, .inl (SqL.of hp), _, _, rfl, rfl, _, rfl, fun l0 el => ?_⟩
    rw [len_map] at el
    have le : ∀ t, t ≤ (cs.length + 1) * (cs.length + 1) → kb + (sb + 1) * t ≤ 400000 := fun t ht => Nat.le_trans (Nat.add_le_add_left (Nat.mul_le_mul_left _ ht) _) hk
    have fin : ∀ H' fs i, Same H H' → H' p = some (.lst (fs.map V.int)) → ShAt s cs fs i → cs.length ≤ i + 1 → Bits (kb + (sb + 1) * (i * (cs.length + 1))) fs → i ≤ cs.length → Q (.ref p) H' := fun H' fs i sm hf m hi mb il => by
      refine q p H' fs sm np hf ⟨fun k => by rw [m.fin hi, shC_eq], m.len⟩ (mb.mono ?_)
      exact Nat.add_le_add_left (Nat.mul_le_mul_left _ (Nat.mul_le_mul_right _ (by omega))) _
    refine ⟨_, rfl, _, rfl, by omega, by omega, for_range (lo := 0) (n := l0.toNat) (fun i σ' H' => ∃ (fs : List Int) (yi yj : Option V), σ' = [some (.ref a), some (.int s), some (.ref p), some (.int l0), yi, yj] ∧ Same H H' ∧ H' p = some (.lst (fs.map V.int)) ∧ ShAt s cs fs i ∧ Bits (kb + (sb + 1) * (i * (cs.length + 1))) fs)
      ⟨cs, none, none, rfl, s1, hp, ShAt.start, by rw [Nat.zero_mul, Nat.mul_zero]; exact hb⟩ (fun i σ' H' hi hI => ?_) (fun σ' H' hI => ?_)⟩
    · obtain ⟨fs, yi, yj, rfl, sm, hf, m, mb⟩ := hI
      have il : i + 1 < cs.length := by omega
      have fl := m.len
      have lt1 : i * (cs.length + 1) + (cs.length + 1) ≤ (cs.length + 1) * (cs.length + 1) := by
        have z := Nat.mul_le_mul_right (cs.length + 1) (show i + 1 ≤ cs.length + 1 by omega)
        rwa [Nat.add_mul, Nat.one_mul] at z
      refine ⟨_, rfl, _, _, rfl, rfl, _, rfl, _, _, rfl, rfl, _, rfl, _, _, _, _, rfl, RgC.neg (by omega) (by omega) (by omega) (by omega), for_rangeC (lo := l0 - 1) (c := -1) (n := (l0 - 1 - (0 + (i : Int) - 1)).toNat) (fun t σ' H' => ∃ (gs : List Int) (yj : Option V), σ' = [some (.ref a), some (.int s), some (.ref p), some (.int l0), some (.int (0 + (i : Int))), yj] ∧ Same H H' ∧ H' p = some (.lst (gs.map V.int)) ∧ ShIn s fs gs (cs.length - 1 - t) ∧ Bits (kb + (sb + 1) * (i * (cs.length + 1) + t)) gs)
        ⟨fs, _, rfl, sm, hf, by have z := ShIn.start (s := s) (fs := fs); rwa [fl] at z, mb⟩ (fun t σ' H' ht hI => ?_) (fun σ' H' hI => ?_)⟩
      · obtain ⟨gs, yj, rfl, sm, hg, mi, gb⟩ := hI
        obtain ⟨j, hj⟩ : ∃ j : Nat, cs.length - 1 - t = j + 1 := ⟨cs.length - 2 - t, by omega⟩
        rw [hj] at mi
        have gl := mi.len
        have le1 := le (i * (cs.length + 1) + t) (by omega)
        refine ⟨_, rfl, _, rfl, _, _, _, _, rfl, rfl, SqL.of hg, at_of (j := j) (by omega) (map_at (get_of_lt (by omega))), _, rfl, _, rfl, _, rfl, _, _, rfl, rfl, _, _, _, _, rfl, rfl, SqL.of hg, at_of (j := j + 1) (by omega) (map_at (get_of_lt (by omega))), _, _, rfl, rfl, mulW hs (gb.getD (j + 1)) (by omega), _, _, rfl, rfl, _, rfl, _, rfl, p, _, _, j, rfl, rfl, hg, ixN_at (by omega) (by rw [len_map]; omega), ?_⟩
        have e2 : cs.length - 1 - (t + 1) = j := by omega
        have gb2 : Bits (kb + (sb + 1) * (i * (cs.length + 1) + (t + 1))) gs := gb.mono (Nat.add_le_add_left (Nat.mul_le_mul_left _ (by omega)) _)
        refine ⟨_, _, rfl, same_mut sm np, by rw [upd_same, map_set_V], by rw [e2]; exact mi.step (by omega) rfl, gb2.set (abs_mono (sz_add (gb.getD j) (abs_lt_mul hs (gb.getD (j + 1)))) ?_)⟩
        rw [show i * (cs.length + 1) + (t + 1) = (i * (cs.length + 1) + t) + 1 by omega, Nat.mul_add (sb + 1) _ 1]
        omega
      · obtain ⟨gs, yj, rfl, sm, hg, mi, gb⟩ := hI
        rw [show cs.length - 1 - (l0 - 1 - (0 + (i : Int) - 1)).toNat = i by omega] at mi
        refine ⟨gs, _, _, rfl, sm, hg, m.pass mi (by omega), gb.mono (Nat.add_le_add_left (Nat.mul_le_mul_left _ ?_) _)⟩
        rw [Nat.add_mul, Nat.one_mul]
        omega
    · obtain ⟨fs, yi, yj, rfl, sm, hf, m, mb⟩ := hI
      exact ⟨_, rfl, fin H' fs _ sm hf m (by omega) mb (by omega)⟩

theorem ok_Poly_shifted (T : Tx K mg) (O_shifted_coefs : OkF P w K mg base 1 (He.fAd K ("shifted_coefs", none)) ["coefs", "step"] (spShc K)) (O_Poly___init__ : OkD P w K mg base 2 (He.fAd K ("Poly", some "__init__")) ["self", "coefs", "den"] (He.Dv.v K (.int 1)) (spPInit K)) : OkF P w K mg base 4 (He.fAd K ("Poly", some "shifted")) ["self", "step"] (spPShi K) := by
  obtain ⟨_, G_shifted_coefs, b_shifted_coefs, k_shifted_coefs⟩ := O_shifted_coefs
  obtain ⟨_, G_Poly___init__, b_Poly___init__, ⟨_, v_Poly___init__, bd_Poly___init__⟩, k_Poly___init__⟩ := O_Poly___init__
  refine okF_of (d := d_Poly_shifted) T.d_Poly_shifted rfl sc_Poly_shifted (fun _ _ _ _ _ _ us hl => match us, hl with | [_, _], _ => rfl) (fun vs H Q E h => ?_) (fun cdv A outer s H vs Q E hr h => ?_)
  · first | (obtain ⟨_, rfl, _⟩ := h; rfl) | (obtain ⟨_, _, rfl, _⟩ := h; rfl) | (obtain ⟨_, _, _, rfl, _⟩ := h; rfl) | (obtain ⟨_, _, _, _, rfl, _⟩ := h; rfl) | (obtain ⟨_, _, _, _, _, rfl, _⟩ := h; rfl) | (obtain ⟨_, _, _, _, _, _, rfl, _⟩ := h; rfl) | (obtain ⟨_, _, _, _, _, _, _, rfl, _⟩ := h; rfl) | (obtain ⟨_, _, _, _, _, _, _, _, rfl, _⟩ := h; rfl) | (obtain ⟨_, _, _, _, _, _, _, _, _, rfl, _⟩ := h; rfl) | (obtain ⟨_, _, _, _, _, _, _, _, _, _, rfl, _⟩ := h; rfl)
  · obtain ⟨a, ks, e, s, kb, sb, rfl, hp, e0, eb, hb, hs, hl, hsb, hk, q⟩ := h
    obtain ⟨da, ta, ha, hta⟩ := hp
    refine ⟨_, (pss_one (ps_ret (pe_makeI T.mk_Poly G_Poly___init__ (hr.mono (by decide)) (by rfl) T.g_Poly b_Poly___init__ .nil passL (mkPo_conv K []) (pa_cons (pe_call G_shifted_coefs (hr.mono (by decide)) (by rfl) T.g_shifted_coefs k_shifted_coefs b_shifted_coefs .nil passL (pa_cons (pe_fld (pv 0) rfl) (pa_cons (pv 1) pa_nil))) (pa_cons (pe_fld (pv 0) rfl) pa_nil))))), ?_⟩
    refine ⟨_, rfl, _, _, _, _, _, rfl, ha, T.cls_Poly, T.n_Poly_coefs, rfl, _, rfl, _, ks, s, kb, sb, rfl, .inr (SqT.of hta), hb, hs, hl, hsb, hk, fun p1 H1 zs sm1 np1 hp1 mz mb => ?_⟩
    refine ⟨_, rfl, _, _, _, _, _, rfl, sm1 _ _ ha, T.cls_Poly, T.n_Poly_den, rfl, p1, zs, e, 60, rfl, .inl (SqL.of hp1), by have := mz.len; omega, eb, by decide, by omega, fun p H4 ms g sm4 np4 hp4 pq => ?_⟩
    exact q p H4 ms g (sm1.trans sm4) (sm1.free np4) hp4 ⟨zs, mz, mb, pq⟩

theorem ok_Poly___neg__ (T : Tx K mg) (O_Poly___init__ : OkD P w K mg base 2 (He.fAd K ("Poly", some "__init__")) ["self", "coefs", "den"] (He.Dv.v K (.int 1)) (spPInit K)) : OkF P w K mg base 4 (He.fAd K ("Poly", some "__neg__")) ["self"] (spPNeg K) := by
  obtain ⟨_, G_Poly___init__, b_Poly___init__, ⟨_, v_Poly___init__, bd_Poly___init__⟩, k_Poly___init__⟩ := O_Poly___init__
  refine okF_of (d := d_Poly___neg__) T.d_Poly___neg__ rfl sc_Poly___neg__ (fun _ _ _ _ _ _ us hl => match us, hl with | [_], _ => rfl) (fun vs H Q E h => ?_) (fun cdv A outer s H vs Q E hr h => ?_)
  · first | (obtain ⟨_, rfl, _⟩ := h; rfl) | (obtain ⟨_, _, rfl, _⟩ := h; rfl) | (obtain ⟨_, _, _, rfl, _⟩ := h; rfl) | (obtain ⟨_, _, _, _, rfl, _⟩ := h; rfl) | (obtain ⟨_, _, _, _, _, rfl, _⟩ := h; rfl) | (obtain ⟨_, _, _, _, _, _, rfl, _⟩ := h; rfl) | (obtain ⟨_, _, _, _, _, _, _, rfl, _⟩ := h; rfl) | (obtain ⟨_, _, _, _, _, _, _, _, rfl, _⟩ := h; rfl) | (obtain ⟨_, _, _, _, _, _, _, _, _, rfl, _⟩ := h; rfl) | (obtain ⟨_, _, _, _, _, _, _, _, _, _, rfl, _⟩ := h; rfl)
  · obtain ⟨a, ks, e, k, rfl, ⟨da, t, ha, ht⟩, e0, eb, hk, hl, q⟩ := h
    refine ⟨_, (pss_one (ps_ret (pe_makeI T.mk_Poly G_Poly___init__ (hr.mono (by decide)) (by rfl) T.g_Poly b_Poly___init__ .nil passL (mkPo_conv K []) (pa_cons (pe_lc (own := [("c", 1)]) (g := gName 1) rfl sc_Poly___neg__.nd (pi_tup (pe_fld (pv 0) rfl)) (blkOk_by (own := [("c", 1)]) (N := N_Poly___neg__) (sc := defScope s_Poly___neg__) (by decide +kernel)) (fun _ _ _ _ _ => (pg_name (i := 1) sc_Poly___neg__.nd rfl (Or.inl rfl))) (fun _ _ _ _ _ => pts_nil) (fun _ _ _ _ _ => (pe_un un_neg (pv 1)))) (pa_cons (pe_fld (pv 0) rfl) pa_nil))))), ?_⟩
    refine ⟨_, rfl, _, _, _, _, _, rfl, ha, T.cls_Poly, T.n_Poly_coefs, rfl, _, rfl, ⟨_, SqT.of ht⟩, fun D nD => lc_tup (K := K) (a := t) (xs := ks.map V.int) (fun i H' => Same H H' ∧ H' D = some (.lst (((ks.map fun x => -x).take i).map V.int))) ⟨sm_new nD, by rw [upd_same]; rfl⟩ (fun i H' hi hP => SqT.of (hP.1 _ _ ht)) (fun i y H' hi hP => ?_) (fun H' hP => ?_)⟩
    · obtain ⟨sm, hD⟩ := hP
      obtain ⟨u, hu, rfl⟩ : ∃ u, ks[i]? = some u ∧ y = V.int u := by
        rw [List.getElem?_map] at hi
        cases e : ks[i]? with
        | none => rw [e] at hi; cases hi
        | some u => rw [e] at hi; cases hi; exact ⟨u, rfl, rfl⟩
      refine ⟨rfl, ?_⟩
      unfold tYes
      refine iteK rfl ?_
      refine ⟨_, rfl, _, rfl, _, hD, ?_, same_mut sm nD, ?_⟩
      · rw [len_map, List.length_take, List.length_map]
        exact small1000 (by omega)
      · rw [upd_same, List.take_succ, List.map_append, List.getElem?_map, hu]
        rfl
    · obtain ⟨sm, hD⟩ := hP
      have e1 : (ks.map fun x => -x).take (ks.map V.int).length = ks.map fun x => -x := List.take_of_length_le (by rw [List.length_map, List.length_map]; exact Nat.le_refl _)
      rw [e1] at hD
      refine ⟨_, rfl, _, _, _, _, _, rfl, sm _ _ ha, T.cls_Poly, T.n_Poly_den, rfl, _, _, _, k, rfl, .inl (SqL.of hD), by rw [List.length_map]; exact hl, eb, hk, by omega, fun p H4 ms g sm4 np4 hp4 pq => ?_⟩
      exact q p H4 ms g (sm.trans sm4) (sm.free np4) hp4 pq

theorem ok__coefs_over (T : Tx K mg) : OkF P w K mg base 1 (He.fAd K ("_coefs_over", none)) ["p", "den"] (spOvr K) := by
  refine okF_of (d := d__coefs_over) T.d__coefs_over rfl sc__coefs_over (fun _ _ _ _ _ _ us hl => match us, hl with | [_, _], _ => rfl) (fun vs H Q E h => ?_) (fun cdv A outer s H vs Q E hr h => ?_)
  · first | (obtain ⟨_, rfl, _⟩ := h; rfl) | (obtain ⟨_, _, rfl, _⟩ := h; rfl) | (obtain ⟨_, _, _, rfl, _⟩ := h; rfl) | (obtain ⟨_, _, _, _, rfl, _⟩ := h; rfl) | (obtain ⟨_, _, _, _, _, rfl, _⟩ := h; rfl) | (obtain ⟨_, _, _, _, _, _, rfl, _⟩ := h; rfl) | (obtain ⟨_, _, _, _, _, _, _, rfl, _⟩ := h; rfl) | (obtain ⟨_, _, _, _, _, _, _, _, rfl, _⟩ := h; rfl) | (obtain ⟨_, _, _, _, _, _, _, _, _, rfl, _⟩ := h; rfl) | (obtain ⟨_, _, _, _, _, _, _, _, _, _, rfl, _⟩ := h; rfl)
  · obtain ⟨a, ks, e, d, k, rfl, ⟨da, t, ha, ht⟩, e0, eb, hl, hb, db, hk, q⟩ := h
    refine ⟨_, (pss_cons (ps_setI (i := 2) sc__coefs_over.nd rfl (Or.inr rfl) (pe_op op_fdivW (pv 1) (pe_fld (pv 0) rfl)))
      (pss_one (ps_ret (pe_lc (own := [("c", 3)]) (g := gName 3) rfl sc__coefs_over.nd (pi_tup (pe_fld (pv 0) rfl)) (blkOk_by (own := [("c", 3)]) (N := N__coefs_over) (sc := defScope s__coefs_over) (by decide +kernel)) (fun _ _ _ _ _ => (pg_name (i := 3) sc__coefs_over.nd rfl (Or.inl rfl))) (fun _ _ _ _ _ => pts_nil) (fun _ _ _ _ _ => (pe_op op_mulW (pv 3) (pv 2))))))), ?_⟩
    refine ⟨_, rfl, _, rfl, _, _, _, _, _, rfl, ha, T.cls_Poly, T.n_Poly_den, rfl, _, _, rfl, rfl, divW e0 eb (Nat.le_refl _), _, rfl, fun sc es => ?_⟩
    have sb : sc.natAbs < 2 ^ k := by rw [es]; exact Nat.lt_of_le_of_lt (Int.natAbs_ediv_le_natAbs _ _) db
    refine ⟨_, rfl, _, _, _, _, _, rfl, ha, T.cls_Poly, T.n_Poly_coefs, rfl, _, rfl, ⟨_, SqT.of ht⟩, fun D nD => lc_tup (K := K) (a := t) (xs := ks.map V.int) (fun i H' => Same H H' ∧ H' D = some (.lst (((ks.map fun x => x * sc).take i).map V.int))) ⟨sm_new nD, by rw [upd_same]; rfl⟩ (fun i H' hi hP => SqT.of (hP.1 _ _ ht)) (fun i y H' hi hP => ?_) (fun H' hP => ?_)⟩
    · obtain ⟨sm, hD⟩ := hP
      obtain ⟨u, hu, rfl⟩ : ∃ u, ks[i]? = some u ∧ y = V.int u := by
        rw [List.getElem?_map] at hi
        cases e : ks[i]? with
        | none => rw [e] at hi; cases hi
        | some u => rw [e] at hi; cases hi; exact ⟨u, rfl, rfl⟩
      refine ⟨rfl, ?_⟩
      unfold tYes
      refine iteK rfl ?_
      refine ⟨_, rfl, _, rfl, _, _, rfl, rfl, mulW (hb.all u (List.mem_of_getElem? hu)) sb (by omega), _, hD, ?_, same_mut sm nD, ?_⟩
      · rw [len_map, List.length_take, List.length_map]
        exact small1000 (by omega)
      · rw [upd_same, List.take_succ, List.map_append, List.getElem?_map, hu]
        rfl
    · obtain ⟨sm, hD⟩ := hP
      have e1 : (ks.map fun x => x * sc).take (ks.map V.int).length = ks.map fun x => x * sc := List.take_of_length_le (by rw [List.length_map, List.length_map]; exact Nat.le_refl _)
      rw [e1, es] at hD
      exact q D H' sm nD hD

theorem ok_added (T : Tx K mg) : OkF P w K mg base 1 (He.fAd K ("added", none)) ["first", "second"] (spAdded K) := by
  refine okF_of (d := d_added) T.d_added rfl sc_added (fun _ _ _ _ _ _ us hl => match us, hl with | [_, _], _ => rfl) (fun vs H Q E h => ?_) (fun cdv A outer s H vs Q E hr h => ?_)
  · first | (obtain ⟨_, rfl, _⟩ := h; rfl) | (obtain ⟨_, _, rfl, _⟩ := h; rfl) | (obtain ⟨_, _, _, rfl, _⟩ := h; rfl) | (obtain ⟨_, _, _, _, rfl, _⟩ := h; rfl) | (obtain ⟨_, _, _, _, _, rfl, _⟩ := h; rfl) | (obtain ⟨_, _, _, _, _, _, rfl, _⟩ := h; rfl) | (obtain ⟨_, _, _, _, _, _, _, rfl, _⟩ := h; rfl) | (obtain ⟨_, _, _, _, _, _, _, _, rfl, _⟩ := h; rfl) | (obtain ⟨_, _, _, _, _, _, _, _, _, rfl, _⟩ := h; rfl) | (obtain ⟨_, _, _, _, _, _, _, _, _, _, rfl, _⟩ := h; rfl)
  · obtain ⟨a, b, xs, ys, rfl, hA, hB, l1, l2, q⟩ := h
    refine ⟨_, (pss_one (ps_ret (pe_lc (own := [("x", 2), ("y", 3)]) (g := gTup K 2 (gCons (gName 2) (gCons (gName 3) gNil))) rfl sc_added.nd (pi_zipL (by rfl) T.g_zip_longest (pa_cons (pv 0) (pa_cons (pv 1) pa_nil)) (pk_cons pe_int pk_nil)) (blkOk_by (own := [("x", 2), ("y", 3)]) (N := N_added) (sc := defScope s_added) (by decide +kernel)) (fun _ _ _ _ _ => (pg_tup rfl (pgs_cons (pg_name (i := 2) sc_added.nd rfl (Or.inl rfl)) (pgs_cons (pg_name (i := 3) sc_added.nd rfl (Or.inl rfl)) pgs_nil)))) (fun _ _ _ _ _ => pts_nil) (fun _ _ _ _ _ => (pe_op op_add (pv 2) (pv 3)))))), ?_⟩
    refine ⟨_, rfl, _, rfl, a, b, _, _, 0, rfl, rfl, hA, hB, fun D nD => lc_zl (fun i H' => Same H H' ∧ H' D = some (.lst (((List.range i).map fun j => xs.getD j 0 + ys.getD j 0).map V.int))) ⟨sm_new nD, upd_same⟩ (fun i H' hP => ⟨hP.1.seq hA, hP.1.seq hB⟩) (fun i T H' hi hP nT => ?_) (fun H' hP => ?_)⟩
    · obtain ⟨sm, hD⟩ := hP
      refine ⟨T, _, rfl, SqT.of upd_same, rfl, _, _, rfl, _, _, rfl, rfl, rfl, ?_⟩
      unfold tYes
      refine iteK rfl ?_
      have nTD : T ≠ D := fun z => by rw [z, hD] at nT; cases nT
      have gd : ∀ (zs : List Int) (j : Nat), (zs.map V.int).getD j (.int 0) = .int (zs.getD j 0) := fun zs j => by
        rw [List.getD_eq_getElem?_getD, List.getD_eq_getElem?_getD, List.getElem?_map]
        cases zs[j]? <;> rfl
      rw [gd, gd]
      have hD2 : (upd H' T (.tup [.int (xs.getD i 0), .int (ys.getD i 0)])) D = some (.lst (((List.range i).map fun j => xs.getD j 0 + ys.getD j 0).map V.int)) := by rw [upd_ne nTD.symm]; exact hD
      refine ⟨_, rfl, _, rfl, _, _, rfl, rfl, _, hD2, ?_, ?_⟩
      · rw [len_map] at hi hi
        rw [List.length_map, List.length_map, List.length_range]
        exact small1000 (by omega)
      · refine ⟨same_mut (sm.trans (sm_new nT)) nD, ?_⟩
        rw [upd_same, List.range_succ, List.map_append, List.map_append]
        rfl
    · obtain ⟨sm, hD⟩ := hP
      exact q D H' sm nD (by rw [hD]; simp [addL])

theorem ok_Poly___add__ (T : Tx K mg) (O__coefs_over : OkF P w K mg base 1 (He.fAd K ("_coefs_over", none)) ["p", "den"] (spOvr K)) (O_added : OkF P w K mg base 1 (He.fAd K ("added", none)) ["first", "second"] (spAdded K)) (O_Poly___init__ : OkD P w K mg base 2 (He.fAd K ("Poly", some "__init__")) ["self", "coefs", "den"] (He.Dv.v K (.int 1)) (spPInit K)) : OkF P w K mg base 4 (He.fAd K ("Poly", some "__add__")) ["self", "other"] (spPAdd K) := by
  obtain ⟨_, G__coefs_over, b__coefs_over, k__coefs_over⟩ := O__coefs_over
  obtain ⟨_, G_added, b_added, k_added⟩ := O_added
  obtain ⟨_, G_Poly___init__, b_Poly___init__, ⟨_, v_Poly___init__, bd_Poly___init__⟩, k_Poly___init__⟩ := O_Poly___init__
  refine okF_of (d := d_Poly___add__) T.d_Poly___add__ rfl sc_Poly___add__ (fun _ _ _ _ _ _ us hl => match us, hl with | [_, _], _ => rfl) (fun vs H Q E h => ?_) (fun cdv A outer s H vs Q E hr h => ?_)
  · first | (obtain ⟨_, rfl, _⟩ := h; rfl) | (obtain ⟨_, _, rfl, _⟩ := h; rfl) | (obtain ⟨_, _, _, rfl, _⟩ := h; rfl) | (obtain ⟨_, _, _, _, rfl, _⟩ := h; rfl) | (obtain ⟨_, _, _, _, _, rfl, _⟩ := h; rfl) | (obtain ⟨_, _, _, _, _, _, rfl, _⟩ := h; rfl) | (obtain ⟨_, _, _, _, _, _, _, rfl, _⟩ := h; rfl) | (obtain ⟨_, _, _, _, _, _, _, _, rfl, _⟩ := h; rfl) | (obtain ⟨_, _, _, _, _, _, _, _, _, rfl, _⟩ := h; rfl) | (obtain ⟨_, _, _, _, _, _, _, _, _, _, rfl, _⟩ := h; rfl)
  · obtain ⟨a, b, ks, js, e, f, k, rfl, hp, hq, s1, s2, b1, b2, hk, eb, fb, l1, l2, q⟩ := h
    have hp0 := hp
    have hq0 := hq
    obtain ⟨da, ta, ha, hta⟩ := hp
    obtain ⟨db, tb, hb, htb⟩ := hq
    have e0 := s1.pos
    have f0 := s2.pos
    refine ⟨_, (pss_cons (ps_setI (i := 2) sc_Poly___add__.nd rfl (Or.inl rfl) (pe_callBfun cr_lcm rfl T.g_lcm (pa_cons (pe_fld (pv 0) rfl) (pa_cons (pe_fld (pv 1) rfl) pa_nil))))
      (pss_one (ps_ret (pe_makeI T.mk_Poly G_Poly___init__ (hr.mono (by decide)) (by rfl) T.g_Poly b_Poly___init__ .nil passL (mkPo_conv K []) (pa_cons (pe_call G_added (hr.mono (by decide)) (by rfl) T.g_added k_added b_added .nil passL (pa_cons (pe_call G__coefs_over (hr.mono (by decide)) (by rfl) T.g__coefs_over k__coefs_over b__coefs_over .nil passL (pa_cons (pv 0) (pa_cons (pv 2) pa_nil))) (pa_cons (pe_call G__coefs_over (hr.mono (by decide)) (by rfl) T.g__coefs_over k__coefs_over b__coefs_over .nil passL (pa_cons (pv 1) (pa_cons (pv 2) pa_nil))) pa_nil))) (pa_cons (pv 2) pa_nil)))))), ?_⟩
    refine ⟨_, rfl, _, _, _, _, _, rfl, ha, T.cls_Poly, T.n_Poly_den, rfl, _, rfl, _, _, _, _, _, rfl, hb, T.cls_Poly, T.n_Poly_den, rfl, _, _, rfl, abs_mono eb (by decide), abs_mono fb (by decide), _, rfl, fun L eL => ?_⟩
    have Lb : L.natAbs < 2 ^ 120 := by rw [eL]; exact lcm_bits eb fb
    have L0 : 0 < L := by
      rw [eL]
      have := Nat.lcm_pos (m := e.natAbs) (n := f.natAbs) (by omega) (by omega)
      omega
    have d1 : L / e * e = L := Int.ediv_mul_cancel (by rw [eL]; exact Int.natAbs_dvd_natAbs.mp (by rw [Int.natAbs_natCast]; exact Nat.dvd_lcm_left _ _))
    have d2 : L / f * f = L := Int.ediv_mul_cancel (by rw [eL]; exact Int.natAbs_dvd_natAbs.mp (by rw [Int.natAbs_natCast]; exact Nat.dvd_lcm_right _ _))
    have big : 120 ≤ k + 120 := by omega
    refine ⟨_, rfl, _, rfl, _, ks, e, L, k + 120, rfl, hp0, e0, abs_mono eb (by decide), l1, b1.mono (by omega), abs_mono Lb big, by omega, fun p1 H1 sm1 np1 hp1 => ?_⟩
    refine ⟨_, rfl, _, rfl, _, js, f, L, k + 120, rfl, hq0.mono sm1, f0, abs_mono fb (by decide), l2, b2.mono (by omega), abs_mono Lb big, by omega, fun p2 H2 sm2 np2 hp2 => ?_⟩
    refine ⟨_, _, _, _, rfl, SqL.of (sm2 _ _ hp1), SqL.of hp2, by rw [List.length_map]; exact l1, by rw [List.length_map]; exact l2, fun p3 H3 sm3 np3 hp3 => ?_⟩
    refine ⟨_, rfl, _, _, _, 120, rfl, .inl (SqL.of hp3), by rw [addL_len, List.length_map, List.length_map]; omega, Lb, by decide, by omega, fun p H4 ms g sm4 np4 hp4 pq => ?_⟩
    refine q p H4 ms g (((sm1.trans sm2).trans sm3).trans sm4) (((sm1.trans sm2).trans sm3).free np4) hp4 ?_
    refine pq.conv (by omega) fun i => ?_
    rw [addL_at, mul_at, mul_at, sumP_at]
    generalize L / e = u at *
    generalize L / f = v at *
    grind

theorem ok_Poly___sub__ (T : Tx K mg) (O_Poly___neg__ : OkF P w K mg base 4 (He.fAd K ("Poly", some "__neg__")) ["self"] (spPNeg K)) (O_Poly___add__ : OkF P w K mg base 4 (He.fAd K ("Poly", some "__add__")) ["self", "other"] (spPAdd K)) : OkF P w K mg base 5 (He.fAd K ("Poly", some "__sub__")) ["self", "other"] (spPSub K) := by
  obtain ⟨_, G_Poly___neg__, b_Poly___neg__, k_Poly___neg__⟩ := O_Poly___neg__
  obtain ⟨_, G_Poly___add__, b_Poly___add__, k_Poly___add__⟩ := O_Poly___add__
  refine okF_of (d := d_Poly___sub__) T.d_Poly___sub__ rfl sc_Poly___sub__ (fun _ _ _ _ _ _ us hl => match us, hl with | [_, _], _ => rfl) (fun vs H Q E h => ?_) (fun cdv A outer s H vs Q E hr h => ?_)
  · first | (obtain ⟨_, rfl, _⟩ := h; rfl) | (obtain ⟨_, _, rfl, _⟩ := h; rfl) | (obtain ⟨_, _, _, rfl, _⟩ := h; rfl) | (obtain ⟨_, _, _, _, rfl, _⟩ := h; rfl) | (obtain ⟨_, _, _, _, _, rfl, _⟩ := h; rfl) | (obtain ⟨_, _, _, _, _, _, rfl, _⟩ := h; rfl) | (obtain ⟨_, _, _, _, _, _, _, rfl, _⟩ := h; rfl) | (obtain ⟨_, _, _, _, _, _, _, _, rfl, _⟩ := h; rfl) | (obtain ⟨_, _, _, _, _, _, _, _, _, rfl, _⟩ := h; rfl) | (obtain ⟨_, _, _, _, _, _, _, _, _, _, rfl, _⟩ := h; rfl)
  · obtain ⟨a, b, ks, js, e, f, k, rfl, hp, hq, s1, s2, b1, b2, hk, eb, fb, l1, l2, q⟩ := h
    have hp0 := hp
    have hq0 := hq
    obtain ⟨da, ta, ha, hta⟩ := hp
    obtain ⟨db, tb, hb, htb⟩ := hq
    refine ⟨_, (pss_one (ps_ret (pe_op (op_own2 T.first_Poly T.s_Poly___add__ T.f_Poly___add__ G_Poly___add__ (hr.mono (by decide)) b_Poly___add__ passL) (pv 0) (pe_un (un_ownNeg T.s_Poly___neg__ T.f_Poly___neg__ G_Poly___neg__ (hr.mono (by decide)) b_Poly___neg__ passL) (pv 1))))), ?_⟩
    refine ⟨_, rfl, _, rfl, _, _, _, rfl, hb, _, js, f, 60, rfl, hq0, s2.pos, fb, by decide, l2, fun p1 H1 ms g sm1 np1 hp1 pq => ?_⟩
    have s3 := pq.self
    have m1 : ms = js.map (fun x => -x) ∧ g = f := pq.uniq (pq_neg_self s2) (by have := s2.pos; omega)
    obtain ⟨rfl, rfl⟩ := m1
    have hp10 := hp1
    obtain ⟨d1, t1, h1, ht1⟩ := hp1
    refine ⟨_, _, _, _, _, _, rfl, rfl, sm1 _ _ ha, h1, _, _, ks, _, e, _, k, rfl, hp0.mono sm1, hp10, s1, s3, b1, b2.neg, hk, eb, fb, l1, by rw [List.length_map]; exact l2, fun p2 H2 ms2 g2 sm2 np2 hp2 pq2 => ?_⟩
    exact q p2 H2 ms2 g2 (sm1.trans sm2) (sm1.free np2) hp2 pq2

theorem ok_Poly_degree (T : Tx K mg) : OkF P w K mg base 1 (gtAd K (He.ga K "Poly") "degree") ["self"] (spPDeg K) := by
  refine okF_of (d := d_Poly_degree) T.d_Poly_degree rfl sc_Poly_degree (fun _ _ _ _ _ _ us hl => match us, hl with | [_], _ => rfl) (fun vs H Q E h => ?_) (fun cdv A outer s H vs Q E hr h => ?_)
  · first | (obtain ⟨_, rfl, _⟩ := h; rfl) | (obtain ⟨_, _, rfl, _⟩ := h; rfl) | (obtain ⟨_, _, _, rfl, _⟩ := h; rfl) | (obtain ⟨_, _, _, _, rfl, _⟩ := h; rfl) | (obtain ⟨_, _, _, _, _, rfl, _⟩ := h; rfl) | (obtain ⟨_, _, _, _, _, _, rfl, _⟩ := h; rfl) | (obtain ⟨_, _, _, _, _, _, _, rfl, _⟩ := h; rfl) | (obtain ⟨_, _, _, _, _, _, _, _, rfl, _⟩ := h; rfl) | (obtain ⟨_, _, _, _, _, _, _, _, _, rfl, _⟩ := h; rfl) | (obtain ⟨_, _, _, _, _, _, _, _, _, _, rfl, _⟩ := h; rfl)
  · obtain ⟨a, ks, e, rfl, ⟨da, t, ha, ht⟩, q⟩ := h
    refine ⟨_, (pss_one (ps_ret (pe_op op_sub (pe_callB call_len_seq (by rfl) T.z_len PySem.boot_len (pa_cons (pe_fld (pv 0) rfl) pa_nil)) pe_int))), ?_⟩
    rw [← len_map] at q
    exact ⟨_, rfl, _, _, _, _, _, rfl, ha, T.cls_Poly, T.n_Poly_coefs, rfl, _, _, rfl, .inr (SqT.of ht), _, _, rfl, rfl, q⟩

theorem ok_Fraction___init__ (T : Tx K mg) : OkD P w K mg base 1 (He.fAd K ("Fraction", some "__init__")) ["self", "num", "den"] (He.Dv.v K (.int 1)) (spInit K) := by
  refine okD_of (d := d_Fraction___init__) (dv := .int 1) T.d_Fraction___init__ rfl sc_Fraction___init__ (fun _ _ _ _ _ _ _ us its h1 h2 => match us, its, h1, h2 with | [_, _, _], [_], _, _ => ⟨_, rfl, rfl⟩) (fun _ _ _ _ _ _ _ us its h1 h2 => match us, its, h1, h2 with | [_, _], [_], _, _ => ⟨_, rfl, rfl⟩) (by decide) (fun vs H Q E h => ?_) (fun cdv A outer s H vs Q E hr h => ?_)
  · first | (obtain ⟨_, rfl, _⟩ := h; rfl) | (obtain ⟨_, _, rfl, _⟩ := h; rfl) | (obtain ⟨_, _, _, rfl, _⟩ := h; rfl) | (obtain ⟨_, _, _, _, rfl, _⟩ := h; rfl) | (obtain ⟨_, _, _, _, _, rfl, _⟩ := h; rfl) | (obtain ⟨_, _, _, _, _, _, rfl, _⟩ := h; rfl) | (obtain ⟨_, _, _, _, _, _, _, rfl, _⟩ := h; rfl) | (obtain ⟨_, _, _, _, _, _, _, _, rfl, _⟩ := h; rfl) | (obtain ⟨_, _, _, _, _, _, _, _, _, rfl, _⟩ := h; rfl) | (obtain ⟨_, _, _, _, _, _, _, _, _, _, rfl, _⟩ := h; rfl)
  · obtain ⟨x, dx, n, d, k, rfl, hx, hb, hk, hE, q⟩ := h
    refine ⟨_, (pss_cons (ps_if (pt_cmpR op_eq (pv 2) pe_int (nomark _)) (pss_one (ps_raise rfl (takes_of rfl rfl rfl rfl) (pmk_own PySem.F.excBase_ValueError T.x_DivisionByZero T.g_DivisionByZero T.k_DivisionByZero (T.r_DivisionByZero rfl) rfl))) pss_nil)
      (pss_cons (ps_setI (i := 3) sc_Fraction___init__.nd rfl (Or.inl rfl) (pe_callBfun cr_gcd rfl T.g_gcd (pa_cons (pv 1) (pa_cons (pv 2) pa_nil))))
      (Evl.pss_cut (ps_if (pt_cmpR op_lt (pv 2) pe_int (nomark _)) (pss_one (ps_setI (i := 3) sc_Fraction___init__.nd rfl (Or.inl rfl) (pe_un un_neg (pv 3)))) pss_nil)
      (pss_cons (ps_fld (pv 0) (pe_op op_fdivZ (pv 1) (pv 3)) rfl)
      (pss_one (ps_fld (pv 0) (pe_op op_fdivZ (pv 2) (pv 3)) rfl)))))), ?_⟩
    refine ⟨_, rfl, rfl, _, rfl, iteEq (fun c => ?_) (fun c => ?_)⟩
    · exact hE c
    refine ⟨_, rfl, _, rfl, _, _, rfl, _, rfl, fun common e_common => ?_⟩
    refine ⟨fun σ' H' => H = H' ∧ ∃ c : Int, σ' = [some (.ref x), some (.int n), some (.int d), some (.int c)] ∧ c = if d < 0 then -common else common, ?_, ?_⟩
    · refine ⟨_, rfl, _, _, rfl, rfl, _, rfl, iteD (fun h1 => ?_) (fun h1 => ?_)⟩
      · exact ⟨_, rfl, _, rfl, _, rfl, fun c e => ⟨rfl, c, rfl, by rw [if_pos h1, e]⟩⟩
      · exact ⟨rfl, common, rfl, by rw [if_neg h1]⟩
    rintro _ _ ⟨rfl, cc, rfl, hc⟩
    rw [e_common] at hc
    obtain ⟨c0, cl, f⟩ := fq_init c hc
    have dz : CDivZ n cc := divZ c0 (Nat.lt_of_le_of_lt cl hb) hk
    have dz2 : CDivZ d cc := divZ c0 (Nat.lt_of_le_of_lt cl hb) hk
    refine ⟨_, rfl, _, rfl, _, _, rfl, rfl, dz, _, rfl, x, _, dx, [], rfl, hx, T.cls_Fraction, T.n_Fraction_num, by decide, ?_⟩
    refine ⟨_, rfl, _, rfl, _, _, rfl, rfl, dz2, _, rfl, x, _, dx, _, rfl, upd_same, T.cls_Fraction, T.n_Fraction_den, (show (1 : Nat) < 1000 by decide), ?_⟩
    have z := q c _ _ f
    rw [← upd_upd (H := H) (a := x) (o := .ins (CF K) dx (putF "num" (.int (n.fdiv cc)) []))] at z
    exact z

theorem ok_Poly_coefficient (T : Tx K mg) (O_Poly_degree : OkF P w K mg base 1 (gtAd K (He.ga K "Poly") "degree") ["self"] (spPDeg K)) (O_Fraction___init__ : OkD P w K mg base 1 (He.fAd K ("Fraction", some "__init__")) ["self", "num", "den"] (He.Dv.v K (.int 1)) (spInit K)) : OkF P w K mg base 3 (He.fAd K ("Poly", some "coefficient")) ["self", "index"] (spPCo K) := by
  obtain ⟨_, G_Poly_degree, b_Poly_degree, k_Poly_degree⟩ := O_Poly_degree
  obtain ⟨_, G_Fraction___init__, b_Fraction___init__, ⟨_, v_Fraction___init__, bd_Fraction___init__⟩, k_Fraction___init__⟩ := O_Fraction___init__
  refine okF_of (d := d_Poly_coefficient) T.d_Poly_coefficient rfl sc_Poly_coefficient (fun _ _ _ _ _ _ us hl => match us, hl with | [_, _], _ => rfl) (fun vs H Q E h => ?_) (fun cdv A outer s H vs Q E hr h => ?_)
  · first | (obtain ⟨_, rfl, _⟩ := h; rfl) | (obtain ⟨_, _, rfl, _⟩ := h; rfl) | (obtain ⟨_, _, _, rfl, _⟩ := h; rfl) | (obtain ⟨_, _, _, _, rfl, _⟩ := h; rfl) | (obtain ⟨_, _, _, _, _, rfl, _⟩ := h; rfl) | (obtain ⟨_, _, _, _, _, _, rfl, _⟩ := h; rfl) | (obtain ⟨_, _, _, _, _, _, _, rfl, _⟩ := h; rfl) | (obtain ⟨_, _, _, _, _, _, _, _, rfl, _⟩ := h; rfl) | (obtain ⟨_, _, _, _, _, _, _, _, _, rfl, _⟩ := h; rfl) | (obtain ⟨_, _, _, _, _, _, _, _, _, _, rfl, _⟩ := h; rfl)
  · obtain ⟨a, ks, e, i, k, rfl, hp, e0, eb, hk, q⟩ := h
    have hp2 := hp
    obtain ⟨da, t, ha, ht⟩ := hp
    refine ⟨_, (pss_cons (ps_if (PW.pt (pw_or (pt_cmpR op_lt (pv 1) pe_int (nomark _)) (pw_or1 (pt_cmpR op_gt (pv 1) (pe_prop (pv 0) T.cls_Poly T.p_Poly_degree G_Poly_degree (hr.mono (by decide)) b_Poly_degree .nil passL rfl) (nomark _))))) (pss_one (ps_ret (pe_makeI T.mk_Fraction G_Fraction___init__ (hr.mono (by decide)) (by rfl) T.g_Fraction bd_Fraction___init__ v_Fraction___init__ passL (mkFr_conv K [_]) (pa_cons pe_int pa_nil)))) pss_nil)
      (pss_one (ps_ret (pe_makeI T.mk_Fraction G_Fraction___init__ (hr.mono (by decide)) (by rfl) T.g_Fraction b_Fraction___init__ .nil passL (mkFr_conv K []) (pa_cons (pe_ix ix_tup (pe_fld (pv 0) rfl) (pv 1) (fun _ _ => rfl)) (pa_cons (pe_fld (pv 0) rfl) pa_nil)))))), ?_⟩
    have zero : (i < 0 ∨ (ks.length : Int) - 1 < i) → ∀ p dp H2 n d, Same H H2 → H p = none → H2 p = some (.ins (CF K) dp (fsF n d)) → Fq 0 1 n d → Q (.ref p) H2 := fun h p dp H2 n d sm np hp f => by
      refine q p dp H2 n d sm np hp ?_
      have z : coI ks i = 0 := by
        unfold coI
        split
        · rfl
        · exact getD_end (by omega)
      rw [z]
      exact f.conv (by decide) (by grind)
    refine ⟨_, rfl, _, _, rfl, rfl, _, rfl, iteD (fun c => ?_) (fun c => ?_)⟩
    · refine iteK rfl ?_
      exact ⟨_, _, 8, rfl, by decide, by decide, by decide, zero (.inl c)⟩
    · refine ⟨_, rfl, _, rfl, _, _, _, rfl, ha, _, _, _, rfl, hp2, _, _, rfl, rfl, _, rfl, iteD (fun c2 => ?_) (fun c2 => ?_)⟩
      · exact ⟨_, _, 8, rfl, by decide, by decide, by decide, zero (.inr c2)⟩
      · have lt : i.toNat < ks.length := by omega
        refine ⟨_, rfl, _, _, _, _, _, rfl, ha, T.cls_Poly, T.n_Poly_coefs, rfl, _, rfl, _, _, _, _, rfl, rfl, SqT.of ht, at_of (j := i.toNat) (by omega) (map_at (get_of_lt lt)), _, rfl, _, _, _, _, _, rfl, ha, T.cls_Poly, T.n_Poly_den, rfl, _, _, k, rfl, eb, hk, by omega, fun p dp H2 n d sm np hp f => ?_⟩
        refine q p dp H2 n d sm np hp ?_
        unfold coI
        rw [if_neg c]
        exact f

theorem ok_Poly_lead (T : Tx K mg) (O_Poly_degree : OkF P w K mg base 1 (gtAd K (He.ga K "Poly") "degree") ["self"] (spPDeg K)) (O_Poly_coefficient : OkF P w K mg base 3 (He.fAd K ("Poly", some "coefficient")) ["self", "index"] (spPCo K)) : OkF P w K mg base 4 (gtAd K (He.ga K "Poly") "lead") ["self"] (spPLe K) := by
  obtain ⟨_, G_Poly_degree, b_Poly_degree, k_Poly_degree⟩ := O_Poly_degree
  obtain ⟨_, G_Poly_coefficient, b_Poly_coefficient, k_Poly_coefficient⟩ := O_Poly_coefficient
  refine okF_of (d := d_Poly_lead) T.d_Poly_lead rfl sc_Poly_lead (fun _ _ _ _ _ _ us hl => match us, hl with | [_], _ => rfl) (fun vs H Q E h => ?_) (fun cdv A outer s H vs Q E hr h => ?_)
  · first | (obtain ⟨_, rfl, _⟩ := h; rfl) | (obtain ⟨_, _, rfl, _⟩ := h; rfl) | (obtain ⟨_, _, _, rfl, _⟩ := h; rfl) | (obtain ⟨_, _, _, _, rfl, _⟩ := h; rfl) | (obtain ⟨_, _, _, _, _, rfl, _⟩ := h; rfl) | (obtain ⟨_, _, _, _, _, _, rfl, _⟩ := h; rfl) | (obtain ⟨_, _, _, _, _, _, _, rfl, _⟩ := h; rfl) | (obtain ⟨_, _, _, _, _, _, _, _, rfl, _⟩ := h; rfl) | (obtain ⟨_, _, _, _, _, _, _, _, _, rfl, _⟩ := h; rfl) | (obtain ⟨_, _, _, _, _, _, _, _, _, _, rfl, _⟩ := h; rfl)
  · obtain ⟨a, ks, e, k, rfl, hp, e0, eb, hk, q⟩ := h
    have hp2 := hp
    obtain ⟨da, t, ha, ht⟩ := hp
    refine ⟨_, (pss_one (ps_ret (pe_meth (pv 0) T.cls_Poly T.m_Poly_coefficient G_Poly_coefficient (hr.mono (by decide)) b_Poly_coefficient .nil passL (pa_cons (pe_prop (pv 0) T.cls_Poly T.p_Poly_degree G_Poly_degree (hr.mono (by decide)) b_Poly_degree .nil passL rfl) pa_nil)))), ?_⟩
    exact ⟨_, rfl, _, _, _, rfl, ha, rfl, _, rfl, _, _, _, rfl, ha, _, _, _, rfl, hp2, _, _, _, _, k, rfl, hp2, e0, eb, hk, q⟩

theorem ok_Fraction_is_zero (T : Tx K mg) : OkF P w K mg base 1 (gtAd K (He.ga K "Fraction") "is_zero") ["self"] (spZero K) := by
  refine okF_of (d := d_Fraction_is_zero) T.d_Fraction_is_zero rfl sc_Fraction_is_zero (fun _ _ _ _ _ _ us hl => match us, hl with | [_], _ => rfl) (fun vs H Q E h => ?_) (fun cdv A outer s H vs Q E hr h => ?_)
  · first | (obtain ⟨_, rfl, _⟩ := h; rfl) | (obtain ⟨_, _, rfl, _⟩ := h; rfl) | (obtain ⟨_, _, _, rfl, _⟩ := h; rfl) | (obtain ⟨_, _, _, _, rfl, _⟩ := h; rfl) | (obtain ⟨_, _, _, _, _, rfl, _⟩ := h; rfl) | (obtain ⟨_, _, _, _, _, _, rfl, _⟩ := h; rfl) | (obtain ⟨_, _, _, _, _, _, _, rfl, _⟩ := h; rfl) | (obtain ⟨_, _, _, _, _, _, _, _, rfl, _⟩ := h; rfl) | (obtain ⟨_, _, _, _, _, _, _, _, _, rfl, _⟩ := h; rfl) | (obtain ⟨_, _, _, _, _, _, _, _, _, _, rfl, _⟩ := h; rfl)
  · obtain ⟨a, da, n1, d1, rfl, ha, q⟩ := h
    refine ⟨_, (pss_one (ps_ret (pe_cmpR op_eq (pe_fld (pv 0) rfl) pe_int (nomark _)))), ?_⟩
    exact ⟨_, rfl, _, _, _, _, _, rfl, ha, T.cls_Fraction, T.n_Fraction_num, rfl, rfl, q⟩

theorem ok__in_lowest_terms (T : Tx K mg) (O_Fraction___init__ : OkD P w K mg base 1 (He.fAd K ("Fraction", some "__init__")) ["self", "num", "den"] (He.Dv.v K (.int 1)) (spInit K)) : OkF P w K mg base 3 (He.fAd K ("_in_lowest_terms", none)) ["num", "den"] (spLow K) := by
  obtain ⟨_, G_Fraction___init__, b_Fraction___init__, ⟨_, v_Fraction___init__, bd_Fraction___init__⟩, k_Fraction___init__⟩ := O_Fraction___init__
  refine okF_of (d := d__in_lowest_terms) T.d__in_lowest_terms rfl sc__in_lowest_terms (fun _ _ _ _ _ _ us hl => match us, hl with | [_, _], _ => rfl) (fun vs H Q E h => ?_) (fun cdv A outer s H vs Q E hr h => ?_)
  · first | (obtain ⟨_, rfl, _⟩ := h; rfl) | (obtain ⟨_, _, rfl, _⟩ := h; rfl) | (obtain ⟨_, _, _, rfl, _⟩ := h; rfl) | (obtain ⟨_, _, _, _, rfl, _⟩ := h; rfl) | (obtain ⟨_, _, _, _, _, rfl, _⟩ := h; rfl) | (obtain ⟨_, _, _, _, _, _, rfl, _⟩ := h; rfl) | (obtain ⟨_, _, _, _, _, _, _, rfl, _⟩ := h; rfl) | (obtain ⟨_, _, _, _, _, _, _, _, rfl, _⟩ := h; rfl) | (obtain ⟨_, _, _, _, _, _, _, _, _, rfl, _⟩ := h; rfl) | (obtain ⟨_, _, _, _, _, _, _, _, _, _, rfl, _⟩ := h; rfl)
  · obtain ⟨n, d, rfl, q⟩ := h
    refine ⟨_, (pss_cons (ps_set (i := 2) sc__in_lowest_terms.nd rfl (Or.inl rfl) (pe_makeI T.mk_Fraction G_Fraction___init__ (hr.mono (by decide)) (by rfl) T.g_Fraction bd_Fraction___init__ v_Fraction___init__ passL (mkFr_conv K [_]) (pa_cons pe_int pa_nil)))
      (pss_cons (ps_fld (pv 2) (pv 0) rfl)
      (pss_cons (ps_fld (pv 2) (pv 1) rfl)
      (pss_one (ps_ret (pv 2)))))), ?_⟩
    refine ⟨0, 1, 1, rfl, by decide, by decide, by decide, fun p dp H2 a b sm np hp fq => ?_⟩
    refine ⟨_, rfl, _, rfl, p, _, dp, _, rfl, hp, T.cls_Fraction, T.n_Fraction_num, (show (2 : Nat) < 1000 by decide), ?_⟩
    refine ⟨_, rfl, _, rfl, p, _, dp, _, rfl, upd_same, T.cls_Fraction, T.n_Fraction_den, (show (2 : Nat) < 1000 by decide), ?_⟩
    exact ⟨_, rfl, q p dp _ n d (same_mut (same_mut sm np) np) np upd_same ⟨rfl, rfl⟩⟩

theorem ok_Fraction___mul__ (T : Tx K mg) (O__in_lowest_terms : OkF P w K mg base 3 (He.fAd K ("_in_lowest_terms", none)) ["num", "den"] (spLow K)) : OkF P w K mg base 4 (He.fAd K ("Fraction", some "__mul__")) ["self", "other"] (spMul K) := by
  obtain ⟨_, G__in_lowest_terms, b__in_lowest_terms, k__in_lowest_terms⟩ := O__in_lowest_terms
  refine okF_of (d := d_Fraction___mul__) T.d_Fraction___mul__ rfl sc_Fraction___mul__ (fun _ _ _ _ _ _ us hl => match us, hl with | [_, _], _ => rfl) (fun vs H Q E h => ?_) (fun cdv A outer s H vs Q E hr h => ?_)
  · first | (obtain ⟨_, rfl, _⟩ := h; rfl) | (obtain ⟨_, _, rfl, _⟩ := h; rfl) | (obtain ⟨_, _, _, rfl, _⟩ := h; rfl) | (obtain ⟨_, _, _, _, rfl, _⟩ := h; rfl) | (obtain ⟨_, _, _, _, _, rfl, _⟩ := h; rfl) | (obtain ⟨_, _, _, _, _, _, rfl, _⟩ := h; rfl) | (obtain ⟨_, _, _, _, _, _, _, rfl, _⟩ := h; rfl) | (obtain ⟨_, _, _, _, _, _, _, _, rfl, _⟩ := h; rfl) | (obtain ⟨_, _, _, _, _, _, _, _, _, rfl, _⟩ := h; rfl) | (obtain ⟨_, _, _, _, _, _, _, _, _, _, rfl, _⟩ := h; rfl)
  · obtain ⟨a, b, da, db, n1, d1, n2, d2, k, rfl, ha, hb, l1, l2, hk, q⟩ := h
    refine ⟨_, (pss_cons (ps_setI (i := 2) sc_Fraction___mul__.nd rfl (Or.inl rfl) (pe_callBfun cr_gcd rfl T.g_gcd (pa_cons (pe_fld (pv 0) rfl) (pa_cons (pe_fld (pv 1) rfl) pa_nil))))
      (pss_cons (ps_setI (i := 3) sc_Fraction___mul__.nd rfl (Or.inl rfl) (pe_callBfun cr_gcd rfl T.g_gcd (pa_cons (pe_fld (pv 1) rfl) (pa_cons (pe_fld (pv 0) rfl) pa_nil))))
      (pss_cons (ps_setI (i := 4) sc_Fraction___mul__.nd rfl (Or.inl rfl) (pe_op op_mulW (pe_op op_fdivW (pe_fld (pv 0) rfl) (pv 2)) (pe_op op_fdivW (pe_fld (pv 1) rfl) (pv 3))))
      (pss_one (ps_ret (pe_call G__in_lowest_terms (hr.mono (by decide)) (by rfl) T.g__in_lowest_terms k__in_lowest_terms b__in_lowest_terms .nil passL (pa_cons (pv 4) (pa_cons (pe_op op_mulW (pe_op op_fdivW (pe_fld (pv 0) rfl) (pv 3)) (pe_op op_fdivW (pe_fld (pv 1) rfl) (pv 2))) pa_nil)))))))), ?_⟩
    refine ⟨_, rfl, _, _, _, _, _, rfl, ha, T.cls_Fraction, T.n_Fraction_num, rfl, _, rfl, _, _, _, _, _, rfl, hb, T.cls_Fraction, T.n_Fraction_den, rfl, _, _, rfl, _, rfl, fun l el => ?_⟩
    refine ⟨_, rfl, _, _, _, _, _, rfl, hb, T.cls_Fraction, T.n_Fraction_num, rfl, _, rfl, _, _, _, _, _, rfl, ha, T.cls_Fraction, T.n_Fraction_den, rfl, _, _, rfl, _, rfl, fun r er => ?_⟩
    obtain ⟨l0, r0, f⟩ := fq_mul l1.pos l2.pos l1.cop l2.cop el er
    have lb : l.natAbs < 2 ^ k := Nat.lt_of_le_of_lt (by
      rw [el, Int.natAbs_natCast]
      exact Nat.le_of_dvd (by have := l2.pos; omega) (Nat.gcd_dvd_right _ _)) l2.bd
    have rb : r.natAbs < 2 ^ k := Nat.lt_of_le_of_lt (by
      rw [er, Int.natAbs_natCast]
      exact Nat.le_of_dvd (by have := l1.pos; omega) (Nat.gcd_dvd_right _ _)) l1.bd
    have b1 : (n1 / l).natAbs < 2 ^ k := Nat.lt_of_le_of_lt (Int.natAbs_ediv_le_natAbs _ _) l1.bn
    have b2 : (n2 / r).natAbs < 2 ^ k := Nat.lt_of_le_of_lt (Int.natAbs_ediv_le_natAbs _ _) l2.bn
    have b3 : (d1 / r).natAbs < 2 ^ k := Nat.lt_of_le_of_lt (Int.natAbs_ediv_le_natAbs _ _) l1.bd
    have b4 : (d2 / l).natAbs < 2 ^ k := Nat.lt_of_le_of_lt (Int.natAbs_ediv_le_natAbs _ _) l2.bd
    refine ⟨_, rfl, _, _, _, _, _, rfl, ha, T.cls_Fraction, T.n_Fraction_num, rfl, _, rfl, _, _, rfl, rfl, divW l0 lb hk, _, rfl, _, _, _, _, _, rfl, hb, T.cls_Fraction, T.n_Fraction_num, rfl, _, rfl, _, _, rfl, rfl, divW r0 rb hk, _, _, rfl, rfl, mulW b1 b2 (by omega), _, rfl, fun num en => ?_⟩
    refine ⟨_, rfl, _, rfl, _, _, _, _, _, rfl, ha, T.cls_Fraction, T.n_Fraction_den, rfl, _, rfl, _, _, rfl, rfl, divW r0 rb hk, _, rfl, _, _, _, _, _, rfl, hb, T.cls_Fraction, T.n_Fraction_den, rfl, _, rfl, _, _, rfl, rfl, divW l0 lb hk, _, _, rfl, rfl, mulW b3 b4 (by omega), _, _, rfl, fun p dp H' n d sm np hp e => ?_⟩
    obtain ⟨rfl, rfl⟩ := e
    rw [← en] at f
    exact q p dp H' _ _ sm np hp f

theorem ok_Fraction_over (T : Tx K mg) (O_Fraction_is_zero : OkF P w K mg base 1 (gtAd K (He.ga K "Fraction") "is_zero") ["self"] (spZero K)) (O_Fraction___init__ : OkD P w K mg base 1 (He.fAd K ("Fraction", some "__init__")) ["self", "num", "den"] (He.Dv.v K (.int 1)) (spInit K)) (O_Fraction___mul__ : OkF P w K mg base 4 (He.fAd K ("Fraction", some "__mul__")) ["self", "other"] (spMul K)) : OkF P w K mg base 5 (He.fAd K ("Fraction", some "over")) ["self", "other"] (spOver K) := by
  obtain ⟨_, G_Fraction_is_zero, b_Fraction_is_zero, k_Fraction_is_zero⟩ := O_Fraction_is_zero
  obtain ⟨_, G_Fraction___init__, b_Fraction___init__, ⟨_, v_Fraction___init__, bd_Fraction___init__⟩, k_Fraction___init__⟩ := O_Fraction___init__
  obtain ⟨_, G_Fraction___mul__, b_Fraction___mul__, k_Fraction___mul__⟩ := O_Fraction___mul__
  refine okF_of (d := d_Fraction_over) T.d_Fraction_over rfl sc_Fraction_over (fun _ _ _ _ _ _ us hl => match us, hl with | [_, _], _ => rfl) (fun vs H Q E h => ?_) (fun cdv A outer s H vs Q E hr h => ?_)
  · first | (obtain ⟨_, rfl, _⟩ := h; rfl) | (obtain ⟨_, _, rfl, _⟩ := h; rfl) | (obtain ⟨_, _, _, rfl, _⟩ := h; rfl) | (obtain ⟨_, _, _, _, rfl, _⟩ := h; rfl) | (obtain ⟨_, _, _, _, _, rfl, _⟩ := h; rfl) | (obtain ⟨_, _, _, _, _, _, rfl, _⟩ := h; rfl) | (obtain ⟨_, _, _, _, _, _, _, rfl, _⟩ := h; rfl) | (obtain ⟨_, _, _, _, _, _, _, _, rfl, _⟩ := h; rfl) | (obtain ⟨_, _, _, _, _, _, _, _, _, rfl, _⟩ := h; rfl) | (obtain ⟨_, _, _, _, _, _, _, _, _, _, rfl, _⟩ := h; rfl)
  · obtain ⟨a, b, da, db, n1, d1, n2, d2, k, rfl, ha, hb, l1, l2, hk, hE, q⟩ := h
    refine ⟨_, (pss_cons (ps_if (pt_val (pe_prop (pv 1) T.cls_Fraction T.p_Fraction_is_zero G_Fraction_is_zero (hr.mono (by decide)) b_Fraction_is_zero .nil passL rfl)) (pss_one (ps_raise rfl (takes_of rfl rfl rfl rfl) (pmk_own PySem.F.excBase_ValueError T.x_DivisionByZero T.g_DivisionByZero T.k_DivisionByZero (T.r_DivisionByZero rfl) rfl))) pss_nil)
      (pss_one (ps_ret (pe_op (op_own2 T.first_Fraction T.s_Fraction___mul__ T.f_Fraction___mul__ G_Fraction___mul__ (hr.mono (by decide)) b_Fraction___mul__ passL) (pv 0) (pe_makeI T.mk_Fraction G_Fraction___init__ (hr.mono (by decide)) (by rfl) T.g_Fraction b_Fraction___init__ .nil passL (mkFr_conv K []) (pa_cons (pe_fld (pv 1) rfl) (pa_cons (pe_fld (pv 1) rfl) pa_nil))))))), ?_⟩
    refine ⟨_, rfl, _, _, _, rfl, hb, _, _, _, _, rfl, hb, _, rfl, iteEq (fun c => ?_) (fun c => ?_)⟩
    · exact hE c
    refine ⟨_, rfl, _, rfl, _, _, _, _, _, rfl, hb, T.cls_Fraction, T.n_Fraction_den, rfl, _, rfl, _, _, _, _, _, rfl, hb, T.cls_Fraction, T.n_Fraction_num, rfl, _, _, k, rfl, l2.bn, hk, c, fun p dp H1 x y sm np hp f => ?_⟩
    have ha1 := sm _ _ ha
    have l3 : Lw k x y := lw_of f c l2.bd l2.bn
    refine ⟨_, _, _, _, _, _, rfl, rfl, ha1, hp, _, _, _, _, _, _, _, _, k, rfl, ha1, hp, l1, l3, hk, fun p2 dp2 H2 n d sm2 np2 hp2 e2 => ?_⟩
    refine q c p2 dp2 H2 _ _ (sm.trans sm2) (sm.free np2) hp2 ?_
    refine e2.conv ?_ ?_
    · have z1 := l1.pos
      have z2 := l3.pos
      exact Int.mul_ne_zero (by omega) (by omega)
    · have z := f.eq
      have : n1 * x * (d1 * n2) = n1 * d1 * (x * n2) := by grind
      rw [this, z]
      grind

theorem ok_Fraction_is_whole (T : Tx K mg) : OkF P w K mg base 1 (gtAd K (He.ga K "Fraction") "is_whole") ["self"] (spWhole K) := by
  refine okF_of (d := d_Fraction_is_whole) T.d_Fraction_is_whole rfl sc_Fraction_is_whole (fun _ _ _ _ _ _ us hl => match us, hl with | [_], _ => rfl) (fun vs H Q E h => ?_) (fun cdv A outer s H vs Q E hr h => ?_)
  · first | (obtain ⟨_, rfl, _⟩ := h; rfl) | (obtain ⟨_, _, rfl, _⟩ := h; rfl) | (obtain ⟨_, _, _, rfl, _⟩ := h; rfl) | (obtain ⟨_, _, _, _, rfl, _⟩ := h; rfl) | (obtain ⟨_, _, _, _, _, rfl, _⟩ := h; rfl) | (obtain ⟨_, _, _, _, _, _, rfl, _⟩ := h; rfl) | (obtain ⟨_, _, _, _, _, _, _, rfl, _⟩ := h; rfl) | (obtain ⟨_, _, _, _, _, _, _, _, rfl, _⟩ := h; rfl) | (obtain ⟨_, _, _, _, _, _, _, _, _, rfl, _⟩ := h; rfl) | (obtain ⟨_, _, _, _, _, _, _, _, _, _, rfl, _⟩ := h; rfl)
  · obtain ⟨a, da, n1, d1, rfl, ha, q⟩ := h
    refine ⟨_, (pss_one (ps_ret (pe_cmpR op_eq (pe_fld (pv 0) rfl) pe_int (nomark _)))), ?_⟩
    exact ⟨_, rfl, _, _, _, _, _, rfl, ha, T.cls_Fraction, T.n_Fraction_den, rfl, rfl, q⟩

theorem ok_degree_bound (T : Tx K mg) (O_Poly_is_zero : OkF P w K mg base 1 (gtAd K (He.ga K "Poly") "is_zero") ["self"] (spPZer K)) (O_Poly_shifted : OkF P w K mg base 4 (He.fAd K ("Poly", some "shifted")) ["self", "step"] (spPShi K)) (O_Poly___sub__ : OkF P w K mg base 5 (He.fAd K ("Poly", some "__sub__")) ["self", "other"] (spPSub K)) (O_Poly___add__ : OkF P w K mg base 4 (He.fAd K ("Poly", some "__add__")) ["self", "other"] (spPAdd K)) (O_Poly_degree : OkF P w K mg base 1 (gtAd K (He.ga K "Poly") "degree") ["self"] (spPDeg K)) (O_Poly_coefficient : OkF P w K mg base 3 (He.fAd K ("Poly", some "coefficient")) ["self", "index"] (spPCo K)) (O_Fraction___init__ : OkD P w K mg base 1 (He.fAd K ("Fraction", some "__init__")) ["self", "num", "den"] (He.Dv.v K (.int 1)) (spInit K)) (O_Poly_lead : OkF P w K mg base 4 (gtAd K (He.ga K "Poly") "lead") ["self"] (spPLe K)) (O_Fraction_over : OkF P w K mg base 5 (He.fAd K ("Fraction", some "over")) ["self", "other"] (spOver K)) (O_Fraction___mul__ : OkF P w K mg base 4 (He.fAd K ("Fraction", some "__mul__")) ["self", "other"] (spMul K)) (O_Fraction_is_whole : OkF P w K mg base 1 (gtAd K (He.ga K "Fraction") "is_whole") ["self"] (spWhole K)) : OkF P w K mg base 6 (He.fAd K ("degree_bound", none)) ["a", "b", "c"] (spDB K) := by
  obtain ⟨_, G_Poly_is_zero, b_Poly_is_zero, k_Poly_is_zero⟩ := O_Poly_is_zero
  obtain ⟨_, G_Poly_shifted, b_Poly_shifted, k_Poly_shifted⟩ := O_Poly_shifted
  obtain ⟨_, G_Poly___sub__, b_Poly___sub__, k_Poly___sub__⟩ := O_Poly___sub__
  obtain ⟨_, G_Poly___add__, b_Poly___add__, k_Poly___add__⟩ := O_Poly___add__
  obtain ⟨_, G_Poly_degree, b_Poly_degree, k_Poly_degree⟩ := O_Poly_degree
  obtain ⟨_, G_Poly_coefficient, b_Poly_coefficient, k_Poly_coefficient⟩ := O_Poly_coefficient
  obtain ⟨_, G_Fraction___init__, b_Fraction___init__, ⟨_, v_Fraction___init__, bd_Fraction___init__⟩, k_Fraction___init__⟩ := O_Fraction___init__
  obtain ⟨_, G_Poly_lead, b_Poly_lead, k_Poly_lead⟩ := O_Poly_lead
  obtain ⟨_, G_Fraction_over, b_Fraction_over, k_Fraction_over⟩ := O_Fraction_over
  obtain ⟨_, G_Fraction___mul__, b_Fraction___mul__, k_Fraction___mul__⟩ := O_Fraction___mul__
  obtain ⟨_, G_Fraction_is_whole, b_Fraction_is_whole, k_Fraction_is_whole⟩ := O_Fraction_is_whole
  refine okF_of (d := d_degree_bound) T.d_degree_bound rfl sc_degree_bound (fun _ _ _ _ _ _ us hl => match us, hl with | [_, _, _], _ => rfl) (fun vs H Q E h => ?_) (fun cdv A outer s H vs Q E hr h => ?_)
  · (obtain ⟨_, _, _, _, _, _, _, _, _, _, _, _, rfl, _⟩ := h; rfl)
  · obtain ⟨a, b, c, ka, kb, kc, ea, eb, ec, _, _, _, rfl, pa, pb, pc, hE, q⟩ := h
    obtain ⟨da, ta, ha, hta⟩ := id pa.at_
    obtain ⟨db, tb, hb, htb⟩ := id pb.at_
    obtain ⟨dc, tc, hc, htc⟩ := id pc.at_
    have nl : ∀ {xs : List Int}, (xs.length : Int) = 0 → xs = [] := fun h => List.eq_nil_of_length_eq_zero (by omega)
    refine ⟨_, (pss_cons (ps_if (PW.pt (pw_or (pt_val (pe_prop (pv 0) T.cls_Poly T.p_Poly_is_zero G_Poly_is_zero (hr.mono (by decide)) b_Poly_is_zero .nil passL rfl)) (pw_or (pt_val (pe_prop (pv 1) T.cls_Poly T.p_Poly_is_zero G_Poly_is_zero (hr.mono (by decide)) b_Poly_is_zero .nil passL rfl)) (pw_or1 (pt_val (pe_prop (pv 2) T.cls_Poly T.p_Poly_is_zero G_Poly_is_zero (hr.mono (by decide)) b_Poly_is_zero .nil passL rfl)))))) (pss_one (ps_raise rfl (takes_of rfl rfl rfl rfl) (pmk_own PySem.F.excBase_ValueError T.x_ZeroPolynomial T.g_ZeroPolynomial T.k_ZeroPolynomial (T.r_ZeroPolynomial rfl) rfl))) pss_nil)
      (pss_cons (ps_set (i := 3) sc_degree_bound.nd rfl (Or.inl rfl) (pe_meth (pv 1) T.cls_Poly T.m_Poly_shifted G_Poly_shifted (hr.mono (by decide)) b_Poly_shifted .nil passL (pa_cons (pe_un un_neg pe_int) pa_nil)))
      (pss_cons (ps_set (i := 4) sc_degree_bound.nd rfl (Or.inl rfl) (pe_op (op_own2 T.first_Poly T.s_Poly___sub__ T.f_Poly___sub__ G_Poly___sub__ (hr.mono (by decide)) b_Poly___sub__ passL) (pv 0) (pv 3)))
      (pss_cons (ps_set (i := 5) sc_degree_bound.nd rfl (Or.inl rfl) (pe_op (op_own2 T.first_Poly T.s_Poly___add__ T.f_Poly___add__ G_Poly___add__ (hr.mono (by decide)) b_Poly___add__ passL) (pv 0) (pv 3)))
      (pss_cons (ps_if (pt_cmpR op_ge (pe_prop (pv 4) T.cls_Poly T.p_Poly_degree G_Poly_degree (hr.mono (by decide)) b_Poly_degree .nil passL rfl) (pe_prop (pv 5) T.cls_Poly T.p_Poly_degree G_Poly_degree (hr.mono (by decide)) b_Poly_degree .nil passL rfl) (nomark _)) (pss_one (ps_ret (pe_callB (call_max2 rfl) (by rfl) T.z_max (by decide +kernel) (pa_cons (pe_un un_neg pe_int) (pa_cons (pe_op op_sub (pe_prop (pv 2) T.cls_Poly T.p_Poly_degree G_Poly_degree (hr.mono (by decide)) b_Poly_degree .nil passL rfl) (pe_prop (pv 4) T.cls_Poly T.p_Poly_degree G_Poly_degree (hr.mono (by decide)) b_Poly_degree .nil passL rfl)) pa_nil))))) pss_nil)
      (pss_cons (ps_setI (i := 6) sc_degree_bound.nd rfl (Or.inl rfl) (pe_op op_add (pe_op op_sub (pe_prop (pv 2) T.cls_Poly T.p_Poly_degree G_Poly_degree (hr.mono (by decide)) b_Poly_degree .nil passL rfl) (pe_prop (pv 5) T.cls_Poly T.p_Poly_degree G_Poly_degree (hr.mono (by decide)) b_Poly_degree .nil passL rfl)) pe_int))
      (pss_cons (ps_set (i := 7) sc_degree_bound.nd rfl (Or.inl rfl) (pe_op (op_own2 T.first_Fraction T.s_Fraction___mul__ T.f_Fraction___mul__ G_Fraction___mul__ (hr.mono (by decide)) b_Fraction___mul__ passL) (pe_meth (pv 4) T.cls_Poly T.m_Poly_coefficient G_Poly_coefficient (hr.mono (by decide)) b_Poly_coefficient .nil passL (pa_cons (pe_op op_sub (pe_prop (pv 5) T.cls_Poly T.p_Poly_degree G_Poly_degree (hr.mono (by decide)) b_Poly_degree .nil passL rfl) pe_int) pa_nil)) (pe_meth (pe_makeI T.mk_Fraction G_Fraction___init__ (hr.mono (by decide)) (by rfl) T.g_Fraction bd_Fraction___init__ v_Fraction___init__ passL (mkFr_conv K [_]) (pa_cons (pe_un un_neg pe_int) pa_nil)) T.cls_Fraction T.m_Fraction_over G_Fraction_over (hr.mono (by decide)) b_Fraction_over .nil passL (pa_cons (pe_prop (pv 5) T.cls_Poly T.p_Poly_lead G_Poly_lead (hr.mono (by decide)) b_Poly_lead .nil passL rfl) pa_nil))))
      (Evl.pss_cut (ps_if (pt_val (pe_prop (pv 7) T.cls_Fraction T.p_Fraction_is_whole G_Fraction_is_whole (hr.mono (by decide)) b_Fraction_is_whole .nil passL rfl)) (pss_one (ps_setI (i := 6) sc_degree_bound.nd rfl (Or.inl rfl) (pe_callB (call_max2 rfl) (by rfl) T.z_max (by decide +kernel) (pa_cons (pv 6) (pa_cons (pe_fld (pv 7) rfl) pa_nil))))) pss_nil)
      (pss_one (ps_ret (pe_callB (call_max2 rfl) (by rfl) T.z_max (by decide +kernel) (pa_cons (pe_un un_neg pe_int) (pa_cons (pv 6) pa_nil))))))))))))), ?_⟩
    refine ⟨_, rfl, _, _, _, rfl, ha, _, _, _, rfl, pa.at_, _, rfl, iteEq (fun z => iteK rfl ?_) (fun za => ?_)⟩
    · exact hE (.inl (nl z))
    refine ⟨_, rfl, _, _, _, rfl, hb, _, _, _, rfl, pb.at_, _, rfl, iteEq (fun z => iteK rfl ?_) (fun zb => ?_)⟩
    · exact hE (.inr (.inl (nl z)))
    refine ⟨_, rfl, _, _, _, rfl, hc, _, _, _, rfl, pc.at_, _, rfl, iteEq (fun z => ?_) (fun zc => ?_)⟩
    · exact hE (.inr (.inr (nl z)))
    have q := q (fun z => za (by rw [z]; rfl)) (fun z => zb (by rw [z]; rfl)) (fun z => zc (by rw [z]; rfl))
    have ea0 := pa.pq.pos
    have eb0 := pb.pq.pos
    have ec0 := pc.pq.pos
    refine ⟨_, rfl, _, _, _, rfl, hb, rfl, _, rfl, b, kb, eb, -1, 400, 1, rfl, pb.at_, eb0, abs_mono pb.ed (by decide), pb.bits, by decide, by have := pb.len; omega, by decide, ?_, fun p1 H1 ms g s1 np1 hp1 ⟨zs, iz, bz, pq1⟩ => ?_⟩
    · unfold shB
      have h1 : kb.length + 1 ≤ 21 := by have := pb.len; omega
      have := Nat.mul_le_mul h1 h1
      omega
    have bz2 : Bits 1400 zs := bz.mono (by
      unfold shB
      have h1 : kb.length + 1 ≤ 21 := by have := pb.len; omega
      have := Nat.mul_le_mul h1 h1
      omega)
    have bms : Bits 1400 ms := pq1.bits (by omega) bz2
    have g0 := pq1.pos
    have gb : g.natAbs < 2 ^ 20 := Nat.lt_of_le_of_lt (pq1.den_le (by omega)) pb.ed
    have ml : ms.length ≤ 20 := by have h1 := pq1.len (by omega); have h2 := iz.len; have := pb.len; omega
    obtain ⟨d1, t1, h1, ht1⟩ := id hp1
    have bka : Bits 1400 ka := pa.bits.mono (by decide)
    have al := pa.len
    refine ⟨_, rfl, _, rfl, _, _, _, _, _, _, rfl, rfl, s1 _ _ ha, h1, a, p1, ka, ms, ea, g, 1400, rfl, pa.at_.mono s1, hp1, pa.pq, pq1.self, bka, bms, by decide, abs_mono pa.ed (by decide), abs_mono gb (by decide), by omega, by omega, fun p2 H2 kd ed s2 np2 hp2 pq2 => ?_⟩
    refine ⟨_, rfl, _, rfl, _, _, _, _, _, _, rfl, rfl, (s1.trans s2) _ _ ha, s2 _ _ h1, a, p1, ka, ms, ea, g, 1400, rfl, pa.at_.mono (s1.trans s2), hp1.mono s2, pa.pq, pq1.self, bka, bms, by decide, abs_mono pa.ed (by decide), abs_mono gb (by decide), by omega, by omega, fun p3 H3 kt et s3 np3 hp3 pq3 => ?_⟩
    have s12 := s1.trans s2
    have s13 := s12.trans s3
    have hp2' := hp2.mono s3
    obtain ⟨d2, t2, h2, ht2⟩ := id hp2'
    obtain ⟨d3, t3, h3, ht3⟩ := id hp3
    have eg0 : ea * g ≠ 0 := Int.mul_ne_zero (by omega) (by omega)
    have egb : (ea * g).natAbs < 2 ^ 40 := abs_lt_mul pa.ed gb
    have ed0 := pq2.pos
    have et0 := pq3.pos
    have edb : ed.natAbs < 2 ^ 40 := Nat.lt_of_le_of_lt (pq2.den_le eg0) egb
    have etb : et.natAbs < 2 ^ 40 := Nat.lt_of_le_of_lt (pq3.den_le eg0) egb
    have f1 : ∀ i, rv ms g i = rv zs eb i := pq1.rv (by omega)
    have f2 : ∀ i, rv kd ed i = rv ka ea i - rv zs eb i := fun i => by rw [pq2.rv eg0, rv_sub (by omega) (by omega), f1]
    have f3 : ∀ i, rv kt et i = rv ka ea i + rv zs eb i := fun i => by rw [pq3.rv eg0, rv_add (by omega) (by omega), f1]
    have L1 : Ln (rv kc ec) kc.length := pc.pq.tf.ln (by omega)
    have L2' : Ln (rv kd ed) kd.length := pq2.tf.ln (by omega)
    have L3 : Ln (rv kt et) kt.length := pq3.tf.ln (by omega)
    have bsum : Bits 1450 (sumP ka ea (ms.map fun x => -x) g) := bits_of_at fun i => by
      rw [sumP_at, neg_at]
      exact abs_mono (sz_add (abs_lt_mul (bka.getD i) gb) (abs_lt_mul (sz_neg (bms.getD i)) pa.ed)) (by omega)
    have bsum3 : Bits 1450 (sumP ka ea ms g) := bits_of_at fun i => by
      rw [sumP_at]
      exact abs_mono (sz_add (abs_lt_mul (bka.getD i) gb) (abs_lt_mul (bms.getD i) pa.ed)) (by omega)
    have bkd := pq2.bits eg0 bsum
    have bkt := pq3.bits eg0 bsum3
    refine ⟨_, rfl, _, _, _, rfl, h2, _, _, _, rfl, hp2', _, rfl, _, _, _, rfl, h3, _, _, _, rfl, hp3, _, _, rfl, rfl, _, rfl, iteD (fun c1 => ?_) (fun c1 => ?_)⟩
    · refine ⟨_, rfl, _, rfl, _, _, _, rfl, s13 _ _ hc, _, _, _, rfl, pc.at_.mono s13, _, rfl, _, _, _, rfl, h2, _, _, _, rfl, hp2', _, _, rfl, rfl, _, _, rfl, ?_⟩
      rw [max2]
      refine q _ H3 zs s13 iz (DB.congr (C := rv kc ec) (p := rv kd ed) (s := rv kt et) ⟨kc.length, kd.length, kt.length, L1, L2', L3, .inl ⟨by omega, ?_⟩⟩ (fun _ => rfl) f2 f3)
      omega
    have tpos : 0 < kt.length := by omega
    refine ⟨_, rfl, _, _, _, rfl, s13 _ _ hc, _, _, _, rfl, pc.at_.mono s13, _, rfl, _, _, _, rfl, h3, _, _, _, rfl, hp3, _, _, rfl, rfl, _, _, rfl, rfl, _, rfl, fun bd ebd => ?_⟩
    refine ⟨_, rfl, _, _, _, rfl, h2, rfl, _, rfl, _, _, _, rfl, h3, _, _, _, rfl, hp3, _, _, rfl, rfl, p2, kd, ed, _, 40, rfl, hp2', ed0, edb, by decide, fun p4 dp4 H4 n1 m1 s4 np4 hp4 fq1 => ?_⟩
    have m0 := fq1.pos
    refine ⟨_, rfl, -2, 1, 2, rfl, by decide, by decide, by decide, fun p5 dp5 H5 n2 m2 s5 np5 hp5 fq2 => ?_⟩
    refine ⟨_, _, _, rfl, hp5, rfl, _, rfl, _, _, _, rfl, (s4.trans s5) _ _ h3, p3, kt, et, 40, rfl, hp3.mono (s4.trans s5), et0, etb, by decide, fun p6 dp6 H6 n3 m3 s6 np6 hp6 fq3 => ?_⟩
    have lead0 : kt.getD (kt.length - 1) 0 ≠ 0 := pq3.tf.tr.resolve_left (by omega)
    have ci : coI kt ((kt.length : Int) - 1) = kt.getD (kt.length - 1) 0 := by
      unfold coI
      rw [if_neg (by omega)]
      congr 1
      omega
    rw [ci] at fq3
    have lw2 : Lw 1500 n2 m2 := lw_of fq2 (by decide) (Nat.lt_of_lt_of_le (show (-2 : Int).natAbs < 2 ^ 2 by decide) (Nat.pow_le_pow_right (by decide) (by decide))) (Nat.lt_of_lt_of_le (show (1 : Int).natAbs < 2 ^ 2 by decide) (Nat.pow_le_pow_right (by decide) (by decide)))
    have lw3 : Lw 1500 n3 m3 := lw_of fq3 (by omega) (abs_mono (bkt.getD _) (by decide)) (abs_mono etb (by decide))
    have n30 : n3 ≠ 0 := fun z => lead0 ((fq3.zero_iff (by omega)).mp z)
    refine ⟨p5, p6, dp5, dp6, n2, m2, n3, m3, 1500, rfl, s6 _ _ hp5, hp6, lw2, lw3, by decide, fun z => absurd z n30, fun _ p7 dp7 H7 n4 m4 s7 np7 hp7 fq4 => ?_⟩
    have m30 := lw3.pos
    have m20 := lw2.pos
    have d40 : m2 * n3 ≠ 0 := Int.mul_ne_zero (by omega) n30
    have lw4 : Lw 3000 n4 m4 := lw_of fq4 d40 (abs_mono (abs_lt_mul lw2.bn lw3.bd) (by decide)) (abs_mono (abs_lt_mul lw2.bd lw3.bn) (by decide))
    have bco : (coI kd ((kt.length : Int) - 1 - 1)).natAbs < 2 ^ 3000 := by
      unfold coI
      split
      · exact Nat.pow_pos (by decide)
      · exact abs_mono (bkd.getD _) (by decide)
    have lw1 : Lw 3000 n1 m1 := lw_of fq1 (by omega) bco (abs_mono edb (by decide))
    have s57 := (s5.trans s6).trans s7
    refine ⟨_, _, _, _, _, _, rfl, rfl, s57 _ _ hp4, hp7, p4, p7, dp4, dp7, n1, m1, n4, m4, 3000, rfl, s57 _ _ hp4, hp7, lw1, lw4, by decide, fun p8 dp8 H8 n5 m5 s8 np8 hp8 fq5 => ?_⟩
    have s18 : Same H H8 := ((s13.trans s4).trans s57).trans s8
    have m40 := lw4.pos
    have m10 := lw1.pos
    have mm0 : m1 * m4 ≠ 0 := Int.mul_ne_zero (by omega) (by omega)
    -- the value of other
    have st : rv kt et (kt.length - 1) ≠ 0 := fun z => lead0 ((rv_zero (by omega)).mp z)
    have val : ((n5 : Int) : Rat) / ((m5 : Int) : Rat) * rv kt et (kt.length - 1) = -2 * (if 2 ≤ kt.length then rv kd ed (kt.length - 2) else 0) := by
      have e5 := fq5.rat mm0
      have e4 := fq4.rat d40
      have e3 := fq3.rat (by omega)
      have e2 := fq2.rat (by decide)
      have e1 := fq1.rat (by omega)
      have hco : ((coI kd ((kt.length : Int) - 1 - 1) : Int) : Rat) / ((ed : Int) : Rat) = (if 2 ≤ kt.length then rv kd ed (kt.length - 2) else 0) := by
        unfold coI
        by_cases c2 : 2 ≤ kt.length
        · rw [if_pos c2, if_neg (by omega), show ((kt.length : Int) - 1 - 1).toNat = kt.length - 2 by omega]
          rfl
        · rw [if_neg c2, if_pos (by omega)]
          have := ratc_ne (show ed ≠ 0 by omega)
          rw [Rat.intCast_zero]
          grind
      rw [hco] at e1
      have hl : ((kt.getD (kt.length - 1) 0 : Int) : Rat) / ((et : Int) : Rat) = rv kt et (kt.length - 1) := rfl
      rw [hl] at e3
      have z1 := ratc_ne (show m1 ≠ 0 by omega)
      have z2 := ratc_ne (show m2 ≠ 0 by omega)
      have z3 := ratc_ne (show m3 ≠ 0 by omega)
      have z4 := ratc_ne (show m4 ≠ 0 by omega)
      have z5 := ratc_ne (show m5 ≠ 0 by have := fq5.pos; omega)
      have z6 := ratc_ne n30
      rw [Rat.intCast_mul, Rat.intCast_mul] at e5 e4
      have e2' : ((n2 : Int) : Rat) = -2 * ((m2 : Int) : Rat) := by
        have : ((-2 : Int) : Rat) = -2 := rfl
        have : ((1 : Int) : Rat) = 1 := rfl
        grind
      generalize rv kt et (kt.length - 1) = L at *
      generalize (if 2 ≤ kt.length then rv kd ed (kt.length - 2) else 0) = w at *
      grind
    have m50 := fq5.pos
    refine ⟨fun σ' H' => H8 = H' ∧ ∃ bd2 : Int, σ' = [some (.ref a), some (.ref b), some (.ref c), some (.ref p1), some (.ref p2), some (.ref p3), some (.int bd2), some (.ref p8)] ∧ ((∃ w : Int, (w : Rat) * rv kt et (kt.length - 1) = -2 * (if 2 ≤ kt.length then rv kd ed (kt.length - 2) else 0) ∧ bd2 = max ((kc.length : Int) - kt.length + 1) w) ∨ ((∀ w : Int, (w : Rat) * rv kt et (kt.length - 1) ≠ -2 * (if 2 ≤ kt.length then rv kd ed (kt.length - 2) else 0)) ∧ bd2 = (kc.length : Int) - kt.length + 1)), ?_, ?_⟩
    · refine ⟨_, rfl, _, _, _, rfl, hp8, p8, dp8, n5, m5, rfl, hp8, _, rfl, iteEq (fun c2 => ?_) (fun c2 => ?_)⟩
      · refine ⟨_, rfl, _, rfl, _, _, _, _, _, rfl, hp8, T.cls_Fraction, T.n_Fraction_num, rfl, _, _, rfl, _, rfl, fun b2 eb2 => ?_⟩
        refine ⟨rfl, b2, rfl, .inl ⟨n5, ?_, ?_⟩⟩
        · rw [c2] at val
          have : ((1 : Int) : Rat) = 1 := rfl
          rw [← val, this]
          grind
        · rw [eb2, max2, ebd]
          omega
      · refine ⟨rfl, bd, rfl, .inr ⟨fun w hw => ?_, by rw [ebd]; omega⟩⟩
        rw [← hw] at val
        have z5 := ratc_ne (show m5 ≠ 0 by omega)
        have z : ((n5 : Int) : Rat) = ((w * m5 : Int) : Rat) := by
          rw [Rat.intCast_mul]
          grind
        rw [Rat.intCast_inj] at z
        have dv : m5 ∣ n5 := ⟨w, by rw [z, Int.mul_comm]⟩
        have := fq5.cop
        have c5 : Cop n5 m5 := fq5.cop
        have := c5.dvd dv (Int.dvd_refl m5)
        have := Int.le_of_dvd (by decide) this
        omega
    · rintro _ _ ⟨rfl, bd2, rfl, hb2⟩
      refine ⟨_, rfl, _, rfl, _, _, rfl, ?_⟩
      rw [max2]
      refine q _ H8 zs s18 iz (DB.congr (C := rv kc ec) (p := rv kd ed) (s := rv kt et) ⟨kc.length, kd.length, kt.length, L1, L2', L3, .inr ⟨by omega, ?_⟩⟩ (fun _ => rfl) f2 f3)
      rcases hb2 with ⟨w, hw, e⟩ | ⟨hw, e⟩
      · exact .inl ⟨w, hw, by rw [e]⟩
      · exact .inr ⟨hw, by rw [e]⟩

theorem ok__law_is_whole (T : Tx K mg) : OkF P w K mg base 1 (He.fAd K ("_law_is_whole", none)) ["x"] (spIsWh K) := by
  refine okF_of (d := d__law_is_whole) T.d__law_is_whole rfl sc__law_is_whole (fun _ _ _ _ _ _ us hl => match us, hl with | [_], _ => rfl) (fun vs H Q E h => ?_) (fun cdv A outer s H vs Q E hr h => ?_)
  · first | (obtain ⟨_, rfl, _⟩ := h; rfl) | (obtain ⟨_, _, rfl, _⟩ := h; rfl) | (obtain ⟨_, _, _, rfl, _⟩ := h; rfl) | (obtain ⟨_, _, _, _, rfl, _⟩ := h; rfl) | (obtain ⟨_, _, _, _, _, rfl, _⟩ := h; rfl) | (obtain ⟨_, _, _, _, _, _, rfl, _⟩ := h; rfl) | (obtain ⟨_, _, _, _, _, _, _, rfl, _⟩ := h; rfl) | (obtain ⟨_, _, _, _, _, _, _, _, rfl, _⟩ := h; rfl) | (obtain ⟨_, _, _, _, _, _, _, _, _, rfl, _⟩ := h; rfl) | (obtain ⟨_, _, _, _, _, _, _, _, _, _, rfl, _⟩ := h; rfl)
  · obtain ⟨n, rfl, q⟩ := h
    refine ⟨_, (pss_one (ps_ret (pe_and (pe_callB call_isi (by rfl) T.z_isinstance (by decide +kernel) (pa_cons (pv 0) (pa_cons (pe_bltn (v := .ty "int") rfl T.z_int (by decide +kernel) rfl) pa_nil))) (pe_one (pe_not (pe_callB call_isi (by rfl) T.z_isinstance (by decide +kernel) (pa_cons (pv 0) (pa_cons (pe_bltn (v := .ty "bool") rfl T.z_bool (by decide +kernel) rfl) pa_nil)))))))), ?_⟩
    exact ⟨_, rfl, _, _, _, _, true, rfl, .ty _, .base (.int _), kit_ty (by decide +kernel), _, rfl, iteK rfl ⟨_, rfl, _, _, _, _, false, rfl, .ty _, .base (.int _), kit_ty (by decide +kernel), _, rfl, q⟩⟩

theorem ok__law_bound (T : Tx K mg) (O__law_move : OkF P w K mg base 3 (He.fAd K ("_law_move", none)) ["part", "step"] (spLMv K)) (O__law_minus : OkF P w K mg base 4 (He.fAd K ("_law_minus", none)) ["a", "b"] (spLMn K)) (O__law_plus : OkF P w K mg base 3 (He.fAd K ("_law_plus", none)) ["a", "b"] (spLPp K)) : OkF P w K mg base 6 (He.fAd K ("_law_bound", none)) ["a", "b", "c"] (spLBd K) := by
  obtain ⟨_, G__law_move, b__law_move, k__law_move⟩ := O__law_move
  obtain ⟨_, G__law_minus, b__law_minus, k__law_minus⟩ := O__law_minus
  obtain ⟨_, G__law_plus, b__law_plus, k__law_plus⟩ := O__law_plus
  refine okF_of (d := d__law_bound) T.d__law_bound rfl sc__law_bound (fun _ _ _ _ _ _ us hl => match us, hl with | [_, _, _], _ => rfl) (fun vs H Q E h => ?_) (fun cdv A outer s H vs Q E hr h => ?_)
  · first | (obtain ⟨_, rfl, _⟩ := h; rfl) | (obtain ⟨_, _, rfl, _⟩ := h; rfl) | (obtain ⟨_, _, _, rfl, _⟩ := h; rfl) | (obtain ⟨_, _, _, _, rfl, _⟩ := h; rfl) | (obtain ⟨_, _, _, _, _, rfl, _⟩ := h; rfl) | (obtain ⟨_, _, _, _, _, _, rfl, _⟩ := h; rfl) | (obtain ⟨_, _, _, _, _, _, _, rfl, _⟩ := h; rfl) | (obtain ⟨_, _, _, _, _, _, _, _, rfl, _⟩ := h; rfl) | (obtain ⟨_, _, _, _, _, _, _, _, _, rfl, _⟩ := h; rfl) | (obtain ⟨_, _, _, _, _, _, _, _, _, _, rfl, _⟩ := h; rfl)
  · obtain ⟨a, b, c, xs, ys, zs, d, e, g, rfl, ⟨ha, hb, hc⟩, pa, pb, pc, q⟩ := h
    have d0 := pa.dp
    have e0 := pb.dp
    have la := pa.len
    have lb := pb.len
    refine ⟨_, (pss_cons (ps_set (i := 3) sc__law_bound.nd rfl (Or.inl rfl) (pe_call G__law_move (hr.mono (by decide)) (by rfl) T.g__law_move k__law_move b__law_move .nil passL (pa_cons (pv 1) (pa_cons (pe_un un_neg pe_int) pa_nil))))
      (pss_cons (ps_set (i := 4) sc__law_bound.nd rfl (Or.inl rfl) (pe_call G__law_minus (hr.mono (by decide)) (by rfl) T.g__law_minus k__law_minus b__law_minus .nil passL (pa_cons (pv 0) (pa_cons (pv 3) pa_nil))))
      (pss_cons (ps_set (i := 5) sc__law_bound.nd rfl (Or.inl rfl) (pe_call G__law_plus (hr.mono (by decide)) (by rfl) T.g__law_plus k__law_plus b__law_plus .nil passL (pa_cons (pv 0) (pa_cons (pv 3) pa_nil))))
      (pss_cons (ps_if (pt_cmpR op_ge (pe_callB call_len_seq (by rfl) T.z_len PySem.boot_len (pa_cons (pe_ix ix_tup (pv 4) pe_int (fun _ _ => rfl)) pa_nil)) (pe_callB call_len_seq (by rfl) T.z_len PySem.boot_len (pa_cons (pe_ix ix_tup (pv 5) pe_int (fun _ _ => rfl)) pa_nil)) (nomark _)) (pss_one (ps_ret (pe_callB (call_max2 rfl) (by rfl) T.z_max (by decide +kernel) (pa_cons (pe_un un_neg pe_int) (pa_cons (pe_op op_sub (pe_callB call_len_seq (by rfl) T.z_len PySem.boot_len (pa_cons (pe_ix ix_tup (pv 2) pe_int (fun _ _ => rfl)) pa_nil)) (pe_callB call_len_seq (by rfl) T.z_len PySem.boot_len (pa_cons (pe_ix ix_tup (pv 4) pe_int (fun _ _ => rfl)) pa_nil))) pa_nil))))) pss_nil)
      (pss_cons (ps_setI (i := 6) sc__law_bound.nd rfl (Or.inl rfl) (pe_callB (call_max2 rfl) (by rfl) T.z_max (by decide +kernel) (pa_cons (pe_un un_neg pe_int) (pa_cons (pe_op op_add (pe_op op_sub (pe_callB call_len_seq (by rfl) T.z_len PySem.boot_len (pa_cons (pe_ix ix_tup (pv 2) pe_int (fun _ _ => rfl)) pa_nil)) (pe_callB call_len_seq (by rfl) T.z_len PySem.boot_len (pa_cons (pe_ix ix_tup (pv 5) pe_int (fun _ _ => rfl)) pa_nil))) pe_int) pa_nil))))
      (pss_cons (ps_setI (i := 7) sc__law_bound.nd rfl (Or.inl rfl) (pe_op op_sub (pe_callB call_len_seq (by rfl) T.z_len PySem.boot_len (pa_cons (pe_ix ix_tup (pv 5) pe_int (fun _ _ => rfl)) pa_nil)) pe_int))
      (pss_cons (ps_setI (i := 8) sc__law_bound.nd rfl (Or.inl rfl) pe_int)
      (Evl.pss_cut (ps_if (PW.pt (pw_and (pt_cmpR op_le pe_int (pv 7) (nomark _)) (pw_and1 (pt_cmpR op_lt (pv 7) (pe_callB call_len_seq (by rfl) T.z_len PySem.boot_len (pa_cons (pe_ix ix_tup (pv 4) pe_int (fun _ _ => rfl)) pa_nil)) (nomark _))))) (pss_one (ps_setI (i := 8) sc__law_bound.nd rfl (Or.inl rfl) (pe_op op_mul (pe_un un_neg pe_int) (pe_ix ix_list (pe_ix ix_tup (pv 4) pe_int (fun _ _ => rfl)) (pv 7) (fun _ _ => rfl))))) pss_nil)
      (pss_cons (ps_setI (i := 9) sc__law_bound.nd rfl (Or.inl rfl) (pe_ix ix_list (pe_ix ix_tup (pv 5) pe_int (fun _ _ => rfl)) (pe_op op_sub (pe_callB call_len_seq (by rfl) T.z_len PySem.boot_len (pa_cons (pe_ix ix_tup (pv 5) pe_int (fun _ _ => rfl)) pa_nil)) pe_int) (fun _ _ => rfl)))
      (Evl.pss_cut (ps_if (pt_cmpR op_eq (pe_op op_modN (pe_callTy call_int1 (by rfl) T.z_int (by decide +kernel) (pa_cons (pv 8) pa_nil)) (pv 9)) pe_int (nomark _)) (pss_one (ps_setI (i := 6) sc__law_bound.nd rfl (Or.inl rfl) (pe_callB (call_max2 rfl) (by rfl) T.z_max (by decide +kernel) (pa_cons (pv 6) (pa_cons (pe_op op_fdivZ (pv 8) (pv 9)) pa_nil))))) pss_nil)
      (pss_one (ps_ret (pv 6))))))))))))), ?_⟩
    have shb : shB 400 1 ys.length ≤ 1400 := by
      unfold shB
      have h1 : ys.length + 1 ≤ 21 := by omega
      have := Nat.mul_le_mul h1 h1
      omega
    refine ⟨_, rfl, _, rfl, b, ys, e, -1, 400, 1, rfl, hb, pb.bits, by decide, by omega, by decide, by omega, fun p1 H1 ws e1 s1 np1 hp1 ⟨ee, iz, bz⟩ => ?_⟩
    subst ee
    have bw : Bits 1400 ws := bz.mono shb
    have lw := iz.len
    have bx : Bits 1400 xs := pa.bits.mono (by decide)
    have db := abs_mono pa.db (show 20 ≤ 1400 by decide)
    have eb := abs_mono pb.db (show 20 ≤ 1400 by decide)
    refine ⟨_, rfl, _, rfl, a, p1, xs, ws, d, e1, 1400, rfl, ha.mono s1, hp1, bx, bw, db, eb, by decide, by omega, by omega, by decide, fun p2 H2 us g2 s2 np2 hp2 ⟨eg2, tu, lu⟩ => ?_⟩
    subst eg2
    have s12 := s1.trans s2
    refine ⟨_, rfl, _, rfl, a, p1, xs, ws, d, e1, 1400, rfl, ha.mono s12, hp1.mono s2, bx, bw, db, eb, by omega, by omega, by decide, fun p3 H3 vs g3 s3 np3 hp3 ⟨eg3, tv, lv⟩ => ?_⟩
    subst eg3
    have s13 := s12.trans s3
    have hp2' := hp2.mono s3
    have hc' := hc.mono s13
    obtain ⟨l2, h2, m2⟩ := id hp2'
    obtain ⟨l3, h3, m3⟩ := id hp3
    obtain ⟨lc, hcc, mc⟩ := id hc'
    have de0 : d * e1 ≠ 0 := Int.mul_ne_zero (by omega) (by omega)
    have f2 : ∀ i, rv us (d * e1) i = rv xs d i - rv ws e1 i := rv_subL (by omega) (by omega) tu.at_
    have f3 : ∀ i, rv vs (d * e1) i = rv xs d i + rv ws e1 i := rv_addL (by omega) (by omega) tv.at_
    have L1 : Ln (rv zs g) zs.length := pc.tf.ln (by have := pc.dp; omega)
    have L2' : Ln (rv us (d * e1)) us.length := tu.ln de0
    have L3 : Ln (rv vs (d * e1)) vs.length := tv.ln de0
    have fin : ∀ (v : Int), ((vs.length ≤ us.length ∧ v = max (-1) ((zs.length : Int) - us.length)) ∨
        (us.length < vs.length ∧ ((∃ w : Int, (w : Rat) * rv vs (d * e1) (vs.length - 1) = -2 * (if 2 ≤ vs.length then rv us (d * e1) (vs.length - 2) else 0) ∧ v = max (-1) (max ((zs.length : Int) - vs.length + 1) w)) ∨
          ((∀ w : Int, (w : Rat) * rv vs (d * e1) (vs.length - 1) ≠ -2 * (if 2 ≤ vs.length then rv us (d * e1) (vs.length - 2) else 0)) ∧ v = max (-1) ((zs.length : Int) - vs.length + 1))))) → Q (.int v) H3 := fun v h =>
      q v H3 ws s13 iz (DB.congr (C := rv zs g) (p := rv us (d * e1)) (s := rv vs (d * e1)) ⟨zs.length, us.length, vs.length, L1, L2', L3, h⟩ (fun _ => rfl) f2 f3)
    refine ⟨_, rfl, _, _, _, _, rfl, rfl, SqT.of h2, atI_nat (j := 0) rfl, _, _, rfl, .inl (SqL.of m2), _, rfl, _, _, _, _, rfl, rfl, SqT.of h3, atI_nat (j := 0) rfl, _, _, rfl, .inl (SqL.of m3), _, _, rfl, rfl, _, rfl, iteD (fun c1 => ?_) (fun c1 => ?_)⟩
    · rw [len_map, len_map] at c1
      refine ⟨_, rfl, _, rfl, _, _, _, _, rfl, rfl, SqT.of hcc, atI_nat (j := 0) rfl, _, _, rfl, .inl (SqL.of mc), _, rfl, _, _, _, _, rfl, rfl, SqT.of h2, atI_nat (j := 0) rfl, _, _, rfl, .inl (SqL.of m2), _, _, rfl, rfl, _, _, rfl, ?_⟩
      rw [max2, len_map, len_map]
      exact fin _ (.inl ⟨by omega, rfl⟩)
    rw [len_map, len_map] at c1
    refine ⟨_, rfl, _, rfl, _, _, _, _, rfl, rfl, SqT.of hcc, atI_nat (j := 0) rfl, _, _, rfl, .inl (SqL.of mc), _, rfl, _, _, _, _, rfl, rfl, SqT.of h3, atI_nat (j := 0) rfl, _, _, rfl, .inl (SqL.of m3), _, _, rfl, rfl, _, _, rfl, rfl, _, _, rfl, _, rfl, fun bd ebd => ?_⟩
    rw [max2, len_map, len_map] at ebd
    refine ⟨_, rfl, _, _, _, _, rfl, rfl, SqT.of h3, atI_nat (j := 0) rfl, _, _, rfl, .inl (SqL.of m3), _, _, rfl, rfl, _, rfl, fun bw0 ebw => ?_⟩
    rw [len_map] at ebw
    refine ⟨_, rfl, fun t0 et0 => ?_⟩
    refine ⟨fun σ' H' => H3 = H' ∧ ∃ tp : Int, σ' = [some (.ref a), some (.ref b), some (.ref c), some (.ref p1), some (.ref p2), some (.ref p3), some (.int bd), some (.int bw0), some (.int tp), none] ∧ tp = -2 * (if 2 ≤ vs.length then us.getD (vs.length - 2) 0 else 0), ?_, ?_⟩
    · refine ⟨_, rfl, _, _, rfl, rfl, _, rfl, iteD (fun c2 => ?_) (fun c2 => iteN rfl ?_)⟩
      · refine ⟨_, rfl, _, rfl, _, _, _, _, rfl, rfl, SqT.of h2, atI_nat (j := 0) rfl, _, _, rfl, .inl (SqL.of m2), _, _, rfl, rfl, _, rfl, iteD (fun c3 => ?_) (fun c3 => ?_)⟩
        · rw [len_map] at c3
          refine ⟨_, rfl, _, rfl, _, _, _, _, rfl, rfl, SqT.of h2, atI_nat (j := 0) rfl, _, rfl, _, _, _, _, rfl, rfl, SqL.of m2, at_of (j := vs.length - 2) (by omega) (map_at (get_of_lt (by omega))), _, _, rfl, rfl, .inl ⟨by decide, by decide⟩, _, rfl, fun t1 et1 => ?_⟩
          exact ⟨rfl, t1, rfl, by rw [et1, if_pos (by omega)]⟩
        · rw [len_map] at c3
          refine ⟨rfl, t0, rfl, ?_⟩
          rw [et0, getD_end (by omega)]
          split <;> rfl
      · exact ⟨rfl, t0, rfl, by rw [et0, if_neg (by omega)]; rfl⟩
    rintro _ _ ⟨rfl, tp, rfl, htp⟩
    have vl : vs.length - 1 < vs.length := by omega
    refine ⟨_, rfl, _, _, _, _, rfl, rfl, SqT.of h3, atI_nat (j := 0) rfl, _, rfl, _, _, _, _, rfl, rfl, SqT.of h3, atI_nat (j := 0) rfl, _, _, rfl, .inl (SqL.of m3), _, _, rfl, rfl, _, _, _, _, rfl, rfl, SqL.of m3, at_of (j := vs.length - 1) (by rw [len_map]; omega) (map_at (get_of_lt vl)), _, rfl, fun ld eld => ?_⟩
    have ld0 : ld ≠ 0 := by rw [eld]; exact tv.tr.resolve_left (by omega)
    have ldb : ld.natAbs < 2 ^ 3000 := by
      rw [eld, tv.at_]
      exact abs_mono (sz_add (abs_lt_mul eb (bx.getD _)) (abs_lt_mul db (bw.getD _))) (by decide)
    have rl : rv vs (d * e1) (vs.length - 1) = ((ld : Int) : Rat) / ((d * e1 : Int) : Rat) := by rw [eld]; rfl
    have rt : -2 * (if 2 ≤ vs.length then rv us (d * e1) (vs.length - 2) else 0) = ((tp : Int) : Rat) / ((d * e1 : Int) : Rat) := by
      have e2 : ((-2 : Int) : Rat) = -2 := rfl
      rw [htp, Rat.intCast_mul, e2]
      split
      · unfold rv
        grind
      · rw [Rat.intCast_zero]
        grind
    have whole : ∀ w : Int, (w : Rat) * rv vs (d * e1) (vs.length - 1) = -2 * (if 2 ≤ vs.length then rv us (d * e1) (vs.length - 2) else 0) ↔ w * ld = tp := fun w => by
      rw [rl, rt, ← Rat.intCast_inj, Rat.intCast_mul]
      have := ratc_ne de0
      constructor
      · intro h; grind
      · intro h; grind
    refine ⟨fun σ' H' => H3 = H' ∧ ∃ b2 : Int, σ' = [some (.ref a), some (.ref b), some (.ref c), some (.ref p1), some (.ref p2), some (.ref p3), some (.int b2), some (.int bw0), some (.int tp), some (.int ld)] ∧ ((∃ w : Int, w * ld = tp ∧ b2 = max bd w) ∨ ((∀ w : Int, w * ld ≠ tp) ∧ b2 = bd)), ?_, ?_⟩
    · refine ⟨_, rfl, .inl ⟨_, rfl, _, rfl, _, _, rfl, rfl, ld0, rfl, _, rfl, iteEq (fun c2 => ?_) (fun c2 => ?_)⟩⟩
      · obtain ⟨w, hw⟩ := Int.dvd_of_fmod_eq_zero c2
        refine ⟨_, rfl, _, rfl, _, rfl, _, _, rfl, rfl, divZ ld0 ldb (by decide), _, _, rfl, _, rfl, fun b2 eb2 => ?_⟩
        exact ⟨rfl, b2, rfl, .inl ⟨w, by rw [hw, Int.mul_comm], by rw [eb2, max2, fdiv_exact hw ld0]⟩⟩
      · exact ⟨rfl, bd, rfl, .inr ⟨fun w hw => c2 (Int.fmod_eq_zero_of_dvd ⟨w, by rw [← hw, Int.mul_comm]⟩), rfl⟩⟩
    · rintro _ _ ⟨rfl, b2, rfl, hb2⟩
      refine ⟨_, rfl, fin _ (.inr ⟨by omega, ?_⟩)⟩
      rcases hb2 with ⟨w, hw, e⟩ | ⟨hw, e⟩
      · exact .inl ⟨w, (whole w).mpr hw, by rw [e, ebd]; omega⟩
      · exact .inr ⟨fun w h => hw w ((whole w).mp h), by rw [e, ebd]⟩

theorem ok__law_read (T : Tx K mg) (O__law_is_whole : OkF P w K mg base 1 (He.fAd K ("_law_is_whole", none)) ["x"] (spIsWh K)) (O__law_trim : OkF P w K mg base 1 (He.fAd K ("_law_trim", none)) ["xs"] (spTri K)) : OkF P w K mg base 2 (He.fAd K ("_law_read", none)) ["p"] (spLRd K) := by
  obtain ⟨_, G__law_is_whole, b__law_is_whole, k__law_is_whole⟩ := O__law_is_whole
  obtain ⟨_, G__law_trim, b__law_trim, k__law_trim⟩ := O__law_trim
  refine okF_of (d := d__law_read) T.d__law_read rfl sc__law_read (fun _ _ _ _ _ _ us hl => match us, hl with | [_], _ => rfl) (fun vs H Q E h => ?_) (fun cdv A outer s H vs Q E hr h => ?_)
  · first | (obtain ⟨_, rfl, _⟩ := h; rfl) | (obtain ⟨_, _, rfl, _⟩ := h; rfl) | (obtain ⟨_, _, _, rfl, _⟩ := h; rfl) | (obtain ⟨_, _, _, _, rfl, _⟩ := h; rfl) | (obtain ⟨_, _, _, _, _, rfl, _⟩ := h; rfl) | (obtain ⟨_, _, _, _, _, _, rfl, _⟩ := h; rfl) | (obtain ⟨_, _, _, _, _, _, _, rfl, _⟩ := h; rfl) | (obtain ⟨_, _, _, _, _, _, _, _, rfl, _⟩ := h; rfl) | (obtain ⟨_, _, _, _, _, _, _, _, _, rfl, _⟩ := h; rfl) | (obtain ⟨_, _, _, _, _, _, _, _, _, _, rfl, _⟩ := h; rfl)
  · obtain ⟨a, ks, e, rfl, ⟨da, t, ha, ht⟩, e0, tf, l1, q⟩ := h
    refine ⟨_, (pss_cons (ps_if (PW.pt (pw_or (pt_not (pt_val (pe_callB call_isi (by rfl) T.z_isinstance (by decide +kernel) (pa_cons (pv 0) (pa_cons (pe_glob (v := .ref (He.ga K "Poly")) rfl T.g_Poly rfl) pa_nil))))) (pw_or1 (pt_not (pt_val (pe_callB call_isi (by rfl) T.z_isinstance (by decide +kernel) (pa_cons (pe_fld (pv 0) rfl) (pa_cons (pe_bltn (v := .ty "tuple") rfl T.z_tuple (by decide +kernel) rfl) pa_nil)))))))) (pss_one (ps_ret pe_non)) pss_nil)
      (pss_cons (ps_if (PW.pt (pw_or (pt_not (pt_val (pe_call G__law_is_whole (hr.mono (by decide)) (by rfl) T.g__law_is_whole k__law_is_whole b__law_is_whole .nil passL (pa_cons (pe_fld (pv 0) rfl) pa_nil)))) (pw_or1 (pt_cmpR op_lt (pe_fld (pv 0) rfl) pe_int (nomark _))))) (pss_one (ps_ret pe_non)) pss_nil)
      (pss_cons (ps_for PassesOwn.leaving rfl (pi_tup (pe_fld (pv 0) rfl)) (pg_name (i := 1) sc__law_read.nd rfl (Or.inl rfl)) (pss_one (ps_if (pt_not (pt_val (pe_call G__law_is_whole (hr.mono (by decide)) (by rfl) T.g__law_is_whole k__law_is_whole b__law_is_whole .nil passL (pa_cons (pv 1) pa_nil)))) (pss_one (ps_ret pe_non)) pss_nil)))
      (pss_one (ps_ret (pe_tup (pa_cons (pe_call G__law_trim (hr.mono (by decide)) (by rfl) T.g__law_trim k__law_trim b__law_trim .nil passL (pa_cons (pe_callTy call_list_of (by rfl) T.z_list (by decide +kernel) (pa_cons (pe_fld (pv 0) rfl) pa_nil)) pa_nil)) (pa_cons (pe_fld (pv 0) rfl) pa_nil)))))))), ?_⟩
    refine ⟨_, rfl, _, _, _, _, true, rfl, .own _, T.ty_Poly ha, kit_same _, _, rfl, iteN rfl ?_⟩
    refine ⟨_, rfl, _, _, _, _, _, rfl, ha, T.cls_Poly, T.n_Poly_coefs, rfl, _, _, _, _, true, rfl, .ty _, .base (.tup ht), kit_ty (by decide +kernel), _, rfl, iteN rfl ?_⟩
    refine ⟨_, rfl, _, _, _, _, _, rfl, ha, T.cls_Poly, T.n_Poly_den, rfl, _, rfl, _, rfl, iteN rfl ?_⟩
    refine ⟨_, rfl, _, _, _, _, _, rfl, ha, T.cls_Poly, T.n_Poly_den, rfl, _, _, rfl, rfl, _, rfl, iteN (decide_eq_false (by omega)) ?_⟩
    refine ⟨_, rfl, _, _, _, _, _, rfl, ha, T.cls_Poly, T.n_Poly_coefs, rfl, _, rfl, ⟨_, SqT.of ht⟩, for_tup (K := K) (a := t) (xs := ks.map V.int) (fun i σ' H' => H = H' ∧ ∃ y : Option V, σ' = [some (.ref a), y]) ⟨rfl, none, rfl⟩ (fun i σ' H' hi hI => ?_) (fun i y σ' H' hi hI => ?_) (fun σ' H' hI => ?_)⟩
    · obtain ⟨rfl, y, rfl⟩ := hI
      exact SqT.of ht
    · obtain ⟨rfl, y0, rfl⟩ := hI
      obtain ⟨c, hc, rfl⟩ := get_map_int hi
      refine ⟨_, rfl, _, rfl, _, rfl, iteN rfl ?_⟩
      exact ⟨rfl, _, rfl⟩
    · obtain ⟨rfl, y0, rfl⟩ := hI
      refine ⟨_, rfl, _, _, _, _, _, rfl, ha, T.cls_Poly, T.n_Poly_coefs, rfl, t, _, rfl, .inr (SqT.of ht), fun p np => ?_⟩
      have s1 := sm_new (o := .lst (ks.map V.int)) np
      refine ⟨p, ks, rfl, SqL.of upd_same, by omega, fun p2 H2 zs s2 np2 hp2 t2 tl2 => ?_⟩
      have s12 := s1.trans s2
      refine ⟨_, rfl, _, _, _, _, _, rfl, s12 _ _ ha, T.cls_Poly, T.n_Poly_den, rfl, by show 2 ≤ sizeLine; decide, fun p3 np3 => ?_⟩
      have s3 := sm_new (o := .tup [.ref p2, .int e]) np3
      exact q p3 _ zs e (s12.trans s3) (s12.free np3) ⟨p2, upd_same, s3 _ _ hp2⟩ ⟨t2.uniq tf fun _ => rfl, rfl⟩

theorem ok__law_alike (T : Tx K mg) (O__law_scale : OkF P w K mg base 2 (He.fAd K ("_law_scale", none)) ["xs", "factor"] (spLSc K)) : OkF P w K mg base 3 (He.fAd K ("_law_alike", none)) ["a", "b"] (spLAl K) := by
  obtain ⟨_, G__law_scale, b__law_scale, k__law_scale⟩ := O__law_scale
  refine okF_of (d := d__law_alike) T.d__law_alike rfl sc__law_alike (fun _ _ _ _ _ _ us hl => match us, hl with | [_, _], _ => rfl) (fun vs H Q E h => ?_) (fun cdv A outer s H vs Q E hr h => ?_)
  · first | (obtain ⟨_, rfl, _⟩ := h; rfl) | (obtain ⟨_, _, rfl, _⟩ := h; rfl) | (obtain ⟨_, _, _, rfl, _⟩ := h; rfl) | (obtain ⟨_, _, _, _, rfl, _⟩ := h; rfl) | (obtain ⟨_, _, _, _, _, rfl, _⟩ := h; rfl) | (obtain ⟨_, _, _, _, _, _, rfl, _⟩ := h; rfl) | (obtain ⟨_, _, _, _, _, _, _, rfl, _⟩ := h; rfl) | (obtain ⟨_, _, _, _, _, _, _, _, rfl, _⟩ := h; rfl) | (obtain ⟨_, _, _, _, _, _, _, _, _, rfl, _⟩ := h; rfl) | (obtain ⟨_, _, _, _, _, _, _, _, _, _, rfl, _⟩ := h; rfl)
  · obtain ⟨a, b, xs, ys, d, e, k, rfl, ⟨l, ha, hA⟩, ⟨m, hb, hB⟩, b1, b2, b3, b4, l1, l2, hk, q⟩ := h
    refine ⟨_, (pss_one (ps_ret (pe_cmpR (op_eqD hr.units) (pe_call G__law_scale (hr.mono (by decide)) (by rfl) T.g__law_scale k__law_scale b__law_scale .nil passL (pa_cons (pe_ix ix_tup (pv 0) pe_int (fun _ _ => rfl)) (pa_cons (pe_ix ix_tup (pv 1) pe_int (fun _ _ => rfl)) pa_nil))) (pe_call G__law_scale (hr.mono (by decide)) (by rfl) T.g__law_scale k__law_scale b__law_scale .nil passL (pa_cons (pe_ix ix_tup (pv 1) pe_int (fun _ _ => rfl)) (pa_cons (pe_ix ix_tup (pv 0) pe_int (fun _ _ => rfl)) pa_nil))) (nomark _)))), ?_⟩
    refine ⟨_, rfl, _, _, _, _, rfl, rfl, SqT.of ha, atI_nat (j := 0) rfl, _, rfl, _, _, _, _, rfl, rfl, SqT.of hb, atI_nat (j := 1) rfl, l, xs, e, k, rfl, SqL.of hA, b1, b4, by omega, by omega, fun p1 H1 us s1 np1 hp1 t1 tl1 => ?_⟩
    refine ⟨_, rfl, _, _, _, _, rfl, rfl, SqT.of (s1 _ _ hb), atI_nat (j := 0) rfl, _, rfl, _, _, _, _, rfl, rfl, SqT.of (s1 _ _ ha), atI_nat (j := 1) rfl, m, ys, d, k, rfl, SqL.of (s1 _ _ hB), b2, b3, by omega, by omega, fun p2 H2 ws s2 np2 hp2 t2 tl2 => ?_⟩
    refine ⟨_, _, .lst (SqL.of (s2 _ _ hp1)) (dpI us), .lst (SqL.of hp2) (dpI ws), shL _, shL _, ?_⟩
    refine q _ H2 (s1.trans s2) ?_
    rw [eqvL, decide_eq_true_eq]
    constructor
    · intro h i
      rw [← t1.at_, ← t2.at_, h]
    · exact fun h => t1.uniq t2 h

theorem ok__law_refused (T : Tx K mg) (O_degree_bound : OkF P w K mg base 6 (He.fAd K ("degree_bound", none)) ["a", "b", "c"] (spDB K)) : OkF P w K mg base 7 (He.fAd K ("_law_refused", none)) ["a", "b", "c"] (spLRf K) := by
  obtain ⟨_, G_degree_bound, b_degree_bound, k_degree_bound⟩ := O_degree_bound
  refine okF_of (d := d__law_refused) T.d__law_refused rfl sc__law_refused (fun _ _ _ _ _ _ us hl => match us, hl with | [_, _, _], _ => rfl) (fun vs H Q E h => ?_) (fun cdv A outer s H vs Q E hr h => ?_)
  · (obtain ⟨_, _, _, _, _, _, _, _, _, rfl, _⟩ := h; rfl)
  · obtain ⟨a, b, c, ka, kb, kc, ea, eb, ec, rfl, pa, pb, pc, ho, q⟩ := h
    refine ⟨_, (pss_cons (ps_try_as (i := 3) rfl rfl sc__law_refused.nd rfl rfl ⟨rfl, by decide, .inl T.g_ZeroPolynomial⟩ takes0 (fun W pn xe tk _ => (pss_one (ps_expr (pe_callS G_degree_bound (hr.mono (by decide)) (by rfl) T.g_degree_bound k_degree_bound b_degree_bound (fun σ => passAt tk σ) (pa_cons (pv 0) (pa_cons (pv 1) (pa_cons (pv 2) pa_nil))))))) (fun a oe cls d pn hz hf => pss_hyp (p := cls = .ref (He.ga K "ZeroPolynomial") ∧ d = none) fun hp => by
      obtain ⟨rfl, rfl⟩ := hp
      exact (pss_one (ps_ret (pe_and (pe_callB (call_isE T.ec_ZeroPolynomial hz hf) (by rfl) T.z_isinstance (by decide +kernel) (pa_cons (pv 3) (pa_cons (pe_glob (v := .ref (He.ga K "SummationError")) rfl T.g_SummationError rfl) pa_nil))) (pe_one (pe_callB (call_isE T.ec_ZeroPolynomial hz hf) (by rfl) T.z_isinstance (by decide +kernel) (pa_cons (pv 3) (pa_cons (pe_bltn (v := .ty "ValueError") rfl T.z_ValueError (by decide +kernel) rfl) pa_nil)))))))))
      (pss_one (ps_ret pe_bl))), ?_⟩
    refine ⟨_, rfl, _, rfl, _, rfl, a, b, c, ka, kb, kc, ea, eb, ec, 0, 0, 0, rfl, pa, pb, pc, fun _ => ?_, fun h1 h2 h3 => ?_⟩
    · refine ⟨true, T.em_ZeroPolynomial, fun _ x nx => ?_, fun z => Bool.noConfusion z⟩
      refine ⟨⟨rfl, rfl⟩, ?_⟩
      refine ⟨_, rfl, _, _, true, rfl, fun _ e => e, T.kb1_ZeroPolynomial__SummationError, _, rfl, iteK rfl ?_⟩
      refine ⟨_, rfl, _, _, true, rfl, fun _ e => e, T.kb1_ZeroPolynomial__ValueError, ?_⟩
      exact q _ (fun _ _ e => e)
    · rcases ho with h | h | h
      · exact absurd h h1
      · exact absurd h h2
      · exact absurd h h3

end
section
variable {P : Program} {w : World} {K : PySem.W.Frag} {mg : Str → Option Value}
theorem ok_law (T : Tx K mg) (O__law_cell : ∀ base, OkF P w K mg base 1 (He.fAd K ("_law_cell", none)) ["script", "k"] (spCell K)) (O__law_digits : ∀ base, OkF P w K mg base 1 (He.fAd K ("_law_digits", none)) ["cell", "limit", "count"] (spDig K)) (O__law_draw : ∀ base, OkF P w K mg base 2 (He.fAd K ("_law_draw", none)) ["cell", "most"] (spLDw K)) (O__law_back : ∀ base, OkF P w K mg base 4 (He.fAd K ("_law_back", none)) ["a", "cell", "style"] (spLBk K)) (O__law_move : ∀ base, OkF P w K mg base 3 (He.fAd K ("_law_move", none)) ["part", "step"] (spLMv K)) (O__law_times : ∀ base, OkF P w K mg base 3 (He.fAd K ("_law_times", none)) ["a", "b"] (spLTm K)) (O__law_minus : ∀ base, OkF P w K mg base 4 (He.fAd K ("_law_minus", none)) ["a", "b"] (spLMn K)) (O__law_poly : ∀ base, OkF P w K mg base 4 (He.fAd K ("_law_poly", none)) ["part"] (spLPo K)) (O_degree_bound : ∀ base, OkF P w K mg base 6 (He.fAd K ("degree_bound", none)) ["a", "b", "c"] (spDB K)) (O__law_is_whole : ∀ base, OkF P w K mg base 1 (He.fAd K ("_law_is_whole", none)) ["x"] (spIsWh K)) (O__law_bound : ∀ base, OkF P w K mg base 6 (He.fAd K ("_law_bound", none)) ["a", "b", "c"] (spLBd K)) (O__law_read : ∀ base, OkF P w K mg base 2 (He.fAd K ("_law_read", none)) ["p"] (spLRd K)) (O__law_alike : ∀ base, OkF P w K mg base 3 (He.fAd K ("_law_alike", none)) ["a", "b"] (spLAl K)) (O_Poly___init__ : ∀ base, OkD P w K mg base 2 (He.fAd K ("Poly", some "__init__")) ["self", "coefs", "den"] (He.Dv.v K (.int 1)) (spPInit K)) (O__law_refused : ∀ base, OkF P w K mg base 7 (He.fAd K ("_law_refused", none)) ["a", "b", "c"] (spLRf K)) : ∃ fd : FuncData, (∀ (s : Shared) (v : Value), BindsTo s fd ⟨[v], []⟩ [("script", v)]) ∧ ∀ base : Heap, FnOk P w K mg base CX0 8 (He.fAd K ("law", none)) fd ["script"] (spLaw K) := by
  refine okLaw_of (d := d_law) T.d_law rfl sc_law (fun _ _ _ _ _ _ us hl => match us, hl with | [_], _ => rfl) (fun vs H Q E h => by obtain ⟨_, _, rfl, _⟩ := h; rfl) (fun base cdv A outer s H vs Q E hr h => ?_)
  · obtain ⟨_, G__law_cell, b__law_cell, k__law_cell⟩ := O__law_cell base
    obtain ⟨_, G__law_digits, b__law_digits, k__law_digits⟩ := O__law_digits base
    obtain ⟨_, G__law_draw, b__law_draw, k__law_draw⟩ := O__law_draw base
    obtain ⟨_, G__law_back, b__law_back, k__law_back⟩ := O__law_back base
    obtain ⟨_, G__law_move, b__law_move, k__law_move⟩ := O__law_move base
    obtain ⟨_, G__law_times, b__law_times, k__law_times⟩ := O__law_times base
    obtain ⟨_, G__law_minus, b__law_minus, k__law_minus⟩ := O__law_minus base
    obtain ⟨_, G__law_poly, b__law_poly, k__law_poly⟩ := O__law_poly base
    obtain ⟨_, G_degree_bound, b_degree_bound, k_degree_bound⟩ := O_degree_bound base
    obtain ⟨_, G__law_is_whole, b__law_is_whole, k__law_is_whole⟩ := O__law_is_whole base
    obtain ⟨_, G__law_bound, b__law_bound, k__law_bound⟩ := O__law_bound base
    obtain ⟨_, G__law_read, b__law_read, k__law_read⟩ := O__law_read base
    obtain ⟨_, G__law_alike, b__law_alike, k__law_alike⟩ := O__law_alike base
    obtain ⟨_, G_Poly___init__, b_Poly___init__, ⟨_, v_Poly___init__, bd_Poly___init__⟩, k_Poly___init__⟩ := O_Poly___init__ base
    obtain ⟨_, G__law_refused, b__law_refused, k__law_refused⟩ := O__law_refused base
    obtain ⟨aS, ns, rfl, hS, hl, q⟩ := h
    refine ⟨_, (pss_cons (ps_set (i := 1) sc_law.nd rfl (Or.inl rfl) (pe_call G__law_digits (hr.mono (by decide)) (by rfl) T.g__law_digits k__law_digits b__law_digits .nil passL (pa_cons (pe_call G__law_cell (hr.mono (by decide)) (by rfl) T.g__law_cell k__law_cell b__law_cell .nil passL (pa_cons (pv 0) (pa_cons pe_int pa_nil))) (pa_cons pe_int (pa_cons pe_int pa_nil)))))
      (pss_cons (ps_setI (i := 2) sc_law.nd rfl (Or.inl rfl) (pe_op op_mod (pe_callTy call_int1 (by rfl) T.z_int (by decide +kernel) (pa_cons (pe_ix ix_list (pv 1) pe_int (fun _ _ => rfl)) pa_nil)) pe_int))
      (pss_cons (ps_set (i := 3) sc_law.nd rfl (Or.inl rfl) (pe_call G__law_draw (hr.mono (by decide)) (by rfl) T.g__law_draw k__law_draw b__law_draw .nil passL (pa_cons (pe_call G__law_cell (hr.mono (by decide)) (by rfl) T.g__law_cell k__law_cell b__law_cell .nil passL (pa_cons (pv 0) (pa_cons pe_int pa_nil))) (pa_cons pe_int pa_nil))))
      (pss_cons (ps_set (i := 4) sc_law.nd rfl (Or.inl rfl) (pe_call G__law_draw (hr.mono (by decide)) (by rfl) T.g__law_draw k__law_draw b__law_draw .nil passL (pa_cons (pe_call G__law_cell (hr.mono (by decide)) (by rfl) T.g__law_cell k__law_cell b__law_cell .nil passL (pa_cons (pv 0) (pa_cons pe_int pa_nil))) (pa_cons pe_int pa_nil))))
      (Evl.pss_cut (ps_if (PW.pt (pw_and (pt_cmpR op_gt (pv 2) pe_int (nomark _)) (pw_and1 (pt_cmpR op_lt (pv 2) pe_int (nomark _))))) (pss_one (ps_set (i := 4) sc_law.nd rfl (Or.inl rfl) (pe_call G__law_move (hr.mono (by decide)) (by rfl) T.g__law_move k__law_move b__law_move .nil passL (pa_cons (pe_call G__law_back (hr.mono (by decide)) (by rfl) T.g__law_back k__law_back b__law_back .nil passL (pa_cons (pv 3) (pa_cons (pe_call G__law_cell (hr.mono (by decide)) (by rfl) T.g__law_cell k__law_cell b__law_cell .nil passL (pa_cons (pv 0) (pa_cons pe_int pa_nil))) (pa_cons (pv 2) pa_nil)))) (pa_cons pe_int pa_nil))))) pss_nil)
      (pss_cons (ps_set (i := 5) sc_law.nd rfl (Or.inl rfl) (pe_call G__law_draw (hr.mono (by decide)) (by rfl) T.g__law_draw k__law_draw b__law_draw .nil passL (pa_cons (pe_call G__law_cell (hr.mono (by decide)) (by rfl) T.g__law_cell k__law_cell b__law_cell .nil passL (pa_cons (pv 0) (pa_cons pe_int pa_nil))) (pa_cons pe_int pa_nil))))
      (pss_cons (ps_setI (i := 6) sc_law.nd rfl (Or.inl rfl) (pe_un un_neg pe_int))
      (Evl.pss_cut (ps_if (pt_cmpR op_eq (pe_op op_mod (pe_callTy call_int1 (by rfl) T.z_int (by decide +kernel) (pa_cons (pe_ix ix_list (pv 1) pe_int (fun _ _ => rfl)) pa_nil)) pe_int) pe_int (nomark _)) (pss_cons (ps_set (i := 7) sc_law.nd rfl (Or.inl rfl) (pe_call G__law_draw (hr.mono (by decide)) (by rfl) T.g__law_draw k__law_draw b__law_draw .nil passL (pa_cons (pe_call G__law_cell (hr.mono (by decide)) (by rfl) T.g__law_cell k__law_cell b__law_cell .nil passL (pa_cons (pv 0) (pa_cons pe_int pa_nil))) (pa_cons pe_int pa_nil))))
      (pss_cons (ps_set (i := 8) sc_law.nd rfl (Or.inl rfl) (pe_call G__law_minus (hr.mono (by decide)) (by rfl) T.g__law_minus k__law_minus b__law_minus .nil passL (pa_cons (pe_call G__law_times (hr.mono (by decide)) (by rfl) T.g__law_times k__law_times b__law_times .nil passL (pa_cons (pv 3) (pa_cons (pe_call G__law_move (hr.mono (by decide)) (by rfl) T.g__law_move k__law_move b__law_move .nil passL (pa_cons (pv 7) (pa_cons pe_int pa_nil))) pa_nil))) (pa_cons (pe_call G__law_times (hr.mono (by decide)) (by rfl) T.g__law_times k__law_times b__law_times .nil passL (pa_cons (pe_call G__law_move (hr.mono (by decide)) (by rfl) T.g__law_move k__law_move b__law_move .nil passL (pa_cons (pv 4) (pa_cons (pe_un un_neg pe_int) pa_nil))) (pa_cons (pv 7) pa_nil))) pa_nil))))
      (pss_one (ps_if (pt_cmpR op_gt (pe_callB call_len_seq (by rfl) T.z_len PySem.boot_len (pa_cons (pe_ix ix_tup (pv 8) pe_int (fun _ _ => rfl)) pa_nil)) pe_int (nomark _)) (pss_cons (ps_set (i := 5) sc_law.nd rfl (Or.inl rfl) (pv 8))
      (pss_one (ps_setI (i := 6) sc_law.nd rfl (Or.inl rfl) (pe_op op_sub (pe_callB call_len_seq (by rfl) T.z_len PySem.boot_len (pa_cons (pe_ix ix_tup (pv 7) pe_int (fun _ _ => rfl)) pa_nil)) pe_int)))) pss_nil)))) pss_nil)
      (pss_cons (ps_set (i := 9) sc_law.nd rfl (Or.inl rfl) (pe_lst (pa_cons (pe_call G__law_poly (hr.mono (by decide)) (by rfl) T.g__law_poly k__law_poly b__law_poly .nil passL (pa_cons (pv 3) pa_nil)) (pa_cons (pe_call G__law_poly (hr.mono (by decide)) (by rfl) T.g__law_poly k__law_poly b__law_poly .nil passL (pa_cons (pv 4) pa_nil)) (pa_cons (pe_call G__law_poly (hr.mono (by decide)) (by rfl) T.g__law_poly k__law_poly b__law_poly .nil passL (pa_cons (pv 5) pa_nil)) pa_nil)))))
      (pss_cons (ps_setI (i := 10) sc_law.nd rfl (Or.inl rfl) (pe_call G_degree_bound (hr.mono (by decide)) (by rfl) T.g_degree_bound k_degree_bound b_degree_bound .nil passL (pa_cons (pe_ix ix_list (pv 9) pe_int (fun _ _ => rfl)) (pa_cons (pe_ix ix_list (pv 9) pe_int (fun _ _ => rfl)) (pa_cons (pe_ix ix_list (pv 9) pe_int (fun _ _ => rfl)) pa_nil)))))
      (pss_cons (ps_if (PW.pt (pw_or (pt_not (pt_val (pe_call G__law_is_whole (hr.mono (by decide)) (by rfl) T.g__law_is_whole k__law_is_whole b__law_is_whole .nil passL (pa_cons (pv 10) pa_nil)))) (pw_or (pt_cmpR op_ne (pv 10) (pe_call G__law_bound (hr.mono (by decide)) (by rfl) T.g__law_bound k__law_bound b__law_bound .nil passL (pa_cons (pv 3) (pa_cons (pv 4) (pa_cons (pv 5) pa_nil)))) (nomark _)) (pw_or1 (pt_cmpR op_lt (pv 10) (pv 6) (nomark _)))))) (pss_one (ps_ret pe_bl)) pss_nil)
      (pss_cons (ps_if (PW.pt (pw_or (pt_not (pt_val (pe_call G__law_alike (hr.mono (by decide)) (by rfl) T.g__law_alike k__law_alike b__law_alike .nil passL (pa_cons (pe_call G__law_read (hr.mono (by decide)) (by rfl) T.g__law_read k__law_read b__law_read .nil passL (pa_cons (pe_ix ix_list (pv 9) pe_int (fun _ _ => rfl)) pa_nil)) (pa_cons (pv 3) pa_nil))))) (pw_or1 (pt_not (pt_val (pe_call G__law_alike (hr.mono (by decide)) (by rfl) T.g__law_alike k__law_alike b__law_alike .nil passL (pa_cons (pe_call G__law_read (hr.mono (by decide)) (by rfl) T.g__law_read k__law_read b__law_read .nil passL (pa_cons (pe_ix ix_list (pv 9) pe_int (fun _ _ => rfl)) pa_nil)) (pa_cons (pv 4) pa_nil)))))))) (pss_one (ps_ret pe_bl)) pss_nil)
      (pss_cons (ps_set (i := 11) sc_law.nd rfl (Or.inl rfl) (pe_makeI T.mk_Poly G_Poly___init__ (hr.mono (by decide)) (by rfl) T.g_Poly bd_Poly___init__ v_Poly___init__ passL (mkPo_conv K [_]) (pa_cons (pe_lst pa_nil) pa_nil)))
      (pss_cons (ps_if (PW.pt (pw_or (pt_not (pt_val (pe_call G__law_refused (hr.mono (by decide)) (by rfl) T.g__law_refused k__law_refused b__law_refused .nil passL (pa_cons (pv 11) (pa_cons (pe_ix ix_list (pv 9) pe_int (fun _ _ => rfl)) (pa_cons (pe_ix ix_list (pv 9) pe_int (fun _ _ => rfl)) pa_nil)))))) (pw_or1 (pt_not (pt_val (pe_call G__law_refused (hr.mono (by decide)) (by rfl) T.g__law_refused k__law_refused b__law_refused .nil passL (pa_cons (pe_ix ix_list (pv 9) pe_int (fun _ _ => rfl)) (pa_cons (pv 11) (pa_cons (pe_ix ix_list (pv 9) pe_int (fun _ _ => rfl)) pa_nil))))))))) (pss_one (ps_ret pe_bl)) pss_nil)
      (pss_one (ps_ret (pe_and (pe_call G__law_alike (hr.mono (by decide)) (by rfl) T.g__law_alike k__law_alike b__law_alike .nil passL (pa_cons (pe_call G__law_read (hr.mono (by decide)) (by rfl) T.g__law_read k__law_read b__law_read .nil passL (pa_cons (pe_ix ix_list (pv 9) pe_int (fun _ _ => rfl)) pa_nil)) (pa_cons (pv 5) pa_nil))) (pe_one (pe_call G__law_refused (hr.mono (by decide)) (by rfl) T.g__law_refused k__law_refused b__law_refused .nil passL (pa_cons (pe_ix ix_list (pv 9) pe_int (fun _ _ => rfl)) (pa_cons (pe_ix ix_list (pv 9) pe_int (fun _ _ => rfl)) (pa_cons (pv 11) pa_nil)))))))))))))))))))))), ?_⟩
    refine ⟨_, rfl, aS, ns, 0, rfl, hS, by decide, fun c0 => ?_⟩
    refine ⟨c0, 60, 2, rfl, by decide, by decide, by decide, by decide, fun p1 H1 ms s1 np1 hp1 ml mb => ?_⟩
    have i0 : (0 : Nat) < ms.length := by omega
    have i1 : (1 : Nat) < ms.length := by omega
    refine ⟨_, rfl, _, _, _, _, rfl, rfl, SqL.of hp1, atI_nat (j := 0) (map_at (get_of_lt i0)), .inl ⟨_, rfl, _, _, rfl, rfl, (show (0 : Int) < 6 by decide), _, rfl, fun st est => ?_⟩⟩
    refine ⟨_, rfl, aS, ns, 1, rfl, s1.seq hS, by decide, fun c1 => ⟨c1, 4, rfl, by decide, by decide, fun pa H2 xs d s2 np2 ha ⟨tx, nx, bx, d1, d3, lx⟩ => ?_⟩⟩
    have s12 := s1.trans s2
    refine ⟨_, rfl, aS, ns, 2, rfl, s12.seq hS, by decide, fun c2 => ⟨c2, 4, rfl, by decide, by decide, fun pb0 H3 ys0 e0 s3 np3 hb0 ⟨ty0, ny0, by0, e01, e03, ly0⟩ => ?_⟩⟩
    have s13 := s12.trans s3
    have ha3 := ha.mono s3
    refine ⟨fun σ' H' => ∃ (pb : Addr) (ys : List Int) (e : Int), σ' = [some (.ref aS), some (.ref p1), some (.int st), some (.ref pa), some (.ref pb), none, none, none, none, none, none, none] ∧ Same H3 H' ∧ PtA H' pb ys e ∧ Tf ys (ff ys) ∧ ys ≠ [] ∧ Bits 160 ys ∧ 1 ≤ e ∧ e ≤ 3 ∧ ys.length ≤ 7, ?_, ?_⟩
    · have no : ∃ (pb : Addr) (ys : List Int) (e : Int), ([some (V.ref aS), some (V.ref p1), some (V.int st), some (V.ref pa), some (V.ref pb0), none, none, none, none, none, none, none] : List (Option V)) = [some (.ref aS), some (.ref p1), some (.int st), some (.ref pa), some (.ref pb), none, none, none, none, none, none, none] ∧ Same H3 H3 ∧ PtA H3 pb ys e ∧ Tf ys (ff ys) ∧ ys ≠ [] ∧ Bits 160 ys ∧ 1 ≤ e ∧ e ≤ 3 ∧ ys.length ≤ 7 :=
        ⟨pb0, ys0, e0, rfl, fun _ _ e => e, hb0, ty0, ny0, by0.mono (by decide), e01, e03, ly0⟩
      refine ⟨_, rfl, _, _, rfl, rfl, _, rfl, iteD (fun z1 => ?_) (fun z1 => iteN rfl no)⟩
      refine ⟨_, rfl, _, _, rfl, rfl, _, rfl, iteD (fun z2 => ?_) (fun z2 => no)⟩
      refine ⟨_, rfl, _, rfl, aS, ns, 3, rfl, s13.seq hS, by decide, fun c3 => ?_⟩
      refine ⟨_, rfl, pa, xs, d, c3, st, rfl, ha3, tx, nx, bx, d1, d3, lx, fun pk H4 zs s4 hk tz nz bz lz => ?_⟩
      have shb : shB 20 1 zs.length ≤ 160 := by
        unfold shB
        have h1 : zs.length + 1 ≤ 8 := by omega
        have := Nat.mul_le_mul h1 h1
        omega
      refine ⟨pk, zs, d, 1, 20, 1, rfl, hk, bz, by decide, by omega, by decide, by omega, fun pm H5 ws g s5 np5 hm ⟨eg, iz, bw⟩ => ?_⟩
      subst eg
      exact ⟨pm, ws, g, rfl, s4.trans s5, hm, iz.tf tz, iz.ne nz, bw.mono shb, d1, d3, by have := iz.len; omega⟩
    rintro _ H4 ⟨pb, ys, e, rfl, s4, hb, ty, ny, bY, e1, e3, ly⟩
    have s14 := s13.trans s4
    refine ⟨_, rfl, aS, ns, 4, rfl, s14.seq hS, by decide, fun c4 => ⟨c4, 4, rfl, by decide, by decide, fun pc0 H5 zs0 g0 s5 np5 hc0 ⟨tz0, nz0, bz0, g01, g03, lz0⟩ => ?_⟩⟩
    have s15 := s14.trans s5
    have ha5 := (ha3.mono s4).mono s5
    have hb5 := hb.mono s5
    refine ⟨_, rfl, _, rfl, fun le0 ele0 => ?_⟩
    refine ⟨fun σ' H' => ∃ (pc : Addr) (zs : List Int) (g le : Int) (y7 y8 : Option V), σ' = [some (.ref aS), some (.ref p1), some (.int st), some (.ref pa), some (.ref pb), some (.ref pc), some (.int le), y7, y8, none, none, none] ∧ Same H5 H' ∧ PtA H' pc zs g ∧ PtS zs g ∧
      ∀ v ws, IsSh (-1) ws ys → DB (rv zs g) (fun i => rv xs d i - rv ws e i) (fun i => rv xs d i + rv ws e i) v → le ≤ v, ?_, ?_⟩
    · refine ⟨_, rfl, _, _, _, _, rfl, rfl, (((s2.trans s3).trans s4).trans s5).seq (SqL.of hp1), atI_nat (j := 1) (map_at (get_of_lt i1)), .inl ⟨_, rfl, _, _, rfl, rfl, (show (0 : Int) < 2 by decide), rfl, _, rfl, iteEq (fun z1 => ?_) (fun z1 => ?_)⟩⟩
      · refine ⟨_, rfl, aS, ns, 5, rfl, s15.seq hS, by decide, fun c5 => ⟨c5, 4, rfl, by decide, by decide, fun px H6 us dx s6 np6 hx ⟨tu, nu, bu, dx1, dx3, lu⟩ => ?_⟩⟩
        have shu : shB 5 1 us.length ≤ 160 := by
          unfold shB
          have h1 : us.length + 1 ≤ 8 := by omega
          have := Nat.mul_le_mul h1 h1
          omega
        have shy : shB 160 1 ys.length ≤ 320 := by
          unfold shB
          have h1 : ys.length + 1 ≤ 8 := by omega
          have := Nat.mul_le_mul h1 h1
          omega
        refine ⟨_, rfl, _, rfl, px, us, dx, 1, 5, 1, rfl, hx, bu, by decide, by omega, by decide, by omega, fun p7 H7 us1 dx' s7 np7 h7 ⟨edx, iu, bu1⟩ => ?_⟩
        subst edx
        have lu1 := iu.len
        have bu1' := bu1.mono shu
        have db : d.natAbs < 2 ^ 160 := Nat.lt_of_lt_of_le (show d.natAbs < 2 ^ 2 by omega) (Nat.pow_le_pow_right (by decide) (by decide))
        have eb : e.natAbs < 2 ^ 160 := Nat.lt_of_lt_of_le (show e.natAbs < 2 ^ 2 by omega) (Nat.pow_le_pow_right (by decide) (by decide))
        have dxb : dx'.natAbs < 2 ^ 160 := Nat.lt_of_lt_of_le (show dx'.natAbs < 2 ^ 2 by omega) (Nat.pow_le_pow_right (by decide) (by decide))
        refine ⟨pa, p7, xs, us1, d, dx', 160, rfl, (ha5.mono s6).mono s7, h7, bx.mono (by decide), bu1', db, dxb, by omega, by omega, by decide, fun p8 H8 m1 g1 s8 np8 h8 ⟨eg1, t8, l8⟩ => ?_⟩
        have s68 := (s6.trans s7).trans s8
        refine ⟨_, rfl, _, rfl, pb, ys, e, -1, 160, 1, rfl, hb5.mono s68, bY, by decide, by omega, by decide, by omega, fun p9 H9 ws9 e' s9 np9 h9 ⟨ee, iw, bw⟩ => ?_⟩
        subst ee
        have lw := iw.len
        have bw' := bw.mono shy
        have up : ∀ {i : Int}, i.natAbs < 2 ^ 160 → i.natAbs < 2 ^ 320 := fun h => abs_mono h (by decide)
        refine ⟨_, rfl, p9, px, ws9, us, e', dx', 320, rfl, h9, ((hx.mono s7).mono s8).mono s9, bw', bu.mono (by decide), up eb, up dxb, by omega, by omega, by decide, fun p10 H10 m2 g2 s10 np10 h10 ⟨eg2, t10, l10⟩ => ?_⟩
        have b8 : Bits 340 m1 := (bits_cv t8 (bx.mono (by decide)) bu1').mono (by omega)
        have b10 : Bits 340 m2 := bits_tf t10 fun i => abs_mono (cvS_bits bw'.getD bu.getD i ws9.length) (by omega)
        have g1b : g1.natAbs < 2 ^ 340 := by rw [eg1]; exact abs_mono (abs_lt_mul (show d.natAbs < 2 ^ 2 by omega) (show dx'.natAbs < 2 ^ 2 by omega)) (by decide)
        have g2b : g2.natAbs < 2 ^ 340 := by rw [eg2]; exact abs_mono (abs_lt_mul (show e'.natAbs < 2 ^ 2 by omega) (show dx'.natAbs < 2 ^ 2 by omega)) (by decide)
        have g1s : 1 ≤ g1 ∧ g1 ≤ 9 := by rw [eg1]; rcases (show d = 1 ∨ d = 2 ∨ d = 3 by omega) with h | h | h <;> rw [h] <;> omega
        have g2s : 1 ≤ g2 ∧ g2 ≤ 9 := by rw [eg2]; rcases (show e' = 1 ∨ e' = 2 ∨ e' = 3 by omega) with h | h | h <;> rw [h] <;> omega
        refine ⟨p8, p10, m1, m2, g1, g2, 340, rfl, (h8.mono s9).mono s10, h10, b8, b10, g1b, g2b, by decide, by omega, by omega, by decide, fun pi H11 im gi s11 np11 hi ⟨egi, ti, li⟩ => ?_⟩
        have s610 := ((s68.trans s9).trans s10).trans s11
        obtain ⟨lI, hI, mI⟩ := id hi
        refine ⟨_, rfl, _, _, _, _, rfl, rfl, SqT.of hI, atI_nat (j := 0) rfl, _, _, rfl, .inl (SqL.of mI), _, _, rfl, rfl, _, rfl, iteD (fun z2 => ?_) (fun z2 => ?_)⟩
        · rw [len_map] at z2
          have hx11 := ((((hx.mono s7).mono s8).mono s9).mono s10).mono s11
          obtain ⟨lX, hX, mX⟩ := id hx11
          refine ⟨_, rfl, ?_⟩
          refine ⟨_, rfl, _, _, _, _, rfl, rfl, SqT.of hX, atI_nat (j := 0) rfl, _, _, rfl, .inl (SqL.of mX), _, _, rfl, rfl, _, rfl, fun le1 ele1 => ?_⟩
          rw [len_map] at ele1
          have gi1 : 1 ≤ gi ∧ gi ≤ 81 := by
            rw [egi]
            constructor
            · have := Int.mul_le_mul g1s.1 g2s.1 (by decide) (by omega)
              omega
            · have := Int.mul_le_mul g1s.2 g2s.2 (by omega) (by decide)
              omega
          have bim : Bits 400 im := bits_tf ti fun i => abs_mono (sz_sub (abs_lt_mul (show g2.natAbs < 2 ^ 4 by omega) (b8.getD i)) (abs_lt_mul (show g1.natAbs < 2 ^ 4 by omega) (b10.getD i))) (by decide)
          refine ⟨pi, im, gi, le1, _, _, rfl, s610, hi, ⟨ti.self, fun z => by rw [z] at z2; exact absurd z2 (by simp), bim, gi1.1, by omega, by omega⟩, fun v ws hw hdb => ?_⟩
          have ul : 0 < us.length := List.length_pos_iff.mpr nu
          obtain ⟨m, hm⟩ : ∃ m, us.length = m + 1 := ⟨us.length - 1, by omega⟩
          have wsE : ∀ i, ws.getD i 0 = ws9.getD i 0 := fun i => by rw [hw.at_, iw.at_]
          have top := iu.top hm
          have dn : dx' ≠ 0 := by omega
          have e10 : ∀ i, rv im gi i = cR (rv xs d) (rv us1 dx') i - cR (rv ws e') (rv us dx') i := fun i => by
            rw [egi, rv_subL (by omega) (by omega) ti.at_, eg1, rv_mul (by omega) dn t8.at_, eg2, rv_mul (by omega) dn t10.at_]
            congr 1
            exact cR_congr (fun i => by unfold rv; rw [wsE]) (fun _ => rfl) i
          have dq : ∀ c : Int, ((c : Int) : Rat) / ((dx' : Int) : Rat) = ((c : Int) : Rat) / ((dx' : Int) : Rat) := fun _ => rfl
          have main := DB.least (A := rv xs d) (B := rv ws e') (C := rv im gi) (x := rv us dx') (y := rv us1 dx') (m := m) (nA := xs.length) (nB := ws.length)
            (fun i hi => (rv_zero (by omega)).mpr (getD_end hi)) (fun i hi => (rv_zero (by omega)).mpr (getD_end hi)) (by rw [← hm]; exact tu.ln dn) (fun i hi => (rv_zero dn).mpr (getD_end (by omega)))
            (by unfold rv; rw [top.1]) (fun j hj => by
              unfold rv
              rw [top.2 j hj, Rat.intCast_add, Rat.intCast_mul, Rat.intCast_mul]
              have z1 : ((1 : Int) : Rat) = 1 := rfl
              have z2 : (((m : Nat) : Int) : Rat) = (m : Rat) := rfl
              have := ratc_ne dn
              rw [z1, z2]
              grind) e10 ⟨im.length - 1, fun z => (ti.tr.resolve_left (by omega)) ((rv_zero (by omega)).mp z)⟩ hdb
          rw [ele1]
          omega
        · exact ⟨pc0, zs0, g0, le0, _, _, rfl, s610, hc0.mono s610, ⟨tz0, nz0, bz0.mono (by decide), g01, by omega, by omega⟩, fun v ws _ h => by rw [ele0]; exact h.ge⟩
      · exact ⟨pc0, zs0, g0, le0, _, _, rfl, fun _ _ e => e, hc0, ⟨tz0, nz0, bz0.mono (by decide), g01, by omega, by omega⟩, fun v ws _ h => by rw [ele0]; exact h.ge⟩
    rintro _ H6 ⟨pc, zs, g, le, y7, y8, rfl, s6, hc, pz, hle⟩
    have s16 := s15.trans s6
    have ha6 := ha5.mono s6
    have hb6 := hb5.mono s6
    have px : PtS xs d := ⟨tx, nx, bx.mono (by decide), d1, by omega, by omega⟩
    have py : PtS ys e := ⟨ty, ny, bY.mono (by decide), e1, by omega, by omega⟩
    have g1 := pz.dp
    have pos : ∀ {ts : List Int} {f : Int} {ks : List Int} {h : Int} {p : Addr} {G : Hp}, PtS ts f → Pq ts f ks h → PoA K G p ks h → PoS K G p ks h := fun pt pq hp =>
      ⟨hp, pq.self, pq.bits (by have := pt.dp; omega) pt.bits, Nat.lt_of_le_of_lt (pq.den_le (by have := pt.dp; omega)) pt.db, Nat.le_trans (pq.len (by have := pt.dp; omega)) pt.len⟩
    have nn : ∀ {ts : List Int} {f : Int} {ks : List Int} {h : Int}, PtS ts f → Pq ts f ks h → ks ≠ [] := fun {ts f ks h} pt pq z => by
      have h0 := pt.dp
      have l0 : 0 < ts.length := List.length_pos_iff.mpr pt.ne
      have t0 := pt.tf.tr.resolve_left (by omega)
      have q0 := pq.eq (ts.length - 1)
      rw [z] at q0
      have q1 : (0 : Int) * f = ts.getD (ts.length - 1) 0 * h := q0
      rw [Int.zero_mul] at q1
      have hp := pq.pos
      rcases Int.mul_eq_zero.mp q1.symm with w | w
      · exact t0 w
      · omega
    refine ⟨_, rfl, pa, xs, d, 20, rfl, ha6, by omega, px.db, by decide, by omega, fun qa H7 ka ea s7 nq7 ka7 pqa => ?_⟩
    refine ⟨_, rfl, pb, ys, e, 20, rfl, hb6.mono s7, by omega, py.db, by decide, by omega, fun qb H8 kb eb s8 nq8 kb8 pqb => ?_⟩
    refine ⟨_, rfl, pc, zs, g, 20, rfl, (hc.mono s7).mono s8, by have := pz.len; omega, pz.db, by decide, by omega, fun qc H9 kc ec s9 nq9 kc9 pqc => ?_⟩
    refine ⟨by show 3 ≤ sizeLine; decide, fun ph nph => ?_⟩
    have s10 := sm_new (o := .lst [.ref qa, .ref qb, .ref qc]) nph
    have hh : (upd H9 ph (.lst [.ref qa, .ref qb, .ref qc])) ph = some (.lst [.ref qa, .ref qb, .ref qc]) := upd_same
    generalize upd H9 ph (.lst [.ref qa, .ref qb, .ref qc]) = H10 at s10 hh ⊢
    have s79 := (s7.trans s8).trans (s9.trans s10)
    have Pa := pos px pqa (((ka7.mono s8).mono s9).mono s10)
    have Pb := pos py pqb ((kb8.mono s9).mono s10)
    have Pc := pos pz pqc (kc9.mono s10)
    have na := nn px pqa
    have nb := nn py pqb
    have nc := nn pz pqc
    have hx10 := ha6.mono s79
    have hy10 := hb6.mono s79
    have hz10 := hc.mono s79
    clear s7 s8 s9 s10
    refine ⟨_, rfl, _, _, _, _, rfl, rfl, SqL.of hh, atI_nat (j := 0) rfl, _, rfl, _, _, _, _, rfl, rfl, SqL.of hh, atI_nat (j := 1) rfl, _, rfl, _, _, _, _, rfl, rfl, SqL.of hh, atI_nat (j := 2) rfl, qa, qb, qc, ka, kb, kc, ea, eb, ec, 0, 0, 0, rfl, Pa, Pb, Pc, fun h => ?_, fun _ _ _ v H11 zk s11 iz db => ?_⟩
    · rcases h with h | h | h
      · exact absurd h na
      · exact absurd h nb
      · exact absurd h nc
    refine ⟨_, rfl, fun ac eac => ?_⟩
    subst eac
    refine ⟨_, rfl, _, rfl, _, rfl, iteN rfl ?_⟩
    refine ⟨_, rfl, _, rfl, _, rfl, _, rfl, pa, pb, pc, xs, ys, zs, d, e, g, rfl, ⟨hx10.mono s11, hy10.mono s11, hz10.mono s11⟩, px, py, pz, fun v2 H12 ws s12 iw db2 => ?_⟩
    have shE : ∀ i, rv zk eb i = rv ws e i := iz.rv iw pqb (by omega)
    have ev : ac = v2 := DB.uniq db (db2.congr (fun i => (pqc.rv (by omega) i).symm) (fun i => by show rv xs d i - rv ws e i = rv ka ea i - rv zk eb i; rw [shE, pqa.rv (by omega)]) (fun i => by show rv xs d i + rv ws e i = rv ka ea i + rv zk eb i; rw [shE, pqa.rv (by omega)]))
    have lv : le ≤ ac := by rw [ev]; exact hle v2 ws iw db2
    refine ⟨rfl, _, rfl, iteN (vnn ev) ?_⟩
    refine ⟨_, rfl, _, rfl, _, _, rfl, rfl, _, rfl, iteN (decide_eq_false (by omega)) ?_⟩
    have s1112 := s11.trans s12
    have hh12 := s1112 _ _ hh
    have dl : ∀ {i : Int}, i.natAbs < 2 ^ 20 → i.natAbs < 2 ^ 400 := fun h => abs_mono h (by decide)
    have len4 : ∀ {n : Nat}, n ≤ 20 → n ≤ 400 := fun h => by omega
    refine ⟨_, rfl, _, _, _, _, rfl, rfl, SqL.of hh12, atI_nat (j := 0) rfl, qa, ka, ea, rfl, (Pa.mono s1112).at_, Pa.pq.pos, Pa.pq.tf, len4 Pa.len, fun r1 H13 u1 w1 s13' nr1 hr1 ⟨ez, ed⟩ => ?_⟩
    rw [ez, ed] at hr1
    refine ⟨_, rfl, r1, pa, ka, xs, ea, d, 400, rfl, hr1, (hx10.mono s1112).mono s13', Pa.bits, px.bits, dl Pa.ed, dl px.db, len4 Pa.len, by omega, by decide, fun r H14 s14' hr => ?_⟩
    have er : r = true := hr.mpr fun i => by have := pqa.eq i; grind
    subst er
    refine ⟨_, rfl, iteN rfl ?_⟩
    have s1114 := (s1112.trans s13').trans s14'
    have hh14 := s1114 _ _ hh
    refine ⟨_, rfl, _, _, _, _, rfl, rfl, SqL.of hh14, atI_nat (j := 1) rfl, qb, kb, eb, rfl, (Pb.mono s1114).at_, Pb.pq.pos, Pb.pq.tf, len4 Pb.len, fun r2 H15 u1 w1 s15' nr2 hr2 ⟨ez, ed⟩ => ?_⟩
    rw [ez, ed] at hr2
    refine ⟨_, rfl, r2, pb, kb, ys, eb, e, 400, rfl, hr2, (hy10.mono s1114).mono s15', Pb.bits, py.bits, dl Pb.ed, dl py.db, len4 Pb.len, by omega, by decide, fun r H16 s16' hr => ?_⟩
    have er : r = true := hr.mpr fun i => by have := pqb.eq i; grind
    subst er
    refine ⟨_, rfl, iteN rfl ?_⟩
    have s1116 := (s1114.trans s15').trans s16'
    refine ⟨by show 0 ≤ sizeLine; decide, fun p0 np0 => ?_⟩
    have s17 := sm_new (o := .lst []) np0
    refine ⟨p0, [], 1, 2, rfl, .inl (SqL.of upd_same), by decide, by decide, by decide, by decide, fun po H18 ko eo s18 npo hpo pqo => ?_⟩
    have ko0 : ko = [] := List.eq_nil_of_length_eq_zero (by have := pqo.len (by decide); simp at this; rw [this]; rfl)
    have eo1 := pqo.den_le (by decide)
    have Po : PoS K H18 po ko eo := ⟨hpo, pqo.self, by rw [ko0]; exact ⟨fun x h => absurd h (by simp)⟩, Nat.lt_of_le_of_lt eo1 (by decide), by rw [ko0]; decide⟩
    have s1118 := (s1116.trans s17).trans s18
    have hh18 := s1118 _ _ hh
    refine ⟨_, rfl, _, rfl, _, _, _, _, rfl, rfl, SqL.of hh18, atI_nat (j := 1) rfl, _, rfl, _, _, _, _, rfl, rfl, SqL.of hh18, atI_nat (j := 2) rfl, po, qb, qc, ko, kb, kc, eo, eb, ec, rfl, Po, Pb.mono s1118, Pc.mono s1118, .inl ko0, fun H19 s19 => ?_⟩
    refine ⟨_, rfl, iteN rfl ?_⟩
    have s1119 := s1118.trans s19
    have hh19 := s1119 _ _ hh
    refine ⟨_, rfl, _, _, _, _, rfl, rfl, SqL.of hh19, atI_nat (j := 0) rfl, _, rfl, _, rfl, _, _, _, _, rfl, rfl, SqL.of hh19, atI_nat (j := 2) rfl, qa, po, qc, ka, ko, kc, ea, eo, ec, rfl, Pa.mono s1119, Po.mono s19, Pc.mono s1119, .inr (.inl ko0), fun H20 s20 => ?_⟩
    refine ⟨_, rfl, iteN rfl ?_⟩
    have s1120 := s1119.trans s20
    have hh20 := s1120 _ _ hh
    refine ⟨_, rfl, _, _, _, _, rfl, rfl, SqL.of hh20, atI_nat (j := 2) rfl, qc, kc, ec, rfl, (Pc.mono s1120).at_, Pc.pq.pos, Pc.pq.tf, len4 Pc.len, fun r3 H21 u1 w1 s21 nr3 hr3 ⟨ez, ed⟩ => ?_⟩
    rw [ez, ed] at hr3
    refine ⟨_, rfl, r3, pc, kc, zs, ec, g, 400, rfl, hr3, (hz10.mono s1120).mono s21, Pc.bits, pz.bits, dl Pc.ed, dl pz.db, len4 Pc.len, len4 pz.len, by decide, fun r H22 s22 hr => ?_⟩
    have er : r = true := hr.mpr fun i => by have := pqc.eq i; grind
    subst er
    refine ⟨_, rfl, iteK rfl ?_⟩
    have s1122 := (s1120.trans s21).trans s22
    have hh22 := s1122 _ _ hh
    refine ⟨_, rfl, _, _, _, _, rfl, rfl, SqL.of hh22, atI_nat (j := 0) rfl, _, rfl, _, _, _, _, rfl, rfl, SqL.of hh22, atI_nat (j := 1) rfl, _, rfl, qa, qb, po, ka, kb, ko, ea, eb, eo, rfl, Pa.mono s1122, Pb.mono s1122, ((Po.mono (s19.trans s20)).mono s21).mono s22, .inr (.inr ko0), fun H23 s23 => ?_⟩
    exact q _
theorem whole (T : Tx K mg) : ∃ fd : FuncData, (∀ (s : Shared) (v : Value), BindsTo s fd ⟨[v], []⟩ [("script", v)]) ∧ ∀ base : Heap, FnOk P w K mg base CX0 8 (He.fAd K ("law", none)) fd ["script"] (spLaw K) := by
  have O__law_cell : ∀ base, OkF P w K mg base 1 (He.fAd K ("_law_cell", none)) ["script", "k"] (spCell K) := fun base => ok__law_cell T
  have O__law_digits : ∀ base, OkF P w K mg base 1 (He.fAd K ("_law_digits", none)) ["cell", "limit", "count"] (spDig K) := fun base => ok__law_digits T
  have O__law_trim : ∀ base, OkF P w K mg base 1 (He.fAd K ("_law_trim", none)) ["xs"] (spTri K) := fun base => ok__law_trim T
  have O__law_draw : ∀ base, OkF P w K mg base 2 (He.fAd K ("_law_draw", none)) ["cell", "most"] (spLDw K) := fun base => ok__law_draw T (O__law_digits base) (O__law_trim base)
  have O__law_scale : ∀ base, OkF P w K mg base 2 (He.fAd K ("_law_scale", none)) ["xs", "factor"] (spLSc K) := fun base => ok__law_scale T (O__law_trim base)
  have O__law_sum : ∀ base, OkF P w K mg base 2 (He.fAd K ("_law_sum", none)) ["xs", "ys"] (spLSm K) := fun base => ok__law_sum T (O__law_trim base)
  have O__law_back : ∀ base, OkF P w K mg base 4 (He.fAd K ("_law_back", none)) ["a", "cell", "style"] (spLBk K) := fun base => ok__law_back T (O__law_scale base) (O__law_draw base) (O__law_sum base)
  have O__law_shift : ∀ base, OkF P w K mg base 1 (He.fAd K ("_law_shift", none)) ["xs", "step"] (spLSh K) := fun base => ok__law_shift T
  have O__law_move : ∀ base, OkF P w K mg base 3 (He.fAd K ("_law_move", none)) ["part", "step"] (spLMv K) := fun base => ok__law_move T (O__law_shift base)
  have O__law_mul : ∀ base, OkF P w K mg base 2 (He.fAd K ("_law_mul", none)) ["xs", "ys"] (spLMl K) := fun base => ok__law_mul T (O__law_trim base)
  have O__law_times : ∀ base, OkF P w K mg base 3 (He.fAd K ("_law_times", none)) ["a", "b"] (spLTm K) := fun base => ok__law_times T (O__law_mul base)
  have O__law_plus : ∀ base, OkF P w K mg base 3 (He.fAd K ("_law_plus", none)) ["a", "b"] (spLPp K) := fun base => ok__law_plus T (O__law_scale base) (O__law_sum base)
  have O__law_minus : ∀ base, OkF P w K mg base 4 (He.fAd K ("_law_minus", none)) ["a", "b"] (spLMn K) := fun base => ok__law_minus T (O__law_scale base) (O__law_plus base)
  have O_trimmed : ∀ base, OkF P w K mg base 1 (He.fAd K ("trimmed", none)) ["coefs"] (spTrim K) := fun base => ok_trimmed T
  have O_common_factor : ∀ base, OkF P w K mg base 1 (He.fAd K ("common_factor", none)) ["numbers"] (spCom K) := fun base => ok_common_factor T
  have O_Poly___init__ : ∀ base, OkD P w K mg base 2 (He.fAd K ("Poly", some "__init__")) ["self", "coefs", "den"] (He.Dv.v K (.int 1)) (spPInit K) := fun base => ok_Poly___init__ T (O_trimmed base) (O_common_factor base)
  have O__law_poly : ∀ base, OkF P w K mg base 4 (He.fAd K ("_law_poly", none)) ["part"] (spLPo K) := fun base => ok__law_poly T (O_Poly___init__ base)
  have O_Poly_is_zero : ∀ base, OkF P w K mg base 1 (gtAd K (He.ga K "Poly") "is_zero") ["self"] (spPZer K) := fun base => ok_Poly_is_zero T
  have O_shifted_coefs : ∀ base, OkF P w K mg base 1 (He.fAd K ("shifted_coefs", none)) ["coefs", "step"] (spShc K) := fun base => ok_shifted_coefs T
  have O_Poly_shifted : ∀ base, OkF P w K mg base 4 (He.fAd K ("Poly", some "shifted")) ["self", "step"] (spPShi K) := fun base => ok_Poly_shifted T (O_shifted_coefs base) (O_Poly___init__ base)
  have O_Poly___neg__ : ∀ base, OkF P w K mg base 4 (He.fAd K ("Poly", some "__neg__")) ["self"] (spPNeg K) := fun base => ok_Poly___neg__ T (O_Poly___init__ base)
  have O__coefs_over : ∀ base, OkF P w K mg base 1 (He.fAd K ("_coefs_over", none)) ["p", "den"] (spOvr K) := fun base => ok__coefs_over T
  have O_added : ∀ base, OkF P w K mg base 1 (He.fAd K ("added", none)) ["first", "second"] (spAdded K) := fun base => ok_added T
  have O_Poly___add__ : ∀ base, OkF P w K mg base 4 (He.fAd K ("Poly", some "__add__")) ["self", "other"] (spPAdd K) := fun base => ok_Poly___add__ T (O__coefs_over base) (O_added base) (O_Poly___init__ base)
  have O_Poly___sub__ : ∀ base, OkF P w K mg base 5 (He.fAd K ("Poly", some "__sub__")) ["self", "other"] (spPSub K) := fun base => ok_Poly___sub__ T (O_Poly___neg__ base) (O_Poly___add__ base)
  have O_Poly_degree : ∀ base, OkF P w K mg base 1 (gtAd K (He.ga K "Poly") "degree") ["self"] (spPDeg K) := fun base => ok_Poly_degree T
  have O_Fraction___init__ : ∀ base, OkD P w K mg base 1 (He.fAd K ("Fraction", some "__init__")) ["self", "num", "den"] (He.Dv.v K (.int 1)) (spInit K) := fun base => ok_Fraction___init__ T
  have O_Poly_coefficient : ∀ base, OkF P w K mg base 3 (He.fAd K ("Poly", some "coefficient")) ["self", "index"] (spPCo K) := fun base => ok_Poly_coefficient T (O_Poly_degree base) (O_Fraction___init__ base)
  have O_Poly_lead : ∀ base, OkF P w K mg base 4 (gtAd K (He.ga K "Poly") "lead") ["self"] (spPLe K) := fun base => ok_Poly_lead T (O_Poly_degree base) (O_Poly_coefficient base)
  have O_Fraction_is_zero : ∀ base, OkF P w K mg base 1 (gtAd K (He.ga K "Fraction") "is_zero") ["self"] (spZero K) := fun base => ok_Fraction_is_zero T
  have O__in_lowest_terms : ∀ base, OkF P w K mg base 3 (He.fAd K ("_in_lowest_terms", none)) ["num", "den"] (spLow K) := fun base => ok__in_lowest_terms T (O_Fraction___init__ base)
  have O_Fraction___mul__ : ∀ base, OkF P w K mg base 4 (He.fAd K ("Fraction", some "__mul__")) ["self", "other"] (spMul K) := fun base => ok_Fraction___mul__ T (O__in_lowest_terms base)
  have O_Fraction_over : ∀ base, OkF P w K mg base 5 (He.fAd K ("Fraction", some "over")) ["self", "other"] (spOver K) := fun base => ok_Fraction_over T (O_Fraction_is_zero base) (O_Fraction___init__ base) (O_Fraction___mul__ base)
  have O_Fraction_is_whole : ∀ base, OkF P w K mg base 1 (gtAd K (He.ga K "Fraction") "is_whole") ["self"] (spWhole K) := fun base => ok_Fraction_is_whole T
  have O_degree_bound : ∀ base, OkF P w K mg base 6 (He.fAd K ("degree_bound", none)) ["a", "b", "c"] (spDB K) := fun base => ok_degree_bound T (O_Poly_is_zero base) (O_Poly_shifted base) (O_Poly___sub__ base) (O_Poly___add__ base) (O_Poly_degree base) (O_Poly_coefficient base) (O_Fraction___init__ base) (O_Poly_lead base) (O_Fraction_over base) (O_Fraction___mul__ base) (O_Fraction_is_whole base)
  have O__law_is_whole : ∀ base, OkF P w K mg base 1 (He.fAd K ("_law_is_whole", none)) ["x"] (spIsWh K) := fun base => ok__law_is_whole T
  have O__law_bound : ∀ base, OkF P w K mg base 6 (He.fAd K ("_law_bound", none)) ["a", "b", "c"] (spLBd K) := fun base => ok__law_bound T (O__law_move base) (O__law_minus base) (O__law_plus base)
  have O__law_read : ∀ base, OkF P w K mg base 2 (He.fAd K ("_law_read", none)) ["p"] (spLRd K) := fun base => ok__law_read T (O__law_is_whole base) (O__law_trim base)
  have O__law_alike : ∀ base, OkF P w K mg base 3 (He.fAd K ("_law_alike", none)) ["a", "b"] (spLAl K) := fun base => ok__law_alike T (O__law_scale base)
  have O__law_refused : ∀ base, OkF P w K mg base 7 (He.fAd K ("_law_refused", none)) ["a", "b", "c"] (spLRf K) := fun base => ok__law_refused T (O_degree_bound base)
  exact ok_law T O__law_cell O__law_digits O__law_draw O__law_back O__law_move O__law_times O__law_minus O__law_poly O_degree_bound O__law_is_whole O__law_bound O__law_read O__law_alike O_Poly___init__ O__law_refused
end
/-! ### the head -/
abbrev DN__law_cell : Nat := 0
abbrev DN__law_digits : Nat := 1
abbrev DN__law_trim : Nat := 2
abbrev DN__law_draw : Nat := 3
abbrev DN__law_scale : Nat := 4
abbrev DN__law_sum : Nat := 5
abbrev DN__law_back : Nat := 6
abbrev DN__law_shift : Nat := 7
abbrev DN__law_move : Nat := 8
abbrev DN__law_mul : Nat := 9
abbrev DN__law_times : Nat := 10
abbrev DN__law_plus : Nat := 11
abbrev DN__law_minus : Nat := 12
abbrev DN_trimmed : Nat := 13
abbrev DN_common_factor : Nat := 14
abbrev DN_Poly___init__ : Nat := 15
abbrev DN__law_poly : Nat := 16
abbrev DN_Poly_is_zero : Nat := 17
abbrev DN_shifted_coefs : Nat := 18
abbrev DN_Poly_shifted : Nat := 19
abbrev DN_Poly___neg__ : Nat := 20
abbrev DN__coefs_over : Nat := 21
abbrev DN_added : Nat := 22
abbrev DN_Poly___add__ : Nat := 23
abbrev DN_Poly___sub__ : Nat := 24
abbrev DN_Poly_degree : Nat := 25
abbrev DN_Fraction___init__ : Nat := 26
abbrev DN_Poly_coefficient : Nat := 27
abbrev DN_Poly_lead : Nat := 28
abbrev DN_Fraction_is_zero : Nat := 29
abbrev DN__in_lowest_terms : Nat := 30
abbrev DN_Fraction___mul__ : Nat := 31
abbrev DN_Fraction_over : Nat := 32
abbrev DN_Fraction_is_whole : Nat := 33
abbrev DN_degree_bound : Nat := 34
abbrev DN__law_is_whole : Nat := 35
abbrev DN__law_bound : Nat := 36
abbrev DN__law_read : Nat := 37
abbrev DN__law_alike : Nat := 38
abbrev DN__law_refused : Nat := 39
abbrev DN_law : Nat := 40
def fnL : List DefG := [d__law_cell, d__law_digits, d__law_trim, d__law_draw, d__law_scale, d__law_sum, d__law_back, d__law_shift, d__law_move, d__law_mul, d__law_times, d__law_plus, d__law_minus, d_trimmed, d_common_factor, d_Poly___init__, d__law_poly, d_Poly_is_zero, d_shifted_coefs, d_Poly_shifted, d_Poly___neg__, d__coefs_over, d_added, d_Poly___add__, d_Poly___sub__, d_Poly_degree, d_Fraction___init__, d_Poly_coefficient, d_Poly_lead, d_Fraction_is_zero, d__in_lowest_terms, d_Fraction___mul__, d_Fraction_over, d_Fraction_is_whole, d_degree_bound, d__law_is_whole, d__law_bound, d__law_read, d__law_alike, d__law_refused, d_law]
def faL : List He.Fa := [.cls "Fraction", .cls "Poly", .meth "Fraction" "__mul__", .meth "Poly" "__add__", .meth "Poly" "__neg__", .meth "Poly" "__sub__", .glo "DivisionByZero", .glo "Fraction", .glo "Poly", .glo "SummationError", .glo "ZeroPolynomial", .glo "_coefs_over", .glo "_in_lowest_terms", .glo "_law_alike", .glo "_law_back", .glo "_law_bound", .glo "_law_cell", .glo "_law_digits", .glo "_law_draw", .glo "_law_is_whole", .glo "_law_minus", .glo "_law_move", .glo "_law_mul", .glo "_law_plus", .glo "_law_poly", .glo "_law_read", .glo "_law_refused", .glo "_law_scale", .glo "_law_shift", .glo "_law_sum", .glo "_law_times", .glo "_law_trim", .glo "added", .glo "common_factor", .glo "degree_bound", .glo "law", .glo "shifted_coefs", .glo "trimmed", .exc "DivisionByZero", .exc "ZeroPolynomial", .meth "Fraction" "over", .meth "Poly" "coefficient", .meth "Poly" "shifted", .mkr "Fraction", .mkr "Poly", .noat "Fraction" "den", .noat "Fraction" "num", .noat "Poly" "coefs", .noat "Poly" "den", .free "ValueError", .free "abs", .free "bool", .free "int", .free "isinstance", .free "len", .free "list", .free "max", .free "range", .free "tuple"]
def exL (K : PySem.W.Frag) : List Bool := [excCB K (He.ga K "ZeroPolynomial"),
  decide (PySem.W.exmOne K (.ref (He.ga K "ZeroPolynomial")) (.ref (He.ga K "ZeroPolynomial")) = some true),
  PySem.W.selfFirst K (He.ga K "Fraction"),
  PySem.W.selfFirst K (He.ga K "Poly"),
  He.eqO (PySem.W.nsIn K mainGlobals "gcd") (some (some (.builtin "math.gcd"))),
  He.eqO (PySem.W.nsIn K mainGlobals "lcm") (some (some (.builtin "math.lcm"))),
  He.eqO (PySem.W.nsIn K mainGlobals "zip_longest") (some (some (.type "itertools.zip_longest"))),
  decide (PySem.W.kitOne K (.ref (He.ga K "ZeroPolynomial")) (.ref (He.ga K "SummationError")) = some true),
  decide (PySem.W.kitOne K (.ref (He.ga K "ZeroPolynomial")) (.type "ValueError") = some true),
  propB K (He.ga K "Fraction") "is_whole",
  propB K (He.ga K "Fraction") "is_zero",
  propB K (He.ga K "Poly") "degree",
  propB K (He.ga K "Poly") "is_zero",
  propB K (He.ga K "Poly") "lead",
  He.eqO (PySem.W.findIn K (.ref (He.ga K "Poly")) "__class__") (some (some (.builtin "object.__class__"))),
  He.eqO (PySem.W.specialIn K (.builtin "object.__class__") "__get__") (some (some (.builtin "getset_descriptor.__get__"))),
  decide (PySem.W.takesIn K (.builtin "object.__class__") = some true),
  decide (PySem.W.mroIn K (He.ga K "Poly") (.type "object") = some true)]
abbrev R : PySem.W.OpenRow := PySem.W.OpenLaw.row PySem.Challenge.rw_certsums_k41_degree_bound
abbrev hk : PySem.W.Hook := hookG 6 faL fnL exL
def ob (s : PySem.W.SharedT) : AlG := obsGG 6 faL fnL exL (HandSHeadRun.getT s)
theorem ob_eq (s : PySem.W.SharedT) : ob s = hk.obs s.abs := obsGG_eq (HandSHeadRun.getT_eq s)
def hk2 : PySem.W.Hook := hkT hk ob ob_eq
theorem tx_of {K : PySem.W.Frag} {h : Heap} {mg : Str → Option Value} (X : K.In h) (G : h.Ns mainGlobals mg) (c : SaysG faL fnL exL K) : Tx K mg :=
  ⟨He.cls_ok (c.fact 0),
   He.cls_ok (c.fact 1),
   c.dn DN_Fraction___init__,
   c.dn DN_Fraction___mul__,
   c.dn DN_Fraction_is_whole,
   c.dn DN_Fraction_is_zero,
   c.dn DN_Fraction_over,
   c.dn DN_Poly___add__,
   c.dn DN_Poly___init__,
   c.dn DN_Poly___neg__,
   c.dn DN_Poly___sub__,
   c.dn DN_Poly_coefficient,
   c.dn DN_Poly_degree,
   c.dn DN_Poly_is_zero,
   c.dn DN_Poly_lead,
   c.dn DN_Poly_shifted,
   c.dn DN__coefs_over,
   c.dn DN__in_lowest_terms,
   c.dn DN__law_alike,
   c.dn DN__law_back,
   c.dn DN__law_bound,
   c.dn DN__law_cell,
   c.dn DN__law_digits,
   c.dn DN__law_draw,
   c.dn DN__law_is_whole,
   c.dn DN__law_minus,
   c.dn DN__law_move,
   c.dn DN__law_mul,
   c.dn DN__law_plus,
   c.dn DN__law_poly,
   c.dn DN__law_read,
   c.dn DN__law_refused,
   c.dn DN__law_scale,
   c.dn DN__law_shift,
   c.dn DN__law_sum,
   c.dn DN__law_times,
   c.dn DN__law_trim,
   c.dn DN_added,
   c.dn DN_common_factor,
   c.dn DN_degree_bound,
   c.dn DN_law,
   c.dn DN_shifted_coefs,
   c.dn DN_trimmed,
   excCB_ok (c.more 0),
   of_decide_eq_true (c.more 1),
   (He.meth_ok (c.fact 2)).fn,
   (He.meth_ok (c.fact 3)).fn,
   (He.meth_ok (c.fact 4)).fn,
   (He.meth_ok (c.fact 5)).fn,
   c.more 2,
   c.more 3,
   He.glo_ok X G (c.fact 6),
   He.glo_ok X G (c.fact 7),
   He.glo_ok X G (c.fact 8),
   He.glo_ok X G (c.fact 9),
   He.glo_ok X G (c.fact 10),
   He.glo_ok X G (c.fact 11),
   He.glo_ok X G (c.fact 12),
   He.glo_ok X G (c.fact 13),
   He.glo_ok X G (c.fact 14),
   He.glo_ok X G (c.fact 15),
   He.glo_ok X G (c.fact 16),
   He.glo_ok X G (c.fact 17),
   He.glo_ok X G (c.fact 18),
   He.glo_ok X G (c.fact 19),
   He.glo_ok X G (c.fact 20),
   He.glo_ok X G (c.fact 21),
   He.glo_ok X G (c.fact 22),
   He.glo_ok X G (c.fact 23),
   He.glo_ok X G (c.fact 24),
   He.glo_ok X G (c.fact 25),
   He.glo_ok X G (c.fact 26),
   He.glo_ok X G (c.fact 27),
   He.glo_ok X G (c.fact 28),
   He.glo_ok X G (c.fact 29),
   He.glo_ok X G (c.fact 30),
   He.glo_ok X G (c.fact 31),
   He.glo_ok X G (c.fact 32),
   He.glo_ok X G (c.fact 33),
   He.glo_ok X G (c.fact 34),
   PySem.W.mg_of X G (He.eqO_ok (c.more 4)),
   He.glo_ok X G (c.fact 35),
   PySem.W.mg_of X G (He.eqO_ok (c.more 5)),
   He.glo_ok X G (c.fact 36),
   He.glo_ok X G (c.fact 37),
   PySem.W.mg_of X G (He.eqO_ok (c.more 6)),
   (He.exc_ok (c.fact 38)).2.1,
   (He.exc_ok (c.fact 39)).2.1,
   of_decide_eq_true (c.more 7),
   of_decide_eq_true (c.more 8),
   He.meth_ok (c.fact 40),
   He.meth_ok (c.fact 41),
   He.meth_ok (c.fact 42),
   He.mkr_ok (c.fact 43),
   He.mkr_ok (c.fact 44),
   He.noat_ok (c.fact 45),
   He.noat_ok (c.fact 46),
   He.noat_ok (c.fact 47),
   He.noat_ok (c.fact 48),
   propB_ok (c.more 9),
   propB_ok (c.more 10),
   propB_ok (c.more 11),
   propB_ok (c.more 12),
   propB_ok (c.more 13),
   @fun X e => by subst e; exact raises_own (He.exc_ok (c.fact 38)).2.2.1 (He.exc_ok (c.fact 38)).2.2.2,
   @fun X e => by subst e; exact raises_own (He.exc_ok (c.fact 39)).2.2.1 (He.exc_ok (c.fact 39)).2.2.2,
   (He.meth_ok (c.fact 2)).at_,
   (He.meth_ok (c.fact 3)).at_,
   (He.meth_ok (c.fact 4)).at_,
   (He.meth_ok (c.fact 5)).at_,
   @fun H a dx fs e => .base (.ins e (He.cls_ok (c.fact 1)) (He.eqO_ok (c.more 14)) (He.eqO_ok (c.more 15)) (of_decide_eq_true (c.more 16)) (of_decide_eq_true (c.more 17))),
   (He.exc_ok (c.fact 38)).1,
   (He.exc_ok (c.fact 39)).1,
   He.free_ok X G (c.fact 49),
   He.free_ok X G (c.fact 50),
   He.free_ok X G (c.fact 51),
   He.free_ok X G (c.fact 52),
   He.free_ok X G (c.fact 53),
   He.free_ok X G (c.fact 54),
   He.free_ok X G (c.fact 55),
   He.free_ok X G (c.fact 56),
   He.free_ok X G (c.fact 57),
   He.free_ok X G (c.fact 58)⟩
end CB
open PySem PySem.W PyProof.Rows
set_option maxHeartbeats 0 in
theorem PySem.Challenge.cw_certsums_k41_degree_bound_holds : PySem.Challenge.rw_certsums_k41_degree_bound.Holds := by
  w_on; o_law
  o_head CB.hk2
  case hw => w_witness2
  refine L2.walk_ofE (l := PySem.Challenge.rw_certsums_k41_degree_bound) (n := 63) (k := 8) (x := "script") (CX := L2.CX0) rfl (by decide) (by kernel_rfl) ⟨rfl, by decide, by decide⟩ ?F (fun _ _ _ _ z => z)
  intro w mg fa h Y G hmg0
  obtain ⟨K, KX, c⟩ := Y
  have hmg : mg ("law" : PySem.Str) = some (.ref fa) := by
    have e : (HandSHeadRun.topDef CB.R.prog 51).name = ("law" : PySem.Str) := by kernel_rfl
    rw [← e]
    exact hmg0
  have T : CB.Tx K mg := CB.tx_of KX G c
  obtain ⟨fd, hb, hF⟩ := CB.whole (P := (PySem.Challenge.rw_certsums_k41_degree_bound).prog) (w := w) T
  cases (T.g_law.symm.trans hmg)
  exact ⟨K, fd, CB.spLaw K, KX, hb, fun H a ns hl _ hS => ⟨a, ns, rfl, hS, hl, fun _ => rfl⟩, fun base _ _ => hF base⟩
