import PyProof.Rows.All
import Wide.All
import OpenK.AllK
import Wide.FinOn
import KE.KStateDown
import KE.KMathGC
import KE.KOpsOwn
import Lean
import HandS.ForMost
import HandS.Exc
import HandS.ExcOwn
import HandS.ExcIs
import HandS.TryOnly
import HandS.WordsExc
import HandS.Defaults
import HandS.IsInst
import HandS.Wide
import HandS.WideBits
import HandS.Gcd
import HandS.Property
import HandS.OwnEq
import HandS.Flow
import HandS.Evl
import HandS.Head0
import HandS.Head1
import HandS.Head2
import HandS.Head3
import HandS.HeadEnd
import HandS.HeadHook1
import HandS.HeadHook2
import HandS.HeadHook3
import HandS.HeadHook4
import HandS.Iter
import HandS.TupAny
import HandS.List
import HandS.SortKw
import KE.DatumOrd
import HandS.Rev
import HandS.ClsMeth
import HandS.HeadNt
import KE.GoesEnumKw
import HandS.Deep
import HandS.Steps
import HandS.MakeKwOnly
import HandS.OwnEq
import HandS.Style
import PyProof.NeKinds
import HandS.SortInts
import HandS.ExcInit
import HandS.ExcField
import HandS.ExcIs
import KE.KExcSuper
import KE.KExcIs
import HandS.HotCalls
import HandS.ExcInitHot
import HandS.TupLe
import PySem.Challenge.RW_certsums_k69_closed_accepted
set_option Elab.async false
set_option linter.all false
set_option maxRecDepth 100000
set_option maxHeartbeats 4000000
namespace CB
open PySem PySem.Spec PyProof.Rows L2

/-! ### readings made simpler -/
/-! ### a value is never NotImplemented -/
theorem back_of {P : Value → Shared → Prop} {z : V} {v : Value} {s' : Shared} (r : RelV z v) (h : P v s') : PySem.W.CmpBack P v s' := by
  cases z with
  | non => cases r; exact h
  | bl _ => cases r; exact h
  | int _ => obtain ⟨t, rfl⟩ := r; exact h
  | str _ => obtain ⟨t, rfl⟩ := r; exact h
  | byt _ => obtain ⟨t, rfl⟩ := r; exact h
  | flt _ => obtain ⟨t, rfl⟩ := r; exact h
  | ref _ => cases r; exact h
  | ty _ => cases r; exact h

section
variable {X : Cx} {CX : CXT} {k : Nat} {f C : Addr} {fd : FuncData} {ps : List Str} {sp : Sp} {E : XK}

/-- x op y by the class's own method, both of the class -/
def rOwn2 (C : Addr) (sp : Sp) (E : XK) : R2 := fun x y H Q => ∃ a b dx dy fs gs, x = .ref a ∧ y = .ref b ∧ H a = some (.ins C dx fs) ∧ H b = some (.ins C dy gs) ∧ sp [.ref a, .ref b] H Q E
theorem op_own2 {op : Operator} (hc : PySem.W.selfFirst X.K C = true) (hs : PySem.W.findIn X.K (.ref C) (PySem.dunder op.info.2) = some (some (.ref f))) (hf : PySem.W.isFn X.K (.ref f) = true)
    (F : FnOk X.prog X.w X.K X.mg X.base CX k f fd ps sp) (hr : Room k X.A) (hb : Binds X.K fd ps []) (hx : Passes CX X E) : OpR X (binaryOp op) (rOwn2 C sp E) := by
  intro pins s σ H x y v u Q I rx ry h
  obtain ⟨a, b, dx, dy, fs, gs, rfl, rfl, ha, hb', hq⟩ := h
  cases rx
  cases ry
  obtain ⟨mA, J, _⟩ := ins_get I.hok ha
  obtain ⟨mB, J', _⟩ := ins_get I.hok hb'
  obtain ⟨od, J, _⟩ := J.look
  obtain ⟨od', J', _⟩ := J'.look
  obtain ⟨m, hF⟩ := I.fr
  refine PySem.W.binop_K hF I.ok.mod.kin J J'.type hc hs hf ?_
  refine thn (run_fn (us := [.ref a, .ref b]) (vs := [.ref a, .ref b]) F hr hb .nil hx I (.cons rfl (.cons rfl .nil)) hq) fun w s' h => ?_
  obtain ⟨z, H', I', r, q⟩ := h
  exact back_of r ⟨z, H', I', r, q⟩
/-- - x by the class's own method -/
def rOwn1 (C : Addr) (sp : Sp) (E : XK) : V → Hp → VK → Prop := fun x H Q => ∃ a dx fs, x = .ref a ∧ H a = some (.ins C dx fs) ∧ sp [.ref a] H Q E
theorem un_ownNeg (hs : PySem.W.findIn X.K (.ref C) "__neg__" = some (some (.ref f))) (hf : PySem.W.isFn X.K (.ref f) = true)
    (F : FnOk X.prog X.w X.K X.mg X.base CX k f fd ps sp) (hr : Room k X.A) (hb : Binds X.K fd ps []) (hx : Passes CX X E) : UnR X (unaryOp .USub) (rOwn1 C sp E) := by
  intro pins s σ H x v Q I rx h
  obtain ⟨a, dx, fs, rfl, ha, hq⟩ := h
  cases rx
  obtain ⟨mA, J, _⟩ := ins_get I.hok ha
  obtain ⟨od, J, _⟩ := J.look
  obtain ⟨m, hF⟩ := I.fr
  refine PySem.W.ksp_neg hF I.ok.mod.kin J hs hf ?_
  exact run_fn (us := [.ref a]) (vs := [.ref a]) F hr hb .nil hx I (.cons rfl .nil) hq
/-- the other side of an own ==: what it may be -/
inductive EqTy (K : PySem.W.Frag) (C : Addr) (H : Hp) : V → Prop where
  | int {i : Int} (h : PySem.W.notFirst K C (.type "int") = true) : EqTy K C H (.int i)
  | str {x : Str} (h : PySem.W.notFirst K C (.type "str") = true) : EqTy K C H (.str x)
  | tup {a : Addr} {xs : List V} (e : H a = some (.tup xs)) (h : PySem.W.notFirst K C (.type "tuple") = true) : EqTy K C H (.ref a)
  | lst {a : Addr} {xs : List V} (e : H a = some (.lst xs)) (h : PySem.W.notFirst K C (.type "list") = true) : EqTy K C H (.ref a)
  | own {a dy C' : Addr} {gs : List (Str × V)} (e : H a = some (.ins C' dy gs)) (h : PySem.W.notFirst K C (.ref C') = true) : EqTy K C H (.ref a)
theorem EqTy.look {pins : List (Addr × Obj)} {σ : L2.St} {H : Hp} {s : Shared} {y : V} {u : Value} (I : Inv X pins σ H s) (t : EqTy X.K C H y) (ry : RelV y u) :
    ∃ tb, PySem.W.Looks (model X.prog X.w) s.heap (typeOf u) tb ∧ PySem.W.notFirst X.K C tb = true := by
  cases t with
  | int h => obtain ⟨t, rfl⟩ := ry; exact ⟨_, PySem.W.Looks.of_pure rfl, h⟩
  | str h => obtain ⟨t, rfl⟩ := ry; exact ⟨_, PySem.W.Looks.of_pure rfl, h⟩
  | @tup a xs e h =>
    cases ry
    obtain ⟨_, its, r, o, e1, e2, _⟩ := (show ObjOk X.prog X.w H s.heap a (.tup xs) from I.hok a _ e)
    exact ⟨.type "tuple", fun A Q E s' k q => wpAny_typeOf_ref (k _ _ e1) (by rw [e2]; exact q), h⟩
  | @lst a xs e h =>
    cases ry
    obtain ⟨_, _, n, _, e1⟩ := (show ObjOk X.prog X.w H s.heap a (.lst xs) from I.hok a _ e)
    exact ⟨.type "list", fun A Q E s' k q => wpAny_typeOf_ref (k _ _ e1) q, h⟩
  | @own a dy C' gs e h =>
    cases ry
    obtain ⟨mB, J', _⟩ := ins_get I.hok e
    obtain ⟨od', J', _⟩ := J'.look
    exact ⟨_, J'.type, h⟩
def rOwnEq (K : PySem.W.Frag) (C : Addr) (sp : Sp) (E : XK) : R2 := fun x y H Q => ∃ a dx fs, x = .ref a ∧ H a = some (.ins C dx fs) ∧ EqTy K C H y ∧ sp [.ref a, y] H Q E
theorem op_ownEq (hs : PySem.W.findIn X.K (.ref C) "__eq__" = some (some (.ref f))) (hf : PySem.W.isFn X.K (.ref f) = true)
    (F : FnOk X.prog X.w X.K X.mg X.base CX k f fd ps sp) (hr : Room k X.A) (hb : Binds X.K fd ps []) (hx : Passes CX X E) : OpR X (compareOp .Eq) (rOwnEq X.K C sp E) := by
  intro pins s σ H x y v u Q I rx ry h
  obtain ⟨a, dx, fs, rfl, ha, ty, hq⟩ := h
  cases rx
  obtain ⟨mA, J, _⟩ := ins_get I.hok ha
  obtain ⟨od, J, _⟩ := J.look
  obtain ⟨m, hF⟩ := I.fr
  obtain ⟨tb, hl, hn⟩ := ty.look I ry
  show wpAny (model X.prog X.w) X.A (richCompare .Eq (.ref a) u) (EP X pins σ Q) X.xe s
  refine PySem.W.cmp_K (op := .Eq) hr.units0 hF I.ok.mod.kin J hl hn hs hf ?_
  refine thn (run_fn (us := [.ref a, u]) (vs := [.ref a, y]) F hr hb .nil hx I (.cons rfl (.cons ry .nil)) hq) fun w s' h => ?_
  obtain ⟨z, H', I', r, q⟩ := h
  exact back_of r ⟨z, H', I', r, q⟩
end

/-! ### whole numbers -/
/-- // by a divisor of any sign below 2 ^ 9000 -/
def CDivZ (_ j : Int) : Prop := j ≠ 0 ∧ j.natAbs.log2 < 9000
section
variable {X : Cx}
theorem op_fdivZ : OpR X (binaryOp .FloorDiv) (rI CDivZ fun i j => .int (i.fdiv j)) := opI fun i j _ _ _ _ _ hc q =>
  floordiv_int hc.1 q (.inl (PyProof.noPylong_of_log2 hc.2))
end

/-! ### small words -/
theorem iteK {c : Bool} {A B : Prop} (h : c = true) (a : A) : if c = true then A else B := by rw [h]; exact iteT a
theorem iteN {c : Bool} {A B : Prop} (h : c = false) (b : B) : if c = true then A else B := by rw [h]; exact iteF b
theorem iteB {c : Bool} {A B : Prop} (h1 : c = true → A) (h2 : c = false → B) : if c = true then A else B := by
  cases c with
  | true => exact iteT (h1 rfl)
  | false => exact iteF (h2 rfl)
theorem iteD {p : Prop} [Decidable p] {A B : Prop} (h1 : p → A) (h2 : ¬ p → B) : if decide p = true then A else B := by
  by_cases h : p
  · rw [decide_eq_true h]; exact iteT (h1 h)
  · rw [decide_eq_false h]; exact iteF (h2 h)
theorem iteDN {p : Prop} [Decidable p] {A B : Prop} (h1 : ¬ p → A) (h2 : p → B) : if (!decide p) = true then A else B := by
  by_cases h : p
  · rw [decide_eq_true h]; exact iteF (h2 h)
  · rw [decide_eq_false h]; exact iteT (h1 h)
theorem iteEq {i j : Int} {A B : Prop} (h1 : i = j → A) (h2 : i ≠ j → B) : if decide (V.int i = V.int j) = true then A else B :=
  iteD (fun h => h1 (V.int.inj h)) fun h => h2 fun e => h (by rw [e])
theorem iteEqN {i j : Int} {A B : Prop} (h1 : i ≠ j → A) (h2 : i = j → B) : if (!decide (V.int i = V.int j)) = true then A else B :=
  iteDN (fun h => h1 fun e => h (by rw [e])) fun h => h2 (V.int.inj h)
/-- both ways go on alike: the second way shown first -/
theorem iteShare {c : Bool} {A B : Prop} (hb : B) (ha : c = true → B → A) : if c = true then A else B := by
  cases c with
  | true => exact iteT (ha rfl hb)
  | false => exact iteF hb
theorem unF {A B : Prop} (h : if false = true then A else B) : B := by
  rw [if_neg Bool.false_ne_true] at h
  exact h
theorem sm_tup {K : PySem.W.Frag} {H H' : Hp} {a : Addr} {xs : List V} (sm : Same H H') (h : SqT K H a xs) : SqT K H' a xs := by
  rcases h with (h | ⟨o, h⟩) | h
  · exact .inl (.inl (sm _ _ h))
  · exact .inl (.inr ⟨o, sm _ _ h⟩)
  · exact .inr h
theorem kit_same {K : PySem.W.Frag} (t : Value) : PySem.W.kitOne K t t = some true := by
  unfold PySem.W.kitOne
  rw [if_pos (by simp)]
theorem sm_new {H : Hp} {p : Addr} {o : HO} (h : H p = none) : Same H (upd H p o) := fun b x e => by
  rw [upd_ne (ne_of_none e h)]
  exact e
/-- x = e, e a whole number: behind it the number has a name -/
def tAsgI (te : TE) (i : Nat) : TS := fun D σ H => te σ H fun v H1 => ∃ m : Int, v = .int m ∧ ∀ n : Int, n = m → D.nx (σ.set i (some (.int n))) H1
theorem ps_setI {X : Cx} {i : Nat} {x : Str} {e : Expr} {te : TE} {pos pos' : Pos} (hN : X.N.Nodup) (hi : X.N[i]? = some x) (hx : Loc X.env.scope x) (he : PE X e te) (hs : swapsWith e (some (.Name x pos')) pos.line X.env = pure false := by rfl)
    (hf : X.fn x = true ∨ X.env.scope.names.lookup x = some .local := by first | exact .inl rfl | exact .inr rfl | assumption) : PS X (.Assign [.Name x pos'] e pos) (tAsgI te i) := by
  refine ⟨fun pins s σ H D I h => ?_⟩
  refine wpAny_Assign_Name (thn (he.run pins s σ H _ I h) fun v s1 h1 => ?_) hs
  obtain ⟨y, H1, I1, r1, m, rfl, q1⟩ := h1
  exact store_ok I1 hN hi hx r1 (fun s2 I2 => ⟨_, H1, I2, q1 m rfl⟩) hf

/-! ### defs by where they stand -/
abbrev FnW : Type := He.FnW
/-- one def of the text: where it stands (an address by the written part), its row's parts, its defaults -/
structure DefG where
  at_ : PySem.W.Frag → Addr
  name : Str
  qual : Str
  params : Arguments
  body : List Stmt
  scope : Scope
  dfl : List He.Dv := []
def fnG (K : PySem.W.Frag) (a : Addr) : FnW := match K.lookup a with
  | some ⟨_, _, .func fd, _⟩ => some (fd.name, fd.qualname, fd.params, fd.body, fd.scope, fd.globals, fd.closure, fd.builtins)
  | _ => none
def DefG.val (d : DefG) : FnW := some (d.name, d.qual, d.params, .stmts d.body, d.scope, mainGlobals, [], builtinsNs)
def DefG.dvs (K : PySem.W.Frag) (d : DefG) : List V := d.dfl.map (He.Dv.v K)
def DefG.ok (K : PySem.W.Frag) (d : DefG) : Bool := PySem.W.keepIn K (.ref (d.at_ K)) && (match K.lookup (d.at_ K) with
  | some ⟨_, _, .func fd, _⟩ => PySem.W.codeIn K fd.code d.qual && He.dflB K fd.defaults (d.dvs K)
  | _ => false)
/-- a def of the text, by its datum -/
def Dn (K : PySem.W.Frag) (d : DefG) : Prop := ∃ fd, FunD K d.name d.qual d.params d.body d.scope (d.dvs K) [] (d.at_ K) fd
theorem DefG.funD {K : PySem.W.Frag} {d : DefG} (e : fnG K (d.at_ K) = d.val) (c : d.ok K = true) : Dn K d := by
  obtain ⟨kp, c2⟩ := He.ba c
  unfold fnG at e
  cases q : K.lookup (d.at_ K) with
  | none =>
    rw [q] at c2
    cases c2
  | some o =>
    obtain ⟨oc, od, dt, osl⟩ := o
    rw [q] at c2 e
    cases dt with
    | func fd =>
      obtain ⟨n1, n2, n3, n4, n5, n6, n7, n8, n9, n10, n11, n12, n13, n14, n15⟩ := fd
      have e2 : (some (n1, n2, n3, n4, n5, n6, n7, n15) : FnW) = some (d.name, d.qual, d.params, .stmts d.body, d.scope, mainGlobals, [], builtinsNs) := e
      simp only [Option.some.injEq, Prod.mk.injEq] at e2
      obtain ⟨h1, h2, h3, h4, h5, h6, h7, h8⟩ := e2
      subst h1 h2 h3 h4 h5 h6 h7 h8
      have c3 : (PySem.W.codeIn K n13 d.qual && He.dflB K n8 (d.dvs K)) = true := c2
      obtain ⟨k1, k2⟩ := He.ba c3
      exact ⟨_, ⟨oc, od, n8, n9, n10, n11, n12, n13, n14, osl, rfl, q, k1, He.dflB_ok k2, .inl rfl⟩, kp⟩
    | _ => cases c2

/-! ### the shape of a def's promise: what a caller needs of the def at a -/
/-- the def at a is known by its promise (level k, parameters ps) -/
def OkF (P : Program) (w : World) (K : PySem.W.Frag) (mg : Str → Option Value) (base : Heap) (k : Nat) (a : Addr) (ps : List Str) (sp : Sp) : Prop :=
  ∃ fd : FuncData, FnOk P w K mg base (L2.CX P w) k a fd ps sp ∧ Binds K fd ps [] ∧ PySem.W.keepIn K (.ref a) = true
theorem okF_of {P : Program} {w : World} {K : PySem.W.Frag} {mg : Str → Option Value} {base : Heap} {k : Nat} {d : DefG} {N ps : List Str} {sp : Sp} (D : Dn K d) (hd : d.dfl = []) (S : FnScope N ps d.scope)
    (hb : ∀ (kV doc pm : Value) (an : Option Addr) (cdv ct : Value) (us : List Value), us.length = ps.length → bindArgs (PySem.W.fnOf d.name d.qual d.params d.body d.scope .none kV doc pm an cdv ct) ⟨us, []⟩ = pure (ps.zip us))
    (len : ∀ vs H Q E, sp vs H Q E → vs.length = ps.length)
    (hbody : ∀ (cdv : Value) (A : Around) (outer : List Env) (s : Shared) (H : Hp) (vs : List V) (Q : VK) (E : XK), Room k (A.deeper (envOfC d.qual d.scope s.heap.objs.size (d.at_ K) cdv)) → sp vs H Q E →
      ∃ t, PSs (cxOf (L2.CX P w) P w K mg base N d.qual d.scope (d.at_ K) cdv A outer s H E) d.body t ∧ t { nx := fun _ H' => Q .non H', rt := Q } (start N vs) H) :
    OkF P w K mg base (k + 1) (d.at_ K) ps sp := by
  obtain ⟨fd, F⟩ := D
  have e1 : d.dvs K = [] := by unfold DefG.dvs; rw [hd]; rfl
  rw [e1] at F
  exact ⟨fd, F.ok S len hbody, F.bindsN hb, F.kp⟩
/-- the same of a def with one default, of which all values or all but the last are written -/
def OkD (P : Program) (w : World) (K : PySem.W.Frag) (mg : Str → Option Value) (base : Heap) (k : Nat) (a : Addr) (ps : List Str) (dv : V) (sp : Sp) : Prop :=
  ∃ fd : FuncData, FnOk P w K mg base (L2.CX P w) k a fd ps sp ∧ Binds K fd ps [] ∧ (∃ ds, Vals [dv] ds ∧ Binds K fd ps ds) ∧ PySem.W.keepIn K (.ref a) = true
theorem okD_of {P : Program} {w : World} {K : PySem.W.Frag} {mg : Str → Option Value} {base : Heap} {k : Nat} {d : DefG} {N ps : List Str} {sp : Sp} {dv : He.Dv} (D : Dn K d) (hd : d.dfl = [dv]) (S : FnScope N ps d.scope)
    (hb0 : ∀ (T : Addr) (kV doc pm : Value) (an : Option Addr) (cdv ct : Value) (us its : List Value), us.length = ps.length → its.length = 1 →
      ∃ k, bindArgs (PySem.W.fnOf d.name d.qual d.params d.body d.scope (.ref T) kV doc pm an cdv ct) ⟨us, []⟩ = seqItems? (.ref T) >>= k ∧ k (some its.toArray) = pure (ps.zip (us ++ its.drop 1)))
    (hb1 : ∀ (T : Addr) (kV doc pm : Value) (an : Option Addr) (cdv ct : Value) (us its : List Value), us.length = ps.length - 1 → its.length = 1 →
      ∃ k, bindArgs (PySem.W.fnOf d.name d.qual d.params d.body d.scope (.ref T) kV doc pm an cdv ct) ⟨us, []⟩ = seqItems? (.ref T) >>= k ∧ k (some its.toArray) = pure (ps.zip (us ++ its.drop 0)))
    (hp : 0 < ps.length) (len : ∀ vs H Q E, sp vs H Q E → vs.length = ps.length)
    (hbody : ∀ (cdv : Value) (A : Around) (outer : List Env) (s : Shared) (H : Hp) (vs : List V) (Q : VK) (E : XK), Room k (A.deeper (envOfC d.qual d.scope s.heap.objs.size (d.at_ K) cdv)) → sp vs H Q E →
      ∃ t, PSs (cxOf (L2.CX P w) P w K mg base N d.qual d.scope (d.at_ K) cdv A outer s H E) d.body t ∧ t { nx := fun _ H' => Q .non H', rt := Q } (start N vs) H) :
    OkD P w K mg base (k + 1) (d.at_ K) ps (dv.v K) sp := by
  obtain ⟨fd, F⟩ := D
  have e1 : d.dvs K = [dv.v K] := by unfold DefG.dvs; rw [hd]; rfl
  rw [e1] at F
  obtain ⟨ds0, v0, b0⟩ := FunD.binds1 (ps := ps) F ps.length 1 (by simp) (by simp) fun T kV doc pm an cdv ct us its h1 h2 => hb0 T kV doc pm an cdv ct us its h1 (by simpa using h2)
  obtain ⟨ds1, v1, b1⟩ := FunD.binds1 (ps := ps) F (ps.length - 1) 0 (by simp) (by simp; omega) fun T kV doc pm an cdv ct us its h1 h2 => hb1 T kV doc pm an cdv ct us its h1 (by simpa using h2)
  have z : ds0 = [] := by
    have := v0.length
    simp at this
    exact List.eq_nil_of_length_eq_zero this.symm
  subst z
  exact ⟨fd, F.ok S len hbody, b0, ⟨ds1, v1, b1⟩, F.kp⟩

/-- the law's own def: no exception leaves it -/
theorem okLaw_of {P : Program} {w : World} {K : PySem.W.Frag} {mg : Str → Option Value} {k : Nat} {d : DefG} {N : List Str} {sp : Sp} (D : Dn K d) (hd : d.dfl = []) (S : FnScope N ["script"] d.scope)
    (hb : ∀ (kV doc pm : Value) (an : Option Addr) (cdv ct : Value) (us : List Value), us.length = 1 → bindArgs (PySem.W.fnOf d.name d.qual d.params d.body d.scope .none kV doc pm an cdv ct) ⟨us, []⟩ = pure ((["script"] : List Str).zip us))
    (len : ∀ vs H Q E, sp vs H Q E → vs.length = 1)
    (hbody : ∀ (base : Heap) (cdv : Value) (A : Around) (outer : List Env) (s : Shared) (H : Hp) (vs : List V) (Q : VK) (E : XK), Room k (A.deeper (envOfC d.qual d.scope s.heap.objs.size (d.at_ K) cdv)) → sp vs H Q E →
      ∃ t, PSs (cxOf CX0 P w K mg base N d.qual d.scope (d.at_ K) cdv A outer s H E) d.body t ∧ t { nx := fun _ H' => Q .non H', rt := Q } (start N vs) H) :
    ∃ fd : FuncData, (∀ (s : Shared) (v : Value), BindsTo s fd ⟨[v], []⟩ [("script", v)]) ∧ ∀ base : Heap, FnOk P w K mg base CX0 (k + 1) (d.at_ K) fd ["script"] sp := by
  obtain ⟨fd, F⟩ := D
  have e1 : d.dvs K = [] := by unfold DefG.dvs; rw [hd]; rfl
  rw [e1] at F
  exact ⟨fd, fun s v => FunD.bindsA (ps := ["script"]) F hb s [v] rfl, fun base => F.ok S len (hbody base)⟩
/-- what a law promises: True, of every script -/
def spLaw (K : PySem.W.Frag) : Sp := fun vs H Q _ => ∃ (a : Addr) (ns : List Int), vs = [.ref a] ∧ SqL K H a (ns.map V.int) ∧ ns.length ≤ 63 ∧ ∀ H', Q (.bl true) H'

/-! ### the head's facts by a Hook of our own: defs at any address -/
/-- the getter of a property of a class -/
def prAd (K : PySem.W.Frag) (C : Addr) (x : Str) : Addr := match PySem.W.findIn K (.ref C) x with
  | some (some (.ref p)) => p
  | _ => 0
def gtAd (K : PySem.W.Frag) (C : Addr) (x : Str) : Addr := match PySem.W.recIn K (prAd K C x) "property" with
  | some (.ref g :: _) => g
  | _ => 0
def propB (K : PySem.W.Frag) (C : Addr) (x : Str) : Bool :=
  He.eqO (PySem.W.findIn K (.ref C) x) (some (some (.ref (prAd K C x)))) && (He.eqO (PySem.W.specialIn K (.ref (prAd K C x)) "__get__") (some (some (.builtin "property.__get__"))) && (decide (PySem.W.takesIn K (.ref (prAd K C x)) = some true) &&
    (match PySem.W.recIn K (prAd K C x) "property" with
      | some (.ref _ :: _) => true
      | _ => false)))
theorem propB_ok {K : PySem.W.Frag} {C : Addr} {x : Str} (h : propB K C x = true) : PropOf K C x (prAd K C x) (gtAd K C x) := by
  obtain ⟨h1, h⟩ := He.ba h
  obtain ⟨h2, h⟩ := He.ba h
  obtain ⟨h3, h4⟩ := He.ba h
  refine ⟨He.eqO_ok h1, He.eqO_ok h2, of_decide_eq_true h3, ?_⟩
  unfold gtAd
  cases q : PySem.W.recIn K (prAd K C x) "property" with
  | none => rw [q] at h4; cases h4
  | some l =>
    rw [q] at h4
    cases l with
    | nil => cases h4
    | cons v r =>
      cases v with
      | ref g => exact ⟨r, rfl⟩
      | _ => cases h4
abbrev AlG : Type := Bool × List FnW
def obsG (fa : List He.Fa) (fn : List DefG) (ex : PySem.W.Frag → List Bool) (K : PySem.W.Frag) : AlG := ((fa.all fun f => f.ok K) && ((fn.all fun d => d.ok K) && (ex K).all id), fn.map fun d => fnG K (d.at_ K))
def valG (fn : List DefG) : AlG := (true, fn.map DefG.val)
def SaysG (fa : List He.Fa) (fn : List DefG) (ex : PySem.W.Frag → List Bool) (K : PySem.W.Frag) : Prop := obsG fa fn ex K = valG fn
def obsGG (n : Nat) (fa : List He.Fa) (fn : List DefG) (ex : PySem.W.Frag → List Bool) (g : Addr → Option Obj) : AlG := obsG fa fn ex (He.frG g (He.asD g n ++ [PySem.cStatics]))
def hookG (n : Nat) (fa : List He.Fa) (fn : List DefG) (ex : PySem.W.Frag → List Bool) : PySem.W.Hook where
  α := AlG
  obs := fun s => obsGG n fa fn ex s.heap.get?
  val := fun _ => valG fn
  says := fun _ h => ∃ K : PySem.W.Frag, K.In h ∧ SaysG fa fn ex K
  of := fun _ _ e => ⟨_, He.frG_in, e⟩
  keeps := fun _ _ _ ⟨K, hK, c⟩ k => ⟨K, PySem.W.Frag.In.keeps hK k, c⟩
section
variable {fa : List He.Fa} {fn : List DefG} {ex : PySem.W.Frag → List Bool} {K : PySem.W.Frag}
theorem SaysG.fact (c : SaysG fa fn ex K) (i : Nat) {f : He.Fa} (h : fa[i]? = some f := by rfl) : f.ok K = true := by
  have c1 := (He.ba (show ((fa.all fun f => f.ok K) && ((fn.all fun d => d.ok K) && (ex K).all id)) = true from congrArg (fun z : AlG => z.1) c)).1
  exact List.all_eq_true.mp c1 f (List.mem_of_getElem? h)
theorem SaysG.more (c : SaysG fa fn ex K) (i : Nat) {b : Bool} (h : (ex K)[i]? = some b := by rfl) : b = true := by
  have c1 := (He.ba (He.ba (show ((fa.all fun f => f.ok K) && ((fn.all fun d => d.ok K) && (ex K).all id)) = true from congrArg (fun z : AlG => z.1) c)).2).2
  exact List.all_eq_true.mp c1 b (List.mem_of_getElem? h)
theorem SaysG.dn (c : SaysG fa fn ex K) (i : Nat) {d : DefG} (h : fn[i]? = some d := by rfl) : Dn K d := by
  have c2 := (He.ba (He.ba (show ((fa.all fun f => f.ok K) && ((fn.all fun d => d.ok K) && (ex K).all id)) = true from congrArg (fun z : AlG => z.1) c)).2).1
  have e : fn.map (fun d => fnG K (d.at_ K)) = fn.map DefG.val := congrArg (fun z : AlG => z.2) c
  have e2 : (fn.map fun d => fnG K (d.at_ K))[i]? = (fn.map DefG.val)[i]? := by rw [e]
  rw [List.getElem?_map, List.getElem?_map, h] at e2
  exact DefG.funD (Option.some.inj e2) (List.all_eq_true.mp c2 d (List.mem_of_getElem? h))
end

/-! ### sizes -/
theorem abs_lt_mul {i j : Int} {a b : Nat} (ha : i.natAbs < 2 ^ a) (hb : j.natAbs < 2 ^ b) : (i * j).natAbs < 2 ^ (a + b) := wide_lt ha hb
theorem abs_lt_add {i j : Int} {a : Nat} (ha : i.natAbs < 2 ^ a) (hb : j.natAbs < 2 ^ a) : (i + j).natAbs < 2 ^ (a + 1) := by
  have := Int.natAbs_add_le i j
  rw [Nat.pow_succ]; omega
theorem abs_mono {i : Int} {a b : Nat} (h : i.natAbs < 2 ^ a) (hab : a ≤ b) : i.natAbs < 2 ^ b := Nat.lt_of_lt_of_le h (Nat.pow_le_pow_right (by decide) hab)
theorem sz_add {i j : Int} {a b : Nat} (ha : i.natAbs < 2 ^ a) (hb : j.natAbs < 2 ^ b) : (i + j).natAbs < 2 ^ (max a b + 1) :=
  abs_lt_add (abs_mono ha (Nat.le_max_left _ _)) (abs_mono hb (Nat.le_max_right _ _))
theorem sz_neg {i : Int} {a : Nat} (ha : i.natAbs < 2 ^ a) : (-i).natAbs < 2 ^ a := by rw [Int.natAbs_neg]; exact ha
theorem sz_sub {i j : Int} {a b : Nat} (ha : i.natAbs < 2 ^ a) (hb : j.natAbs < 2 ^ b) : (i - j).natAbs < 2 ^ (max a b + 1) := by
  rw [Int.sub_eq_add_neg]; exact sz_add ha (sz_neg hb)
theorem mulW {i j : Int} {a b : Nat} (ha : i.natAbs < 2 ^ a) (hb : j.natAbs < 2 ^ b) (h : a + b + 2 ≤ 1000000) : CMulW i j := wide_mul (a := a + 1) (b := b + 1) (abs_mono ha (by omega)) (abs_mono hb (by omega)) (by omega) (by omega) (by omega)
theorem divW {i j : Int} {b : Nat} (h : 0 < j) (hb : j.natAbs < 2 ^ b) (h9 : b ≤ 8000) : CDivW i j := wide_div (b := b + 1) h (abs_mono hb (by omega)) (by omega) (by omega)
theorem divZ {i j : Int} {b : Nat} (h : j ≠ 0) (hb : j.natAbs < 2 ^ b) (h9 : b ≤ 8000) : CDivZ i j := ⟨h, Nat.lt_of_lt_of_le (PySem.Flt.log2_lt_of (k := b + 1) (by omega) (abs_mono hb (by omega))) (by omega)⟩

/-! ### a new instance, its __init__'s promise taken in another form -/
section
variable {X : Cx} {CX : CXT} {k : Nat} {f C : Addr} {fd : FuncData} {ps : List Str} {sp : Sp} {dvs : List V} {ds : List Value} {E : XK} {x : Str} {p pos : Pos} {e : Expr} {es : List Expr} {t : TA} {B : List V → Hp → VK → Prop}
def tMk (B : List V → Hp → VK → Prop) (t : TA) : TE := fun σ H Q => t σ H fun vs H1 => B vs H1 Q
theorem pe_makeI (M : Mk X.K C f) (F : FnOk X.prog X.w X.K X.mg X.base CX k f fd ps sp) (hr : Room (k + 1) X.A) (hg : Gl X x) (hm : X.mg x = some (.ref C)) (hb : Binds X.K fd ps ds) (hd : Vals dvs ds) (hx : Passes CX X E)
    (conv : ∀ vs H1 Q, B vs H1 Q → ∀ x dx, H1 x = none → H1 dx = none → dx ≠ x → sp (.ref x :: (vs ++ dvs)) (upd (upd H1 dx (.own x)) x (.ins C dx [])) (fun v H2 => v = .non ∧ Q (.ref x) H2) E)
    (ha : PA X (e :: es) t) (hdb : (x == ("__debug__" : Str)) = false := by decide) (he : starEach (e :: es) X.env = (false, eval e X.env) :: starEach es X.env := by rfl) (hpl : (backTo pos (starEach es X.env)).any (·.1) = false := by rfl) :
    PE X (.Call (.Name x p) (e :: es) [] pos) (tMk B t) := by
  refine ⟨fun pins s σ H Q I h => ?_⟩
  refine wpAny_Call_Name_kw (ld_glob I hg hm ?_ hdb)
  refine PySem.W.callWith_K (h₀ := X.base) I.ok.mod.kin M.kp (thn (ha.run pos pins s σ H _ I h) fun us s1 hh => ?_) he hpl
  obtain ⟨vs, H1, I1, r, q⟩ := hh
  exact ⟨I1.kIn, run_make M F hr hb hd hx I1 r (conv vs H1 Q q)⟩
/-- .. in a try's body: what is wished of an exception knows the slots -/
theorem run_makeS {pins : List (Addr × Obj)} {σ : L2.St} {H : Hp} {s : Shared} {Q : VK} {us : List Value} {vs : List V} {E : L2.St → XK} (M : Mk X.K C f) (F : FnOk X.prog X.w X.K X.mg X.base CX k f fd ps sp) (hr : Room (k + 1) X.A) (hb : Binds X.K fd ps ds) (hd : Vals dvs ds)
    (hx : PassesAt CX X σ (E σ)) (I : Inv X pins σ H s) (r : Vals vs us)
    (h : ∀ x dx, H x = none → H dx = none → dx ≠ x → sp (.ref x :: (vs ++ dvs)) (upd (upd H dx (.own x)) x (.ins C dx [])) (fun v H2 => v = .non ∧ Q (.ref x) H2) (E σ)) :
    wpAny (model X.prog X.w) X.A (call (.ref C) us) (EP X pins σ Q) X.xe s := by
  have hq := h (s.heap.objs.size + 1) s.heap.objs.size (I.hok.fresh (Nat.le_succ _)) (I.hok.fresh (Nat.le_refl _)) (Nat.ne_of_lt (Nat.lt_succ_self _))
  have I2 := Inv.made (C := C) I
  have r2 : Vals (V.ref (s.heap.objs.size + 1) :: (vs ++ dvs)) (Value.ref (s.heap.objs.size + 1) :: (us ++ ds)) := .cons rfl (r.append hd)
  have hl : (Value.ref (s.heap.objs.size + 1) :: us ++ ds).length = ps.length := by
    have e := r2.length
    rw [F.len _ _ _ _ hq] at e
    exact e.symm
  refine wpAny_call (make_map (f := f) I.kIn M.makes M.init (beq_iff_eq.mp M.fn) (codeAny_mono (F.run _ X.stack _ _ ⟨Value.ref (s.heap.objs.size + 1) :: us, []⟩ (Value.ref (s.heap.objs.size + 1) :: (us ++ ds)) _ _ (E σ) (hr.make C us [])
    (I2.env0.make C us []) (hb _ (Value.ref (s.heap.objs.size + 1) :: us) I2.kIn hl) r2 hq) fun r s' hq' => ?_))
  cases r with
  | error e => exact hx pins _ _ e s' I2 hq'
  | ok fl =>
    cases fl with
    | ret u =>
      obtain ⟨v, H', I3, rv, ev, q3⟩ := I2.after hq'
      subst ev
      exact ⟨rv, ⟨V.ref (s.heap.objs.size + 1), H', I3, rfl, q3⟩⟩
    | next => exact False.elim hq'
    | brk => exact False.elim hq'
    | cont => exact False.elim hq'
def tMkS (B : L2.St → List V → Hp → VK → Prop) (t : TA) : TE := fun σ H Q => t σ H fun vs H1 => B σ vs H1 Q
theorem pe_makeIS {E : L2.St → XK} {B : L2.St → List V → Hp → VK → Prop} (M : Mk X.K C f) (F : FnOk X.prog X.w X.K X.mg X.base CX k f fd ps sp) (hr : Room (k + 1) X.A) (hg : Gl X x) (hm : X.mg x = some (.ref C)) (hb : Binds X.K fd ps ds) (hd : Vals dvs ds) (hx : ∀ σ, PassesAt CX X σ (E σ))
    (conv : ∀ σ vs H1 Q, B σ vs H1 Q → ∀ x dx, H1 x = none → H1 dx = none → dx ≠ x → sp (.ref x :: (vs ++ dvs)) (upd (upd H1 dx (.own x)) x (.ins C dx [])) (fun v H2 => v = .non ∧ Q (.ref x) H2) (E σ))
    (ha : PA X (e :: es) t) (hdb : (x == ("__debug__" : Str)) = false := by decide) (he : starEach (e :: es) X.env = (false, eval e X.env) :: starEach es X.env := by rfl) (hpl : (backTo pos (starEach es X.env)).any (·.1) = false := by rfl) :
    PE X (.Call (.Name x p) (e :: es) [] pos) (tMkS B t) := by
  refine ⟨fun pins s σ H Q I h => ?_⟩
  refine wpAny_Call_Name_kw (ld_glob I hg hm ?_ hdb)
  refine PySem.W.callWith_K (h₀ := X.base) I.ok.mod.kin M.kp (thn (ha.run pos pins s σ H _ I h) fun us s1 hh => ?_) he hpl
  obtain ⟨vs, H1, I1, r, q⟩ := hh
  exact ⟨I1.kIn, run_makeS M F hr hb hd (hx σ) I1 r (conv σ vs H1 Q q)⟩
end
/-- what a new instance's heap keeps -/
theorem same_made {H : Hp} {p dp C : Addr} {o : HO} (np : H p = none) (nd : H dp = none) (h : dp ≠ p) : Same H (upd (upd (upd H dp (.own p)) p (.ins C dp [])) p o) := fun b x e => by
  rw [upd_ne (ne_of_none e np), upd_ne (ne_of_none e np), upd_ne (ne_of_none e nd)]
  exact e
/-! ### caught errors -/
def excCB (K : PySem.W.Frag) (D : Addr) : Bool :=
  He.eqO (PySem.W.findIn K (.ref D) "__getattribute__") (some (some (.builtin "BaseException.__getattribute__"))) && (He.eqO (PySem.W.findIn K (.ref D) "__getattr__") (some none) && (decide (PySem.W.subIn K (.ref D) (.type "BaseException") = some true) &&
    (PySem.W.hasDictIn K D && (He.eqO (PySem.W.findIn K (.ref D) "__class__") (some (some (.builtin "object.__class__"))) && (He.eqO (PySem.W.specialIn K (.builtin "object.__class__") "__get__") (some (some (.builtin "getset_descriptor.__get__"))) &&
      (decide (PySem.W.takesIn K (.builtin "object.__class__") = some true) && decide (PySem.W.mroIn K D (.type "object") = some true)))))))
/-! ### o.m(e, ..) in a try's body: what is wished of an exception knows the slots -/
def tMethE (C : Addr) (m : Str) (sp : Sp) (E : L2.St → XK) (ta : TE) (t : TA) : TE := fun σ H Q => ta σ H fun x H1 => ∃ a dx fs, x = .ref a ∧ H1 a = some (.ins C dx fs) ∧ fs.lookup m = none ∧
  t σ H1 fun vs H2 => sp (x :: vs) H2 Q (E σ)
section
variable {X : Cx} {CX : CXT} {k : Nat} {f C : Addr} {fd : FuncData} {ps : List Str} {sp : Sp} {x m : Str} {p pos apos : Pos} {e o : Expr} {es : List Expr} {ta : TE} {t : TA} {E : L2.St → XK}
end
theorem get_map {ns : List Int} {i : Nat} (h : i < ns.length) : ∃ x, ns[i]? = some x ∧ (ns.map V.int)[i]? = some (.int x) :=
  ⟨ns[i], List.getElem?_eq_getElem h, by rw [List.getElem?_map, List.getElem?_eq_getElem h]; rfl⟩
theorem len_map {ns : List Int} : (ns.map V.int).length = ns.length := List.length_map ..
theorem map_at {ns : List Int} {i : Nat} {x : Int} (h : ns[i]? = some x) : (ns.map V.int)[i]? = some (.int x) := by rw [List.getElem?_map, h]; rfl
theorem cut_lo {xs : List V} {m : Nat} (h : m ≤ xs.length) : cutV xs none (some (m : Int)) = xs.take m := by
  have e : HT.sIx xs.length xs.length (some (m : Int)) = m := by rw [HT.sIx_nat]; omega
  simp [cutV, e, HT.sIx_none]
/-- within a comprehension: the written part said -/
theorem pe_fldK {X : Cx} {K : PySem.W.Frag} {o : Expr} {ta : TE} {f : Str} {pos : Pos} (hK : X.K = K) (h : PE X (.Attribute o f pos) (tFld X.K ta f)) : PE X (.Attribute o f pos) (tFld K ta f) := by
  subst hK
  exact h
end CB

namespace CB
/-- a / b is n / d in lowest terms, with a positive denominator -/
structure Fq (n d a b : Int) : Prop where
  eq : a * d = n * b
  pos : 0 < b
  cop : Nat.gcd a.natAbs b.natAbs = 1

theorem dvd_of_cop {a b c : Int} (h : b ∣ a * c) (g : Nat.gcd a.natAbs b.natAbs = 1) : b ∣ c := by
  have h1 : b.natAbs ∣ a.natAbs * c.natAbs := by rw [← Int.natAbs_mul]; exact Int.natAbs_dvd_natAbs.mpr h
  have h2 : Nat.Coprime b.natAbs a.natAbs := by rw [Nat.coprime_iff_gcd_eq_one, Nat.gcd_comm]; exact g
  exact Int.natAbs_dvd_natAbs.mp (h2.dvd_of_dvd_mul_left h1)
theorem Fq.den_dvd {n d a b : Int} (f : Fq n d a b) : b ∣ d := dvd_of_cop ⟨n, by have := f.eq; grind⟩ f.cop
theorem Fq.num_dvd {n d a b : Int} (f : Fq n d a b) : a ∣ n := by
  have h : a ∣ b * n := ⟨d, by have := f.eq; grind⟩
  exact dvd_of_cop h (by rw [Nat.gcd_comm]; exact f.cop)
theorem natAbs_le_of_dvd {a b : Int} (h : a ∣ b) (hb : b ≠ 0) : a.natAbs ≤ b.natAbs := Nat.le_of_dvd (by omega) (Int.natAbs_dvd_natAbs.mpr h)
theorem Fq.den_le {n d a b : Int} (f : Fq n d a b) (hd : d ≠ 0) : b.natAbs ≤ d.natAbs := natAbs_le_of_dvd f.den_dvd hd
theorem Fq.num_le {n d a b : Int} (f : Fq n d a b) (hd : d ≠ 0) : a.natAbs ≤ n.natAbs := by
  by_cases hn : n = 0
  · have e := f.eq
    rw [hn, Int.zero_mul] at e
    rcases Int.mul_eq_zero.mp e with e | e
    · rw [e]; exact Nat.zero_le _
    · exact absurd e hd
  · exact natAbs_le_of_dvd f.num_dvd hn
theorem Fq.uniq {n d a b a' b' : Int} (f : Fq n d a b) (f' : Fq n d a' b') (hd : d ≠ 0) : a = a' ∧ b = b' := by
  have h1 := f.eq
  have h2 := f'.eq
  have e : a * b' = a' * b := by
    have : (a * b') * d = (a' * b) * d := by grind
    exact Int.eq_of_mul_eq_mul_right hd this
  have p := f.pos
  have p' := f'.pos
  have d1 : b ∣ b' := dvd_of_cop (a := a) ⟨a', by grind⟩ f.cop
  have d2 : b' ∣ b := dvd_of_cop (a := a') ⟨a, by grind⟩ f'.cop
  have e2 : b = b' := by
    have x1 := natAbs_le_of_dvd d1 (by omega)
    have x2 := natAbs_le_of_dvd d2 (by omega)
    omega
  subst e2
  exact ⟨Int.eq_of_mul_eq_mul_right (by omega) e, rfl⟩
/-- the same number by another pair -/
theorem Fq.conv {n d a b n' d' : Int} (f : Fq n d a b) (hd : d ≠ 0) (h : n * d' = n' * d) : Fq n' d' a b := by
  refine ⟨?_, f.pos, f.cop⟩
  have e := f.eq
  have : (a * d') * d = (n' * b) * d := by grind
  exact Int.eq_of_mul_eq_mul_right hd this
theorem Fq.self {a b : Int} (p : 0 < b) (c : Nat.gcd a.natAbs b.natAbs = 1) : Fq a b a b := ⟨rfl, p, c⟩
/-- what __init__ stores -/
theorem fq_init {n d c : Int} (hd : d ≠ 0) (hc : c = if d < 0 then -((Nat.gcd n.natAbs d.natAbs : Nat) : Int) else ((Nat.gcd n.natAbs d.natAbs : Nat) : Int)) : c ≠ 0 ∧ c.natAbs ≤ d.natAbs ∧ Fq n d (n.fdiv c) (d.fdiv c) := by
  have gp : 0 < Nat.gcd n.natAbs d.natAbs := Nat.gcd_pos_of_pos_right _ (by omega)
  have g1 : c.natAbs = Nat.gcd n.natAbs d.natAbs := by rw [hc]; split <;> omega
  have c0 : c ≠ 0 := by omega
  have cn : c ∣ n := Int.natAbs_dvd_natAbs.mp (by rw [g1]; exact Nat.gcd_dvd_left _ _)
  have cd : c ∣ d := Int.natAbs_dvd_natAbs.mp (by rw [g1]; exact Nat.gcd_dvd_right _ _)
  obtain ⟨n', hn⟩ := cn
  obtain ⟨d', hd'⟩ := cd
  have e1 : n.fdiv c = n' := by rw [hn, Int.mul_fdiv_cancel_left _ c0]
  have e2 : d.fdiv c = d' := by rw [hd', Int.mul_fdiv_cancel_left _ c0]
  refine ⟨c0, natAbs_le_of_dvd ⟨d', hd'⟩ hd, ?_⟩
  rw [e1, e2]
  refine ⟨by grind, ?_, ?_⟩
  · refine Decidable.byContradiction fun hn => ?_
    have hn : d' ≤ 0 := by omega
    by_cases h : d < 0
    · have hc' : c < 0 := by rw [hc, if_pos h]; omega
      have z := Int.mul_nonneg (show 0 ≤ -c by omega) (show 0 ≤ -d' by omega)
      rw [Int.neg_mul_neg] at z
      omega
    · have hc' : 0 < c := by rw [hc, if_neg h]; omega
      have z := Int.mul_nonneg (show 0 ≤ c by omega) (show 0 ≤ -d' by omega)
      rw [Int.mul_neg] at z
      omega
  · have z := Nat.gcd_mul_left c.natAbs n'.natAbs d'.natAbs
    rw [← Int.natAbs_mul, ← Int.natAbs_mul, ← hn, ← hd', ← g1] at z
    have : 0 < c.natAbs := by omega
    exact Nat.eq_of_mul_eq_mul_left this (by omega)

abbrev Cop (a b : Int) : Prop := Nat.gcd a.natAbs b.natAbs = 1
theorem Cop.dvd {a b d : Int} (h : Cop a b) (h1 : d ∣ a) (h2 : d ∣ b) : d ∣ 1 := by
  have z := Nat.dvd_gcd (Int.natAbs_dvd_natAbs.mpr h1) (Int.natAbs_dvd_natAbs.mpr h2)
  have z2 : d.natAbs ∣ (1 : Int).natAbs := by rw [h] at z; exact z
  exact Int.natAbs_dvd_natAbs.mp z2
theorem cop_of {a b : Int} (h : ∀ d : Int, d ∣ a → d ∣ b → d ∣ 1) : Cop a b := by
  have z := h ((Nat.gcd a.natAbs b.natAbs : Nat) : Int) (Int.natAbs_dvd_natAbs.mp (by rw [Int.natAbs_natCast]; exact Nat.gcd_dvd_left _ _)) (Int.natAbs_dvd_natAbs.mp (by rw [Int.natAbs_natCast]; exact Nat.gcd_dvd_right _ _))
  have z2 := Int.natAbs_dvd_natAbs.mpr z
  rw [Int.natAbs_natCast] at z2
  exact Nat.eq_one_of_dvd_one z2
theorem Cop.symm {a b : Int} (h : Cop a b) : Cop b a := by unfold Cop; rw [Nat.gcd_comm]; exact h
theorem Cop.left {a a' b : Int} (h : Cop a b) (d : a' ∣ a) : Cop a' b := cop_of fun x h1 h2 => h.dvd (Int.dvd_trans h1 d) h2
theorem Cop.right {a b b' : Int} (h : Cop a b) (d : b' ∣ b) : Cop a b' := cop_of fun x h1 h2 => h.dvd h1 (Int.dvd_trans h2 d)
theorem Cop.mul {a b c : Int} (h1 : Cop a b) (h2 : Cop a c) : Cop a (b * c) := cop_of fun x k1 k2 => by
  have k3 : x ∣ c := dvd_of_cop (a := b) k2 (cop_of fun y y1 y2 => h1.dvd (Int.dvd_trans y2 k1) y1)
  exact h2.dvd k1 k3
theorem Cop.mull {a b c : Int} (h1 : Cop a c) (h2 : Cop b c) : Cop (a * b) c := (h1.symm.mul h2.symm).symm
/-- two numbers by their greatest common divisor -/
theorem gcd_parts {n d : Int} (h : n ≠ 0 ∨ d ≠ 0) : ∃ (g x y : Int), g = ((Nat.gcd n.natAbs d.natAbs : Nat) : Int) ∧ 0 < g ∧ n = g * x ∧ d = g * y ∧ Cop x y ∧ n / g = x ∧ d / g = y := by
  have gp : 0 < Nat.gcd n.natAbs d.natAbs := by
    rcases h with h | h
    · exact Nat.gcd_pos_of_pos_left _ (by omega)
    · exact Nat.gcd_pos_of_pos_right _ (by omega)
  obtain ⟨x, hx⟩ : ((Nat.gcd n.natAbs d.natAbs : Nat) : Int) ∣ n := Int.natAbs_dvd_natAbs.mp (by rw [Int.natAbs_natCast]; exact Nat.gcd_dvd_left _ _)
  obtain ⟨y, hy⟩ : ((Nat.gcd n.natAbs d.natAbs : Nat) : Int) ∣ d := Int.natAbs_dvd_natAbs.mp (by rw [Int.natAbs_natCast]; exact Nat.gcd_dvd_right _ _)
  generalize hg : ((Nat.gcd n.natAbs d.natAbs : Nat) : Int) = g at hx hy
  have g0 : 0 < g := by omega
  refine ⟨g, x, y, rfl, g0, hx, hy, ?_, ?_, ?_⟩
  · have z := Nat.gcd_mul_left g.natAbs x.natAbs y.natAbs
    rw [← Int.natAbs_mul, ← Int.natAbs_mul, ← hx, ← hy] at z
    have g1 : g.natAbs = Nat.gcd n.natAbs d.natAbs := by rw [← hg, Int.natAbs_natCast]
    rw [← g1] at z
    have : 0 < g.natAbs := by omega
    exact Nat.eq_of_mul_eq_mul_left this (by omega)
  · rw [hx, Int.mul_ediv_cancel_left _ (by omega)]
  · rw [hy, Int.mul_ediv_cancel_left _ (by omega)]
/-- the product as the program reckons it -/
theorem fq_mul {a1 b1 a2 b2 l r : Int} (p1 : 0 < b1) (p2 : 0 < b2) (c1 : Cop a1 b1) (c2 : Cop a2 b2) (hl : l = ((Nat.gcd a1.natAbs b2.natAbs : Nat) : Int)) (hr : r = ((Nat.gcd a2.natAbs b1.natAbs : Nat) : Int)) :
    0 < l ∧ 0 < r ∧ Fq (a1 * a2) (b1 * b2) (a1 / l * (a2 / r)) (b1 / r * (b2 / l)) := by
  obtain ⟨l', x, y, e1, l0, ex, ey, cxy, dx, dy⟩ := gcd_parts (n := a1) (d := b2) (.inr (by omega))
  rw [← hl] at e1
  subst e1
  obtain ⟨r', z, w, e2, r0, ez, ew, czw, dz, dw⟩ := gcd_parts (n := a2) (d := b1) (.inr (by omega))
  rw [← hr] at e2
  subst e2
  rw [dx, dy, dz, dw]
  have y0 : 0 < y := Decidable.byContradiction fun h => by
    have q := Int.mul_nonneg (show 0 ≤ l' by omega) (show 0 ≤ -y by omega)
    rw [Int.mul_neg] at q
    omega
  have w0 : 0 < w := Decidable.byContradiction fun h => by
    have q := Int.mul_nonneg (show 0 ≤ r' by omega) (show 0 ≤ -w by omega)
    rw [Int.mul_neg] at q
    omega
  refine ⟨l0, r0, by grind, Int.mul_pos w0 y0, ?_⟩
  have xw : Cop x w := (c1.left ⟨l', by rw [ex]; grind⟩).right ⟨r', by rw [ew]; grind⟩
  have zy : Cop z y := (c2.left ⟨r', by rw [ez]; grind⟩).right ⟨l', by rw [ey]; grind⟩
  exact (xw.mull czw).mul (cxy.mull zy)
/-- two pairs in lowest terms of the same number -/
theorem Fq.same {n d a b n' d' a' b' : Int} (f : Fq n d a b) (f' : Fq n' d' a' b') (hd : d ≠ 0) (hd' : d' ≠ 0) (h : n * d' = n' * d) : a = a' ∧ b = b' :=
  (f.conv hd h).uniq f' hd'
theorem Fq.back {n d a b n' d' a' b' : Int} (f : Fq n d a b) (f' : Fq n' d' a' b') (h : a = a' ∧ b = b') : n * d' = n' * d := by
  obtain ⟨rfl, rfl⟩ := h
  have e1 := f.eq
  have e2 := f'.eq
  have p := f.pos
  have : (n * d') * b = (n' * d) * b := by grind
  exact Int.eq_of_mul_eq_mul_right (by omega) this
theorem pos_of_mul {a b : Int} (h : 0 < a * b) (hb : 0 < b) : 0 < a := Decidable.byContradiction fun c => by
  have z := Int.mul_nonneg (show 0 ≤ -a by omega) (show 0 ≤ b by omega)
  rw [Int.neg_mul] at z
  omega
theorem nonneg_of_mul {a b : Int} (h : 0 ≤ a * b) (hb : 0 < b) : 0 ≤ a := Decidable.byContradiction fun c => by
  have z := Int.mul_pos (show 0 < -a by omega) hb
  rw [Int.neg_mul] at z
  omega
/-- the floor, by the pair that was given -/
theorem Fq.low {n d a b : Int} (f : Fq n d a b) (hd : 0 < d) : a / b * d ≤ n ∧ n < (a / b + 1) * d := by
  have e := f.eq
  have p := f.pos
  have h1 := Int.ediv_mul_le a (show b ≠ 0 by omega)
  have h2 := Int.lt_ediv_add_one_mul_self a p
  generalize a / b = q at h1 h2 ⊢
  constructor
  · have z := nonneg_of_mul (a := n - q * d) (b := b) (by
      have z := Int.mul_nonneg (show 0 ≤ a - q * b by omega) (show 0 ≤ d by omega)
      have e2 : (n - q * d) * b = (a - q * b) * d := by grind
      omega) p
    omega
  · have z := pos_of_mul (a := (q + 1) * d - n) (b := b) (by
      have z := Int.mul_pos (show 0 < (q + 1) * b - a by omega) hd
      have e2 : ((q + 1) * d - n) * b = ((q + 1) * b - a) * d := by grind
      omega) p
    omega
theorem mul_pow_int (a b : Int) (n : Nat) : (a * b) ^ n = a ^ n * b ^ n := by
  induction n with
  | zero => rw [Int.pow_zero, Int.pow_zero, Int.pow_zero, Int.mul_one]
  | succ n ih => rw [Int.pow_succ, Int.pow_succ, Int.pow_succ, ih]; grind
theorem pow_ne {a : Int} (h : a ≠ 0) (n : Nat) : a ^ n ≠ 0 := by
  induction n with
  | zero => rw [Int.pow_zero]; decide
  | succ n ih => rw [Int.pow_succ]; exact Int.mul_ne_zero ih h
/-- the sum of two numbers, by other pairs of theirs -/
theorem Fq.add {a b n1 d1 x y n2 d2 n d : Int} (f1 : Fq a b n1 d1) (f2 : Fq x y n2 d2) (f : Fq (n1 * d2 + n2 * d1) (d1 * d2) n d) : Fq (a * y + x * b) (b * y) n d := by
  have p1 := f1.pos
  have p2 := f2.pos
  have e1 := f1.eq
  have e2 := f2.eq
  refine f.conv (Int.mul_ne_zero (by omega) (by omega)) ?_
  grind
theorem Fq.mul {a b n1 d1 x y n2 d2 n d : Int} (f1 : Fq a b n1 d1) (f2 : Fq x y n2 d2) (f : Fq (n1 * n2) (d1 * d2) n d) : Fq (a * x) (b * y) n d := by
  have p1 := f1.pos
  have p2 := f2.pos
  have e1 := f1.eq
  have e2 := f2.eq
  refine f.conv (Int.mul_ne_zero (by omega) (by omega)) ?_
  grind
end CB

namespace CB
open PySem PySem.Spec PyProof.Rows L2
def rComb : List V → Hp → VK → Prop := fun vs H Q => ∃ a b : Int, vs = [.int a, .int b] ∧ 0 ≤ a ∧ 0 ≤ b ∧ a < 2 ^ 64 ∧ (b ≤ 9000 ∨ a ≤ 18000) ∧ Q (.int (PySem.W.mcComb a b)) H
def rPerm : List V → Hp → VK → Prop := fun vs H Q => ∃ a b : Int, vs = [.int a, .int b] ∧ 0 ≤ a ∧ 0 ≤ b ∧ a < 2 ^ 64 ∧ b ≤ 20000 ∧ Q (.int (PySem.W.mcPerm a b)) H
def rLcm : List V → Hp → VK → Prop := fun vs H Q => ∃ a b : Int, vs = [.int a, .int b] ∧ a.natAbs < 2 ^ 64 ∧ b.natAbs < 2 ^ 64 ∧ Q (.int ((Nat.lcm a.natAbs b.natAbs : Nat) : Int)) H
theorem cr_lcm {X : Cx} : CallR X (.builtin "math.lcm") rLcm := by
  intro pins s σ H vs us Q I r h
  obtain ⟨a, b, rfl, h1, h2, q⟩ := h
  obtain ⟨t, u, rfl⟩ := Vals.int2 r
  exact PySem.W.mc_lcm h1 h2 fun _ => ⟨.int _, H, I.tok _, ⟨_, rfl⟩, q⟩
/-- the triangle's entry -/
def chs : Nat → Nat → Nat
  | _, 0 => 1
  | 0, _ + 1 => 0
  | n + 1, k + 1 => chs n k + chs n (k + 1)
def fac : Nat → Nat
  | 0 => 1
  | n + 1 => (n + 1) * fac n
end CB

namespace CB.Z
open PySem
abbrev TZ : String := "itertools.zip_longest"
theorem zMro : mroOf (.type "itertools.zip_longest") = pure [.type "itertools.zip_longest", .type "object"] := by
  rw [mroOf_type]
  kernel_rfl
theorem zNew : typeLookup (.type "itertools.zip_longest") "__new__" = pure (some (.builtin "itertools.zip_longest.__new__")) := by
  rw [typeLookup_type, builtinLookup_eq_fast]
  kernel_rfl
theorem zSub : isSubtype (.type "itertools.zip_longest") (.type "itertools.zip_longest") = pure true := by
  rw [isSubtype_type]
  kernel_rfl
theorem zSlotInit : Slot "itertools.zip_longest" "__init__" "object.__init__" := by
  refine Slot.of (owner := "object") (n := "__init__") ?_ (by decide +kernel) (by decide +kernel) (by decide +kernel) (.inl (by decide +kernel)) ?_
  · rw [typeLookup_type, builtinLookup_eq_fast]
    kernel_rfl
  · rw [isSubtype_type]
    kernel_rfl
theorem zSlotNext : Slot "itertools.zip_longest" "__next__" "itertools.zip_longest.__next__" := by
  refine Slot.of (owner := "itertools.zip_longest") (n := "__next__") ?_ (by decide +kernel) (by decide +kernel) (by decide +kernel) (by first | exact .inr (by decide +kernel) | exact .inl (by decide +kernel)) zSub
  rw [typeLookup_type, builtinLookup_eq_fast]
  kernel_rfl
theorem zSlotIter : Slot "itertools.zip_longest" "__iter__" "itertools.zip_longest.__iter__" := by
  refine Slot.of (owner := "itertools.zip_longest") (n := "__iter__") ?_ (by decide +kernel) (by decide +kernel) (by decide +kernel) (by first | exact .inr (by decide +kernel) | exact .inl (by decide +kernel)) zSub
  rw [typeLookup_type, builtinLookup_eq_fast]
  kernel_rfl
theorem zCalled : TypeCalled "itertools.zip_longest" "itertools.zip_longest.__new__" "object.__init__" :=
  ⟨by decide +kernel, by decide +kernel, ⟨_, _, zMro⟩, madeBy_type zMro zNew (by decide +kernel), by decide +kernel, zSub, zSlotInit⟩
theorem zTypeCall (a b c : Value) : checkTypeCall "itertools.zip_longest" ⟨[a, b], [(Str.ofString "fillvalue", c)]⟩ = pure () := by kernel_rfl
theorem zNewCall (a b c : Value) : checkBuiltinCall "itertools.zip_longest.__new__" ⟨[.type "itertools.zip_longest", a, b], [(Str.ofString "fillvalue", c)]⟩ = pure () := by kernel_rfl
theorem zInitArgs (o a b c : Value) : argsOk "object.__init__" ⟨[o, a, b], [(Str.ofString "fillvalue", c)]⟩ := by
  unfold argsOk
  kernel_rfl
theorem zEntryNew : entryFor table "itertools.zip_longest.__new__" = some Builtin.«itertools.zip_longest.__new__» := entryFor_of_tree (by kernel_rfl)
theorem zEntryNext : entryFor table "itertools.zip_longest.__next__" = some Builtin.«itertools.zip_longest.__next__» := entryFor_of_tree (by kernel_rfl)
theorem zArgsNext (a : Value) : argsOk "itertools.zip_longest.__next__" ⟨[a], []⟩ := by
  unfold argsOk
  kernel_rfl
theorem zArgsIter (a : Value) : argsOk "itertools.zip_longest.__iter__" ⟨[a], []⟩ := by
  unfold argsOk
  kernel_rfl
/-! ### it is made -/
abbrev ItO (l : Addr) : Obj := { cls := .type "list_iterator", data := .fields #[.ref l, .int 0 0] }
abbrev TuO (a b : Value) : Obj := { cls := .type "tuple", data := .seq #[a, b] }
abbrev ZlO (f0 fill : Value) (run : Int) (TI TO : Addr) : Obj := { cls := .type "itertools.zip_longest", dict := none, data := .fields #[f0, .bool false, fill, rawInt run, .ref TI, .ref TO], slots := #[] }
abbrev zA (h : Heap) (l1 : Addr) : Heap := h.push (ItO l1)
abbrev zB (h : Heap) (l1 l2 : Addr) : Heap := (zA h l1).push (ItO l2)
abbrev zC (h : Heap) (l1 l2 : Addr) : Heap := (zB h l1 l2).push (TuO (.ref h.objs.size) (.ref (zA h l1).objs.size))
abbrev zD (h : Heap) (l1 l2 : Addr) : Heap := (zC h l1 l2).push (TuO .none .none)
abbrev zH (h : Heap) (l1 l2 : Addr) (c : Value) : Heap := (zD h l1 l2).push (ZlO .none c 2 (zB h l1 l2).objs.size (zC h l1 l2).objs.size)
set_option maxHeartbeats 8000000 in
theorem zMeetsNew (l1 l2 : Addr) (xs ys : Array Value) (c : Value) :
    Meets (Builtin.«itertools.zip_longest.__new__» ⟨[.type "itertools.zip_longest", .ref l1, .ref l2], [(Str.ofString "fillvalue", c)]⟩) (fun _ R s => s.heap.IsList l1 xs ∧ s.heap.IsList l2 ys ∧
      R (.ok (.ret (.ref (zD s.heap l1 l2).objs.size))) { s with heap := zH s.heap l1 l2 c }) :=
  .of_wp fun prog w A R s h => by
    obtain ⟨hp, g, d, tk, os⟩ := s
    obtain ⟨hl1, hl2, h⟩ := h
    have hsub : isSubtype (.type "itertools.zip_longest") (.type ("itertools." ++ "zip_longest")) = pure true := by
      rw [show "itertools." ++ "zip_longest" = "itertools.zip_longest" by decide]
      exact zSub
    have q1 : Heap.IsList (Shared.heap ⟨hp, g, d, tk, os⟩) l1 xs := hl1
    have q2 : Heap.IsList (Shared.heap ⟨hp.push (ItO l1), g, d, tk, os⟩) l2 ys := Heap.IsList.push hl2 _
    have e1 : (Str.ofString "fillvalue" == ("fillvalue" : Str)) = true := by decide +kernel
    wp_walk using wpAny_pyIter_list q1, wpAny_pyIter_list q2
    exact ⟨_, rfl, h⟩
end CB.Z

namespace CB.Z
open PySem
abbrev IsZl (h : Heap) (z TI TO : Addr) (f0 c : Value) (run : Int) : Prop := h.get? z = some (ZlO f0 c run TI TO)
abbrev IsTu (h : Heap) (T : Addr) (a b : Value) : Prop := h.get? T = some (TuO a b)
section
variable {prog : Program} {w : World} {A : Around} {E : Value → Shared → Prop} {s : Shared}
theorem zPool {T : Addr} {a b : Value} {Q : Array Value → Shared → Prop} (hT : IsTu s.heap T a b) (h : Q #[a, b] s) : wpAny (model prog w) A (Builtin.Itertools.itPoolItems (.ref T)) Q E s :=
  wpAny_bind (wpAny_seqItems hT rfl (wpAny_pure h))
theorem zInt {z TI TO : Addr} {f0 c : Value} {run : Int} {Q : Int → Shared → Prop} (hz : IsZl s.heap z TI TO f0 c run) (h : Q run s) : wpAny (model prog w) A (Builtin.Itertools.itIntField (.ref z) 3) Q E s :=
  wpAny_bind (wpAny_field hz rfl (x := rawInt run) rfl (wpAny_pure h))
theorem zFree {z TI TO : Addr} {c : Value} {run : Int} {Q : Bool → Shared → Prop} (hz : IsZl s.heap z TI TO .none c run) (h : Q true s) : wpAny (model prog w) A (Builtin.Itertools.itOwnedIsFree (.ref z)) Q E s :=
  wpAny_bind (wpAny_field hz rfl (x := .none) rfl (wpAny_pure h))
theorem zSet0 {z TI TO : Addr} {f0 c : Value} {run : Int} {v : Value} {Q : Unit → Shared → Prop} (hz : IsZl s.heap z TI TO f0 c run) (h : ∀ h', IsZl h' z TI TO v c run → Heap.SameBut z s.heap h' → Q () { s with heap := h' }) :
    wpAny (model prog w) A (setField (.ref z) 0 v) Q E s :=
  wpAny_setField_rec hz (by simp) fun h' z' k' => h h' z' k'
theorem zSet3 {z TI TO : Addr} {f0 c : Value} {run r2 : Int} {Q : Unit → Shared → Prop} (hz : IsZl s.heap z TI TO f0 c run) (h : ∀ h', IsZl h' z TI TO f0 c r2 → Heap.SameBut z s.heap h' → Q () { s with heap := h' }) :
    wpAny (model prog w) A (setField (.ref z) 3 (rawInt r2)) Q E s :=
  wpAny_setField_rec hz (by simp) fun h' z' k' => h h' z' k'
theorem zOut {z TI TO T : Addr} {f0 c : Value} {run : Int} {Q : Unit → Shared → Prop} (hz : IsZl s.heap z TI TO f0 c run)
    (h : ∀ h', IsZl h' z TI TO (rawInt T) c run → Heap.ExtBut z s.heap h' → h'.objs.size = s.heap.objs.size → Q () { s with heap := h' }) : wpAny (model prog w) A (Builtin.Itertools.itOwnedHandOut (.ref z) (.ref T)) Q E s := by
  unfold Builtin.Itertools.itOwnedHandOut
  refine wpAny_bind (zSet0 hz fun h1 z1 k1 => ?_)
  refine wpAny_setField_rec z1 (by simp) fun h2 z2 k2 => ?_
  exact h h2 z2 (fun b o nb e => k2.extBut _ _ nb (k1.extBut _ _ nb e)) (by rw [k2.1, k1.1])
def Gone (h : Heap) (it : Addr) : Prop := ∃ o vs, h.get? it = some o ∧ o.data = .fields vs
theorem zEnd {it l : Addr} {i : Nat} {xs : Array Value} {Q : Option Value → Shared → Prop} (hh : A.handled = none) (hi : s.heap.IsListIter it l i) (hl : s.heap.IsList l xs) (hx : xs[i]? = none)
    (h : ∀ h', Heap.ExtBut it s.heap h' → s.heap.objs.size ≤ h'.objs.size → Gone h' it → Q none { s with heap := h' }) : wpAny (model prog w) A (pyNext (.ref it)) Q E s := by
  obtain ⟨o, ho, hc, hd⟩ := id hi
  obtain ⟨p, hp, _, n, hdl⟩ := hl
  unfold pyNext
  have slot := slot_listiter_next
  refine wpAny_bind (wpAny_attempt (wpAny_callSpecial?_slot (name := Str.ofString "__next__") hi.typeIs slot (wpAny_call_entry slot hi.typeIs entry_listiter_next ?_ (args_listiter_next _))))
  show wpAny _ _ (field (.ref it) 0 >>= _) _ _ _
  refine wpAny_bind (wpAny_field ho hd (x := .ref l) rfl (show wpAny _ _ (if (Value.ref l == Value.none) = true then _ else _) _ _ _ from ?_))
  rw [if_neg (fun z : (Value.ref l == Value.none) = true => Bool.false_ne_true z)]
  refine wpAny_bind (wpAny_field ho hd (x := .int i 0) rfl (show wpAny _ _ (seqItems? (.ref l) >>= _) _ _ _ from ?_))
  refine wpAny_bind (wpAny_seqItems hp hdl ?_)
  simp only [Int.toNat_natCast, hx]
  refine wpAny_bind (wpAny_rule (wpAny_bind (wpAny_setField ho hd (by simp) (show wpAny _ _ (newExc (.type "StopIteration") [] >>= _) _ _ _ from ?_))))
  refine wpAny_bind ?_
  simp only [newExc, newTuple]
  refine wpAny_bind (wpAny_newObj_type ?_ (by size_fits))
  refine wpAny_bind (m := firstArgMember _ _) (wpAny_of_eq (a := Value.none) (by first | rfl | (simp only [firstArgMember] <;> rfl)) ?_)
  refine wpAny_newObj_type ?_ (by size_fits)
  unfold raiseNew
  refine wpAny_bind (wpAny_handled ?_)
  have e : A.in1.handled = none := hh
  rw [e]
  refine wpAny_bind (wpAny_pure (wpAny_throw ?_))
  refine wpAny_bind ?_
  refine wpAny_isInstance (T := "StopIteration") (b := true) ⟨_, Heap.get?_push_size _ rfl, rfl⟩ isSubtype_stop ?_
  refine wpAny_pure (h _ (((Heap.SameBut.update ..).extBut.push _).push _) ?_ ⟨_, _, Heap.get?_push_of_some _ (Heap.get?_push_of_some _ (Heap.get?_update_self _ ho (Obj.isFreed_of_fields (Obj.data_mapFields hd _)))), Obj.data_mapFields hd _⟩)
  rw [Heap.size_push, Heap.size_push]
  exact Nat.le_trans (Nat.le_of_eq (Heap.SameBut.update s.heap it _).1.symm) (Nat.le_add_right _ 2)
/-- a column: its entry, live or not -/
def Col (h : Heap) (e : Value) (it l : Addr) (n i : Nat) : Prop := (e = .ref it ∧ h.IsListIter it l i ∧ i ≤ n) ∨ (e = .none ∧ n < i ∧ Gone h it)
theorem Col.ext {h h' : Heap} {e : Value} {it l : Addr} {n i : Nat} (c : Col h e it l n i) (k : ∀ o, h.get? it = some o → h'.get? it = some o) : Col h' e it l n i := by
  rcases c with ⟨e, q, le⟩ | ⟨e, lt, o, vs, g, d⟩
  · exact .inl ⟨e, q.at k, le⟩
  · exact .inr ⟨e, lt, o, vs, k _ g, d⟩
def lives (n i : Nat) : Int := if i ≤ n then 1 else 0
structure ZA (z TI TO i1 i2 l1 l2 : Addr) : Prop extends ZipApart z TI TO i1 i2 l1 l2 where
  l1TI : l1 ≠ TI
  l2TI : l2 ≠ TI
structure ZCol (h : Heap) (TI i1 i2 l1 l2 : Addr) (n1 j1 n2 j2 : Nat) : Prop where
  ex : ∃ a b, IsTu h TI a b ∧ Col h a i1 l1 n1 j1 ∧ Col h b i2 l2 n2 j2
/-- all but z, the tuples and the iterators stays -/
def Kp (z TI TO i1 i2 : Addr) (h h' : Heap) : Prop := ∀ b o, b ≠ z → b ≠ TI → b ≠ TO → b ≠ i1 → b ≠ i2 → h.get? b = some o → h'.get? b = some o
theorem zItem {z TI TO i1 i2 l1 l2 : Addr} {c : Value} {i : Nat} {xs ys : Array Value} {Q : Value → Shared → Prop} (hh : A.handled = none) (D : ZA z TI TO i1 i2 l1 l2)
    (hz : IsZl s.heap z TI TO .none c (lives xs.size i + lives ys.size i)) (hc : ZCol s.heap TI i1 i2 l1 l2 xs.size i ys.size i) (hT : ∃ a b, IsTu s.heap TO a b)
    (hl1 : s.heap.IsList l1 xs) (hl2 : s.heap.IsList l2 ys) (hi : i < xs.size ∨ i < ys.size)
    (hQ : ∀ h' T, s.heap.objs.size ≤ T → IsZl h' z TI TO (rawInt T) c (lives xs.size (i + 1) + lives ys.size (i + 1)) → ZCol h' TI i1 i2 l1 l2 xs.size (i + 1) ys.size (i + 1) → (∃ a b, IsTu h' TO a b) →
      IsTu h' T (xs.getD i c) (ys.getD i c) → Kp z TI TO i1 i2 s.heap h' → Q (.ref T) { s with heap := h' }) :
    wpAny (model prog w) A (Builtin.«itertools.zip_longest.__next__» ⟨[.ref z], []⟩) (fun fin s' => ∃ v, fin = .done (.ret v) ∧ Q v s') E s := by
  obtain ⟨a0, b0, hTO⟩ := hT
  obtain ⟨⟨a, b, hTI, ca, cb⟩⟩ := hc
  have run0 : ¬ ((lives xs.size i + lives ys.size i == 0) = true) := by
    unfold lives
    rcases hi with h | h
    · rw [if_pos (show i ≤ xs.size by omega)]
      split <;> decide
    · rw [if_pos (show i ≤ ys.size by omega)]
      split <;> decide
  show wpAny _ _ (Builtin.Itertools.itIntField (.ref z) 3 >>= _) _ _ _
  refine wpAny_bind (zInt hz ?_)
  show wpAny _ _ (if (lives xs.size i + lives ys.size i == 0) = true then _ else _) _ _ _
  rw [if_neg run0]
  show wpAny _ _ (field (.ref z) 4 >>= _) _ _ _
  refine wpAny_bind (wpAny_field hz rfl (x := .ref TI) rfl ?_)
  refine wpAny_bind (zPool hTI ?_)
  refine wpAny_bind (zFree hz ?_)
  simp only [if_true]
  refine wpAny_bind (wpAny_rule ?_)
  refine wpAny_bind (wpAny_field hz rfl (x := .ref TO) rfl ?_)
  refine wpAny_bind (zSet0 hz fun h1 hz1 k1 => ?_)
  rw [show List.range (#[a, b] : Array Value).size = [0, 1] from rfl]
  simp only [List.forIn_cons, List.forIn_nil]
  refine wpAny_bind ?_
  refine wpAny_bind ?_
  refine wpAny_bind (wpAny_mono (Q := fun r s' => r = some (xs.getD i c) ∧ ∃ h2, s' = { s with heap := h2 } ∧ IsZl h2 z TI TO .ellipsis c (lives xs.size (i + 1) + lives ys.size i) ∧ ZCol h2 TI i1 i2 l1 l2 xs.size (i + 1) ys.size i ∧ IsTu h2 TO a0 b0 ∧
    Kp z TI TO i1 i2 s.heap h2 ∧ s.heap.objs.size ≤ h2.objs.size) (E := E) (wpAny_onRaise ?d1) ?r1 (fun _ _ x => x))
  case d1 =>
    have hTI1 : IsTu h1 TI a b := k1.extBut _ _ D.TIz hTI
    have hTO1 : IsTu h1 TO a0 b0 := k1.extBut _ _ D.TOz hTO
    have sz1 : h1.objs.size = s.heap.objs.size := k1.1
    show wpAny _ _ (field (.ref z) 4 >>= _) _ _ _
    refine wpAny_bind (wpAny_field hz1 rfl (x := .ref TI) rfl ?_)
    refine wpAny_bind (zPool hTI1 ?_)
    refine wpAny_bind (wpAny_field hz1 rfl (x := c) rfl ?_)
    have cb1 : Col h1 b i2 l2 ys.size i := cb.ext fun o e => k1.extBut _ _ D.i2z e
    rcases ca with ⟨rfl, q, le⟩ | ⟨rfl, lt, gn⟩
    · show wpAny _ _ (if (Value.ref i1 == Value.none) = true then _ else _) _ _ _
      rw [if_neg (fun z : (Value.ref i1 == Value.none) = true => Bool.false_ne_true z)]
      cases hx : xs[i]? with
      | some x =>
        refine wpAny_bind (wpAny_onRaise (wpAny_pyNext_list_item (q.extBut k1.extBut D.i1z) (hl1.extBut k1.extBut D.l1z) hx fun h2 q2 k2 => wpAny_pure ?_))
        have lt : i < xs.size := by
          obtain ⟨h, _⟩ := Array.getElem?_eq_some_iff.mp hx
          exact h
        have e1 : lives xs.size (i + 1) = lives xs.size i := by unfold lives; rw [if_pos (by omega), if_pos (by omega)]
        refine ⟨by rw [Array.getD_eq_getD_getElem?, hx]; rfl, h2, rfl, by rw [e1]; exact k2.extBut _ _ D.i1z.symm hz1, ⟨_, _, k2.extBut _ _ D.TIi1 hTI1, .inl ⟨rfl, q2, lt⟩, ?_⟩, k2.extBut _ _ D.TOi1 hTO1, fun p o n1 n2 n3 n4 n5 e => k2.extBut _ _ n4 (k1.extBut _ _ n1 e), Nat.le_of_eq (sz1.symm.trans k2.1.symm)⟩
        exact cb1.ext fun o e => k2.extBut _ _ D.i12.symm e
      | none =>
        have ex : i = xs.size := by
          have := Array.getElem?_eq_none_iff.mp hx
          omega
        have iy : i < ys.size := by omega
        have e1 : lives xs.size i + lives ys.size i = 2 := by unfold lives; rw [if_pos (by omega), if_pos (by omega)]; rfl
        have e2 : lives xs.size (i + 1) + lives ys.size i = 1 := by unfold lives; rw [if_neg (by omega), if_pos (by omega)]; rfl
        rw [e1] at hz1
        rw [e2]
        refine wpAny_bind (wpAny_onRaise (zEnd hh (q.extBut k1.extBut D.i1z) (hl1.extBut k1.extBut D.l1z) hx fun h2 k2 g2 gone2 => ?_))
        have hz2 := k2 _ _ D.i1z.symm hz1
        have hTI2 : IsTu h2 TI (.ref i1) b := k2 _ _ D.TIi1 hTI1
        show wpAny _ _ (Builtin.Itertools.itPoolItems (.ref TI) >>= _) _ _ _
        refine wpAny_bind (zPool hTI2 ?_)
        show wpAny _ _ (if (Value.ref i1 == Value.none) = true then _ else _) _ _ _
        rw [if_neg (fun z : (Value.ref i1 == Value.none) = true => Bool.false_ne_true z)]
        refine wpAny_bind (zInt hz2 ?_)
        refine wpAny_bind (zSet3 hz2 fun h3 hz3 k3 => ?_)
        have hTI3 : IsTu h3 TI (.ref i1) b := k3.extBut _ _ D.TIz hTI2
        show wpAny _ _ (rule _ >>= _) _ _ _
        refine wpAny_bind (wpAny_rule ?_)
        refine wpAny_bind (wpAny_updateSeq_pair hTI3 fun h4 hTI4 k4 => ?_)
        refine wpAny_bind (wpAny_letGo (wpAny_pure ?_))
        have kp : ∀ p o, p ≠ z → p ≠ TI → p ≠ TO → p ≠ i1 → p ≠ i2 → h1.get? p = some o → h4.get? p = some o := fun p o n1 n2 n3 n4 n5 e => k4.extBut _ _ n2 (k3.extBut _ _ n1 (k2 _ _ n4 e))
        refine ⟨by rw [Array.getD_eq_getD_getElem?, hx]; rfl, h4, rfl, k4.extBut _ _ D.TIz.symm hz3, ⟨_, _, hTI4, .inr ⟨rfl, by omega, ?_⟩, ?_⟩, k4.extBut _ _ D.TITO.symm (k3.extBut _ _ D.TOz (k2 _ _ D.TOi1 hTO1)),
          fun p o n1 n2 n3 n4 n5 e => kp p o n1 n2 n3 n4 n5 (k1.extBut _ _ n1 e), ?_⟩
        · obtain ⟨o, vs, g, d⟩ := gone2
          exact ⟨o, vs, k4.extBut _ _ D.TIi1.symm (k3.extBut _ _ D.i1z g), d⟩
        · exact cb1.ext fun o e => k4.extBut _ _ D.TIi2.symm (k3.extBut _ _ D.i2z (k2 _ _ D.i12.symm e))
        · have g3 : h3.objs.size = h2.objs.size := k3.1
          have g4 : h4.objs.size = h3.objs.size := k4.1
          have g5 : h1.objs.size ≤ h2.objs.size := g2
          omega
    · show wpAny _ _ (if (Value.none == Value.none) = true then _ else _) _ _ _
      rw [if_pos (show (Value.none == Value.none) = true by rfl)]
      have e1 : lives xs.size (i + 1) = lives xs.size i := by unfold lives; rw [if_neg (by omega), if_neg (by omega)]
      refine wpAny_pure ⟨?_, h1, rfl, by rw [e1]; exact hz1, ⟨_, _, hTI1, .inr ⟨rfl, by omega, (by obtain ⟨o, vs, g, d⟩ := gn; exact ⟨o, vs, k1.extBut _ _ D.i1z g, d⟩)⟩, cb1⟩, hTO1, fun p o n1 n2 n3 n4 n5 e => k1.extBut _ _ n1 e, Nat.le_of_eq sz1.symm⟩
      rw [Array.getD_eq_getD_getElem?, Array.getElem?_eq_none_iff.mpr (by omega)]
      rfl
  rintro r _ ⟨rfl, h2, rfl, hz2, hc2, hTO2, kp2, sz2⟩
  show wpAny _ _ (Builtin.Itertools.itPoolItems (.ref TO) >>= _) _ _ _
  refine wpAny_bind (zPool hTO2 ?_)
  refine wpAny_bind (wpAny_updateSeq_pair hTO2 fun h3 hTO3 k3 => ?_)
  refine wpAny_bind (wpAny_letGo (wpAny_pure ?_))
  replace hTO3 : IsTu h3 TO (xs.getD i c) b0 := hTO3
  have hz3 := k3.extBut _ _ D.TOz.symm hz2
  obtain ⟨⟨a2, b2, hTI2, ca2, cb2⟩⟩ := hc2
  have hTI3 : IsTu h3 TI a2 b2 := k3.extBut _ _ D.TITO hTI2
  have ca3 : Col h3 a2 i1 l1 xs.size (i + 1) := ca2.ext fun o e => k3.extBut _ _ D.TOi1.symm e
  have kp3 : Kp z TI TO i1 i2 s.heap h3 := fun p o n1 n2 n3 n4 n5 e => k3.extBut _ _ n3 (kp2 p o n1 n2 n3 n4 n5 e)
  have sz3 : s.heap.objs.size ≤ h3.objs.size := Nat.le_trans sz2 (Nat.le_of_eq k3.1.symm)
  have hl23 : h3.IsList l2 ys := hl2.at fun o e => kp3 _ _ D.l2z D.l2TI D.l2TO D.l2i1 D.l2i2 e
  show wpAny _ _ (_ >>= _) _ _ _
  refine wpAny_bind ?_
  refine wpAny_bind (wpAny_mono (Q := fun r s' => r = some (ys.getD i c) ∧ ∃ h4, s' = { s with heap := h4 } ∧ IsZl h4 z TI TO .ellipsis c (lives xs.size (i + 1) + lives ys.size (i + 1)) ∧ ZCol h4 TI i1 i2 l1 l2 xs.size (i + 1) ys.size (i + 1) ∧ IsTu h4 TO (xs.getD i c) b0 ∧
    Kp z TI TO i1 i2 s.heap h4 ∧ s.heap.objs.size ≤ h4.objs.size) (E := E) (wpAny_onRaise ?d2) ?r2 (fun _ _ x => x))
  case d2 =>
    show wpAny _ _ (field (.ref z) 4 >>= _) _ _ _
    refine wpAny_bind (wpAny_field hz3 rfl (x := .ref TI) rfl ?_)
    refine wpAny_bind (zPool hTI3 ?_)
    refine wpAny_bind (wpAny_field hz3 rfl (x := c) rfl ?_)
    rcases cb2 with ⟨rfl, q, le⟩ | ⟨rfl, lt, gn⟩
    · show wpAny _ _ (if (Value.ref i2 == Value.none) = true then _ else _) _ _ _
      rw [if_neg (fun z : (Value.ref i2 == Value.none) = true => Bool.false_ne_true z)]
      cases hy : ys[i]? with
      | some y =>
        refine wpAny_bind (wpAny_onRaise (wpAny_pyNext_list_item (q.extBut k3.extBut D.TOi2.symm) hl23 hy fun h4 q4 k4 => wpAny_pure ?_))
        have lt : i < ys.size := by
          obtain ⟨h, _⟩ := Array.getElem?_eq_some_iff.mp hy
          exact h
        have e1 : lives ys.size (i + 1) = lives ys.size i := by unfold lives; rw [if_pos (by omega), if_pos (by omega)]
        refine ⟨by rw [Array.getD_eq_getD_getElem?, hy]; rfl, h4, rfl, by rw [e1]; exact k4.extBut _ _ D.i2z.symm hz3, ⟨_, _, k4.extBut _ _ D.TIi2 hTI3, ?_, .inl ⟨rfl, q4, lt⟩⟩, k4.extBut _ _ D.TOi2 hTO3, fun p o n1 n2 n3 n4 n5 e => k4.extBut _ _ n5 (kp3 p o n1 n2 n3 n4 n5 e), Nat.le_trans sz3 (Nat.le_of_eq k4.1.symm)⟩
        exact ca3.ext fun o e => k4.extBut _ _ D.i12 e
      | none =>
        have ex : i = ys.size := by
          have := Array.getElem?_eq_none_iff.mp hy
          omega
        have ix : i < xs.size := by omega
        have e1 : lives xs.size (i + 1) + lives ys.size i = 2 := by unfold lives; rw [if_pos (by omega), if_pos (by omega)]; rfl
        have e2 : lives xs.size (i + 1) + lives ys.size (i + 1) = 1 := by unfold lives; rw [if_pos (by omega), if_neg (by omega)]; rfl
        rw [e1] at hz3
        rw [e2]
        refine wpAny_bind (wpAny_onRaise (zEnd hh (q.extBut k3.extBut D.TOi2.symm) hl23 hy fun h4 k4 g4 gone4 => ?_))
        have hz4 := k4 _ _ D.i2z.symm hz3
        have hTI4 : IsTu h4 TI a2 (.ref i2) := k4 _ _ D.TIi2 hTI3
        show wpAny _ _ (Builtin.Itertools.itPoolItems (.ref TI) >>= _) _ _ _
        refine wpAny_bind (zPool hTI4 ?_)
        show wpAny _ _ (if (Value.ref i2 == Value.none) = true then _ else _) _ _ _
        rw [if_neg (fun z : (Value.ref i2 == Value.none) = true => Bool.false_ne_true z)]
        refine wpAny_bind (zInt hz4 ?_)
        refine wpAny_bind (zSet3 hz4 fun h5 hz5 k5 => ?_)
        have hTI5 : IsTu h5 TI a2 (.ref i2) := k5.extBut _ _ D.TIz hTI4
        show wpAny _ _ (rule _ >>= _) _ _ _
        refine wpAny_bind (wpAny_rule ?_)
        refine wpAny_bind (wpAny_updateSeq_pair hTI5 fun h6 hTI6 k6 => ?_)
        refine wpAny_bind (wpAny_letGo (wpAny_pure ?_))
        refine ⟨by rw [Array.getD_eq_getD_getElem?, hy]; rfl, h6, rfl, k6.extBut _ _ D.TIz.symm hz5, ⟨_, _, hTI6, ?_, .inr ⟨rfl, by omega, ?_⟩⟩, k6.extBut _ _ D.TITO.symm (k5.extBut _ _ D.TOz (k4 _ _ D.TOi2 hTO3)),
          fun p o n1 n2 n3 n4 n5 e => k6.extBut _ _ n2 (k5.extBut _ _ n1 (k4 _ _ n5 (kp3 p o n1 n2 n3 n4 n5 e))), ?_⟩
        · exact ca3.ext fun o e => k6.extBut _ _ D.TIi1.symm (k5.extBut _ _ D.i1z (k4 _ _ D.i12 e))
        · obtain ⟨o, vs, g, d⟩ := gone4
          exact ⟨o, vs, k6.extBut _ _ D.TIi2.symm (k5.extBut _ _ D.i2z g), d⟩
        · have g5 : h5.objs.size = h4.objs.size := k5.1
          have g6 : h6.objs.size = h5.objs.size := k6.1
          have g7 : h3.objs.size ≤ h4.objs.size := g4
          omega
    · show wpAny _ _ (if (Value.none == Value.none) = true then _ else _) _ _ _
      rw [if_pos (show (Value.none == Value.none) = true by rfl)]
      have e1 : lives ys.size (i + 1) = lives ys.size i := by unfold lives; rw [if_neg (by omega), if_neg (by omega)]
      refine wpAny_pure ⟨?_, h3, rfl, by rw [e1]; exact hz3, ⟨_, _, hTI3, ca3, .inr ⟨rfl, by omega, (by obtain ⟨o, vs, g, d⟩ := gn; exact ⟨o, vs, k3.extBut _ _ D.TOi2.symm g, d⟩)⟩⟩, hTO3, kp3, sz3⟩
      rw [Array.getD_eq_getD_getElem?, Array.getElem?_eq_none_iff.mpr (by omega)]
      rfl
  rintro r _ ⟨rfl, h4, rfl, hz4, hc4, hTO4, kp4, sz4⟩
  show wpAny _ _ (Builtin.Itertools.itPoolItems (.ref TO) >>= _) _ _ _
  refine wpAny_bind (zPool hTO4 ?_)
  refine wpAny_bind (wpAny_updateSeq_pair hTO4 fun h5 hTO5 k5 => ?_)
  refine wpAny_bind (wpAny_letGo (wpAny_pure (wpAny_pure ?_)))
  replace hTO5 : IsTu h5 TO (xs.getD i c) (ys.getD i c) := hTO5
  have hz5 := k5.extBut _ _ D.TOz.symm hz4
  refine wpAny_bind (zPool hTO5 ?_)
  refine wpAny_bind (wpAny_newTuple ?_)
  have hz6 : IsZl (h5.push (TuO (xs.getD i c) (ys.getD i c))) z TI TO .ellipsis c (lives xs.size (i + 1) + lives ys.size (i + 1)) := Heap.get?_push_of_some _ hz5
  refine wpAny_bind (zOut (T := h5.objs.size) hz6 fun h7 hz7 k7 g7 => ?_)
  have kz : h5.objs.size ≠ z := Nat.ne_of_gt (Heap.lt_size hz5)
  have up : ∀ p o, p ≠ z → h5.get? p = some o → h7.get? p = some o := fun p o n e => k7 _ _ n (Heap.get?_push_of_some _ e)
  refine wpAny_pure ⟨_, rfl, hQ h7 h5.objs.size (Nat.le_trans sz4 (Nat.le_of_eq k5.1.symm)) hz7 ?_ ⟨_, _, up _ _ D.TOz hTO5⟩ (k7 _ _ kz (Heap.get?_push_size _ rfl)) fun p o n1 n2 n3 n4 n5 e => up _ _ n1 (k5.extBut _ _ n3 (kp4 p o n1 n2 n3 n4 n5 e))⟩
  obtain ⟨⟨a4, b4, hTI5, ca4, cb4⟩⟩ := hc4
  refine ⟨_, _, up _ _ D.TIz (k5.extBut _ _ D.TITO hTI5), ?_, ?_⟩
  · exact ca4.ext fun o e => up _ _ D.i1z (k5.extBut _ _ D.TOi1.symm e)
  · exact cb4.ext fun o e => up _ _ D.i2z (k5.extBut _ _ D.TOi2.symm e)
theorem zRaise {α : Type} {Q : α → Shared → Prop} (hh : A.handled = none) (h : ∀ h' e, (∀ b o, s.heap.get? b = some o → h'.get? b = some o) → (∃ o, h'.get? e = some o ∧ o.cls = .type "StopIteration") → E (.ref e) { s with heap := h' }) :
    wpAny (model prog w) A (Builtin.Itertools.itStop : Sem α) Q E s := by
  unfold Builtin.Itertools.itStop
  refine wpAny_bind ?_
  simp only [newExc, newTuple]
  refine wpAny_bind (wpAny_newObj_type ?_ (by size_fits))
  refine wpAny_bind (m := firstArgMember _ _) (wpAny_of_eq (a := Value.none) (by first | rfl | (simp only [firstArgMember] <;> rfl)) ?_)
  refine wpAny_newObj_type ?_ (by size_fits)
  unfold raiseNew
  refine wpAny_bind (wpAny_handled ?_)
  rw [hh]
  refine wpAny_bind (wpAny_pure (wpAny_throw ?_))
  exact h _ _ (fun b o e => Heap.get?_push_of_some _ (Heap.get?_push_of_some _ e)) ⟨_, Heap.get?_push_size _ rfl, rfl⟩
theorem zLast {z TI TO i1 i2 l1 l2 : Addr} {c : Value} {i : Nat} {xs ys : Array Value} {Q : Fin → Shared → Prop} (hh : A.handled = none) (D : ZA z TI TO i1 i2 l1 l2)
    (hz : IsZl s.heap z TI TO .none c (lives xs.size i + lives ys.size i)) (hc : ZCol s.heap TI i1 i2 l1 l2 xs.size i ys.size i) (hT : ∃ a b, IsTu s.heap TO a b)
    (hl1 : s.heap.IsList l1 xs) (hl2 : s.heap.IsList l2 ys) (hi : xs.size ≤ i ∧ ys.size ≤ i) (hj : i ≤ xs.size ∨ i ≤ ys.size)
    (hE : ∀ h' e, Kp z TI TO i1 i2 s.heap h' → (∃ o, h'.get? e = some o ∧ o.cls = .type "StopIteration") → E (.ref e) { s with heap := h' }) :
    wpAny (model prog w) A (Builtin.«itertools.zip_longest.__next__» ⟨[.ref z], []⟩) Q E s := by
  obtain ⟨a0, b0, hTO⟩ := hT
  obtain ⟨⟨a, b, hTI, ca, cb⟩⟩ := hc
  have run0 : ¬ ((lives xs.size i + lives ys.size i == 0) = true) := by
    unfold lives
    rcases hj with h | h
    · rw [if_pos (show i ≤ xs.size by omega)]
      split <;> decide
    · rw [if_pos (show i ≤ ys.size by omega)]
      split <;> decide
  show wpAny _ _ (Builtin.Itertools.itIntField (.ref z) 3 >>= _) _ _ _
  refine wpAny_bind (zInt hz ?_)
  show wpAny _ _ (if (lives xs.size i + lives ys.size i == 0) = true then _ else _) _ _ _
  rw [if_neg run0]
  show wpAny _ _ (field (.ref z) 4 >>= _) _ _ _
  refine wpAny_bind (wpAny_field hz rfl (x := .ref TI) rfl ?_)
  refine wpAny_bind (zPool hTI ?_)
  refine wpAny_bind (zFree hz ?_)
  simp only [if_true]
  refine wpAny_bind (wpAny_rule ?_)
  refine wpAny_bind (wpAny_field hz rfl (x := .ref TO) rfl ?_)
  refine wpAny_bind (zSet0 hz fun h1 hz1 k1 => ?_)
  rw [show List.range (#[a, b] : Array Value).size = [0, 1] from rfl]
  simp only [List.forIn_cons, List.forIn_nil]
  refine wpAny_bind ?_
  refine wpAny_bind ?_
  have hTI1 : IsTu h1 TI a b := k1.extBut _ _ D.TIz hTI
  have hTO1 : IsTu h1 TO a0 b0 := k1.extBut _ _ D.TOz hTO
  have kp1 : Kp z TI TO i1 i2 s.heap h1 := fun p o n1 n2 n3 n4 n5 e => k1.extBut _ _ n1 e
  have fin : ∀ {β : Type} {Q : β → Shared → Prop} (h2 : Heap) (run : Int), IsZl h2 z TI TO .ellipsis c run → Kp z TI TO i1 i2 s.heap h2 → ∀ f : Unit → Sem β,
      wpAny (model prog w) A (setField (.ref z) 0 Value.none >>= fun _ => (Builtin.Itertools.itStop : Sem Unit) >>= f) Q E { s with heap := h2 } := fun h2 run hz2 kp2 f => by
    refine wpAny_bind (zSet0 hz2 fun h3 hz3 k3 => ?_)
    exact wpAny_bind (zRaise hh fun h4 e k4 he => hE h4 e (fun p o n1 n2 n3 n4 n5 e => k4 _ _ (k3.extBut _ _ n1 (kp2 p o n1 n2 n3 n4 n5 e))) he)
  refine wpAny_bind (wpAny_mono (Q := fun r s' => (r = none ∧ ∃ h2, s' = { s with heap := h2 } ∧ IsZl h2 z TI TO .ellipsis c 0 ∧ Kp z TI TO i1 i2 s.heap h2) ∨ (r = some c ∧ ∃ h2, s' = { s with heap := h2 } ∧ IsZl h2 z TI TO .ellipsis c 1 ∧ (∃ a', IsTu h2 TI a' (.ref i2)) ∧
    h2.IsListIter i2 l2 i ∧ IsTu h2 TO a0 b0 ∧ Kp z TI TO i1 i2 s.heap h2)) (E := E) (wpAny_onRaise ?d1) ?r1 (fun _ _ x => x))
  case d1 =>
    show wpAny _ _ (field (.ref z) 4 >>= _) _ _ _
    refine wpAny_bind (wpAny_field hz1 rfl (x := .ref TI) rfl ?_)
    refine wpAny_bind (zPool hTI1 ?_)
    refine wpAny_bind (wpAny_field hz1 rfl (x := c) rfl ?_)
    rcases ca with ⟨rfl, q, le⟩ | ⟨rfl, lt, gn⟩
    · show wpAny _ _ (if (Value.ref i1 == Value.none) = true then _ else _) _ _ _
      rw [if_neg (fun z : (Value.ref i1 == Value.none) = true => Bool.false_ne_true z)]
      refine wpAny_bind (wpAny_onRaise (zEnd hh (q.extBut k1.extBut D.i1z) (hl1.extBut k1.extBut D.l1z) (Array.getElem?_eq_none_iff.mpr (by omega)) fun h2 k2 g2 _ => ?_))
      have hz2 := k2 _ _ D.i1z.symm hz1
      have hTI2 : IsTu h2 TI (.ref i1) b := k2 _ _ D.TIi1 hTI1
      show wpAny _ _ (Builtin.Itertools.itPoolItems (.ref TI) >>= _) _ _ _
      refine wpAny_bind (zPool hTI2 ?_)
      show wpAny _ _ (if (Value.ref i1 == Value.none) = true then _ else _) _ _ _
      rw [if_neg (fun z : (Value.ref i1 == Value.none) = true => Bool.false_ne_true z)]
      refine wpAny_bind (zInt hz2 ?_)
      rcases cb with ⟨rfl, r, le2⟩ | ⟨rfl, lt2, _⟩
      · have e1 : lives xs.size i + lives ys.size i = 2 := by unfold lives; rw [if_pos (by omega), if_pos (by omega)]; rfl
        rw [e1] at hz2 ⊢
        refine wpAny_bind (zSet3 hz2 fun h3 hz3 k3 => ?_)
        have hTI3 : IsTu h3 TI (.ref i1) (.ref i2) := k3.extBut _ _ D.TIz hTI2
        show wpAny _ _ (rule _ >>= _) _ _ _
        refine wpAny_bind (wpAny_rule ?_)
        refine wpAny_bind (wpAny_updateSeq_pair hTI3 fun h4 hTI4 k4 => ?_)
        refine wpAny_bind (wpAny_letGo (wpAny_pure ?_))
        exact .inr ⟨rfl, h4, rfl, k4.extBut _ _ D.TIz.symm hz3, ⟨_, hTI4⟩, (((r.extBut k1.extBut D.i2z).at fun o e => k2 _ _ D.i12.symm e).extBut k3.extBut D.i2z).extBut k4.extBut D.TIi2.symm,
          k4.extBut _ _ D.TITO.symm (k3.extBut _ _ D.TOz (k2 _ _ D.TOi1 hTO1)), fun p o n1 n2 n3 n4 n5 e => k4.extBut _ _ n2 (k3.extBut _ _ n1 (k2 _ _ n4 (kp1 p o n1 n2 n3 n4 n5 e)))⟩
      · have e1 : lives xs.size i + lives ys.size i = 1 := by unfold lives; rw [if_pos (by omega), if_neg (by omega)]; rfl
        rw [e1] at hz2 ⊢
        refine wpAny_bind (zSet3 hz2 fun h3 hz3 k3 => ?_)
        exact wpAny_pure (.inl ⟨rfl, h3, rfl, hz3, fun p o n1 n2 n3 n4 n5 e => k3.extBut _ _ n1 (k2 _ _ n4 (kp1 p o n1 n2 n3 n4 n5 e))⟩)
    · show wpAny _ _ (if (Value.none == Value.none) = true then _ else _) _ _ _
      rw [if_pos (show (Value.none == Value.none) = true by rfl)]
      rcases cb with ⟨rfl, r, le2⟩ | ⟨rfl, lt2, _⟩
      · have e1 : lives xs.size i + lives ys.size i = 1 := by unfold lives; rw [if_neg (by omega), if_pos (by omega)]; rfl
        rw [e1] at hz1
        exact wpAny_pure (.inr ⟨rfl, h1, rfl, hz1, ⟨_, hTI1⟩, r.extBut k1.extBut D.i2z, hTO1, kp1⟩)
      · omega
  rintro r _ (⟨rfl, h2, rfl, hz2, kp2⟩ | ⟨rfl, h2, rfl, hz2, ⟨a', hTI2⟩, q2, hTO2, kp2⟩)
  · exact fin h2 0 hz2 kp2 _
  show wpAny _ _ (Builtin.Itertools.itPoolItems (.ref TO) >>= _) _ _ _
  refine wpAny_bind (zPool hTO2 ?_)
  refine wpAny_bind (wpAny_updateSeq_pair hTO2 fun h3 hTO3 k3 => ?_)
  refine wpAny_bind (wpAny_letGo (wpAny_pure ?_))
  have hz3 := k3.extBut _ _ D.TOz.symm hz2
  have hTI3 : IsTu h3 TI a' (.ref i2) := k3.extBut _ _ D.TITO hTI2
  have kp3 : Kp z TI TO i1 i2 s.heap h3 := fun p o n1 n2 n3 n4 n5 e => k3.extBut _ _ n3 (kp2 p o n1 n2 n3 n4 n5 e)
  have hl23 : h3.IsList l2 ys := hl2.at fun o e => kp3 _ _ D.l2z D.l2TI D.l2TO D.l2i1 D.l2i2 e
  show wpAny _ _ (_ >>= _) _ _ _
  refine wpAny_bind ?_
  refine wpAny_bind (wpAny_mono (Q := fun r s' => r = none ∧ ∃ h2, s' = { s with heap := h2 } ∧ IsZl h2 z TI TO .ellipsis c 0 ∧ Kp z TI TO i1 i2 s.heap h2) (E := E) (wpAny_onRaise ?d2) ?r2 (fun _ _ x => x))
  case d2 =>
    show wpAny _ _ (field (.ref z) 4 >>= _) _ _ _
    refine wpAny_bind (wpAny_field hz3 rfl (x := .ref TI) rfl ?_)
    refine wpAny_bind (zPool hTI3 ?_)
    refine wpAny_bind (wpAny_field hz3 rfl (x := c) rfl ?_)
    show wpAny _ _ (if (Value.ref i2 == Value.none) = true then _ else _) _ _ _
    rw [if_neg (fun z : (Value.ref i2 == Value.none) = true => Bool.false_ne_true z)]
    refine wpAny_bind (wpAny_onRaise (zEnd hh (q2.extBut k3.extBut D.TOi2.symm) hl23 (Array.getElem?_eq_none_iff.mpr (by omega)) fun h4 k4 g4 _ => ?_))
    have hz4 := k4 _ _ D.i2z.symm hz3
    have hTI4 : IsTu h4 TI a' (.ref i2) := k4 _ _ D.TIi2 hTI3
    show wpAny _ _ (Builtin.Itertools.itPoolItems (.ref TI) >>= _) _ _ _
    refine wpAny_bind (zPool hTI4 ?_)
    show wpAny _ _ (if (Value.ref i2 == Value.none) = true then _ else _) _ _ _
    rw [if_neg (fun z : (Value.ref i2 == Value.none) = true => Bool.false_ne_true z)]
    refine wpAny_bind (zInt hz4 ?_)
    refine wpAny_bind (zSet3 hz4 fun h5 hz5 k5 => ?_)
    exact wpAny_pure ⟨rfl, h5, rfl, hz5, fun p o n1 n2 n3 n4 n5 e => k5.extBut _ _ n1 (k4 _ _ n5 (kp3 p o n1 n2 n3 n4 n5 e))⟩
  rintro r _ ⟨rfl, h4, rfl, hz4, kp4⟩
  exact fin h4 0 hz4 kp4 _
end
end CB.Z

namespace CB.Z
open PySem PySem.Spec PyProof.Rows L2
theorem zEntryIter : entryFor table "itertools.zip_longest.__iter__" = some Builtin.«dict_keyiterator.__iter__» :=
  entryFor_alias (id' := "dict_keyiterator.__iter__") (by kernel_rfl) (by first | decide +kernel | (unfold String.splitOn; simp +decide [String.splitOnAux])) (by decide +kernel) (by kernel_rfl)
section
variable {prog : Program} {w : World} {A : Around} {E : Value → Shared → Prop} {s : Shared}
theorem zNextItem {z TI TO i1 i2 l1 l2 : Addr} {c : Value} {i : Nat} {xs ys : Array Value} {Q : Option Value → Shared → Prop} (hh : A.handled = none) (D : ZA z TI TO i1 i2 l1 l2)
    (hz : IsZl s.heap z TI TO .none c (lives xs.size i + lives ys.size i)) (hc : ZCol s.heap TI i1 i2 l1 l2 xs.size i ys.size i) (hT : ∃ a b, IsTu s.heap TO a b)
    (hl1 : s.heap.IsList l1 xs) (hl2 : s.heap.IsList l2 ys) (hi : i < xs.size ∨ i < ys.size)
    (hQ : ∀ h' T, s.heap.objs.size ≤ T → IsZl h' z TI TO (rawInt T) c (lives xs.size (i + 1) + lives ys.size (i + 1)) → ZCol h' TI i1 i2 l1 l2 xs.size (i + 1) ys.size (i + 1) → (∃ a b, IsTu h' TO a b) →
      IsTu h' T (xs.getD i c) (ys.getD i c) → Kp z TI TO i1 i2 s.heap h' → Q (some (.ref T)) { s with heap := h' }) : wpAny (model prog w) A (pyNext (.ref z)) Q E s := by
  have ty : s.TypeIs (.ref z) "itertools.zip_longest" := ⟨_, hz, rfl⟩
  unfold pyNext
  refine wpAny_bind (wpAny_attempt (wpAny_callSpecial?_slot (name := Str.ofString "__next__") ty zSlotNext (wpAny_call_entry zSlotNext ty zEntryNext ?_ (zArgsNext _))))
  exact zItem hh D hz hc hT hl1 hl2 hi fun h' T g a1 a2 a3 a4 a5 => wpAny_pure (hQ h' T g a1 a2 a3 a4 a5)
theorem zNextLast {z TI TO i1 i2 l1 l2 : Addr} {c : Value} {i : Nat} {xs ys : Array Value} {Q : Option Value → Shared → Prop} (hh : A.handled = none) (D : ZA z TI TO i1 i2 l1 l2)
    (hz : IsZl s.heap z TI TO .none c (lives xs.size i + lives ys.size i)) (hc : ZCol s.heap TI i1 i2 l1 l2 xs.size i ys.size i) (hT : ∃ a b, IsTu s.heap TO a b)
    (hl1 : s.heap.IsList l1 xs) (hl2 : s.heap.IsList l2 ys) (hi : xs.size ≤ i ∧ ys.size ≤ i) (hj : i ≤ xs.size ∨ i ≤ ys.size)
    (hQ : ∀ h', Kp z TI TO i1 i2 s.heap h' → Q none { s with heap := h' }) : wpAny (model prog w) A (pyNext (.ref z)) Q E s := by
  have ty : s.TypeIs (.ref z) "itertools.zip_longest" := ⟨_, hz, rfl⟩
  unfold pyNext
  refine wpAny_bind (wpAny_attempt (wpAny_callSpecial?_slot (name := Str.ofString "__next__") ty zSlotNext (wpAny_call_entry zSlotNext ty zEntryNext ?_ (zArgsNext _))))
  refine zLast hh D hz hc hT hl1 hl2 hi hj fun h' e k he => ?_
  obtain ⟨o, ho, hc⟩ := he
  refine wpAny_bind (wpAny_isInstance (T := "StopIteration") (b := true) ⟨o, ho, hc⟩ isSubtype_stop ?_)
  exact wpAny_pure (hQ _ k)
theorem zGo {elts : List Expr} {x1 : Nat} {pos : Pos} {z TI TO T : Addr} {c : Value} {run : Int} {Q : Unit → Shared → Prop} (hz : IsZl s.heap z TI TO (rawInt T) c run)
    (hQ : ∀ h', IsZl h' z TI TO .none c run → Heap.SameBut z s.heap h' → Q () { s with heap := h' }) : wpAny (model prog w) A (letOwnedTupleGo (.Tuple elts x1 pos) (.ref z) (.ref T)) Q E s := by
  unfold letOwnedTupleGo
  refine wpAny_bind (wpAny_load hz ?_)
  show wpAny _ _ (if (_ && (#[rawInt T, .bool false, c, rawInt run, .ref TI, .ref TO] : Array Value)[0]? == some (rawInt T)) = true then _ else _) Q E s
  rw [if_pos (by simp)]
  refine wpAny_bind (wpAny_rule ?_)
  exact zSet0 hz hQ
theorem zIter {z TI TO : Addr} {f0 c : Value} {run : Int} {Q : Value → Shared → Prop} (hz : IsZl s.heap z TI TO f0 c run) (h : Q (.ref z) s) : wpAny (model prog w) A (pyIter (.ref z)) Q E s := by
  have ty : s.TypeIs (.ref z) "itertools.zip_longest" := ⟨_, hz, rfl⟩
  refine wpAny_pyIter_slot ty zSlotIter (wpAny_call_entry zSlotIter ty zEntryIter ?_ (zArgsIter _))
  exact wpAny_pure ⟨_, rfl, "itertools.zip_longest", _, ty, zSlotNext.lookup, h⟩
theorem zCall {l1 l2 : Addr} {xs ys : Array Value} {c : Value} {Q : Value → Shared → Prop} (hl1 : s.heap.IsList l1 xs) (hl2 : s.heap.IsList l2 ys)
    (h : ∀ h', IsZl h' (s.heap.objs.size + 4) (s.heap.objs.size + 2) (s.heap.objs.size + 3) .none c 2 → IsTu h' (s.heap.objs.size + 2) (.ref s.heap.objs.size) (.ref (s.heap.objs.size + 1)) →
      IsTu h' (s.heap.objs.size + 3) .none .none → h'.IsListIter s.heap.objs.size l1 0 → h'.IsListIter (s.heap.objs.size + 1) l2 0 → (∀ b o, s.heap.get? b = some o → h'.get? b = some o) → Q (.ref (s.heap.objs.size + 4)) { s with heap := h' }) :
    wpAny (model prog w) A (call (.type "itertools.zip_longest") [.ref l1, .ref l2] [(Str.ofString "fillvalue", c)]) Q E s := by
  refine callType_newKw zCalled (by decide) (zTypeCall _ _ _) (zNewCall _ _ _) (fun obj => zInitArgs obj _ _ _) zEntryNew (zMeetsNew l1 l2 xs ys c) ⟨hl1, hl2, ?_⟩
  generalize hn : s.heap.objs.size = n at h ⊢
  have a1 : (zA s.heap l1).objs.size = n + 1 := by rw [Heap.size_push, hn]
  have a2 : (zB s.heap l1 l2).objs.size = n + 2 := by rw [Heap.size_push, a1]
  have a3 : (zC s.heap l1 l2).objs.size = n + 3 := by rw [Heap.size_push, a2]
  have a4 : (zD s.heap l1 l2).objs.size = n + 4 := by rw [Heap.size_push, a3]
  have b1 := Heap.get?_push_size s.heap (o := ItO l1) rfl
  have b2 := Heap.get?_push_size (zA s.heap l1) (o := ItO l2) rfl
  have b3 := Heap.get?_push_size (zB s.heap l1 l2) (o := TuO (.ref s.heap.objs.size) (.ref (zA s.heap l1).objs.size)) rfl
  have b4 := Heap.get?_push_size (zC s.heap l1 l2) (o := TuO .none .none) rfl
  have b5 := Heap.get?_push_size (zD s.heap l1 l2) (o := ZlO .none c 2 (zB s.heap l1 l2).objs.size (zC s.heap l1 l2).objs.size) rfl
  have up : ∀ b o, s.heap.get? b = some o → (zH s.heap l1 l2 c).get? b = some o := fun b o e => Heap.get?_push_of_some _ (Heap.get?_push_of_some _ (Heap.get?_push_of_some _ (Heap.get?_push_of_some _ (Heap.get?_push_of_some _ e))))
  have u1 : (zH s.heap l1 l2 c).get? s.heap.objs.size = some _ := Heap.get?_push_of_some _ (Heap.get?_push_of_some _ (Heap.get?_push_of_some _ (Heap.get?_push_of_some _ b1)))
  have u2 : (zH s.heap l1 l2 c).get? (zA s.heap l1).objs.size = some _ := Heap.get?_push_of_some _ (Heap.get?_push_of_some _ (Heap.get?_push_of_some _ b2))
  have u3 : (zH s.heap l1 l2 c).get? (zB s.heap l1 l2).objs.size = some _ := Heap.get?_push_of_some _ (Heap.get?_push_of_some _ b3)
  have u4 : (zH s.heap l1 l2 c).get? (zC s.heap l1 l2).objs.size = some _ := Heap.get?_push_of_some _ b4
  have u5 : (zH s.heap l1 l2 c).get? (zD s.heap l1 l2).objs.size = some _ := b5
  show _ ∧ _
  rw [hn] at u1
  rw [a1] at u2
  rw [a2, hn, a1] at u3
  rw [a3] at u4
  rw [a4, a2, a3] at u5
  rw [a4]
  exact ⟨⟨_, u5, rfl⟩, h _ u5 u3 u4 ⟨_, u1, rfl, rfl⟩ ⟨_, u2, rfl, rfl⟩ up⟩
end
end CB.Z

namespace CB.Z
open PySem PySem.Spec PyProof.Rows L2
/-- the lists xs at a and ys at b in step, the shorter one filled up -/
def ItZl (K : PySem.W.Frag) (a b : Addr) (xs ys : List V) (n : Int) : It :=
  ⟨fun i H => SqL K H a xs ∧ SqL K H b ys ∧ (i < xs.length ∨ i < ys.length),
    fun i H v H' => ∃ T, v = .ref T ∧ H T = none ∧ H' = upd H T (.tup [xs.getD i (.int n), ys.getD i (.int n)]),
    fun i H => SqL K H a xs ∧ SqL K H b ys ∧ xs.length ≤ i ∧ ys.length ≤ i⟩
theorem relGetD {xs : List V} {us : List Value} {n : Int} {t : Tok} (r : Vals xs us) (i : Nat) : RelV (xs.getD i (.int n)) (us.toArray.getD i (.int n t)) := by
  have l := r.length
  by_cases h : i < xs.length
  · obtain ⟨u, hu, ru⟩ := r.get (List.getElem?_eq_getElem h)
    have e1 : xs.getD i (.int n) = xs[i] := by rw [List.getD_eq_getElem?_getD, List.getElem?_eq_getElem h]; rfl
    have e2 : us.toArray.getD i (.int n t) = u := by rw [Array.getD_eq_getD_getElem?]; simp [hu]
    rw [e1, e2]
    exact ru
  · have e1 : xs.getD i (.int n) = .int n := by rw [List.getD_eq_getElem?_getD, List.getElem?_eq_none (by omega)]; rfl
    have e2 : us.toArray.getD i (.int n t) = .int n t := by
      rw [Array.getD_eq_getD_getElem?, Array.getElem?_eq_none (by simp; omega)]
      rfl
    rw [e1, e2]
    exact ⟨t, rfl⟩
theorem turnZl {P : Program} {w : World} {K : PySem.W.Frag} {elts : List Expr} {kk : Nat} {tpos : Pos} {a b z TI TO i1 i2 : Addr} {xs ys : List V} {n : Int} {t : Tok} (D : ZA z TI TO i1 i2 a b) :
    Turn P w K (.Tuple elts kk tpos) (ItZl K a b xs ys n) [z, TI, TO, i1, i2] z (fun i h => IsZl h z TI TO .none (.int n t) (lives xs.length i + lives ys.length i) ∧ ZCol h TI i1 i2 a b xs.length i ys.length i ∧ (∃ x y, IsTu h TO x y) ∧ (i ≤ xs.length ∨ i ≤ ys.length)) where
  mem := by simp
  obj := fun i h st c hc => by
    obtain ⟨hz, ⟨⟨x, y, hTI, ca, cb⟩⟩, ⟨x2, y2, hTO⟩, _⟩ := st
    have gone : ∀ {e : Value} {it l : Addr} {m j : Nat}, Col h e it l m j → ∃ o, h.get? it = some o ∧ ∀ v, o.data ≠ .cell v := fun c => by
      rcases c with ⟨_, ⟨o, g, _, d⟩, _⟩ | ⟨_, _, o, vs, g, d⟩
      · exact ⟨o, g, fun v q => by rw [d] at q; cases q⟩
      · exact ⟨o, g, fun v q => by rw [d] at q; cases q⟩
    simp only [List.mem_cons, List.not_mem_nil, or_false] at hc
    rcases hc with rfl | rfl | rfl | rfl | rfl
    · exact ⟨_, hz, fun v q => nomatch q⟩
    · exact ⟨_, hTI, fun v q => nomatch q⟩
    · exact ⟨_, hTO, fun v q => nomatch q⟩
    · exact gone ca
    · exact gone cb
  keep := fun i h h' st k => by
    obtain ⟨hz, ⟨⟨x, y, hTI, ca, cb⟩⟩, ⟨x2, y2, hTO⟩, q⟩ := st
    exact ⟨k z (by simp) _ hz, ⟨_, _, k TI (by simp) _ hTI, ca.ext fun o e => k i1 (by simp) o e, cb.ext fun o e => k i2 (by simp) o e⟩, ⟨_, _, k TO (by simp) _ hTO⟩, q⟩
  item := by
    intro X hP hw hK hc i pins s σ H E I hf st hg
    subst hP hw hK
    obtain ⟨hz, hcol, hTO, hij⟩ := st
    obtain ⟨hqx, hqy, hi⟩ := hg
    obtain ⟨us, rv, p, _⟩ := I.list hqx
    obtain ⟨us2, rv2, p2, _⟩ := I.list hqy
    have n1 : us.toArray.size = xs.length := by rw [List.size_toArray, rv.length]
    have n2 : us2.toArray.size = ys.length := by rw [List.size_toArray, rv2.length]
    rw [← n1, ← n2] at hz hcol hi
    refine zNextItem (I.ok.hd hc) D hz hcol hTO p.isList p2.isList hi fun h' T hle hz' hcol' hTO' hT kp => ?_
    refine ⟨_, rfl, zGo (s := { s with heap := h' }) hz' fun h'' hz'' sb => ?_⟩
    have zlt : z < s.heap.objs.size := Heap.lt_size hz
    have Tz : T ≠ z := Nat.ne_of_gt (Nat.lt_of_lt_of_le zlt hle)
    have hT2 : h''.get? T = some (TuO (us.toArray.getD i (.int n t)) (us2.toArray.getD i (.int n t))) := sb.extBut _ _ Tz hT
    have new : ObjOk X.prog X.w (upd H T (.tup [xs.getD i (.int n), ys.getD i (.int n)])) h'' T (.tup [xs.getD i (.int n), ys.getD i (.int n)]) :=
      ⟨by show 2 ≤ sizeLine; decide, [us.toArray.getD i (.int n t), us2.toArray.getD i (.int n t)], .cons (relGetD rv i) (.cons (relGetD rv2 i) .nil), ⟨_, hT2, rfl, _, rfl⟩⟩
    have I1 : Inv X pins σ (upd H T (.tup [xs.getD i (.int n), ys.getD i (.int n)])) { s with heap := h'' } :=
      I.turnedNew (t' := s.toks) (ch := [z, TI, TO, i1, i2]) (fun c o hb q => sb.extBut _ _ (fun e => hb (by simp [e])) (kp c o (fun e => hb (by simp [e])) (fun e => hb (by simp [e])) (fun e => hb (by simp [e])) (fun e => hb (by simp [e])) (fun e => hb (by simp [e])) q)) hf hle new
    rw [n1, n2] at hz'' hcol'
    obtain ⟨⟨x3, y3, hTI3, ca3, cb3⟩⟩ := hcol'
    obtain ⟨x4, y4, hTO4⟩ := hTO'
    refine ⟨.ref T, _, I1, rfl, ⟨T, rfl, I.hok.fresh hle, rfl⟩, ⟨hz'', ⟨_, _, sb.extBut _ _ D.TIz hTI3, ca3.ext fun o e => sb.extBut _ _ D.i1z e, cb3.ext fun o e => sb.extBut _ _ D.i2z e⟩, ⟨_, _, sb.extBut _ _ D.TOz hTO4⟩, by omega⟩, fun c hcm => ?_⟩
    have hcn := (hf c hcm).1
    have ne : c ≠ T := fun e => by
      obtain ⟨o, g, _⟩ : ∃ o, s.heap.get? c = some o ∧ True := by
        obtain ⟨⟨x5, y5, hTI5, ca5, cb5⟩⟩ := hcol
        obtain ⟨x6, y6, hTO6⟩ := hTO
        have gone : ∀ {e : Value} {it l : Addr} {m j : Nat}, Col s.heap e it l m j → ∃ o, s.heap.get? it = some o ∧ True := fun c => by
          rcases c with ⟨_, ⟨o, g, _, d⟩, _⟩ | ⟨_, _, o, vs, g, d⟩
          · exact ⟨o, g, trivial⟩
          · exact ⟨o, g, trivial⟩
        simp only [List.mem_cons, List.not_mem_nil, or_false] at hcm
        rcases hcm with rfl | rfl | rfl | rfl | rfl
        · exact ⟨_, hz, trivial⟩
        · exact ⟨_, hTI5, trivial⟩
        · exact ⟨_, hTO6, trivial⟩
        · exact gone ca5
        · exact gone cb5
      have := Heap.lt_size g
      rw [e] at this
      exact absurd (Nat.lt_of_lt_of_le this hle) (Nat.lt_irrefl _)
    rw [upd_ne ne]
    exact hcn
  done := by
    intro X hP hw hK hc i pins s σ H E I hf st hg
    subst hP hw hK
    obtain ⟨hz, hcol, hTO, hij⟩ := st
    obtain ⟨hqx, hqy, hi⟩ := hg
    obtain ⟨us, rv, p, _⟩ := I.list hqx
    obtain ⟨us2, rv2, p2, _⟩ := I.list hqy
    have n1 : us.toArray.size = xs.length := by rw [List.size_toArray, rv.length]
    have n2 : us2.toArray.size = ys.length := by rw [List.size_toArray, rv2.length]
    rw [← n1, ← n2] at hz hcol hi hij
    exact zNextLast (I.ok.hd hc) D hz hcol hTO p.isList p2.isList hi hij fun h' kp => ⟨rfl, I.turnedL (t' := s.toks) (ch := [z, TI, TO, i1, i2]) (fun c o hb q =>
      kp c o (fun e => hb (by simp [e])) (fun e => hb (by simp [e])) (fun e => hb (by simp [e])) (fun e => hb (by simp [e])) (fun e => hb (by simp [e])) q) hf⟩
  self := fun A i s Q E st h => zIter st.1 h
def iZipL (K : PySem.W.Frag) (ta tk : TA) : TI := fun σ H R => ta σ H fun vs H1 => tk σ H1 fun ks H2 => ∃ a b xs ys n, vs = [.ref a, .ref b] ∧ ks = [.int n] ∧ SqL K H2 a xs ∧ SqL K H2 b ys ∧ R (ItZl K a b xs ys n) H2
theorem callTK {M : Model} {A : Around} {E : Value → Shared → Prop} {s : Shared} {env : Env} {pos : Pos} {T : String} {e : Expr} {rest : List Expr} {kws : List Keyword} {Q : Value → Shared → Prop}
    (h : wpAny M A (spliced (backTo pos (starEach (e :: rest) env))) (fun vs s₁ => wpAny M A (evalAll ((backToKw pos (keywordEach kws env)).map (·.2)))
      (fun ws s₂ => wpAny M A (call (.type T) vs (((backToKw pos (keywordEach kws env)).filterMap (·.1)).zip ws)) Q E s₂) E s₁) E s)
    (h1 : backTo pos (starEach (e :: rest) env) = (false, eval e env) :: backTo pos (starEach rest env)) (h2 : (backTo pos (starEach (e :: rest) env)).any (·.1) = false)
    (h3 : (backToKw pos (keywordEach kws env)).all (·.1.isSome) = true) (h4 : (backToKw pos (keywordEach kws env)).any (·.1.isNone) = false) :
    wpAny M A (callWith pos (.type T) [] (backTo pos (starEach (e :: rest) env)) (backToKw pos (keywordEach kws env))) Q E s := by
  have g : wpAny M A (evalArgs (.type T) true (backTo pos (starEach (e :: rest) env)) (backToKw pos (keywordEach kws env))) (fun a s₁ => wpAny M A (call (.type T) ([] ++ a.pos) a.kw) Q E s₁) E s := by
    rw [h1] at h ⊢
    exact evalArgs_kwB h3 h
  unfold callWith
  refine wpAny_bind (wpAny_holding (wpAny_mono g (fun a s₁ q => wpAny_bind (wpAny_standAt ?_)) fun _ _ x => x))
  simp only [h2, h4, Bool.or_false]
  refine wpAny_bind (wpAny_pure (wpAny_bind (wpAny_mono q (fun r s₂ hr => ?_) fun _ _ x => x)))
  exact wpAny_bind (wpAny_holding (wpAny_point (wpAny_pure hr)))
theorem pi_zipL {X : Cx} {e e2 ev : Expr} {ta tk : TA} {p pos tpos kp : Pos} {elts : List Expr} {kk : Nat} (hg : Gl X "zip_longest") (hm : X.mg "zip_longest" = some (.type "itertools.zip_longest")) (ha : PA X [e, e2] ta)
    (hk : PK X [⟨some "fillvalue", ev, kp⟩] tk) (h1 : backTo pos (starEach [e, e2] X.env) = (false, eval e X.env) :: backTo pos (starEach [e2] X.env) := by rfl) (h2 : (backTo pos (starEach [e, e2] X.env)).any (·.1) = false := by rfl) :
    PI X (.Tuple elts kk tpos) (.Call (.Name "zip_longest" p) [e, e2] [⟨some "fillvalue", ev, kp⟩] pos) (iZipL X.K ta tk) := by
  refine ⟨fun pins s σ H R I h => ?_⟩
  refine wpAny_Call_Name_kw (ld_glob I hg hm ?_ (by decide))
  refine callTK (thn (ha.run pos pins s σ H _ I h) fun us s1 q => ?_) h1 h2 rfl rfl
  obtain ⟨vs, H1, I1, r1, q1⟩ := q
  refine thn (hk.run pos pins s1 σ H1 _ I1 q1) fun ws s2 q => ?_
  obtain ⟨ks, H2, I2, r2, a, b, xs, ys, n, ev, ek, hqx, hqy, q2⟩ := q
  subst ev ek
  cases r1 with
  | cons ra rr =>
    cases rr with
    | cons rb rr =>
      cases rr
      cases ra
      cases rb
      cases r2 with
      | cons rn rr =>
        cases rr
        obtain ⟨t, rfl⟩ := rn
        obtain ⟨us, rv, p1, _⟩ := I2.list hqx
        obtain ⟨us2, rv2, p2, _⟩ := I2.list hqy
        have la : a < s2.heap.objs.size := p1.lt
        have lb : b < s2.heap.objs.size := p2.lt
        refine zCall p1.isList p2.isList fun h' hz hTI hTO h1 h2 hk => zIter hz ?_
        have D : ZA (s2.heap.objs.size + 4) (s2.heap.objs.size + 2) (s2.heap.objs.size + 3) s2.heap.objs.size (s2.heap.objs.size + 1) a b :=
          { toZipApart := PySem.W.ktu_apart s2.heap.objs.size a b la lb, l1TI := Nat.ne_of_lt (Nat.lt_add_right 2 la), l2TI := Nat.ne_of_lt (Nat.lt_add_right 2 lb) }
        have I3 : Inv X pins σ H2 { s2 with heap := h' } := I2.kept (t' := s2.toks) hk
        refine ⟨s2.heap.objs.size + 4, [s2.heap.objs.size + 4, s2.heap.objs.size + 2, s2.heap.objs.size + 3, s2.heap.objs.size, s2.heap.objs.size + 1], _, _, H2, rfl, I3, turnZl (xs := xs) (ys := ys) (n := n) (t := t) D,
          ⟨by unfold lives; rw [if_pos (Nat.zero_le _), if_pos (Nat.zero_le _)]; exact hz, ⟨_, _, hTI, .inl ⟨rfl, h1, Nat.zero_le _⟩, .inl ⟨rfl, h2, Nat.zero_le _⟩⟩, ⟨_, _, hTO⟩, .inl (Nat.zero_le _)⟩, fun c hcm => ?_, q2⟩
        have hle : s2.heap.objs.size ≤ c := by
          simp only [List.mem_cons, List.not_mem_nil, or_false] at hcm
          rcases hcm with z | z | z | z | z <;> (rw [z]; omega)
        exact I2.fpOk hle (I2.hok.fresh hle)
end CB.Z

namespace CB.Z
open PySem PySem.Spec PyProof.Rows L2
/-- the reading of a comprehension over zip_longest -/
theorem lc_zl {K : PySem.W.Frag} {a b : Addr} {xs ys : List V} {n : Int} {g : TG} {tt : TT} {te : TE} {vs : List Nat} {σ : L2.St} {H1 : Hp} {D : Addr} {Qd : Hp → Prop} (Pv : Nat → Hp → Prop) (h0 : Pv 0 (upd H1 D (.lst [])))
    (hq : ∀ i H, Pv i H → SqL K H a xs ∧ SqL K H b ys)
    (hs : ∀ i T H, (i < xs.length ∨ i < ys.length) → Pv i H → H T = none → g (.ref T) (wipe σ vs) (upd H T (.tup [xs.getD i (.int n), ys.getD i (.int n)])) fun σ2 H2 => wipe σ2 vs = wipe σ vs ∧ tt σ2 H2 fun k H3 =>
      if k = true then te σ2 H3 fun y H4 => ∃ acc, H4 D = some (.lst acc) ∧ acc.length < sizeLine ∧ Pv (i + 1) (upd H4 D (.lst (acc ++ [y]))) else Pv (i + 1) H3)
    (hd : ∀ H, Pv (max xs.length ys.length) H → Qd H) :
    ∃ W : Nat → Nat → Hp → Prop, (∃ m, W 0 m (upd H1 D (.lst []))) ∧ ∀ i m H, W i m H →
      ((ItZl K a b xs ys n).stop i H ∧ Qd H) ∨ ((ItZl K a b xs ys n).go i H ∧ ∃ Nx : Hp → Prop, (∀ H', Nx H' → ∃ m', m' < m ∧ W (i + 1) m' H') ∧
        ∀ x H', (ItZl K a b xs ys n).yld i H x H' → g x (wipe σ vs) H' fun σ2 H2 => wipe σ2 vs = wipe σ vs ∧ tt σ2 H2 fun k H3 =>
          if k = true then te σ2 H3 fun y H4 => ∃ acc, H4 D = some (.lst acc) ∧ acc.length < sizeLine ∧ Nx (upd H4 D (.lst (acc ++ [y]))) else Nx H3) := by
  refine ⟨fun i m H => m = max xs.length ys.length - i ∧ i ≤ max xs.length ys.length ∧ Pv i H, ⟨_, rfl, Nat.zero_le _, h0⟩, fun i m H hw => ?_⟩
  obtain ⟨rfl, hi, p⟩ := hw
  obtain ⟨qa, qb⟩ := hq i H p
  by_cases lt : i < max xs.length ys.length
  · refine .inr ⟨⟨qa, qb, by omega⟩, Pv (i + 1), fun H' p' => ⟨_, by omega, rfl, lt, p'⟩, fun x H' y => ?_⟩
    obtain ⟨T, rfl, nT, rfl⟩ := y
    exact hs i T H (by omega) p nT
  · have e : i = max xs.length ys.length := by omega
    subst e
    exact .inl ⟨⟨qa, qb, by omega, by omega⟩, hd H p⟩
end CB.Z

namespace CB
open PySem PySem.Spec PyProof.Rows L2
/-- n is where xs ends without its last zeros -/
structure Trim (xs : List Int) (n : Nat) : Prop where
  le : n ≤ xs.length
  up : ∀ k, n ≤ k → xs.getD k 0 = 0
  at_ : n = 0 ∨ xs.getD (n - 1) 0 ≠ 0
theorem getD_take {xs : List Int} {n k : Nat} : (xs.take n).getD k 0 = if k < n then xs.getD k 0 else 0 := by
  rw [List.getD_eq_getElem?_getD, List.getD_eq_getElem?_getD, List.getElem?_take]
  split <;> rfl
theorem Trim.take {xs : List Int} {n : Nat} (t : Trim xs n) (k : Nat) : (xs.take n).getD k 0 = xs.getD k 0 := by
  rw [getD_take]
  split
  · rfl
  · exact (t.up k (by omega)).symm
theorem getD_map {f : Int → Int} (h : f 0 = 0) (xs : List Int) (k : Nat) : (xs.map f).getD k 0 = f (xs.getD k 0) := by
  rw [List.getD_eq_getElem?_getD, List.getD_eq_getElem?_getD, List.getElem?_map]
  cases xs[k]? with
  | none => exact h.symm
  | some x => rfl
theorem getD_mem {xs : List Int} {k : Nat} (h : k < xs.length) : xs.getD k 0 ∈ xs := by
  rw [List.getD_eq_getElem?_getD, List.getElem?_eq_getElem h]
  exact List.getElem_mem h
theorem getD_of {xs : List Int} {k : Nat} {x : Int} (h : xs[k]? = some x) : xs.getD k 0 = x := by rw [List.getD_eq_getElem?_getD, h]; rfl
theorem getD_end {xs : List Int} {k : Nat} (h : xs.length ≤ k) : xs.getD k 0 = 0 := by rw [List.getD_eq_getElem?_getD, List.getElem?_eq_none h]; rfl
theorem get_of_lt {xs : List Int} {k : Nat} (h : k < xs.length) : xs[k]? = some (xs.getD k 0) := by rw [List.getD_eq_getElem?_getD, List.getElem?_eq_getElem h]; rfl
theorem list_ext {xs ys : List Int} (h : xs.length = ys.length) (e : ∀ k, xs.getD k 0 = ys.getD k 0) : xs = ys := by
  refine List.ext_getElem? fun k => ?_
  by_cases c : k < xs.length
  · rw [get_of_lt c, get_of_lt (by omega), e]
  · rw [List.getElem?_eq_none (by omega), List.getElem?_eq_none (by omega)]
/-! ### the greatest common divisor of a list -/
def gcdL (xs : List Int) : Nat := xs.foldl (fun g x => Nat.gcd g x.natAbs) 0
theorem foldg_dvd (xs : List Int) : ∀ g : Nat, xs.foldl (fun g x => Nat.gcd g x.natAbs) g ∣ g ∧ ∀ x ∈ xs, xs.foldl (fun g x => Nat.gcd g x.natAbs) g ∣ x.natAbs := by
  induction xs with
  | nil => intro g; exact ⟨Nat.dvd_refl _, fun x h => absurd h (by simp)⟩
  | cons y r ih =>
    intro g
    obtain ⟨h1, h2⟩ := ih (Nat.gcd g y.natAbs)
    refine ⟨Nat.dvd_trans h1 (Nat.gcd_dvd_left _ _), fun x hx => ?_⟩
    rcases List.mem_cons.mp hx with rfl | hx
    · exact Nat.dvd_trans h1 (Nat.gcd_dvd_right _ _)
    · exact h2 x hx
theorem foldg_great (xs : List Int) {d : Nat} : ∀ g : Nat, d ∣ g → (∀ x ∈ xs, d ∣ x.natAbs) → d ∣ xs.foldl (fun g x => Nat.gcd g x.natAbs) g := by
  induction xs with
  | nil => intro g h _; exact h
  | cons y r ih => intro g h h2; exact ih _ (Nat.dvd_gcd h (h2 y (by simp))) fun x hx => h2 x (by simp [hx])
theorem gcdL_dvd {xs : List Int} {x : Int} (h : x ∈ xs) : gcdL xs ∣ x.natAbs := (foldg_dvd xs 0).2 x h
theorem gcdL_great {xs : List Int} {d : Nat} (h : ∀ x ∈ xs, d ∣ x.natAbs) : d ∣ gcdL xs := foldg_great xs 0 (Nat.dvd_zero d) h
theorem gcdL_more {xs : List Int} {i : Nat} {x : Int} (h : xs[i]? = some x) : gcdL (xs.take (i + 1)) = Nat.gcd (gcdL (xs.take i)) x.natAbs := by
  unfold gcdL
  rw [List.take_succ, h, List.foldl_append]
  rfl
theorem gcdL_one {xs : List Int} {i : Nat} (h : gcdL (xs.take i) = 1) : gcdL xs = 1 := by
  have z : gcdL xs ∣ gcdL (xs.take i) := gcdL_great fun x hx => gcdL_dvd (List.mem_of_mem_take hx)
  rw [h] at z
  exact Nat.eq_one_of_dvd_one z
/-! ### the one form -/
/-- ks / e is the one form of cs / d -/
structure Pq (cs : List Int) (d : Int) (ks : List Int) (e : Int) : Prop where
  eq : ∀ i, ks.getD i 0 * d = cs.getD i 0 * e
  pos : 0 < e
  last : ks = [] ∨ ks.getD (ks.length - 1) 0 ≠ 0
  cop : ∀ g : Int, g ∣ e → (∀ i, g ∣ ks.getD i 0) → g ∣ 1
theorem Pq.len {cs : List Int} {d : Int} {ks : List Int} {e : Int} (p : Pq cs d ks e) (hd : d ≠ 0) : ks.length ≤ cs.length := Decidable.byContradiction fun c => by
  rcases p.last with h | h
  · rw [h] at c; simp at c
  · have z := p.eq (ks.length - 1)
    rw [getD_end (xs := cs) (by omega), Int.zero_mul] at z
    rcases Int.mul_eq_zero.mp z with z | z
    · exact h z
    · exact hd z
/-- the same polynomial by another pair -/
theorem Pq.conv {cs cs' : List Int} {d d' : Int} {ks : List Int} {e : Int} (p : Pq cs d ks e) (hd : d ≠ 0) (h : ∀ i, cs.getD i 0 * d' = cs'.getD i 0 * d) : Pq cs' d' ks e := by
  refine ⟨fun i => ?_, p.pos, p.last, p.cop⟩
  have z := p.eq i
  have z2 := h i
  have : (ks.getD i 0 * d') * d = (cs'.getD i 0 * e) * d := by grind
  exact Int.eq_of_mul_eq_mul_right hd this
theorem Pq.den_dvd {cs : List Int} {d : Int} {ks ks' : List Int} {e e' : Int} (p : Pq cs d ks e) (p' : Pq cs d ks' e') (hd : d ≠ 0) : e ∣ e' := by
  have cross : ∀ i, ks.getD i 0 * e' = ks'.getD i 0 * e := fun i => by
    have z := p.eq i
    have z2 := p'.eq i
    have : (ks.getD i 0 * e') * d = (ks'.getD i 0 * e) * d := by grind
    exact Int.eq_of_mul_eq_mul_right hd this
  have pe := p.pos
  obtain ⟨g, x, y, _, g0, ex, ey, cxy, _, _⟩ := gcd_parts (n := e) (d := e') (.inl (by omega))
  have hx : ∀ i, x ∣ ks.getD i 0 := fun i => by
    have z := cross i
    rw [ex, ey] at z
    have z2 : ks.getD i 0 * y = ks'.getD i 0 * x := by
      have : (ks.getD i 0 * y) * g = (ks'.getD i 0 * x) * g := by grind
      exact Int.eq_of_mul_eq_mul_right (by omega) this
    exact dvd_of_cop (a := y) ⟨ks'.getD i 0, by grind⟩ cxy.symm
  have h1 := p.cop x ⟨g, by rw [ex]; grind⟩ hx
  obtain ⟨u, hu⟩ := h1
  refine ⟨y * u, ?_⟩
  rw [ey, ex]
  grind
theorem Pq.uniq {cs : List Int} {d : Int} {ks ks' : List Int} {e e' : Int} (p : Pq cs d ks e) (p' : Pq cs d ks' e') (hd : d ≠ 0) : ks = ks' ∧ e = e' := by
  have h1 := p.den_dvd p' hd
  have h2 := p'.den_dvd p hd
  have q1 := p.pos
  have q2 := p'.pos
  have ee : e = e' := by
    have z1 := natAbs_le_of_dvd h1 (by omega)
    have z2 := natAbs_le_of_dvd h2 (by omega)
    omega
  subst ee
  have same : ∀ i, ks.getD i 0 = ks'.getD i 0 := fun i => by
    have z1 := p.eq i
    have z2 := p'.eq i
    exact Int.eq_of_mul_eq_mul_right hd (z1.trans z2.symm)
  refine ⟨list_ext ?_ same, rfl⟩
  have le : ∀ {as bs : List Int}, (∀ i, as.getD i 0 = bs.getD i 0) → (as = [] ∨ as.getD (as.length - 1) 0 ≠ 0) → as.length ≤ bs.length := fun {as bs} h l => Decidable.byContradiction fun c => by
    rcases l with l | l
    · rw [l] at c; simp at c
    · rw [h, getD_end (by omega)] at l
      exact l rfl
  exact Nat.le_antisymm (le same p.last) (le (fun i => (same i).symm) p'.last)
theorem fdiv_dvd {c x : Int} (hc : c ≠ 0) (h : c ∣ x) : x.fdiv c * c = x := by
  obtain ⟨y, rfl⟩ := h
  rw [Int.mul_fdiv_cancel_left _ hc]
  grind
/-- what __init__ stores -/
theorem pq_init {cs : List Int} {d c : Int} {n : Nat} (hd : d ≠ 0) (t : Trim cs n) (hc : c = if d < 0 then -((gcdL (d :: cs.take n) : Nat) : Int) else ((gcdL (d :: cs.take n) : Nat) : Int)) :
    c ≠ 0 ∧ c.natAbs ≤ d.natAbs ∧ Pq cs d ((cs.take n).map fun x => x.fdiv c) (d.fdiv c) := by
  have dv : ∀ x ∈ d :: cs.take n, gcdL (d :: cs.take n) ∣ x.natAbs := fun x hx => gcdL_dvd hx
  have gd := dv d (by simp)
  have g0 : 0 < gcdL (d :: cs.take n) := Nat.pos_of_dvd_of_pos gd (by omega)
  have ca : c.natAbs = gcdL (d :: cs.take n) := by rw [hc]; split <;> omega
  have c0 : c ≠ 0 := by omega
  have cd : ∀ x ∈ d :: cs.take n, c ∣ x := fun x hx => Int.natAbs_dvd_natAbs.mp (by rw [ca]; exact dv x hx)
  have e1 := fdiv_dvd c0 (cd d (by simp))
  have f0 : (0 : Int).fdiv c = 0 := Int.zero_fdiv c
  have e2 : ∀ i, ((cs.take n).map fun x => x.fdiv c).getD i 0 * c = cs.getD i 0 := fun i => by
    rw [getD_map f0, t.take]
    by_cases h : i < n
    · refine fdiv_dvd c0 (cd _ (List.mem_cons_of_mem _ ?_))
      rw [← t.take i]
      refine getD_mem ?_
      rw [List.length_take]
      have := t.le
      omega
    · rw [t.up i (by omega), f0, Int.zero_mul]
  have sgn : 0 < d.fdiv c := Decidable.byContradiction fun hn => by
    have hn : d.fdiv c ≤ 0 := by omega
    generalize d.fdiv c = u at *
    by_cases h : d < 0
    · have : c < 0 := by rw [hc, if_pos h]; omega
      have z := Int.mul_nonneg (show 0 ≤ -u by omega) (show 0 ≤ -c by omega)
      rw [Int.neg_mul_neg] at z
      omega
    · have : 0 < c := by rw [hc, if_neg h]; omega
      have z := Int.mul_nonneg (show 0 ≤ -u by omega) (show 0 ≤ c by omega)
      rw [Int.neg_mul] at z
      omega
  refine ⟨c0, by rw [ca]; exact Nat.le_of_dvd (by omega) gd, fun i => ?_, sgn, ?_, fun g h1 h2 => ?_⟩
  · have z := e2 i
    generalize ((cs.take n).map fun x => x.fdiv c).getD i 0 = u at *
    rw [← z]
    generalize d.fdiv c = v at *
    rw [← e1]
    grind
  · have ln : ((cs.take n).map fun x => x.fdiv c).length = n := by
      rw [List.length_map, List.length_take]
      have := t.le
      omega
    rcases t.at_ with h | h
    · left
      exact List.eq_nil_of_length_eq_zero (by omega)
    · right
      rw [ln]
      intro z
      have z2 := e2 (n - 1)
      rw [z, Int.zero_mul] at z2
      exact h z2.symm
  · -- g c divides all
    have k1 : (g * c).natAbs ∣ gcdL (d :: cs.take n) := gcdL_great fun x hx => Int.natAbs_dvd_natAbs.mpr (by
      rcases List.mem_cons.mp hx with rfl | hx
      · obtain ⟨u, hu⟩ := h1
        exact ⟨u, by rw [← e1, hu]; grind⟩
      · obtain ⟨i, hi, rfl⟩ := List.mem_iff_getElem.mp hx
        have z := e2 i
        rw [← t.take i] at z
        obtain ⟨u, hu⟩ := h2 i
        refine ⟨u, ?_⟩
        have z3 : (cs.take n)[i] = (cs.take n).getD i 0 := by rw [List.getD_eq_getElem?_getD, List.getElem?_eq_getElem hi]; rfl
        rw [z3, ← z, hu]
        grind)
    rw [← ca, Int.natAbs_mul] at k1
    have k2 : g.natAbs * c.natAbs ≤ 1 * c.natAbs := by
      rw [Nat.one_mul]
      exact Nat.le_of_dvd (by omega) k1
    have k3 : g.natAbs ≤ 1 := Nat.le_of_mul_le_mul_right k2 (by omega)
    have k4 : g ≠ 0 := fun z => by
      rw [z] at h1
      obtain ⟨u, hu⟩ := h1
      rw [Int.zero_mul] at hu
      omega
    have : g.natAbs = 1 := by omega
    exact Int.natAbs_dvd_natAbs.mp (by rw [this]; exact Nat.one_dvd _)
/-! ### == of tuples of whole numbers -/
theorem eqvA (xs ys : List Int) : PyData.eqvAll (xs.map PyData.int) (ys.map PyData.int) = decide (xs = ys) := by
  induction xs generalizing ys with
  | nil => cases ys <;> simp [PyData.eqvAll]
  | cons x r ih =>
    cases ys with
    | nil => simp [PyData.eqvAll]
    | cons y s =>
      have e : (x == y) = decide (x = y) := rfl
      simp [PyData.eqvAll, PyData.eqv, ih, e]
theorem eqvT (xs ys : List Int) : PyData.eqv (.tuple (xs.map PyData.int)) (.tuple (ys.map PyData.int)) = decide (xs = ys) := by
  rw [← eqvA]
  simp [PyData.eqv]
theorem eqvL (xs ys : List Int) : PyData.eqv (.list (xs.map PyData.int)) (.list (ys.map PyData.int)) = decide (xs = ys) := by
  rw [← eqvA]
  simp [PyData.eqv]
theorem dpI {K : PySem.W.Frag} {H : Hp} : ∀ xs : List Int, DpAll K H (xs.map V.int) (xs.map PyData.int)
  | [] => .nil
  | x :: r => .cons (.int x) (dpI r)
theorem layI (xs : List Int) : PyData.canLayAll0 (xs.map PyData.int) = true := by
  induction xs with
  | nil => rfl
  | cons x r ih => simp [PyData.canLayAll0, PyData.canLay0, ih]
theorem depI (xs : List Int) : PyData.depthAll (xs.map PyData.int) ≤ 1 := by
  induction xs with
  | nil => decide
  | cons x r ih =>
    simp only [List.map_cons, PyData.depthAll, PyData.depth]
    omega
theorem shT (xs : List Int) : SeqAt.shaped (.tuple (xs.map PyData.int)) = true := by
  have d := depI xs
  unfold SeqAt.shaped
  simp [PyData.canLay0, layI, PyData.depth]
  omega
theorem shL (xs : List Int) : SeqAt.shaped (.list (xs.map PyData.int)) = true := by
  have d := depI xs
  unfold SeqAt.shaped
  simp [PyData.canLay0, layI, PyData.depth]
  omega
/-! ### sums -/
def addL (xs ys : List Int) : List Int := (List.range (max xs.length ys.length)).map fun i => xs.getD i 0 + ys.getD i 0
theorem addL_at (xs ys : List Int) (i : Nat) : (addL xs ys).getD i 0 = xs.getD i 0 + ys.getD i 0 := by
  unfold addL
  by_cases h : i < max xs.length ys.length
  · rw [List.getD_eq_getElem?_getD, List.getElem?_map, List.getElem?_range h]
    rfl
  · rw [getD_end (by rw [List.length_map, List.length_range]; omega), getD_end (xs := xs) (by omega), getD_end (xs := ys) (by omega)]
    rfl
theorem addL_len (xs ys : List Int) : (addL xs ys).length = max xs.length ys.length := by rw [addL, List.length_map, List.length_range]
theorem mul_at (xs : List Int) (c : Int) (i : Nat) : (xs.map fun x => x * c).getD i 0 = xs.getD i 0 * c := getD_map (f := fun x => x * c) (Int.zero_mul c) xs i
theorem neg_at (xs : List Int) (i : Nat) : (xs.map fun x => -x).getD i 0 = -(xs.getD i 0) := getD_map (f := fun x => -x) rfl xs i
/-- cs / d + cs' / d' -/
abbrev sumP (cs : List Int) (d : Int) (cs' : List Int) (d' : Int) : List Int := addL (cs.map fun x => x * d') (cs'.map fun x => x * d)
theorem sumP_at (cs : List Int) (d : Int) (cs' : List Int) (d' : Int) (i : Nat) : (sumP cs d cs' d').getD i 0 = cs.getD i 0 * d' + cs'.getD i 0 * d := by rw [addL_at, mul_at, mul_at]
/-- sums by other pairs -/
theorem Pq.add {a b : Int} {as bs ks js ms : List Int} {e f g : Int} (p1 : Pq as a ks e) (p2 : Pq bs b js f) (p : Pq (sumP ks e js f) (e * f) ms g) : Pq (sumP as a bs b) (a * b) ms g := by
  have q1 := p1.pos
  have q2 := p2.pos
  refine p.conv (Int.mul_ne_zero (by omega) (by omega)) fun i => ?_
  rw [sumP_at, sumP_at]
  have e1 := p1.eq i
  have e2 := p2.eq i
  grind
theorem Pq.neg {as ks ms : List Int} {a e g : Int} (p1 : Pq as a ks e) (p : Pq (ks.map fun x => -x) e ms g) : Pq (as.map fun x => -x) a ms g := by
  refine p.conv (by have := p1.pos; omega) fun i => ?_
  rw [neg_at, neg_at]
  have e1 := p1.eq i
  grind
theorem Pq.self {cs : List Int} {d : Int} {ks : List Int} {e : Int} (p : Pq cs d ks e) : Pq ks e ks e := ⟨fun i => rfl, p.pos, p.last, p.cop⟩
theorem pq_neg_self {js : List Int} {f : Int} (s : Pq js f js f) : Pq (js.map fun x => -x) f (js.map fun x => -x) f := by
  refine ⟨fun i => rfl, s.pos, ?_, fun g h1 h2 => s.cop g h1 fun i => ?_⟩
  · rcases s.last with h | h
    · left; rw [h]; rfl
    · right
      rw [List.length_map, neg_at]
      omega
  · have z := h2 i
    rw [neg_at] at z
    exact Int.dvd_neg.mp z
/-- the denominator of the one form divides the one that was given -/
theorem Pq.den_dvd1 {cs ks : List Int} {d e : Int} (p : Pq cs d ks e) (hd : d ≠ 0) : e ∣ d := by
  have pe := p.pos
  obtain ⟨g, x, y, _, g0, ex, ey, cxy, _, _⟩ := gcd_parts (n := e) (d := d) (.inl (by omega))
  have hx : ∀ i, x ∣ ks.getD i 0 := fun i => by
    have z := p.eq i
    rw [ex, ey] at z
    have z2 : ks.getD i 0 * y = cs.getD i 0 * x := by
      have : (ks.getD i 0 * y) * g = (cs.getD i 0 * x) * g := by grind
      exact Int.eq_of_mul_eq_mul_right (by omega) this
    exact dvd_of_cop (a := y) ⟨cs.getD i 0, by grind⟩ cxy.symm
  obtain ⟨u, hu⟩ := p.cop x ⟨g, by rw [ex]; grind⟩ hx
  refine ⟨y * u, ?_⟩
  rw [ey, ex]
  grind
theorem Pq.den_le {cs ks : List Int} {d e : Int} (p : Pq cs d ks e) (hd : d ≠ 0) : e.natAbs ≤ d.natAbs := natAbs_le_of_dvd (p.den_dvd1 hd) hd
theorem at_last {xs : List V} {v : V} (h : xs[xs.length - 1]? = some v) : atI xs (-1) = some v := by
  have hj : xs.length - 1 < xs.length := (List.getElem?_eq_some_iff.mp h).1
  have e : ixN xs.length (-1) = some (xs.length - 1) := by
    unfold ixN
    rw [if_neg (by decide), if_pos (by omega)]
    congr 1
    omega
  unfold atI
  rw [e]
  exact h
end CB

namespace CB
open PySem PySem.Spec PyProof.Rows L2
/-- the def of a staticmethod of a class -/
def stAd (K : PySem.W.Frag) (C : Addr) (m : Str) : Addr := He5.wf K C "staticmethod" m
def statB (K : PySem.W.Frag) (C : Addr) (m : Str) : Bool := He5.wrapB K C "staticmethod" "staticmethod.__get__" m && (PySem.W.readsIn K C (.type "type") && He.eqO (PySem.W.specialIn K (.ref C) "__getattribute__") (some (some (.builtin "type.__getattribute__"))))
structure Stat (K : PySem.W.Frag) (C : Addr) (m : Str) : Prop where
  at_ : PySem.W.findCls K (.ref C) (.type "type") m = some (.get (.builtin "staticmethod.__get__") (.ref (He.ma K C m)) .none (.ref C))
  rc : ∃ rest, PySem.W.recIn K (He.ma K C m) "staticmethod" = some (.ref (stAd K C m) :: rest)
  rd : ClX.CRead K C (.type "type")
def tSta (C : Addr) (sp : Sp) (E : XK) (ta : TE) (t : TA) : TE := fun σ H Q => ta σ H fun x H1 => x = .ref C ∧ t σ H1 fun vs H2 => sp vs H2 Q E
section
variable {X : Cx} {CX : CXT} {k : Nat} {C : Addr} {fd : FuncData} {ps : List Str} {sp : Sp} {E : XK} {m : Str} {p pos apos : Pos} {e o : Expr} {es : List Expr} {ta : TE} {t : TA}
end
end CB

namespace CB.Z
open PySem PySem.Spec PyProof.Rows L2
/-! ### enumerate(a tuple): own work -/
abbrev TuIt (t : Addr) : Obj := { cls := .type "tuple_iterator", data := .fields #[.ref t, .int 0 0] }
abbrev EnOb (it : Addr) : Obj := { cls := .type "enumerate", data := .fields #[.none, .bool false, .ref it, rawInt 0, .none, .none] }
set_option maxHeartbeats 8000000 in
theorem enNewT (t : Addr) (us : Array Value) :
    Meets (Builtin.«enumerate.__new__» ⟨[.type "enumerate", .ref t], []⟩) (fun _ R s => s.heap.IsTuple t us ∧ R (.ok (.ret (.ref (s.heap.push (TuIt t)).objs.size))) { s with heap := (s.heap.push (TuIt t)).push (EnOb s.heap.objs.size) }) :=
  .of_wp fun pr wo A R s hyp => by
    obtain ⟨hp, gl, dr, tk, os⟩ := s
    obtain ⟨ht, hyp⟩ := hyp
    have hs1 := sub_enumerate
    have go : ∀ {A' : Around} {E : Value → Shared → Prop} {Q : Value → Shared → Prop}, Q (.ref hp.objs.size) ⟨hp.push (TuIt t), gl, dr, tk, os⟩ → wpAny (model pr wo) A' (pyIter (.ref t)) Q E ⟨hp, gl, dr, tk, os⟩ := fun q => (begins_tuple t us).iter pr wo _ _ ⟨hp, gl, dr, tk, os⟩ _ ht q
    wp_walk using go
    refine wpAny_stack_any fun st => wpAny_pure ?_
    split
    · rename_i c _ _ _ _ _
      cases (c == Value.type "enumerate") <;> (wp_walk using go; exact ⟨_, rfl, hyp⟩)
    · wp_walk using go
      exact ⟨_, rfl, hyp⟩
theorem callEnT {pr : Program} {wo : World} {A : Around} {E : Value → Shared → Prop} {s : Shared} {t : Addr} {us : Array Value} {Q : Value → Shared → Prop} (ht : s.heap.IsTuple t us)
    (q : ∀ h2, IsEnum h2 (s.heap.objs.size + 1) s.heap.objs.size 0 .none → h2.IsTupleIter s.heap.objs.size t 0 → (∀ b o, s.heap.get? b = some o → h2.get? b = some o) → Q (.ref (s.heap.objs.size + 1)) { s with heap := h2 }) :
    wpAny (model pr wo) A (call (.type "enumerate") [.ref t]) Q E s := by
  refine callType_new F.called_enumerate (by decide) (F.typeCall_enumerate_1 _) (F.newCall_enumerate_1 _) (fun obj => F.args_object_init_2 obj _) F.entry_enumerate_new (enNewT t us) ⟨ht, ?_⟩
  have z1 : (s.heap.push (TuIt t)).objs.size = s.heap.objs.size + 1 := Heap.size_push ..
  show _ ∧ _
  rw [z1]
  have gE : IsEnum ((s.heap.push (TuIt t)).push (EnOb s.heap.objs.size)) (s.heap.objs.size + 1) s.heap.objs.size 0 .none := by
    have := Heap.get?_push_size (s.heap.push (TuIt t)) (o := EnOb s.heap.objs.size) rfl
    rw [z1] at this
    exact this
  exact ⟨⟨_, gE, rfl⟩, q _ gE ⟨_, Heap.get?_push_of_some _ (Heap.get?_push_size _ rfl), rfl, rfl⟩ fun b o x => Heap.get?_push_of_some _ (Heap.get?_push_of_some _ x)⟩
/-- the tuple xs at a, each item in a new pair with its number -/
def IteT (K : PySem.W.Frag) (a : Addr) (xs : List V) : It :=
  ⟨fun i H => SqT K H a xs ∧ i < xs.length, fun i H v H' => ∃ T x, xs[i]? = some x ∧ v = .ref T ∧ H T = none ∧ H' = upd H T (.tup [.int (i : Nat), x]), fun i H => SqT K H a xs ∧ xs.length ≤ i⟩
theorem turnEnT {P : Program} {w : World} {K : PySem.W.Frag} {elts : List Expr} {kk : Nat} {tpos : Pos} {a e it : Addr} {xs : List V} (ea : e ≠ it) (ta : a ≠ it) :
    Turn P w K (.Tuple elts kk tpos) (IteT K a xs) [e, it] e (fun i h => (∃ old, IsEnum h e it ((i : Nat) : Int) old) ∧ h.IsTupleIter it a i) where
  mem := by simp
  obj := fun i h st b hb => by
    obtain ⟨⟨old, he⟩, o, ho, hc, hd⟩ := st
    simp only [List.mem_cons, List.not_mem_nil, or_false] at hb
    rcases hb with rfl | rfl
    · exact ⟨_, he, fun v q => nomatch q⟩
    · exact ⟨o, ho, fun v q => by rw [hd] at q; cases q⟩
  keep := fun i h h' st k => by
    obtain ⟨⟨old, he⟩, hi⟩ := st
    exact ⟨⟨old, k e (by simp) _ he⟩, hi.at fun o q => k it (by simp) o q⟩
  item := by
    intro X hP hw hK hc i pins s σ H E I hf st hg
    subst hP hw hK
    obtain ⟨⟨old, he⟩, hit⟩ := st
    obtain ⟨hq, hlt⟩ := hg
    obtain ⟨us, rv, p, hz⟩ := I.tuple hq
    have n1 : us.toArray.size = xs.length := by rw [List.size_toArray, rv.length]
    have ne : e ≠ a := fun z => by
      obtain ⟨o, ho, hcl, _⟩ := p
      rw [← z] at ho
      have g := ho.symm.trans he
      obtain rfl := Option.some.inj g
      exact absurd (Value.type.inj hcl) (by decide)
    have D := Draws.tuple (prog := X.prog) (w := X.w) (A := X.A.in1) (show X.A.in1.handled = none from I.ok.hd hc) it a ta us.toArray
    refine wpAny_pyNext_enum_itemD D he ⟨hit, p⟩ (by rw [n1]; exact hlt) ea (by simp [ea, ne]) fun u h2 tk hu ho hit2 hT hsz hk => ?_
    have elt : e < s.heap.objs.size := Heap.lt_size he
    have ilt : it < s.heap.objs.size := by obtain ⟨_, q, _⟩ := hit; exact Heap.lt_size q
    have hx : xs[i]? = some xs[i] := List.getElem?_eq_getElem hlt
    obtain ⟨u', hu', ru⟩ := rv.get hx
    have eu : u' = u := by
      rw [List.getElem?_toArray] at hu
      rw [hu] at hu'
      exact (Option.some.inj hu').symm
    subst eu
    refine ⟨_, rfl, wpAny_letOwnedTupleGo_enum (s := { s with heap := h2, toks := tk + 1 }) ho fun h3 he3 sb => ?_⟩
    have hT3 : h3.get? s.heap.objs.size = some { cls := .type "tuple", data := .seq #[.int i tk, u'] } := (sb.2 _ (Nat.ne_of_gt elt)).trans hT
    have new : ObjOk X.prog X.w (upd H s.heap.objs.size (.tup [.int (i : Nat), xs[i]])) h3 s.heap.objs.size (.tup [.int (i : Nat), xs[i]]) :=
      ⟨by show 2 ≤ sizeLine; decide, [.int i tk, u'], .cons ⟨_, rfl⟩ (.cons ru .nil), ⟨_, hT3, rfl, _, rfl⟩⟩
    have I1 : Inv X pins σ (upd H s.heap.objs.size (.tup [.int (i : Nat), xs[i]])) { s with heap := h3, toks := tk + 1 } :=
      I.turnedNew (ch := [e, it]) (fun b ob hb q => (sb.2 b fun z => hb (by simp [z])).trans (hk b ob (fun z => hb (by simp [z])) (fun z => hb (by simp [z])) q)) hf (Nat.le_refl _) new
    refine ⟨.ref s.heap.objs.size, _, I1, rfl, ⟨_, _, hx, rfl, I.hok.fresh (Nat.le_refl _), rfl⟩, ⟨⟨u', ?_⟩, hit2.1.at fun o q => (sb.2 it (Ne.symm ea)).trans q⟩, fun b hb => ?_⟩
    · have e1 : ((i + 1 : Nat) : Int) = (i : Int) + 1 := by omega
      rw [e1]
      exact he3
    · have hb2 : b < s.heap.objs.size := by
        simp only [List.mem_cons, List.not_mem_nil, or_false] at hb
        rcases hb with rfl | rfl
        · exact elt
        · exact ilt
      rw [upd_ne (Nat.ne_of_lt hb2)]
      exact (hf b hb).1
  done := by
    intro X hP hw hK hc i pins s σ H E I hf st hg
    subst hP hw hK
    obtain ⟨⟨old, he⟩, hit⟩ := st
    obtain ⟨hq, hle⟩ := hg
    obtain ⟨us, rv, p, hz⟩ := I.tuple hq
    have n1 : us.toArray.size = xs.length := by rw [List.size_toArray, rv.length]
    obtain ⟨f0, f1, f2, f3, f4, f5⟩ := hf it (by simp)
    have hT : s.TypeIs (.ref e) "enumerate" := ⟨_, he, rfl⟩
    unfold pyNext
    refine wpAny_bind (wpAny_attempt (wpAny_callSpecial?_slot (name := Str.ofString "__next__") hT F.slot_enumerate_next (wpAny_call_entry F.slot_enumerate_next hT F.entry_enumerate_next ?_ (F.args_enumerate_next_1 _))))
    show wpAny _ _ (field (.ref e) 2 >>= _) _ _ _
    refine wpAny_bind (wpAny_field he rfl (x := .ref it) rfl ?_)
    refine wpAny_bind (PySem.wpAny_nextOf_tuple_end (I.ok.hd hc) hit p (by rw [List.getElem?_toArray]; exact List.getElem?_eq_none (by rw [← rv.length]; exact hle)) fun h2 x eb ⟨o, ho, hcl⟩ => ?_)
    refine wpAny_bind (wpAny_isInstance (T := "StopIteration") (b := true) ⟨o, ho, hcl⟩ isSubtype_stop ?_)
    exact wpAny_pure ⟨rfl, I.turned (t' := s.toks) (fun b o hb q => eb b o hb q) f0 f1 f3 f4 f5⟩
  self := fun A i s Q E st h => let ⟨⟨_, he⟩, _⟩ := st; wpAny_pyIter_enum he h
def iEnumT (K : PySem.W.Frag) (ta : TA) : TI := fun σ H R => ta σ H fun vs H1 => ∃ a xs, vs = [.ref a] ∧ SqT K H1 a xs ∧ R (IteT K a xs) H1
theorem pi_enumT {X : Cx} {e : Expr} {ta : TA} {p pos tpos : Pos} {elts : List Expr} {kk : Nat} (hg : Gl X "enumerate") (hm : X.mg "enumerate" = none) (ha : PA X [e] ta) (hs : starEach [e] X.env = [(false, eval e X.env)] := by rfl) : PI X (.Tuple elts kk tpos) (.Call (.Name "enumerate" p) [e] [] pos) (iEnumT X.K ta) := by
  refine ⟨fun pins s σ H R I h => ?_⟩
  refine Call_ (ld_blt I hg hm boot_enumerate (PyProof.Rows.callWith_type1 (thn (ha.run pos pins s σ H _ I h) fun us s1 ⟨vs, H1, I1, r1, q1⟩ => ?_) hs rfl))
  obtain ⟨a, xs, rfl, hq, q⟩ := q1
  cases r1 with
  | cons r rr =>
    cases rr
    cases r
    obtain ⟨its, rv, p', hz⟩ := I1.tuple hq
    have alt : a < s1.heap.objs.size := by obtain ⟨_, g, _⟩ := id p'; exact Heap.lt_size g
    refine callEnT p' fun h2 he hit hk => wpAny_pyIter_enum he ?_
    have I2 : Inv X pins σ H1 { s1 with heap := h2 } := I1.kept (t' := s1.toks) hk
    refine ⟨s1.heap.objs.size + 1, [s1.heap.objs.size + 1, s1.heap.objs.size], _, _, H1, rfl, I2, turnEnT (e := s1.heap.objs.size + 1) (it := s1.heap.objs.size) (Nat.succ_ne_self _) (Nat.ne_of_lt alt), ⟨⟨.none, he⟩, hit⟩, fun b hb => ?_, q⟩
    have hle : s1.heap.objs.size ≤ b := by
      simp only [List.mem_cons, List.not_mem_nil, or_false] at hb
      rcases hb with rfl | rfl <;> omega
    exact I1.fpOk hle (I1.hok.fresh hle)
/-- a loop over enumerate of a tuple -/
theorem for_enT {K : PySem.W.Frag} {a : Addr} {xs : List V} {g : TG} {tb : TS} {D : Ends} {σ : L2.St} {H : Hp} (Pv : Nat → L2.St → Hp → Prop) (h0 : Pv 0 σ H) (hq : ∀ i σ H, Pv i σ H → SqT K H a xs)
    (hs : ∀ (i : Nat) (x : V) (T : Addr) (σ : L2.St) (H : Hp), xs[i]? = some x → Pv i σ H → H T = none → g (.ref T) σ (upd H T (.tup [.int (i : Nat), x])) fun σ2 H2 => tb { D with nx := Pv (i + 1), ct := Pv (i + 1), bk := D.nx } σ2 H2) (hd : ∀ σ H, Pv xs.length σ H → D.nx σ H) :
    ∃ W : Nat → Nat → L2.St → Hp → Prop, (∃ m, W 0 m σ H) ∧ ∀ i m σ H, W i m σ H →
      ((IteT K a xs).stop i H ∧ D.nx σ H) ∨ ((IteT K a xs).go i H ∧ ∃ N : L2.St → Hp → Prop, (∀ σ' H', N σ' H' → ∃ m', m' < m ∧ W (i + 1) m' σ' H') ∧ ∀ v H', (IteT K a xs).yld i H v H' → g v σ H' fun σ2 H2 => tb { D with nx := N, ct := N, bk := D.nx } σ2 H2) := by
  refine ⟨fun i m σ H => m = xs.length - i ∧ i ≤ xs.length ∧ Pv i σ H, ⟨_, rfl, Nat.zero_le _, h0⟩, fun i m σ H hw => ?_⟩
  obtain ⟨rfl, hi, p⟩ := hw
  by_cases lt : i < xs.length
  · refine .inr ⟨⟨hq i σ H p, lt⟩, Pv (i + 1), fun σ' H' p' => ⟨_, by omega, rfl, lt, p'⟩, fun v H' y => ?_⟩
    obtain ⟨T, x, hx, rfl, hT, rfl⟩ := y
    exact hs i x T σ H hx p hT
  · have e : i = xs.length := by omega
    subst e
    exact .inl ⟨⟨hq _ σ H p, Nat.le_refl _⟩, hd σ H p⟩
end CB.Z

namespace CB
open PySem PySem.Spec PyProof.Rows L2
/-! ### products of polynomials -/
/-- what the first i coefficients of xs give to the coefficient k of the product -/
def cvS (xs ys : List Int) : Nat → Nat → Int
  | 0, _ => 0
  | i + 1, k => cvS xs ys i k + if i ≤ k then xs.getD i 0 * ys.getD (k - i) 0 else 0
/-- the coefficient k of the product -/
def cv (xs ys : List Int) (k : Nat) : Int := cvS xs ys xs.length k
theorem cvS_end {xs ys : List Int} (k n : Nat) : cvS xs ys (xs.length + n) k = cv xs ys k := by
  induction n with
  | zero => rfl
  | succ n ih =>
    show cvS xs ys (xs.length + n) k + _ = _
    rw [ih, getD_end (xs := xs) (by show xs.length ≤ xs.length + n; omega)]
    simp
theorem cvS_ge {xs ys : List Int} {k n : Nat} (h : xs.length ≤ n) : cvS xs ys n k = cv xs ys k := by
  obtain ⟨m, rfl⟩ : ∃ m, n = xs.length + m := ⟨n - xs.length, by omega⟩
  exact cvS_end k m
theorem cvS_zero {xs ys : List Int} {k : Nat} (h : xs.length + ys.length ≤ k + 1) : ∀ n, n ≤ xs.length → cvS xs ys n k = 0
  | 0, _ => rfl
  | n + 1, hn => by
    rw [cvS, cvS_zero h n (by omega)]
    split
    · rw [getD_end (xs := ys) (by omega), Int.mul_zero]; rfl
    · rfl
theorem cv_zero {xs ys : List Int} {k : Nat} (h : xs.length + ys.length ≤ k + 1) : cv xs ys k = 0 := cvS_zero h _ (Nat.le_refl _)
theorem cvS_nil {xs ys : List Int} (h : ys.length = 0) (k : Nat) : ∀ n, cvS xs ys n k = 0
  | 0 => rfl
  | n + 1 => by
    rw [cvS, cvS_nil h k n]
    split
    · rw [getD_end (xs := ys) (by omega), Int.mul_zero]; rfl
    · rfl
theorem cv_nil {xs ys : List Int} (h : xs.length = 0 ∨ ys.length = 0) (k : Nat) : cv xs ys k = 0 := by
  rcases h with h | h
  · unfold cv; rw [h]; rfl
  · exact cvS_nil h k _
/-- the product of other pairs -/
theorem cvS_conv {as bs xs ys : List Int} {a b e f : Int} (h1 : ∀ i, as.getD i 0 * e = xs.getD i 0 * a) (h2 : ∀ i, bs.getD i 0 * f = ys.getD i 0 * b) (k : Nat) : ∀ n, cvS as bs n k * (e * f) = cvS xs ys n k * (a * b)
  | 0 => by simp [cvS]
  | n + 1 => by
    have ih := cvS_conv h1 h2 k n
    rw [cvS, cvS, Int.add_mul, Int.add_mul, ih]
    congr 1
    split
    · have e1 := h1 n
      have e2 := h2 (k - n)
      grind
    · simp
theorem cv_conv {as bs xs ys : List Int} {a b e f : Int} (h1 : ∀ i, as.getD i 0 * e = xs.getD i 0 * a) (h2 : ∀ i, bs.getD i 0 * f = ys.getD i 0 * b) (k : Nat) : cv as bs k * (e * f) = cv xs ys k * (a * b) := by
  have z := cvS_conv h1 h2 k (max as.length xs.length)
  rwa [cvS_ge (by omega), cvS_ge (by omega)] at z
theorem cvS_bits {xs ys : List Int} {p q : Nat} (h1 : ∀ i, (xs.getD i 0).natAbs < 2 ^ p) (h2 : ∀ i, (ys.getD i 0).natAbs < 2 ^ q) (k : Nat) : ∀ n, (cvS xs ys n k).natAbs < 2 ^ (p + q + n)
  | 0 => Nat.pow_pos (by decide)
  | n + 1 => by
    have ih := cvS_bits h1 h2 k n
    rw [cvS]
    have t : (if n ≤ k then xs.getD n 0 * ys.getD (k - n) 0 else 0).natAbs < 2 ^ (p + q) := by
      split
      · exact abs_lt_mul (h1 n) (h2 _)
      · exact Nat.pow_pos (by decide)
    refine abs_mono (sz_add ih t) ?_
    omega
/-- zs is the product of xs and ys -/
structure IsMul (zs xs ys : List Int) : Prop where
  at_ : ∀ k, zs.getD k 0 = cv xs ys k
  len : zs.length ≤ xs.length + ys.length
theorem Pq.mul {a b : Int} {as bs ks js ms zs ws : List Int} {e f g : Int} (p1 : Pq as a ks e) (p2 : Pq bs b js f) (z : IsMul zs ks js) (w : IsMul ws as bs) (p : Pq zs (e * f) ms g) : Pq ws (a * b) ms g := by
  have q1 := p1.pos
  have q2 := p2.pos
  refine p.conv (Int.mul_ne_zero (by omega) (by omega)) fun i => ?_
  rw [z.at_, w.at_]
  exact cv_conv p1.eq p2.eq i
/-- the list while it is made: i rows are added, and j items of the next one -/
structure MulAt (fs xs ys : List Int) (N i j : Nat) : Prop where
  len : fs.length = N
  at_ : ∀ k, fs.getD k 0 = cvS xs ys i k + if i ≤ k ∧ k - i < j then xs.getD i 0 * ys.getD (k - i) 0 else 0
theorem MulAt.start {xs ys : List Int} {N : Nat} : MulAt (List.replicate N 0) xs ys N 0 0 := ⟨List.length_replicate, fun k => by
  have z : (List.replicate N (0 : Int)).getD k 0 = 0 := by
    rw [List.getD_eq_getElem?_getD, List.getElem?_replicate]
    split <;> rfl
  rw [z]
  simp [cvS]⟩
theorem MulAt.row {fs xs ys : List Int} {N i j : Nat} (m : MulAt fs xs ys N i j) (h : ys.length ≤ j) : MulAt fs xs ys N (i + 1) 0 := ⟨m.len, fun k => by
  rw [m.at_ k, cvS]
  simp only [Nat.not_lt_zero, and_false, if_false, Int.add_zero]
  congr 1
  by_cases c : i ≤ k
  · by_cases c2 : k - i < j
    · rw [if_pos ⟨c, c2⟩, if_pos c]
    · rw [if_neg (fun z => c2 z.2), if_pos c, getD_end (xs := ys) (by omega), Int.mul_zero]
  · rw [if_neg (fun z => c z.1), if_neg c]⟩
theorem MulAt.skip {fs xs ys : List Int} {N i : Nat} (m : MulAt fs xs ys N i 0) (h : xs.getD i 0 = 0) : MulAt fs xs ys N (i + 1) 0 := ⟨m.len, fun k => by
  rw [m.at_ k, cvS, h]
  simp⟩
theorem getD_set {fs : List Int} {n k : Nat} {v : Int} (h : n < fs.length) : (fs.set n v).getD k 0 = if k = n then v else fs.getD k 0 := by
  rw [List.getD_eq_getElem?_getD, List.getD_eq_getElem?_getD, List.getElem?_set]
  by_cases c : n = k
  · subst c
    rw [if_pos rfl, if_pos h, if_pos rfl]
    rfl
  · rw [if_neg c, if_neg (fun z => c z.symm)]
theorem MulAt.step {fs xs ys : List Int} {N i j : Nat} {v : Int} (m : MulAt fs xs ys N i j) (h : i + j < N) (hv : v = fs.getD (i + j) 0 + xs.getD i 0 * ys.getD j 0) : MulAt (fs.set (i + j) v) xs ys N i (j + 1) := ⟨by rw [List.length_set, m.len], fun k => by
  rw [getD_set (by rw [m.len]; exact h)]
  by_cases c : k = i + j
  · subst c
    rw [if_pos rfl, hv, m.at_, if_neg (by omega), if_pos (by omega)]
    have e : i + j - i = j := by omega
    rw [e, Int.add_zero]
  · rw [if_neg c, m.at_]
    congr 1
    by_cases c2 : i ≤ k ∧ k - i < j
    · rw [if_pos c2, if_pos (by omega)]
    · rw [if_neg c2, if_neg (by omega)]⟩
theorem MulAt.fin {fs xs ys : List Int} {N i : Nat} (m : MulAt fs xs ys N i 0) (h : xs.length ≤ i) (hN : N ≤ xs.length + ys.length) : IsMul fs xs ys := ⟨fun k => by
  rw [m.at_, cvS_ge h]
  simp, by rw [m.len]; exact hN⟩
theorem get_map_int {xs : List Int} {i : Nat} {x : V} (h : (xs.map V.int)[i]? = some x) : ∃ c, xs[i]? = some c ∧ x = .int c := by
  rw [List.getElem?_map] at h
  cases e : xs[i]? with
  | none => rw [e] at h; cases h
  | some u => rw [e] at h; cases h; exact ⟨u, rfl, rfl⟩
/-- a name of the module that holds a number -/
theorem pe_globI {X : Cx} {x : Str} {n : Int} {p : Pos} (hg : Gl X x) (h : ∃ t, X.mg x = some (.int n t)) (hd : (x == ("__debug__" : Str)) = false := by decide) : PE X (.Name x p) (tC (.int n)) := by
  obtain ⟨t, h⟩ := h
  exact pe_glob (v := .int n) hg h ⟨_, rfl⟩ hd
/-- what no reading reaches -/
theorem pss_dead {X : Cx} {st : List Stmt} : PSs X st (fun _ _ _ => False) := ⟨fun _ _ _ _ _ _ h => h.elim⟩
theorem map_set_V {xs : List Int} {n : Nat} {x : Int} : (xs.map V.int).set n (.int x) = (xs.set n x).map V.int := by rw [List.map_set]
theorem ixN_at {n j : Nat} {i : Int} (h : i = j) (l : j < n) : ixN n i = some j := by
  subst h
  unfold ixN
  rw [if_pos (by omega), if_pos (by omega)]
  rfl
end CB

namespace CB
open PySem PySem.Spec PyProof.Rows L2
/-! ### finite sums -/
def sumTo (f : Nat → Int) : Nat → Int
  | 0 => 0
  | n + 1 => sumTo f n + f n
theorem sumTo_congr {f g : Nat → Int} : ∀ n, (∀ i, i < n → f i = g i) → sumTo f n = sumTo g n
  | 0, _ => rfl
  | n + 1, h => by rw [sumTo, sumTo, sumTo_congr n fun i hi => h i (by omega), h n (by omega)]
theorem sumTo_add (f g : Nat → Int) : ∀ n, sumTo (fun i => f i + g i) n = sumTo f n + sumTo g n
  | 0 => rfl
  | n + 1 => by rw [sumTo, sumTo, sumTo, sumTo_add f g n]; omega
theorem sumTo_mul (c : Int) (f : Nat → Int) : ∀ n, sumTo (fun i => c * f i) n = c * sumTo f n
  | 0 => by simp [sumTo]
  | n + 1 => by rw [sumTo, sumTo, sumTo_mul c f n, Int.mul_add]
theorem sumTo_zero {f : Nat → Int} : ∀ n, (∀ i, i < n → f i = 0) → sumTo f n = 0
  | 0, _ => rfl
  | n + 1, h => by rw [sumTo, sumTo_zero n fun i hi => h i (by omega), h n (by omega)]; rfl
theorem sumTo_first (f : Nat → Int) : ∀ n, sumTo f (n + 1) = f 0 + sumTo (fun i => f (i + 1)) n
  | 0 => by simp [sumTo]
  | n + 1 => by rw [sumTo, sumTo_first f n, sumTo]; omega
theorem sumTo_swap (f : Nat → Nat → Int) (m : Nat) : ∀ n, sumTo (fun i => sumTo (fun j => f i j) m) n = sumTo (fun j => sumTo (fun i => f i j) n) m
  | 0 => (sumTo_zero m fun _ _ => rfl).symm
  | n + 1 => by
    rw [sumTo, sumTo_swap f m n, ← sumTo_add]
    exact sumTo_congr m fun i _ => rfl
theorem sumTo_one {f : Nat → Int} {k : Nat} : ∀ n, k < n → (∀ i, i < n → i ≠ k → f i = 0) → sumTo f n = f k
  | 0, h, _ => absurd h (Nat.not_lt_zero _)
  | n + 1, h, z => by
    rw [sumTo]
    by_cases c : k = n
    · subst c
      rw [sumTo_zero k fun i hi => z i (by omega) (by omega)]
      omega
    · rw [sumTo_one n (by omega) fun i hi ne => z i (by omega) ne, z n (by omega) (fun e => c e.symm)]
      omega
/-! ### the powers of x + s -/
def pw (s : Int) : Nat → Nat → Int
  | 0, 0 => 1
  | 0, _ + 1 => 0
  | i + 1, 0 => s * pw s i 0
  | i + 1, k + 1 => s * pw s i (k + 1) + pw s i k
theorem pw_high (s : Int) : ∀ i k, i < k → pw s i k = 0
  | 0, k + 1, _ => rfl
  | i + 1, k + 1, h => by
    rw [pw, pw_high s i (k + 1) (by omega), pw_high s i k (by omega)]
    simp
theorem pw_zero : ∀ i k, pw 0 i k = if i = k then 1 else 0
  | 0, 0 => rfl
  | 0, k + 1 => rfl
  | i + 1, 0 => by rw [pw, Int.zero_mul, if_neg (by omega)]
  | i + 1, k + 1 => by
    rw [pw, Int.zero_mul, pw_zero i k, Int.zero_add]
    by_cases c : i = k
    · rw [if_pos c, if_pos (by omega)]
    · rw [if_neg c, if_neg (by omega)]
/-- the coefficient k of f(x + s), f with n coefficients -/
def shV (s : Int) (f : Nat → Int) (n k : Nat) : Int := sumTo (fun i => f i * pw s i k) n
theorem shV_more {s : Int} {f : Nat → Int} {n : Nat} (k m : Nat) (h : ∀ i, n ≤ i → f i = 0) : shV s f (n + m) k = shV s f n k := by
  induction m with
  | zero => rfl
  | succ m ih =>
    show sumTo _ (n + m) + f (n + m) * _ = _
    rw [h (n + m) (by omega), Int.zero_mul, Int.add_zero]
    exact ih
theorem shV_ge {s : Int} {f : Nat → Int} {n m : Nat} (k : Nat) (h : ∀ i, n ≤ i → f i = 0) (l : n ≤ m) : shV s f m k = shV s f n k := by
  obtain ⟨j, rfl⟩ : ∃ j, m = n + j := ⟨m - n, by omega⟩
  exact shV_more k j h
theorem shV_mul {s c : Int} {f : Nat → Int} {n : Nat} (k : Nat) : shV s (fun i => c * f i) n k = c * shV s f n k := by
  unfold shV
  rw [← sumTo_mul]
  exact sumTo_congr n fun i _ => by grind
theorem shV_congr {s : Int} {f g : Nat → Int} {n : Nat} (k : Nat) (h : ∀ i, i < n → f i = g i) : shV s f n k = shV s g n k := sumTo_congr n fun i hi => by rw [h i hi]
/-! ### by the first coefficient -/
def shC (s : Int) : List Int → Nat → Int
  | [], _ => 0
  | c :: r, 0 => c + s * shC s r 0
  | c :: r, k + 1 => shC s r k + s * shC s r (k + 1)
theorem shC_eq (s : Int) : ∀ (cs : List Int) (k : Nat), shC s cs k = shV s (fun i => cs.getD i 0) cs.length k
  | [], _ => rfl
  | c :: r, k => by
    unfold shV
    rw [List.length_cons, sumTo_first]
    cases k with
    | zero =>
      show c + s * shC s r 0 = c * 1 + sumTo (fun i => r.getD i 0 * (s * pw s i 0)) r.length
      rw [shC_eq s r 0, Int.mul_one]
      congr 1
      unfold shV
      rw [← sumTo_mul]
      exact sumTo_congr _ fun i _ => by grind
    | succ k =>
      show shC s r k + s * shC s r (k + 1) = c * 0 + sumTo (fun i => r.getD i 0 * (s * pw s i (k + 1) + pw s i k)) r.length
      rw [shC_eq s r k, shC_eq s r (k + 1), Int.mul_zero, Int.zero_add]
      unfold shV
      rw [← sumTo_mul, ← sumTo_add]
      exact sumTo_congr _ fun i _ => by grind
/-- one pass of the division by x - s -/
def hornL (s : Int) : List Int → List Int
  | [] => []
  | c :: r => (c + s * shC s r 0) :: hornL s r
theorem hornL_len (s : Int) : ∀ r, (hornL s r).length = r.length
  | [] => rfl
  | c :: r => by rw [hornL, List.length_cons, List.length_cons, hornL_len s r]
theorem hornL_at (s : Int) : ∀ (r : List Int) (k : Nat), (hornL s r).getD k 0 = shC s (r.drop k) 0
  | [], k => by cases k <;> rfl
  | c :: r, 0 => rfl
  | c :: r, k + 1 => hornL_at s r k
theorem shC_step (s : Int) : ∀ (r : List Int) (c : Int) (k : Nat), shC s (c :: r) (k + 1) = shC s (hornL s r) k
  | [], c, k => by cases k <;> simp [shC, hornL]
  | d :: r, c, 0 => by
    have e := shC_step s r d 0
    show shC s (d :: r) 0 + s * shC s (d :: r) (0 + 1) = (d + s * shC s r 0) + s * shC s (hornL s r) 0
    rw [e]
    rfl
  | d :: r, c, k + 1 => by
    have e1 := shC_step s r d k
    have e2 := shC_step s r d (k + 1)
    show shC s (d :: r) (k + 1) + s * shC s (d :: r) (k + 1 + 1) = shC s (hornL s r) k + s * shC s (hornL s r) (k + 1)
    rw [e1, e2]
theorem drop_one {fs : List Int} {i : Nat} (h : i < fs.length) : fs.drop i = fs.getD i 0 :: fs.drop (i + 1) := by
  rw [List.drop_eq_getElem_cons h]
  congr 1
  rw [List.getD_eq_getElem?_getD, List.getElem?_eq_getElem h]
  rfl
/-- i passes are done -/
structure ShAt (s : Int) (cs fs : List Int) (i : Nat) : Prop where
  len : fs.length = cs.length
  lo : ∀ k, k < i → fs.getD k 0 = shC s cs k
  hi : ∀ k, shC s cs (i + k) = shC s (fs.drop i) k
/-- within a pass: the places from j on are done -/
structure ShIn (s : Int) (fs gs : List Int) (j : Nat) : Prop where
  len : gs.length = fs.length
  lo : ∀ k, k < j → gs.getD k 0 = fs.getD k 0
  hi : ∀ k, j ≤ k → gs.getD k 0 = shC s (fs.drop k) 0
theorem ShAt.start {s : Int} {cs : List Int} : ShAt s cs cs 0 := ⟨rfl, fun k h => absurd h (Nat.not_lt_zero _), fun k => by rw [Nat.zero_add, List.drop_zero]⟩
theorem ShIn.start {s : Int} {fs : List Int} : ShIn s fs fs (fs.length - 1) := ⟨rfl, fun _ _ => rfl, fun k h => by
  by_cases c : k < fs.length
  · rw [drop_one c, show fs.drop (k + 1) = [] from List.drop_of_length_le (by omega)]
    simp [shC]
  · rw [getD_end (by omega), List.drop_of_length_le (by omega)]
    rfl⟩
theorem ShIn.step {s v : Int} {fs gs : List Int} {j : Nat} (m : ShIn s fs gs (j + 1)) (h : j + 1 < fs.length) (hv : v = gs.getD j 0 + s * gs.getD (j + 1) 0) : ShIn s fs (gs.set j v) j := by
  have hj : j < gs.length := by rw [m.len]; omega
  refine ⟨by rw [List.length_set, m.len], fun k hk => ?_, fun k hk => ?_⟩
  · rw [getD_set hj, if_neg (by omega)]
    exact m.lo k (by omega)
  · rw [getD_set hj]
    by_cases c : k = j
    · subst c
      rw [if_pos rfl, hv, m.lo k (by omega), m.hi (k + 1) (Nat.le_refl _), drop_one (i := k) (by omega)]
      rfl
    · rw [if_neg c]
      exact m.hi k (by omega)
theorem ShAt.pass {s : Int} {cs fs gs : List Int} {i : Nat} (a : ShAt s cs fs i) (m : ShIn s fs gs i) (h : i < fs.length) : ShAt s cs gs (i + 1) := by
  refine ⟨by rw [m.len, a.len], fun k hk => ?_, fun k => ?_⟩
  · by_cases c : k = i
    · subst c
      rw [m.hi k (Nat.le_refl _)]
      exact (a.hi 0).symm
    · rw [m.lo k (by omega)]
      exact a.lo k (by omega)
  · have e : gs.drop (i + 1) = hornL s (fs.drop (i + 1)) := by
      refine list_ext (by rw [hornL_len, List.length_drop, List.length_drop, m.len]) fun k => ?_
      rw [hornL_at, List.drop_drop, List.getD_eq_getElem?_getD, List.getElem?_drop, ← List.getD_eq_getElem?_getD]
      exact m.hi _ (by omega)
    rw [e, ← shC_step s (fs.drop (i + 1)) (fs.getD i 0) k, ← drop_one h, ← a.hi (k + 1)]
    congr 1
    omega
theorem ShAt.fin {s : Int} {cs fs : List Int} {i : Nat} (a : ShAt s cs fs i) (h : cs.length ≤ i + 1) (k : Nat) : fs.getD k 0 = shC s cs k := by
  by_cases c : k < i
  · exact a.lo k c
  · have e := a.hi (k - i)
    rw [show i + (k - i) = k by omega] at e
    rw [e]
    by_cases c2 : i < fs.length
    · rw [drop_one c2, show fs.drop (i + 1) = [] from List.drop_of_length_le (by rw [a.len]; omega)]
      obtain ⟨m, hm⟩ : ∃ m, k - i = m := ⟨_, rfl⟩
      rw [hm]
      cases m with
      | zero => rw [show k = i by omega]; simp [shC]
      | succ m => rw [getD_end (by rw [a.len]; omega)]; simp [shC]
    · rw [List.drop_of_length_le (by omega), getD_end (by omega)]
      rfl
/-- zs is cs moved by s -/
structure IsSh (s : Int) (zs cs : List Int) : Prop where
  at_ : ∀ k, zs.getD k 0 = shV s (fun i => cs.getD i 0) cs.length k
  len : zs.length = cs.length
theorem shV_list {s : Int} {cs : List Int} {n : Nat} (h : cs.length ≤ n) (k : Nat) : shV s (fun i => cs.getD i 0) n k = shV s (fun i => cs.getD i 0) cs.length k := shV_ge k (fun i hi => getD_end hi) h
theorem shV_pair {s : Int} {as xs : List Int} {a e : Int} (h : ∀ i, as.getD i 0 * e = xs.getD i 0 * a) (k : Nat) :
    shV s (fun i => as.getD i 0) as.length k * e = shV s (fun i => xs.getD i 0) xs.length k * a := by
  rw [← shV_list (n := max as.length xs.length) (by omega), ← shV_list (cs := xs) (n := max as.length xs.length) (by omega), Int.mul_comm, Int.mul_comm _ a, ← shV_mul, ← shV_mul]
  exact shV_congr k fun i _ => by
    have := h i
    grind
theorem Pq.shift {s a e g : Int} {as ks zs ws ms : List Int} (p : Pq as a ks e) (z : IsSh s zs ks) (w : ∀ k, ws.getD k 0 = shV s (fun i => as.getD i 0) as.length k) (q : Pq zs e ms g) : Pq ws a ms g := by
  refine q.conv (by have := p.pos; omega) fun i => ?_
  rw [z.at_, w]
  exact shV_pair p.eq i
theorem IsSh.zero {zs cs : List Int} (z : IsSh 0 zs cs) (k : Nat) : zs.getD k 0 = cs.getD k 0 := by
  rw [z.at_]
  by_cases c : k < cs.length
  · unfold shV
    rw [sumTo_one (k := k) _ c fun i hi ne => by rw [pw_zero, if_neg ne, Int.mul_zero], pw_zero, if_pos rfl, Int.mul_one]
  · rw [getD_end (xs := cs) (by omega)]
    exact sumTo_zero _ fun i hi => by rw [pw_zero, if_neg (by omega), Int.mul_zero]
/-! ### the powers of x + s as products -/
theorem cvS_lin {xs : List Int} {s : Int} (k : Nat) : ∀ n, cvS xs [s, 1] n k = (if k < n then s * xs.getD k 0 else 0) + if 0 < k ∧ k - 1 < n then xs.getD (k - 1) 0 else 0
  | 0 => by simp [cvS]
  | n + 1 => by
    rw [cvS, cvS_lin k n]
    by_cases c1 : n = k
    · subst c1
      rw [if_pos (Nat.le_refl _), Nat.sub_self, if_neg (Nat.lt_irrefl _), if_pos (Nat.lt_succ_self _)]
      show 0 + _ + xs.getD n 0 * s = _
      by_cases c2 : 0 < n
      · rw [if_pos ⟨c2, by omega⟩, if_pos ⟨c2, by omega⟩]; grind
      · rw [if_neg (fun z => c2 z.1), if_neg (fun z => c2 z.1)]; grind
    · by_cases c2 : n + 1 = k
      · subst c2
        rw [if_pos (show n ≤ n + 1 by omega), if_neg (show ¬ n + 1 < n by omega), if_neg (show ¬ (0 < n + 1 ∧ n + 1 - 1 < n) by omega), if_neg (show ¬ n + 1 < n + 1 by omega), if_pos (show 0 < n + 1 ∧ n + 1 - 1 < n + 1 by omega), show n + 1 - n = 1 by omega, show n + 1 - 1 = n by omega]
        show 0 + 0 + xs.getD n 0 * 1 = _
        omega
      · have e : (if n ≤ k then xs.getD n 0 * [s, 1].getD (k - n) 0 else 0) = 0 := by
          split
          · rw [getD_end (xs := [s, 1]) (by show 2 ≤ k - n; omega), Int.mul_zero]
          · rfl
        rw [e, Int.add_zero]
        congr 1
        · by_cases c3 : k < n
          · rw [if_pos c3, if_pos (by omega)]
          · rw [if_neg c3, if_neg (by omega)]
        · by_cases c3 : 0 < k ∧ k - 1 < n
          · rw [if_pos c3, if_pos (by omega)]
          · rw [if_neg c3, if_neg (by omega)]
theorem pw_next {s : Int} {ps qs : List Int} {i : Nat} (h : ∀ k, ps.getD k 0 = pw s i k) (m : IsMul qs ps [s, 1]) (k : Nat) : qs.getD k 0 = pw s (i + 1) k := by
  rw [m.at_]
  have e := cvS_lin (xs := ps) (s := s) k (ps.length + k + 1)
  rw [cvS_ge (by omega)] at e
  rw [e, if_pos (by omega)]
  cases k with
  | zero => rw [if_neg (by omega), h, pw]; omega
  | succ k => rw [if_pos (by omega), h, show k + 1 - 1 = k by omega, h, pw]
end CB

namespace CB
open PySem PySem.Spec PyProof.Rows L2
/-! ### division with remainder -/
theorem cvS_set {xs ys : List Int} {a : Nat} {v : Int} (h : a < xs.length) (k : Nat) : ∀ n, cvS (xs.set a v) ys n k = cvS xs ys n k + if a < n ∧ a ≤ k then (v - xs.getD a 0) * ys.getD (k - a) 0 else 0
  | 0 => by rw [if_neg (by omega)]; rfl
  | n + 1 => by
    rw [cvS, cvS, cvS_set h k n, getD_set h]
    by_cases c : n = a
    · subst c
      rw [if_pos rfl, if_neg (show ¬ (n < n ∧ n ≤ k) by omega)]
      by_cases c2 : n ≤ k
      · rw [if_pos c2, if_pos c2, if_pos (show n < n + 1 ∧ n ≤ k by omega), Int.sub_mul]
        omega
      · rw [if_neg c2, if_neg c2, if_neg (show ¬ (n < n + 1 ∧ n ≤ k) by omega)]
    · rw [if_neg c]
      by_cases c2 : a < n ∧ a ≤ k
      · rw [if_pos c2, if_pos (show a < n + 1 ∧ a ≤ k by omega)]
        omega
      · rw [if_neg c2, if_neg (show ¬ (a < n + 1 ∧ a ≤ k) by omega)]
        omega
theorem cv_set {xs ys : List Int} {a : Nat} {v : Int} (h : a < xs.length) (k : Nat) : cv (xs.set a v) ys k = cv xs ys k + if a ≤ k then (v - xs.getD a 0) * ys.getD (k - a) 0 else 0 := by
  unfold cv
  rw [List.length_set, cvS_set h]
  congr 1
  by_cases c : a ≤ k
  · rw [if_pos ⟨h, c⟩, if_pos c]
  · rw [if_neg (fun z => c z.2), if_neg c]
theorem cv_scale {xs ys : List Int} {s : Int} (k : Nat) : cv (xs.map fun x => x * s) ys k = cv xs ys k * s := by
  have z := cv_conv (as := xs.map fun x => x * s) (bs := ys) (xs := xs) (ys := ys) (a := s) (b := 1) (e := 1) (f := 1) (fun i => by rw [mul_at, Int.mul_one]) (fun i => rfl) k
  rwa [Int.mul_one, Int.mul_one, Int.mul_one] at z
theorem cv_rep {ys : List Int} {n : Nat} (k : Nat) : cv (List.replicate n 0) ys k = 0 := by
  have z : ∀ m, cvS (List.replicate n (0 : Int)) ys m k = 0 := by
    intro m
    induction m with
    | zero => rfl
    | succ m ih =>
      rw [cvS, ih]
      have e : (List.replicate n (0 : Int)).getD m 0 = 0 := by
        rw [List.getD_eq_getElem?_getD, List.getElem?_replicate]
        split <;> rfl
      rw [e, Int.zero_mul]
      split <;> rfl
  exact z _
/-- the quotient and the rest while they are made: the places below n are still to do -/
structure DivAt (f : Int) (xs qs rs ys : List Int) (n : Nat) : Prop where
  f0 : f ≠ 0
  rl : rs.length = xs.length
  eq : ∀ k, f * xs.getD k 0 = cv qs ys k + rs.getD k 0
  lo : ∀ i, i < n → qs.getD i 0 = 0
  hi : ∀ k, n + ys.length ≤ k + 1 → rs.getD k 0 = 0
theorem DivAt.start {xs ys : List Int} {n : Nat} (h : (n : Int) = xs.length - ys.length + 1 ∨ (n = 0 ∧ xs.length + 1 ≤ ys.length)) : DivAt 1 xs (List.replicate n 0) xs ys n :=
  ⟨by decide, rfl, fun k => by rw [cv_rep]; omega, fun i _ => by
    rw [List.getD_eq_getElem?_getD, List.getElem?_replicate]
    split <;> rfl, fun k hk => getD_end (by omega)⟩
theorem DivAt.scale {f s : Int} {xs qs rs ys : List Int} {n : Nat} (m : DivAt f xs qs rs ys n) (h : s ≠ 0) : DivAt (f * s) xs (qs.map fun x => x * s) (rs.map fun x => x * s) ys n :=
  ⟨Int.mul_ne_zero m.f0 h, by rw [List.length_map, m.rl], fun k => by
    rw [cv_scale, mul_at]
    have := m.eq k
    grind, fun i hi => by rw [mul_at, m.lo i hi, Int.zero_mul], fun k hk => by rw [mul_at, m.hi k hk, Int.zero_mul]⟩
/-- the rest while a multiple is taken from it -/
structure SubAt (zs rs ys : List Int) (v : Int) (a j : Nat) : Prop where
  len : zs.length = rs.length
  at_ : ∀ k, zs.getD k 0 = rs.getD k 0 - if a ≤ k ∧ k - a < j then v * ys.getD (k - a) 0 else 0
theorem SubAt.start {rs ys : List Int} {v : Int} {a : Nat} : SubAt rs rs ys v a 0 := ⟨rfl, fun k => by rw [if_neg (by omega), Int.sub_zero]⟩
theorem SubAt.step {zs rs ys : List Int} {v u : Int} {a j : Nat} (m : SubAt zs rs ys v a j) (h : a + j < rs.length) (hu : u = zs.getD (a + j) 0 - v * ys.getD j 0) : SubAt (zs.set (a + j) u) rs ys v a (j + 1) := ⟨by rw [List.length_set, m.len], fun k => by
  rw [getD_set (by rw [m.len]; exact h)]
  by_cases c : k = a + j
  · subst c
    rw [if_pos rfl, hu, m.at_, if_neg (by omega), if_pos (by omega), show a + j - a = j by omega, Int.sub_zero]
  · rw [if_neg c, m.at_]
    congr 1
    by_cases c2 : a ≤ k ∧ k - a < j
    · rw [if_pos c2, if_pos (by omega)]
    · rw [if_neg c2, if_neg (by omega)]⟩
theorem SubAt.fin {zs rs ys : List Int} {v : Int} {a : Nat} (m : SubAt zs rs ys v a ys.length) (k : Nat) : zs.getD k 0 = rs.getD k 0 - if a ≤ k then v * ys.getD (k - a) 0 else 0 := by
  rw [m.at_]
  congr 1
  by_cases c : a ≤ k
  · by_cases c2 : k - a < ys.length
    · rw [if_pos ⟨c, c2⟩, if_pos c]
    · rw [if_neg (fun z => c2 z.2), if_pos c, getD_end (xs := ys) (by omega), Int.mul_zero]
  · rw [if_neg (fun z => c z.1), if_neg c]
theorem DivAt.step {f v : Int} {xs qs rs zs ys : List Int} {n : Nat} (m : DivAt f xs qs rs ys (n + 1)) (h : n < qs.length) (hy : 0 < ys.length) (hv : v * ys.getD (ys.length - 1) 0 = rs.getD (n + ys.length - 1) 0) (zl : zs.length = rs.length)
    (hz : ∀ k, zs.getD k 0 = rs.getD k 0 - if n ≤ k then v * ys.getD (k - n) 0 else 0) : DivAt f xs (qs.set n v) zs ys n :=
  ⟨m.f0, by rw [zl, m.rl], fun k => by
    rw [cv_set h, hz, m.eq k, m.lo n (by omega), Int.sub_zero]
    split <;> omega, fun i hi => by
    rw [getD_set h, if_neg (by omega)]
    exact m.lo i (by omega), fun k hk => by
    rw [hz, if_pos (show n ≤ k by omega)]
    by_cases c : k = n + ys.length - 1
    · subst c
      rw [show n + ys.length - 1 - n = ys.length - 1 by omega, hv]
      omega
    · rw [m.hi k (by omega), getD_end (xs := ys) (by omega), Int.mul_zero]
      rfl⟩
theorem dvd_scale {t l g s : Int} (hg : g = ((Nat.gcd t.natAbs l.natAbs : Nat) : Int)) (hl : l ≠ 0) (hs : s = l.fdiv g) : g ≠ 0 ∧ g.natAbs ≤ l.natAbs ∧ s ≠ 0 ∧ s.natAbs ≤ l.natAbs ∧ l ∣ t * s := by
  have d1 : g ∣ l := by rw [hg]; exact Int.natAbs_dvd_natAbs.mp (by rw [Int.natAbs_natCast]; exact Nat.gcd_dvd_right _ _)
  have d2 : g ∣ t := by rw [hg]; exact Int.natAbs_dvd_natAbs.mp (by rw [Int.natAbs_natCast]; exact Nat.gcd_dvd_left _ _)
  have g0 : g ≠ 0 := fun z => by rw [z] at d1; exact hl (Int.zero_dvd.mp d1)
  have e := fdiv_dvd g0 d1
  rw [← hs] at e
  have s0 : s ≠ 0 := fun z => by rw [z, Int.zero_mul] at e; exact hl e.symm
  refine ⟨g0, natAbs_le_of_dvd d1 hl, s0, natAbs_le_of_dvd ⟨g, e.symm⟩ hl, ?_⟩
  obtain ⟨u, rfl⟩ := d2
  exact ⟨u, by rw [← e]; grind⟩
theorem dvd_of_fmod {a b : Int} (h : a.fmod b = 0) : b ∣ a := Int.dvd_of_fmod_eq_zero h
theorem bits_mulE {k : Nat} {xs : List Int} {s : Int} {j : Nat} (h : ∀ x ∈ xs, x.natAbs < 2 ^ k) (hs : s.natAbs < 2 ^ j) : ∀ x ∈ (xs.map fun x => x * s), x.natAbs < 2 ^ (k + j) := fun x hx => by
  obtain ⟨y, hy, rfl⟩ := List.mem_map.mp hx
  exact abs_lt_mul (h y hy) hs
theorem SubAt.bits {zs rs ys : List Int} {v : Int} {a j p q : Nat} (m : SubAt zs rs ys v a j) (h1 : ∀ i, (rs.getD i 0).natAbs < 2 ^ (p + q)) (h2 : v.natAbs < 2 ^ p) (h3 : ∀ i, (ys.getD i 0).natAbs < 2 ^ q) (k : Nat) : (zs.getD k 0).natAbs < 2 ^ (p + q + 1) := by
  rw [m.at_]
  have t : (if a ≤ k ∧ k - a < j then v * ys.getD (k - a) 0 else 0).natAbs < 2 ^ (p + q) := by
    split
    · exact abs_lt_mul h2 (h3 _)
    · exact Nat.pow_pos (by decide)
  have z := sz_sub (h1 k) t
  rwa [Nat.max_self] at z
end CB
namespace CB
open PySem PySem.Spec PyProof.Rows L2
/-! ### a quotient is the only one -/
def linL (xs ys : List Int) (A B : Int) : List Int := (List.range (max xs.length ys.length)).map fun i => xs.getD i 0 * A - ys.getD i 0 * B
end CB

namespace CB
open PySem PySem.Spec PyProof.Rows L2
/-! ### products and powers of coefficient functions -/
def cf (f g : Nat → Int) (k : Nat) : Int := sumTo (fun i => f i * g (k - i)) (k + 1)
theorem sumTo_rev (F : Nat → Int) : ∀ n, sumTo F n = sumTo (fun i => F (n - 1 - i)) n
  | 0 => rfl
  | n + 1 => by
    rw [sumTo_first (fun i => F (n + 1 - 1 - i)) n]
    show sumTo F n + F n = F (n + 1 - 1 - 0) + sumTo (fun i => F (n + 1 - 1 - (i + 1))) n
    rw [sumTo_rev F n, Int.add_comm]
    have e : n + 1 - 1 - 0 = n := by omega
    rw [e]
    congr 1
    exact sumTo_congr n fun i hi => by
      have : n + 1 - 1 - (i + 1) = n - 1 - i := by omega
      rw [this]
theorem cf_comm (f g : Nat → Int) (k : Nat) : cf f g k = cf g f k := by
  unfold cf
  rw [sumTo_rev]
  exact sumTo_congr _ fun i hi => by
    have e1 : k + 1 - 1 - i = k - i := by omega
    have e2 : k - (k - i) = i := by omega
    rw [e1, e2, Int.mul_comm]
theorem sumTo_tri (F : Nat → Nat → Int) : ∀ n, sumTo (fun i => sumTo (fun j => F i j) (i + 1)) n = sumTo (fun j => sumTo (fun m => F (j + m) j) (n - j)) n
  | 0 => rfl
  | n + 1 => by
    show sumTo (fun i => sumTo (fun j => F i j) (i + 1)) n + sumTo (fun j => F n j) (n + 1) = _
    rw [sumTo_tri F n]
    have e : sumTo (fun j => sumTo (fun m => F (j + m) j) (n + 1 - j)) (n + 1) = sumTo (fun j => sumTo (fun m => F (j + m) j) (n - j) + F n j) (n + 1) := sumTo_congr _ fun j hj => by
      have z : n + 1 - j = (n - j) + 1 := by omega
      rw [z]
      show _ + F (j + (n - j)) j = _
      rw [show j + (n - j) = n by omega]
    rw [e, sumTo_add]
    congr 1
    show _ = sumTo (fun j => sumTo (fun m => F (j + m) j) (n - j)) n + sumTo (fun m => F (n + m) n) (n - n)
    rw [Nat.sub_self]
    exact (Int.add_zero _).symm
theorem sumTo_mulr (c : Int) (f : Nat → Int) (n : Nat) : sumTo (fun i => f i * c) n = sumTo f n * c := by
  rw [Int.mul_comm, ← sumTo_mul]
  exact sumTo_congr n fun i _ => Int.mul_comm _ _
theorem cf_assoc (f g h : Nat → Int) (k : Nat) : cf (cf f g) h k = cf f (cf g h) k := by
  unfold cf
  have e1 : sumTo (fun i => sumTo (fun i_1 => f i_1 * g (i - i_1)) (i + 1) * h (k - i)) (k + 1) = sumTo (fun i => sumTo (fun j => f j * g (i - j) * h (k - i)) (i + 1)) (k + 1) := sumTo_congr _ fun i _ => (sumTo_mulr _ _ _).symm
  rw [e1, sumTo_tri (fun i j => f j * g (i - j) * h (k - i)) (k + 1)]
  exact sumTo_congr _ fun j hj => by
    rw [← sumTo_mul, show k + 1 - j = k - j + 1 by omega]
    exact sumTo_congr _ fun m hm => by
      rw [show j + m - j = m by omega, show k - (j + m) = k - j - m by omega, Int.mul_assoc]
theorem cf_congr {f f' g g' : Nat → Int} (h1 : ∀ i, f i = f' i) (h2 : ∀ i, g i = g' i) (k : Nat) : cf f g k = cf f' g' k := by
  have e1 : f = f' := funext h1
  have e2 : g = g' := funext h2
  rw [e1, e2]
theorem cf_add (f g h : Nat → Int) (k : Nat) : cf f (fun i => g i + h i) k = cf f g k + cf f h k := by
  unfold cf
  rw [← sumTo_add]
  exact sumTo_congr _ fun i _ => Int.mul_add _ _ _
theorem cf_scale (f g : Nat → Int) (c : Int) (k : Nat) : cf f (fun i => c * g i) k = c * cf f g k := by
  unfold cf
  rw [← sumTo_mul]
  exact sumTo_congr _ fun i _ => by rw [Int.mul_left_comm]
/-- the derivative -/
def dv (f : Nat → Int) (k : Nat) : Int := ((k : Int) + 1) * f (k + 1)
theorem dv_cf (f g : Nat → Int) (k : Nat) : dv (cf f g) k = cf (dv f) g k + cf f (dv g) k := by
  -- (k+1) sum_{i<k+2} f i g (k+1-i) = sum i f i g(k+1-i) + sum (k+1-i) f i g (k+1-i)
  have e1 : dv (cf f g) k = sumTo (fun i => (i : Int) * f i * g (k + 1 - i) + (((k + 1 - i : Nat)) : Int) * f i * g (k + 1 - i)) (k + 2) := by
    unfold dv cf
    rw [← sumTo_mul]
    exact sumTo_congr _ fun i hi => by
      have : ((k + 1 - i : Nat) : Int) = (k : Int) + 1 - i := by omega
      rw [this]
      grind
  rw [e1, sumTo_add]
  congr 1
  · rw [sumTo_first]
    rw [show ((0 : Nat) : Int) * f 0 * g (k + 1 - 0) = 0 by simp, Int.zero_add]
    unfold cf dv
    exact sumTo_congr _ fun i hi => by
      rw [show k + 1 - (i + 1) = k - i by omega]
      push_cast
      rfl
  · show sumTo _ (k + 1) + ((k + 1 - (k + 1) : Nat) : Int) * f (k + 1) * g (k + 1 - (k + 1)) = _
    rw [show ((k + 1 - (k + 1) : Nat) : Int) * f (k + 1) * g (k + 1 - (k + 1)) = 0 by rw [Nat.sub_self]; simp, Int.add_zero]
    unfold cf dv
    exact sumTo_congr _ fun i hi => by
      rw [show k + 1 - i = k - i + 1 by omega]
      push_cast
      grind
/-- powers -/
def pwf (f : Nat → Int) : Nat → Nat → Int
  | 0, k => if k = 0 then 1 else 0
  | e + 1, k => cf (pwf f e) f k
/-- moved up by z places -/
def up (z : Nat) (f : Nat → Int) (k : Nat) : Int := if k < z then 0 else f (k - z)
theorem sumTo_app (F : Nat → Int) (p : Nat) : ∀ q, sumTo F (p + q) = sumTo F p + sumTo (fun i => F (p + i)) q
  | 0 => (Int.add_zero _).symm
  | q + 1 => by show sumTo F (p + q) + F (p + q) = _ + (_ + _); rw [sumTo_app F p q, Int.add_assoc]
/-- lists -/
abbrev ff (xs : List Int) : Nat → Int := fun i => xs.getD i 0
theorem cvS_sum (xs ys : List Int) (k : Nat) : ∀ n, cvS xs ys n k = sumTo (fun i => if i ≤ k then xs.getD i 0 * ys.getD (k - i) 0 else 0) n
  | 0 => rfl
  | n + 1 => by rw [cvS, cvS_sum xs ys k n]; rfl
theorem sumTo_more {F : Nat → Int} {n : Nat} (h : ∀ i, n ≤ i → F i = 0) : ∀ m, sumTo F (n + m) = sumTo F n
  | 0 => rfl
  | m + 1 => by
    show sumTo F (n + m) + F (n + m) = _
    rw [sumTo_more h m, h _ (by omega), Int.add_zero]
theorem cv_cf (xs ys : List Int) (k : Nat) : cv xs ys k = cf (ff xs) (ff ys) k := by
  have z : cv xs ys k = cvS xs ys (xs.length + (k + 1)) k := (cvS_end k (k + 1)).symm
  rw [z, cvS_sum, Nat.add_comm, sumTo_more fun i hi => if_neg (by omega)]
  unfold cf
  exact sumTo_congr _ fun i hi => if_pos (by omega)
/-- zs is the power e of cs -/
structure IsPow (zs cs : List Int) (e : Nat) : Prop where
  at_ : ∀ k, zs.getD k 0 = pwf (ff cs) e k
theorem IsPow.one {cs : List Int} : IsPow [1] cs 0 := ⟨fun k => by
  unfold pwf
  cases k with
  | zero => rfl
  | succ k => rw [if_neg (by omega), getD_end (by simp)]⟩
theorem IsPow.more {zs ps cs : List Int} {e : Nat} (p : IsPow ps cs e) (m : IsMul zs ps cs) : IsPow zs cs (e + 1) := ⟨fun k => by
  rw [m.at_, cv_cf]
  exact cf_congr p.at_ (fun _ => rfl) k⟩
/-- the power of another pair -/
theorem pwf_conv {f g : Nat → Int} {a b : Int} (h : ∀ i, f i * a = g i * b) : ∀ e k, pwf f e k * a ^ e = pwf g e k * b ^ e
  | 0, k => by rw [Int.pow_zero, Int.pow_zero]; rfl
  | e + 1, k => by
    have ih := pwf_conv h e
    show cf (pwf f e) f k * _ = cf (pwf g e) g k * _
    unfold cf
    rw [← sumTo_mulr, ← sumTo_mulr]
    exact sumTo_congr _ fun i _ => by
      have z1 := ih i
      have z2 := h (k - i)
      rw [Int.pow_succ, Int.pow_succ]
      grind
theorem Pq.power {as ks zs ws ms : List Int} {a b g : Int} {e : Nat} (p : Pq as a ks b) (z : IsPow zs ks e) (w : IsPow ws as e) (q : Pq zs (b ^ e) ms g) : Pq ws (a ^ e) ms g := by
  have b0 := p.pos
  refine q.conv (pow_ne (by omega) e) fun i => ?_
  rw [z.at_, w.at_]
  exact pwf_conv (f := ff ks) (g := ff as) p.eq e i
end CB

namespace CB.Z
open PySem PySem.Spec PyProof.Rows L2
end CB.Z
namespace CB
open PySem PySem.Spec PyProof.Rows L2 CB.Z
/-! ### the power's terms -/
def tS (g : Int → Int) : List (Addr × Int × Int) → Int
  | [] => 0
  | t :: r => g t.2.1 * t.2.2 + tS g r
theorem sumTo_bits {F : Nat → Int} {b : Nat} : ∀ n, (∀ i, i < n → (F i).natAbs < 2 ^ b) → (sumTo F n).natAbs < 2 ^ (b + n)
  | 0, _ => Nat.pow_pos (by decide)
  | n + 1, h => by
    have ih := sumTo_bits n fun i hi => h i (by omega)
    refine abs_mono (sz_add ih (h n (by omega))) ?_
    omega
end CB

namespace CB
open PySem PySem.Spec PyProof.Rows L2
/-! ### values of polynomials -/
/-- the value of a polynomial, from the highest power -/
def evL (x : Int) : List Int → Int
  | [] => 0
  | c :: r => evL x r * x + c
theorem evL_bits {x : Int} {k j : Nat} (hx : x.natAbs < 2 ^ j) : ∀ {cs : List Int}, (∀ c ∈ cs, c.natAbs < 2 ^ k) → (evL x cs).natAbs < 2 ^ (k + (j + 1) * cs.length + 1)
  | [], _ => by simp [evL]; exact Nat.pow_pos (by decide)
  | c :: r, h => by
    have ih := evL_bits hx (cs := r) fun y hy => h y (by simp [hy])
    have z := sz_add (abs_lt_mul ih hx) (h c (by simp))
    rw [evL]
    refine abs_mono z ?_
    rw [List.length_cons]
    have : (j + 1) * (r.length + 1) = (j + 1) * r.length + (j + 1) := by rw [Nat.mul_add, Nat.mul_one]
    omega
theorem drop_rev {cs : List Int} {i : Nat} {c : Int} (h : cs[cs.length - 1 - i]? = some c) (hi : i < cs.length) : cs.drop (cs.length - (i + 1)) = c :: cs.drop (cs.length - i) := by
  have e : cs.length - (i + 1) = cs.length - 1 - i := by omega
  have lt : cs.length - 1 - i < cs.length := by omega
  rw [e, List.drop_eq_getElem_cons lt]
  rw [List.getElem?_eq_getElem lt] at h
  rw [Option.some.inj h]
  congr 2
  omega
/-- the value at num / den, times den to the length -/
def vaL (num den : Int) : List Int → Int
  | [] => 0
  | c :: r => vaL num den r * num + c * den ^ (r.length + 1)
def vaT (num den : Int) (cs : List Int) (N : Nat) (j : Nat) : Int := cs.getD j 0 * num ^ j * den ^ (N - j)
theorem vaL_sum (num den : Int) : ∀ cs : List Int, vaL num den cs = sumTo (vaT num den cs cs.length) cs.length
  | [] => rfl
  | c :: r => by
    show vaL num den r * num + c * den ^ (r.length + 1) = sumTo _ (r.length + 1)
    rw [sumTo_first, vaL_sum num den r, ← sumTo_mulr, Int.add_comm]
    congr 1
    · show _ = c * num ^ 0 * den ^ (r.length + 1 - 0)
      rw [Int.pow_zero, Int.mul_one, Nat.sub_zero]
    · exact sumTo_congr _ fun i hi => by
        show r.getD i 0 * num ^ i * den ^ (r.length - i) * num = r.getD i 0 * num ^ (i + 1) * den ^ (r.length + 1 - (i + 1))
        rw [Int.pow_succ, show r.length + 1 - (i + 1) = r.length - i by omega]
        grind
/-- values of equal polynomials at equal numbers -/
theorem va_conv {ks cs : List Int} {n f u b d e : Int} (hc : ∀ i, ks.getD i 0 * d = cs.getD i 0 * e) (hx : n * b = u * f) (d0 : d ≠ 0) (e0 : e ≠ 0) :
    vaL n f ks * (d * b ^ cs.length) = vaL u b cs * (e * f ^ ks.length) := by
  have pw_ : ∀ j, n ^ j * b ^ j = u ^ j * f ^ j := fun j => by rw [← mul_pow_int, ← mul_pow_int, hx]
  have e1 : vaL n f ks = sumTo (vaT n f ks ks.length) (ks.length + cs.length) := by rw [vaL_sum, sumTo_more fun i hi => by unfold vaT; rw [getD_end hi]; simp]
  have e2 : vaL u b cs = sumTo (vaT u b cs cs.length) (ks.length + cs.length) := by rw [vaL_sum, Nat.add_comm, sumTo_more fun i hi => by unfold vaT; rw [getD_end hi]; simp]
  rw [e1, e2, ← sumTo_mulr, ← sumTo_mulr]
  refine sumTo_congr _ fun j _ => ?_
  unfold vaT
  have h := hc j
  by_cases c1 : j < ks.length
  · by_cases c2 : j < cs.length
    · have a1 : b ^ cs.length = b ^ j * b ^ (cs.length - j) := by rw [← Int.pow_add]; congr 1; omega
      have a2 : f ^ ks.length = f ^ j * f ^ (ks.length - j) := by rw [← Int.pow_add]; congr 1; omega
      rw [a1, a2]
      have a3 := pw_ j
      calc _ = (ks.getD j 0 * d) * (n ^ j * b ^ j) * (f ^ (ks.length - j) * b ^ (cs.length - j)) := by grind
        _ = (cs.getD j 0 * e) * (u ^ j * f ^ j) * (f ^ (ks.length - j) * b ^ (cs.length - j)) := by rw [h, a3]
        _ = _ := by grind
    · rw [getD_end (xs := cs) (by omega), Int.zero_mul] at h
      have z : ks.getD j 0 = 0 := by rcases Int.mul_eq_zero.mp h with z | z; exact z; exact absurd z d0
      rw [z, getD_end (xs := cs) (by omega)]
      simp
  · rw [getD_end (xs := ks) (by omega), Int.zero_mul] at h
    have z : cs.getD j 0 = 0 := by rcases Int.mul_eq_zero.mp h.symm with z | z; exact z; exact absurd z e0
    rw [z, getD_end (xs := ks) (by omega)]
    simp
/-- what the law's sum says -/
structure DuAt (num den : Int) (cs : List Int) (top bl : Int) : Prop where
  eq : top * den ^ cs.length = bl * vaL num den cs
  b0 : 0 < bl
  tb : top.natAbs < 2 ^ 4000
  bb : bl.natAbs < 2 ^ 2000
theorem DuAt.fq {n f u b d e top bl : Int} {ks cs : List Int} (m : DuAt u b cs top bl) (hc : ∀ i, ks.getD i 0 * d = cs.getD i 0 * e) (hx : n * b = u * f) (d0 : d ≠ 0) (e0 : e ≠ 0) (b0 : b ≠ 0) :
    vaL n f ks * (bl * d) = top * (e * f ^ ks.length) := by
  have h := va_conv hc hx d0 e0
  have h2 := m.eq
  apply Int.eq_of_mul_eq_mul_right (pow_ne b0 cs.length)
  calc _ = bl * (vaL n f ks * (d * b ^ cs.length)) := by grind
    _ = (bl * vaL u b cs) * (e * f ^ ks.length) := by rw [h]; grind
    _ = _ := by rw [← h2]; grind
end CB

namespace CB
open PySem PySem.Spec PyProof.Rows L2 PySem.W
/-! ### max(.., default=d) -/
theorem maxOf_spec : ∀ (xs : List Int) (x : Int), maxOf x xs ∈ x :: xs ∧ ∀ y ∈ x :: xs, y ≤ maxOf x xs
  | [], x => ⟨by simp [maxOf], fun y hy => by rw [List.mem_singleton.mp hy]; exact Int.le_refl _⟩
  | z :: r, x => by
    have e : maxOf x (z :: r) = maxOf (if DatumOrd.lt x z = true then z else x) r := rfl
    rw [e]
    have d : DatumOrd.lt x z = decide (x < z) := rfl
    rw [d]
    by_cases c : x < z
    · rw [decide_eq_true c, if_pos rfl]
      obtain ⟨h1, h2⟩ := maxOf_spec r z
      refine ⟨List.mem_cons_of_mem _ h1, fun y hy => ?_⟩
      rcases List.mem_cons.mp hy with rfl | hy
      · exact Int.le_trans (Int.le_of_lt c) (h2 z (List.mem_cons_self ..))
      · exact h2 y hy
    · rw [decide_eq_false c, if_neg (by decide)]
      obtain ⟨h1, h2⟩ := maxOf_spec r x
      refine ⟨?_, fun y hy => ?_⟩
      · rcases List.mem_cons.mp h1 with h | h
        · rw [h]; exact List.mem_cons_self ..
        · exact List.mem_cons_of_mem _ (List.mem_cons_of_mem _ h)
      · rcases List.mem_cons.mp hy with rfl | hy
        · exact h2 y (List.mem_cons_self ..)
        · rcases List.mem_cons.mp hy with rfl | hy
          · exact Int.le_trans (by omega) (h2 x (List.mem_cons_self ..))
          · exact h2 y (List.mem_cons_of_mem _ hy)
theorem holds_int_is {h : Heap} {v : Value} {n : Int} (H : Holds h v n) : ∃ t, v = .int n t := by
  obtain ⟨as, r⟩ := H
  cases r
  exact ⟨_, rfl⟩
section
variable {X : Cx}
def rMaxD (K : PySem.W.Frag) : List V → List V → Hp → VK → Prop := fun vs zs H Q => ∃ (a : Addr) (ns : List Int) (d : Int), vs = [V.ref a] ∧ zs = [V.int d] ∧ SqL K H a (ns.map V.int) ∧ (ns = [] → Q (.int d) H) ∧ ∀ m, m ∈ ns → (∀ y, y ∈ ns → y ≤ m) → Q (.int m) H
theorem cr_maxD (hc : X.calm = true) (hu : X.A.units + 64 < cLine) : CallRK X (.builtin "max") [Str.ofString "default"] (rMaxD X.K) := by
  intro pins s σ H vs zs us ws Q I r rz h
  obtain ⟨a, ns, d, rfl, rfl, hs, h0, q⟩ := h
  obtain ⟨its, rv, hl, _⟩ := I.list hs
  rw [Vals.ref1 r]
  cases rz with
  | cons r1 r2 =>
    cases r2
    obtain ⟨t, rfl⟩ := r1
    refine max_list_datum_default (α := Int) (xs := ns) (I.ok.hd hc) hl.isList (by rw [List.toList_toArray]; exact HoldAll.of_ints rv.ints) (by show X.A.units + 1 + 0 < cLine; omega) (fun e h' tk hk => ?_) (fun y ys i v h' tk e hi hv hk => ?_)
    · exact ⟨.int _, H, I.kept hk, ⟨_, rfl⟩, h0 e⟩
    · obtain ⟨t, rfl⟩ := holds_int_is hv
      subst e
      obtain ⟨h1, h2⟩ := maxOf_spec ys y
      exact ⟨.int _, H, I.kept hk, ⟨_, rfl⟩, q _ h1 h2⟩
end
end CB

namespace CB
open PySem PySem.Spec PyProof.Rows L2
/-! ### a def with keyword-only parameters without defaults -/
def OkK (P : Program) (w : World) (K : PySem.W.Frag) (mg : Str → Option Value) (base : Heap) (k : Nat) (a : Addr) (ps : List Str) (n : Nat) (ks : List Str) (sp : Sp) : Prop :=
  ∃ fd : FuncData, FnOk P w K mg base (L2.CX P w) k a fd ps sp ∧ KBn K fd ps n ks (fun us ws => us ++ ws) (fun vs zs => vs ++ zs) ∧ PySem.W.keepIn K (.ref a) = true
section
variable {X : Cx} {CX : CXT} {k n : Nat} {f : Addr} {fd : FuncData} {ps ks : List Str} {sp : Sp} {E : L2.St → XK} {x : Str} {p pos : Pos} {e : Expr} {es : List Expr} {kws : List Keyword} {t tk : TA} {g : List Value → List Value → List Value} {gV : List V → List V → List V}
def tCallNS (n m : Nat) (sp : Sp) (gV : List V → List V → List V) (E : L2.St → XK) (t tk : TA) : TE := fun σ H Q => t σ H fun vs H1 => tk σ H1 fun zs H2 => vs.length = n ∧ zs.length = m ∧ sp (gV vs zs) H2 Q (E σ)
end
end CB

namespace CB
open PySem PySem.Spec PyProof.Rows L2
/-! ### settled signs -/
theorem pw_nn {s : Int} (h : 0 ≤ s) : ∀ i k, 0 ≤ pw s i k
  | 0, 0 => by show (0 : Int) ≤ 1; decide
  | 0, _ + 1 => by simp [pw]
  | i + 1, 0 => by rw [pw]; exact Int.mul_nonneg h (pw_nn h i 0)
  | i + 1, k + 1 => by rw [pw]; exact Int.add_nonneg (Int.mul_nonneg h (pw_nn h i (k + 1))) (pw_nn h i k)
/-- no two coefficients have opposite signs, and the value at 0 is not 0 -/
def StF (g : Nat → Int) : Prop := g 0 ≠ 0 ∧ ((∀ k, 0 ≤ g k) ∨ ∀ k, g k ≤ 0)
theorem StF.congr {f g : Nat → Int} (h : ∀ k, f k = g k) (s : StF f) : StF g := by
  have : f = g := funext h
  rwa [← this]
theorem StF.neg {g : Nat → Int} (h : StF g) : StF fun k => -g k := ⟨fun z => h.1 (by have : -g 0 = 0 := z; omega), by
  rcases h.2 with p | p
  · exact .inr fun k => by have := p k; show -g k ≤ 0; omega
  · exact .inl fun k => by have := p k; show 0 ≤ -g k; omega⟩
theorem shV_neg {s : Int} {f : Nat → Int} {n k : Nat} : shV s (fun i => -f i) n k = -shV s f n k := by
  have e := shV_mul (s := s) (c := -1) (f := f) (n := n) k
  rw [show (fun i => -1 * f i) = (fun i => -f i) from funext fun i => by omega] at e
  omega
theorem sumTo_nn {F : Nat → Int} : ∀ n, (∀ i, i < n → 0 ≤ F i) → 0 ≤ sumTo F n
  | 0, _ => Int.le_refl _
  | n + 1, h => Int.add_nonneg (sumTo_nn n fun i hi => h i (by omega)) (h n (by omega))
theorem st_pos {t : Int} {g : Nat → Int} {n : Nat} (ht : 0 ≤ t) (hz : ∀ i, n ≤ i → g i = 0) (g0 : g 0 ≠ 0) (p : ∀ k, 0 ≤ g k) : StF fun k => shV t g n k := by
  refine ⟨?_, .inl fun k => sumTo_nn n fun i _ => Int.mul_nonneg (p i) (pw_nn ht i k)⟩
  show shV t g n 0 ≠ 0
  cases n with
  | zero => exact absurd (hz 0 (Nat.le_refl _)) g0
  | succ n =>
    unfold shV
    rw [sumTo_first]
    have a := sumTo_nn (F := fun i => g (i + 1) * pw t (i + 1) 0) n fun i _ => Int.mul_nonneg (p _) (pw_nn ht _ 0)
    have b := p 0
    have c : g 0 * pw t 0 0 = g 0 := by show g 0 * 1 = g 0; omega
    rw [c]
    omega
/-- settled from further numbers too -/
theorem StF.more {t : Int} {g : Nat → Int} {n : Nat} (s : StF g) (ht : 0 ≤ t) (hz : ∀ i, n ≤ i → g i = 0) : StF fun k => shV t g n k := by
  rcases s.2 with p | p
  · exact st_pos ht hz s.1 p
  · have z := (st_pos (t := t) (g := fun k => -g k) (n := n) ht (fun i hi => by rw [hz i hi]; rfl) (fun w => s.1 (by omega)) (fun k => by have := p k; omega)).neg
    exact z.congr fun k => by rw [shV_neg]; omega
/-- sizes -/
theorem pw_bits {s : Int} {b : Nat} (h : s.natAbs < 2 ^ b) : ∀ i k, (pw s i k).natAbs < 2 ^ ((b + 1) * i + 1)
  | 0, 0 => by show 1 < 2 ^ ((b + 1) * 0 + 1); rw [Nat.mul_zero]; decide
  | 0, _ + 1 => Nat.pow_pos (by decide)
  | i + 1, 0 => by
    rw [pw, Nat.mul_add (b + 1), Nat.mul_one]
    exact abs_mono (abs_lt_mul h (pw_bits h i 0)) (by omega)
  | i + 1, k + 1 => by
    rw [pw, Nat.mul_add (b + 1), Nat.mul_one]
    exact abs_mono (sz_add (abs_lt_mul h (pw_bits h i (k + 1))) (pw_bits h i k)) (by omega)
theorem shV_bits {s : Int} {f : Nat → Int} {kb b n : Nat} (h : s.natAbs < 2 ^ b) (hf : ∀ i, (f i).natAbs < 2 ^ kb) (k : Nat) : (shV s f n k).natAbs < 2 ^ (kb + ((b + 1) * n + 1) + n) := by
  unfold shV
  exact sumTo_bits n fun i hi => abs_lt_mul (hf i) (abs_mono (pw_bits h i k) (by have := Nat.mul_le_mul_left (b + 1) (show i ≤ n by omega); omega))
end CB

namespace CB.Z
open PySem PySem.Spec PyProof.Rows L2
end CB.Z

namespace CB
open PySem PySem.Spec PyProof.Rows L2
/-- a hook that looks its facts up in a tree of the objects -/
def hkT (H : PySem.W.Hook) (ob : PySem.W.SharedT → H.α) (he : ∀ s : PySem.W.SharedT, ob s = H.obs s.abs) : PySem.W.Hook where
  α := Option H.α
  obs := fun s => match HandSHeadRun.treeOf s with
    | some x => HandSHeadRun.frS x fun x => some (ob x)
    | none => none
  val := fun w => some (H.val w)
  says := H.says
  of := fun w s e => by
    have e1 : (match HandSHeadRun.treeOf s with
      | some x => HandSHeadRun.frS x fun x => some (ob x)
      | none => none) = some (H.val w) := e
    cases h : HandSHeadRun.treeOf s with
    | none => rw [h] at e1; cases e1
    | some x =>
      rw [h] at e1
      have e2 : (HandSHeadRun.frS x fun x => some (ob x)) = some (H.val w) := e1
      rw [HandSHeadRun.frS_eq] at e2
      have e3 := Option.some.inj e2
      rw [he, (HandSHeadRun.treeOf_eq h).1] at e3
      exact H.of w s e3
  keeps := H.keeps
end CB

namespace CB
open PySem PySem.Spec PyProof.Rows L2
/-- a list without zeros at its end, with these coefficients -/
structure Tf (zs : List Int) (f : Nat → Int) : Prop where
  at_ : ∀ k, zs.getD k 0 = f k
  tr : zs.length = 0 ∨ zs.getD (zs.length - 1) 0 ≠ 0
theorem Tf.nil {f : Nat → Int} (h : ∀ k, f k = 0) : Tf [] f := ⟨fun k => by rw [h]; rfl, .inl rfl⟩
theorem Tf.self {zs : List Int} {f : Nat → Int} (t : Tf zs f) : Tf zs (ff zs) := ⟨fun _ => rfl, t.tr⟩
theorem Tf.congr {zs : List Int} {f g : Nat → Int} (t : Tf zs f) (h : ∀ k, f k = g k) : Tf zs g := ⟨fun k => by rw [t.at_, h], t.tr⟩
theorem Tf.len {zs : List Int} {f : Nat → Int} {n : Nat} (t : Tf zs f) (h : ∀ k, n ≤ k → f k = 0) : zs.length ≤ n := Decidable.byContradiction fun c => by
  rcases t.tr with z | z
  · omega
  · exact z (by rw [t.at_]; exact h _ (by omega))
theorem Tf.lenE {zs ws : List Int} {f g : Nat → Int} (a : Tf zs f) (b : Tf ws g) (h : ∀ k, f k = 0 ↔ g k = 0) : zs.length = ws.length := by
  have h1 : zs.length ≤ ws.length := a.len fun k hk => by rw [h, ← b.at_]; exact getD_end hk
  have h2 : ws.length ≤ zs.length := b.len fun k hk => by rw [← h, ← a.at_]; exact getD_end hk
  omega
theorem Tf.uniq {zs ws : List Int} {f g : Nat → Int} (a : Tf zs f) (b : Tf ws g) (h : ∀ k, f k = g k) : zs = ws :=
  list_ext (a.lenE b fun k => by rw [h]) fun k => by rw [a.at_, b.at_, h]
theorem Trim.tf {xs : List Int} {n : Nat} (t : Trim xs n) : Tf (xs.take n) (ff xs) := by
  have hl : (xs.take n).length = n := by rw [List.length_take]; have := t.le; omega
  refine ⟨t.take, ?_⟩
  rw [hl, t.take]
  exact t.at_
theorem Pq.tf {cs ks : List Int} {d e : Int} (p : Pq cs d ks e) : Tf ks (ff ks) := ⟨fun _ => rfl, p.last.elim (fun h => .inl (by rw [h]; rfl)) .inr⟩
/-- the size that is found so far -/
structure TrA (xs : List Int) (i n : Nat) : Prop where
  le : n ≤ i
  up : ∀ k, n ≤ k → k < i → xs.getD k 0 = 0
  at_ : n = 0 ∨ xs.getD (n - 1) 0 ≠ 0
theorem TrA.fin {xs : List Int} {n : Nat} (t : TrA xs xs.length n) : Trim xs n := ⟨t.le, fun k hk => if c : k < xs.length then t.up k hk c else getD_end (by omega), t.at_⟩
theorem TrA.no {xs : List Int} {i n : Nat} (t : TrA xs i n) (h : xs.getD i 0 = 0) : TrA xs (i + 1) n := ⟨by have := t.le; omega, fun k h1 h2 => by
  by_cases c : k = i
  · rw [c]; exact h
  · exact t.up k h1 (by omega), t.at_⟩
/-- a sum in the making -/
structure SuA (fs xs ys : List Int) (N i j : Nat) : Prop where
  len : fs.length = N
  at_ : ∀ k, fs.getD k 0 = (if k < i then xs.getD k 0 else 0) + if k < j then ys.getD k 0 else 0
theorem SuA.start {xs ys : List Int} {N : Nat} : SuA (List.replicate N 0) xs ys N 0 0 := ⟨List.length_replicate, fun k => by
  rw [List.getD_eq_getElem?_getD, List.getElem?_replicate]
  split <;> rfl⟩
theorem SuA.one {fs xs ys : List Int} {N i : Nat} (m : SuA fs xs ys N i 0) (h : i < N) : SuA (fs.set i (xs.getD i 0)) xs ys N (i + 1) 0 := ⟨by rw [List.length_set, m.len], fun k => by
  rw [getD_set (by rw [m.len]; exact h)]
  by_cases c : k = i
  · subst c
    rw [if_pos rfl, if_pos (show k < k + 1 by omega), if_neg (show ¬ k < 0 by omega)]
    omega
  · rw [if_neg c, m.at_]
    congr 1
    by_cases c2 : k < i
    · rw [if_pos c2, if_pos (by omega)]
    · rw [if_neg c2, if_neg (by omega)]⟩
theorem SuA.two {fs xs ys : List Int} {v : Int} {N i j : Nat} (m : SuA fs xs ys N i j) (h : j < N) (hv : v = fs.getD j 0 + ys.getD j 0) : SuA (fs.set j v) xs ys N i (j + 1) := ⟨by rw [List.length_set, m.len], fun k => by
  rw [getD_set (by rw [m.len]; exact h)]
  by_cases c : k = j
  · subst c
    rw [if_pos rfl, hv, m.at_, if_neg (show ¬ k < k by omega), if_pos (show k < k + 1 by omega)]
    omega
  · rw [if_neg c, m.at_]
    congr 1
    by_cases c2 : k < j
    · rw [if_pos c2, if_pos (by omega)]
    · rw [if_neg c2, if_neg (by omega)]⟩
theorem SuA.fin {fs xs ys : List Int} {N : Nat} (m : SuA fs xs ys N xs.length ys.length) (k : Nat) : fs.getD k 0 = xs.getD k 0 + ys.getD k 0 := by
  rw [m.at_]
  congr 1
  · split
    · rfl
    · rw [getD_end (by omega)]
  · split
    · rfl
    · rw [getD_end (by omega)]
/-! ### coefficients as rational numbers -/
def rv (cs : List Int) (d : Int) (i : Nat) : Rat := ((cs.getD i 0 : Int) : Rat) / ((d : Int) : Rat)
theorem ratc_ne {d : Int} (h : d ≠ 0) : ((d : Int) : Rat) ≠ 0 := by exact_mod_cast h
theorem rv_eq {cs ks : List Int} {d e : Int} {i : Nat} (hd : d ≠ 0) (he : e ≠ 0) : rv cs d i = rv ks e i ↔ cs.getD i 0 * e = ks.getD i 0 * d := by
  have h1 := ratc_ne hd
  have h2 := ratc_ne he
  have key : cs.getD i 0 * e = ks.getD i 0 * d ↔ ((cs.getD i 0 : Int) : Rat) * (e : Rat) = ((ks.getD i 0 : Int) : Rat) * (d : Rat) := by
    rw [← Rat.intCast_mul, ← Rat.intCast_mul, Rat.intCast_inj]
  rw [key]
  unfold rv
  constructor
  · intro h; grind
  · intro h; grind
theorem rv_zero {cs : List Int} {d : Int} {i : Nat} (hd : d ≠ 0) : rv cs d i = 0 ↔ cs.getD i 0 = 0 := by
  have h1 := ratc_ne hd
  have key : cs.getD i 0 = 0 ↔ ((cs.getD i 0 : Int) : Rat) = 0 := by
    rw [← Rat.intCast_zero, Rat.intCast_inj]
  rw [key]
  unfold rv
  constructor
  · intro h; grind
  · intro h; grind
theorem Pq.rv {cs ks : List Int} {d e : Int} (p : Pq cs d ks e) (hd : d ≠ 0) (i : Nat) : rv ks e i = CB.rv cs d i :=
  (rv_eq (by have := p.pos; omega) hd).mpr (p.eq i)
end CB

namespace CB
open PySem PySem.Spec PyProof.Rows L2
def sR (f : Nat → Rat) : Nat → Rat
  | 0 => 0
  | n + 1 => sR f n + f n
theorem sR_congr {f g : Nat → Rat} : ∀ n, (∀ i, i < n → f i = g i) → sR f n = sR g n
  | 0, _ => rfl
  | n + 1, h => by rw [sR, sR, sR_congr n fun i hi => h i (by omega), h n (by omega)]
theorem sR_zero {f : Nat → Rat} : ∀ n, (∀ i, i < n → f i = 0) → sR f n = 0
  | 0, _ => rfl
  | n + 1, h => by rw [sR, sR_zero n fun i hi => h i (by omega), h n (by omega)]; grind
theorem sR_add (f g : Nat → Rat) : ∀ n, sR (fun i => f i + g i) n = sR f n + sR g n
  | 0 => by show (0 : Rat) = 0 + 0; grind
  | n + 1 => by rw [sR, sR, sR, sR_add f g n]; grind
theorem sR_mul (c : Rat) (f : Nat → Rat) : ∀ n, sR (fun i => c * f i) n = c * sR f n
  | 0 => by show (0 : Rat) = c * 0; grind
  | n + 1 => by rw [sR, sR, sR_mul c f n]; grind
theorem sR_one {f : Nat → Rat} {k : Nat} : ∀ n, k < n → (∀ i, i < n → i ≠ k → f i = 0) → sR f n = f k
  | 0, h, _ => absurd h (Nat.not_lt_zero _)
  | n + 1, h, z => by
    rw [sR]
    by_cases c : k = n
    · subst c
      rw [sR_zero k fun i hi => z i (by omega) (by omega)]
      grind
    · rw [sR_one n (by omega) fun i hi ne => z i (by omega) ne, z n (by omega) (by omega)]
      grind
theorem sR_more {f : Nat → Rat} {n : Nat} (h : ∀ i, n ≤ i → f i = 0) : ∀ m, sR f (n + m) = sR f n
  | 0 => rfl
  | m + 1 => by rw [← Nat.add_assoc, sR, sR_more h m, h _ (by omega)]; grind
theorem sR_cast (f : Nat → Int) : ∀ n, ((sumTo f n : Int) : Rat) = sR (fun i => ((f i : Int) : Rat)) n
  | 0 => rfl
  | n + 1 => by rw [sumTo, sR, Rat.intCast_add, sR_cast f n]
/-- the product's coefficient -/
def cR (f g : Nat → Rat) (k : Nat) : Rat := sR (fun i => f i * g (k - i)) (k + 1)
theorem cR_congr {f f' g g' : Nat → Rat} (h1 : ∀ i, f i = f' i) (h2 : ∀ i, g i = g' i) (k : Nat) : cR f g k = cR f' g' k :=
  sR_congr _ fun i _ => by rw [h1, h2]
theorem cR_addl (f f' g : Nat → Rat) (k : Nat) : cR (fun i => f i + f' i) g k = cR f g k + cR f' g k := by
  unfold cR
  rw [← sR_add]
  exact sR_congr _ fun i _ => by grind
theorem cR_addr (f g g' : Nat → Rat) (k : Nat) : cR f (fun i => g i + g' i) k = cR f g k + cR f g' k := by
  unfold cR
  rw [← sR_add]
  exact sR_congr _ fun i _ => by grind
theorem cR_mull (c : Rat) (f g : Nat → Rat) (k : Nat) : cR (fun i => c * f i) g k = c * cR f g k := by
  unfold cR
  rw [← sR_mul]
  exact sR_congr _ fun i _ => by grind
theorem cR_mulr (c : Rat) (f g : Nat → Rat) (k : Nat) : cR f (fun i => c * g i) k = c * cR f g k := by
  unfold cR
  rw [← sR_mul]
  exact sR_congr _ fun i _ => by grind
theorem cR_zero {f g : Nat → Rat} {n m k : Nat} (hf : ∀ i, n ≤ i → f i = 0) (hg : ∀ i, m ≤ i → g i = 0) (h : n + m ≤ k + 1) : cR f g k = 0 :=
  sR_zero _ fun i hi => by
    by_cases c : n ≤ i
    · rw [hf i c]; grind
    · rw [hg (k - i) (by omega)]; grind
theorem cR_zl {f g : Nat → Rat} {k : Nat} (hf : ∀ i, f i = 0) : cR f g k = 0 := sR_zero _ fun i _ => by rw [hf i]; grind
theorem cR_zr {f g : Nat → Rat} {k : Nat} (hg : ∀ i, g i = 0) : cR f g k = 0 := sR_zero _ fun i _ => by rw [hg]; grind
theorem cR_top {f g : Nat → Rat} {n m : Nat} (hf : ∀ i, n < i → f i = 0) (hg : ∀ i, m < i → g i = 0) : cR f g (n + m) = f n * g m := by
  unfold cR
  rw [sR_one (k := n) _ (by omega) fun i hi ne => by
    by_cases c : n < i
    · rw [hf i c]; grind
    · rw [hg (n + m - i) (by omega)]; grind]
  rw [show n + m - n = m by omega]
/-- n is the degree plus 1 -/
structure Ln (P : Nat → Rat) (n : Nat) : Prop where
  up : ∀ i, n ≤ i → P i = 0
  at_ : n = 0 ∨ P (n - 1) ≠ 0
theorem Ln.congr {P Q : Nat → Rat} {n : Nat} (l : Ln P n) (h : ∀ i, P i = Q i) : Ln Q n := ⟨fun i hi => by rw [← h]; exact l.up i hi, l.at_.imp id fun z w => z (by rw [h]; exact w)⟩
theorem Ln.le {P : Nat → Rat} {n m : Nat} (l : Ln P n) (h : ∀ i, m ≤ i → P i = 0) : n ≤ m := Decidable.byContradiction fun c => by
  rcases l.at_ with z | z
  · omega
  · exact z (h _ (by omega))
theorem Ln.uniq {P : Nat → Rat} {n m : Nat} (a : Ln P n) (b : Ln P m) : n = m := Nat.le_antisymm (a.le b.up) (b.le a.up)
theorem Tf.ln {zs : List Int} {f : Nat → Int} {d : Int} (t : Tf zs f) (hd : d ≠ 0) : Ln (rv zs d) zs.length :=
  ⟨fun i hi => (rv_zero hd).mpr (getD_end hi), t.tr.imp id fun z w => z ((rv_zero hd).mp w)⟩
/-- v is the degree bound for c and for p = a - b and s = a + b -/
def DB (C p s : Nat → Rat) (v : Int) : Prop := ∃ mc mm mt : Nat, Ln C mc ∧ Ln p mm ∧ Ln s mt ∧
  ((mt ≤ mm ∧ v = max (-1) ((mc : Int) - mm)) ∨
   (mm < mt ∧ ((∃ w : Int, (w : Rat) * s (mt - 1) = -2 * (if 2 ≤ mt then p (mt - 2) else 0) ∧ v = max (-1) (max ((mc : Int) - mt + 1) w)) ∨
     ((∀ w : Int, (w : Rat) * s (mt - 1) ≠ -2 * (if 2 ≤ mt then p (mt - 2) else 0)) ∧ v = max (-1) ((mc : Int) - mt + 1)))))
theorem DB.uniq {C p s : Nat → Rat} {v v' : Int} (a : DB C p s v) (b : DB C p s v') : v = v' := by
  obtain ⟨mc, mm, mt, l1, l2, l3, h⟩ := a
  obtain ⟨mc', mm', mt', l1', l2', l3', h'⟩ := b
  cases l1.uniq l1'
  cases l2.uniq l2'
  cases l3.uniq l3'
  rcases h with ⟨h, e⟩ | ⟨h, e⟩ <;> rcases h' with ⟨h', e'⟩ | ⟨h', e'⟩
  · rw [e, e']
  · omega
  · omega
  · have s0 : s (mt - 1) ≠ 0 := l3.at_.resolve_left (by omega)
    rcases e with ⟨w, hw, e⟩ | ⟨hw, e⟩ <;> rcases e' with ⟨w', hw', e'⟩ | ⟨hw', e'⟩
    · have : (w : Rat) = (w' : Rat) := by grind
      rw [Rat.intCast_inj] at this
      rw [e, e', this]
    · exact absurd hw (hw' w)
    · exact absurd hw' (hw w')
    · rw [e, e']
theorem DB.congr {C p s C' p' s' : Nat → Rat} {v : Int} (a : DB C p s v) (h1 : ∀ i, C i = C' i) (h2 : ∀ i, p i = p' i) (h3 : ∀ i, s i = s' i) : DB C' p' s' v := by
  obtain ⟨mc, mm, mt, l1, l2, l3, h⟩ := a
  refine ⟨mc, mm, mt, l1.congr h1, l2.congr h2, l3.congr h3, ?_⟩
  rw [← h2, ← h3]
  exact h
theorem DB.least {A B C x y : Nat → Rat} {v : Int} {m nA nB : Nat} (hA : ∀ i, nA ≤ i → A i = 0) (hB : ∀ i, nB ≤ i → B i = 0) (lx : Ln x (m + 1)) (y0 : ∀ i, m < i → y i = 0) (y1 : y m = x m) (y2 : ∀ j, m = j + 1 → y j = x j + (m : Rat) * x m)
    (hC : ∀ i, C i = cR A y i - cR B x i) (nz : ∃ i, C i ≠ 0) (h : DB C (fun i => A i - B i) (fun i => A i + B i) v) : (m : Int) ≤ v := by
  obtain ⟨mc, mm, mt, l1, l2, l3, h⟩ := h
  have xm : x m ≠ 0 := lx.at_.resolve_left (by omega)
  have x0 : ∀ i, m < i → x i = 0 := fun i hi => lx.up i (by omega)
  have z0 : ∀ i, m ≤ i → y i - x i = 0 := fun i hi => by
    by_cases c : i = m
    · rw [c, y1]; grind
    · rw [y0 i (by omega), x0 i (by omega)]; grind
  have w0 : ∀ i, m < i → y i + x i = 0 := fun i hi => by rw [y0 i hi, x0 i hi]; grind
  have two : ∀ k, 2 * C k = cR (fun i => A i - B i) (fun i => y i + x i) k + cR (fun i => A i + B i) (fun i => y i - x i) k := fun k => by
    rw [hC]
    have e1 : cR (fun i => A i - B i) (fun i => y i + x i) k = cR A y k + cR A x k - cR B y k - cR B x k := by
      have z1 : ∀ i, (fun i => A i - B i) i = (fun i => A i + (-1) * B i) i := fun i => by show A i - B i = A i + (-1) * B i; grind
      rw [cR_congr z1 (fun _ => rfl), cR_addl, cR_addr, cR_addr, cR_mull, cR_mull]
      grind
    have e2 : cR (fun i => A i + B i) (fun i => y i - x i) k = cR A y k - cR A x k + cR B y k - cR B x k := by
      have z1 : ∀ i, (fun i => y i - x i) i = (fun i => y i + (-1) * x i) i := fun i => by show y i - x i = y i + (-1) * x i; grind
      rw [cR_congr (fun _ => rfl) z1, cR_addl, cR_addr, cR_addr, cR_mulr, cR_mulr]
      grind
    rw [e1, e2]
    grind
  generalize hp : (fun i => A i - B i) = p at *
  generalize hs : (fun i => A i + B i) = s at *
  have half : ∀ k, cR p (fun i => y i + x i) k + cR s (fun i => y i - x i) k = 0 → C k = 0 := fun k e => by
    have := two k
    grind
  have halfn : ∀ k, cR p (fun i => y i + x i) k + cR s (fun i => y i - x i) k ≠ 0 → C k ≠ 0 := fun k e w => e (by rw [← two, w]; grind)
  rcases h with ⟨h, e⟩ | ⟨h, e⟩
  · -- the degree of p is the greater one
    by_cases c : mm = 0
    · obtain ⟨i, hi⟩ := nz
      refine absurd (half i ?_) hi
      rw [cR_zl fun j => l2.up j (by omega), cR_zl fun j => l3.up j (by omega)]
      grind
    · obtain ⟨a, rfl⟩ : ∃ a, mm = a + 1 := ⟨mm - 1, by omega⟩
      have pa : p a ≠ 0 := l2.at_.resolve_left (by omega)
      have lc : Ln C (a + m + 1) := by
        refine ⟨fun i hi => half i ?_, .inr (halfn _ ?_)⟩
        · rw [cR_zero (n := a + 1) (m := m + 1) l2.up (fun j hj => w0 j (by omega)) (by omega), cR_zero (n := a + 1) (m := m) (fun j hj => l3.up j (by omega)) z0 (by omega)]
          grind
        · rw [show a + m + 1 - 1 = a + m by omega, cR_top (n := a) (m := m) (fun j hj => l2.up j (by omega)) w0, cR_zero (n := a + 1) (m := m) (fun j hj => l3.up j (by omega)) z0 (by omega), y1]
          intro z
          have : p a * x m = 0 := by grind
          grind
      cases l1.uniq lc
      omega
  · obtain ⟨t, rfl⟩ : ∃ t, mt = t + 1 := ⟨mt - 1, by omega⟩
    have st : s t ≠ 0 := l3.at_.resolve_left (by omega)
    have s0 : ∀ i, t < i → s i = 0 := fun i hi => l3.up i (by omega)
    have pt : ∀ i, t ≤ i → p i = 0 := fun i hi => l2.up i (by omega)
    have bound : (mc : Int) - ((t + 1 : Nat) : Int) + 1 ≤ v := by
      rcases e with ⟨w, _, e⟩ | ⟨_, e⟩ <;> omega
    -- the coefficient at t + m - 1
    have zm : ∀ j, m = j + 1 → y j - x j = (m : Rat) * x m := fun j hj => by rw [y2 j hj]; grind
    have zz : ∀ j, m = j + 1 → ∀ i, j < i → y i - x i = 0 := fun j hj i hi => z0 i (by omega)
    have above : ∀ i, t + m ≤ i → C i = 0 := fun i hi => half i (by
      rw [cR_zero (n := t) (m := m + 1) pt (fun j hj => w0 j (by omega)) (by omega), cR_zero (n := t + 1) (m := m) (fun j hj => s0 j (by omega)) z0 (by omega)]
      grind)
    by_cases c : t + m = 0
    · obtain ⟨i, hi⟩ := nz
      exact absurd (above i (by omega)) hi
    have key : cR p (fun i => y i + x i) (t + m - 1) + cR s (fun i => y i - x i) (t + m - 1) = x m * (2 * (if 2 ≤ t + 1 then p (t + 1 - 2) else 0) + (m : Rat) * s t) := by
      have k1 : cR p (fun i => y i + x i) (t + m - 1) = x m * (2 * (if 2 ≤ t + 1 then p (t + 1 - 2) else 0)) := by
        by_cases c1 : t = 0
        · subst c1
          rw [cR_zl fun j => pt j (by omega), if_neg (by omega)]
          grind
        · obtain ⟨u, rfl⟩ : ∃ u, t = u + 1 := ⟨t - 1, by omega⟩
          rw [show u + 1 + m - 1 = u + m by omega, cR_top (n := u) (m := m) (fun j hj => pt j (by omega)) w0, if_pos (by omega), show u + 1 + 1 - 2 = u by omega, y1]
          grind
      have k2 : cR s (fun i => y i - x i) (t + m - 1) = x m * ((m : Rat) * s t) := by
        by_cases c1 : m = 0
        · subst c1
          rw [cR_zr fun j => z0 j (by omega)]
          have : ((0 : Nat) : Rat) = 0 := rfl
          grind
        · obtain ⟨u, hu⟩ : ∃ u, m = u + 1 := ⟨m - 1, by omega⟩
          rw [show t + m - 1 = t + u by omega, cR_top (n := t) (m := u) s0 (zz u hu), zm u hu]
          grind
      rw [k1, k2]
      grind
    by_cases c2 : 2 * (if 2 ≤ t + 1 then p (t + 1 - 2) else 0) + (m : Rat) * s t = 0
    · rcases e with ⟨w, hw, e⟩ | ⟨hw, e⟩
      · rw [show t + 1 - 1 = t by omega] at hw
        have : (w : Rat) = (((m : Nat) : Int) : Rat) := by
          have h2 : (((m : Nat) : Int) : Rat) = (m : Rat) := rfl
          rw [h2]
          have : ((w : Rat) - (m : Rat)) * s t = 0 := by grind
          grind
        rw [Rat.intCast_inj] at this
        omega
      · refine absurd ?_ (hw (m : Int))
        rw [show t + 1 - 1 = t by omega]
        have h2 : (((m : Nat) : Int) : Rat) = (m : Rat) := rfl
        rw [h2]
        grind
    · have lc : Ln C (t + m) := by
        refine ⟨above, .inr (halfn _ ?_)⟩
        rw [key]
        intro z
        grind
      cases l1.uniq lc
      omega
theorem pw_diag (s : Int) : ∀ i, pw s i i = 1
  | 0 => rfl
  | i + 1 => by
    show s * pw s i (i + 1) + pw s i i = 1
    rw [pw_diag s i, pw_high s i (i + 1) (by omega)]
    omega
theorem pw_near (s : Int) : ∀ i, pw s (i + 1) i = ((i : Int) + 1) * s
  | 0 => by show s * 1 = _; simp
  | i + 1 => by
    show s * pw s (i + 1) (i + 1) + pw s (i + 1) i = _
    rw [pw_near s i, pw_diag s (i + 1)]
    push_cast
    grind
theorem IsSh.top {s : Int} {zs cs : List Int} (h : IsSh s zs cs) {m : Nat} (hl : cs.length = m + 1) : zs.getD m 0 = cs.getD m 0 ∧ ∀ j, m = j + 1 → zs.getD j 0 = cs.getD j 0 + (m : Int) * s * cs.getD m 0 := by
  constructor
  · rw [h.at_, hl]
    unfold shV
    rw [sumTo_one (k := m) _ (by omega) fun i hi ne => by rw [pw_high s i m (by omega), Int.mul_zero], pw_diag, Int.mul_one]
  · intro j hj
    subst hj
    rw [h.at_, hl]
    unfold shV
    rw [sumTo, sumTo_one (k := j) _ (by omega) fun i hi ne => by rw [pw_high s i j (by omega), Int.mul_zero], pw_diag, pw_near]
    push_cast
    grind
end CB

namespace CB
open PySem PySem.Spec PyProof.Rows L2
theorem sR_mulr (c : Rat) (f : Nat → Rat) (n : Nat) : sR (fun i => f i * c) n = sR f n * c := by
  rw [sR_congr (g := fun i => c * f i) n fun i _ => by grind, sR_mul]
  grind
theorem sR_le {f : Nat → Rat} {n m : Nat} (h : ∀ i, n ≤ i → f i = 0) (l : n ≤ m) : sR f m = sR f n := by
  obtain ⟨d, rfl⟩ : ∃ d, m = n + d := ⟨m - n, by omega⟩
  exact sR_more h d
/-- powers -/
def rp (x : Rat) : Nat → Rat
  | 0 => 1
  | n + 1 => rp x n * x
/-- no coefficient from n on -/
def Sup (f : Nat → Rat) (n : Nat) : Prop := ∀ i, n ≤ i → f i = 0
theorem Sup.le {f : Nat → Rat} {n m : Nat} (h : Sup f n) (l : n ≤ m) : Sup f m := fun i hi => h i (by omega)
theorem rv_sup {cs : List Int} {d : Int} {n : Nat} (hd : d ≠ 0) (h : cs.length ≤ n) : Sup (rv cs d) n := fun i hi => (rv_zero hd).mpr (getD_end (by omega))
/-- the value; never more than 400 coefficients -/
def ev (f : Nat → Rat) (x : Rat) : Rat := sR (fun i => f i * rp x i) 400
/-- moved by s -/
def sh (s : Int) (f : Nat → Rat) (k : Nat) : Rat := sR (fun i => f i * ((pw s i k : Int) : Rat)) 400
theorem sh_n {s : Int} {f : Nat → Rat} {n : Nat} (h : Sup f n) (l : n ≤ 400) (k : Nat) : sh s f k = sR (fun i => f i * ((pw s i k : Int) : Rat)) n :=
  sR_le (fun i hi => by rw [h i hi]; grind) l
theorem IsSh.sh {s : Int} {zs cs : List Int} {e : Int} (h : IsSh s zs cs) (he : e ≠ 0) (l : cs.length ≤ 400) (k : Nat) : rv zs e k = CB.sh s (rv cs e) k := by
  rw [sh_n (rv_sup he (Nat.le_refl _)) l]
  unfold rv
  rw [h.at_]
  unfold shV
  rw [sR_cast]
  have := ratc_ne he
  have e1 : sR (fun i => ((cs.getD i 0 * pw s i k : Int) : Rat)) cs.length / ((e : Int) : Rat) = sR (fun i => ((cs.getD i 0 * pw s i k : Int) : Rat)) cs.length * (1 / ((e : Int) : Rat)) := by grind
  rw [e1, ← sR_mulr]
  exact sR_congr _ fun i _ => by rw [Rat.intCast_mul]; grind
/-! ### operators: coefficients by the power of the shift -/
/-- the coefficient k of the composition -/
def opC (A B : Nat → Nat → Rat) (k : Nat) (e : Nat) : Rat := sR (fun i => cR (A i) (sh (i : Int) (B (k - i))) e) (k + 1)
theorem opC_zero {A B : Nat → Nat → Rat} {p q k : Nat} (hA : ∀ i e, p ≤ i → A i e = 0) (hB : ∀ i e, q ≤ i → B i e = 0) (h : p + q ≤ k + 1) (e : Nat) : opC A B k e = 0 :=
  sR_zero _ fun i hi => by
    by_cases c : p ≤ i
    · exact cR_zl fun j => hA i j c
    · exact cR_zr fun j => sR_zero _ fun m _ => by rw [hB (k - i) m (by omega)]; grind
/-- what an operator gives on values u 0, u 1, .. from x on -/
def opV (A : Nat → Nat → Rat) (x : Rat) (u : Nat → Rat) (n : Nat) : Rat := sR (fun j => ev (A j) x * u j) n
end CB

namespace CB
open PySem PySem.Spec PyProof.Rows L2
abbrev Prt := List Int × Int
abbrev p0 : Prt := ([], 1)
/-- the part at i as a polynomial -/
def pA (L : List Prt) (i : Nat) : Nat → Rat := rv (L.getD i p0).1 (L.getD i p0).2
theorem getDp_end {α : Type} {L : List α} {i : Nat} {d : α} (h : L.length ≤ i) : L.getD i d = d := by rw [List.getD_eq_getElem?_getD, List.getElem?_eq_none h]; rfl
theorem getDp_set {α : Type} {L : List α} {i k : Nat} {v d : α} (h : i < L.length) : (L.set i v).getD k d = if k = i then v else L.getD k d := by
  rw [List.getD_eq_getElem?_getD, List.getD_eq_getElem?_getD, List.getElem?_set]
  by_cases c : i = k
  · subst c
    rw [if_pos rfl, if_pos h, if_pos rfl]
    rfl
  · rw [if_neg c, if_neg fun z => c z.symm]
theorem rv_nil (d : Int) (e : Nat) : rv [] d e = 0 := by
  unfold rv
  show ((0 : Int) : Rat) / _ = 0
  rw [Rat.intCast_zero]
  grind
theorem pA_end {L : List Prt} {i : Nat} (h : L.length ≤ i) (e : Nat) : pA L i e = 0 := by unfold pA; rw [getDp_end h]; exact rv_nil _ _
/-- a part of these sizes, without zeros at its end -/
structure PB (kb db n : Nat) (c : Prt) : Prop where
  bits : ∀ x ∈ c.1, x.natAbs < 2 ^ kb
  pos : 1 ≤ c.2
  den : c.2.natAbs ≤ 2 ^ db
  len : c.1.length ≤ n
  tf : Tf c.1 (ff c.1)
theorem PB.at_ {kb db n : Nat} {c : Prt} (h : PB kb db n c) (i : Nat) : (c.1.getD i 0).natAbs < 2 ^ kb := by
  by_cases z : i < c.1.length
  · exact h.bits _ (getD_mem z)
  · rw [getD_end (by omega)]; exact Nat.pow_pos (by decide)
theorem pb0 {kb db n : Nat} : PB kb db n p0 := ⟨fun x h => absurd h (by simp), by decide, by show 1 ≤ 2 ^ db; exact Nat.pow_pos (by decide), Nat.zero_le _, ⟨fun _ => rfl, .inl rfl⟩⟩
theorem PB.mono {kb db n kb' db' n' : Nat} {c : Prt} (h : PB kb db n c) (h1 : kb ≤ kb') (h2 : db ≤ db') (h3 : n ≤ n') : PB kb' db' n' c :=
  ⟨fun x hx => abs_mono (h.bits x hx) h1, h.pos, Nat.le_trans h.den (Nat.pow_le_pow_right (by decide) h2), Nat.le_trans h.len h3, h.tf⟩
theorem PB.lt {kb db n : Nat} {c : Prt} (h : PB kb db n c) : c.2.natAbs < 2 ^ (db + 1) := Nat.lt_of_le_of_lt h.den (Nat.pow_lt_pow_right (by decide) (by omega))
theorem PB.ne {kb db n : Nat} {c : Prt} (h : PB kb db n c) : c.2 ≠ 0 := by have := h.pos; omega
theorem PB.sup {kb db n : Nat} {c : Prt} (h : PB kb db n c) : Sup (rv c.1 c.2) n := rv_sup h.ne h.len
/-- all of a list -/
def PBs (kb db n : Nat) (L : List Prt) : Prop := ∀ c ∈ L, PB kb db n c
theorem PBs.at_ {kb db n : Nat} {L : List Prt} (h : PBs kb db n L) (i : Nat) : PB kb db n (L.getD i p0) := by
  by_cases c : i < L.length
  · rw [List.getD_eq_getElem?_getD, List.getElem?_eq_getElem c]
    exact h _ (List.getElem_mem c)
  · rw [getDp_end (by omega)]; exact pb0
theorem PBs.sup {kb db n : Nat} {L : List Prt} (h : PBs kb db n L) (i : Nat) : Sup (pA L i) n := (h.at_ i).sup
theorem PBs.mono {kb db n kb' db' n' : Nat} {L : List Prt} (h : PBs kb db n L) (h1 : kb ≤ kb') (h2 : db ≤ db') (h3 : n ≤ n') : PBs kb' db' n' L := fun c hc => (h c hc).mono h1 h2 h3
theorem PBs.take {kb db n m : Nat} {L : List Prt} (h : PBs kb db n L) : PBs kb db n (L.take m) := fun c hc => h c (List.mem_of_mem_take hc)
theorem PBs.set {kb db n i : Nat} {L : List Prt} {c : Prt} (h : PBs kb db n L) (hc : PB kb db n c) : PBs kb db n (L.set i c) := fun x hx => by
  rcases List.mem_or_eq_of_mem_set hx with hx | hx
  · exact h x hx
  · rw [hx]; exact hc
/-- n is where the parts end without the last zero ones -/
structure TrimL (L : List Prt) (n : Nat) : Prop where
  le : n ≤ L.length
  up : ∀ k, n ≤ k → (L.getD k p0).1 = []
  at_ : n = 0 ∨ (L.getD (n - 1) p0).1 ≠ []
structure TrL (L : List Prt) (i n : Nat) : Prop where
  le : n ≤ i
  up : ∀ k, n ≤ k → k < i → (L.getD k p0).1 = []
  at_ : n = 0 ∨ (L.getD (n - 1) p0).1 ≠ []
theorem TrL.fin {L : List Prt} {n : Nat} (t : TrL L L.length n) : TrimL L n := ⟨t.le, fun k hk => if c : k < L.length then t.up k hk c else by rw [getDp_end (by omega)], t.at_⟩
theorem TrL.no {L : List Prt} {i n : Nat} (t : TrL L i n) (h : (L.getD i p0).1 = []) : TrL L (i + 1) n := ⟨by have := t.le; omega, fun k h1 h2 => by
  by_cases c : k = i
  · rw [c]; exact h
  · exact t.up k h1 (by omega), t.at_⟩
/-- the sequence of polynomials ends at n -/
structure LnF (A : Nat → Nat → Rat) (n : Nat) : Prop where
  up : ∀ i, n ≤ i → ∀ e, A i e = 0
  at_ : n = 0 ∨ ∃ e, A (n - 1) e ≠ 0
theorem LnF.congr {A B : Nat → Nat → Rat} {n : Nat} (l : LnF A n) (h : ∀ i e, A i e = B i e) : LnF B n := ⟨fun i hi e => by rw [← h]; exact l.up i hi e, l.at_.imp id fun ⟨e, z⟩ => ⟨e, by rw [← h]; exact z⟩⟩
theorem LnF.uniq {A : Nat → Nat → Rat} {n m : Nat} (a : LnF A n) (b : LnF A m) : n = m := by
  have le : ∀ {n m}, LnF A n → LnF A m → n ≤ m := fun {n m} a b => Decidable.byContradiction fun c => by
    rcases a.at_ with z | ⟨e, z⟩
    · omega
    · exact z (b.up _ (by omega) e)
  exact Nat.le_antisymm (le a b) (le b a)
/-! ### the composition in the making -/
structure AfA (F : List Prt) (A B : Nat → Nat → Rat) (q N E pb n2 i j : Nat) : Prop where
  len : F.length = N
  val : ∀ k e, k < N → pA F k e = sR (fun t => if t ≤ k ∧ k - t < q then cR (A t) (sh (t : Int) (B (k - t))) e else 0) i + (if i ≤ k ∧ k - i < j then cR (A i) (sh (i : Int) (B (k - i))) e else 0)
  ok : ∀ k, k < N → PB (E * (i + if i ≤ k ∧ k - i < j then 1 else 0) + 1) (pb * (i + if i ≤ k ∧ k - i < j then 1 else 0)) n2 (F.getD k p0)
theorem AfA.start {A B : Nat → Nat → Rat} {q N E pb n2 : Nat} : AfA (List.replicate N p0) A B q N E pb n2 0 0 := by
  have z : ∀ k, (List.replicate N p0).getD k p0 = p0 := fun k => by
    rw [List.getD_eq_getElem?_getD, List.getElem?_replicate]
    split <;> rfl
  refine ⟨List.length_replicate, fun k e _ => ?_, fun k _ => ?_⟩
  · unfold pA
    rw [z, if_neg (by omega), rv_nil]
    show (0 : Rat) = 0 + 0
    grind
  · rw [z]; exact pb0
theorem AfA.row {F : List Prt} {A B : Nat → Nat → Rat} {q N E pb n2 i : Nat} (m : AfA F A B q N E pb n2 i q) : AfA F A B q N E pb n2 (i + 1) 0 := by
  refine ⟨m.len, fun k e hk => ?_, fun k hk => ?_⟩
  · rw [m.val k e hk, sR, if_neg (show ¬ (i + 1 ≤ k ∧ k - (i + 1) < 0) by omega)]
    grind
  · rw [if_neg (by omega)]
    refine (m.ok k hk).mono ?_ ?_ (Nat.le_refl _)
    · have : E * (i + if i ≤ k ∧ k - i < q then 1 else 0) ≤ E * (i + 1 + 0) := Nat.mul_le_mul_left _ (by split <;> omega)
      omega
    · exact Nat.mul_le_mul_left _ (by split <;> omega)
theorem AfA.step {F : List Prt} {A B : Nat → Nat → Rat} {q N E pb n2 i j : Nat} {c : Prt} (m : AfA F A B q N E pb n2 i j) (h : i + j < N)
    (hv : ∀ e, rv c.1 c.2 e = pA F (i + j) e + cR (A i) (sh (i : Int) (B j)) e) (hc : PB (E * (i + 1) + 1) (pb * (i + 1)) n2 c) : AfA (F.set (i + j) c) A B q N E pb n2 i (j + 1) := by
  have fl := m.len
  refine ⟨by rw [List.length_set, fl], fun k e hk => ?_, fun k hk => ?_⟩
  · unfold pA
    rw [getDp_set (by omega)]
    by_cases c1 : k = i + j
    · rw [if_pos c1, hv, c1, m.val (i + j) e (by omega), if_neg (by omega), if_pos (by omega), show i + j - i = j by omega]
      grind
    · rw [if_neg c1]
      show pA F k e = _
      rw [m.val k e hk]
      congr 1
      by_cases c2 : i ≤ k ∧ k - i < j
      · rw [if_pos c2, if_pos (by omega)]
      · rw [if_neg c2, if_neg (by omega)]
  · rw [getDp_set (by omega)]
    by_cases c1 : k = i + j
    · rw [if_pos c1, if_pos (by omega)]
      exact hc
    · rw [if_neg c1]
      by_cases c2 : i ≤ k ∧ k - i < j
      · have z := m.ok k hk
        rw [if_pos c2] at z
        rw [if_pos (by omega)]
        exact z
      · have z := m.ok k hk
        rw [if_neg c2] at z
        rw [if_neg (by omega)]
        exact z
theorem AfA.fin {F : List Prt} {A B : Nat → Nat → Rat} {p q N E pb n2 : Nat} (m : AfA F A B q N E pb n2 p 0) (hN : N = p + q) (hA : ∀ i e, p ≤ i → A i e = 0) (hB : ∀ i e, q ≤ i → B i e = 0) (k e : Nat) : pA F k e = opC A B k e := by
  by_cases hk : k < N
  · rw [m.val k e hk, if_neg (show ¬ (p ≤ k ∧ k - p < 0) by omega)]
    have e1 : sR (fun t => if t ≤ k ∧ k - t < q then cR (A t) (sh (t : Int) (B (k - t))) e else 0) p = sR (fun t => if t ≤ k ∧ k - t < q then cR (A t) (sh (t : Int) (B (k - t))) e else 0) (max p (k + 1)) :=
      (sR_le (fun t ht => by
        split
        · exact cR_zl fun x => hA t x ht
        · rfl) (by omega)).symm
    have e2 : opC A B k e = sR (fun t => if t ≤ k ∧ k - t < q then cR (A t) (sh (t : Int) (B (k - t))) e else 0) (k + 1) := sR_congr _ fun t ht => by
      by_cases c : k - t < q
      · rw [if_pos ⟨by omega, c⟩]
      · rw [if_neg fun z => c z.2]
        exact cR_zr fun x => sR_zero _ fun y _ => by rw [hB (k - t) y (by omega)]; grind
    rw [e1, e2, sR_le (n := k + 1) (fun t ht => by rw [if_neg (by omega)]) (by omega)]
    grind
  · rw [pA_end (by rw [m.len]; omega), opC_zero hA hB (by omega)]
/-! ### values as data -/
def prD (c : Prt) : PyData := .tuple [.list (c.1.map PyData.int), .int c.2]
end CB

namespace CB.EQ
open PySem PySem.SeqAt PySem.Spec PyProof.Rows
open AutoSeq1 (wpAny_loadPart')
open MeetsSeq MeetsSeq2 MeetsSeq3 SeqRoads2
section
variable {prog : Program} {w : World} {A : Around} {R : Result → Shared → Prop}
end
section
variable {prog : Program} {w : World} {A : Around} {E : Value → Shared → Prop} {s : Shared}
end
end CB.EQ
namespace CB
open PySem PySem.Spec PyProof.Rows L2
/-- == of two things, with its answer -/
abbrev EqvB := V → V → Hp → Bool → Prop
def MonB (D : EqvB) : Prop := ∀ x y H H' r, Ext H H' → D x y H r → D x y H' r
def EqB (X : Cx) (n : Nat) (D : EqvB) : Prop :=
  ∀ (A : Around) (pins : List (Addr × Obj)) (s : Shared) (σ : L2.St) (H : Hp) (x y : V) (u v : Value) (r : Bool), Sub X n A → Inv X pins σ H s → RelV x u → RelV y v → D x y H r →
    wpAny (model X.prog X.w) A (eqBool u v) (fun r' s' => r' = r ∧ ∃ H', Inv X pins σ H' s' ∧ Ext H H') X.xe s
def RcB (X : Cx) (n : Nat) (D : EqvB) : Prop :=
  ∀ (A : Around) (pins : List (Addr × Obj)) (s : Shared) (σ : L2.St) (H : Hp) (x y : V) (u v : Value) (r : Bool), Sub X n A → Inv X pins σ H s → RelV x u → RelV y v → D x y H r →
    wpAny (model X.prog X.w) A (richCompare .Eq u v) (fun r' s' => r' = .bool r ∧ ∃ H', Inv X pins σ H' s' ∧ Ext H H') X.xe s
section
variable {X : Cx} {n : Nat} {D : EqvB}
/-- tuples: the answer is rt -/
def DTupB (K : PySem.W.Frag) (D : EqvB) : EqvB := fun x y H rt => ∃ a b xs ys, ∃ rs : Nat → Bool, x = .ref a ∧ y = .ref b ∧ SqT K H a xs ∧ SqT K H b ys ∧ (∀ (i : Nat) u v, xs[i]? = some u → ys[i]? = some v → D u v H (rs i)) ∧
  (rt = true ↔ xs.length = ys.length ∧ ∀ i, i < xs.length → i < ys.length → rs i = true)
/-- instances with the text's own == -/
def DInsB (C : Addr) (R : Addr → Addr → Hp → Bool → Prop) : EqvB := fun x y H r => ∃ a b dx dy fs gs, x = .ref a ∧ y = .ref b ∧ H a = some (.ins C dx fs) ∧ H b = some (.ins C dy gs) ∧ R a b H r
/-- what the own == promises -/
def spEqB (R : Addr → Addr → Hp → Bool → Prop) : Sp := fun vs H Q _ => ∃ a b, ∃ r : Bool, vs = [.ref a, .ref b] ∧ R a b H r ∧ ∀ H', Ext H H' → Q (.bl r) H'
/-- x == y as an expression -/
def rEqB (D : EqvB) : R2 := fun x y H Q => ∃ r, D x y H r ∧ ∀ H', Ext H H' → Q (.bl r) H'
end
end CB

namespace CB
open PySem PySem.Spec PyProof.Rows L2
/-! ### many whole numbers in one -/
/-- the value at B, the power 0 first -/
def pkv (B : Int) : List Int → Int
  | [] => 0
  | x :: t => x + B * pkv B t
/-- two and two in one -/
def prs (B : Int) : List Int → List Int
  | [] => []
  | [x] => [x]
  | x :: y :: t => (x + y * B) :: prs B t
theorem pkv_prs {B : Int} : ∀ xs : List Int, pkv (B * B) (prs B xs) = pkv B xs
  | [] => rfl
  | [x] => by simp [prs, pkv]
  | x :: y :: t => by
    have ih := pkv_prs (B := B) t
    show (x + y * B) + B * B * pkv (B * B) (prs B t) = x + B * (y + B * pkv B t)
    rw [ih]
    grind
theorem prs_len {B : Int} : ∀ xs : List Int, (prs B xs).length = (xs.length + 1) / 2
  | [] => rfl
  | [x] => by simp [prs]
  | x :: y :: t => by
    have ih := prs_len (B := B) t
    show (prs B t).length + 1 = (t.length + 1 + 1 + 1) / 2
    rw [ih]
    omega
theorem prs_bound {B k : Nat} (b0 : 1 ≤ B) : ∀ xs : List Int, (∀ x ∈ xs, x.natAbs < 2 ^ (k + 2 * B)) → ∀ z ∈ prs (2 ^ B) xs, z.natAbs < 2 ^ (k + 2 * (2 * B))
  | [], _, z, hz => by simp [prs] at hz
  | [x], h, z, hz => by
    have e : z = x := by simpa [prs] using hz
    rw [e]
    exact Nat.lt_of_lt_of_le (h x (by simp)) (Nat.pow_le_pow_right (by decide) (by omega))
  | x :: y :: t, h, z, hz => by
    rcases List.mem_cons.mp hz with e | hz
    · have hx := h x (by simp)
      have hy := h y (by simp)
      have e4 : (2 : Nat) ^ (k + 2 * (2 * B)) = 2 ^ (k + 2 * B) * (2 ^ B * 2 ^ B) := by rw [← Nat.pow_add, ← Nat.pow_add]; congr 1; omega
      have eb : ((2 : Int) ^ B).natAbs = 2 ^ B := by
        rw [Int.natAbs_pow]; rfl
      have hp : 1 ≤ 2 ^ B := Nat.one_le_two_pow
      have hp2 : 2 ≤ 2 ^ B := by
        obtain ⟨c, rfl⟩ : ∃ c, B = c + 1 := ⟨B - 1, by omega⟩
        have := Nat.one_le_two_pow (n := c)
        rw [Nat.pow_succ]; omega
      rw [e4, e]
      have t1 : (x + y * 2 ^ B).natAbs ≤ x.natAbs + y.natAbs * 2 ^ B := by
        have := Int.natAbs_add_le x (y * 2 ^ B)
        rw [Int.natAbs_mul, eb] at this
        exact this
      generalize 2 ^ (k + 2 * B) = M at hx hy ⊢
      generalize 2 ^ B = P at hp2 t1 ⊢
      have t2 : y.natAbs * P < M * P := Nat.mul_lt_mul_of_pos_right hy (by omega)
      have t3 : M * 2 ≤ M * P := Nat.mul_le_mul_left M hp2
      have t4 : M * P * 2 ≤ M * P * P := Nat.mul_le_mul_left (M * P) hp2
      rw [← Nat.mul_assoc]
      omega
    · exact prs_bound b0 t (fun x hx => h x (by simp [hx])) z hz
/-- within half of 2 ^ B -/
def Hf (B : Nat) (x : Int) : Prop := 2 * x.natAbs < 2 ^ B
/-- t times two and two in one -/
def lay (b : Nat) : Nat → List Int → List Int
  | 0, xs => xs
  | t + 1, xs => prs (2 ^ (b * 2 ^ t)) (lay b t xs)
theorem pkv_sum {B : Int} : ∀ (xs : List Int) (N : Nat), xs.length ≤ N → pkv B xs = sumTo (fun k => xs.getD k 0 * B ^ k) N
  | [], N, _ => by
    rw [show (fun k => ([] : List Int).getD k 0 * B ^ k) = fun _ => 0 from funext fun k => by simp]
    induction N with
    | zero => rfl
    | succ n ih => rw [sumTo, ← ih (by simp)]; rfl
  | x :: t, N, h => by
    obtain ⟨M, rfl⟩ : ∃ M, N = 1 + M := ⟨N - 1, by simp only [List.length_cons] at h; omega⟩
    rw [sumTo_app, pkv, pkv_sum t M (by simp only [List.length_cons] at h; omega), Int.mul_comm B, ← sumTo_mulr]
    congr 1
    · simp [sumTo]
    · congr 1
      funext k
      rw [Nat.add_comm 1 k, Int.pow_succ, Int.mul_assoc]
      rfl
theorem cvS_val {B : Int} {xs ys : List Int} : ∀ n N, n + ys.length ≤ N → sumTo (fun k => cvS xs ys n k * B ^ k) N = sumTo (fun k => xs.getD k 0 * B ^ k) n * pkv B ys
  | 0, N, _ => by
    rw [sumTo_zero N fun k _ => by simp [cvS]]
    simp [sumTo]
  | n + 1, N, h => by
    have ih := cvS_val (B := B) (xs := xs) (ys := ys) n N (by omega)
    rw [sumTo, Int.add_mul, ← ih]
    rw [show (fun k => cvS xs ys (n + 1) k * B ^ k) = fun k => cvS xs ys n k * B ^ k + (if n ≤ k then xs.getD n 0 * ys.getD (k - n) 0 else 0) * B ^ k from funext fun k => by rw [cvS, Int.add_mul]]
    rw [sumTo_add]
    congr 1
    obtain ⟨M, rfl⟩ : ∃ M, N = n + M := ⟨N - n, by omega⟩
    rw [sumTo_app, pkv_sum ys M (by omega), Int.mul_comm (xs.getD n 0 * B ^ n), ← sumTo_mulr]
    have z : sumTo (fun k => (if n ≤ k then xs.getD n 0 * ys.getD (k - n) 0 else 0) * B ^ k) n = 0 := by
      have : ∀ m, m ≤ n → sumTo (fun k => (if n ≤ k then xs.getD n 0 * ys.getD (k - n) 0 else 0) * B ^ k) m = 0 := fun m => by
        induction m with
        | zero => intro _; rfl
        | succ m ihm =>
          intro hm
          rw [sumTo, ihm (by omega), if_neg (by omega)]
          simp
      exact this n (Nat.le_refl _)
    rw [z, Int.zero_add]
    congr 1
    funext k
    rw [if_pos (by omega), Nat.add_sub_cancel_left, Int.pow_add]
    grind
theorem IsMul.val {B : Int} {zs xs ys : List Int} (m : IsMul zs xs ys) : pkv B zs = pkv B xs * pkv B ys := by
  rw [pkv_sum zs _ m.len, pkv_sum xs _ (Nat.le_refl _), ← cvS_val xs.length (xs.length + ys.length) (Nat.le_refl _)]
  congr 1
  funext k
  rw [m.at_ k]
  rfl
theorem cvS_bd {xs ys : List Int} {h g : Nat} (hx : ∀ i, (xs.getD i 0).natAbs ≤ h) (hy : ∀ i, (ys.getD i 0).natAbs ≤ g) (k : Nat) : ∀ n, (cvS xs ys n k).natAbs ≤ n * (h * g)
  | 0 => by simp [cvS]
  | n + 1 => by
    have ih := cvS_bd hx hy k n
    rw [cvS, Nat.add_mul, Nat.one_mul]
    refine Nat.le_trans (Int.natAbs_add_le _ _) (Nat.add_le_add ih ?_)
    split
    · rw [Int.natAbs_mul]
      exact Nat.mul_le_mul (hx n) (hy (k - n))
    · simp
theorem cv_bd {xs ys : List Int} {h g : Nat} (hx : ∀ i, (xs.getD i 0).natAbs ≤ h) (hy : ∀ i, (ys.getD i 0).natAbs ≤ g) (k : Nat) : (cv xs ys k).natAbs ≤ xs.length * (h * g) ∧ (cv xs ys k).natAbs ≤ ys.length * (h * g) := by
  refine ⟨cvS_bd hx hy k _, ?_⟩
  rw [cv_cf, cf_comm, ← cv_cf, Nat.mul_comm h g]
  exact cvS_bd hy hx k _
/-- the product as a list -/
def mulL (xs ys : List Int) : List Int := (List.range (xs.length + ys.length - 1)).map (cv xs ys)
structure PkI (xs : List Int) (b k : Nat) (zs : List Int) (B : Nat) : Prop where
  val : pkv (2 ^ B) zs = pkv (2 ^ b) xs
  ne : 1 ≤ zs.length
  bd : ∀ z ∈ zs, z.natAbs < 2 ^ (k + 2 * B)
  lim : B * (zs.length - 1) ≤ b * (xs.length - 1)
  b1 : 1 ≤ B
  len : zs.length ≤ xs.length
theorem PkI.start {xs : List Int} {b k : Nat} (h : ∀ x ∈ xs, x.natAbs < 2 ^ k) (l : 1 ≤ xs.length) (b1 : 1 ≤ b) : PkI xs b k xs b := ⟨rfl, l, fun z hz => Nat.lt_of_lt_of_le (h z hz) (Nat.pow_le_pow_right (by decide) (by omega)), Nat.le_refl _, b1, Nat.le_refl _⟩
theorem PkI.next {xs zs : List Int} {b k B : Nat} (p : PkI xs b k zs B) (h : 2 ≤ zs.length) : PkI xs b k (prs (2 ^ B) zs) (2 * B) := by
  have e : (2 : Int) ^ (2 * B) = 2 ^ B * 2 ^ B := by rw [← Int.pow_add]; congr 1; omega
  refine ⟨by rw [e, pkv_prs]; exact p.val, by rw [prs_len]; omega, fun z hz => prs_bound p.b1 zs p.bd z hz, ?_, by have := p.b1; omega, by rw [prs_len]; have := p.len; omega⟩
  refine Nat.le_trans ?_ p.lim
  rw [prs_len, Nat.mul_comm 2, Nat.mul_assoc]
  exact Nat.mul_le_mul_left B (by omega)
theorem PkI.fin {xs zs : List Int} {b k B : Nat} (p : PkI xs b k zs B) (h : ¬ 2 ≤ zs.length) : zs.length = 1 ∧ zs.getD 0 0 = pkv (2 ^ b) xs := by
  have := p.ne
  rw [← p.val]
  match zs, this, h with
  | [z], _, _ => exact ⟨rfl, by simp [pkv]⟩
  | _ :: _ :: _, _, h => simp at h
/-- a walk over a list, whatever is done at each item -/
theorem walkL {K : PySem.W.Frag} {a : Addr} {xs : List V} {H0 : Hp} {Qd : Hp → Prop} {BODY : (Hp → Prop) → V → Hp → Prop} (Pv : Nat → Hp → Prop) (h0 : Pv 0 H0) (hl : ∀ i H, i ≤ xs.length → Pv i H → SqL K H a xs)
    (hs : ∀ i x H, xs[i]? = some x → Pv i H → BODY (Pv (i + 1)) x H) (hd : ∀ H, Pv xs.length H → Qd H) :
    ∃ W : Nat → Nat → Hp → Prop, (∃ m, W 0 m H0) ∧ ∀ i m H, W i m H → ((Itl K a).stop i H ∧ Qd H) ∨ ((Itl K a).go i H ∧ ∃ Nx : Hp → Prop, (∀ H', Nx H' → ∃ m', m' < m ∧ W (i + 1) m' H') ∧ ∀ x H', (Itl K a).yld i H x H' → BODY Nx x H') := by
  refine ⟨fun i m H => m = xs.length - i ∧ i ≤ xs.length ∧ Pv i H, ⟨xs.length, by simp, Nat.zero_le _, h0⟩, ?_⟩
  rintro i m H ⟨rfl, hi, p⟩
  have q := hl i H hi p
  by_cases hlt : i < xs.length
  · refine .inr ⟨⟨xs, xs[i], q, by simp [hlt]⟩, Pv (i + 1), fun H' p' => ⟨xs.length - (i + 1), by omega, rfl, hlt, p'⟩, fun x H' y => ?_⟩
    obtain ⟨e, y⟩ := y
    subst e
    exact hs i x _ (y xs q) p
  · have e : i = xs.length := by omega
    subst e
    exact .inl ⟨⟨xs, q, Nat.le_refl _⟩, hd H p⟩
theorem walkT {K : PySem.W.Frag} {a : Addr} {xs : List V} {H0 : Hp} {Qd : Hp → Prop} {BODY : (Hp → Prop) → V → Hp → Prop} (Pv : Nat → Hp → Prop) (h0 : Pv 0 H0) (hl : ∀ i H, i ≤ xs.length → Pv i H → SqT K H a xs)
    (hs : ∀ i x H, xs[i]? = some x → Pv i H → BODY (Pv (i + 1)) x H) (hd : ∀ H, Pv xs.length H → Qd H) :
    ∃ W : Nat → Nat → Hp → Prop, (∃ m, W 0 m H0) ∧ ∀ i m H, W i m H → ((Itt K a).stop i H ∧ Qd H) ∨ ((Itt K a).go i H ∧ ∃ Nx : Hp → Prop, (∀ H', Nx H' → ∃ m', m' < m ∧ W (i + 1) m' H') ∧ ∀ x H', (Itt K a).yld i H x H' → BODY Nx x H') := by
  refine ⟨fun i m H => m = xs.length - i ∧ i ≤ xs.length ∧ Pv i H, ⟨xs.length, by simp, Nat.zero_le _, h0⟩, ?_⟩
  rintro i m H ⟨rfl, hi, p⟩
  have q := hl i H hi p
  by_cases hlt : i < xs.length
  · refine .inr ⟨⟨xs, xs[i], q, by simp [hlt]⟩, Pv (i + 1), fun H' p' => ⟨xs.length - (i + 1), by omega, rfl, hlt, p'⟩, fun x H' y => ?_⟩
    obtain ⟨e, y⟩ := y
    subst e
    exact hs i x _ (y xs q) p
  · have e : i = xs.length := by omega
    subst e
    exact .inl ⟨⟨xs, q, Nat.le_refl _⟩, hd H p⟩
/-- a loop over enumerate of a list -/
theorem for_enL {K : PySem.W.Frag} {a : Addr} {xs : List V} {g : TG} {tb : TS} {D : Ends} {σ : L2.St} {H : Hp} (Pv : Nat → L2.St → Hp → Prop) (h0 : Pv 0 σ H) (hq : ∀ i σ H, Pv i σ H → SqL K H a xs)
    (hs : ∀ (i : Nat) (x : V) (T : Addr) (σ : L2.St) (H : Hp), xs[i]? = some x → Pv i σ H → H T = none → g (.ref T) σ (upd H T (.tup [.int (i : Nat), x])) fun σ2 H2 => tb { D with nx := Pv (i + 1), ct := Pv (i + 1), bk := D.nx } σ2 H2) (hd : ∀ σ H, Pv xs.length σ H → D.nx σ H) :
    ∃ W : Nat → Nat → L2.St → Hp → Prop, (∃ m, W 0 m σ H) ∧ ∀ i m σ H, W i m σ H →
      ((Ite K a).stop i H ∧ D.nx σ H) ∨ ((Ite K a).go i H ∧ ∃ N : L2.St → Hp → Prop, (∀ σ' H', N σ' H' → ∃ m', m' < m ∧ W (i + 1) m' σ' H') ∧ ∀ v H', (Ite K a).yld i H v H' → g v σ H' fun σ2 H2 => tb { D with nx := N, ct := N, bk := D.nx } σ2 H2) := by
  refine ⟨fun i m σ H => m = xs.length - i ∧ i ≤ xs.length ∧ Pv i σ H, ⟨_, rfl, Nat.zero_le _, h0⟩, fun i m σ H hw => ?_⟩
  obtain ⟨rfl, hi, p⟩ := hw
  have qa := hq i σ H p
  by_cases lt : i < xs.length
  · refine .inr ⟨⟨xs, xs[i], qa, List.getElem?_eq_getElem lt⟩, Pv (i + 1), fun σ' H' p' => ⟨_, by omega, rfl, lt, p'⟩, fun v H' y => ?_⟩
    obtain ⟨T, x, rfl, hT, rfl, hx⟩ := y
    exact hs i x T σ H (hx xs qa) p hT
  · have e : i = xs.length := by omega
    subst e
    exact .inl ⟨⟨xs, qa, Nat.le_refl _⟩, hd σ H p⟩
end CB

namespace CB
open PySem PySem.Spec PyProof.Rows L2
/-! ### rows in one list: the product, place by place -/
/-- list(x) within a comprehension -/
abbrev rLstOf (K : PySem.W.Frag) : List V → Hp → VK → Prop := fun xs H Q => ∃ (p : Addr) (ys : List V), xs = [.ref p] ∧ (SqL K H p ys ∨ SqT K H p ys) ∧ ∀ l, H l = none → Q (.ref l) (upd H l (.lst ys))
end CB

namespace CB
open PySem PySem.Spec PyProof.Rows L2
/-! ### tables of whole numbers as functions: values, products, powers -/
abbrev TF := Nat → Nat → Int
/-- the value of the first N coefficients -/
def e1 (f : Nat → Int) (x : Int) (N : Nat) : Int := sumTo (fun i => f i * x ^ i) N
theorem e1_more {f : Nat → Int} {x : Int} {N M : Nat} (h : ∀ i, N ≤ i → f i = 0) (l : N ≤ M) : e1 f x M = e1 f x N := by
  obtain ⟨m, rfl⟩ : ∃ m, M = N + m := ⟨M - N, by omega⟩
  exact sumTo_more (fun i hi => by rw [h i hi, Int.zero_mul]) m
theorem e1_congr {f g : Nat → Int} {x : Int} {N : Nat} (h : ∀ i, i < N → f i = g i) : e1 f x N = e1 g x N := sumTo_congr N fun i hi => by rw [h i hi]
theorem e1_cf {f g : Nat → Int} {x : Int} {N M : Nat} (hf : ∀ i, N ≤ i → f i = 0) (hg : ∀ i, M ≤ i → g i = 0) : e1 (cf f g) x (N + M) = e1 f x N * e1 g x M := by
  have key : ∀ n, sumTo (fun k => cf f g k * x ^ k) n = sumTo (fun i => f i * x ^ i * sumTo (fun m => g m * x ^ m) (n - i)) n := fun n => by
    have e : sumTo (fun k => cf f g k * x ^ k) n = sumTo (fun k => sumTo (fun i => f i * g (k - i) * x ^ k) (k + 1)) n := sumTo_congr n fun k _ => by
      unfold cf
      rw [← sumTo_mulr]
    rw [e, sumTo_tri (fun k i => f i * g (k - i) * x ^ k)]
    refine sumTo_congr n fun i hi => ?_
    rw [← sumTo_mul]
    refine sumTo_congr _ fun m hm => ?_
    rw [show i + m - i = m by omega, Int.pow_add]
    grind
  unfold e1
  rw [key (N + M), sumTo_more (n := N) (fun i hi => by rw [hf i hi]; simp) M, ← sumTo_mulr]
  refine sumTo_congr N fun i hi => ?_
  congr 1
  obtain ⟨d, hd⟩ : ∃ d, N + M - i = M + d := ⟨N - i, by omega⟩
  rw [hd]
  exact sumTo_more (fun m hm => by rw [hg m hm, Int.zero_mul]) d
theorem e1_scale (c : Int) (f : Nat → Int) (x : Int) (N : Nat) : e1 (fun i => c * f i) x N = c * e1 f x N := by
  unfold e1
  rw [← sumTo_mul]
  exact sumTo_congr N fun i _ => by grind
structure Sup2 (F : TF) (R W : Nat) : Prop where
  row : ∀ j i, R ≤ j → F j i = 0
  col : ∀ j i, W ≤ i → F j i = 0
theorem Sup2.mono {F : TF} {R W R' W' : Nat} (s : Sup2 F R W) (h1 : R ≤ R') (h2 : W ≤ W') : Sup2 F R' W' := ⟨fun j i h => s.row j i (by omega), fun j i h => s.col j i (by omega)⟩
def tbl (F : TF) (R W : Nat) : List (List Int) := (List.range R).map fun j => (List.range W).map fun i => F j i
def B2 (B : Nat) (F : TF) : Prop := ∀ j i, (F j i).natAbs < 2 ^ B
theorem B2.mono {B C : Nat} {F : TF} (h : B2 B F) (l : B ≤ C) : B2 C F := fun j i => Nat.lt_of_lt_of_le (h j i) (Nat.pow_le_pow_right (by decide) l)
/-- the value at two numbers -/
def e2 (F : TF) (n k : Int) (R W : Nat) : Int := e1 (fun j => e1 (F j) n W) k R
/-- the product -/
def c2 (F G : TF) : TF := fun j i => sumTo (fun a => cf (F a) (G (j - a)) i) (j + 1)
theorem cf_zero_l {f g : Nat → Int} (h : ∀ i, f i = 0) (k : Nat) : cf f g k = 0 := sumTo_zero _ fun i _ => by rw [h i, Int.zero_mul]
theorem cf_zero_r {f g : Nat → Int} (h : ∀ i, g i = 0) (k : Nat) : cf f g k = 0 := sumTo_zero _ fun i _ => by rw [h (k - i), Int.mul_zero]
theorem cf_endT {f g : Nat → Int} {al be k : Nat} (hf : ∀ s, al ≤ s → f s = 0) (hg : ∀ s, be ≤ s → g s = 0) (h : al + be ≤ k + 1) : cf f g k = 0 := by
  refine sumTo_zero _ fun i hi => ?_
  by_cases c : al ≤ i
  · rw [hf i c, Int.zero_mul]
  · rw [hg (k - i) (by omega), Int.mul_zero]
theorem Sup2.c2 {F G : TF} {R W S V : Nat} (a : Sup2 F R W) (b : Sup2 G S V) : Sup2 (c2 F G) (R + S - 1) (W + V - 1) :=
  ⟨fun j i h => sumTo_zero _ fun t ht => by
    by_cases c : R ≤ t
    · exact cf_zero_l (fun s => a.row t s c) i
    · exact cf_zero_r (fun s => b.row (j - t) s (by omega)) i,
  fun j i h => sumTo_zero _ fun t ht => cf_endT (a.col t) (b.col (j - t)) (by omega)⟩
theorem cf_bits {f g : Nat → Int} {B C : Nat} (hf : ∀ i, (f i).natAbs < 2 ^ B) (hg : ∀ i, (g i).natAbs < 2 ^ C) (k : Nat) : (cf f g k).natAbs < 2 ^ (B + C + (k + 1)) :=
  sumTo_bits _ fun i _ => by
    rw [Int.natAbs_mul, Nat.pow_add]
    exact Nat.mul_lt_mul'' (hf i) (hg (k - i))
theorem B2.c2 {F G : TF} {R W S V B C : Nat} (a : Sup2 F R W) (b : Sup2 G S V) (x : B2 B F) (y : B2 C G) : B2 (B + C + (W + V) + (R + S)) (c2 F G) := fun j i => by
  have s := a.c2 b
  by_cases h1 : R + S - 1 ≤ j
  · rw [s.row j i h1]; exact Nat.two_pow_pos _
  by_cases h2 : W + V - 1 ≤ i
  · rw [s.col j i h2]; exact Nat.two_pow_pos _
  have z := sumTo_bits (F := fun t => cf (F t) (G (j - t)) i) (b := B + C + (W + V)) (j + 1) fun t _ => Nat.lt_of_lt_of_le (cf_bits (x t) (y (j - t)) i) (Nat.pow_le_pow_right (by decide) (by omega))
  exact Nat.lt_of_lt_of_le z (Nat.pow_le_pow_right (by decide) (by omega))
/-- powers -/
def p2 (F : TF) : Nat → TF
  | 0 => fun j i => if j = 0 ∧ i = 0 then 1 else 0
  | e + 1 => c2 (p2 F e) F
theorem Sup2.p2 {F : TF} {R W : Nat} (s : Sup2 F (R + 1) (W + 1)) : ∀ e, Sup2 (p2 F e) (R * e + 1) (W * e + 1)
  | 0 => ⟨fun j i h => if_neg (by omega), fun j i h => if_neg (by omega)⟩
  | e + 1 => by
    have z := (Sup2.p2 s e).c2 s
    exact z.mono (by rw [Nat.mul_add]; omega) (by rw [Nat.mul_add]; omega)
/-- in one list -/
def fl2 (w : Nat) (F : TF) : Nat → Int := fun n => F (n / w) (n % w)
/-! ### moves -/
theorem pw_e1 (s x : Int) : ∀ (i N : Nat), i < N → e1 (pw s i) x N = (x + s) ^ i
  | 0, N, h => by
    obtain ⟨M, rfl⟩ : ∃ M, N = M + 1 := ⟨N - 1, by omega⟩
    unfold e1
    rw [sumTo_first, sumTo_zero M fun k _ => by show (0 : Int) * _ = 0; rw [Int.zero_mul]]
    show (1 : Int) * x ^ 0 + 0 = _
    rw [Int.pow_zero, Int.pow_zero]
    rfl
  | i + 1, N, h => by
    obtain ⟨M, rfl⟩ : ∃ M, N = M + 1 := ⟨N - 1, by omega⟩
    have i1 := pw_e1 s x i (M + 1) (by omega)
    have i2 := pw_e1 s x i M (by omega)
    have z1 : e1 (pw s i) x (M + 1) = pw s i 0 + sumTo (fun k => pw s i (k + 1) * x ^ (k + 1)) M := by
      unfold e1
      rw [sumTo_first, Int.pow_zero, Int.mul_one]
    have z2 : e1 (pw s (i + 1)) x (M + 1) = s * pw s i 0 + sumTo (fun k => s * (pw s i (k + 1) * x ^ (k + 1)) + x * (pw s i k * x ^ k)) M := by
      unfold e1
      rw [sumTo_first, Int.pow_zero, Int.mul_one]
      show s * pw s i 0 + _ = _
      congr 1
      refine sumTo_congr M fun k _ => ?_
      show (s * pw s i (k + 1) + pw s i k) * x ^ (k + 1) = _
      rw [Int.pow_succ]
      grind
    rw [z2, sumTo_add, sumTo_mul, sumTo_mul, Int.pow_succ]
    rw [i1] at z1
    have z3 : sumTo (fun k => pw s i k * x ^ k) M = (x + s) ^ i := i2
    rw [z3]
    have z4 : sumTo (fun k => pw s i (k + 1) * x ^ (k + 1)) M = (x + s) ^ i - pw s i 0 := by omega
    rw [z4]
    grind
theorem shV_high {s : Int} {f : Nat → Int} {n k : Nat} (h : n ≤ k) : shV s f n k = 0 := sumTo_zero n fun i hi => by rw [pw_high s i k (by omega), Int.mul_zero]
theorem e1_shV (s x : Int) (f : Nat → Int) (N : Nat) : e1 (shV s f N) x N = e1 f (x + s) N := by
  show sumTo (fun k => sumTo (fun i => f i * pw s i k) N * x ^ k) N = _
  have e : sumTo (fun k => sumTo (fun i => f i * pw s i k) N * x ^ k) N = sumTo (fun k => sumTo (fun i => f i * (pw s i k * x ^ k)) N) N := sumTo_congr N fun k _ => by
    rw [← sumTo_mulr]
    exact sumTo_congr N fun i _ => by grind
  rw [e, sumTo_swap (fun k i => f i * (pw s i k * x ^ k)) N N]
  refine sumTo_congr N fun i hi => ?_
  rw [sumTo_mul]
  congr 1
  exact pw_e1 s x i N hi
/-- the table of the moved one -/
def m2 (F : TF) (a b : Int) (R W : Nat) : TF := fun j i => shV b (fun t => shV a (F t) W i) R j
theorem Sup2.m2 {F : TF} {R W : Nat} (s : Sup2 F R W) (a b : Int) : Sup2 (m2 F a b R W) R W :=
  ⟨fun j i h => shV_high h, fun j i h => sumTo_zero R fun t _ => by
    show shV a (F t) W i * _ = 0
    rw [shV_high h, Int.zero_mul]⟩
/-- the bits of a move of n places -/
def mvB (b n : Nat) : Nat := (b + 1) * n + 1 + n
theorem B2.m2 {F : TF} {a b : Int} {R W B c : Nat} (h : B2 B F) (ha : a.natAbs < 2 ^ c) (hb : b.natAbs < 2 ^ c) : B2 (B + mvB c W + mvB c R) (m2 F a b R W) := fun j i => by
  have z : ∀ t, (shV a (F t) W i).natAbs < 2 ^ (B + mvB c W) := fun t => Nat.lt_of_lt_of_le (shV_bits ha (h t) i) (Nat.pow_le_pow_right (by decide) (by unfold mvB; omega))
  exact Nat.lt_of_lt_of_le (shV_bits (n := R) hb z j) (Nat.pow_le_pow_right (by decide) (by unfold mvB; omega))
/-! ### p(n + k) -/
/-- the table of f(n + k) -/
def sF (f : Nat → Int) : TF := fun i t => (chs (i + t) i : Int) * f (i + t)
theorem Sup2.sF {f : Nat → Int} {N : Nat} (h : ∀ i, N ≤ i → f i = 0) : Sup2 (sF f) N N :=
  ⟨fun j i hj => by show _ * f (j + i) = 0; rw [h _ (by omega), Int.mul_zero], fun j i hi => by show _ * f (j + i) = 0; rw [h _ (by omega), Int.mul_zero]⟩
/-! ### tables given as lists -/
theorem evL_e1 (x : Int) : ∀ (cs : List Int) (N : Nat), cs.length ≤ N → evL x cs = e1 (ff cs) x N
  | [], N, _ => (sumTo_zero N fun i _ => by simp [ff]).symm
  | c :: r, 0, h => absurd h (by simp)
  | c :: r, N + 1, h => by
    show evL x r * x + c = _
    rw [evL_e1 x r N (by simpa using h)]
    unfold e1
    rw [sumTo_first, Int.pow_zero, Int.mul_one, ← sumTo_mulr]
    show _ = c + _
    rw [Int.add_comm]
    congr 1
    refine sumTo_congr N fun i _ => ?_
    show r.getD i 0 * x ^ i * x = r.getD i 0 * x ^ (i + 1)
    rw [Int.pow_succ]
    grind
def tF (rs : List (List Int)) : TF := fun j i => (rs.getD j []).getD i 0
theorem Sup2.tF {rs : List (List Int)} {R W : Nat} (h1 : rs.length ≤ R) (h2 : ∀ r ∈ rs, r.length ≤ W) : Sup2 (tF rs) R W :=
  ⟨fun j i h => by unfold CB.tF; rw [List.getD_eq_getElem?_getD (l := rs), List.getElem?_eq_none (by omega)]; rfl, fun j i h => by
    unfold CB.tF
    by_cases c : j < rs.length
    · rw [List.getD_eq_getElem?_getD (l := rs), List.getElem?_eq_getElem c]
      exact getD_end (Nat.le_trans (h2 _ (List.getElem_mem c)) h)
    · rw [List.getD_eq_getElem?_getD (l := rs), List.getElem?_eq_none (by omega)]; rfl⟩
/-! ### the outermost places of products and powers -/
theorem cf_top {f g : Nat → Int} {a b : Nat} (hf : ∀ i, a < i → f i = 0) (hg : ∀ i, b < i → g i = 0) : cf f g (a + b) = f a * g b := by
  unfold cf
  rw [sumTo_one (k := a) (a + b + 1) (by omega) fun i _ ne => ?_, show a + b - a = b by omega]
  by_cases c : a < i
  · rw [hf i c, Int.zero_mul]
  · rw [hg (a + b - i) (by omega), Int.mul_zero]
/-- the bits of a power -/
def p2B (B R W : Nat) : Nat → Nat
  | 0 => 1
  | e + 1 => p2B B R W e + B + (W * e + 1 + (W + 1)) + (R * e + 1 + (R + 1))
theorem B2.p2 {F : TF} {R W B : Nat} (s : Sup2 F (R + 1) (W + 1)) (b : B2 B F) : ∀ e, B2 (p2B B R W e) (p2 F e)
  | 0 => fun j i => by
    show (if j = 0 ∧ i = 0 then (1 : Int) else 0).natAbs < 2 ^ 1
    split <;> decide
  | e + 1 => (B2.p2 s b e).c2 (Sup2.p2 s e) s b
end CB

namespace CB
open PySem PySem.Spec PyProof.Rows L2
/-! ### binomials, factorials and products that grow by 1 -/
/-- (z + lo) (z + lo + 1) .. : m factors -/
def rsP (z : Int) (lo : Nat) : Nat → Int
  | 0 => 1
  | m + 1 => rsP z lo m * (z + ((lo + m : Nat) : Int))
/-! ### the numbers of a binomial sum's summands, and their weighted sum -/
/-- the sum of c_i x ^ i y ^ (last - i) -/
def wtV (x y : Int) : List Int → Int
  | [] => 0
  | c :: r => c * y ^ r.length + x * wtV x y r
end CB

namespace CB
open PySem PySem.Spec PyProof.Rows L2
/-! ### C(.., k = v, ..) in a try's body -/
def tMakeKS (C : Addr) (n m : Nat) (sp : Sp) (gV : List V → List V → List V) (E : L2.St → XK) (t tk : TA) : TE := fun σ H Q => t σ H fun vs H1 => tk σ H1 fun zs H2 => vs.length = n ∧ zs.length = m ∧ ∀ x dx, H2 x = none → H2 dx = none → dx ≠ x →
  sp (gV (.ref x :: vs) zs) (upd (upd H2 dx (.own x)) x (.ins C dx [])) (fun v H3 => v = .non ∧ Q (.ref x) H3) (E σ)
section
variable {X : Cx} {CX : CXT} {k n : Nat} {f C : Addr} {fd : FuncData} {ps ks : List Str} {sp : Sp} {E : L2.St → XK} {x : Str} {p pos : Pos} {e : Expr} {es : List Expr} {kws : List Keyword} {t tk : TA} {g : List Value → List Value → List Value} {gV : List V → List V → List V}
end
end CB

namespace CB
open PySem PySem.Spec PyProof.Rows L2
/-! ### polynomials with whole coefficients, as functions -/
/-- nothing from n on -/
def Fz (f : Nat → Int) (n : Nat) : Prop := ∀ i, n ≤ i → f i = 0
theorem Fz.mono {f : Nat → Int} {n m : Nat} (h : Fz f n) (l : n ≤ m) : Fz f m := fun i hi => h i (by omega)
/-- the degree is n -/
structure Dg (f : Nat → Int) (n : Nat) : Prop where
  top : f n ≠ 0
  up : Fz f (n + 1)
theorem Dg.uniq {f : Nat → Int} {n m : Nat} (h : Dg f n) (k : Dg f m) : n = m := by
  rcases Nat.lt_trichotomy n m with c | c | c
  · exact absurd (h.up m (by omega)) k.top
  · exact c
  · exact absurd (k.up n (by omega)) h.top
theorem Dg.cf {f g : Nat → Int} {a b : Nat} (h : Dg f a) (k : Dg g b) : Dg (CB.cf f g) (a + b) := by
  refine ⟨?_, fun i hi => cf_endT (al := a + 1) (be := b + 1) (fun s hs => h.up s hs) (fun s hs => k.up s hs) (by omega)⟩
  rw [cf_top (fun i hi => h.up i hi) (fun i hi => k.up i hi)]
  exact Int.mul_ne_zero h.top k.top
/-- a polynomial is zero or has a degree -/
theorem zero_or_dg {f : Nat → Int} : ∀ n, Fz f n → (∀ i, f i = 0) ∨ ∃ m, m < n ∧ Dg f m
  | 0, h => .inl fun i => h i (Nat.zero_le _)
  | n + 1, h => by
    by_cases c : f n = 0
    · have h' : Fz f n := fun i hi => by
        by_cases e : i = n
        · rw [e, c]
        · exact h i (by omega)
      rcases zero_or_dg n h' with z | ⟨m, hm, d⟩
      · exact .inl z
      · exact .inr ⟨m, by omega, d⟩
    · exact .inr ⟨n, by omega, c, h⟩
theorem Fz.cf {f g : Nat → Int} {a b : Nat} (h : Fz f a) (k : Fz g b) : Fz (CB.cf f g) (a + b) := fun i hi => cf_endT (al := a) (be := b) (fun s hs => h s hs) (fun s hs => k s hs) (by omega)
theorem Fz.add {f g : Nat → Int} {a : Nat} (h : Fz f a) (k : Fz g a) : Fz (fun i => f i + g i) a := fun i hi => by show f i + g i = 0; rw [h i hi, k i hi]; rfl
theorem Fz.scale {f : Nat → Int} {a : Nat} (c : Int) (h : Fz f a) : Fz (fun i => c * f i) a := fun i hi => by show c * f i = 0; rw [h i hi, Int.mul_zero]
theorem cf_add_l (f g h : Nat → Int) (k : Nat) : cf (fun i => f i + g i) h k = cf f h k + cf g h k := by
  rw [cf_comm, cf_add, cf_comm h f, cf_comm h g]
theorem cf_scale_l (f g : Nat → Int) (c : Int) (k : Nat) : cf (fun i => c * f i) g k = c * cf f g k := by
  rw [cf_comm, cf_scale, cf_comm g f]
/-- 1 and the powers of x -/
def xp (n : Nat) : Nat → Int := fun i => if i = n then 1 else 0
theorem xp_fz (n : Nat) : Fz (xp n) (n + 1) := fun i hi => if_neg (by omega)
theorem cf_one (f : Nat → Int) (k : Nat) : cf (xp 0) f k = f k := by
  unfold cf
  rw [sumTo_one (k := 0) (k + 1) (by omega) fun i _ ne => by unfold xp; rw [if_neg ne, Int.zero_mul], Nat.sub_zero]
  show (if 0 = 0 then (1 : Int) else 0) * f k = f k
  rw [if_pos rfl, Int.one_mul]
theorem cf_xp (f : Nat → Int) (n k : Nat) : cf (xp n) f k = if n ≤ k then f (k - n) else 0 := by
  unfold cf
  by_cases c : n ≤ k
  · rw [if_pos c, sumTo_one (k := n) (k + 1) (by omega) fun i _ ne => by unfold xp; rw [if_neg ne, Int.zero_mul]]
    unfold xp
    rw [if_pos rfl, Int.one_mul]
  · rw [if_neg c]
    exact sumTo_zero _ fun i hi => by unfold xp; rw [if_neg (by omega), Int.zero_mul]
/-- no zero divisors -/
theorem cf_cancel {f g h : Nat → Int} {a n : Nat} (df : Dg f a) (hg : Fz g n) (hh : Fz h n) (e : ∀ k, cf f g k = cf f h k) (i : Nat) : g i = h i := by
  have hz : Fz (fun i => g i + -1 * h i) n := hg.add (hh.scale (-1))
  have z : ∀ k, cf f (fun i => g i + -1 * h i) k = 0 := fun k => by
    rw [cf_add, cf_scale, e k]
    omega
  rcases zero_or_dg n hz with zz | ⟨m, _, d⟩
  · have : g i + -1 * h i = 0 := zz i
    omega
  · exact absurd (z _) (df.cf d).top
/-! ### divisibility over the fractions -/
def Dv (d p : Nat → Int) : Prop := ∃ (m : Int) (s : Nat → Int) (N : Nat), m ≠ 0 ∧ Fz s N ∧ ∀ i, m * p i = cf s d i
theorem Dv.refl (d : Nat → Int) : Dv d d := ⟨1, xp 0, 1, by decide, xp_fz 0, fun i => by rw [cf_one, Int.one_mul]⟩
theorem Dv.zero {d p : Nat → Int} (h : ∀ i, p i = 0) : Dv d p := ⟨1, fun _ => 0, 0, by decide, fun i _ => rfl, fun i => by rw [h i, cf_zero_l fun _ => rfl, Int.mul_zero]⟩
theorem Dv.trans {a b c : Nat → Int} (h : Dv a b) (k : Dv b c) : Dv a c := by
  obtain ⟨m, s, N, m0, hs, e⟩ := h
  obtain ⟨m', s', N', m0', hs', e'⟩ := k
  refine ⟨m * m', cf s' s, N' + N, Int.mul_ne_zero m0 m0', hs'.cf hs, fun i => ?_⟩
  rw [Int.mul_assoc, e', ← cf_scale, cf_assoc]
  exact cf_congr (fun _ => rfl) e i
/-- of a combination -/
theorem Dv.comb {d a b x y : Nat → Int} {N M : Nat} (h : Dv d a) (k : Dv d b) (hx : Fz x N) (hy : Fz y M) : Dv d (fun i => cf x a i + cf y b i) := by
  obtain ⟨m, s, A, m0, hs, e⟩ := h
  obtain ⟨m', s', A', m0', hs', e'⟩ := k
  refine ⟨m * m', fun i => m' * cf x s i + m * cf y s' i, max (N + A) (M + A'), Int.mul_ne_zero m0 m0', Fz.add (Fz.scale _ ((hx.cf hs).mono (by omega))) (Fz.scale _ ((hy.cf hs').mono (by omega))), fun i => ?_⟩
  rw [cf_add_l (fun i => m' * cf x s i) (fun i => m * cf y s' i), cf_scale_l, cf_scale_l, cf_assoc, cf_assoc]
  rw [show cf x (cf s d) i = m * cf x a i by rw [← cf_scale]; exact cf_congr (fun _ => rfl) (fun j => (e j).symm) i]
  rw [show cf y (cf s' d) i = m' * cf y b i by rw [← cf_scale]; exact cf_congr (fun _ => rfl) (fun j => (e' j).symm) i]
  show m * m' * (cf x a i + cf y b i) = _
  grind
theorem Dv.scale {d a : Nat → Int} {c : Int} (c0 : c ≠ 0) (h : Dv d (fun i => c * a i)) : Dv d a := by
  obtain ⟨m, s, N, m0, hs, e⟩ := h
  exact ⟨m * c, s, N, Int.mul_ne_zero m0 c0, hs, fun i => by rw [← e, Int.mul_assoc]⟩
theorem Dv.scale' {d a : Nat → Int} (c : Int) (h : Dv d a) : Dv d (fun i => c * a i) := by
  obtain ⟨m, s, N, m0, hs, e⟩ := h
  exact ⟨m, fun i => c * s i, N, m0, hs.scale c, fun i => by rw [cf_scale_l, ← e]; grind⟩
theorem Dv.scale_l {d a : Nat → Int} {c : Int} (c0 : c ≠ 0) (h : Dv d a) : Dv (fun i => c * d i) a := by
  obtain ⟨m, s, N, m0, hs, e⟩ := h
  exact ⟨c * m, s, N, Int.mul_ne_zero c0 m0, hs, fun i => by rw [cf_scale, ← e, Int.mul_assoc]⟩
theorem Dv.congr {d d' a a' : Nat → Int} (h : Dv d a) (e : ∀ i, d' i = d i) (f : ∀ i, a' i = a i) : Dv d' a' := by
  have e1 : d' = d := funext e
  have e2 : a' = a := funext f
  rw [e1, e2]
  exact h
theorem Dv.deg {d a : Nat → Int} {n m : Nat} (h : Dv d a) (dd : Dg d n) (da : Dg a m) : n ≤ m := by
  obtain ⟨c, s, N, c0, hs, e⟩ := h
  have dc : Dg (fun i => c * a i) m := ⟨Int.mul_ne_zero c0 da.top, da.up.scale c⟩
  rcases zero_or_dg N hs with z | ⟨k, _, dk⟩
  · exact absurd ((e m).trans (cf_zero_l z m)) dc.top
  · have x := dk.cf dd
    have y : Dg (CB.cf s d) m := ⟨by rw [← e]; exact dc.top, fun i hi => by rw [← e]; exact dc.up i hi⟩
    have := x.uniq y
    omega
/-! ### the greatest common divisor, with its combination -/
/-- bits of all coefficients -/
def Bt (k : Nat) (f : Nat → Int) : Prop := ∀ i, (f i).natAbs < 2 ^ k
theorem Bt.mono {k j : Nat} {f : Nat → Int} (h : Bt k f) (l : k ≤ j) : Bt j f := fun i => Nat.lt_of_lt_of_le (h i) (Nat.pow_le_pow_right (by decide) l)
def fibb : Nat → Nat
  | 0 => 0
  | 1 => 1
  | n + 2 => fibb (n + 1) + fibb n
/-- what Euclid's way gives: a divisor of both that is a combination of them -/
structure Euc (A B : Nat → Int) (e : Nat → Int) : Prop where
  da : Dv e A
  db : Dv e B
  comb : ∃ (u v : Nat → Int) (N : Nat), Fz u N ∧ Fz v N ∧ ∀ i, e i = cf u A i + cf v B i
theorem Euc.symm {A B e : Nat → Int} (h : Euc A B e) : Euc B A e := by
  obtain ⟨u, v, N, hu, hv, c⟩ := h.comb
  exact ⟨h.db, h.da, v, u, N, hv, hu, fun i => by rw [c i, Int.add_comm]⟩
theorem Euc.max {A B e d : Nat → Int} (h : Euc A B e) (a : Dv d A) (b : Dv d B) : Dv d e := by
  obtain ⟨u, v, N, hu, hv, c⟩ := h.comb
  exact (Dv.comb a b hu hv).congr (fun _ => rfl) c
/-- one step: the greater one made shorter -/
theorem step_dg {A B : Nat → Int} {a b : Nat} (da : Dg A a) (db : Dg B b) (h : b ≤ a) : Fz (fun i => B b * A i + -A a * cf (xp (a - b)) B i) a := fun i hi => by
  show B b * A i + -A a * cf (xp (a - b)) B i = 0
  rw [cf_xp, if_pos (by omega)]
  by_cases c : i = a
  · subst c
    rw [show i - (i - b) = b by omega]
    grind
  · rw [da.up i (by omega), db.up (i - (a - b)) (by omega)]
    simp
theorem Euc.step {A B e : Nat → Int} {a b : Nat} (B0 : B b ≠ 0) (h : Euc (fun i => B b * A i + -A a * cf (xp (a - b)) B i) B e) : Euc A B e := by
  obtain ⟨u, v, N, hu, hv, c⟩ := h.comb
  refine ⟨?_, h.db, fun i => B b * u i, fun i => v i + -A a * cf u (xp (a - b)) i, N + (a - b + 1), (hu.scale _).mono (by omega), Fz.add (hv.mono (by omega)) (Fz.scale _ (hu.cf (xp_fz _))), fun i => ?_⟩
  · refine Dv.scale B0 ?_
    have z := Dv.comb (x := xp 0) (y := fun i => A a * xp (a - b) i) h.da h.db (xp_fz 0) ((xp_fz (a - b)).scale _)
    refine z.congr (fun _ => rfl) fun i => ?_
    rw [cf_one, cf_scale_l]
    grind
  · rw [c i, cf_scale_l, cf_add_l v (fun i => -A a * cf u (xp (a - b)) i) B, cf_scale_l, cf_assoc]
    have z : cf u (fun i => B b * A i + -A a * cf (xp (a - b)) B i) i = B b * cf u A i + -A a * cf u (cf (xp (a - b)) B) i := by
      rw [cf_add u (fun i => B b * A i) (fun i => -A a * cf (xp (a - b)) B i), cf_scale, cf_scale u (cf (xp (a - b)) B)]
    rw [z]
    omega
theorem fibb_pos : ∀ n, 0 < fibb (n + 1)
  | 0 => by decide
  | n + 1 => Nat.add_pos_left (fibb_pos n) _
/-- Euclid's way ends: with the bits of what it gives -/
theorem euclid : ∀ (n : Nat) {A B : Nat → Int} {a b x y : Nat}, Dg A a → Dg B b → a + b ≤ n → Bt x A → Bt y B → ∃ e k, Euc A B e ∧ (∃ m, m ≤ min a b ∧ Dg e m) ∧ Bt k e ∧ k + 1 ≤ fibb (n + 2) * (max x y + 1) + fibb (n + 1) * (min x y + 1) := by
  intro n
  induction n with
  | zero =>
    intro A B a b x y da db h bx by_
    obtain rfl : a = 0 := by omega
    obtain rfl : b = 0 := by omega
    refine ⟨A, x, ⟨Dv.refl A, ?_, xp 0, fun _ => 0, 1, xp_fz 0, fun i _ => rfl, fun i => by rw [cf_one, cf_zero_l fun _ => rfl]; omega⟩, ⟨0, by omega, da⟩, bx, ?_⟩
    · refine ⟨A 0, fun i => B 0 * xp 0 i, 1, da.top, (xp_fz 0).scale _, fun i => ?_⟩
      rw [cf_scale_l, cf_one]
      by_cases c : i = 0
      · rw [c, Int.mul_comm]
      · rw [db.up i (by omega), da.up i (by omega)]; simp
    · show x + 1 ≤ 1 * (max x y + 1) + 1 * (min x y + 1)
      omega
  | succ n ih =>
    have main : ∀ {A B : Nat → Int} {a b x y : Nat}, Dg A a → Dg B b → a + b ≤ n + 1 → b ≤ a → Bt x A → Bt y B → ∃ e k, Euc A B e ∧ (∃ m, m ≤ min a b ∧ Dg e m) ∧ Bt k e ∧ k + 1 ≤ fibb (n + 3) * (max x y + 1) + fibb (n + 2) * (min x y + 1) := by
      intro A B a b x y da db h hba bx by_
      have f1 : fibb (n + 3) = fibb (n + 2) + fibb (n + 1) := rfl
      have p1 := fibb_pos (n + 1)
      have bC : Bt (x + y + 1) (fun i => B b * A i + -A a * cf (xp (a - b)) B i) := fun i => by
        show (B b * A i + -A a * cf (xp (a - b)) B i).natAbs < _
        have z1 : (B b * A i).natAbs < 2 ^ (x + y) := by
          rw [Int.natAbs_mul, Nat.add_comm x y, Nat.pow_add]
          exact Nat.mul_lt_mul'' (by_ b) (bx i)
        have z2 : (-A a * cf (xp (a - b)) B i).natAbs < 2 ^ (x + y) := by
          rw [Int.natAbs_mul, Int.natAbs_neg, cf_xp, Nat.pow_add]
          split
          · exact Nat.mul_lt_mul'' (bx a) (by_ _)
          · rw [Int.natAbs_zero, Nat.mul_zero]
            exact Nat.mul_pos (Nat.two_pow_pos _) (Nat.two_pow_pos _)
        have := Int.natAbs_add_le (B b * A i) (-A a * cf (xp (a - b)) B i)
        rw [Nat.pow_succ]
        omega
      rcases zero_or_dg a (step_dg da db hba) with z | ⟨m, hm, dm⟩
      · refine ⟨B, y, Euc.step (a := a) (b := b) db.top ⟨Dv.zero z, Dv.refl B, fun _ => 0, xp 0, 1, fun i _ => rfl, xp_fz 0, fun i => by rw [cf_one, cf_zero_l fun _ => rfl]; omega⟩, ⟨b, by omega, db⟩, by_, ?_⟩
        have q1 : y + 1 ≤ max x y + 1 := by omega
        have q2 : 1 * (max x y + 1) ≤ fibb (n + 3) * (max x y + 1) := Nat.mul_le_mul_right _ (show 1 ≤ fibb (n + 3) from fibb_pos (n + 2))
        omega
      · obtain ⟨e, k, eu, ⟨m', hm', de⟩, bk, hk⟩ := ih dm db (by omega) bC by_
        refine ⟨e, k, Euc.step (a := a) (b := b) db.top eu, ⟨m', by omega, de⟩, bk, ?_⟩
        have e1 : max (x + y + 1) y + 1 = (max x y + 1) + (min x y + 1) := by omega
        have e2 : min (x + y + 1) y + 1 ≤ max x y + 1 := by omega
        have q1 := Nat.mul_le_mul_left (fibb (n + 1)) e2
        rw [e1, Nat.mul_add] at hk
        rw [f1, Nat.add_mul]
        omega
    intro A B a b x y da db h bx by_
    by_cases c : b ≤ a
    · exact main da db h c bx by_
    · obtain ⟨e, k, eu, ⟨m, hm, de⟩, bk, hk⟩ := main db da (by omega) (by omega) by_ bx
      refine ⟨e, k, eu.symm, ⟨m, by omega, de⟩, bk, ?_⟩
      rw [Nat.max_comm x y, Nat.min_comm x y]
      exact hk
/-! ### Gauss -/
/-- a number from 2 on has a prime divisor -/
structure Pr (p : Nat) : Prop where
  two : 2 ≤ p
  mul : ∀ a b : Int, (p : Int) ∣ a * b → (p : Int) ∣ a ∨ (p : Int) ∣ b
theorem pr_of_min {p : Nat} (h2 : 2 ≤ p) (h : ∀ q, 2 ≤ q → q ∣ p → q = p) : Pr p := ⟨h2, fun a b hab => by
  have g : Nat.gcd p a.natAbs ∣ p := Nat.gcd_dvd_left ..
  have gp : 0 < Nat.gcd p a.natAbs := Nat.gcd_pos_of_pos_left _ (by omega)
  by_cases c : Nat.gcd p a.natAbs = 1
  · right
    have d : p ∣ a.natAbs * b.natAbs := by
      rw [← Int.natAbs_mul]
      exact Int.ofNat_dvd_left.mp hab
    exact Int.ofNat_dvd_left.mpr (Nat.Coprime.dvd_of_dvd_mul_left c d)
  · left
    have e := h _ (by omega) g
    exact Int.ofNat_dvd_left.mpr (e ▸ Nat.gcd_dvd_right p a.natAbs)⟩
theorem pr_ex : ∀ n : Nat, 2 ≤ n → ∃ p, Pr p ∧ p ∣ n := fun n => by
  induction n using Nat.strongRecOn with
  | ind n ih =>
    intro h2
    by_cases c : ∃ q, 2 ≤ q ∧ q ∣ n ∧ q ≠ n
    · obtain ⟨q, q2, qd, qn⟩ := c
      have := Nat.le_of_dvd (by omega) qd
      obtain ⟨p, hp, pd⟩ := ih q (by omega) q2
      exact ⟨p, hp, Nat.dvd_trans pd qd⟩
    · exact ⟨n, pr_of_min h2 fun q q2 qd => Decidable.byContradiction fun qn => c ⟨q, q2, qd, qn⟩, Nat.dvd_refl _⟩
/-- the least place that p doesn't divide -/
theorem least_not {p : Int} {f : Nat → Int} (h : ∃ i, ¬ p ∣ f i) : ∃ i, ¬ p ∣ f i ∧ ∀ j, j < i → p ∣ f j := by
  obtain ⟨n, hn⟩ := h
  induction n using Nat.strongRecOn with
  | ind n ih =>
    by_cases c : ∃ j, j < n ∧ ¬ p ∣ f j
    · obtain ⟨j, hj, nj⟩ := c
      exact ih j hj nj
    · exact ⟨n, hn, fun j hj => Decidable.byContradiction fun z => c ⟨j, hj, z⟩⟩
theorem sumTo_dvd {p : Int} {F : Nat → Int} : ∀ n, (∀ i, i < n → p ∣ F i) → p ∣ sumTo F n
  | 0, _ => Int.dvd_zero _
  | n + 1, h => Int.dvd_add (sumTo_dvd n fun i hi => h i (by omega)) (h n (by omega))
theorem gauss_p {p : Nat} (hp : Pr p) {f g : Nat → Int} (h : ∀ k, (p : Int) ∣ cf f g k) (ng : ∃ i, ¬ (p : Int) ∣ g i) : ∀ i, (p : Int) ∣ f i := by
  refine fun i => Decidable.byContradiction fun c => ?_
  obtain ⟨a, na, la⟩ := least_not ⟨i, c⟩
  obtain ⟨b, nb, lb⟩ := least_not ng
  have z := h (a + b)
  unfold cf at z
  rw [show a + b + 1 = a + (1 + b) by omega, sumTo_app, sumTo_app] at z
  have z1 : (p : Int) ∣ sumTo (fun i => f i * g (a + b - i)) a := sumTo_dvd a fun i hi => Int.dvd_trans (la i hi) (Int.dvd_mul_right _ _)
  have z2 : (p : Int) ∣ sumTo (fun i => f (a + (1 + i)) * g (a + b - (a + (1 + i)))) b := sumTo_dvd b fun i hi => Int.dvd_trans (lb _ (by omega)) (Int.dvd_mul_left _ _)
  have z3 : (p : Int) ∣ sumTo (fun i => f (a + i) * g (a + b - (a + i))) 1 := by
    have y := Int.dvd_sub (Int.dvd_sub z z1) z2
    have e : sumTo (fun i => f i * g (a + b - i)) a + (sumTo (fun i => f (a + i) * g (a + b - (a + i))) 1 + sumTo (fun i => f (a + (1 + i)) * g (a + b - (a + (1 + i)))) b) - sumTo (fun i => f i * g (a + b - i)) a - sumTo (fun i => f (a + (1 + i)) * g (a + b - (a + (1 + i)))) b = sumTo (fun i => f (a + i) * g (a + b - (a + i))) 1 := by omega
    rwa [e] at y
  have z4 : (p : Int) ∣ f a * g b := by
    have e : sumTo (fun i => f (a + i) * g (a + b - (a + i))) 1 = f a * g b := by
      show 0 + f (a + 0) * g (a + b - (a + 0)) = _
      rw [Nat.add_zero, show a + b - a = b by omega, Int.zero_add]
    rwa [e] at z3
  rcases hp.mul _ _ z4 with y | y
  · exact na y
  · exact nb y
/-- no prime divides all coefficients -/
def Prim (f : Nat → Int) : Prop := ∀ p : Nat, Pr p → ∃ i, ¬ (p : Int) ∣ f i
theorem gauss : ∀ (n : Nat) {m : Int} {A s g : Nat → Int} {N : Nat}, m.natAbs = n → m ≠ 0 → Prim g → Fz s N → (∀ i, m * A i = cf s g i) → ∃ s', Fz s' N ∧ (∀ i, s i = m * s' i) ∧ ∀ i, A i = cf s' g i := fun n => by
  induction n using Nat.strongRecOn with
  | ind n ih =>
    intro m A s g N hn m0 pg hs e
    by_cases c : n = 1
    · rcases (show m = 1 ∨ m = -1 by omega) with rfl | rfl
      · exact ⟨s, hs, fun i => (Int.one_mul _).symm, fun i => by rw [← e, Int.one_mul]⟩
      · refine ⟨fun i => -1 * s i, hs.scale _, fun i => by show s i = -1 * (-1 * s i); omega, fun i => ?_⟩
        rw [cf_scale_l, ← e]
        omega
    · obtain ⟨p, hp, pd⟩ := pr_ex n (by omega)
      have pm : (p : Int) ∣ m := Int.ofNat_dvd_left.mpr (hn ▸ pd)
      obtain ⟨m', rfl⟩ := pm
      have p2 := hp.two
      have ps : ∀ i, (p : Int) ∣ s i := gauss_p hp (fun k => by rw [← e]; exact ⟨m' * A k, by rw [Int.mul_assoc]⟩) (pg p hp)
      obtain ⟨t, ht⟩ : ∃ t : Nat → Int, ∀ i, s i = (p : Int) * t i := Classical.axiomOfChoice fun i => ps i
      have p0 : (p : Int) ≠ 0 := by omega
      have hts : Fz t N := fun i hi => by
        have := hs i hi
        rw [ht i] at this
        rcases Int.mul_eq_zero.mp this with z | z
        · exact absurd z p0
        · exact z
      have m0' : m' ≠ 0 := fun z => m0 (by rw [z, Int.mul_zero])
      have e' : ∀ i, m' * A i = cf t g i := fun i => by
        apply Int.eq_of_mul_eq_mul_left p0
        rw [← Int.mul_assoc, e i, ← cf_scale_l]
        exact cf_congr ht (fun _ => rfl) i
      have lt : m'.natAbs < n := by
        rw [← hn, Int.natAbs_mul, Int.natAbs_natCast]
        have : 0 < m'.natAbs := by omega
        calc m'.natAbs = 1 * m'.natAbs := (Nat.one_mul _).symm
          _ < p * m'.natAbs := Nat.mul_lt_mul_of_pos_right (by omega) this
      obtain ⟨s', h1, h2, h3⟩ := ih m'.natAbs lt rfl m0' pg hts e'
      exact ⟨s', h1, fun i => by rw [ht, h2, Int.mul_assoc], h3⟩
/-- a primitive divisor divides over the whole numbers -/
theorem Dv.whole {g A : Nat → Int} (h : Dv g A) (pg : Prim g) : ∃ (s : Nat → Int) (N : Nat), Fz s N ∧ ∀ i, A i = cf s g i := by
  obtain ⟨m, s, N, m0, hs, e⟩ := h
  obtain ⟨s', h1, _, h3⟩ := gauss _ rfl m0 pg hs e
  exact ⟨s', N, h1, h3⟩
/-- the primitive part -/
theorem prim_part {f : Nat → Int} {n : Nat} (d : Dg f n) : ∃ (c : Int) (g : Nat → Int), c ≠ 0 ∧ Prim g ∧ Dg g n ∧ ∀ i, f i = c * g i := by
  have key : ∀ (k : Nat) (f : Nat → Int), (f n).natAbs = k → Dg f n → ∃ (c : Int) (g : Nat → Int), c ≠ 0 ∧ Prim g ∧ Dg g n ∧ ∀ i, f i = c * g i := fun k => by
    induction k using Nat.strongRecOn with
    | ind k ih =>
      intro f hk d
      by_cases c : Prim f
      · exact ⟨1, f, by decide, c, d, fun i => (Int.one_mul _).symm⟩
      · obtain ⟨p, hc⟩ := Classical.not_forall.mp c
        obtain ⟨hp, hc⟩ := Classical.not_imp.mp hc
        have pd : ∀ i, (p : Int) ∣ f i := fun i => Decidable.byContradiction fun z => hc ⟨i, z⟩
        obtain ⟨t, ht⟩ : ∃ t : Nat → Int, ∀ i, f i = (p : Int) * t i := Classical.axiomOfChoice fun i => pd i
        have p2 := hp.two
        have p0 : (p : Int) ≠ 0 := by omega
        have dt : Dg t n := ⟨fun z => d.top (by rw [ht, z, Int.mul_zero]), fun i hi => by
          have := d.up i hi
          rw [ht i] at this
          rcases Int.mul_eq_zero.mp this with z | z
          · exact absurd z p0
          · exact z⟩
        have lt : (t n).natAbs < k := by
          rw [← hk, ht n, Int.natAbs_mul, Int.natAbs_natCast]
          have h0 := dt.top
          have : 0 < (t n).natAbs := by omega
          calc (t n).natAbs = 1 * (t n).natAbs := (Nat.one_mul _).symm
            _ < p * (t n).natAbs := Nat.mul_lt_mul_of_pos_right (by omega) this
        obtain ⟨c', g, c0, pg, dg, e⟩ := ih _ lt t rfl dt
        exact ⟨p * c', g, Int.mul_ne_zero p0 c0, pg, dg, fun i => by rw [ht, e, Int.mul_assoc]⟩
  exact key _ f rfl d
end CB

namespace CB
open PySem PySem.Spec PyProof.Rows L2
/-! ### values, and how great a divisor's value is -/
theorem e1_first (f : Nat → Int) (x : Int) (N : Nat) : e1 f x (N + 1) = f 0 + x * e1 (fun i => f (i + 1)) x N := by
  unfold e1
  rw [sumTo_first, Int.pow_zero, Int.mul_one, ← sumTo_mul]
  congr 1
  exact sumTo_congr N fun i _ => by rw [Int.pow_succ]; grind
def cB : Nat → Nat
  | 0 => 1
  | s + 1 => 2 * cB s + 1
/-- sums of powers -/
def sg (x : Nat) : Nat → Nat
  | 0 => 0
  | n + 1 => sg x n + x ^ n
theorem sg_eq {x : Nat} (h : 1 ≤ x) : ∀ n, (x - 1) * sg x n + 1 = x ^ n
  | 0 => by simp [sg]
  | n + 1 => by
    have ih := sg_eq h n
    obtain ⟨y, rfl⟩ : ∃ y, x = y + 1 := ⟨x - 1, by omega⟩
    rw [Nat.add_sub_cancel] at ih ⊢
    show y * (sg (y + 1) n + (y + 1) ^ n) + 1 = (y + 1) ^ n * (y + 1)
    generalize (y + 1) ^ n = P at ih ⊢
    rw [Nat.mul_add, Nat.mul_succ]
    have : P * y = y * P := Nat.mul_comm _ _
    omega
theorem e1_le {f : Nat → Int} {H x : Nat} {h : Int} (hf : ∀ i, (f i).natAbs ≤ H) (hx : h.natAbs ≤ x) : ∀ N, (e1 f h N).natAbs ≤ H * sg x N
  | 0 => by simp [e1, sumTo]
  | N + 1 => by
    have ih := e1_le hf hx N
    show (e1 f h N + f N * h ^ N).natAbs ≤ H * (sg x N + x ^ N)
    have z := Int.natAbs_add_le (e1 f h N) (f N * h ^ N)
    have y : (f N * h ^ N).natAbs ≤ H * x ^ N := by
      rw [Int.natAbs_mul, Int.natAbs_pow]
      exact Nat.mul_le_mul (hf N) (Nat.pow_le_pow_left hx N)
    rw [Nat.mul_add]
    omega
/-- a value at a great number -/
theorem e1_big {A : Nat → Int} {n H X : Nat} (d : Dg A n) (hH : ∀ i, (A i).natAbs ≤ H) (hX : 2 ^ 24 * H + 29 ≤ X) : (2 ^ 24 - 1) * X ^ n < 2 ^ 24 * (e1 A (X : Int) (n + 1)).natAbs := by
  have l := e1_le (f := A) (h := (X : Int)) (x := X) hH (by omega) n
  have g := sg_eq (x := X) (by omega) n
  have t0 := d.top
  have top : X ^ n ≤ (A n * (X : Int) ^ n).natAbs := by
    rw [Int.natAbs_mul, Int.natAbs_pow, Int.natAbs_natCast]
    calc X ^ n = 1 * X ^ n := (Nat.one_mul _).symm
      _ ≤ _ := Nat.mul_le_mul_right _ (by omega)
  have e : e1 A (X : Int) (n + 1) = e1 A (X : Int) n + A n * (X : Int) ^ n := rfl
  have z := Int.natAbs_sub_le (e1 A (X : Int) (n + 1)) (e1 A (X : Int) n)
  rw [show e1 A (X : Int) (n + 1) - e1 A (X : Int) n = A n * (X : Int) ^ n by rw [e]; omega] at z
  have m1 : 2 ^ 24 * (H * sg X n) ≤ (X - 1) * sg X n := by
    rw [← Nat.mul_assoc]
    exact Nat.mul_le_mul_right _ (by omega)
  have m2 : 2 ^ 24 * (e1 A (X : Int) n).natAbs ≤ 2 ^ 24 * (H * sg X n) := Nat.mul_le_mul_left _ l
  generalize (e1 A (X : Int) n).natAbs = a at *
  generalize (e1 A (X : Int) (n + 1)).natAbs = b at *
  generalize (A n * (X : Int) ^ n).natAbs = c at *
  generalize X ^ n = p at *
  generalize (X - 1) * sg X n = q at *
  generalize 2 ^ 24 * (H * sg X n) = r at *
  omega
def pts : List Int := [-6, -5, -4, -3, -2, -1, 0, 1, 2, 3, 4, 5, 6]
theorem pts_pw : pts.Pairwise (· ≠ ·) := by decide
theorem pts_le : ∀ h ∈ pts, h.natAbs ≤ 6 := by decide
end CB

namespace CB
open PySem PySem.Spec PyProof.Rows L2
/-! ### the greatest common divisor by values -/
theorem e1_fz {f g h : Nat → Int} {x : Int} {N M L : Nat} (hf : Fz f N) (hg : Fz g M) (hh : Fz h L) (e : ∀ i, h i = cf f g i) : e1 h x L = e1 f x N * e1 g x M := by
  rw [← e1_cf hf hg, ← e1_more (N := L) (M := L + (N + M)) (fun i hi => hh i hi) (by omega), ← e1_more (N := N + M) (M := L + (N + M)) (fun i hi => (hf.cf hg) i hi) (by omega)]
  exact e1_congr fun i _ => e i
theorem e1_scale' (c : Int) (f : Nat → Int) (x : Int) (N : Nat) : e1 (fun i => c * f i) x N = c * e1 f x N := e1_scale c f x N
/-- one of the two is small, and of few coefficients -/
def SmO (A B : Nat → Int) (a b H : Nat) : Prop := (a ≤ 7 ∧ ∀ i, (A i).natAbs ≤ H) ∨ (b ≤ 7 ∧ ∀ i, (B i).natAbs ≤ H)
/-- digits on both sides of zero are one -/
theorem dig_uniq {X : Nat} (hX : 0 < X) : ∀ (N : Nat) {f g : Nat → Int}, (∀ i, 2 * (f i).natAbs ≤ X) → (∀ i, 2 * (g i).natAbs < X) → e1 f (X : Int) N = e1 g (X : Int) N → ∀ i, i < N → f i = g i
  | 0, f, g, _, _, _, i, hi => absurd hi (by omega)
  | N + 1, f, g, hf, hg, e, i, hi => by
    rw [e1_first, e1_first] at e
    have f0 := hf 0
    have g0 := hg 0
    have d : (X : Int) ∣ f 0 - g 0 := ⟨e1 (fun i => g (i + 1)) (X : Int) N - e1 (fun i => f (i + 1)) (X : Int) N, by rw [Int.mul_sub]; omega⟩
    have z : f 0 - g 0 = 0 := by
      have n := Int.ofNat_dvd_left.mp d
      refine Decidable.byContradiction fun c => ?_
      have := Nat.le_of_dvd (by omega) n
      omega
    match i, hi with
    | 0, _ => omega
    | i + 1, hi =>
      have e' : e1 (fun i => f (i + 1)) (X : Int) N = e1 (fun i => g (i + 1)) (X : Int) N := by
        apply Int.eq_of_mul_eq_mul_left (show (X : Int) ≠ 0 by omega)
        omega
      exact dig_uniq hX N (fun i => hf (i + 1)) (fun i => hg (i + 1)) e' i (by omega)
/-- from some number on the digits are the greatest common divisor, times a number -/
theorem heu_ok {A B e0 : Nat → Int} {a b m k X N : Nat} {D : Nat → Int} (dA : Dg A a) (dB : Dg B b) (eu : Euc A B e0) (de0 : Dg e0 m) (bk : Bt k e0) (hX : 2 ^ (k + 2) ≤ X)
    (fD : Fz D N) (hD : ∀ i, 2 * (D i).natAbs ≤ X) (ev : e1 D (X : Int) N = ((Nat.gcd (e1 A (X : Int) (a + 1)).natAbs (e1 B (X : Int) (b + 1)).natAbs : Nat) : Int)) : Dv D A ∧ Dv D B := by
  obtain ⟨κ, e, k0, pe, de, ee⟩ := prim_part de0
  have eD : ∀ {P : Nat → Int}, Dv e0 P → Dv e P := fun {P} z => by
    obtain ⟨c1, s, N, c0, hs, h⟩ := z
    exact ⟨c1, fun i => κ * s i, N, c0, hs.scale κ, fun i => by rw [h i, cf_scale_l, ← cf_scale]; exact cf_congr (fun _ => rfl) ee i⟩
  have eA := eD eu.da
  have eB := eD eu.db
  obtain ⟨S, NS, fS, hS⟩ := eA.whole pe
  obtain ⟨T, NT, fT, hT⟩ := eB.whole pe
  have vA : e1 A (X : Int) (a + 1) = e1 S (X : Int) NS * e1 e (X : Int) (m + 1) := e1_fz fS de.up dA.up hS
  have vB : e1 B (X : Int) (b + 1) = e1 T (X : Int) NT * e1 e (X : Int) (m + 1) := e1_fz fT de.up dB.up hT
  obtain ⟨u, v, M, hu, hv, cm⟩ := eu.comb
  -- u S + v T is the number
  have fW : Fz (fun i => cf u S i + cf v T i) (M + NS + NT) := Fz.add ((hu.cf fS).mono (by omega)) ((hv.cf fT).mono (by omega))
  have one : ∀ i, cf u S i + cf v T i = κ * xp 0 i := fun i => by
    refine cf_cancel (f := e) (n := M + NS + NT + 1) de (fW.mono (by omega)) (((xp_fz 0).scale κ).mono (by omega)) (fun j => ?_) i
    rw [cf_comm e (fun i => cf u S i + cf v T i), cf_add_l (cf u S) (cf v T), cf_scale, cf_assoc, cf_assoc, cf_comm e (xp 0), cf_one, ← ee, cm]
    rw [show cf u (cf S e) j = cf u A j from cf_congr (fun _ => rfl) (fun i => (hS i).symm) j, show cf v (cf T e) j = cf v B j from cf_congr (fun _ => rfl) (fun i => (hT i).symm) j]
  have val : e1 u (X : Int) M * e1 S (X : Int) NS + e1 v (X : Int) M * e1 T (X : Int) NT = κ := by
    have z1 : e1 (fun i => cf u S i + cf v T i) (X : Int) (M + NS + NT) = e1 u (X : Int) M * e1 S (X : Int) NS + e1 v (X : Int) M * e1 T (X : Int) NT := by
      rw [← e1_cf hu fS, ← e1_cf hv fT, ← e1_more (N := M + NS) (M := M + NS + NT) (fun i hi => (hu.cf fS) i hi) (by omega), ← e1_more (N := M + NT) (M := M + NS + NT) (fun i hi => (hv.cf fT) i hi) (by omega)]
      unfold e1
      rw [← sumTo_add]
      exact sumTo_congr _ fun i _ => Int.add_mul _ _ _
    rw [← z1]
    have z2 : e1 (fun i => cf u S i + cf v T i) (X : Int) (M + NS + NT + 1) = κ := by
      have : e1 (fun i => cf u S i + cf v T i) (X : Int) (M + NS + NT + 1) = e1 (fun i => κ * xp 0 i) (X : Int) (M + NS + NT + 1) := e1_congr fun i _ => one i
      rw [this]
      unfold e1
      rw [sumTo_one (k := 0) _ (by omega) fun i _ ne => by show κ * (if i = 0 then (1 : Int) else 0) * _ = 0; rw [if_neg ne]; simp]
      show κ * (if 0 = 0 then (1 : Int) else 0) * (X : Int) ^ 0 = κ
      simp
    rw [← z2]
    exact (e1_more (fun i hi => fW i hi) (by omega)).symm
  obtain ⟨δ, hδ⟩ : ∃ δ : Nat, δ = Nat.gcd (e1 S (X : Int) NS).natAbs (e1 T (X : Int) NT).natAbs := ⟨_, rfl⟩
  have dk : (δ : Int) ∣ κ := by
    rw [← val]
    refine Int.dvd_add (Int.dvd_trans ?_ (Int.dvd_mul_left _ _)) (Int.dvd_trans ?_ (Int.dvd_mul_left _ _))
    · exact Int.ofNat_dvd_left.mpr (hδ ▸ Nat.gcd_dvd_left _ _)
    · exact Int.ofNat_dvd_left.mpr (hδ ▸ Nat.gcd_dvd_right _ _)
  have δ0 : δ ≠ 0 := fun z => by
    rw [z] at dk
    obtain ⟨y, hy⟩ := dk
    exact k0 (by rw [hy]; simp)
  have δk : δ ≤ κ.natAbs := Nat.le_of_dvd (by omega) (Int.ofNat_dvd_left.mp dk)
  have gv : Nat.gcd (e1 A (X : Int) (a + 1)).natAbs (e1 B (X : Int) (b + 1)).natAbs = δ * (e1 e (X : Int) (m + 1)).natAbs := by
    rw [vA, vB, Int.natAbs_mul, Int.natAbs_mul, Nat.gcd_mul_right, hδ]
  rw [gv] at ev
  -- the sign
  obtain ⟨σ, s1, es⟩ : ∃ σ : Int, (σ = 1 ∨ σ = -1) ∧ ((e1 e (X : Int) (m + 1)).natAbs : Int) = σ * e1 e (X : Int) (m + 1) := by
    rcases Int.natAbs_eq (e1 e (X : Int) (m + 1)) with h | h
    · exact ⟨1, .inl rfl, by omega⟩
    · exact ⟨-1, .inr rfl, by omega⟩
  have sd : ((σ * δ : Int)) ≠ 0 := by
    rcases s1 with h | h <;> rw [h] <;> omega
  have small : ∀ i, 2 * (σ * δ * e i).natAbs < X := fun i => by
    have b := bk i
    rw [ee i, Int.natAbs_mul] at b
    have : (σ * δ * e i).natAbs ≤ κ.natAbs * (e i).natAbs := by
      rw [Int.natAbs_mul]
      refine Nat.mul_le_mul_right _ ?_
      rcases s1 with h | h <;> rw [h] <;> omega
    have p : 2 ^ (k + 2) = 4 * 2 ^ k := by rw [Nat.pow_add]; omega
    have := Nat.two_pow_pos k
    omega
  have evs : e1 (fun i => σ * δ * e i) (X : Int) (N + (m + 1)) = e1 D (X : Int) (N + (m + 1)) := by
    rw [e1_scale', e1_more (N := N) (M := N + (m + 1)) (fun i hi => fD i hi) (by omega), ev, e1_more (N := m + 1) (M := N + (m + 1)) (fun i hi => de.up i hi) (by omega), Int.natCast_mul, es]
    grind
  have p0 : 0 < X := Nat.lt_of_lt_of_le (Nat.two_pow_pos _) hX
  have eq : ∀ i, D i = σ * δ * e i := fun i => by
    by_cases c : i < N + (m + 1)
    · exact dig_uniq p0 (N + (m + 1)) hD small evs.symm i c
    · rw [fD i (by omega), de.up i (by omega), Int.mul_zero]
  exact ⟨(eA.scale_l sd).congr eq (fun _ => rfl), (eB.scale_l sd).congr eq (fun _ => rfl)⟩
end CB

namespace CB
open PySem PySem.Spec PyProof.Rows L2
/-! ### a great prime -/
/-- x ^ k modulo n, by halves (f: enough turns) -/
def pwm (n : Nat) : Nat → Nat → Nat → Nat → Nat
  | 0, _, _, acc => acc
  | f + 1, x, k, acc => if k = 0 then acc else pwm n f (x * x % n) (k / 2) (if k % 2 = 1 then acc * x % n else acc)
theorem pwm_eq (n : Nat) : ∀ (f x k acc : Nat), k < 2 ^ f → pwm n f x k acc % n = acc * x ^ k % n
  | 0, x, k, acc, h => by
    obtain rfl : k = 0 := by
      have : k < 1 := h
      omega
    rw [Nat.pow_zero, Nat.mul_one]
    rfl
  | f + 1, x, k, acc, h => by
    unfold pwm
    by_cases c : k = 0
    · rw [if_pos c, c, Nat.pow_zero, Nat.mul_one]
    · rw [if_neg c, pwm_eq n f _ _ _ (by rw [Nat.pow_succ] at h; omega)]
      have e : x ^ k = (x * x) ^ (k / 2) * x ^ (k % 2) := by
        have : k = 2 * (k / 2) + k % 2 := by omega
        calc x ^ k = x ^ (2 * (k / 2) + k % 2) := by rw [← this]
          _ = _ := by rw [Nat.pow_add, Nat.pow_mul, Nat.pow_two]
      rw [e]
      rcases (show k % 2 = 0 ∨ k % 2 = 1 by omega) with z | z
      · rw [if_neg (by omega), z, Nat.pow_zero, Nat.mul_one, Nat.mul_mod, ← Nat.pow_mod, ← Nat.mul_mod]
      · rw [if_pos z, z, Nat.pow_one, Nat.mul_mod, Nat.mod_mod, ← Nat.pow_mod, ← Nat.mul_mod]
        congr 1
        rw [Nat.mul_assoc, Nat.mul_comm x]
/-- Pascal's numbers -/
def pas : Nat → Nat → Nat
  | _, 0 => 1
  | 0, _ + 1 => 0
  | n + 1, k + 1 => pas n k + pas n (k + 1)
theorem pas_big : ∀ {n k : Nat}, n < k → pas n k = 0
  | 0, k + 1, _ => rfl
  | n + 1, k + 1, h => by
    show pas n k + pas n (k + 1) = 0
    rw [pas_big (by omega), pas_big (by omega)]
theorem pas_up : ∀ n k : Nat, (k + 1) * pas (n + 1) (k + 1) = (n + 1) * pas n k
  | 0, 0 => rfl
  | 0, k + 1 => by
    show (k + 1 + 1) * (pas 0 (k + 1) + pas 0 (k + 1 + 1)) = _
    rw [pas_big (by omega), pas_big (by omega)]
    simp
  | n + 1, 0 => by
    have ih := pas_up n 0
    have e : pas (n + 1) 1 = 1 + pas n 1 := by
      show pas n 0 + pas n 1 = _
      cases n <;> rfl
    have e2 : pas (n + 1 + 1) 1 = 1 + pas (n + 1) 1 := by
      show pas (n + 1) 0 + pas (n + 1) 1 = _
      rfl
    have e3 : pas (n + 1) 0 = 1 := rfl
    have e4 : pas n 0 = 1 := by cases n <;> rfl
    rw [e4] at ih
    have ih' : 1 * pas (n + 1) 1 = (n + 1) * 1 := ih
    show 1 * pas (n + 1 + 1) 1 = (n + 1 + 1) * 1
    rw [e2]
    omega
  | n + 1, k + 1 => by
    have i1 := pas_up n k
    have i2 := pas_up n (k + 1)
    have e1 : pas (n + 1 + 1) (k + 1 + 1) = pas (n + 1) (k + 1) + pas (n + 1) (k + 1 + 1) := rfl
    have e2 : pas (n + 1) (k + 1) = pas n k + pas n (k + 1) := rfl
    rw [e1, Nat.mul_add, i2, Nat.add_mul (k + 1) 1, i1, e2]
    generalize pas n k = A
    generalize pas n (k + 1) = B
    grind
def smN (f : Nat → Nat) : Nat → Nat
  | 0 => 0
  | n + 1 => smN f n + f n
theorem smN_congr {f g : Nat → Nat} : ∀ n, (∀ i, i < n → f i = g i) → smN f n = smN g n
  | 0, _ => rfl
  | n + 1, h => by show smN f n + f n = smN g n + g n; rw [smN_congr n fun i hi => h i (by omega), h n (by omega)]
theorem smN_first (f : Nat → Nat) : ∀ n, smN f (n + 1) = f 0 + smN (fun i => f (i + 1)) n
  | 0 => by show 0 + f 0 = f 0 + 0; omega
  | n + 1 => by
    show smN f (n + 1) + f (n + 1) = f 0 + (smN (fun i => f (i + 1)) n + f (n + 1))
    rw [smN_first f n]
    omega
theorem smN_add (f g : Nat → Nat) : ∀ n, smN (fun i => f i + g i) n = smN f n + smN g n
  | 0 => rfl
  | n + 1 => by show smN _ n + (f n + g n) = smN f n + f n + (smN g n + g n); rw [smN_add f g n]; omega
theorem smN_mul (c : Nat) (f : Nat → Nat) : ∀ n, smN (fun i => f i * c) n = smN f n * c
  | 0 => (Nat.zero_mul _).symm
  | n + 1 => by show smN _ n + f n * c = (smN f n + f n) * c; rw [smN_mul c f n, Nat.add_mul]
theorem binom (a : Nat) : ∀ n, (a + 1) ^ n = smN (fun k => pas n k * a ^ k) (n + 1)
  | 0 => rfl
  | n + 1 => by
    rw [Nat.pow_succ, binom a n, smN_first (fun k => pas (n + 1) k * a ^ k) (n + 1)]
    have e : smN (fun i => pas (n + 1) (i + 1) * a ^ (i + 1)) (n + 1) = smN (fun k => pas n k * a ^ k * a) (n + 1) + smN (fun k => pas n (k + 1) * a ^ (k + 1)) (n + 1) := by
      rw [← smN_add]
      exact smN_congr _ fun i _ => by
        show (pas n i + pas n (i + 1)) * a ^ (i + 1) = _
        rw [Nat.add_mul, Nat.pow_succ, Nat.mul_assoc]
    have e2 : smN (fun k => pas n (k + 1) * a ^ (k + 1)) (n + 1) + 1 = smN (fun k => pas n k * a ^ k) (n + 1) := by
      have z := smN_first (fun k => pas n k * a ^ k) (n + 1)
      have t : smN (fun k => pas n k * a ^ k) (n + 1 + 1) = smN (fun k => pas n k * a ^ k) (n + 1) := by
        show smN _ (n + 1) + pas n (n + 1) * a ^ (n + 1) = _
        rw [pas_big (by omega)]
        omega
      have o : pas n 0 * a ^ 0 = 1 := by cases n <;> rfl
      omega
    rw [e, smN_mul]
    have o : pas (n + 1) 0 * a ^ 0 = 1 := rfl
    rw [o, Nat.mul_add, Nat.mul_one]
    omega
theorem pas_self : ∀ n, pas n n = 1
  | 0 => rfl
  | n + 1 => by show pas n n + pas n (n + 1) = 1; rw [pas_self n, pas_big (by omega)]
/-- p divides the inner ones -/
theorem pas_pr {p : Nat} (hp : Pr p) {k : Nat} (h1 : 1 ≤ k) (h2 : k < p) : p ∣ pas p k := by
  obtain ⟨q, rfl⟩ : ∃ q, p = q + 1 := ⟨p - 1, by omega⟩
  obtain ⟨j, rfl⟩ : ∃ j, k = j + 1 := ⟨k - 1, by omega⟩
  have e := pas_up q j
  have d : ((q + 1 : Nat) : Int) ∣ ((j + 1 : Nat) : Int) * (pas (q + 1) (j + 1) : Int) := by
    rw [← Int.natCast_mul, e]
    exact Int.natCast_dvd_natCast.mpr ⟨_, rfl⟩
  rcases hp.mul _ _ d with z | z
  · have := Nat.le_of_dvd (by omega) (Int.natCast_dvd_natCast.mp z)
    omega
  · exact Int.natCast_dvd_natCast.mp z
theorem smN_dvd {p : Nat} {f : Nat → Nat} : ∀ n, (∀ i, i < n → p ∣ f i) → p ∣ smN f n
  | 0, _ => Nat.dvd_zero _
  | n + 1, h => Nat.dvd_add (smN_dvd n fun i hi => h i (by omega)) (h n (by omega))
/-- Fermat's little theorem -/
theorem fermat {p : Nat} (hp : Pr p) : ∀ a : Nat, a ^ p % p = a % p
  | 0 => by
    have := hp.two
    rw [Nat.zero_pow (by omega)]
  | a + 1 => by
    have ih := fermat hp a
    have p2 := hp.two
    obtain ⟨q, hq⟩ : ∃ q, p = q + 1 := ⟨p - 1, by omega⟩
    have e : (a + 1) ^ p = 1 + smN (fun i => pas p (i + 1) * a ^ (i + 1)) q + a ^ p := by
      rw [binom a p, smN_first]
      have o : pas p 0 * a ^ 0 = 1 := by cases p <;> rfl
      rw [o, hq]
      show 1 + (smN _ q + pas (q + 1) (q + 1) * a ^ (q + 1)) = _
      rw [pas_self, Nat.one_mul]
      omega
    have d : p ∣ smN (fun i => pas p (i + 1) * a ^ (i + 1)) q := smN_dvd q fun i hi => Nat.dvd_mul_right_of_dvd (pas_pr hp (by omega) (by omega)) _
    obtain ⟨t, ht⟩ := d
    rw [e, ht, show 1 + p * t + a ^ p = 1 + a ^ p + p * t by omega, Nat.add_mul_mod_self_left, Nat.add_mod, ih, ← Nat.add_mod, Nat.add_comm]
theorem fermat1 {p a : Nat} (hp : Pr p) (h : ¬ p ∣ a) : a ^ (p - 1) % p = 1 := by
  have f := fermat hp a
  have p2 := hp.two
  obtain ⟨q, hq⟩ : ∃ q, p = q + 1 := ⟨p - 1, by omega⟩
  have d : (p : Int) ∣ (a : Int) * ((a ^ (p - 1) : Nat) - 1 : Int) := by
    have e : (a : Int) * ((a ^ (p - 1) : Nat) - 1 : Int) = ((a ^ p : Nat) : Int) - (a : Int) := by
      rw [show a ^ p = a * a ^ (p - 1) by rw [hq, Nat.add_sub_cancel, Nat.pow_succ, Nat.mul_comm], Int.mul_sub, Int.mul_one, Int.natCast_mul]
    rw [e]
    exact Int.dvd_of_emod_eq_zero (by
      rw [Int.sub_emod, ← Int.natCast_emod, ← Int.natCast_emod, f, Int.sub_self]
      rfl)
  rcases hp.mul _ _ d with z | z
  · exact absurd (Int.natCast_dvd_natCast.mp z) h
  · have := Int.emod_emod_of_dvd ((a ^ (p - 1) : Nat) : Int) (Int.dvd_refl (p : Int))
    obtain ⟨t, ht⟩ := z
    have e : ((a ^ (p - 1) : Nat) : Int) = 1 + (p : Int) * t := by omega
    have : (((a ^ (p - 1) : Nat) : Int)) % (p : Int) = 1 := by
      rw [e, Int.add_mul_emod_self_left]
      exact Int.emod_eq_of_lt (by decide) (by omega)
    rw [← Int.natCast_emod] at this
    exact Int.ofNat.inj (show Int.ofNat _ = Int.ofNat 1 from this)
/-- powers that are 1: of the greatest common divisor too -/
theorem pow_gcd {r g : Nat} (r2 : 2 ≤ r) : ∀ (n a b : Nat), a + b ≤ n → g ^ a % r = 1 → g ^ b % r = 1 → g ^ Nat.gcd a b % r = 1 := fun n => by
  induction n with
  | zero =>
    intro a b h ha hb
    obtain rfl : a = 0 := by omega
    obtain rfl : b = 0 := by omega
    exact ha
  | succ n ih =>
    intro a b h ha hb
    have sub : ∀ a b : Nat, b ≤ a → g ^ a % r = 1 → g ^ b % r = 1 → g ^ (a - b) % r = 1 := fun a b hab ha hb => by
      have e : g ^ a = g ^ (a - b) * g ^ b := by rw [← Nat.pow_add]; congr 1; omega
      rw [e, Nat.mul_mod, hb, Nat.mul_one, Nat.mod_mod] at ha
      exact ha
    by_cases a0 : a = 0
    · rw [a0, Nat.gcd_zero_left]; exact hb
    by_cases b0 : b = 0
    · rw [b0, Nat.gcd_zero_right]; exact ha
    by_cases c : b ≤ a
    · have z := ih (a - b) b (by omega) (sub a b c ha hb) hb
      rwa [Nat.gcd_sub_self_left c] at z
    · have z := ih a (b - a) (by omega) ha (sub b a (by omega) hb ha)
      rwa [Nat.gcd_sub_self_right (by omega)] at z
/-- Pocklington, for one prime factor q of n - 1 -/
theorem pock {n q k g r : Nat} (hq : Pr q) (hr : Pr r) (rn : r ∣ n) (nk : n - 1 = q * k) (qk : ¬ q ∣ k) (h1 : g ^ (n - 1) % n = 1) (h2 : Nat.gcd (g ^ k % n + (n - 1)) n = 1) (n2 : 2 ≤ n) : q ∣ r - 1 := by
  refine Decidable.byContradiction fun c => ?_
  have r2 := hr.two
  have rle := Nat.le_of_dvd (by omega) rn
  have g1 : g ^ (n - 1) % r = 1 := by
    have : g ^ (n - 1) % n % r = 1 % r := by rw [h1]
    rw [Nat.mod_mod_of_dvd _ rn] at this
    rw [this, Nat.mod_eq_of_lt (by omega)]
  have rg : ¬ r ∣ g := fun d => by
    have : g ^ (n - 1) % r = 0 := by
      obtain ⟨m, hm⟩ : ∃ m, n - 1 = m + 1 := ⟨n - 2, by omega⟩
      rw [hm, Nat.pow_succ]
      exact Nat.mod_eq_zero_of_dvd (Nat.dvd_trans d (Nat.dvd_mul_left _ _))
    omega
  have g2 := fermat1 hr rg
  have g3 := pow_gcd r2 _ (n - 1) (r - 1) (Nat.le_refl _) g1 g2
  -- the greatest common divisor divides k
  have tk : Nat.gcd (n - 1) (r - 1) ∣ k := by
    have t1 : Nat.gcd (n - 1) (r - 1) ∣ q * k := nk ▸ Nat.gcd_dvd_left _ _
    have co : Nat.gcd (Nat.gcd (n - 1) (r - 1)) q = 1 := by
      obtain ⟨s, hs⟩ : ∃ s, s = Nat.gcd (Nat.gcd (n - 1) (r - 1)) q := ⟨_, rfl⟩
      have s1 : s ∣ q := hs ▸ Nat.gcd_dvd_right _ _
      have s2 : s ∣ r - 1 := Nat.dvd_trans (hs ▸ Nat.gcd_dvd_left _ _) (Nat.gcd_dvd_right _ _)
      obtain ⟨u, hu⟩ := s1
      have d : (q : Int) ∣ (s : Int) * (u : Int) := by rw [← Int.natCast_mul, ← hu]; exact Int.dvd_refl _
      rw [← hs]
      rcases hq.mul _ _ d with z | z
      · exact absurd (Nat.dvd_trans (Int.natCast_dvd_natCast.mp z) s2) c
      · obtain ⟨v, hv⟩ := Int.natCast_dvd_natCast.mp z
        have q2 := hq.two
        rw [hv] at hu
        have e : q * 1 = q * (s * v) := by
          calc q * 1 = q := Nat.mul_one _
            _ = s * (q * v) := hu
            _ = _ := by grind
        have := Nat.eq_of_mul_eq_mul_left (by omega) e
        exact Nat.eq_one_of_mul_eq_one_right this.symm
    exact Nat.Coprime.dvd_of_dvd_mul_left co t1
  obtain ⟨u, hu⟩ := tk
  have g4 : g ^ k % r = 1 := by
    rw [hu, Nat.pow_mul, Nat.pow_mod, g3, Nat.one_pow, Nat.mod_eq_of_lt (by omega)]
  have d1 : r ∣ g ^ k % n + (n - 1) := by
    apply Nat.dvd_of_mod_eq_zero
    have e1 : g ^ k % n % r = 1 := by rw [Nat.mod_mod_of_dvd _ rn, g4]
    obtain ⟨w, hw⟩ := rn
    have e2 : (n - 1) % r = r - 1 := by
      obtain ⟨w', rfl⟩ : ∃ w', w = w' + 1 := ⟨w - 1, by
        have : w ≠ 0 := fun z => by rw [z] at hw; omega
        omega⟩
      have e3 : n - 1 = r - 1 + r * w' := by rw [hw, Nat.mul_succ]; omega
      rw [e3, Nat.add_mul_mod_self_left, Nat.mod_eq_of_lt (by omega)]
    rw [Nat.add_mod, e1, e2, show 1 + (r - 1) = r by omega, Nat.mod_self]
  have d2 : r ∣ 1 := h2 ▸ Nat.dvd_gcd d1 rn
  have := Nat.le_of_dvd (by decide) d2
  omega
/-- small primes by trial -/
theorem pr_small {p : Nat} (h : (decide (2 ≤ p) && (List.range p).all fun q => decide (q < 2) || decide (p % q ≠ 0)) = true) : Pr p := by
  rw [Bool.and_eq_true] at h
  refine pr_of_min (of_decide_eq_true h.1) fun q q2 qd => Decidable.byContradiction fun ne => ?_
  have p2 := of_decide_eq_true h.1
  have := Nat.le_of_dvd (by omega) qd
  have z := List.all_eq_true.mp h.2 q (List.mem_range.mpr (by omega))
  rw [Bool.or_eq_true] at z
  rcases z with z | z
  · have := of_decide_eq_true z; omega
  · exact of_decide_eq_true z (Nat.mod_eq_zero_of_dvd qd)
theorem cop_dvd {a b r : Nat} (c : Nat.gcd a b = 1) (ha : a ∣ r) (hb : b ∣ r) : a * b ∣ r := Nat.Coprime.mul_dvd_of_dvd_of_dvd c ha hb
/-- the data for one prime factor -/
structure PkD (n f g q k : Nat) : Prop where
  pr : Pr q
  nk : n - 1 = q * k
  qk : ¬ q ∣ k
  k62 : k < 2 ^ f
  co : Nat.gcd (pwm n f g k 1 % n + (n - 1)) n = 1
theorem PkD.dvd {n f g q k r : Nat} (d : PkD n f g q k) (n2 : 2 ≤ n) (nf : n < 2 ^ f) (w1 : pwm n f g (n - 1) 1 % n = 1) (hr : Pr r) (rn : r ∣ n) : q ∣ r - 1 := by
  have pw : ∀ k, k < 2 ^ f → g ^ k % n = pwm n f g k 1 % n := fun k hk => by rw [pwm_eq n f g k 1 hk, Nat.one_mul]
  refine pock (g := g) d.pr hr rn d.nk d.qk ?_ ?_ n2
  · rw [pw (n - 1) (by omega)]; exact w1
  · rw [pw k d.k62]; exact d.co
theorem big_prime {n f g q1 q2 q3 q4 k1 k2 k3 k4 : Nat} (n2 : 2 ≤ n) (nf : n < 2 ^ f) (w1 : pwm n f g (n - 1) 1 % n = 1) (d1 : PkD n f g q1 k1) (d2 : PkD n f g q2 k2) (d3 : PkD n f g q3 k3) (d4 : PkD n f g q4 k4)
    (c1 : Nat.gcd q1 q2 = 1) (c2 : Nat.gcd (q1 * q2) q3 = 1) (c3 : Nat.gcd (q1 * q2 * q3) q4 = 1) (big : n < (q1 * q2 * q3 * q4) * (q1 * q2 * q3 * q4)) : Pr n := by
  have key : ∀ r, Pr r → r ∣ n → q1 * q2 * q3 * q4 < r := fun r hr rn => by
    have d : q1 * q2 * q3 * q4 ∣ r - 1 := cop_dvd c3 (cop_dvd c2 (cop_dvd c1 (d1.dvd n2 nf w1 hr rn) (d2.dvd n2 nf w1 hr rn)) (d3.dvd n2 nf w1 hr rn)) (d4.dvd n2 nf w1 hr rn)
    have r2 := hr.two
    have := Nat.le_of_dvd (by omega) d
    omega
  obtain ⟨r, hr, rn⟩ := pr_ex n n2
  obtain ⟨w, hw⟩ := id rn
  by_cases w1_ : w = 1
  · rw [w1_, Nat.mul_one] at hw
    rw [hw]; exact hr
  · exfalso
    have w0 : w ≠ 0 := fun z => by rw [z] at hw; omega
    obtain ⟨p, hp, pw_⟩ := pr_ex w (by omega)
    have pn : p ∣ n := hw ▸ Nat.dvd_trans pw_ (Nat.dvd_mul_left _ _)
    have a := key r hr rn
    have b := key p hp pn
    have pw2 := Nat.le_of_dvd (by omega) pw_
    have m : (q1 * q2 * q3 * q4) * (q1 * q2 * q3 * q4) ≤ r * w := Nat.mul_le_mul (by omega) (by omega)
    rw [← hw] at m
    omega
def M61 : Nat := 2305843009213693951
theorem m61_prime : Pr M61 :=
  big_prime (n := M61) (f := 62) (g := 37) (q1 := 1321) (q2 := 331) (q3 := 151) (q4 := 61) (k1 := 1745528394559950) (k2 := 6966293079195450) (k3 := 15270483504726450) (k4 := 37800705069076950)
    (by decide +kernel) (by decide +kernel) (by decide +kernel)
    ⟨pr_small (by decide +kernel), by decide +kernel, by decide +kernel, by decide +kernel, by decide +kernel⟩
    ⟨pr_small (by decide +kernel), by decide +kernel, by decide +kernel, by decide +kernel, by decide +kernel⟩
    ⟨pr_small (by decide +kernel), by decide +kernel, by decide +kernel, by decide +kernel, by decide +kernel⟩
    ⟨pr_small (by decide +kernel), by decide +kernel, by decide +kernel, by decide +kernel, by decide +kernel⟩
    (by decide +kernel) (by decide +kernel) (by decide +kernel) (by decide +kernel)
end CB

namespace CB
open PySem PySem.Spec PyProof.Rows L2
/-! ### modulo a prime -/
/-- G divides f modulo p -/
def MDv (p : Nat) (G f : Nat → Int) : Prop := ∃ (s : Nat → Int) (N : Nat), Fz s N ∧ ∀ k, (p : Int) ∣ f k - cf s G k
theorem MDv.eqv {p : Nat} {G f g : Nat → Int} (h : MDv p G f) (e : ∀ k, (p : Int) ∣ f k - g k) : MDv p G g := by
  obtain ⟨s, N, hs, d⟩ := h
  refine ⟨s, N, hs, fun k => ?_⟩
  have z := Int.dvd_sub (d k) (e k)
  have e1 : f k - cf s G k - (f k - g k) = g k - cf s G k := by omega
  rwa [e1] at z
theorem MDv.rest {p : Nat} {G f g r s : Nat → Int} {N : Nat} (h : MDv p G f) (k : MDv p G g) (hs : Fz s N) (e : ∀ i, (p : Int) ∣ f i - cf s g i - r i) : MDv p G r := by
  obtain ⟨u, A, hu, du⟩ := h
  obtain ⟨v, B, hv, dv⟩ := k
  refine ⟨fun i => u i + -1 * cf s v i, A + (N + B), Fz.add (hu.mono (by omega)) (Fz.scale _ ((hs.cf hv).mono (by omega))), fun i => ?_⟩
  rw [cf_add_l u (fun i => -1 * cf s v i), cf_scale_l, cf_assoc]
  have z1 : (p : Int) ∣ cf s g i - cf s (cf v G) i := by
    have e1 : cf s g i - cf s (cf v G) i = cf s (fun k => g k + -1 * cf v G k) i := by
      rw [cf_add s g (fun k => -1 * cf v G k), cf_scale]
      omega
    rw [e1]
    exact sumTo_dvd _ fun j _ => Int.dvd_trans (by
      have := dv (i - j)
      have e2 : g (i - j) + -1 * cf v G (i - j) = g (i - j) - cf v G (i - j) := by omega
      show (p : Int) ∣ g (i - j) + -1 * cf v G (i - j)
      rw [e2]
      exact this) (Int.dvd_mul_left _ _)
  have z := Int.dvd_sub (Int.dvd_sub (du i) (e i)) z1
  have e3 : f i - cf u G i - (f i - cf s g i - r i) - (cf s g i - cf s (cf v G) i) = r i - (cf u G i + -1 * cf s (cf v G) i) := by omega
  rwa [e3] at z
theorem Dv.mod {e A : Nat → Int} {p : Nat} (h : Dv e A) (pe : Prim e) : MDv p e A := by
  obtain ⟨s, N, hs, e1⟩ := h.whole pe
  exact ⟨s, N, hs, fun k => by rw [e1, Int.sub_self]; exact Int.dvd_zero _⟩
/-- the greatest place that p doesn't divide -/
theorem most_not {p : Int} {f : Nat → Int} : ∀ {N : Nat}, Fz f N → (∃ i, ¬ p ∣ f i) → ∃ i, ¬ p ∣ f i ∧ ∀ j, i < j → p ∣ f j
  | 0, hf, ⟨i, hi⟩ => absurd (by rw [hf i (Nat.zero_le _)]; exact Int.dvd_zero _) hi
  | N + 1, hf, h => by
    by_cases c : p ∣ f N
    · obtain ⟨i, hi⟩ := h
      have hg : Fz (fun i => if i = N then 0 else f i) N := fun j hj => by
        show (if j = N then 0 else f j) = 0
        split
        · rfl
        · exact hf j (by omega)
      have iN : i ≠ N := fun z => hi (z ▸ c)
      obtain ⟨a, ha, la⟩ := most_not (p := p) hg ⟨i, by show ¬ p ∣ (if i = N then 0 else f i); rw [if_neg iN]; exact hi⟩
      have aN : a ≠ N := fun z => ha (by show p ∣ (if a = N then 0 else f a); rw [if_pos z]; exact Int.dvd_zero _)
      refine ⟨a, fun z => ha (by show p ∣ (if a = N then 0 else f a); rw [if_neg aN]; exact z), fun j hj => ?_⟩
      by_cases z : j = N
      · rw [z]; exact c
      · have := la j hj
        rwa [if_neg z] at this
    · exact ⟨N, c, fun j hj => by rw [hf j (by omega)]; exact Int.dvd_zero _⟩
/-- without a common divisor modulo p: without one -/
theorem mod_coprime {p : Nat} (hp : Pr p) {A B : Nat → Int} {a b : Nat} {c : Int} (dA : Dg A a) (dB : Dg B b) (hl : ¬ (p : Int) ∣ A a ∨ ¬ (p : Int) ∣ B b) (hc : ¬ (p : Int) ∣ c)
    (h : ∀ G, MDv p G A → MDv p G B → MDv p G (fun i => if i = 0 then c else 0)) {d : Nat → Int} {m : Nat} (dd : Dg d m) (h1 : Dv d A) (h2 : Dv d B) : m = 0 := by
  obtain ⟨κ, e, k0, pe, de, ee⟩ := prim_part dd
  have eD : ∀ {P : Nat → Int}, Dv d P → Dv e P := fun {P} z => by
    obtain ⟨c1, s, N, c0, hs, h⟩ := z
    exact ⟨c1, fun i => κ * s i, N, c0, hs.scale κ, fun i => by rw [h i, cf_scale_l, ← cf_scale]; exact cf_congr (fun _ => rfl) ee i⟩
  have lead : ∀ {P : Nat → Int} {n : Nat}, Dg P n → Dv e P → ¬ (p : Int) ∣ P n → ¬ (p : Int) ∣ e m := fun {P n} dP hv ne hd => by
    obtain ⟨s, N, hs, e1⟩ := hv.whole pe
    rcases zero_or_dg N hs with z | ⟨t, _, dt⟩
    · exact dP.top (by rw [e1, cf_zero_l z])
    · have d3 : Dg (CB.cf s e) n := ⟨by rw [← e1]; exact dP.top, fun i hi => by rw [← e1]; exact dP.up i hi⟩
      obtain rfl := d3.uniq (dt.cf de)
      apply ne
      rw [e1, cf_top (fun i hi => dt.up i hi) (fun i hi => de.up i hi)]
      exact Int.dvd_trans hd (Int.dvd_mul_left _ _)
  have le : ¬ (p : Int) ∣ e m := by
    rcases hl with z | z
    · exact lead dA (eD h1) z
    · exact lead dB (eD h2) z
  obtain ⟨s, N, hs, ds⟩ := h e ((eD h1).mod pe) ((eD h2).mod pe)
  have ns : ∃ i, ¬ (p : Int) ∣ s i := Classical.byContradiction fun z => by
    have all : ∀ i, (p : Int) ∣ s i := fun i => Decidable.byContradiction fun w => z ⟨i, w⟩
    have d0 : (p : Int) ∣ c - cf s e 0 := ds 0
    have d1 : (p : Int) ∣ cf s e 0 := sumTo_dvd _ fun i _ => Int.dvd_trans (all i) (Int.dvd_mul_right _ _)
    have d2 := Int.dvd_add d0 d1
    rw [Int.sub_add_cancel] at d2
    exact hc d2
  obtain ⟨t, nt, lt⟩ := most_not hs ns
  refine Decidable.byContradiction fun m0 => ?_
  have d0 : (p : Int) ∣ (if t + m = 0 then c else 0) - cf s e (t + m) := ds (t + m)
  rw [if_neg (by omega)] at d0
  have top : (p : Int) ∣ s t * e m := by
    unfold cf at d0
    rw [show t + m + 1 = t + (1 + m) by omega, sumTo_app, sumTo_app] at d0
    have z1 : sumTo (fun i => s i * e (t + m - i)) t = 0 := sumTo_zero t fun i hi => by rw [de.up (t + m - i) (by omega), Int.mul_zero]
    have z2 : (p : Int) ∣ sumTo (fun i => s (t + (1 + i)) * e (t + m - (t + (1 + i)))) m := sumTo_dvd m fun i _ => Int.dvd_trans (lt _ (by omega)) (Int.dvd_mul_right _ _)
    have z3 : sumTo (fun i => s (t + i) * e (t + m - (t + i))) 1 = s t * e m := by
      show 0 + s (t + 0) * e (t + m - (t + 0)) = _
      rw [Nat.add_zero, show t + m - t = m by omega, Int.zero_add]
    rw [z1, z3] at d0
    have y := Int.dvd_add d0 z2
    have e4 : 0 - (0 + (s t * e m + sumTo (fun i => s (t + (1 + i)) * e (t + m - (t + (1 + i)))) m)) + sumTo (fun i => s (t + (1 + i)) * e (t + m - (t + (1 + i)))) m = -(s t * e m) := by omega
    rw [e4] at y
    exact Int.dvd_neg.mp y
  rcases hp.mul _ _ top with z | z
  · exact nt z
  · exact le z
/-- a number divides everything, and 1 -/
theorem Dv.const {d : Nat → Int} (dd : Dg d 0) : Dv d (xp 0) :=
  ⟨d 0, xp 0, 1, dd.top, xp_fz 0, fun i => by
    rw [cf_one]
    unfold xp
    by_cases c : i = 0
    · rw [if_pos c, c, Int.mul_one]
    · rw [if_neg c, dd.up i (by omega), Int.mul_zero]⟩
theorem Dv.one (A : Nat → Int) {N : Nat} (h : Fz A N) : Dv (xp 0) A := ⟨1, A, N, by decide, h, fun i => by rw [cf_comm, cf_one, Int.one_mul]⟩
/-! ### a division's steps modulo p -/
structure RsP (p : Nat) (zs : List Int) : Prop where
  rng : ∀ z ∈ zs, 0 ≤ z ∧ z < p
  last : zs = [] ∨ zs.getD (zs.length - 1) 0 ≠ 0
structure DmAt (p : Nat) (xs rs ys : List Int) (n : Nat) : Prop where
  rl : rs.length = xs.length
  rng : ∀ z ∈ rs, 0 ≤ z ∧ z < p
  eq : ∃ (s : Nat → Int) (N : Nat), Fz s N ∧ ∀ k, (p : Int) ∣ ff xs k - cf s (ff ys) k - ff rs k
  hi : ∀ k, n + ys.length ≤ k + 1 → ff rs k = 0
theorem DmAt.start {p : Nat} {xs ys : List Int} {n : Nat} (r : ∀ z ∈ xs, 0 ≤ z ∧ z < p) (h : xs.length ≤ n + ys.length - 1) : DmAt p xs xs ys n :=
  ⟨rfl, r, ⟨fun _ => 0, 0, fun _ _ => rfl, fun k => by rw [cf_zero_l fun _ => rfl, Int.sub_zero, Int.sub_self]; exact Int.dvd_zero _⟩, fun k hk => getD_end (by omega)⟩
structure SubM (p : Nat) (zs rs ys : List Int) (sh : Int) (n i : Nat) : Prop where
  len : zs.length = rs.length
  at_ : ∀ k, zs.getD k 0 = if n ≤ k ∧ k < n + i then (rs.getD k 0 - sh * ys.getD (k - n) 0) % (p : Int) else rs.getD k 0
theorem SubM.start {p : Nat} {rs ys : List Int} {sh : Int} {n : Nat} : SubM p rs rs ys sh n 0 := ⟨rfl, fun k => by rw [if_neg (by omega)]⟩
theorem SubM.step {p : Nat} {zs rs ys : List Int} {sh c : Int} {n i : Nat} (h : SubM p zs rs ys sh n i) (l : n + i < rs.length) (e : c = ys.getD i 0) : SubM p (zs.set (n + i) ((zs.getD (n + i) 0 - sh * c) % (p : Int))) rs ys sh n (i + 1) := ⟨by rw [List.length_set, h.len], fun k => by
  have l2 := h.len
  by_cases z : k = n + i
  · subst z
    rw [if_pos (by omega), List.getD_eq_getElem?_getD, List.getElem?_set_self (by omega)]
    show (zs.getD (n + i) 0 - sh * c) % (p : Int) = _
    rw [h.at_, if_neg (by omega), e, Nat.add_sub_cancel_left]
  · rw [List.getD_eq_getElem?_getD, List.getElem?_set_ne (by omega), ← List.getD_eq_getElem?_getD, h.at_]
    by_cases c1 : n ≤ k ∧ k < n + i
    · rw [if_pos c1, if_pos (by omega)]
    · rw [if_neg c1, if_neg (by omega)]⟩
theorem mod_sub_dvd (p : Nat) (x : Int) : (p : Int) ∣ x - x % (p : Int) := ⟨x / (p : Int), by have := Int.emod_add_mul_ediv x (p : Int); omega⟩
theorem DmAt.step {p : Nat} (p0 : 0 < p) {xs rs zs ys : List Int} {n : Nat} {inv sh : Int} (h : DmAt p xs rs ys (n + 1)) (y0 : 0 < ys.length) (hv : (p : Int) ∣ inv * ys.getD (ys.length - 1) 0 - 1) (es : sh = rs.getD (n + ys.length - 1) 0 * inv % (p : Int)) (m : SubM p zs rs ys sh n ys.length) : DmAt p xs zs ys n := by
  have topz : (p : Int) ∣ rs.getD (n + ys.length - 1) 0 - sh * ys.getD (ys.length - 1) 0 := by
    generalize rs.getD (n + ys.length - 1) 0 = r at es ⊢
    generalize ys.getD (ys.length - 1) 0 = y at hv ⊢
    obtain ⟨t, ht⟩ := hv
    obtain ⟨u, hu⟩ := mod_sub_dvd p (r * inv)
    rw [← es] at hu
    refine ⟨u * y - r * t, ?_⟩
    have e1 : inv * y = 1 + (p : Int) * t := by omega
    have e2 : sh = r * inv - (p : Int) * u := by omega
    rw [e2]
    grind
  refine ⟨by rw [m.len, h.rl], fun z hz => ?_, ?_, fun k hk => ?_⟩
  · obtain ⟨k, hk⟩ := List.mem_iff_getElem?.mp hz
    have e := m.at_ k
    rw [List.getD_eq_getElem?_getD, hk] at e
    have e' : z = if n ≤ k ∧ k < n + ys.length then (rs.getD k 0 - sh * ys.getD (k - n) 0) % (p : Int) else rs.getD k 0 := e
    rw [e']
    split
    · exact ⟨Int.emod_nonneg _ (by omega), Int.emod_lt_of_pos _ (by omega)⟩
    · have kl : k < rs.length := by rw [← m.len]; exact (List.getElem?_eq_some_iff.mp hk).1
      exact h.rng _ (getD_mem kl)
  · obtain ⟨s, N, hs, d⟩ := h.eq
    refine ⟨fun i => s i + sh * xp n i, N + (n + 1), Fz.add (hs.mono (by omega)) (Fz.scale _ ((xp_fz n).mono (by omega))), fun k => ?_⟩
    rw [cf_add_l s (fun i => sh * xp n i), cf_scale_l, cf_xp]
    show (p : Int) ∣ ff xs k - (cf s (ff ys) k + sh * (if n ≤ k then ff ys (k - n) else 0)) - zs.getD k 0
    rw [m.at_]
    have dk := d k
    by_cases c1 : n ≤ k ∧ k < n + ys.length
    · rw [if_pos c1, if_pos c1.1]
      have z := Int.dvd_add dk (mod_sub_dvd p (rs.getD k 0 - sh * ys.getD (k - n) 0))
      have e : ff xs k - cf s (ff ys) k - ff rs k + (rs.getD k 0 - sh * ys.getD (k - n) 0 - (rs.getD k 0 - sh * ys.getD (k - n) 0) % (p : Int)) = ff xs k - (cf s (ff ys) k + sh * ff ys (k - n)) - (rs.getD k 0 - sh * ys.getD (k - n) 0) % (p : Int) := by
        show xs.getD k 0 - cf s (ff ys) k - rs.getD k 0 + (rs.getD k 0 - sh * ys.getD (k - n) 0 - (rs.getD k 0 - sh * ys.getD (k - n) 0) % (p : Int)) = xs.getD k 0 - (cf s (ff ys) k + sh * ys.getD (k - n) 0) - (rs.getD k 0 - sh * ys.getD (k - n) 0) % (p : Int)
        omega
      rwa [e] at z
    · rw [if_neg c1]
      have yz : (if n ≤ k then ff ys (k - n) else 0) = 0 := by
        split
        · exact getD_end (by omega)
        · rfl
      rw [yz, Int.mul_zero, Int.add_zero]
      exact dk
  · show zs.getD k 0 = 0
    rw [m.at_]
    by_cases c1 : n ≤ k ∧ k < n + ys.length
    · rw [if_pos c1]
      have e : k = n + ys.length - 1 := by omega
      subst e
      rw [show n + ys.length - 1 - n = ys.length - 1 by omega]
      exact Int.emod_eq_zero_of_dvd topz
    · rw [if_neg c1]
      by_cases c2 : n + ys.length ≤ k
      · exact h.hi k (by omega)
      · omega
theorem DmAt.skip {p : Nat} (p0 : 0 < p) {xs rs ys : List Int} {n : Nat} {inv sh : Int} (h : DmAt p xs rs ys (n + 1)) (y0 : 0 < ys.length) (nl : n + ys.length - 1 < rs.length) (hv : (p : Int) ∣ inv * ys.getD (ys.length - 1) 0 - 1) (es : sh = rs.getD (n + ys.length - 1) 0 * inv % (p : Int)) (s0 : sh = 0) : DmAt p xs rs ys n := by
  refine ⟨h.rl, h.rng, h.eq, fun k hk => ?_⟩
  by_cases c : k = n + ys.length - 1
  · subst c
    have r := h.rng _ (getD_mem nl)
    show rs.getD (n + ys.length - 1) 0 = 0
    generalize rs.getD (n + ys.length - 1) 0 = x at es r ⊢
    generalize ys.getD (ys.length - 1) 0 = y at hv
    rw [s0] at es
    have d : (p : Int) ∣ x * inv := Int.dvd_of_emod_eq_zero es.symm
    have d2 : (p : Int) ∣ x := by
      obtain ⟨t, ht⟩ := hv
      obtain ⟨u, hu⟩ := d
      refine ⟨u * y - x * t, ?_⟩
      have e1 : inv * y = 1 + (p : Int) * t := by omega
      grind
    obtain ⟨t, ht⟩ := d2
    have e := Int.emod_eq_of_lt r.1 r.2
    rw [ht, Int.mul_emod_right] at e
    omega
  · exact h.hi k (by omega)
end CB

namespace CB.EQ
open PySem PySem.SeqAt PySem.Spec PyProof.Rows
open AutoSeq1 (wpAny_loadPart')
open MeetsSeq MeetsSeq2 MeetsSeq3 SeqRoads2
section
variable {prog : Program} {w : World} {A : Around} {R : Result → Shared → Prop}
end
section
variable {prog : Program} {w : World} {A : Around} {E : Value → Shared → Prop} {s : Shared}
end
end CB.EQ
namespace CB
open PySem PySem.Spec PyProof.Rows L2
section
variable {X : Cx} {n : Nat} {D : EqvB}
/-- lists of own objects, equal one by one: != says no -/
def rNeL (K : PySem.W.Frag) (D : EqvB) : R2 := fun x y H Q => ∃ (a b : Addr) (as bs : List Addr), x = .ref a ∧ y = .ref b ∧ H a = some (.lst (as.map V.ref)) ∧ H b = some (.lst (bs.map V.ref)) ∧ as.length = bs.length ∧
  (∀ (i : Nat) u v, as[i]? = some u → bs[i]? = some v → D (.ref u) (.ref v) H true) ∧ ∀ H', Ext H H' → Q (.bl false) H'
end
end CB

namespace CB
open PySem PySem.Spec PyProof.Rows L2
/-! ### a divisor's coefficients, by its values at small numbers -/
/-- division by x - h, with its coefficients -/
theorem syn2 (h : Int) : ∀ (N : Nat) (f : Nat → Int), Fz f (N + 1) → ∃ T, Fz T N ∧ (∀ x, e1 f x (N + 1) = e1 f h (N + 1) + (x - h) * e1 T x N) ∧ (∀ i, f i = (if i = 0 then e1 f h (N + 1) else T (i - 1)) - h * T i)
  | 0, f, hf => ⟨fun _ => 0, fun i _ => rfl, fun x => by
    show 0 + f 0 * x ^ 0 = 0 + f 0 * h ^ 0 + (x - h) * 0
    simp, fun i => by
    by_cases c : i = 0
    · subst c
      show f 0 = (0 + f 0 * h ^ 0) - h * 0
      simp
    · rw [if_neg c, hf i (by omega)]
      simp⟩
  | M + 1, f, hf => by
    obtain ⟨T', hT, e, ec⟩ := syn2 h M (fun i => f (i + 1)) (fun i hi => hf (i + 1) (by omega))
    refine ⟨fun i => if i = 0 then e1 (fun i => f (i + 1)) h (M + 1) else T' (i - 1), fun i hi => by
      show (if i = 0 then _ else T' (i - 1)) = 0
      rw [if_neg (by omega), hT (i - 1) (by omega)], fun x => ?_, fun i => ?_⟩
    · have e2 : e1 (fun i => if i = 0 then e1 (fun i => f (i + 1)) h (M + 1) else T' (i - 1)) x (M + 1) = e1 (fun i => f (i + 1)) h (M + 1) + x * e1 T' x M := by
        rw [e1_first]
        rfl
      rw [e1_first f x (M + 1), e1_first f h (M + 1), e2, e x]
      generalize e1 (fun i => f (i + 1)) h (M + 1) = A
      generalize e1 T' x M = B
      grind
    · match i with
      | 0 =>
        show f 0 = e1 f h (M + 1 + 1) - h * e1 (fun i => f (i + 1)) h (M + 1)
        rw [e1_first f h (M + 1)]
        omega
      | i + 1 => exact ec i
/-- the coefficients from values at enough places -/
theorem coef_le {K : Nat} : ∀ (n : Nat) {M : Nat} {f : Nat → Int} {l : List Int}, Fz f (n + 1) → l.Pairwise (· ≠ ·) → n + 1 ≤ l.length → (∀ h ∈ l, h.natAbs ≤ K ∧ (e1 f h (n + 1)).natAbs ≤ M) → ∀ i, (f i).natAbs ≤ M * (2 * K + 2) ^ n
  | 0, M, f, l, hf, _, ll, hl, i => by
    obtain ⟨h, r, rfl⟩ : ∃ h r, l = h :: r := by
      cases l with
      | nil => simp at ll
      | cons h r => exact ⟨h, r, rfl⟩
    have z : (e1 f h 1).natAbs ≤ M := (hl h (List.mem_cons_self ..)).2
    rw [Nat.pow_zero, Nat.mul_one]
    by_cases c : i = 0
    · subst c
      have e : e1 f h 1 = f 0 := by
        show 0 + f 0 * h ^ 0 = f 0
        simp
      rw [← e]
      exact z
    · rw [hf i (by omega)]
      exact Nat.zero_le _
  | n + 1, M, f, l, hf, pw, ll, hl, i => by
    obtain ⟨h, r, rfl⟩ : ∃ h r, l = h :: r := by
      cases l with
      | nil => simp at ll
      | cons h r => exact ⟨h, r, rfl⟩
    obtain ⟨T, hT, e, ec⟩ := syn2 h (n + 1) f hf
    have hh := hl h (List.mem_cons_self ..)
    have pw' := List.pairwise_cons.mp pw
    have ih := coef_le (K := K) n (M := 2 * M) (f := T) (l := r) hT pw'.2 (by simpa using ll) (fun g hg => by
      have hg2 := hl g (List.mem_cons_of_mem _ hg)
      refine ⟨hg2.1, ?_⟩
      have ne := pw'.1 g hg
      have eg := e g
      have d1 : 1 ≤ (g - h).natAbs := by omega
      have z : ((g - h) * e1 T g (n + 1)).natAbs ≤ 2 * M := by
        have : (g - h) * e1 T g (n + 1) = e1 f g (n + 1 + 1) - e1 f h (n + 1 + 1) := by omega
        rw [this]
        have := hg2.2
        have := hh.2
        omega
      rw [Int.natAbs_mul] at z
      calc (e1 T g (n + 1)).natAbs = 1 * (e1 T g (n + 1)).natAbs := (Nat.one_mul _).symm
        _ ≤ (g - h).natAbs * (e1 T g (n + 1)).natAbs := Nat.mul_le_mul_right _ d1
        _ ≤ 2 * M := z)
    have fi := ec i
    have p0 : (if i = 0 then e1 f h (n + 1 + 1) else T (i - 1)).natAbs ≤ 2 * M * (2 * K + 2) ^ n := by
      split
      · have q1 : 1 ≤ (2 * K + 2) ^ n := Nat.pow_pos (by omega)
        have q2 : 2 * M * 1 ≤ 2 * M * (2 * K + 2) ^ n := Nat.mul_le_mul_left _ q1
        have := hh.2
        omega
      · exact ih _
    have p1 : (h * T i).natAbs ≤ K * (2 * M * (2 * K + 2) ^ n) := by
      rw [Int.natAbs_mul]
      exact Nat.mul_le_mul hh.1 (ih i)
    have p2 := Int.natAbs_sub_le (if i = 0 then e1 f h (n + 1 + 1) else T (i - 1)) (h * T i)
    rw [← fi] at p2
    have e3 : M * (2 * K + 2) ^ (n + 1) = 2 * M * (2 * K + 2) ^ n + K * (2 * M * (2 * K + 2) ^ n) := by
      rw [Nat.pow_succ]
      generalize (2 * K + 2) ^ n = P
      grind
    rw [e3]
    omega
/-- a divisor's coefficients: A = Q S -/
theorem div_coef {A Q S : Nat → Int} {n m H : Nat} (dA : Dg A n) (hH : ∀ i, (A i).natAbs ≤ H) (dQ : Dg Q m) (nm : n + m ≤ 12) {N : Nat} (fS : Fz S N) (e : ∀ i, A i = cf Q S i) (i : Nat) : (Q i).natAbs ≤ H * sg 6 (n + 1) * 14 ^ m := by
  obtain ⟨s, dS⟩ : ∃ s, Dg S s := by
    rcases zero_or_dg N fS with z | ⟨s, _, d⟩
    · exact absurd (by rw [e, cf_zero_r z]) dA.top
    · exact ⟨s, d⟩
  have nms : n = m + s := by
    have d2 := dQ.cf dS
    have d3 : Dg (CB.cf Q S) n := ⟨by rw [← e]; exact dA.top, fun i hi => by rw [← e]; exact dA.up i hi⟩
    exact d3.uniq d2
  have sm : ∀ h ∈ pts, (e1 A h (n + 1)).natAbs ≤ H * sg 6 (n + 1) := fun h hh => e1_le (f := A) (h := h) (x := 6) hH (pts_le h hh) (n + 1)
  have few : (pts.filter fun h => decide (e1 A h (n + 1) = 0)).length ≤ n := by
    refine Decidable.byContradiction fun z => dA.top ?_
    have y := coef_le (K := 6) n (M := 0) (f := A) (l := pts.filter fun h => decide (e1 A h (n + 1) = 0)) dA.up (pts_pw.filter _) (by omega) (fun h hh => by
      obtain ⟨h1, h2⟩ := List.mem_filter.mp hh
      exact ⟨pts_le h h1, by rw [of_decide_eq_true h2]; decide⟩) n
    rw [Nat.zero_mul] at y
    omega
  have many : 13 - n ≤ (pts.filter fun h => !decide (e1 A h (n + 1) = 0)).length := by
    have z := List.length_eq_countP_add_countP (fun h => decide (e1 A h (n + 1) = 0)) (l := pts)
    rw [List.countP_eq_length_filter, List.countP_eq_length_filter] at z
    have e1_ : (pts.filter fun a => decide ¬ (fun h => decide (e1 A h (n + 1) = 0)) a = true) = pts.filter fun h => !decide (e1 A h (n + 1) = 0) := by
      congr 1
      funext a
      simp
    rw [e1_] at z
    have lp : pts.length = 13 := rfl
    omega
  have ev : ∀ x : Int, e1 A x (n + 1) = e1 Q x (m + 1) * e1 S x (s + 1) := fun x => by
    rw [← e1_cf (N := m + 1) (M := s + 1) dQ.up dS.up]
    have z : e1 A x (m + 1 + (s + 1)) = e1 A x (n + 1) := e1_more (fun i hi => dA.up i hi) (by omega)
    rw [← z]
    exact e1_congr fun i _ => e i
  refine coef_le (K := 6) m (M := H * sg 6 (n + 1)) (f := Q) (l := pts.filter fun h => !decide (e1 A h (n + 1) = 0)) dQ.up (pts_pw.filter _) (by omega) (fun h hh => ?_) i
  obtain ⟨h1, h2⟩ := List.mem_filter.mp hh
  refine ⟨pts_le h h1, ?_⟩
  have ne : e1 A h (n + 1) ≠ 0 := by simpa using h2
  have z := sm h h1
  rw [ev h, Int.natAbs_mul] at z
  have s0 : 1 ≤ (e1 S h (s + 1)).natAbs := by
    have : e1 S h (s + 1) ≠ 0 := fun w => ne (by rw [ev h, w, Int.mul_zero])
    omega
  calc (e1 Q h (m + 1)).natAbs = (e1 Q h (m + 1)).natAbs * 1 := (Nat.mul_one _).symm
    _ ≤ (e1 Q h (m + 1)).natAbs * (e1 S h (s + 1)).natAbs := Nat.mul_le_mul_left _ s0
    _ ≤ _ := z
end CB

namespace CB
open PySem PySem.Spec PyProof.Rows L2
/-! ### the sizes of a divisor in its one form -/
/-- the primitive part of a divisor is small -/
theorem prim_bits {f A : Nat → Int} {m n H : Nat} (df : Dg f m) (dA : Dg A n) (hH : ∀ i, (A i).natAbs ≤ H) (nm : n + m ≤ 12) (h : Dv f A) : ∃ (c : Int) (g : Nat → Int), c ≠ 0 ∧ Prim g ∧ Dg g m ∧ (∀ i, f i = c * g i) ∧ ∀ i, (g i).natAbs ≤ H * sg 6 (n + 1) * 14 ^ m := by
  obtain ⟨c, g, c0, pg, dg, e⟩ := prim_part df
  have hg : Dv g A := by
    have gf : Dv g f := ⟨1, fun i => c * xp 0 i, 1, by decide, (xp_fz 0).scale c, fun i => by rw [cf_scale_l, cf_one, Int.one_mul]; exact e i⟩
    exact gf.trans h
  obtain ⟨s, N, fs, ea⟩ := hg.whole pg
  exact ⟨c, g, c0, pg, dg, e, div_coef dA hH dg nm fs fun i => by rw [ea i, cf_comm]⟩
/-- a monic one: its numbers are small -/
theorem monic_bits {bs : List Int} {β : Int} {A : Nat → Int} {n H : Nat} (sb : Pq bs β bs β) (bne : bs ≠ []) (mon : bs.getD (bs.length - 1) 0 = β) (dA : Dg A n) (hH : ∀ i, (A i).natAbs ≤ H) (nm : n + (bs.length - 1) ≤ 12) (h : Dv (fun i => bs.getD i 0) A) (i : Nat) : (bs.getD i 0).natAbs ≤ H * sg 6 (n + 1) * 14 ^ (bs.length - 1) := by
  have bt : bs.getD (bs.length - 1) 0 ≠ 0 := sb.last.resolve_left bne
  have bl : 0 < bs.length := List.length_pos_iff.mpr bne
  have df : Dg (fun i => bs.getD i 0) (bs.length - 1) := ⟨bt, fun j hj => getD_end (by omega)⟩
  obtain ⟨c, g, c0, pg, dg, e, hb⟩ := prim_bits df dA hH nm h
  have c1 : c ∣ 1 := sb.cop c ⟨g (bs.length - 1), by rw [← mon]; exact e _⟩ fun j => ⟨g j, e j⟩
  have ca : c.natAbs = 1 := by
    have := Int.natAbs_dvd_natAbs.mpr c1
    exact Nat.dvd_one.mp this
  have e1 : bs.getD i 0 = c * g i := e i
  rw [e1, Int.natAbs_mul, ca, Nat.one_mul]
  exact hb i
/-- the numerator's numbers are small: as / a with its leading coefficients' equation -/
theorem num_bits {as : List Int} {a J L : Int} {A : Nat → Int} {n H : Nat} (sa : Pq as a as a) (ane : as ≠ []) (dA : Dg A n) (hH : ∀ i, (A i).natAbs ≤ H) (nm : n + (as.length - 1) ≤ 12) (h : Dv (fun i => as.getD i 0) A) (J0 : J ≠ 0) (L0 : L ≠ 0)
    (eq : as.getD (as.length - 1) 0 * J = L * a) : (∀ i, (as.getD i 0).natAbs ≤ L.natAbs * (H * sg 6 (n + 1) * 14 ^ (as.length - 1))) ∧ a.natAbs ≤ H * sg 6 (n + 1) * 14 ^ (as.length - 1) * J.natAbs := by
  have bt : as.getD (as.length - 1) 0 ≠ 0 := sa.last.resolve_left ane
  have bl : 0 < as.length := List.length_pos_iff.mpr ane
  have df : Dg (fun i => as.getD i 0) (as.length - 1) := ⟨bt, fun j hj => getD_end (by omega)⟩
  obtain ⟨c, g, c0, pg, dg, e, hb⟩ := prim_bits df dA hH nm h
  have a0 : a ≠ 0 := by have := sa.pos; omega
  have cp : Nat.gcd c.natAbs a.natAbs = 1 := by
    have d1 : ((Nat.gcd c.natAbs a.natAbs : Nat) : Int) ∣ a := Int.dvd_natAbs.mp (Int.natCast_dvd_natCast.mpr (Nat.gcd_dvd_right _ _))
    have d2 : ((Nat.gcd c.natAbs a.natAbs : Nat) : Int) ∣ c := Int.dvd_natAbs.mp (Int.natCast_dvd_natCast.mpr (Nat.gcd_dvd_left _ _))
    have d3 := sa.cop _ d1 fun j => by
      have : as.getD j 0 = c * g j := e j
      rw [this]
      exact Int.dvd_trans d2 ⟨g j, rfl⟩
    have := Int.natAbs_dvd_natAbs.mpr d3
    exact Nat.dvd_one.mp this
  have el : as.getD (as.length - 1) 0 = c * g (as.length - 1) := e _
  rw [el] at eq
  have cL : c ∣ L := by
    refine dvd_of_cop (a := a) (b := c) (c := L) ⟨g (as.length - 1) * J, ?_⟩ (by rw [Nat.gcd_comm]; exact cp)
    rw [Int.mul_comm a L, ← eq, Int.mul_assoc]
  have aJ : a ∣ g (as.length - 1) * J := by
    refine dvd_of_cop (a := c) (b := a) ⟨L, ?_⟩ cp
    rw [← Int.mul_assoc, eq, Int.mul_comm]
  have cl : c.natAbs ≤ L.natAbs := natAbs_le_of_dvd cL L0
  refine ⟨fun i => ?_, ?_⟩
  · have ei : as.getD i 0 = c * g i := e i
    rw [ei, Int.natAbs_mul]
    exact Nat.mul_le_mul cl (hb i)
  · have z := natAbs_le_of_dvd aJ (Int.mul_ne_zero dg.top J0)
    rw [Int.natAbs_mul] at z
    exact Nat.le_trans z (Nat.mul_le_mul_right _ (hb _))
end CB

namespace CB
open PySem PySem.Spec PyProof.Rows L2
/-! ### quotients: the one form is one -/
theorem bt_ex : ∀ xs : List Int, ∃ k, Bt k (ff xs)
  | [] => ⟨0, fun i => by show (0 : Int).natAbs < 2 ^ 0; decide⟩
  | x :: r => by
    obtain ⟨k, hk⟩ := bt_ex r
    refine ⟨max x.natAbs k, fun i => ?_⟩
    match i with
    | 0 => exact Nat.lt_of_lt_of_le (Nat.lt_two_pow_self (n := x.natAbs)) (Nat.pow_le_pow_right (by decide) (Nat.le_max_left _ _))
    | i + 1 => exact Nat.lt_of_lt_of_le (hk i) (Nat.pow_le_pow_right (by decide) (Nat.le_max_right _ _))
theorem dgl {js : List Int} (h : js.getD (js.length - 1) 0 ≠ 0) : Dg (ff js) (js.length - 1) := ⟨h, fun i hi => getD_end (by
  have : js ≠ [] := fun z => h (by rw [z]; rfl)
  have := List.length_pos_iff.mpr this
  omega)⟩
/-- coprime to as, a divisor of as bs' divides bs' -/
theorem cop_dv {as bs : List Int} {X : Nat → Int} (la : as = [] ∨ as.getD (as.length - 1) 0 ≠ 0) (lb : bs.getD (bs.length - 1) 0 ≠ 0) (cop : ∀ D m, Dg D m → Dv D (ff as) → Dv D (ff bs) → m = 0) {N : Nat} (fX : Fz X N) (h : Dv (ff bs) (cf (ff as) X)) : Dv (ff bs) X := by
  rcases la with z | la
  · have m0 := cop (ff bs) _ (dgl lb) (by rw [z]; exact Dv.zero fun _ => rfl) (Dv.refl _)
    have d := dgl lb
    rw [m0] at d
    exact (Dv.const d).trans (Dv.one X fX)
  · obtain ⟨k, hk⟩ := bt_ex as
    obtain ⟨l, hl⟩ := bt_ex bs
    obtain ⟨e0, _, E, ⟨m, _, D⟩, _, _⟩ := euclid _ (dgl la) (dgl lb) (Nat.le_refl _) hk hl
    have m0 := cop e0 m D E.da E.db
    rw [m0] at D
    obtain ⟨u, v, M, hu, hv, c⟩ := E.comb
    have c0 := D.top
    have ec : ∀ i, cf e0 X i = e0 0 * X i := fun i => by
      have : ∀ j, e0 j = e0 0 * xp 0 j := fun j => by
        by_cases z : j = 0
        · subst z
          show e0 0 = e0 0 * 1
          omega
        · rw [D.up j (by omega)]
          show 0 = e0 0 * (if j = 0 then 1 else 0)
          rw [if_neg z]; omega
      rw [cf_congr this (fun _ => rfl) i, cf_scale_l, cf_one]
    refine Dv.scale c0 ?_
    refine Dv.congr (Dv.comb h (Dv.refl (ff bs)) hu (hv.cf fX)) (fun _ => rfl) (fun i => ?_)
    rw [← ec i, cf_congr c (fun _ => rfl) i, cf_add_l, cf_assoc, cf_assoc]
    congr 1
    rw [cf_assoc]
    exact cf_congr (fun _ => rfl) (fun j => cf_comm _ _ j) i
/-- two that divide one another are proportional -/
theorem prop_dv2 {ms ks : List Int} (h1 : Dv (ff ms) (ff ks)) (h2 : Dv (ff ks) (ff ms)) (tm : ms.getD (ms.length - 1) 0 ≠ 0) (tk : ks.getD (ks.length - 1) 0 ≠ 0) (i : Nat) : ms.getD i 0 * ks.getD (ks.length - 1) 0 = ks.getD i 0 * ms.getD (ms.length - 1) 0 := by
  have dm := dgl tm
  have dk := dgl tk
  have a := h1.deg dm dk
  have b := h2.deg dk dm
  have ab : ms.length - 1 = ks.length - 1 := by omega
  obtain ⟨f, ef⟩ : ∃ f : Nat → Int, f = fun i => ks.getD (ks.length - 1) 0 * ff ms i + -(ms.getD (ms.length - 1) 0) * ff ks i := ⟨_, rfl⟩
  have fd : Dv (ff ms) f := (Dv.comb (Dv.refl (ff ms)) h1 ((xp_fz 0).scale (ks.getD (ks.length - 1) 0)) ((xp_fz 0).scale (-(ms.getD (ms.length - 1) 0)))).congr (fun _ => rfl) (fun i => by rw [ef, cf_scale_l, cf_one, cf_scale_l, cf_one])
  have fz : Fz f (ms.length - 1) := fun i hi => by
    rw [ef]
    show ks.getD (ks.length - 1) 0 * ff ms i + -(ms.getD (ms.length - 1) 0) * ff ks i = 0
    by_cases c : i = ms.length - 1
    · rw [c]
      show ks.getD (ks.length - 1) 0 * ms.getD (ms.length - 1) 0 + -(ms.getD (ms.length - 1) 0) * ks.getD (ms.length - 1) 0 = 0
      rw [← ab]
      grind
    · rw [dm.up i (by omega), dk.up i (by omega)]
      simp
  have f0 : ∀ i, f i = 0 := by
    rcases zero_or_dg _ fz with z | ⟨m, ml, dg⟩
    · exact z
    · have := fd.deg dm dg
      omega
  have w := f0 i
  rw [ef] at w
  have w2 : ks.getD (ks.length - 1) 0 * ms.getD i 0 + -(ms.getD (ms.length - 1) 0) * ks.getD i 0 = 0 := w
  grind
theorem quo_uniq {as bs cs ds : List Int} {a b c d : Int} (sa : Pq as a as a) (sb : Pq bs b bs b) (sc : Pq cs c cs c) (sd : Pq ds d ds d) (bne : bs ≠ []) (dne : ds ≠ []) (mb : bs.getD (bs.length - 1) 0 = b) (md : ds.getD (ds.length - 1) 0 = d)
    (cop : ∀ D m, Dg D m → Dv D (ff as) → Dv D (ff bs) → m = 0) (cop2 : ∀ D m, Dg D m → Dv D (ff cs) → Dv D (ff ds) → m = 0) (eq : ∀ i, cf (ff as) (ff ds) i * (c * b) = cf (ff cs) (ff bs) i * (a * d)) : (as = cs ∧ a = c) ∧ bs = ds ∧ b = d := by
  have bt := sb.last.resolve_left bne
  have dt := sd.last.resolve_left dne
  have a0 : a ≠ 0 := by have := sa.pos; omega
  have b0 : b ≠ 0 := by have := sb.pos; omega
  have c0 : c ≠ 0 := by have := sc.pos; omega
  have d0 : d ≠ 0 := by have := sd.pos; omega
  have h1 : Dv (ff bs) (cf (ff as) (ff ds)) := ⟨c * b, fun i => a * d * ff cs i, cs.length, Int.mul_ne_zero c0 b0, fun i hi => by show a * d * cs.getD i 0 = 0; rw [getD_end hi, Int.mul_zero], fun i => by rw [cf_scale_l, Int.mul_comm, eq i, Int.mul_comm]⟩
  have h2 : Dv (ff ds) (cf (ff cs) (ff bs)) := ⟨a * d, fun i => c * b * ff as i, as.length, Int.mul_ne_zero a0 d0, fun i hi => by show c * b * as.getD i 0 = 0; rw [getD_end hi, Int.mul_zero], fun i => by rw [cf_scale_l, Int.mul_comm, ← eq i, Int.mul_comm]⟩
  have v1 := cop_dv sa.last bt cop (N := ds.length) (fun i hi => getD_end hi) h1
  have v2 := cop_dv sc.last dt cop2 (N := bs.length) (fun i hi => getD_end hi) h2
  have pr := prop_dv2 v1 v2 bt dt
  obtain ⟨eb, ebd⟩ := sb.uniq (ks' := ds) (e' := d) ⟨fun i => by
    have := pr i
    rw [md, mb] at this
    exact this.symm, sd.pos, sd.last, sd.cop⟩ b0
  subst eb ebd
  refine ⟨?_, rfl, rfl⟩
  have e2 : ∀ i, ff as i * c = ff cs i * a := by
    have z := cf_cancel (f := ff bs) (g := fun i => c * ff as i) (h := fun i => a * ff cs i) (a := bs.length - 1) (n := max as.length cs.length) (dgl bt) (fun i hi => by show c * as.getD i 0 = 0; rw [getD_end (by omega), Int.mul_zero]) (fun i hi => by show a * cs.getD i 0 = 0; rw [getD_end (by omega), Int.mul_zero]) (fun k => by
      rw [cf_comm (ff bs), cf_comm (ff bs), cf_scale_l, cf_scale_l]
      apply Int.eq_of_mul_eq_mul_right b0
      have := eq k
      grind)
    exact fun i => by rw [Int.mul_comm, z i, Int.mul_comm]
  exact sa.uniq (ks' := cs) (e' := c) ⟨fun i => (e2 i).symm, sc.pos, sc.last, sc.cop⟩ a0
end CB

namespace CB
open PySem PySem.Spec PyProof.Rows L2
/-! ### quotients by a cross product -/
theorem cfC (f g : Nat → Int) : cf f g = cf g f := funext (cf_comm f g)
theorem cfA (f g h : Nat → Int) : cf (cf f g) h = cf f (cf g h) := funext (cf_assoc f g h)
instance cfComm : Std.Commutative cf := ⟨cfC⟩
instance cfAssoc : Std.Associative cf := ⟨cfA⟩
/-- a number as a polynomial -/
def cst (c : Int) : Nat → Int := fun i => c * xp 0 i
theorem cst_cf (c : Int) (f : Nat → Int) : cf (cst c) f = fun i => c * f i := funext fun i => by
  show cf (fun i => c * xp 0 i) f i = _
  rw [cf_scale_l, cf_one]
theorem cst_mul (a b : Int) : cf (cst a) (cst b) = cst (a * b) := by
  rw [cst_cf]
  funext i
  show a * (b * xp 0 i) = a * b * xp 0 i
  rw [Int.mul_assoc]
theorem cst_fz (c : Int) : Fz (cst c) 1 := (xp_fz 0).scale c
theorem ff_fz (xs : List Int) : Fz (ff xs) xs.length := fun i hi => getD_end hi
theorem ff_cv {zs xs ys : List Int} (h : IsMul zs xs ys) : ff zs = cf (ff xs) (ff ys) := funext fun i => by
  show zs.getD i 0 = _
  rw [h.at_, cv_cf]
theorem sg_le {x : Nat} {n m : Nat} (h : n ≤ m) : sg x n ≤ sg x m := by
  induction h with
  | refl => exact Nat.le_refl _
  | step _ ih => exact Nat.le_trans ih (Nat.le_add_right _ _)
/-- (as / a) / (bs / b) is the one form of X / Y -/
structure Qn (X Y : Nat → Int) (as : List Int) (a : Int) (bs : List Int) (b : Int) : Prop where
  sa : Pq as a as a
  sb : Pq bs b bs b
  bne : bs ≠ []
  mon : bs.getD (bs.length - 1) 0 = b
  cop : ∀ D m, Dg D m → Dv D (ff as) → Dv D (ff bs) → m = 0
  eq : cf (cst b) (cf (ff as) Y) = cf (cst a) (cf X (ff bs))
theorem Qn.bt {X Y : Nat → Int} {as bs : List Int} {a b : Int} (q : Qn X Y as a bs b) : bs.getD (bs.length - 1) 0 ≠ 0 := q.sb.last.resolve_left q.bne
theorem Qn.a0 {X Y : Nat → Int} {as bs : List Int} {a b : Int} (q : Qn X Y as a bs b) : a ≠ 0 := by have := q.sa.pos; omega
theorem Qn.b0 {X Y : Nat → Int} {as bs : List Int} {a b : Int} (q : Qn X Y as a bs b) : b ≠ 0 := by have := q.sb.pos; omega
theorem Qn.at_ {X Y : Nat → Int} {as bs : List Int} {a b : Int} (q : Qn X Y as a bs b) (i : Nat) : cf (ff as) Y i * b = cf X (ff bs) i * a := by
  have e := congrFun q.eq i
  rw [cst_cf, cst_cf] at e
  have e2 : b * cf (ff as) Y i = a * cf X (ff bs) i := e
  rw [Int.mul_comm, e2, Int.mul_comm]
theorem Qn.of_at {X Y : Nat → Int} {as bs : List Int} {a b : Int} (sa : Pq as a as a) (sb : Pq bs b bs b) (bne : bs ≠ []) (mon : bs.getD (bs.length - 1) 0 = b) (cop : ∀ D m, Dg D m → Dv D (ff as) → Dv D (ff bs) → m = 0) (e : ∀ i, cf (ff as) Y i * b = cf X (ff bs) i * a) : Qn X Y as a bs b := ⟨sa, sb, bne, mon, cop, funext fun i => by
  rw [cst_cf, cst_cf]
  show b * cf (ff as) Y i = a * cf X (ff bs) i
  rw [Int.mul_comm, e i, Int.mul_comm]⟩
/-- equal values are equal forms -/
theorem Qn.same {X Y X' Y' : Nat → Int} {as bs cs ds : List Int} {a b c d : Int} {n n' : Nat} (q : Qn X Y as a bs b) (r : Qn X' Y' cs c ds d) (dY : Dg Y n) (dY' : Dg Y' n') (e : cf X Y' = cf X' Y) : (as = cs ∧ a = c) ∧ bs = ds ∧ b = d := by
  refine quo_uniq q.sa q.sb r.sa r.sb q.bne r.bne q.mon r.mon q.cop r.cop fun i => ?_
  have key : cf (cf Y Y') (cf (cst (c * b)) (cf (ff as) (ff ds))) = cf (cf Y Y') (cf (cst (a * d)) (cf (ff cs) (ff bs))) := by
    rw [← cst_mul, ← cst_mul]
    calc cf (cf Y Y') (cf (cf (cst c) (cst b)) (cf (ff as) (ff ds))) = cf (cf (cst b) (cf (ff as) Y)) (cf (cst c) (cf Y' (ff ds))) := by ac_rfl
      _ = cf (cf (cst a) (cf X (ff bs))) (cf (cst c) (cf Y' (ff ds))) := by rw [q.eq]
      _ = cf (cf X Y') (cf (cst a) (cf (cst c) (cf (ff bs) (ff ds)))) := by ac_rfl
      _ = cf (cf X' Y) (cf (cst a) (cf (cst c) (cf (ff bs) (ff ds)))) := by rw [e]
      _ = cf (cf (cst c) (cf X' (ff ds))) (cf (cst a) (cf Y (ff bs))) := by ac_rfl
      _ = cf (cf (cst d) (cf (ff cs) Y')) (cf (cst a) (cf Y (ff bs))) := by rw [r.eq]
      _ = cf (cf Y Y') (cf (cf (cst a) (cst d)) (cf (ff cs) (ff bs))) := by ac_rfl
  have z := cf_cancel (dY.cf dY') (n := 1 + (max (as.length + ds.length) (cs.length + bs.length))) (g := cf (cst (c * b)) (cf (ff as) (ff ds))) (h := cf (cst (a * d)) (cf (ff cs) (ff bs)))
    (((cst_fz _).cf ((ff_fz as).cf (ff_fz ds))).mono (by omega)) (((cst_fz _).cf ((ff_fz cs).cf (ff_fz bs))).mono (by omega)) (fun k => congrFun key k) i
  rw [cst_cf, cst_cf] at z
  have z2 : c * b * cf (ff as) (ff ds) i = a * d * cf (ff cs) (ff bs) i := z
  rw [Int.mul_comm, z2, Int.mul_comm]
theorem Qn.bs_dv {X Y : Nat → Int} {as bs : List Int} {a b : Int} {N M : Nat} (q : Qn X Y as a bs b) (fX : Fz X N) (fY : Fz Y M) : Dv (ff bs) Y :=
  cop_dv q.sa.last q.bt q.cop fY ⟨b, cf (cst a) X, 1 + N, q.b0, (cst_fz a).cf fX, fun i => by
    have z := congrFun q.eq i
    rw [cst_cf b] at z
    have z2 : b * cf (ff as) Y i = cf (cst a) (cf X (ff bs)) i := z
    rw [z2]
    exact congrFun (show cf (cst a) (cf X (ff bs)) = cf (cf (cst a) X) (ff bs) by ac_rfl) i⟩
theorem Qn.x_zero {X Y : Nat → Int} {as bs : List Int} {a b : Int} {N : Nat} (q : Qn X Y as a bs b) (fX : Fz X N) (z : as = []) (i : Nat) : X i = 0 := by
  rcases zero_or_dg N fX with w | ⟨m, _, d⟩
  · exact w i
  · exfalso
    have e := congrFun q.eq (m + (bs.length - 1))
    rw [cst_cf, cst_cf, z] at e
    have e2 : b * cf (ff []) Y (m + (bs.length - 1)) = a * cf X (ff bs) (m + (bs.length - 1)) := e
    rw [cf_zero_l (f := ff []) (fun _ => rfl), Int.mul_zero] at e2
    rcases Int.mul_eq_zero.mp e2.symm with y | y
    · exact q.a0 y
    · exact (d.cf (dgl q.bt)).top y
theorem Qn.as_zero {X Y : Nat → Int} {as bs : List Int} {a b : Int} {n : Nat} (q : Qn X Y as a bs b) (dY : Dg Y n) (z : ∀ i, X i = 0) : as = [] := by
  rcases q.sa.last with w | w
  · exact w
  · exfalso
    have e := congrFun q.eq (as.length - 1 + n)
    rw [cst_cf, cst_cf] at e
    have e2 : b * cf (ff as) Y (as.length - 1 + n) = a * cf X (ff bs) (as.length - 1 + n) := e
    rw [cf_zero_l z, Int.mul_zero] at e2
    rcases Int.mul_eq_zero.mp e2 with y | y
    · exact q.b0 y
    · exact ((dgl w).cf dY).top y
theorem Qn.as_dv {X Y : Nat → Int} {as bs : List Int} {a b : Int} {N M : Nat} (q : Qn X Y as a bs b) (fX : Fz X N) (fY : Fz Y M) : Dv (ff as) X := by
  rcases q.sa.last with w | w
  · exact Dv.zero (q.x_zero fX w)
  · refine cop_dv q.sb.last w (fun D m d h1 h2 => q.cop D m d h2 h1) fX ⟨a, cf (cst b) Y, 1 + M, q.a0, (cst_fz b).cf fY, fun i => ?_⟩
    have z := congrFun q.eq i
    rw [cst_cf (a)] at z
    have z2 : cf (cst b) (cf (ff as) Y) i = a * cf X (ff bs) i := z
    rw [cf_comm (ff bs) X, ← z2]
    exact congrFun (show cf (cst b) (cf (ff as) Y) = cf (cf (cst b) Y) (ff as) by ac_rfl) i
/-- the same form: two numerators that differ -/
theorem Qn.no {X X' Y : Nat → Int} {as bs : List Int} {a b : Int} {m : Nat} (q : Qn X Y as a bs b) (r : Qn X' Y as a bs b) (D : Dg (fun i => X' i + -1 * X i) m) : False := by
  have e : cf (cst a) (cf X (ff bs)) = cf (cst a) (cf X' (ff bs)) := q.eq.symm.trans r.eq
  have e2 := congrFun e (m + (bs.length - 1))
  rw [cst_cf, cst_cf] at e2
  have e3 : cf X (ff bs) (m + (bs.length - 1)) = cf X' (ff bs) (m + (bs.length - 1)) := Int.eq_of_mul_eq_mul_left q.a0 e2
  refine (D.cf (dgl q.bt)).top ?_
  rw [cf_add_l, cf_scale_l, ← e3]
  omega
theorem small_one {as : List Int} {a : Int} (s : Pq as a as a) (z : as = []) : a = 1 := by
  have c := s.cop a (Int.dvd_refl a) fun i => by rw [z]; exact Int.dvd_zero a
  have := Int.natAbs_dvd_natAbs.mpr c
  have := Nat.dvd_one.mp this
  have := s.pos
  omega
theorem le_mono3 {H n m N M t : Nat} (h : n ≤ N) (k : m ≤ M) : H * sg 6 (n + 1) * 14 ^ m ≤ H * sg 6 (N + 1) * 14 ^ M :=
  Nat.mul_le_mul (Nat.mul_le_mul_left _ (sg_le (by omega))) (Nat.pow_le_pow_right (by decide) k)
/-- the sizes of the one form -/
structure Qs (N M HX HY : Nat) (as : List Int) (a : Int) (bs : List Int) (b : Int) : Prop where
  la : as.length ≤ N + 1
  lb : bs.length ≤ M + 1
  ba : ∀ i, (as.getD i 0).natAbs ≤ HX * (HX * sg 6 (N + 1) * 14 ^ N)
  bb : ∀ i, (bs.getD i 0).natAbs ≤ HY * sg 6 (M + 1) * 14 ^ M
  ga : a.natAbs ≤ max 1 (HX * sg 6 (N + 1) * 14 ^ N * HY)
  gb : b.natAbs ≤ HY * sg 6 (M + 1) * 14 ^ M
theorem Qn.sizes {X Y : Nat → Int} {as bs : List Int} {a b : Int} {N M HX HY : Nat} {n : Nat} (q : Qn X Y as a bs b) (fX : Fz X (N + 1)) (dY : Dg Y n) (nM : n ≤ M) (hX : ∀ i, (X i).natAbs ≤ HX) (hY : ∀ i, (Y i).natAbs ≤ HY) (n6 : N ≤ 6) (m6 : M ≤ 6) : Qs N M HX HY as a bs b := by
  have db := q.bs_dv fX dY.up
  have lb := db.deg (dgl q.bt) dY
  have bl : 0 < bs.length := List.length_pos_iff.mpr q.bne
  have bb := fun i => Nat.le_trans (monic_bits q.sb q.bne q.mon dY hY (by omega) db i) (le_mono3 (t := 0) nM (show bs.length - 1 ≤ M by omega))
  have gb : b.natAbs ≤ HY * sg 6 (M + 1) * 14 ^ M := by rw [← q.mon]; exact bb _
  rcases zero_or_dg (N + 1) fX with z | ⟨m, mN, d⟩
  · have an := q.as_zero dY z
    have a1 := small_one q.sa an
    refine ⟨by rw [an]; exact Nat.zero_le _, by omega, fun i => by rw [an]; exact Nat.zero_le _, bb, ?_, gb⟩
    rw [a1]; exact Nat.le_max_left _ _
  · have ane : as ≠ [] := fun z => d.top (q.x_zero fX z m)
    have at_ : as.getD (as.length - 1) 0 ≠ 0 := q.sa.last.resolve_left ane
    have da := q.as_dv fX dY.up
    have la := da.deg (dgl at_) d
    have al : 0 < as.length := List.length_pos_iff.mpr ane
    have lead : as.getD (as.length - 1) 0 * Y n = X m * a := by
      have eqd : as.length - 1 + n = m + (bs.length - 1) := by
        have d1 := (dgl at_).cf dY
        have d2 := d.cf (dgl q.bt)
        have d3 : Dg (cf (cst b) (cf (ff as) Y)) (as.length - 1 + n) := by
          rw [cst_cf]
          exact ⟨Int.mul_ne_zero q.b0 d1.top, fun i hi => by show b * _ = 0; rw [d1.up i hi, Int.mul_zero]⟩
        have d4 : Dg (cf (cst a) (cf X (ff bs))) (m + (bs.length - 1)) := by
          rw [cst_cf]
          exact ⟨Int.mul_ne_zero q.a0 d2.top, fun i hi => by show a * _ = 0; rw [d2.up i hi, Int.mul_zero]⟩
        rw [q.eq] at d3
        exact d3.uniq d4
      have e := congrFun q.eq (as.length - 1 + n)
      rw [cst_cf, cst_cf] at e
      have e2 : b * cf (ff as) Y (as.length - 1 + n) = a * cf X (ff bs) (as.length - 1 + n) := e
      rw [cf_top (fun i hi => (dgl at_).up i hi) (fun i hi => dY.up i hi), eqd, cf_top (fun i hi => d.up i hi) (fun i hi => (dgl q.bt).up i hi)] at e2
      have e3 : ff bs (bs.length - 1) = b := q.mon
      rw [e3] at e2
      apply Int.eq_of_mul_eq_mul_left q.b0
      have : b * (as.getD (as.length - 1) 0 * Y n) = a * (X m * b) := e2
      rw [this]
      grind
    obtain ⟨h1, h2⟩ := num_bits q.sa ane d hX (by omega) da dY.top d.top lead
    have mm := le_mono3 (H := HX) (t := 0) (show m ≤ N by omega) (show as.length - 1 ≤ N by omega)
    refine ⟨by omega, by omega, fun i => Nat.le_trans (h1 i) (Nat.mul_le_mul (hX m) mm), bb, ?_, gb⟩
    exact Nat.le_trans h2 (Nat.le_trans (Nat.mul_le_mul mm (hY n)) (Nat.le_max_right _ _))
/-- a common factor goes -/
theorem Qn.cancel {X Y G X' Y' : Nat → Int} {as bs : List Int} {a b : Int} {g N M : Nat} (q : Qn X Y as a bs b) (dG : Dg G g) (hX : X = cf G X') (hY : Y = cf G Y') (fX : Fz X' N) (fY : Fz Y' M) : Qn X' Y' as a bs b := by
  refine ⟨q.sa, q.sb, q.bne, q.mon, q.cop, funext fun i => ?_⟩
  refine cf_cancel dG (n := 1 + max (as.length + M) (N + bs.length)) (((cst_fz b).cf ((ff_fz as).cf fY)).mono (by omega)) (((cst_fz a).cf (fX.cf (ff_fz bs))).mono (by omega)) (fun k => ?_) i
  have e := q.eq
  rw [hX, hY] at e
  have e1 : cf G (cf (cst b) (cf (ff as) Y')) = cf (cst b) (cf (ff as) (cf G Y')) := by ac_rfl
  have e2 : cf G (cf (cst a) (cf X' (ff bs))) = cf (cst a) (cf (cf G X') (ff bs)) := by ac_rfl
  rw [e1, e2, e]
end CB

namespace CB
open PySem PySem.Spec PyProof.Rows L2
/-! ### coefficient functions as a ring, so that grind can do their algebra -/
structure PS where
  f : Nat → Int
def pc (c : Int) : PS := ⟨cst c⟩
theorem PS.ext {a b : PS} (h : a.f = b.f) : a = b := by cases a; cases b; cases h; rfl
instance : Add PS := ⟨fun a b => ⟨fun i => a.f i + b.f i⟩⟩
instance : Mul PS := ⟨fun a b => ⟨cf a.f b.f⟩⟩
instance : Neg PS := ⟨fun a => ⟨fun i => -a.f i⟩⟩
instance : Sub PS := ⟨fun a b => ⟨fun i => a.f i + -b.f i⟩⟩
instance : NatCast PS := ⟨fun n => pc n⟩
instance : IntCast PS := ⟨pc⟩
instance (n : Nat) : OfNat PS n := ⟨pc n⟩
def PS.pw (a : PS) : Nat → PS
  | 0 => 1
  | n + 1 => PS.pw a n * a
instance : HPow PS Nat PS := ⟨PS.pw⟩
instance : SMul Nat PS := ⟨fun n a => (n : PS) * a⟩
instance : SMul Int PS := ⟨fun n a => (n : PS) * a⟩
theorem PS.mul_f (a b : PS) : (a * b).f = cf a.f b.f := rfl
theorem pc_add (a b : Int) : pc (a + b) = pc a + pc b := PS.ext (funext fun i => Int.add_mul a b _)
theorem pc_mul (a b : Int) : pc (a * b) = pc a * pc b := PS.ext (by rw [PS.mul_f]; exact (cst_mul a b).symm)
theorem pc_neg (a : Int) : pc (-a) = -pc a := PS.ext (funext fun i => Int.neg_mul a _)
theorem ps_one_mul (a : PS) : 1 * a = a := PS.ext (funext fun i => by
  show cf (cst 1) a.f i = a.f i
  rw [cst_cf]
  exact Int.one_mul _)
theorem ps_mul_comm (a b : PS) : a * b = b * a := PS.ext (cfC _ _)
theorem ps_zero_f (i : Nat) : (0 : PS).f i = 0 := Int.zero_mul _
theorem ps_zero_mul (a : PS) : 0 * a = 0 := PS.ext (funext fun i => by
  rw [ps_zero_f]
  show cf (0 : PS).f a.f i = 0
  exact cf_zero_l ps_zero_f i)
theorem ps_neg_smul (i : Int) (a : PS) : (-i) • a = -(i • a) := PS.ext (funext fun k => by
  show cf (cst (-i)) a.f k = -cf (cst i) a.f k
  rw [cst_cf, cst_cf]
  exact Int.neg_mul _ _)
instance psRing : Lean.Grind.CommRing PS where
  add_zero a := PS.ext (funext fun i => by show a.f i + (0 : PS).f i = a.f i; rw [ps_zero_f, Int.add_zero])
  add_comm a b := PS.ext (funext fun i => Int.add_comm _ _)
  add_assoc a b c := PS.ext (funext fun i => Int.add_assoc _ _ _)
  mul_assoc a b c := PS.ext (cfA _ _ _)
  mul_one a := by rw [ps_mul_comm, ps_one_mul]
  one_mul := ps_one_mul
  left_distrib a b c := PS.ext (funext fun i => cf_add _ _ _ i)
  right_distrib a b c := PS.ext (funext fun i => cf_add_l _ _ _ i)
  zero_mul := ps_zero_mul
  mul_zero a := by rw [ps_mul_comm, ps_zero_mul]
  pow_zero a := rfl
  pow_succ a n := rfl
  ofNat_succ a := pc_add a 1
  neg_add_cancel a := PS.ext (funext fun i => by show -a.f i + a.f i = (0 : PS).f i; rw [ps_zero_f]; omega)
  sub_eq_add_neg a b := rfl
  neg_zsmul := ps_neg_smul
  intCast_neg i := pc_neg i
  mul_comm := ps_mul_comm
theorem pc_one : pc 1 = 1 := rfl
/-- a degree allows cancelling -/
theorem PS.cancel {a b c : PS} {n N M : Nat} (d : Dg a.f n) (hb : Fz b.f N) (hc : Fz c.f M) (e : a * b = a * c) : b = c :=
  PS.ext (funext fun i => cf_cancel d (n := max N M) (hb.mono (Nat.le_max_left _ _)) (hc.mono (Nat.le_max_right _ _)) (fun k => congrFun (congrArg PS.f e) k) i)
theorem pc_dg {c : Int} (h : c ≠ 0) : Dg (pc c).f 0 := ⟨by show c * xp 0 0 ≠ 0; rw [show xp 0 0 = 1 from rfl, Int.mul_one]; exact h, (cst_fz c)⟩
abbrev pl (xs : List Int) : PS := ⟨ff xs⟩
example (a b c : PS) (h : a * b = c) : (a + b) * (a - b) * a = a ^ 3 - c * b := by grind
/-- two ways to say it -/
theorem Qn.ps {X Y : PS} {as bs : List Int} {a b : Int} (q : Qn X.f Y.f as a bs b) : pc b * (pl as * Y) = pc a * (X * pl bs) := PS.ext q.eq
/-- the same value by other polynomials -/
theorem Qn.move {X Y X' Y' : PS} {as bs : List Int} {a b : Int} {n N M : Nat} (q : Qn X.f Y.f as a bs b) (dY : Dg Y.f n) (fY : Fz Y'.f N) (fX : Fz X'.f M) (e : X * Y' = X' * Y) : Qn X'.f Y'.f as a bs b := by
  refine ⟨q.sa, q.sb, q.bne, q.mon, q.cop, ?_⟩
  have z := q.ps
  have k : Y * (pc b * (pl as * Y')) = Y * (pc a * (X' * pl bs)) := by grind
  exact congrArg PS.f (PS.cancel dY (((cst_fz b).cf ((ff_fz as).cf fY))) (((cst_fz a).cf (fX.cf (ff_fz bs)))) k)
end CB

namespace CB
open PySem PySem.Spec PyProof.Rows L2
/-! ### small solutions of linear equations, by the pigeonhole principle -/
theorem pig_class {α : Type} (f : α → Nat) (T : Nat) : ∀ (K : Nat) (L : List α), (∀ a ∈ L, f a < K) → K * T < L.length → ∃ c, c < K ∧ T < (L.filter fun a => decide (f a = c)).length
  | 0, L, h, hl => by
    match L, hl with
    | a :: r, _ => exact absurd (h a (List.mem_cons_self ..)) (Nat.not_lt_zero _)
  | K + 1, L, h, hl => by
    by_cases c : T < (L.filter fun a => decide (f a = K)).length
    · exact ⟨K, Nat.lt_succ_self _, c⟩
    · have z : (L.filter fun a => decide (f a = K)).length + (L.filter fun a => !decide (f a = K)).length = L.length := by
        have y := List.length_eq_countP_add_countP (fun a => decide (f a = K)) (l := L)
        rw [List.countP_eq_length_filter, List.countP_eq_length_filter] at y
        have e1_ : (L.filter fun a => decide ¬ (fun a => decide (f a = K)) a = true) = L.filter fun a => !decide (f a = K) := by
          congr 1
          funext a
          simp
        rw [e1_] at y
        omega
      rw [Nat.succ_mul] at hl
      obtain ⟨c2, h2, h3⟩ := pig_class f T K (L.filter fun a => !decide (f a = K)) (fun a ha => by
        obtain ⟨h1, h2⟩ := List.mem_filter.mp ha
        have := h a h1
        have : f a ≠ K := by simpa using h2
        omega) (by omega)
      refine ⟨c2, by omega, Nat.lt_of_lt_of_le h3 ?_⟩
      rw [List.filter_filter]
      rw [← List.countP_eq_length_filter, ← List.countP_eq_length_filter]
      exact List.countP_mono_left fun a _ ha => (Bool.and_eq_true _ _ ▸ ha).1
theorem pig_all {α : Type} (f : Nat → α → Nat) (K : Nat) : ∀ (M : Nat) (L : List α), (∀ e, e < M → ∀ a ∈ L, f e a < K) → K ^ M < L.length → ∃ L', List.Sublist L' L ∧ 1 < L'.length ∧ ∀ e, e < M → ∀ a ∈ L', ∀ b ∈ L', f e a = f e b
  | 0, L, _, hl => ⟨L, List.Sublist.refl _, by simpa using hl, fun e he => absurd he (Nat.not_lt_zero _)⟩
  | M + 1, L, h, hl => by
    obtain ⟨c, hc, h2⟩ := pig_class (f M) (K ^ M) K L (h M (Nat.lt_succ_self _)) (by rw [Nat.pow_succ, Nat.mul_comm] at hl; exact hl)
    obtain ⟨L', s, l1, eq⟩ := pig_all f K M (L.filter fun a => decide (f M a = c)) (fun e he a ha => h e (by omega) a (List.mem_filter.mp ha).1) h2
    refine ⟨L', s.trans List.filter_sublist, l1, fun e he a ha b hb => ?_⟩
    by_cases z : e = M
    · subst z
      have ea := of_decide_eq_true (List.mem_filter.mp (s.subset ha)).2
      have eb := of_decide_eq_true (List.mem_filter.mp (s.subset hb)).2
      rw [ea, eb]
    · exact eq e (by omega) a ha b hb
/-- the digits to the base B + 1 -/
def dgt (B t j : Nat) : Nat := t / (B + 1) ^ j % (B + 1)
theorem dgt_le (B t j : Nat) : dgt B t j ≤ B := by
  have := Nat.mod_lt (t / (B + 1) ^ j) (show 0 < B + 1 from Nat.succ_pos B)
  unfold dgt
  omega
theorem dgt_uniq (B : Nat) : ∀ (N t t' : Nat), t < (B + 1) ^ N → t' < (B + 1) ^ N → (∀ j, j < N → dgt B t j = dgt B t' j) → t = t'
  | 0, t, t', h, h', _ => by
    rw [Nat.pow_zero] at h h'
    omega
  | N + 1, t, t', h, h', e => by
    have z := e 0 (by omega)
    unfold dgt at z
    rw [Nat.pow_zero, Nat.div_one, Nat.div_one] at z
    rw [Nat.pow_succ] at h h'
    have ih := dgt_uniq B N (t / (B + 1)) (t' / (B + 1)) (Nat.div_lt_of_lt_mul (by rw [Nat.mul_comm]; exact h)) (Nat.div_lt_of_lt_mul (by rw [Nat.mul_comm]; exact h')) (fun j hj => by
      have y := e (j + 1) (by omega)
      unfold dgt at y ⊢
      rw [Nat.pow_succ, Nat.mul_comm, ← Nat.div_div_eq_div_mul, ← Nat.div_div_eq_div_mul] at y
      exact y)
    rw [← Nat.div_add_mod t (B + 1), ← Nat.div_add_mod t' (B + 1), ih, z]
theorem sum_sub (F G : Nat → Int) : ∀ n, sumTo (fun i => F i - G i) n = sumTo F n - sumTo G n
  | 0 => rfl
  | n + 1 => by
    show sumTo (fun i => F i - G i) n + (F n - G n) = sumTo F n + F n - (sumTo G n + G n)
    rw [sum_sub F G n]
    omega
theorem sum_le {F : Nat → Int} {C : Nat} : ∀ n, (∀ i, i < n → (F i).natAbs ≤ C) → (sumTo F n).natAbs ≤ n * C
  | 0, _ => by simp [sumTo]
  | n + 1, h => by
    have ih := sum_le n fun i hi => h i (by omega)
    have := h n (by omega)
    have z := Int.natAbs_add_le (sumTo F n) (F n)
    show (sumTo F n + F n).natAbs ≤ _
    rw [Nat.succ_mul]
    omega
theorem pow_le_mul {a b c : Nat} (h : a ≤ b * c) : ∀ n, a ^ n ≤ b ^ n * c ^ n := fun n => by
  rw [← Nat.mul_pow]
  exact Nat.pow_le_pow_left h n
/-- Siegel: fewer equations than unknowns have a small solution -/
theorem siegel (A : Nat → Nat → Int) {N M H : Nat} (hM : M < N) (H1 : 1 ≤ H) (hA : ∀ e j, (A e j).natAbs ≤ H) : ∃ x : Nat → Int, (∃ j, j < N ∧ x j ≠ 0) ∧ (∀ j, (x j).natAbs ≤ (2 * N * H) ^ M) ∧ (∀ e, e < M → sumTo (fun j => A e j * x j) N = 0) ∧ Fz x N := by
  obtain ⟨B, eB⟩ : ∃ B, B = (2 * N * H) ^ M := ⟨_, rfl⟩
  obtain ⟨V, eV⟩ : ∃ V : Nat → Nat → Int, V = fun e t => sumTo (fun j => A e j * (dgt B t j : Int)) N := ⟨_, rfl⟩
  have vb : ∀ e t, (V e t).natAbs ≤ N * (H * B) := fun e t => by
    rw [eV]
    refine sum_le N fun j _ => ?_
    rw [Int.natAbs_mul]
    exact Nat.mul_le_mul (hA e j) (by rw [Int.natAbs_natCast]; exact dgt_le B t j)
  have nh : 1 ≤ 2 * N * H := Nat.mul_pos (by omega) (by omega)
  obtain ⟨L', s, l1, eq⟩ := pig_all (fun e t => (V e t + ((N * (H * B) : Nat) : Int)).toNat) (2 * (N * (H * B)) + 1) M (List.range ((B + 1) ^ N)) (fun e _ t _ => by have := vb e t; omega) (by
    rw [List.length_range]
    have a1 : 2 * (N * (H * B)) + 1 ≤ 2 * N * H * (B + 1) := by
      have : 2 * (N * (H * B)) = 2 * N * H * B := by rw [Nat.mul_assoc, Nat.mul_assoc]
      rw [this, Nat.mul_add]
      omega
    have a2 := pow_le_mul a1 M
    rw [← eB] at a2
    have a3 : B * (B + 1) ^ M < (B + 1) * (B + 1) ^ M := Nat.mul_lt_mul_of_pos_right (Nat.lt_succ_self B) (Nat.pow_pos (Nat.succ_pos B))
    have a4 : (B + 1) * (B + 1) ^ M ≤ (B + 1) ^ N := by
      rw [Nat.mul_comm, ← Nat.pow_succ]
      exact Nat.pow_le_pow_right (Nat.succ_pos B) hM
    omega)
  obtain ⟨t, t', r, hr⟩ : ∃ t t' r, L' = t :: t' :: r := by
    match L', l1 with
    | t :: t' :: r, _ => exact ⟨t, t', r, rfl⟩
  have nd := s.nodup List.nodup_range
  rw [hr] at nd
  have ne : t ≠ t' := fun z => by
    rw [z] at nd
    simp at nd
  have m1 : t ∈ L' := by rw [hr]; simp
  have m2 : t' ∈ L' := by rw [hr]; simp
  have b1 := List.mem_range.mp (s.subset m1)
  have b2 := List.mem_range.mp (s.subset m2)
  have dif : ∃ j, j < N ∧ dgt B t j ≠ dgt B t' j := Classical.byContradiction fun c => ne (dgt_uniq B N t t' b1 b2 fun j hj => Classical.byContradiction fun d => c ⟨j, hj, d⟩)
  refine ⟨fun j => if j < N then (dgt B t j : Int) - dgt B t' j else 0, ?_, fun j => ?_, fun e he => ?_, fun j hj => if_neg (by omega)⟩
  · obtain ⟨j, hj, d⟩ := dif
    refine ⟨j, hj, ?_⟩
    show (if j < N then (dgt B t j : Int) - dgt B t' j else 0) ≠ 0
    rw [if_pos hj]
    omega
  · rw [← eB]
    show (if j < N then (dgt B t j : Int) - dgt B t' j else 0).natAbs ≤ B
    have := dgt_le B t j
    have := dgt_le B t' j
    split <;> omega
  · have z := eq e he t m1 t' m2
    have v1 := vb e t
    have v2 := vb e t'
    have z2 : V e t = V e t' := by
      have : (V e t + ((N * (H * B) : Nat) : Int)).toNat = (V e t' + ((N * (H * B) : Nat) : Int)).toNat := z
      omega
    rw [eV] at z2
    have z3 : sumTo (fun j => A e j * (if j < N then (dgt B t j : Int) - dgt B t' j else 0)) N = sumTo (fun j => A e j * (dgt B t j : Int) - A e j * (dgt B t' j : Int)) N := sumTo_congr N fun j hj => by rw [if_pos hj, Int.mul_sub]
    rw [z3, sum_sub]
    have z4 : sumTo (fun j => A e j * (dgt B t j : Int)) N = sumTo (fun j => A e j * (dgt B t' j : Int)) N := z2
    omega
/-- a product's coefficient as a sum over the left factor -/
theorem cf_left {u : Nat → Int} {p : Nat} (hu : Fz u p) (A : Nat → Int) (k : Nat) : cf u A k = sumTo (fun j => (if j ≤ k then A (k - j) else 0) * u j) p := by
  unfold cf
  have h1 : sumTo (fun i => u i * A (k - i)) (k + 1) = sumTo (fun j => (if j ≤ k then A (k - j) else 0) * u j) (k + 1) := sumTo_congr _ fun i hi => by rw [if_pos (by omega), Int.mul_comm]
  rw [h1]
  have a := sumTo_more (F := fun j => (if j ≤ k then A (k - j) else 0) * u j) (n := k + 1) (fun i hi => by show (if i ≤ k then A (k - i) else 0) * u i = 0; rw [if_neg (by omega), Int.zero_mul]) p
  have b := sumTo_more (F := fun j => (if j ≤ k then A (k - j) else 0) * u j) (n := p) (fun i hi => by show (if i ≤ k then A (k - i) else 0) * u i = 0; rw [hu i hi, Int.mul_zero]) (k + 1)
  rw [← a, ← b, Nat.add_comm]
/-- Euclid's end with sizes like a determinant's -/
theorem euclid_small {A B : Nat → Int} {a b k : Nat} (dA : Dg A a) (dB : Dg B b) (hA : Bt k A) (hB : Bt k B) (ab : a + b ≤ 16) : ∃ e m, Euc A B e ∧ Dg e m ∧ Bt ((k + 5) * (a + b) + k) e := by
  obtain ⟨kA, hkA⟩ : ∃ kA, kA = k := ⟨k, rfl⟩
  obtain ⟨g, _, E, ⟨d, dm, D⟩, _, _⟩ := euclid (a + b) dA dB (Nat.le_refl _) hA hB
  have da : d ≤ a := by omega
  have db : d ≤ b := by omega
  by_cases N0 : a + b - 2 * d = 0
  · -- A and the divisor are of one degree
    have e1 : Dv A g := by
      obtain ⟨m, s, M, m0, hs, e⟩ := E.da
      rcases zero_or_dg M hs with z | ⟨j, _, dj⟩
      · exfalso
        have y := e a
        rw [cf_zero_l z] at y
        rcases Int.mul_eq_zero.mp y with y | y
        · exact m0 y
        · exact dA.top y
      · have jd := dj.cf D
        have ja : Dg (cf s g) a := ⟨by rw [← e]; exact Int.mul_ne_zero m0 dA.top, fun i hi => by rw [← e, dA.up i hi, Int.mul_zero]⟩
        have := jd.uniq ja
        have j0 : j = 0 := by omega
        subst j0
        have sc : ∀ i, s i = s 0 * xp 0 i := fun i => by
          by_cases z : i = 0
          · subst z
            show s 0 = s 0 * 1
            omega
          · rw [dj.up i (by omega)]
            show 0 = s 0 * (if i = 0 then 1 else 0)
            rw [if_neg z]; omega
        refine ⟨s 0, fun i => m * xp 0 i, 1, dj.top, (xp_fz 0).scale m, fun i => ?_⟩
        rw [cf_scale_l, cf_one, e, cf_congr sc (fun _ => rfl) i, cf_scale_l, cf_one]
    have ab2 : a = b := by omega
    refine ⟨A, a, ⟨Dv.refl A, e1.trans E.db, xp 0, fun _ => 0, 1, xp_fz 0, fun _ _ => rfl, fun i => by rw [cf_one, cf_zero_l (fun _ => rfl)]; omega⟩, dA, hA.mono (by omega)⟩
  · obtain ⟨p, ep⟩ : ∃ p, p = b - d := ⟨_, rfl⟩
    obtain ⟨q, eq⟩ : ∃ q, q = a - d := ⟨_, rfl⟩
    obtain ⟨x, ⟨j0, j0N, xj0⟩, xb, xe, xz⟩ := siegel (fun e j => if j < p then (if j ≤ d + 1 + e then A (d + 1 + e - j) else 0) else (if j - p ≤ d + 1 + e then B (d + 1 + e - (j - p)) else 0)) (N := p + q) (M := p + q - 1) (H := 2 ^ k) (by omega) (Nat.pow_pos (by decide)) (fun e j => by
      have h0 : ∀ i, (A i).natAbs ≤ 2 ^ k := fun i => Nat.le_of_lt (hA i)
      have h1 : ∀ i, (B i).natAbs ≤ 2 ^ k := fun i => Nat.le_of_lt (hB i)
      show (if j < p then (if j ≤ d + 1 + e then A (d + 1 + e - j) else 0) else (if j - p ≤ d + 1 + e then B (d + 1 + e - (j - p)) else 0)).natAbs ≤ 2 ^ k
      split
      · split
        · exact h0 _
        · exact Nat.zero_le _
      · split
        · exact h1 _
        · exact Nat.zero_le _)
    obtain ⟨u, eu⟩ : ∃ u : Nat → Int, u = fun i => if i < p then x i else 0 := ⟨_, rfl⟩
    obtain ⟨v, ev⟩ : ∃ v : Nat → Int, v = fun i => x (p + i) := ⟨_, rfl⟩
    have fu : Fz u p := fun i hi => by rw [eu]; exact if_neg (by omega)
    have fv : Fz v q := fun i hi => by rw [ev]; exact xz _ (by omega)
    obtain ⟨e, ee⟩ : ∃ e : Nat → Int, e = fun i => cf u A i + cf v B i := ⟨_, rfl⟩
    -- its coefficients as one sum
    have one : ∀ i, e i = sumTo (fun j => (if j < p then (if j ≤ i then A (i - j) else 0) else (if j - p ≤ i then B (i - (j - p)) else 0)) * x j) (p + q) := fun i => by
      rw [ee, sumTo_app]
      show cf u A i + cf v B i = _
      rw [cf_left fu A i, cf_left fv B i]
      congr 1
      · exact sumTo_congr p fun j hj => by rw [if_pos hj, eu]; show _ * (if j < p then x j else 0) = _; rw [if_pos hj]
      · exact sumTo_congr q fun j hj => by
          rw [if_neg (show ¬ p + j < p by omega), ev, show p + j - p = j by omega]
    have ez : Fz e (d + 1) := fun i hi => by
      by_cases c : i < d + 1 + (p + q - 1)
      · rw [one]
        have := xe (i - (d + 1)) (by omega)
        rw [show d + 1 + (i - (d + 1)) = i by omega] at this
        exact this
      · rw [ee]
        show cf u A i + cf v B i = 0
        rw [cf_endT (al := p) (be := a + 1) (fun s hs => fu s hs) (fun s hs => dA.up s hs) (by omega), cf_endT (al := q) (be := b + 1) (fun s hs => fv s hs) (fun s hs => dB.up s hs) (by omega)]
        rfl
    -- it is not zero
    have dv : Dv g e := by
      have := Dv.comb E.da E.db fu fv
      rw [ee]
      exact this
    have nz : ¬ ∀ i, e i = 0 := fun z => by
      obtain ⟨U, W, M, hU, hW, cm⟩ := E.comb
      have ps : (⟨u⟩ : PS) * ⟨A⟩ + ⟨v⟩ * ⟨B⟩ = 0 := PS.ext (funext fun i => by rw [ps_zero_f]; have := z i; rw [ee] at this; exact this)
      have gs : (⟨g⟩ : PS) = ⟨U⟩ * ⟨A⟩ + ⟨W⟩ * ⟨B⟩ := PS.ext (funext fun i => cm i)
      have h1 : (⟨u⟩ : PS) * ⟨g⟩ = ⟨B⟩ * (⟨u⟩ * ⟨W⟩ - ⟨v⟩ * ⟨U⟩) := by grind
      have h2 : (⟨v⟩ : PS) * ⟨g⟩ = ⟨A⟩ * (⟨v⟩ * ⟨U⟩ - ⟨u⟩ * ⟨W⟩) := by grind
      have u0 : ∀ i, u i = 0 := by
        rcases zero_or_dg p fu with y | ⟨m, hm, du⟩
        · exact y
        · exfalso
          have k1 := du.cf D
          have k2 : Dv B (cf u g) := ⟨1, _, _, by decide, (Fz.add (a := max (p + M) (q + M)) ((fu.cf hW).mono (by omega)) (fun i hi => by show -(cf v U i) = 0; rw [(fv.cf hU) i (by omega)]; rfl) : Fz ((⟨u⟩ : PS) * ⟨W⟩ - ⟨v⟩ * ⟨U⟩).f _), fun i => by
            rw [Int.one_mul]
            exact (congrFun (congrArg PS.f h1) i).trans (cf_comm _ _ _)⟩
          have := k2.deg dB k1
          omega
      have v0 : ∀ i, v i = 0 := by
        rcases zero_or_dg q fv with y | ⟨m, hm, dv⟩
        · exact y
        · exfalso
          have k1 := dv.cf D
          have k2 : Dv A (cf v g) := ⟨1, _, _, by decide, (Fz.add (a := max (p + M) (q + M)) ((fv.cf hU).mono (by omega)) (fun i hi => by show -(cf u W i) = 0; rw [(fu.cf hW) i (by omega)]; rfl) : Fz ((⟨v⟩ : PS) * ⟨U⟩ - ⟨u⟩ * ⟨W⟩).f _), fun i => by
            rw [Int.one_mul]
            exact (congrFun (congrArg PS.f h2) i).trans (cf_comm _ _ _)⟩
          have := k2.deg dA k1
          omega
      by_cases c : j0 < p
      · have := u0 j0
        rw [eu] at this
        have y : (if j0 < p then x j0 else 0) = 0 := this
        rw [if_pos c] at y
        exact xj0 y
      · have := v0 (j0 - p)
        rw [ev] at this
        have y : x (p + (j0 - p)) = 0 := this
        rw [show p + (j0 - p) = j0 by omega] at y
        exact xj0 y
    rcases zero_or_dg (d + 1) ez with z | ⟨m, md, dme⟩
    · exact absurd z nz
    have mde := dv.deg D dme
    have mdd : m = d := by omega
    subst mdd
    -- it divides the divisor
    have eg : Dv e g := by
      obtain ⟨c, s, M, c0, hs, es⟩ := dv
      rcases zero_or_dg M hs with z | ⟨j, _, dj⟩
      · exfalso
        have y := es m
        rw [cf_zero_l z] at y
        rcases Int.mul_eq_zero.mp y with y | y
        · exact c0 y
        · exact dme.top y
      · have jd := dj.cf D
        have ja : Dg (cf s g) m := ⟨by rw [← es]; exact Int.mul_ne_zero c0 dme.top, fun i hi => by rw [← es, dme.up i hi, Int.mul_zero]⟩
        have := jd.uniq ja
        have j0 : j = 0 := by omega
        subst j0
        have sc : ∀ i, s i = s 0 * xp 0 i := fun i => by
          by_cases z : i = 0
          · subst z
            show s 0 = s 0 * 1
            omega
          · rw [dj.up i (by omega)]
            show 0 = s 0 * (if i = 0 then 1 else 0)
            rw [if_neg z]; omega
        refine ⟨s 0, fun i => c * xp 0 i, 1, dj.top, (xp_fz 0).scale c, fun i => ?_⟩
        rw [cf_scale_l, cf_one, es, cf_congr sc (fun _ => rfl) i, cf_scale_l, cf_one]
    refine ⟨e, m, ⟨eg.trans E.da, eg.trans E.db, u, v, p + q, fu.mono (by omega), fv.mono (by omega), fun i => by rw [ee]⟩, dme, fun i => ?_⟩
    have N1 : 1 ≤ p + q := by omega
    rw [one]
    have z := sum_le (F := fun j => (if j < p then (if j ≤ i then A (i - j) else 0) else (if j - p ≤ i then B (i - (j - p)) else 0)) * x j) (C := 2 ^ k * (2 * (p + q) * 2 ^ k) ^ (p + q - 1)) (p + q) (fun j hj => by
      rw [Int.natAbs_mul]
      refine Nat.mul_le_mul ?_ (xb j)
      have h0 : ∀ i, (A i).natAbs ≤ 2 ^ k := fun i => Nat.le_of_lt (hA i)
      have h1 : ∀ i, (B i).natAbs ≤ 2 ^ k := fun i => Nat.le_of_lt (hB i)
      split
      · split
        · exact h0 _
        · exact Nat.zero_le _
      · split
        · exact h1 _
        · exact Nat.zero_le _)
    refine Nat.lt_of_le_of_lt z ?_
    have f1 : (p + q) * (2 ^ k * (2 * (p + q) * 2 ^ k) ^ (p + q - 1)) < (2 * (p + q) * 2 ^ k) ^ (p + q - 1 + 1) := by
      rw [Nat.pow_succ]
      have pp : 0 < (2 * (p + q) * 2 ^ k) ^ (p + q - 1) := Nat.pow_pos (Nat.mul_pos (by omega) (Nat.pow_pos (by decide)))
      have k0 : 0 < (p + q) * 2 ^ k := Nat.mul_pos N1 (Nat.pow_pos (by decide))
      generalize (2 * (p + q) * 2 ^ k) ^ (p + q - 1) = Z at pp ⊢
      have : 2 * (p + q) * 2 ^ k = 2 * ((p + q) * 2 ^ k) := Nat.mul_assoc _ _ _
      rw [this]
      have e3 : (p + q) * (2 ^ k * Z) = Z * ((p + q) * 2 ^ k) := by
        rw [← Nat.mul_assoc, Nat.mul_comm]
      rw [e3]
      exact Nat.mul_lt_mul_of_pos_left (by omega) pp
    refine Nat.lt_of_lt_of_le f1 ?_
    have f2 : 2 * (p + q) * 2 ^ k ≤ 2 ^ (k + 5) := by
      rw [Nat.pow_add, Nat.mul_comm]
      exact Nat.mul_le_mul_left _ (by have : (2 : Nat) ^ 5 = 32 := rfl; omega)
    refine Nat.le_trans (Nat.pow_le_pow_left f2 _) ?_
    rw [← Nat.pow_mul]
    refine Nat.pow_le_pow_right (by decide) ?_
    have f3 : (k + 5) * (p + q - 1 + 1) ≤ (k + 5) * (a + b) := Nat.mul_le_mul_left _ (by omega)
    omega
end CB

namespace CB
open PySem PySem.Spec PyProof.Rows L2
/-! ### whole roots: values modulo, lifting, bounds -/
theorem pow_tay (x h : Int) : ∀ n : Nat, ∃ c, (x + h) ^ (n + 1) = x ^ (n + 1) + ((n : Int) + 1) * x ^ n * h + h * h * c
  | 0 => ⟨0, by rw [Int.pow_succ, Int.pow_succ, Int.pow_zero, Int.pow_zero]; simp⟩
  | n + 1 => by
    obtain ⟨c, e⟩ := pow_tay x h n
    refine ⟨((n : Int) + 1) * x ^ n + c * (x + h), ?_⟩
    rw [Int.pow_succ, e, Int.pow_succ x (n + 1), Int.pow_succ x n]
    push_cast
    generalize x ^ n = P
    grind
/-- the value at x + h up to h ^ 2 -/
theorem tay (f : Nat → Int) (x h : Int) : ∀ N, ∃ t, e1 f (x + h) (N + 1) = e1 f x (N + 1) + h * e1 (dv f) x N + h * h * t
  | 0 => ⟨0, by show 0 + f 0 * (x + h) ^ 0 = 0 + f 0 * x ^ 0 + h * 0 + h * h * 0; simp⟩
  | N + 1 => by
    obtain ⟨t, e⟩ := tay f x h N
    obtain ⟨c, ec⟩ := pow_tay x h N
    refine ⟨t + f (N + 1) * c, ?_⟩
    show e1 f (x + h) (N + 1) + f (N + 1) * (x + h) ^ (N + 1) = e1 f x (N + 1) + f (N + 1) * x ^ (N + 1) + h * (e1 (dv f) x N + dv f N * x ^ N) + h * h * (t + f (N + 1) * c)
    rw [e, ec]
    unfold dv
    generalize x ^ (N + 1) = P
    generalize x ^ N = R
    grind
theorem e1_mod (f : Nat → Int) {m x y : Int} (h : m ∣ x - y) : ∀ N, m ∣ e1 f x N - e1 f y N
  | 0 => by show m ∣ 0 - 0; simp
  | N + 1 => by
    have ih := e1_mod f h N
    have hp : ∀ n : Nat, m ∣ x ^ n - y ^ n := fun n => by
      induction n with
      | zero => simp
      | succ n ih =>
        have : x ^ (n + 1) - y ^ (n + 1) = x * (x ^ n - y ^ n) + y ^ n * (x - y) := by rw [Int.pow_succ, Int.pow_succ]; generalize x ^ n = P; generalize y ^ n = R; grind
        rw [this]
        exact Int.dvd_add (Int.dvd_trans ih ⟨x, Int.mul_comm _ _⟩) (Int.dvd_trans h ⟨y ^ n, Int.mul_comm _ _⟩)
    have : e1 f x (N + 1) - e1 f y (N + 1) = (e1 f x N - e1 f y N) + f N * (x ^ N - y ^ N) := by
      show e1 f x N + f N * x ^ N - (e1 f y N + f N * y ^ N) = _
      rw [Int.mul_sub]
      omega
    rw [this]
    exact Int.dvd_add ih (Int.dvd_trans (hp N) ⟨f N, Int.mul_comm _ _⟩)
theorem lift_a {m q w p v D t F : Int} (hF : F = m * q + m * m * p) (hD : v * D = 1 + m * w) : m * q + -(F * v) * D + -(F * v) * -(F * v) * t = m * m * (q * -w + -(p * v * D) + (q + m * p) * (q + m * p) * v * v * t) := by
  subst hF
  have : (m * q + m * m * p) * v * D = (m * q + m * m * p) * (v * D) := Int.mul_assoc _ _ _
  grind
theorem lift_b {m v D g G y w : Int} (h1 : v * D - 1 = m * w) (h3 : G = D + m * m * g) : (v * (2 - G * v) + m * m * y) * D - 1 = m * m * (y * D - v * v * g * D - w * w) := by
  subst h3
  grind
theorem lift_c {m k p v D w t s : Int} (h : v * D = 1 + m * w) : m * k + (-(m * k * D) - m * k * (m * k) * t + m * m * p) * v - m * m * s = m * m * (-s + p * v - k * w - k * k * t * v) := by
  grind
/-- the state of the lifting: m the modulus, r the root, v the inverse of the slope -/
structure Lft (f : Nat → Int) (N : Nat) (m r v : Int) : Prop where
  m2 : 2 ≤ m
  r0 : 0 ≤ r
  r1 : r < m
  a : m ∣ e1 f r (N + 1)
  b : m ∣ v * e1 (dv f) r N - 1
theorem Lft.step {f : Nat → Int} {N : Nat} {m r v F r2 G v2 : Int} (L : Lft f N m r v) (hF : m * m ∣ F - e1 f r (N + 1)) (e2 : r2 = (r - F * v) % (m * m)) (hG : m * m ∣ G - e1 (dv f) r2 N) (e3 : v2 = v * (2 - G * v) % (m * m)) : Lft f N (m * m) r2 v2 ∧ (m ∣ r2 - r) ∧ ∀ z : Int, e1 f z (N + 1) = 0 → m ∣ z - r → m * m ∣ z - r2 := by
  have m2 := L.m2
  have M0 : 0 < m * m := Int.mul_pos (by omega) (by omega)
  have M2 : 2 ≤ m * m := by
    have : 2 * 2 ≤ m * m := Int.mul_le_mul m2 m2 (by decide) (by omega)
    omega
  have mM : m ∣ m * m := ⟨m, rfl⟩
  obtain ⟨p, hp⟩ := hF
  obtain ⟨q, hq⟩ := L.a
  obtain ⟨w, hw⟩ := L.b
  have d2 : m * m ∣ r2 - (r - F * v) := by
    rw [e2]
    have := Int.emod_add_mul_ediv (r - F * v) (m * m)
    exact ⟨-((r - F * v) / (m * m)), by rw [Int.mul_neg]; omega⟩
  obtain ⟨s, hs⟩ := d2
  have mr : m ∣ r2 - r := ⟨m * s - (q + m * p) * v, by grind⟩
  -- the value at the new root
  obtain ⟨t, ht⟩ := tay f r (-(F * v)) N
  have a2 : m * m ∣ e1 f r2 (N + 1) := by
    have c := e1_mod f (m := m * m) (x := r2) (y := r + -(F * v)) ⟨s, by rw [← hs]; omega⟩ (N + 1)
    have k : m * m ∣ e1 f (r + -(F * v)) (N + 1) := by
      rw [ht, hq]
      exact ⟨_, lift_a (w := w) (p := p) (by omega) (by omega)⟩
    have := Int.dvd_add c k
    rwa [Int.sub_add_cancel] at this
  have dd := e1_mod (dv f) mr N
  obtain ⟨u, hu⟩ := dd
  obtain ⟨g, hg⟩ := hG
  have b2 : m * m ∣ v2 * e1 (dv f) r2 N - 1 := by
    have d3 : m * m ∣ v2 - v * (2 - G * v) := by
      rw [e3]
      have := Int.emod_add_mul_ediv (v * (2 - G * v)) (m * m)
      exact ⟨-(v * (2 - G * v) / (m * m)), by rw [Int.mul_neg]; omega⟩
    obtain ⟨y, hy⟩ := d3
    -- 1 - v F'2 = - m (w + v u)
    have h1 : v * e1 (dv f) r2 N - 1 = m * (w + v * u) := by
      have : e1 (dv f) r2 N = e1 (dv f) r N + m * u := by omega
      rw [this, Int.mul_add, Int.mul_add, ← hw]
      have : v * (m * u) = m * (v * u) := by rw [← Int.mul_assoc, Int.mul_comm v m, Int.mul_assoc]
      omega
    have h2 : v2 = v * (2 - G * v) + m * m * y := by omega
    rw [h2]
    exact ⟨_, lift_b (g := g) h1 (by omega)⟩
  refine ⟨⟨M2, by rw [e2]; exact Int.emod_nonneg _ (by omega), by rw [e2]; exact Int.emod_lt_of_pos _ M0, a2, b2⟩, mr, fun z hz hzr => ?_⟩
  obtain ⟨k, hk⟩ := hzr
  obtain ⟨t2, ht2⟩ := tay f r (z - r) N
  rw [show r + (z - r) = z by omega, hz] at ht2
  -- z - r2 = (z - r) + F v - m m s
  have e5 : z - r2 = (z - r) + F * v - m * m * s := by omega
  have e6 : F = e1 f r (N + 1) + m * m * p := by omega
  have e7 : e1 f r (N + 1) = -((z - r) * e1 (dv f) r N) - (z - r) * (z - r) * t2 := by omega
  rw [e5, e6, e7, hk]
  exact ⟨_, lift_c (w := w) (by omega)⟩
/-! ### derivatives, roots of a product -/
def PS.d (a : PS) : PS := ⟨dv a.f⟩
theorem PS.d_mul (a b : PS) : (a * b).d = a.d * b + a * b.d := PS.ext (funext fun i => dv_cf a.f b.f i)
theorem PS.d_add (a b : PS) : (a + b).d = a.d + b.d := PS.ext (funext fun i => Int.mul_add _ _ _)
theorem PS.d_pc (c : Int) : (pc c).d = 0 := PS.ext (funext fun i => by
  rw [ps_zero_f]
  show ((i : Int) + 1) * (c * xp 0 (i + 1)) = 0
  rw [show xp 0 (i + 1) = 0 from if_neg (by omega)]
  simp)
theorem dv_fz {f : Nat → Int} {N : Nat} (h : Fz f (N + 1)) : Fz (dv f) N := fun i hi => by
  show ((i : Int) + 1) * f (i + 1) = 0
  rw [h _ (by omega), Int.mul_zero]
/-- x - z -/
def lin (z : Int) : PS := ⟨xp 1⟩ + pc (-z)
theorem lin_dg (z : Int) : Dg (lin z).f 1 := ⟨by show xp 1 1 + -z * xp 0 1 ≠ 0; unfold xp; simp, fun i hi => by
  show xp 1 i + -z * xp 0 i = 0
  unfold xp
  rw [if_neg (by omega), if_neg (by omega)]
  simp⟩
/-- the value at a number -/
def Ev (a : PS) (x v : Int) : Prop := ∃ N, Fz a.f N ∧ e1 a.f x N = v
theorem Ev.uniq {a : PS} {x v w : Int} (h : Ev a x v) (k : Ev a x w) : v = w := by
  obtain ⟨N, hN, e⟩ := h
  obtain ⟨M, hM, e2⟩ := k
  rw [← e, ← e2, ← e1_more hN (Nat.le_max_left N M), ← e1_more hM (Nat.le_max_right N M)]
theorem Ev.mul {a b : PS} {x v w : Int} (h : Ev a x v) (k : Ev b x w) : Ev (a * b) x (v * w) := by
  obtain ⟨N, hN, e⟩ := h
  obtain ⟨M, hM, e2⟩ := k
  exact ⟨N + M, hN.cf hM, by rw [← e, ← e2]; exact e1_cf hN hM⟩
theorem e1_plus (f g : Nat → Int) (x : Int) : ∀ N, e1 (fun i => f i + g i) x N = e1 f x N + e1 g x N
  | 0 => rfl
  | N + 1 => by
    show e1 (fun i => f i + g i) x N + (f N + g N) * x ^ N = e1 f x N + f N * x ^ N + (e1 g x N + g N * x ^ N)
    rw [e1_plus f g x N, Int.add_mul]
    omega
theorem Ev.add {a b : PS} {x v w : Int} (h : Ev a x v) (k : Ev b x w) : Ev (a + b) x (v + w) := by
  obtain ⟨N, hN, e⟩ := h
  obtain ⟨M, hM, e2⟩ := k
  refine ⟨max N M, (hN.mono (Nat.le_max_left _ _)).add (hM.mono (Nat.le_max_right _ _)), ?_⟩
  rw [← e, ← e2, ← e1_more hN (Nat.le_max_left N M), ← e1_more hM (Nat.le_max_right N M)]
  exact e1_plus _ _ _ _
theorem Ev.pc (c x : Int) : Ev (pc c) x c := ⟨1, cst_fz c, by show 0 + c * xp 0 0 * x ^ 0 = c; unfold xp; simp⟩
theorem Ev.lin (z : Int) : Ev (lin z) z 0 := ⟨2, (lin_dg z).up, by
  show 0 + (xp 1 0 + -z * xp 0 0) * z ^ 0 + (xp 1 1 + -z * xp 0 1) * z ^ 1 = 0
  unfold xp
  rw [Int.pow_zero, Int.pow_succ, Int.pow_zero]
  simp
  omega⟩
theorem Ev.ex {a : PS} {N : Nat} (h : Fz a.f N) (x : Int) : ∃ v, Ev a x v := ⟨_, N, h, rfl⟩
theorem Ev.of {a : PS} {N : Nat} (h : Fz a.f N) (x : Int) : Ev a x (e1 a.f x N) := ⟨N, h, rfl⟩
theorem pc_fz (c : Int) : Fz (CB.pc c).f 1 := cst_fz c
theorem ps_fz_mul {a b : PS} {N M : Nat} (h : Fz a.f N) (k : Fz b.f M) : Fz (a * b).f (N + M) := h.cf k
theorem ps_fz_add {a b : PS} {N M : Nat} (h : Fz a.f N) (k : Fz b.f M) : Fz (a + b).f (max N M) := (h.mono (Nat.le_max_left _ _)).add (k.mono (Nat.le_max_right _ _))
theorem ps_pw_succ (a : PS) (n : Nat) : a ^ (n + 1) = a ^ n * a := rfl
theorem ps_pw_zero (a : PS) : a ^ 0 = 1 := rfl
end CB

namespace CB
open PySem PySem.Spec PyProof.Rows L2
/-! ### p / gcd(p, p') has no factor twice -/
/-- Dv in the ring -/
theorem Dv.ps {d p : PS} (h : Dv d.f p.f) : ∃ (c : Int) (s : PS) (N : Nat), c ≠ 0 ∧ Fz s.f N ∧ pc c * p = s * d := by
  obtain ⟨m, s, N, m0, hs, e⟩ := h
  refine ⟨m, ⟨s⟩, N, m0, hs, PS.ext (funext fun i => ?_)⟩
  show cf (cst m) p.f i = cf s d.f i
  rw [cst_cf]
  exact e i
theorem Dv.of_ps {d p s : PS} {c : Int} {N : Nat} (c0 : c ≠ 0) (fs : Fz s.f N) (e : pc c * p = s * d) : Dv d.f p.f := ⟨c, s.f, N, c0, fs, fun i => by
  have z := congrFun (congrArg PS.f e) i
  have z2 : cf (cst c) p.f i = cf s.f d.f i := z
  rw [cst_cf] at z2
  exact z2⟩
/-- a divisor of one degree: both divide each other -/
theorem Dv.back {d p : Nat → Int} {n : Nat} (h : Dv d p) (dd : Dg d n) (dp : Dg p n) : Dv p d := by
  obtain ⟨c, s, M, c0, hs, es⟩ := h
  rcases zero_or_dg M hs with z | ⟨j, _, dj⟩
  · exfalso
    have y := es n
    rw [cf_zero_l z] at y
    rcases Int.mul_eq_zero.mp y with y | y
    · exact c0 y
    · exact dp.top y
  · have jd := dj.cf dd
    have ja : Dg (cf s d) n := ⟨by rw [← es]; exact Int.mul_ne_zero c0 dp.top, fun i hi => by rw [← es, dp.up i hi, Int.mul_zero]⟩
    have := jd.uniq ja
    have j0 : j = 0 := by omega
    subst j0
    have sc : ∀ i, s i = s 0 * xp 0 i := fun i => by
      by_cases z : i = 0
      · subst z
        show s 0 = s 0 * 1
        omega
      · rw [dj.up i (by omega)]
        show 0 = s 0 * (if i = 0 then 1 else 0)
        rw [if_neg z]; omega
    refine ⟨s 0, fun i => c * xp 0 i, 1, dj.top, (xp_fz 0).scale c, fun i => ?_⟩
    rw [cf_scale_l, cf_one, es, cf_congr sc (fun _ => rfl) i, cf_scale_l, cf_one]
theorem bt_fz {f : Nat → Int} : ∀ N, Fz f N → ∃ k, Bt k f
  | 0, h => ⟨0, fun i => by rw [h i (Nat.zero_le _)]; decide⟩
  | N + 1, h => by
    obtain ⟨k, hk⟩ := bt_fz (f := fun i => if i < N then f i else 0) N (fun i hi => if_neg (by omega))
    refine ⟨max k (f N).natAbs, fun i => ?_⟩
    by_cases c : i < N
    · have : (if i < N then f i else 0).natAbs < 2 ^ k := hk i
      rw [if_pos c] at this
      exact Nat.lt_of_lt_of_le this (Nat.pow_le_pow_right (by decide) (Nat.le_max_left _ _))
    · by_cases c2 : i = N
      · subst c2
        exact Nat.lt_of_lt_of_le Nat.lt_two_pow_self (Nat.pow_le_pow_right (by decide) (Nat.le_max_right _ _))
      · rw [h i (by omega)]
        exact Nat.pow_pos (by decide)
/-- any two have a greatest common divisor -/
theorem euc_ex {A B : Nat → Int} {a b : Nat} (dA : Dg A a) (dB : Dg B b) : ∃ e m, Euc A B e ∧ Dg e m := by
  obtain ⟨k, hk⟩ := bt_fz _ dA.up
  obtain ⟨l, hl⟩ := bt_fz _ dB.up
  obtain ⟨e, _, E, ⟨m, _, D⟩, _, _⟩ := euclid _ dA dB (Nat.le_refl _) hk hl
  exact ⟨e, m, E, D⟩
/-- of least degree: it divides a polynomial or has nothing in common with it -/
structure Irr (d : PS) (m : Nat) : Prop where
  dg : Dg d.f m
  m1 : 1 ≤ m
  min : ∀ e k, Dg e k → Dv e d.f → 1 ≤ k → m ≤ k
theorem Irr.two {d : PS} {m : Nat} (h : Irr d m) {a : PS} {N : Nat} (fa : Fz a.f N) : Dv d.f a.f ∨ ∃ (c : Int) (u v : PS) (M : Nat), c ≠ 0 ∧ Fz u.f M ∧ Fz v.f M ∧ pc c = u * d + v * a := by
  rcases zero_or_dg N fa with z | ⟨k, _, da⟩
  · exact .inl (Dv.zero z)
  · obtain ⟨e, n, E, D⟩ := euc_ex h.dg da
    by_cases n0 : n = 0
    · subst n0
      right
      obtain ⟨u, v, M, hu, hv, c⟩ := E.comb
      refine ⟨e 0, ⟨u⟩, ⟨v⟩, M, D.top, hu, hv, PS.ext (funext fun i => ?_)⟩
      show e 0 * xp 0 i = cf u d.f i + cf v a.f i
      rw [← c]
      by_cases z : i = 0
      · subst z
        show e 0 * 1 = e 0
        omega
      · rw [D.up i (by omega)]
        show e 0 * (if i = 0 then 1 else 0) = 0
        rw [if_neg z]; omega
    · left
      have mn := h.min e n D E.da (by omega)
      have nm := E.da.deg D h.dg
      have : n = m := by omega
      subst this
      exact (E.da.back D h.dg).trans E.db
/-- and so it is prime -/
theorem Irr.prime {d : PS} {m : Nat} (h : Irr d m) {a b : PS} {N M : Nat} (fa : Fz a.f N) (fb : Fz b.f M) (hd : Dv d.f (a * b).f) : Dv d.f a.f ∨ Dv d.f b.f := by
  rcases h.two fa with z | ⟨c, u, v, L, c0, fu, fv, e⟩
  · exact .inl z
  · right
    obtain ⟨k, s, K, k0, fs, es⟩ := hd.ps
    refine Dv.of_ps (c := k * c) (s := pc k * (u * b) + v * s) (N := max (1 + (L + M)) (L + K)) (Int.mul_ne_zero k0 c0) (ps_fz_add (ps_fz_mul (pc_fz k) (ps_fz_mul fu fb)) (ps_fz_mul fv fs)) ?_
    rw [pc_mul]
    grind
theorem dv_dg {f : Nat → Int} {n : Nat} (h : Dg f (n + 1)) : Dg (dv f) n := ⟨by
  show ((n : Int) + 1) * f (n + 1) ≠ 0
  exact Int.mul_ne_zero (by omega) h.top, dv_fz h.up⟩
/-- it does not divide its derivative -/
theorem Irr.slope {d : PS} {m : Nat} (h : Irr d m) : ¬ Dv d.f d.d.f := fun z => by
  obtain ⟨n, rfl⟩ : ∃ n, m = n + 1 := ⟨m - 1, by have := h.m1; omega⟩
  have := z.deg h.dg (dv_dg h.dg)
  omega
/-- its powers taken out -/
theorem Irr.split {d : PS} {m : Nat} (h : Irr d m) : ∀ (N : Nat) (g : PS), Fz g.f N → (∃ i, g.f i ≠ 0) → ∃ (c : Int) (j : Nat) (r : PS) (M : Nat), c ≠ 0 ∧ Fz r.f M ∧ pc c * g = d ^ j * r ∧ ¬ Dv d.f r.f := fun N => by
  induction N using Nat.strongRecOn with
  | ind N ih =>
    intro g fg ne
    by_cases c : Dv d.f g.f
    · obtain ⟨k, s, K, k0, fs, es⟩ := c.ps
      have gd : ∃ n, n < N ∧ Dg g.f n := by
        rcases zero_or_dg N fg with z | ⟨n, hn, D⟩
        · obtain ⟨i, hi⟩ := ne
          exact absurd (z i) hi
        · exact ⟨n, hn, D⟩
      obtain ⟨n, nN, D⟩ := gd
      have sd : ∃ t, Dg s.f t := by
        rcases zero_or_dg K fs with z | ⟨t, _, D2⟩
        · exfalso
          have y := congrFun (congrArg PS.f es) n
          have y2 : cf (cst k) g.f n = cf s.f d.f n := y
          rw [cst_cf, cf_zero_l z] at y2
          rcases Int.mul_eq_zero.mp y2 with y | y
          · exact k0 y
          · exact D.top y
        · exact ⟨t, D2⟩
      obtain ⟨t, D2⟩ := sd
      have dk : Dg (pc k * g).f n := by
        have := (pc_dg k0).cf D
        rw [Nat.zero_add] at this
        exact this
      rw [es] at dk
      have := (D2.cf h.dg).uniq dk
      have m1 := h.m1
      obtain ⟨c2, j, r, M, c20, fr, er, nr⟩ := ih (t + 1) (by omega) s D2.up ⟨t, D2.top⟩
      refine ⟨c2 * k, j + 1, r, M, Int.mul_ne_zero c20 k0, fr, ?_, nr⟩
      rw [pc_mul, ps_pw_succ]
      grind
    · exact ⟨1, 0, g, N, by decide, fg, by rw [ps_pw_zero]; rfl, c⟩
end CB

namespace CB
open PySem PySem.Spec PyProof.Rows L2
/-! ### enough primes -/
def noSmall (n : Nat) : Bool := (List.range 60).all fun q => decide (q < 2) || decide (n < q * q) || decide (n % q ≠ 0)
def prsL : List Nat := (List.range 3600).filter fun n => decide (53 ≤ n) && noSmall n
def prodL : List Nat → Nat
  | [] => 1
  | p :: r => p * prodL r
theorem Pr.dvd {p : Nat} (h : Pr p) (a b : Nat) (d : p ∣ a * b) : p ∣ a ∨ p ∣ b := by
  have z := h.mul (a : Int) (b : Int) (by rw [← Int.natCast_mul]; exact Int.natCast_dvd_natCast.mpr d)
  rcases z with z | z
  · exact .inl (Int.natCast_dvd_natCast.mp z)
  · exact .inr (Int.natCast_dvd_natCast.mp z)
end CB

namespace CB
open PySem PySem.Spec PyProof.Rows L2 PySem.W
/-! ### min(.., default=d) -/
section
variable {X : Cx}
def rMinD (K : PySem.W.Frag) : List V → List V → Hp → VK → Prop := fun vs zs H Q => ∃ (a : Addr) (ns : List Int) (d : Int), vs = [V.ref a] ∧ zs = [V.int d] ∧ SqL K H a (ns.map V.int) ∧ (ns = [] → Q (.int d) H) ∧ ∀ m, m ∈ ns → (∀ y, y ∈ ns → m ≤ y) → Q (.int m) H
end
end CB

namespace CB
open PySem PySem.Spec PyProof.Rows L2
/-! ### sizes of divisors by seventeen places -/
def pts8 : List Int := [-8, -7, -6, -5, -4, -3, -2, -1, 0, 1, 2, 3, 4, 5, 6, 7, 8]
end CB

namespace CB
open PySem PySem.Spec PyProof.Rows L2
/-! ### polynomials by their values; moved ones -/
theorem bounded (f : Nat → Int) : ∀ N, ∃ H : Nat, ∀ i, i < N → (f i).natAbs ≤ H
  | 0 => ⟨0, fun i hi => absurd hi (by omega)⟩
  | N + 1 => by
    obtain ⟨H, h⟩ := bounded f N
    refine ⟨max H (f N).natAbs, fun i hi => ?_⟩
    by_cases c : i = N
    · rw [c]; omega
    · have := h i (by omega); omega
theorem zero_of_values {f : Nat → Int} {N : Nat} (fz : Fz f N) (h : ∀ x : Int, e1 f x N = 0) : ∀ i, f i = 0 := by
  rcases zero_or_dg _ fz with z | ⟨m, ml, dg⟩
  · exact z
  · exfalso
    obtain ⟨H, hH⟩ := bounded f N
    have hH2 : ∀ i, (f i).natAbs ≤ H := fun i => by
      by_cases c : i < N
      · exact hH i c
      · rw [fz i (by omega)]; exact Nat.zero_le _
    have big := e1_big dg hH2 (X := 2 ^ 24 * H + 29) (Nat.le_refl _)
    have e : e1 f ((2 ^ 24 * H + 29 : Nat) : Int) (m + 1) = e1 f ((2 ^ 24 * H + 29 : Nat) : Int) N := (e1_more (fun i hi => dg.up i (by omega)) (by omega)).symm
    rw [e, h] at big
    have : (0 : Int).natAbs = 0 := rfl
    rw [this, Nat.mul_zero] at big
    exact absurd big (Nat.not_lt_zero _)
/-- two of finite length with the same values are the same -/
theorem ps_values {a b : PS} {N M : Nat} (fa : Fz a.f N) (fb : Fz b.f M) (h : ∀ x v, Ev a x v → Ev b x v) : a = b := by
  have z := zero_of_values (f := fun i => a.f i + (-1) * b.f i) (N := max N M) (fun i hi => by show a.f i + -1 * b.f i = 0; rw [fa i (by omega), fb i (by omega)]; rfl) fun x => by
    have e := e1_plus a.f (fun i => (-1) * b.f i) x (max N M)
    rw [e, e1_scale', e1_more (N := N) (fun i hi => fa i hi) (by omega), e1_more (N := M) (fun i hi => fb i hi) (by omega)]
    have := (h x _ (Ev.of fa x)).uniq (Ev.of fb x)
    omega
  refine PS.ext (funext fun i => ?_)
  have := z i
  omega
/-- b is a moved by s -/
def Mv (s : Int) (a b : PS) : Prop := ∀ x v, Ev a (x + s) v → Ev b x v
theorem Mv.mul {s : Int} {a b c d : PS} {N M : Nat} (fa : Fz a.f N) (fc : Fz c.f M) (h : Mv s a b) (k : Mv s c d) : Mv s (a * c) (b * d) := fun x v e => by
  have e1 := Ev.of fa (x + s)
  have e2 := Ev.of fc (x + s)
  rw [e.uniq (e1.mul e2)]
  exact (h x _ e1).mul (k x _ e2)
theorem Mv.pc {s : Int} (c : Int) : Mv s (pc c) (pc c) := fun x v e => by
  rw [e.uniq (Ev.pc c (x + s))]
  exact Ev.pc c x
theorem IsSh.mv {s : Int} {zs ks : List Int} (h : IsSh s zs ks) : Mv s (pl ks) (pl zs) := fun x v e => by
  rw [e.uniq (Ev.of (a := pl ks) (ff_fz ks) (x + s))]
  have z := Ev.of (a := pl zs) (ff_fz zs) x
  have w : e1 (pl zs).f x zs.length = e1 (pl ks).f (x + s) ks.length := by
    rw [h.len, ← e1_shV]
    exact e1_congr fun i _ => h.at_ i
  rw [w] at z
  exact z
/-- an equation of polynomials stays so when all are moved -/
theorem mv_eq {s : Int} {L R L' R' : PS} {N M K : Nat} (fL : Fz L.f N) (fL' : Fz L'.f M) (fR' : Fz R'.f K) (h : L = R) (mL : Mv s L L') (mR : Mv s R R') : L' = R' := ps_values fL' fR' fun x v e => by
  have z := Ev.of fL (x + s)
  rw [e.uniq (mL x _ z)]
  exact mR x _ (h ▸ z)
/-- the quotient of the moved parts is the moved quotient -/
theorem Qn.moved {s : Int} {X Y X' Y' : PS} {as bs zs ws es ts : List Int} {a b ε τ : Int} {n m : Nat} {N M K : Nat} (q : Qn X.f Y.f as a bs b) (mX : Mv s X X') (mY : Mv s Y Y') (hz : IsSh s zs as) (hw : IsSh s ws bs)
    (fX : Fz X.f n) (fY : Fz Y.f m) (fX' : Fz X'.f N) (fY' : Fz Y'.f M) (dw : Dg (pl ws).f K) (q0 : Qn (pc b * pl zs).f (pc a * pl ws).f es ε ts τ) : Qn X'.f Y'.f es ε ts τ := by
  have e : pc b * (pl zs * Y') = pc a * (X' * pl ws) := by
    refine mv_eq (s := s) (L := pc b * (pl as * Y)) (R := pc a * (X * pl bs)) ((cst_fz b).cf ((ff_fz as).cf fY)) ((cst_fz b).cf ((ff_fz zs).cf fY')) ((cst_fz a).cf (fX'.cf (ff_fz ws))) q.ps ?_ ?_
    · exact (Mv.pc b).mul (cst_fz b) ((ff_fz as).cf fY) (hz.mv.mul (ff_fz as) fY mY)
    · exact (Mv.pc a).mul (cst_fz a) (fX.cf (ff_fz bs)) (mX.mul fX (ff_fz bs) hw.mv)
  have dY : Dg (pc a * pl ws).f (0 + K) := (pc_dg q.a0).cf dw
  refine q0.move dY fY' fX' ?_
  grind
end CB

namespace CB
open PySem PySem.Spec PyProof.Rows L2
/-! ### super().__init__(..) in an own exception's __init__ -/
/-- the context of a def that closes over its class -/
def cxK (CX : CXT) (P : Program) (w : World) (K : PySem.W.Frag) (mg : Str → Option Value) (base : Heap) (N : List Str) (qual : Str) (scope : Scope) (f : Addr) (cd : Value) (cc : Addr) (A : Around) (outer : List Env) (s : Shared) (H : Hp) (E : XK) : Cx where
  prog := P
  w := w
  K := K
  mg := mg
  base := base
  A := A.deeper (PySem.W.ksEnv qual scope s.heap.objs.size f cd cc)
  N := N
  s_0 := s
  H_0 := H
  env := PySem.W.ksEnv qual scope s.heap.objs.size f cd cc
  outer := outer
  stack := PySem.W.ksEnv qual scope s.heap.objs.size f cd cc :: outer
  ex := []
  calm := true
  fn := fun _ => false
  pn := []
  xe := fun e s' => wpAny (model P w) (A.deeper (PySem.W.ksEnv qual scope s.heap.objs.size f cd cc)) (leaving (PySem.W.ksEnv qual scope s.heap.objs.size f cd cc) e) (fun _ s'' => CX outer H s E e s'') (fun e' s'' => CX outer H s E e' s'') s'
/-- what such a scope holds: self and one more -/
structure SupScope (x0 x1 : Str) (sc : Scope) : Prop where
  kind : sc.kind = .function
  co : sc.isCoroutine = false
  gen : sc.isGenerator = false
  ne : x0 ≠ x1
  l0 : sc.names.lookup x0 = some .local
  l1 : sc.names.lookup x1 = some .local
  nocell : ∀ y ∈ sc.names, y.2 ≠ .cell
  free : ∀ y ∈ sc.names, y.2 = .free → y.1 = "__class__"
  cls : sc.names.lookup ("__class__" : Str) = some .free
  sup : sc.names.lookup ("super" : Str) = some .globalImplicit
section
variable {CX : CXT} {P : Program} {w : World} {K : PySem.W.Frag} {mg : Str → Option Value} {base : Heap} {x0 x1 : Str} {qual : Str} {scope : Scope} {f : Addr} {cd : Value} {cc D : Addr} {A : Around} {outer : List Env} {s : Shared} {H : Hp} {E : XK} {us : List Value} {v0 v1 : V} {cl : Value} {cld : Option Addr} {csl : Array (Option Value)} {h0 : Heap} {tk : Nat}
end
section
open PySem.W PySem.Calls
variable {P : Program} {w : World} {A : Around} {E : Value → Shared → Prop} {h : Heap} {g : Array GenState} {d : Drawn} {t : Nat} {os : OsState}
end
section
open PySem.W PySem.Calls
variable {CX : CXT} {P : Program} {w : World} {K : PySem.W.Frag} {mg : Str → Option Value} {base : Heap} {x0 x1 : Str} {name qual : Str} {params : Arguments} {scope : Scope} {f cda : Addr} {cc C : Addr} {k : Nat} {sp : Sp}
  {dV kV doc pm ct oc ccl cl : Value} {an od cdd cld : Option Addr} {osl ccs csl : Array (Option Value)} {ar : Arg} {vs : Array Value} {file : Str} {tf : Tok} {cdC : ClassData} {msg : Expr} {rest : List Stmt} {p0 p1 p2 p4 p5 : Pos}
end
section
open PySem.W
/-- the class at C is an own exception over ValueError whose objects have a dict -/
def oexB (K : Frag) (C : Addr) : Bool := (match K.lookup C with
  | some ⟨.type "type", _, .cls cd, sl⟩ => (match cd.mro, sl.toList with
    | .ref C' :: bm, [_, _, _, _, some (.builtin n), _] => C' == C && n == "ValueError.__new__" && !cd.hasDel && cd.hasDict && PySem.HandSPX.refsVE bm
    | _, _ => false)
  | _ => false) && He.eqO (findIn K (.ref C) "__setattr__") (some (some (.builtin "object.__setattr__"))) && decide (subIn K (.ref C) (.type "BaseException") = some true) && decide (typeIn K (.ref C) = some (.type "type")) && keepIn K (.ref C)
abbrev FnS : Type := Option (Str × Str × Arguments × FuncBody × Scope × Addr × List Str × Addr)
/-- a def's datum without the addresses of its cells -/
def fnS (K : Frag) (a : Addr) : FnS := match K.lookup a with
  | some ⟨_, _, .func fd, _⟩ => some (fd.name, fd.qualname, fd.params, fd.body, fd.scope, fd.globals, fd.closure.map (·.1), fd.builtins)
  | _ => none
def _root_.CB.DefG.valS (d : DefG) : FnS := some (d.name, d.qual, d.params, FuncBody.stmts d.body, d.scope, mainGlobals, [("__class__" : Str)], builtinsNs)
def supB (K : Frag) (C f : Addr) (qual fl : Str) : Bool := oexB K C && keepIn K (.ref f) && He.eqO (findIn K (.ref C) "__init__") (some (some (.ref f))) && decide (typeIn K (.ref f) = some (.type "function")) &&
  decide (mroIn K C (.ref C) = some true) && He.eqO (nsIn K cStatics "thirdparty.any") (some none) && He.eqO (ks_superIn K C C "__init__") (some (some (.builtin "ValueError.__init__"))) && decide (subIn K (.ref C) (.type "ValueError") = some true) &&
  (match K.lookup f with
  | some ⟨_, _, .func fd, _⟩ => (match fd.closure, fd.code with
    | [(_, cc)], .ref cda => codeIn K (.ref cda) qual && decide (fd.defaults = .none) && (match K.lookup cc with | some ⟨_, _, .cell (some (.ref c)), _⟩ => c == C | _ => false) &&
      (match K.lookup cda with | some ⟨_, _, .fields vs, _⟩ => (match (vs[2]? : Option Value) with | some (.str file _) => fl == file | _ => false) | _ => false)
    | _, _ => false)
  | _ => false)
/-- what is known of such an __init__ -/
structure SupD (K : Frag) (C f : Addr) (name qual : Str) (params : Arguments) (body : List Stmt) (scope : Scope) (fl : Str) : Prop where
  T : OexC K C
  kp : keepIn K (.ref f) = true
  init : findIn K (.ref C) "__init__" = some (some (.ref f))
  ty : typeIn K (.ref f) = some (.type "function")
  mro : mroIn K C (.ref C) = some true
  opq : nsIn K cStatics "thirdparty.any" = some none
  sup : ks_superIn K C C "__init__" = some (some (.builtin "ValueError.__init__"))
  ve : subIn K (.ref C) (.type "ValueError") = some true
  ex : ∃ (oc : Value) (od : Option Addr) (kV doc pm : Value) (an : Option Addr) (cda : Addr) (ct : Value) (cc : Addr) (osl : Array (Option Value)), K.lookup f = some ⟨oc, od, .func (ksFn name qual params body scope .none kV doc pm an (.ref cda) ct cc), osl⟩ ∧ codeIn K (.ref cda) qual = true ∧
    (∃ cl cld csl, K.lookup cc = some ⟨cl, cld, .cell (some (.ref C)), csl⟩) ∧ ∃ ccl cdd vs ccs file tf, K.lookup cda = some ⟨ccl, cdd, .fields vs, ccs⟩ ∧ vs[2]? = some (.str file tf) ∧ fl = file
end
/-- such an __init__(self, x): it keeps x as its field -/
def spExI (K : PySem.W.Frag) (C : Addr) (fld : Str) : Sp := fun vs H Q _ => ∃ (a : Addr) (v : V), vs = [.ref a, v] ∧ H a = some (exo a C none) ∧ ∀ dx, H dx = none → dx ≠ a → Q .non (upd (upd H dx (exd dx [(fld, v)])) a (exo a C (some dx)))
section
variable {P : Program} {w : World} {K : PySem.W.Frag} {mg : Str → Option Value} {base : Heap} {x0 x1 : Str} {name qual : Str} {params : Arguments} {scope : Scope} {body : List Stmt} {f C : Addr} {k : Nat} {ar : Arg} {fl fld text : Str} {j : Nat} {p0 p1 p2 p3 p4 p5 p6 p7 p8 p9 : Pos}
end
/-- isinstance(e, c), e the exception that the suite holds, with a field -/
def rIsED (K : PySem.W.Frag) (D a : Addr) (cls : Value) (d : Option Addr) : List V → Hp → VK → Prop := fun xs H Q => ∃ (c : V) (cv : Value) (b : Bool) (dx : Addr) (fs : List (Str × V)), xs = [.ref a, c] ∧ (∀ u, RelV c u → u = cv) ∧ PySem.W.kitOne K (.ref D) cv = some b ∧ cls = .ref D ∧ d = some dx ∧ H dx = some (.xd fs) ∧ Q (.bl b) H
/-- what such an __init__ asks of the program -/
structure SupP (P : Program) : Prop where
  file : P.main.file = "/claim/cut.py"
  top : (P.main.scope.names.lookup ("super" : Str)).isSome = false
/-- the defs that close over their class, as they are seen -/
def SupSays (sup : List DefG) (K : PySem.W.Frag) : Prop := sup.map (fun d => fnS K (d.at_ K)) = sup.map DefG.valS
theorem SupSays.at_ {sup : List DefG} {K : PySem.W.Frag} (c : SupSays sup K) (i : Nat) {d : DefG} (h : sup[i]? = some d := by rfl) : fnS K (d.at_ K) = d.valS := by
  have e : (sup.map fun d => fnS K (d.at_ K))[i]? = (sup.map DefG.valS)[i]? := by rw [show sup.map (fun d => fnS K (d.at_ K)) = sup.map DefG.valS from c]
  rw [List.getElem?_map, List.getElem?_map, h] at e
  exact Option.some.inj e
end CB

namespace CB
open PySem PySem.Spec PyProof.Rows L2
/-! ### calls of own defs in an except suite -/
/-- what a def promises to a caller in an except suite -/
def OkH (P : Program) (w : World) (K : PySem.W.Frag) (mg : Str → Option Value) (base : Heap) (k : Nat) (a : Addr) (ps : List Str) (sp : Sp) : Prop :=
  ∃ fd : FuncData, L2H.FnH P w K mg base (L2.CX P w) k a fd ps sp ∧ Binds K fd ps [] ∧ PySem.W.keepIn K (.ref a) = true
/-- a def that raises, its exceptions without a context -/
def OkN (P : Program) (w : World) (K : PySem.W.Frag) (mg : Str → Option Value) (base : Heap) (k : Nat) (a : Addr) (ps : List Str) (sp : Sp) : Prop :=
  ∃ fd : FuncData, FnOk P w K mg base (L2N.CX P w) k a fd ps sp ∧ Binds K fd ps [] ∧ PySem.W.keepIn K (.ref a) = true
section
variable {X : Cx} {e : Expr} {es : List Expr} {ta : TA} {p pos : Pos}
end
end CB

namespace CB
open PySem PySem.Spec PyProof.Rows L2
/-! ### terms: products of the ratio's values -/
theorem evLp (z : Int) (us : List Int) : Ev (pl us) z (evL z us) := by
  rw [evL_e1 z us us.length (Nat.le_refl _)]
  exact Ev.of (a := pl us) (ff_fz us) z
/-- the one form of a quotient, by values -/
theorem Qn.ev {xs ys as bs : List Int} {a b : Int} (q : Qn (ff xs) (ff ys) as a bs b) (z : Int) : b * (evL z as * evL z ys) = a * (evL z xs * evL z bs) := by
  have e : pc b * (pl as * pl ys) = pc a * (pl xs * pl bs) := PS.ext q.eq
  have h1 := (Ev.pc b z).mul ((evLp z as).mul (evLp z ys))
  rw [e] at h1
  exact h1.uniq ((Ev.pc a z).mul ((evLp z xs).mul (evLp z bs)))
theorem dv_root {as xs : List Int} {z : Int} (h : Dv (ff as) (ff xs)) (r : evL z as = 0) : evL z xs = 0 := by
  obtain ⟨m, s, N, m0, fs, e⟩ := h
  have e2 : pc m * pl xs = (⟨s⟩ : PS) * pl as := PS.ext (funext fun i => by
    show cf (cst m) (ff xs) i = cf s (ff as) i
    rw [cst_cf]
    exact e i)
  have h1 := (Ev.pc m z).mul (evLp z xs)
  rw [e2] at h1
  have h2 := h1.uniq ((Ev.of (a := (⟨s⟩ : PS)) (N := N) fs z).mul (evLp z as))
  rw [r, Int.mul_zero] at h2
  exact (Int.mul_eq_zero.mp h2).resolve_left m0
theorem Qn.nz {xs ys as bs : List Int} {a b : Int} (q : Qn (ff xs) (ff ys) as a bs b) {z : Int} (hx : evL z xs ≠ 0) (hy : evL z ys ≠ 0) : evL z as ≠ 0 ∧ evL z bs ≠ 0 :=
  ⟨fun r => hx (dv_root (q.as_dv (ff_fz xs) (ff_fz ys)) r), fun r => hy (dv_root (q.bs_dv (ff_fz xs) (ff_fz ys)) r)⟩
/-- the pairs of a ratio at s, s + 1, .. -/
def stL (as : List Int) (a : Int) (bs : List Int) (b s : Int) : Nat → List (Int × Int)
  | 0 => []
  | n + 1 => stL as a bs b s n ++ [(evL (s + n) as * b, evL (s + n) bs * a)]
def prA : List (Int × Int) → Int
  | [] => 1
  | p :: r => p.1 * prA r
def prB : List (Int × Int) → Int
  | [] => 1
  | p :: r => p.2 * prB r
/-- the sizes of pairs -/
structure StB (S : Nat) (ps : List (Int × Int)) : Prop where
  a : ∀ p ∈ ps, p.1.natAbs < 2 ^ S
  b : ∀ p ∈ ps, p.2.natAbs < 2 ^ S
theorem StB.take {S n : Nat} {ps : List (Int × Int)} (h : StB S ps) : StB S (ps.take n) := ⟨fun p hp => h.a p (List.mem_of_mem_take hp), fun p hp => h.b p (List.mem_of_mem_take hp)⟩
theorem StB.drop {S n : Nat} {ps : List (Int × Int)} (h : StB S ps) : StB S (ps.drop n) := ⟨fun p hp => h.a p (List.mem_of_mem_drop hp), fun p hp => h.b p (List.mem_of_mem_drop hp)⟩
/-- the product of the values at s, .., s + n - 1 -/
def prV (xs : List Int) (s : Int) : Nat → Int
  | 0 => 1
  | n + 1 => prV xs s n * evL (s + n) xs
/-- the sum of the first products, over the product of the second parts -/
def prT : List (Int × Int) → Int
  | [] => 0
  | p :: r => p.2 * prB r + p.1 * prT r
/-! ### lists of pairs -/
abbrev prS (p : Int × Int) : HO := .tup [.int p.1, .int p.2]
structure StL (H : Hp) (xs : List V) (ps : List (Int × Int)) : Prop where
  len : xs.length = ps.length
  at_ : ∀ (i : Nat) (p : Int × Int), ps[i]? = some p → ∃ a, xs[i]? = some (.ref a) ∧ H a = some (prS p)
theorem StL.mono {H H' : Hp} {xs : List V} {ps : List (Int × Int)} (f : StL H xs ps) (sm : Same H H') : StL H' xs ps :=
  ⟨f.len, fun i q h => by obtain ⟨a, e, h2⟩ := f.at_ i q h; exact ⟨a, e, sm _ _ h2⟩⟩
theorem StL.nil {H : Hp} : StL H [] [] := ⟨rfl, fun i q h => by simp at h⟩
theorem StL.upd {H : Hp} {xs : List V} {ps : List (Int × Int)} {D : Addr} {ys : List V} {o : HO} (f : StL H xs ps) (h : H D = some (.lst ys)) : StL (upd H D o) xs ps :=
  ⟨f.len, fun i q e => by
    obtain ⟨a, e1, e2⟩ := f.at_ i q e
    have ne : a ≠ D := fun z => by rw [z, h] at e2; cases e2
    exact ⟨a, e1, by rw [upd_ne ne]; exact e2⟩⟩
theorem StL.take {H : Hp} {xs : List V} {ps : List (Int × Int)} {n : Nat} (f : StL H xs ps) : StL H (xs.take n) (ps.take n) := by
  refine ⟨by rw [List.length_take, List.length_take, f.len], fun i p h => ?_⟩
  rw [List.getElem?_take] at h ⊢
  split at h
  · rename_i c
    rw [if_pos c]
    exact f.at_ i p h
  · cases h
theorem StL.drop {H : Hp} {xs : List V} {ps : List (Int × Int)} {n : Nat} (f : StL H xs ps) : StL H (xs.drop n) (ps.drop n) := by
  refine ⟨by rw [List.length_drop, List.length_drop, f.len], fun i p h => ?_⟩
  rw [List.getElem?_drop] at h ⊢
  exact f.at_ _ p h
end CB

namespace CB
open PySem PySem.Spec PyProof.Rows L2
/-! ### sizes of the one form up to degree 8 -/
/-- the sizes of the one form; LX, LY: bounds of the leading coefficients -/
structure Qs8 (N M HX HY LX LY : Nat) (as : List Int) (a : Int) (bs : List Int) (b : Int) : Prop where
  la : as.length ≤ N + 1
  lb : bs.length ≤ M + 1
  ba : ∀ i, (as.getD i 0).natAbs ≤ LX * (HX * sg 8 (N + 1) * 18 ^ N)
  bb : ∀ i, (bs.getD i 0).natAbs ≤ HY * sg 8 (M + 1) * 18 ^ M
  ga : a.natAbs ≤ max 1 (HX * sg 8 (N + 1) * 18 ^ N * LY)
  gb : b.natAbs ≤ HY * sg 8 (M + 1) * 18 ^ M
end CB

namespace CB
open PySem PySem.Spec PyProof.Rows L2
/-! ### a divisor's coefficients, by the weighted squares: k! c_k ^ 2 -/
def xv : PS := ⟨xp 1⟩
theorem xv_at (f : PS) (k : Nat) : (xv * f).f k = if 1 ≤ k then f.f (k - 1) else 0 := cf_xp f.f 1 k
theorem xv_d : xv.d = 1 := PS.ext (funext fun i => by
  show ((i : Int) + 1) * xp 1 (i + 1) = 1 * xp 0 i
  unfold xp
  by_cases c : i = 0
  · subst c; rfl
  · rw [if_neg (by omega), if_neg c, Int.mul_zero, Int.mul_zero])
/-- the derivatives over a!, of the polynomial with these coefficients -/
def hE : List Int → Nat → PS
  | [], _ => 0
  | c :: r, 0 => pc c + xv * hE r 0
  | c :: r, a + 1 => xv * hE r (a + 1) + hE r a
/-- .. as operators, the derivative in the variable's place -/
def hD : List Int → Nat → PS → PS
  | [], _, _ => 0
  | c :: r, 0, f => pc c * f + (hD r 0 f).d
  | c :: r, a + 1, f => (hD r (a + 1) f).d + hD r a f
theorem zero_d : (0 : PS).d = 0 := PS.d_pc 0
theorem pc_succ (a : Nat) : pc ((a : Int) + 1) = pc a + 1 := pc_add _ _
theorem hE_d : ∀ (P : List Int) (a : Nat), (hE P a).d = pc ((a : Int) + 1) * hE P (a + 1)
  | [], a => by show (0 : PS).d = _ * 0; rw [zero_d]; grind
  | c :: r, 0 => by
    show (pc c + xv * hE r 0).d = pc (((0 : Nat) : Int) + 1) * (xv * hE r (0 + 1) + hE r 0)
    rw [PS.d_add, PS.d_pc, PS.d_mul, xv_d, hE_d r 0]
    have : pc (((0 : Nat) : Int) + 1) = 1 := rfl
    rw [this]
    grind
  | c :: r, a + 1 => by
    show (xv * hE r (a + 1) + hE r a).d = pc (((a + 1 : Nat) : Int) + 1) * (xv * hE r (a + 1 + 1) + hE r (a + 1))
    rw [PS.d_add, PS.d_mul, xv_d, hE_d r (a + 1), hE_d r a, pc_succ (a + 1)]
    have : pc ((a : Int) + 1) = pc ((a + 1 : Nat) : Int) := rfl
    rw [this]
    grind
theorem hD_d : ∀ (P : List Int) (a : Nat) (f : PS), (hD P a f).d = hD P a f.d
  | [], _, _ => zero_d
  | c :: r, 0, f => by
    show (pc c * f + (hD r 0 f).d).d = pc c * f.d + (hD r 0 f.d).d
    rw [PS.d_add, PS.d_mul, PS.d_pc, hD_d r 0 f]
    grind
  | c :: r, a + 1, f => by
    show ((hD r (a + 1) f).d + hD r a f).d = (hD r (a + 1) f.d).d + hD r a f.d
    rw [PS.d_add, hD_d r (a + 1) f, hD_d r a f]
theorem hD_big : ∀ (P : List Int) (a : Nat) (f : PS), P.length ≤ a → hD P a f = 0
  | [], _, _, _ => rfl
  | c :: r, 0, f, h => by cases h
  | c :: r, a + 1, f, h => by
    show (hD r (a + 1) f).d + hD r a f = 0
    have h2 : r.length ≤ a := Nat.le_of_succ_le_succ h
    rw [hD_big r (a + 1) f (by omega), hD_big r a f h2, zero_d]
    grind
theorem hD_top : ∀ (P : List Int) (m : Nat) (f : PS), P.length = m + 1 → hD P m f = pc (P.getD m 0) * f
  | [], _, _, h => by cases h
  | [c], 0, f, _ => by
    show pc c * f + (0 : PS).d = pc c * f
    rw [zero_d]
    grind
  | c :: x :: r, 0, f, h => by cases h
  | c :: r, m + 1, f, h => by
    have h2 : r.length = m + 1 := Nat.succ.inj h
    show (hD r (m + 1) f).d + hD r m f = pc (r.getD m 0) * f
    rw [hD_big r (m + 1) f (by omega), hD_top r m f h2, zero_d]
    grind
def fa : Nat → Int
  | 0 => 1
  | n + 1 => ((n : Int) + 1) * fa n
theorem fa_pos : ∀ n, 1 ≤ fa n
  | 0 => by decide
  | n + 1 => by
    have h := fa_pos n
    show 1 ≤ ((n : Int) + 1) * fa n
    have : 1 * fa n ≤ ((n : Int) + 1) * fa n := Int.mul_le_mul_of_nonneg_right (by omega) (by omega)
    omega
def psS (F : Nat → PS) : Nat → PS
  | 0 => 0
  | n + 1 => psS F n + F n
theorem psS_congr {F G : Nat → PS} : ∀ n, (∀ i, i < n → F i = G i) → psS F n = psS G n
  | 0, _ => rfl
  | n + 1, h => by
    show psS F n + F n = psS G n + G n
    rw [psS_congr n fun i hi => h i (by omega), h n (by omega)]
theorem psS_add (F G : Nat → PS) : ∀ n, psS (fun i => F i + G i) n = psS F n + psS G n
  | 0 => by show (0 : PS) = 0 + 0; grind
  | n + 1 => by
    show psS (fun i => F i + G i) n + (F n + G n) = psS F n + F n + (psS G n + G n)
    rw [psS_add F G n]
    grind
theorem psS_first (F : Nat → PS) : ∀ n, psS F (n + 1) = F 0 + psS (fun i => F (i + 1)) n
  | 0 => by show (0 : PS) + F 0 = F 0 + 0; grind
  | n + 1 => by
    show psS F (n + 1) + F (n + 1) = F 0 + (psS (fun i => F (i + 1)) n + F (n + 1))
    rw [psS_first F n]
    grind
theorem psS_d (F : Nat → PS) : ∀ n, (psS F n).d = psS (fun i => (F i).d) n
  | 0 => zero_d
  | n + 1 => by
    show (psS F n + F n).d = psS (fun i => (F i).d) n + (F n).d
    rw [PS.d_add, psS_d F n]
/-- the operator of a product -/
theorem hD_mul (R : List Int) (f : PS) : ∀ (P : List Int) (K : Nat), P.length ≤ K → hD P 0 (hE R 0 * f) = psS (fun a => pc (fa a) * (hE R a * hD P a f)) K
  | [], K, _ => by
    have z : ∀ n, psS (fun a => pc (fa a) * (hE R a * hD [] a f)) n = 0 := fun n => by
      induction n with
      | zero => rfl
      | succ n ih =>
        show psS (fun a => pc (fa a) * (hE R a * hD [] a f)) n + pc (fa n) * (hE R n * 0) = 0
        rw [ih]
        grind
    rw [z]
    rfl
  | c :: r, 0, h => by cases h
  | c :: r, K + 1, h => by
    have hr : r.length ≤ K := Nat.le_of_succ_le_succ h
    have ih := hD_mul R f r K hr
    show pc c * (hE R 0 * f) + (hD r 0 (hE R 0 * f)).d = _
    rw [ih, psS_d, psS_first]
    have e1 : psS (fun i => (pc (fa i) * (hE R i * hD r i f)).d) K = psS (fun i => pc (fa (i + 1)) * (hE R (i + 1) * hD r i f) + pc (fa i) * (hE R i * (hD r i f).d)) K := psS_congr K fun i _ => by
      rw [PS.d_mul, PS.d_pc, PS.d_mul, hE_d]
      have : pc (fa (i + 1)) = pc ((i : Int) + 1) * pc (fa i) := pc_mul _ _
      rw [this]
      grind
    have e2 : psS (fun i => pc (fa (i + 1)) * (hE R (i + 1) * hD (c :: r) (i + 1) f)) K = psS (fun i => pc (fa (i + 1)) * (hE R (i + 1) * hD r i f) + pc (fa (i + 1)) * (hE R (i + 1) * (hD r (i + 1) f).d)) K := psS_congr K fun i _ => by
      show pc (fa (i + 1)) * (hE R (i + 1) * ((hD r (i + 1) f).d + hD r i f)) = _
      grind
    rw [e1, e2, psS_add, psS_add]
    -- the shifted sums
    have e3 := psS_first (fun i => pc (fa i) * (hE R i * (hD r i f).d)) K
    have e4 : psS (fun i => pc (fa i) * (hE R i * (hD r i f).d)) (K + 1) = psS (fun i => pc (fa i) * (hE R i * (hD r i f).d)) K := by
      show psS (fun i => pc (fa i) * (hE R i * (hD r i f).d)) K + pc (fa K) * (hE R K * (hD r K f).d) = _
      rw [hD_big r K f hr, zero_d]
      grind
    rw [e4] at e3
    rw [e3]
    show _ = pc (fa 0) * (hE R 0 * (pc c * f + (hD r 0 f).d)) + _
    have f0 : pc (fa 0) = 1 := rfl
    rw [f0]
    grind
/-- the weighted product -/
def ip (f g : PS) (N : Nat) : Int := sumTo (fun k => fa k * (f.f k * g.f k)) N
theorem ip_comm (f g : PS) (N : Nat) : ip f g N = ip g f N := sumTo_congr N fun i _ => by rw [Int.mul_comm (f.f i)]
theorem ip_add (f g h : PS) (N : Nat) : ip f (g + h) N = ip f g N + ip f h N := by
  unfold ip
  rw [← sumTo_add]
  exact sumTo_congr N fun i _ => by
    show fa i * (f.f i * (g.f i + h.f i)) = _
    grind
theorem ip_pc (f g : PS) (c : Int) (N : Nat) : ip f (pc c * g) N = c * ip f g N := by
  unfold ip
  rw [← sumTo_mul]
  exact sumTo_congr N fun i _ => by
    show fa i * (f.f i * cf (cst c) g.f i) = _
    rw [cst_cf]
    grind
theorem ip_zero (f : PS) (N : Nat) : ip f 0 N = 0 := sumTo_zero N fun i _ => by rw [ps_zero_f, Int.mul_zero, Int.mul_zero]
theorem d_fz {f : PS} {N : Nat} (h : Fz f.f N) : Fz f.d.f N := fun i hi => by
  show ((i : Int) + 1) * f.f (i + 1) = 0
  rw [h (i + 1) (by omega), Int.mul_zero]
theorem ip_x {f : PS} (g : PS) {N : Nat} (h : Fz f.f N) : ip f (xv * g) N = ip f.d g N := by
  cases N with
  | zero => rfl
  | succ M =>
    unfold ip
    rw [sumTo_first]
    show fa 0 * (f.f 0 * (xv * g).f 0) + _ = sumTo (fun k => fa k * (f.d.f k * g.f k)) M + fa M * (f.d.f M * g.f M)
    have z : f.d.f M = 0 := by show ((M : Int) + 1) * f.f (M + 1) = 0; rw [h (M + 1) (Nat.le_refl _), Int.mul_zero]
    rw [z, xv_at, if_neg (by decide), Int.zero_mul, Int.mul_zero, Int.mul_zero, Int.mul_zero, Int.zero_add, Int.add_zero]
    refine sumTo_congr M fun i _ => ?_
    rw [xv_at, if_pos (by omega), Nat.add_sub_cancel]
    show ((i : Int) + 1) * fa i * (f.f (i + 1) * g.f i) = fa i * (((i : Int) + 1) * f.f (i + 1) * g.f i)
    grind
theorem ip_adj : ∀ (P : List Int) (a : Nat) (f g : PS) (N : Nat), Fz f.f N → ip f (hE P a * g) N = ip (hD P a f) g N
  | [], a, f, g, N, _ => by
    show ip f (0 * g) N = ip 0 g N
    rw [ps_zero_mul, ip_zero, ip_comm, ip_zero]
  | c :: r, 0, f, g, N, h => by
    show ip f ((pc c + xv * hE r 0) * g) N = ip (pc c * f + (hD r 0 f).d) g N
    have e : (pc c + xv * hE r 0) * g = pc c * g + xv * (hE r 0 * g) := by grind
    rw [e, ip_add, ip_pc, ip_x _ h, ip_adj r 0 f.d g N (d_fz h), ip_comm (pc c * f + (hD r 0 f).d), ip_add, ip_pc, ip_comm g f, hD_d, ip_comm g]
  | c :: r, a + 1, f, g, N, h => by
    show ip f ((xv * hE r (a + 1) + hE r a) * g) N = ip ((hD r (a + 1) f).d + hD r a f) g N
    have e : (xv * hE r (a + 1) + hE r a) * g = xv * (hE r (a + 1) * g) + hE r a * g := by grind
    rw [e, ip_add, ip_x _ h, ip_adj r (a + 1) f.d g N (d_fz h), ip_adj r a f g N h, ip_comm _ g, ip_comm (hD r a f) g, ip_comm (_ + _) g, ip_add, hD_d]
theorem ip_psS (f : PS) (F : Nat → PS) (N : Nat) : ∀ n, ip f (psS F n) N = sumTo (fun a => ip f (F a) N) n
  | 0 => ip_zero f N
  | n + 1 => by
    show ip f (psS F n + F n) N = sumTo (fun a => ip f (F a) N) n + ip f (F n) N
    rw [ip_add, ip_psS f F N n]
theorem ip_nn (f : PS) (N : Nat) : 0 ≤ ip f f N := sumTo_nn N fun i _ => by
  have h := fa_pos i
  have : 0 ≤ f.f i * f.f i := (Int.le_total 0 (f.f i)).elim (fun h => Int.mul_nonneg h h) (fun h => Int.mul_nonneg_of_nonpos_of_nonpos h h)
  exact Int.mul_nonneg (by omega) this
theorem sumTo_ge {F : Nat → Int} {k : Nat} : ∀ n, k < n → (∀ i, i < n → 0 ≤ F i) → F k ≤ sumTo F n
  | 0, h, _ => by cases h
  | n + 1, h, p => by
    show F k ≤ sumTo F n + F n
    have q := p n (by omega)
    by_cases c : k = n
    · subst c
      have := sumTo_nn (F := F) k fun i hi => p i (by omega)
      omega
    · have := sumTo_ge (F := F) (k := k) n (by omega) fun i hi => p i (by omega)
      omega
/-- the weighted square of a product -/
theorem ip_mul (P : List Int) (m : Nat) (hP : P.length = m + 1) (f : PS) {N : Nat} (hf : Fz f.f N) (hR : Fz (hE P 0 * f).f N) : fa m * (P.getD m 0 * P.getD m 0) * ip f f N ≤ ip (hE P 0 * f) (hE P 0 * f) N := by
  rw [ip_adj P 0 _ f N hR, hD_mul P f P (m + 1) (by omega), ip_comm (psS _ _) f, ip_psS]
  have e : ∀ a, ip f (pc (fa a) * (hE P a * hD P a f)) N = fa a * ip (hD P a f) (hD P a f) N := fun a => by rw [ip_pc, ip_adj P a f _ N hf]
  rw [sumTo_congr (m + 1) fun a _ => e a]
  refine Int.le_trans (Int.le_of_eq ?_) (sumTo_ge (k := m) (m + 1) (by omega) fun a _ => Int.mul_nonneg (by have := fa_pos a; omega) (ip_nn _ N))
  rw [hD_top P m f hP, ip_pc, ip_comm (pc _ * f) f, ip_pc]
  grind
theorem hE_pl : ∀ P : List Int, hE P 0 = pl P
  | [] => PS.ext (funext fun i => by show (0 : PS).f i = _; rw [ps_zero_f]; rfl)
  | c :: r => PS.ext (funext fun i => by
    show cst c i + (xv * hE r 0).f i = (c :: r).getD i 0
    rw [xv_at, hE_pl r]
    unfold cst
    cases i with
    | zero => rw [if_neg (by decide)]; show c * xp 0 0 + 0 = c; rw [show xp 0 0 = 1 from rfl]; omega
    | succ i =>
      rw [if_pos (by omega), Nat.add_sub_cancel]
      show c * xp 0 (i + 1) + r.getD i 0 = r.getD i 0
      rw [show xp 0 (i + 1) = 0 from if_neg (by omega), Int.mul_zero, Int.zero_add])
/-- the sum of the factorials -/
def sf (n : Nat) : Int := sumTo fa n
/-- a divisor's coefficient, the cofactor's degree m -/
theorem fis {F S A : Nat → Int} {m n H N : Nat} (dF : Dg F m) (fS : Fz S N) (dA : Fz A (n + 1)) (hH : ∀ i, (A i).natAbs ≤ H) (e : ∀ i, A i = cf F S i) (j : Nat) : fa m * fa j * (S j * S j) ≤ H * H * sf (n + 1) := by
  obtain ⟨P, hP⟩ : ∃ P : List Int, P = (List.range (m + 1)).map F := ⟨_, rfl⟩
  have Pl : P.length = m + 1 := by rw [hP, List.length_map, List.length_range]
  have Pf : pl P = ⟨F⟩ := PS.ext (funext fun i => by
    show P.getD i 0 = F i
    rw [hP, List.getD_eq_getElem?_getD, List.getElem?_map]
    by_cases c : i < m + 1
    · rw [List.getElem?_range c]; rfl
    · rw [List.getElem?_eq_none (by rw [List.length_range]; omega), dF.up i (by omega)]; rfl)
  obtain ⟨M, hM⟩ : ∃ M, M = max (max N (n + 1)) (j + 1) := ⟨_, rfl⟩
  have fm : P.getD m 0 = F m := congrFun (congrArg PS.f Pf) m
  have eA : hE P 0 * ⟨S⟩ = ⟨A⟩ := PS.ext (funext fun i => by
    rw [hE_pl, Pf]
    exact (e i).symm)
  have z := ip_mul P m Pl ⟨S⟩ (N := M) (fS.mono (by omega)) (by rw [eA]; exact dA.mono (by omega))
  rw [eA, fm] at z
  have t1 := dF.top
  have sq : 1 ≤ F m * F m := by
    have h := Int.natAbs_mul_self' (F m)
    have h1 : 1 * 1 ≤ (F m).natAbs * (F m).natAbs := Nat.mul_le_mul (by omega) (by omega)
    have h2 : (((F m).natAbs * (F m).natAbs : Nat) : Int) = ((F m).natAbs : Int) * (F m).natAbs := Int.natCast_mul _ _
    omega
  have up : ip ⟨A⟩ ⟨A⟩ M ≤ H * H * sf (n + 1) := by
    have e1 : ip ⟨A⟩ ⟨A⟩ M = ip ⟨A⟩ ⟨A⟩ (n + 1) := by
      obtain ⟨k, hk⟩ : ∃ k, M = n + 1 + k := ⟨M - (n + 1), by omega⟩
      rw [hk]
      exact sumTo_more (fun i hi => by show fa i * (A i * A i) = 0; rw [dA i hi, Int.mul_zero, Int.mul_zero]) k
    rw [e1]
    unfold ip sf
    rw [← sumTo_mul]
    have le : ∀ n, sumTo (fun k => fa k * (A k * A k)) n ≤ sumTo (fun k => (H : Int) * H * fa k) n := fun n => by
      induction n with
      | zero => exact Int.le_refl _
      | succ n ih =>
        have h1 := hH n
        have h2 : A n * A n ≤ (H : Int) * H := by
          have : (A n * A n).natAbs ≤ H * H := by rw [Int.natAbs_mul]; exact Nat.mul_le_mul h1 h1
          have e3 : ((H * H : Nat) : Int) = (H : Int) * H := Int.natCast_mul _ _
          omega
        have p := fa_pos n
        have h3 := Int.mul_le_mul_of_nonneg_left h2 (show 0 ≤ fa n by omega)
        show sumTo (fun k => fa k * (A k * A k)) n + fa n * (A n * A n) ≤ sumTo (fun k => (H : Int) * H * fa k) n + (H : Int) * H * fa n
        rw [Int.mul_comm _ (fa n)]
        omega
    exact le (n + 1)
  have low : fa j * (S j * S j) ≤ ip ⟨S⟩ ⟨S⟩ M := sumTo_ge (F := fun k => fa k * (S k * S k)) M (by omega) fun i _ => by
    have h := fa_pos i
    have : 0 ≤ S i * S i := (Int.le_total 0 (S i)).elim (fun h => Int.mul_nonneg h h) (fun h => Int.mul_nonneg_of_nonpos_of_nonpos h h)
    exact Int.mul_nonneg (by omega) this
  have fm1 := fa_pos m
  have nn := ip_nn ⟨S⟩ M
  have s1 : fa m * (fa j * (S j * S j)) ≤ fa m * ip ⟨S⟩ ⟨S⟩ M := Int.mul_le_mul_of_nonneg_left low (by omega)
  have s2 : fa m * 1 * ip ⟨S⟩ ⟨S⟩ M ≤ fa m * (F m * F m) * ip ⟨S⟩ ⟨S⟩ M := Int.mul_le_mul_of_nonneg_right (Int.mul_le_mul_of_nonneg_left sq (by omega)) nn
  rw [Int.mul_one] at s2
  rw [Int.mul_assoc (fa m)]
  omega
end CB

namespace CB
open PySem PySem.Spec PyProof.Rows L2
theorem sf_mono {n m : Nat} (h : n ≤ m) : sf n ≤ sf m := by
  induction h with
  | refl => exact Int.le_refl _
  | step _ ih => exact Int.le_trans ih (by show sf _ ≤ sf _ + fa _; have := fa_pos ‹_›; omega)
theorem sq_le {x : Int} {C : Nat} (h : x * x ≤ (C : Int) * C) : x.natAbs ≤ C := by
  refine Decidable.byContradiction fun z => ?_
  have h1 := Int.natAbs_mul_self' x
  have h2 : (C + 1) * (C + 1) ≤ x.natAbs * x.natAbs := Nat.mul_le_mul (by omega) (by omega)
  have h3 : ((x.natAbs * x.natAbs : Nat) : Int) = (x.natAbs : Int) * x.natAbs := Int.natCast_mul _ _
  have h4 : ((C * C : Nat) : Int) = (C : Int) * C := Int.natCast_mul _ _
  have h5 : (C + 1) * (C + 1) = C * C + 2 * C + 1 := by grind
  omega
/-- a factor's coefficients, by a number whose square passes the sum of the factorials -/
theorem facF_le {F S A : Nat → Int} {m n H N c : Nat} (dF : Dg F m) (fS : Fz S N) (dA : Fz A (n + 1)) (hH : ∀ i, (A i).natAbs ≤ H) (e : ∀ i, A i = cf F S i) (hc : sf (n + 1) ≤ (c : Int) * c) (j : Nat) : (S j).natAbs ≤ H * c := by
  have z := fis dF fS dA hH e j
  have f1 := fa_pos m
  have f2 := fa_pos j
  have sq : 0 ≤ S j * S j := (Int.le_total 0 (S j)).elim (fun h => Int.mul_nonneg h h) (fun h => Int.mul_nonneg_of_nonpos_of_nonpos h h)
  have g1 : 1 * 1 ≤ fa m * fa j := Int.le_trans (Int.mul_le_mul_of_nonneg_left f2 (by decide)) (Int.mul_le_mul_of_nonneg_right f1 (by omega))
  have g2 : 1 * (S j * S j) ≤ fa m * fa j * (S j * S j) := Int.mul_le_mul_of_nonneg_right (by omega) sq
  have hh : 0 ≤ (H : Int) * H := Int.mul_nonneg (by omega) (by omega)
  have g3 := Int.mul_le_mul_of_nonneg_left hc hh
  refine sq_le (C := H * c) ?_
  rw [Int.natCast_mul]
  have e3 : (H : Int) * c * ((H : Int) * c) = (H : Int) * H * ((c : Int) * c) := by grind
  omega
theorem facF_le16 {F S A : Nat → Int} {m n H N : Nat} (n16 : n ≤ 16) (dF : Dg F m) (fS : Fz S N) (dA : Fz A (n + 1)) (hH : ∀ i, (A i).natAbs ≤ H) (e : ∀ i, A i = cf F S i) (j : Nat) : (S j).natAbs ≤ H * 2 ^ 23 :=
  facF_le dF fS dA hH e (c := 2 ^ 23) (Int.le_trans (sf_mono (show n + 1 ≤ 17 by omega)) (by decide)) j
/-- a divisor's value at a great number is great: A = Q S -/
theorem val_big16 {A Q S : Nat → Int} {n m H X : Nat} (dA : Dg A n) (n16 : n ≤ 16) (hH : ∀ i, (A i).natAbs ≤ H) (hX : 2 ^ 24 * H + 29 ≤ X) (dQ : Dg Q m) (m1 : 1 ≤ m) {N : Nat} (fS : Fz S N) (e : ∀ i, A i = cf Q S i) : X < 2 * (e1 Q (X : Int) (m + 1)).natAbs := by
  obtain ⟨s, dS⟩ : ∃ s, Dg S s := by
    rcases zero_or_dg N fS with z | ⟨s, _, d⟩
    · exact absurd (by rw [e, cf_zero_r z]) dA.top
    · exact ⟨s, d⟩
  have hq : ∀ j, (Q j).natAbs ≤ H * 2 ^ 23 := facF_le16 n16 dS dQ.up dA.up hH fun i => by rw [e i, cf_comm]
  have l := e1_le (f := Q) (h := (X : Int)) (x := X) hq (by omega) m
  have g := sg_eq (x := X) (by omega) m
  have t0 := dQ.top
  have top : X ^ m ≤ (Q m * (X : Int) ^ m).natAbs := by
    rw [Int.natAbs_mul, Int.natAbs_pow, Int.natAbs_natCast]
    calc X ^ m = 1 * X ^ m := (Nat.one_mul _).symm
      _ ≤ _ := Nat.mul_le_mul_right _ (by omega)
  have ee : e1 Q (X : Int) (m + 1) = e1 Q (X : Int) m + Q m * (X : Int) ^ m := rfl
  have z := Int.natAbs_sub_le (e1 Q (X : Int) (m + 1)) (e1 Q (X : Int) m)
  rw [show e1 Q (X : Int) (m + 1) - e1 Q (X : Int) m = Q m * (X : Int) ^ m by rw [ee]; omega] at z
  have m1' : 2 * (H * 2 ^ 23 * sg X m) ≤ (X - 1) * sg X m := by
    rw [← Nat.mul_assoc]
    exact Nat.mul_le_mul_right _ (by omega)
  have xm : X ≤ X ^ m := by
    obtain ⟨k, rfl⟩ : ∃ k, m = k + 1 := ⟨m - 1, by omega⟩
    rw [Nat.pow_succ]
    exact Nat.le_mul_of_pos_left _ (Nat.pow_pos (by omega))
  generalize (e1 Q (X : Int) m).natAbs = a at *
  generalize (e1 Q (X : Int) (m + 1)).natAbs = b at *
  generalize (Q m * (X : Int) ^ m).natAbs = c at *
  generalize X ^ m = p at *
  generalize (X - 1) * sg X m = q at *
  generalize H * 2 ^ 23 * sg X m = r at *
  omega
/-- one of the two is small, and of few coefficients -/
def SmP (A B : Nat → Int) (a b H : Nat) : Prop := (a ≤ 16 ∧ ∀ i, (A i).natAbs ≤ H) ∨ (b ≤ 16 ∧ ∀ i, (B i).natAbs ≤ H)
/-- what divides both, and has the right value, is the greatest -/
theorem heu_maxP {A B G : Nat → Int} {a b g H X : Nat} {c : Int} (dA : Dg A a) (dB : Dg B b) (sm : SmP A B a b H) (hX : 2 ^ 24 * H + 29 ≤ X) (pG : Prim G) (dG : Dg G g) (ga : Dv G A) (gb : Dv G B)
    (cX : 2 * c.natAbs ≤ X) (ev : (c * e1 G (X : Int) (g + 1)).natAbs = Nat.gcd (e1 A (X : Int) (a + 1)).natAbs (e1 B (X : Int) (b + 1)).natAbs) : ∀ d, Dv d A → Dv d B → Dv d G := by
  -- a bound of all coefficients
  obtain ⟨x, bx⟩ : ∃ x, Bt x A := by
    have key : ∀ (f : Nat → Int) (n : Nat), ∃ x, ∀ i, i < n → (f i).natAbs < 2 ^ x := fun f n => by
      induction n with
      | zero => exact ⟨0, fun i hi => absurd hi (by omega)⟩
      | succ n ih =>
        obtain ⟨x, hx⟩ := ih
        refine ⟨x + (f n).natAbs, fun i hi => ?_⟩
        by_cases e : i = n
        · rw [e]
          exact Nat.lt_of_lt_of_le Nat.lt_two_pow_self (Nat.pow_le_pow_right (by decide) (by omega))
        · exact Nat.lt_of_lt_of_le (hx i (by omega)) (Nat.pow_le_pow_right (by decide) (by omega))
    obtain ⟨x, hx⟩ := key A (a + 1)
    refine ⟨x, fun i => ?_⟩
    by_cases h : i < a + 1
    · exact hx i h
    · rw [dA.up i (by omega)]; exact Nat.two_pow_pos _
  obtain ⟨y, by_⟩ : ∃ y, Bt y B := by
    have key : ∀ (f : Nat → Int) (n : Nat), ∃ x, ∀ i, i < n → (f i).natAbs < 2 ^ x := fun f n => by
      induction n with
      | zero => exact ⟨0, fun i hi => absurd hi (by omega)⟩
      | succ n ih =>
        obtain ⟨x, hx⟩ := ih
        refine ⟨x + (f n).natAbs, fun i hi => ?_⟩
        by_cases e : i = n
        · rw [e]
          exact Nat.lt_of_lt_of_le Nat.lt_two_pow_self (Nat.pow_le_pow_right (by decide) (by omega))
        · exact Nat.lt_of_lt_of_le (hx i (by omega)) (Nat.pow_le_pow_right (by decide) (by omega))
    obtain ⟨x, hx⟩ := key B (b + 1)
    refine ⟨x, fun i => ?_⟩
    by_cases h : i < b + 1
    · exact hx i h
    · rw [dB.up i (by omega)]; exact Nat.two_pow_pos _
  obtain ⟨e0, _, eu, ⟨m, _, de0⟩, _, _⟩ := euclid (a + b) dA dB (Nat.le_refl _) bx by_
  obtain ⟨κ, e, k0, pe, de, ee⟩ := prim_part de0
  have toE : ∀ d, Dv d A → Dv d B → Dv d e := fun d h1 h2 => ((eu.max h1 h2).congr (fun _ => rfl) (fun i => (ee i).symm)).scale k0
  have eA : Dv e A := by
    have z : Dv e0 A := eu.da
    obtain ⟨c1, s, N, c0, hs, h⟩ := z
    exact ⟨c1, fun i => κ * s i, N, c0, hs.scale κ, fun i => by rw [h i, cf_scale_l, ← cf_scale]; exact cf_congr (fun _ => rfl) ee i⟩
  have eB : Dv e B := by
    have z : Dv e0 B := eu.db
    obtain ⟨c1, s, N, c0, hs, h⟩ := z
    exact ⟨c1, fun i => κ * s i, N, c0, hs.scale κ, fun i => by rw [h i, cf_scale_l, ← cf_scale]; exact cf_congr (fun _ => rfl) ee i⟩
  obtain ⟨Q, NQ, fQ, hQ⟩ := (toE G ga gb).whole pG
  obtain ⟨q, dQ⟩ : ∃ q, Dg Q q := by
    rcases zero_or_dg NQ fQ with z | ⟨q, _, d⟩
    · exact absurd (by rw [hQ, cf_zero_l z]) de.top
    · exact ⟨q, d⟩
  have mq : m = q + g := by
    have d3 : Dg (CB.cf Q G) m := ⟨by rw [← hQ]; exact de.top, fun i hi => by rw [← hQ]; exact de.up i hi⟩
    exact d3.uniq (dQ.cf dG)
  by_cases q0 : q = 0
  · -- the same up to a number
    subst q0
    have eG : ∀ i, e i = Q 0 * G i := fun i => by
      rw [hQ]
      unfold cf
      rw [sumTo_one (k := 0) (i + 1) (by omega) fun j _ ne => by rw [dQ.up j (by omega), Int.zero_mul], Nat.sub_zero]
    intro d h1 h2
    exact ((toE d h1 h2).congr (fun _ => rfl) (fun i => (eG i).symm)).scale dQ.top
  · exfalso
    obtain ⟨S, NS, fS, hS⟩ := eA.whole pe
    obtain ⟨T, NT, fT, hT⟩ := eB.whole pe
    have vA : e1 A (X : Int) (a + 1) = e1 S (X : Int) NS * e1 e (X : Int) (m + 1) := e1_fz fS de.up dA.up hS
    have vB : e1 B (X : Int) (b + 1) = e1 T (X : Int) NT * e1 e (X : Int) (m + 1) := e1_fz fT de.up dB.up hT
    have vE : e1 e (X : Int) (m + 1) = e1 Q (X : Int) (q + 1) * e1 G (X : Int) (g + 1) := e1_fz dQ.up dG.up de.up hQ
    have dvd : (e1 e (X : Int) (m + 1)).natAbs ∣ (c * e1 G (X : Int) (g + 1)).natAbs := by
      rw [ev]
      refine Nat.dvd_gcd ?_ ?_
      · rw [vA, Int.natAbs_mul]; exact Nat.dvd_mul_left _ _
      · rw [vB, Int.natAbs_mul]; exact Nat.dvd_mul_left _ _
    have big : X < 2 * (e1 Q (X : Int) (q + 1)).natAbs ∧ (c * e1 G (X : Int) (g + 1)).natAbs ≠ 0 := by
      rw [ev]
      rcases sm with ⟨a7, hA⟩ | ⟨b7, hB⟩
      · refine ⟨val_big16 dA a7 hA hX dQ (by omega) (fS.cf dG.up) (fun i => ?_), ?_⟩
        · rw [hS, ← cf_assoc]
          rw [show cf (cf Q S) G i = cf (cf S Q) G i from cf_congr (fun j => cf_comm Q S j) (fun _ => rfl) i, cf_assoc]
          exact cf_congr (fun _ => rfl) hQ i
        · have z := e1_big dA hA hX
          have : 0 < (e1 A (X : Int) (a + 1)).natAbs := by omega
          have := Nat.gcd_pos_of_pos_left (e1 B (X : Int) (b + 1)).natAbs this
          omega
      · refine ⟨val_big16 dB b7 hB hX dQ (by omega) (fT.cf dG.up) (fun i => ?_), ?_⟩
        · rw [hT, ← cf_assoc]
          rw [show cf (cf Q T) G i = cf (cf T Q) G i from cf_congr (fun j => cf_comm Q T j) (fun _ => rfl) i, cf_assoc]
          exact cf_congr (fun _ => rfl) hQ i
        · have z := e1_big dB hB hX
          have : 0 < (e1 B (X : Int) (b + 1)).natAbs := by omega
          have := Nat.gcd_pos_of_pos_right (e1 A (X : Int) (a + 1)).natAbs this
          omega
    rw [vE, Int.natAbs_mul, Int.natAbs_mul] at dvd
    have nz := big.2
    rw [Int.natAbs_mul] at nz
    have G0 : 0 < (e1 G (X : Int) (g + 1)).natAbs := Nat.pos_of_ne_zero fun z => nz (by rw [z, Nat.mul_zero])
    have c0 : 0 < c.natAbs := Nat.pos_of_ne_zero fun z => nz (by rw [z, Nat.zero_mul])
    have := Nat.le_of_dvd c0 (Nat.dvd_of_mul_dvd_mul_right G0 dvd)
    have := big.1
    omega
end CB

namespace CB
open PySem PySem.Spec PyProof.Rows L2
/-! ### sizes of the one form, degrees up to 8, by weighted squares -/
/-- the primitive part of a divisor is small -/
theorem prim_bitsF {f A : Nat → Int} {m n H : Nat} (df : Dg f m) (dA : Dg A n) (hH : ∀ i, (A i).natAbs ≤ H) (nm : n ≤ 8) (h : Dv f A) : ∃ (c : Int) (g : Nat → Int), c ≠ 0 ∧ Prim g ∧ Dg g m ∧ (∀ i, f i = c * g i) ∧ ∀ i, (g i).natAbs ≤ H * 216 := by
  obtain ⟨c, g, c0, pg, dg, e⟩ := prim_part df
  have hg : Dv g A := by
    have gf : Dv g f := ⟨1, fun i => c * xp 0 i, 1, by decide, (xp_fz 0).scale c, fun i => by rw [cf_scale_l, cf_one, Int.one_mul]; exact e i⟩
    exact gf.trans h
  obtain ⟨s, N, fs, ea⟩ := hg.whole pg
  have hs : ∃ k, Dg s k := by
    rcases zero_or_dg N fs with z | ⟨k, _, d⟩
    · exact absurd (by rw [ea n, cf_zero_l z]) dA.top
    · exact ⟨k, d⟩
  obtain ⟨k, ds⟩ := hs
  exact ⟨c, g, c0, pg, dg, e, facF_le ds dg.up dA.up hH ea (Int.le_trans (sf_mono (show n + 1 ≤ 9 by omega)) (by decide))⟩
/-- the numerator's numbers are small: as / a with its leading coefficients' equation -/
theorem num_bitsF {as : List Int} {a J L : Int} {A : Nat → Int} {n H : Nat} (sa : Pq as a as a) (ane : as ≠ []) (dA : Dg A n) (hH : ∀ i, (A i).natAbs ≤ H) (nm : n ≤ 8) (h : Dv (fun i => as.getD i 0) A) (J0 : J ≠ 0) (L0 : L ≠ 0)
    (eq : as.getD (as.length - 1) 0 * J = L * a) : (∀ i, (as.getD i 0).natAbs ≤ L.natAbs * (H * 216)) ∧ a.natAbs ≤ H * 216 * J.natAbs := by
  have bt : as.getD (as.length - 1) 0 ≠ 0 := sa.last.resolve_left ane
  have bl : 0 < as.length := List.length_pos_iff.mpr ane
  have df : Dg (fun i => as.getD i 0) (as.length - 1) := ⟨bt, fun j hj => getD_end (by omega)⟩
  obtain ⟨c, g, c0, pg, dg, e, hb⟩ := prim_bitsF df dA hH nm h
  have a0 : a ≠ 0 := by have := sa.pos; omega
  have cp : Nat.gcd c.natAbs a.natAbs = 1 := by
    have d1 : ((Nat.gcd c.natAbs a.natAbs : Nat) : Int) ∣ a := Int.dvd_natAbs.mp (Int.natCast_dvd_natCast.mpr (Nat.gcd_dvd_right _ _))
    have d2 : ((Nat.gcd c.natAbs a.natAbs : Nat) : Int) ∣ c := Int.dvd_natAbs.mp (Int.natCast_dvd_natCast.mpr (Nat.gcd_dvd_left _ _))
    have d3 := sa.cop _ d1 fun j => by
      have : as.getD j 0 = c * g j := e j
      rw [this]
      exact Int.dvd_trans d2 ⟨g j, rfl⟩
    have := Int.natAbs_dvd_natAbs.mpr d3
    exact Nat.dvd_one.mp this
  have el : as.getD (as.length - 1) 0 = c * g (as.length - 1) := e _
  rw [el] at eq
  have cL : c ∣ L := by
    refine dvd_of_cop (a := a) (b := c) (c := L) ⟨g (as.length - 1) * J, ?_⟩ (by rw [Nat.gcd_comm]; exact cp)
    rw [Int.mul_comm a L, ← eq, Int.mul_assoc]
  have aJ : a ∣ g (as.length - 1) * J := by
    refine dvd_of_cop (a := c) (b := a) ⟨L, ?_⟩ cp
    rw [← Int.mul_assoc, eq, Int.mul_comm]
  have cl : c.natAbs ≤ L.natAbs := natAbs_le_of_dvd cL L0
  refine ⟨fun i => ?_, ?_⟩
  · have ei : as.getD i 0 = c * g i := e i
    rw [ei, Int.natAbs_mul]
    exact Nat.mul_le_mul cl (hb i)
  · have z := natAbs_le_of_dvd aJ (Int.mul_ne_zero dg.top J0)
    rw [Int.natAbs_mul] at z
    exact Nat.le_trans z (Nat.mul_le_mul_right _ (hb _))
theorem monic_bitsF {bs : List Int} {β : Int} {A : Nat → Int} {n H : Nat} (sb : Pq bs β bs β) (bne : bs ≠ []) (mon : bs.getD (bs.length - 1) 0 = β) (dA : Dg A n) (hH : ∀ i, (A i).natAbs ≤ H) (nm : n ≤ 8) (h : Dv (fun i => bs.getD i 0) A) (i : Nat) : (bs.getD i 0).natAbs ≤ H * 216 := by
  have bt : bs.getD (bs.length - 1) 0 ≠ 0 := sb.last.resolve_left bne
  have bl : 0 < bs.length := List.length_pos_iff.mpr bne
  have df : Dg (fun i => bs.getD i 0) (bs.length - 1) := ⟨bt, fun j hj => getD_end (by omega)⟩
  obtain ⟨c, g, c0, pg, dg, e, hb⟩ := prim_bitsF df dA hH nm h
  have c1 : c ∣ 1 := sb.cop c ⟨g (bs.length - 1), by rw [← mon]; exact e _⟩ fun j => ⟨g j, e j⟩
  have ca : c.natAbs = 1 := by
    have := Int.natAbs_dvd_natAbs.mpr c1
    exact Nat.dvd_one.mp this
  have e1 : bs.getD i 0 = c * g i := e i
  rw [e1, Int.natAbs_mul, ca, Nat.one_mul]
  exact hb i
/-- the sizes of the one form; LX, LY: bounds of the leading coefficients -/
structure QsF (N M HX HY LX LY : Nat) (as : List Int) (a : Int) (bs : List Int) (b : Int) : Prop where
  la : as.length ≤ N + 1
  lb : bs.length ≤ M + 1
  ba : ∀ i, (as.getD i 0).natAbs ≤ LX * (HX * 216)
  bb : ∀ i, (bs.getD i 0).natAbs ≤ HY * 216
  ga : a.natAbs ≤ max 1 (HX * 216 * LY)
  gb : b.natAbs ≤ HY * 216
theorem Qn.sizesF {X Y : Nat → Int} {as bs : List Int} {a b : Int} {N M HX HY LX LY : Nat} {n : Nat} (q : Qn X Y as a bs b) (fX : Fz X (N + 1)) (dY : Dg Y n) (nM : n ≤ M) (hX : ∀ i, (X i).natAbs ≤ HX) (hY : ∀ i, (Y i).natAbs ≤ HY) (hLX : ∀ m, Dg X m → (X m).natAbs ≤ LX) (hLY : (Y n).natAbs ≤ LY) (n6 : N ≤ 8) (m6 : M ≤ 8) : QsF N M HX HY LX LY as a bs b := by
  have db := q.bs_dv fX dY.up
  have lb := db.deg (dgl q.bt) dY
  have bl : 0 < bs.length := List.length_pos_iff.mpr q.bne
  have bb := fun i => monic_bitsF q.sb q.bne q.mon dY hY (by omega) db i
  have gb : b.natAbs ≤ HY * 216 := by rw [← q.mon]; exact bb _
  rcases zero_or_dg (N + 1) fX with z | ⟨m, mN, d⟩
  · have an := q.as_zero dY z
    have a1 := small_one q.sa an
    refine ⟨by rw [an]; exact Nat.zero_le _, by omega, fun i => by rw [an]; exact Nat.zero_le _, bb, ?_, gb⟩
    rw [a1]; exact Nat.le_max_left _ _
  · have ane : as ≠ [] := fun z => d.top (q.x_zero fX z m)
    have at_ : as.getD (as.length - 1) 0 ≠ 0 := q.sa.last.resolve_left ane
    have da := q.as_dv fX dY.up
    have la := da.deg (dgl at_) d
    have al : 0 < as.length := List.length_pos_iff.mpr ane
    have lead : as.getD (as.length - 1) 0 * Y n = X m * a := by
      have eqd : as.length - 1 + n = m + (bs.length - 1) := by
        have d1 := (dgl at_).cf dY
        have d2 := d.cf (dgl q.bt)
        have d3 : Dg (cf (cst b) (cf (ff as) Y)) (as.length - 1 + n) := by
          rw [cst_cf]
          exact ⟨Int.mul_ne_zero q.b0 d1.top, fun i hi => by show b * _ = 0; rw [d1.up i hi, Int.mul_zero]⟩
        have d4 : Dg (cf (cst a) (cf X (ff bs))) (m + (bs.length - 1)) := by
          rw [cst_cf]
          exact ⟨Int.mul_ne_zero q.a0 d2.top, fun i hi => by show a * _ = 0; rw [d2.up i hi, Int.mul_zero]⟩
        rw [q.eq] at d3
        exact d3.uniq d4
      have e := congrFun q.eq (as.length - 1 + n)
      rw [cst_cf, cst_cf] at e
      have e2 : b * cf (ff as) Y (as.length - 1 + n) = a * cf X (ff bs) (as.length - 1 + n) := e
      rw [cf_top (fun i hi => (dgl at_).up i hi) (fun i hi => dY.up i hi), eqd, cf_top (fun i hi => d.up i hi) (fun i hi => (dgl q.bt).up i hi)] at e2
      have e3 : ff bs (bs.length - 1) = b := q.mon
      rw [e3] at e2
      apply Int.eq_of_mul_eq_mul_left q.b0
      have : b * (as.getD (as.length - 1) 0 * Y n) = a * (X m * b) := e2
      rw [this]
      grind
    obtain ⟨h1, h2⟩ := num_bitsF q.sa ane d hX (by omega) da dY.top d.top lead
    refine ⟨by omega, by omega, fun i => Nat.le_trans (h1 i) (Nat.mul_le_mul_right _ (hLX m d)), bb, ?_, gb⟩
    exact Nat.le_trans h2 (Nat.le_trans (Nat.mul_le_mul_left _ hLY) (Nat.le_max_right _ _))
end CB

namespace CB
open PySem PySem.Spec PyProof.Rows L2
/-! ### products of values; moved polynomials -/
theorem shV_last0 {s : Int} {f : Nat → Int} {n : Nat} : shV s f (n + 1) n = f n := by
  have one : ∀ i, pw s i i = 1 := fun i => by
    induction i with
    | zero => rfl
    | succ i ih => rw [pw, ih, pw_high s i (i + 1) (by omega)]; omega
  show sumTo _ n + f n * pw s n n = _
  rw [one, sumTo_zero n fun i hi => by rw [pw_high s i n hi, Int.mul_zero]]
  omega
theorem sh_cut {s : Int} {cs : List Int} {m : Nat} (up : Fz (ff cs) m) (k : Nat) : shV s (fun i => cs.getD i 0) cs.length k = shV s (fun i => cs.getD i 0) m k := by
  rw [← shV_list (n := max cs.length m) (by omega)]
  exact shV_ge k (fun i hi => up i hi) (by omega)
theorem sh_up {s : Int} {zs cs : List Int} {m : Nat} (z : IsSh s zs cs) (up : Fz (ff cs) m) : Fz (ff zs) m := fun k hk => by
  show zs.getD k 0 = 0
  rw [z.at_, sh_cut up]
  exact sumTo_zero m fun i hi => by rw [pw_high s i k (by omega), Int.mul_zero]
theorem sh_dg {s : Int} {zs cs : List Int} {m : Nat} (z : IsSh s zs cs) (d : Dg (ff cs) m) : Dg (ff zs) m := by
  refine ⟨?_, sh_up z d.up⟩
  show zs.getD m 0 ≠ 0
  rw [z.at_, sh_cut d.up, shV_last0]
  exact d.top
theorem pw_abs1 : ∀ i k, (pw 1 i k).natAbs ≤ 2 ^ i
  | 0, 0 => Nat.le_refl _
  | 0, k + 1 => Nat.zero_le _
  | i + 1, 0 => by
    have ih := pw_abs1 i 0
    rw [pw, Int.one_mul, Nat.pow_succ]
    omega
  | i + 1, k + 1 => by
    have h1 := pw_abs1 i (k + 1)
    have h2 := pw_abs1 i k
    rw [pw, Int.one_mul, Nat.pow_succ]
    omega
theorem shV_abs1 {f : Nat → Int} {B : Nat} (hf : ∀ i, (f i).natAbs ≤ B) : ∀ n k, (shV 1 f n k).natAbs ≤ B * sg 2 n
  | 0, k => Nat.zero_le _
  | n + 1, k => by
    have ih := shV_abs1 hf n k
    have m : (f n * pw 1 n k).natAbs ≤ B * 2 ^ n := by rw [Int.natAbs_mul]; exact Nat.mul_le_mul (hf n) (pw_abs1 n k)
    show (shV 1 f n k + f n * pw 1 n k).natAbs ≤ B * (sg 2 n + 2 ^ n)
    rw [Nat.mul_add]
    omega
theorem sh_sz1 {zs cs : List Int} {B m : Nat} (z : IsSh 1 zs cs) (up : Fz (ff cs) m) (hB : ∀ i, (cs.getD i 0).natAbs ≤ B) (k : Nat) : (zs.getD k 0).natAbs ≤ B * sg 2 m := by
  rw [z.at_, sh_cut up]
  exact shV_abs1 hB m k
theorem sh_ex (s : Int) (xs : List Int) : ∃ zs, IsSh s zs xs := by
  refine ⟨(List.range xs.length).map (shV s (fun i => xs.getD i 0) xs.length), fun k => ?_, by rw [List.length_map, List.length_range]⟩
  rw [List.getD_eq_getElem?_getD, List.getElem?_map]
  by_cases c : k < xs.length
  · rw [List.getElem?_range c]; rfl
  · rw [List.getElem?_eq_none (by rw [List.length_range]; omega), shV_high (by omega)]; rfl
/-- the one form is a quotient of its own parts -/
theorem Qn.own {X Y : Nat → Int} {as bs : List Int} {a b : Int} (q : Qn X Y as a bs b) : Qn (pc b * pl as).f (pc a * pl bs).f as a bs b := by
  refine ⟨q.sa, q.sb, q.bne, q.mon, q.cop, ?_⟩
  have e : pc b * (pl as * (pc a * pl bs)) = pc a * (pc b * pl as * pl bs) := by grind
  exact congrArg PS.f e
end CB

namespace CB
open PySem PySem.Spec PyProof.Rows L2
/-! ### Euclid's end where the fraction is known to be short; divisors up to degree 16 -/
theorem euclid_gap {A B P R : Nat → Int} {a b k x y : Nat} (dA : Dg A a) (dB : Dg B b) (hA : Bt k A) (hB : Bt k B) (dP : Dg P x) (dR : Dg R y) (xy : x + y ≤ 16) (cr : (⟨A⟩ : PS) * ⟨R⟩ = ⟨B⟩ * ⟨P⟩) : ∃ e m, Euc A B e ∧ Dg e m ∧ Bt ((k + 5) * 16 + k) e := by
  obtain ⟨kA, hkA⟩ : ∃ kA, kA = k := ⟨k, rfl⟩
  obtain ⟨g, _, E, ⟨d, dm, D⟩, _, _⟩ := euclid (a + b) dA dB (Nat.le_refl _) hA hB
  have da : d ≤ a := by omega
  have db : d ≤ b := by omega
  have ab : a + b ≤ 16 + 2 * d := by
    obtain ⟨U, W, M, hU, hW, cm⟩ := E.comb
    have gs : (⟨g⟩ : PS) = ⟨U⟩ * ⟨A⟩ + ⟨W⟩ * ⟨B⟩ := PS.ext (funext fun i => cm i)
    have h1 : (⟨g⟩ : PS) * ⟨P⟩ = (⟨U⟩ * ⟨P⟩ + ⟨W⟩ * ⟨R⟩) * ⟨A⟩ := by rw [gs]; grind
    have h2 : (⟨g⟩ : PS) * ⟨R⟩ = (⟨U⟩ * ⟨P⟩ + ⟨W⟩ * ⟨R⟩) * ⟨B⟩ := by rw [gs]; grind
    have fz : Fz ((⟨U⟩ : PS) * ⟨P⟩ + ⟨W⟩ * ⟨R⟩).f (max (M + (x + 1)) (M + (y + 1))) := Fz.add ((hU.cf dP.up).mono (by omega)) ((hW.cf dR.up).mono (by omega))
    have k1 : Dv A (cf g P) := ⟨1, _, _, by decide, fz, fun i => by rw [Int.one_mul]; exact congrFun (congrArg PS.f h1) i⟩
    have k2 : Dv B (cf g R) := ⟨1, _, _, by decide, fz, fun i => by rw [Int.one_mul]; exact congrFun (congrArg PS.f h2) i⟩
    have l1 := k1.deg dA (D.cf dP)
    have l2 := k2.deg dB (D.cf dR)
    omega
  by_cases N0 : a + b - 2 * d = 0
  · -- A and the divisor are of one degree
    have e1 : Dv A g := by
      obtain ⟨m, s, M, m0, hs, e⟩ := E.da
      rcases zero_or_dg M hs with z | ⟨j, _, dj⟩
      · exfalso
        have y := e a
        rw [cf_zero_l z] at y
        rcases Int.mul_eq_zero.mp y with y | y
        · exact m0 y
        · exact dA.top y
      · have jd := dj.cf D
        have ja : Dg (cf s g) a := ⟨by rw [← e]; exact Int.mul_ne_zero m0 dA.top, fun i hi => by rw [← e, dA.up i hi, Int.mul_zero]⟩
        have := jd.uniq ja
        have j0 : j = 0 := by omega
        subst j0
        have sc : ∀ i, s i = s 0 * xp 0 i := fun i => by
          by_cases z : i = 0
          · subst z
            show s 0 = s 0 * 1
            omega
          · rw [dj.up i (by omega)]
            show 0 = s 0 * (if i = 0 then 1 else 0)
            rw [if_neg z]; omega
        refine ⟨s 0, fun i => m * xp 0 i, 1, dj.top, (xp_fz 0).scale m, fun i => ?_⟩
        rw [cf_scale_l, cf_one, e, cf_congr sc (fun _ => rfl) i, cf_scale_l, cf_one]
    have ab2 : a = b := by omega
    refine ⟨A, a, ⟨Dv.refl A, e1.trans E.db, xp 0, fun _ => 0, 1, xp_fz 0, fun _ _ => rfl, fun i => by rw [cf_one, cf_zero_l (fun _ => rfl)]; omega⟩, dA, hA.mono (by omega)⟩
  · obtain ⟨p, ep⟩ : ∃ p, p = b - d := ⟨_, rfl⟩
    obtain ⟨q, eq⟩ : ∃ q, q = a - d := ⟨_, rfl⟩
    obtain ⟨x, ⟨j0, j0N, xj0⟩, xb, xe, xz⟩ := siegel (fun e j => if j < p then (if j ≤ d + 1 + e then A (d + 1 + e - j) else 0) else (if j - p ≤ d + 1 + e then B (d + 1 + e - (j - p)) else 0)) (N := p + q) (M := p + q - 1) (H := 2 ^ k) (by omega) (Nat.pow_pos (by decide)) (fun e j => by
      have h0 : ∀ i, (A i).natAbs ≤ 2 ^ k := fun i => Nat.le_of_lt (hA i)
      have h1 : ∀ i, (B i).natAbs ≤ 2 ^ k := fun i => Nat.le_of_lt (hB i)
      show (if j < p then (if j ≤ d + 1 + e then A (d + 1 + e - j) else 0) else (if j - p ≤ d + 1 + e then B (d + 1 + e - (j - p)) else 0)).natAbs ≤ 2 ^ k
      split
      · split
        · exact h0 _
        · exact Nat.zero_le _
      · split
        · exact h1 _
        · exact Nat.zero_le _)
    obtain ⟨u, eu⟩ : ∃ u : Nat → Int, u = fun i => if i < p then x i else 0 := ⟨_, rfl⟩
    obtain ⟨v, ev⟩ : ∃ v : Nat → Int, v = fun i => x (p + i) := ⟨_, rfl⟩
    have fu : Fz u p := fun i hi => by rw [eu]; exact if_neg (by omega)
    have fv : Fz v q := fun i hi => by rw [ev]; exact xz _ (by omega)
    obtain ⟨e, ee⟩ : ∃ e : Nat → Int, e = fun i => cf u A i + cf v B i := ⟨_, rfl⟩
    -- its coefficients as one sum
    have one : ∀ i, e i = sumTo (fun j => (if j < p then (if j ≤ i then A (i - j) else 0) else (if j - p ≤ i then B (i - (j - p)) else 0)) * x j) (p + q) := fun i => by
      rw [ee, sumTo_app]
      show cf u A i + cf v B i = _
      rw [cf_left fu A i, cf_left fv B i]
      congr 1
      · exact sumTo_congr p fun j hj => by rw [if_pos hj, eu]; show _ * (if j < p then x j else 0) = _; rw [if_pos hj]
      · exact sumTo_congr q fun j hj => by
          rw [if_neg (show ¬ p + j < p by omega), ev, show p + j - p = j by omega]
    have ez : Fz e (d + 1) := fun i hi => by
      by_cases c : i < d + 1 + (p + q - 1)
      · rw [one]
        have := xe (i - (d + 1)) (by omega)
        rw [show d + 1 + (i - (d + 1)) = i by omega] at this
        exact this
      · rw [ee]
        show cf u A i + cf v B i = 0
        rw [cf_endT (al := p) (be := a + 1) (fun s hs => fu s hs) (fun s hs => dA.up s hs) (by omega), cf_endT (al := q) (be := b + 1) (fun s hs => fv s hs) (fun s hs => dB.up s hs) (by omega)]
        rfl
    -- it is not zero
    have dv : Dv g e := by
      have := Dv.comb E.da E.db fu fv
      rw [ee]
      exact this
    have nz : ¬ ∀ i, e i = 0 := fun z => by
      obtain ⟨U, W, M, hU, hW, cm⟩ := E.comb
      have ps : (⟨u⟩ : PS) * ⟨A⟩ + ⟨v⟩ * ⟨B⟩ = 0 := PS.ext (funext fun i => by rw [ps_zero_f]; have := z i; rw [ee] at this; exact this)
      have gs : (⟨g⟩ : PS) = ⟨U⟩ * ⟨A⟩ + ⟨W⟩ * ⟨B⟩ := PS.ext (funext fun i => cm i)
      have h1 : (⟨u⟩ : PS) * ⟨g⟩ = ⟨B⟩ * (⟨u⟩ * ⟨W⟩ - ⟨v⟩ * ⟨U⟩) := by grind
      have h2 : (⟨v⟩ : PS) * ⟨g⟩ = ⟨A⟩ * (⟨v⟩ * ⟨U⟩ - ⟨u⟩ * ⟨W⟩) := by grind
      have u0 : ∀ i, u i = 0 := by
        rcases zero_or_dg p fu with y | ⟨m, hm, du⟩
        · exact y
        · exfalso
          have k1 := du.cf D
          have k2 : Dv B (cf u g) := ⟨1, _, _, by decide, (Fz.add (a := max (p + M) (q + M)) ((fu.cf hW).mono (by omega)) (fun i hi => by show -(cf v U i) = 0; rw [(fv.cf hU) i (by omega)]; rfl) : Fz ((⟨u⟩ : PS) * ⟨W⟩ - ⟨v⟩ * ⟨U⟩).f _), fun i => by
            rw [Int.one_mul]
            exact (congrFun (congrArg PS.f h1) i).trans (cf_comm _ _ _)⟩
          have := k2.deg dB k1
          omega
      have v0 : ∀ i, v i = 0 := by
        rcases zero_or_dg q fv with y | ⟨m, hm, dv⟩
        · exact y
        · exfalso
          have k1 := dv.cf D
          have k2 : Dv A (cf v g) := ⟨1, _, _, by decide, (Fz.add (a := max (p + M) (q + M)) ((fv.cf hU).mono (by omega)) (fun i hi => by show -(cf u W i) = 0; rw [(fu.cf hW) i (by omega)]; rfl) : Fz ((⟨v⟩ : PS) * ⟨U⟩ - ⟨u⟩ * ⟨W⟩).f _), fun i => by
            rw [Int.one_mul]
            exact (congrFun (congrArg PS.f h2) i).trans (cf_comm _ _ _)⟩
          have := k2.deg dA k1
          omega
      by_cases c : j0 < p
      · have := u0 j0
        rw [eu] at this
        have y : (if j0 < p then x j0 else 0) = 0 := this
        rw [if_pos c] at y
        exact xj0 y
      · have := v0 (j0 - p)
        rw [ev] at this
        have y : x (p + (j0 - p)) = 0 := this
        rw [show p + (j0 - p) = j0 by omega] at y
        exact xj0 y
    rcases zero_or_dg (d + 1) ez with z | ⟨m, md, dme⟩
    · exact absurd z nz
    have mde := dv.deg D dme
    have mdd : m = d := by omega
    subst mdd
    -- it divides the divisor
    have eg : Dv e g := by
      obtain ⟨c, s, M, c0, hs, es⟩ := dv
      rcases zero_or_dg M hs with z | ⟨j, _, dj⟩
      · exfalso
        have y := es m
        rw [cf_zero_l z] at y
        rcases Int.mul_eq_zero.mp y with y | y
        · exact c0 y
        · exact dme.top y
      · have jd := dj.cf D
        have ja : Dg (cf s g) m := ⟨by rw [← es]; exact Int.mul_ne_zero c0 dme.top, fun i hi => by rw [← es, dme.up i hi, Int.mul_zero]⟩
        have := jd.uniq ja
        have j0 : j = 0 := by omega
        subst j0
        have sc : ∀ i, s i = s 0 * xp 0 i := fun i => by
          by_cases z : i = 0
          · subst z
            show s 0 = s 0 * 1
            omega
          · rw [dj.up i (by omega)]
            show 0 = s 0 * (if i = 0 then 1 else 0)
            rw [if_neg z]; omega
        refine ⟨s 0, fun i => c * xp 0 i, 1, dj.top, (xp_fz 0).scale c, fun i => ?_⟩
        rw [cf_scale_l, cf_one, es, cf_congr sc (fun _ => rfl) i, cf_scale_l, cf_one]
    refine ⟨e, m, ⟨eg.trans E.da, eg.trans E.db, u, v, p + q, fu.mono (by omega), fv.mono (by omega), fun i => by rw [ee]⟩, dme, fun i => ?_⟩
    have N1 : 1 ≤ p + q := by omega
    rw [one]
    have z := sum_le (F := fun j => (if j < p then (if j ≤ i then A (i - j) else 0) else (if j - p ≤ i then B (i - (j - p)) else 0)) * x j) (C := 2 ^ k * (2 * (p + q) * 2 ^ k) ^ (p + q - 1)) (p + q) (fun j hj => by
      rw [Int.natAbs_mul]
      refine Nat.mul_le_mul ?_ (xb j)
      have h0 : ∀ i, (A i).natAbs ≤ 2 ^ k := fun i => Nat.le_of_lt (hA i)
      have h1 : ∀ i, (B i).natAbs ≤ 2 ^ k := fun i => Nat.le_of_lt (hB i)
      split
      · split
        · exact h0 _
        · exact Nat.zero_le _
      · split
        · exact h1 _
        · exact Nat.zero_le _)
    refine Nat.lt_of_le_of_lt z ?_
    have f1 : (p + q) * (2 ^ k * (2 * (p + q) * 2 ^ k) ^ (p + q - 1)) < (2 * (p + q) * 2 ^ k) ^ (p + q - 1 + 1) := by
      rw [Nat.pow_succ]
      have pp : 0 < (2 * (p + q) * 2 ^ k) ^ (p + q - 1) := Nat.pow_pos (Nat.mul_pos (by omega) (Nat.pow_pos (by decide)))
      have k0 : 0 < (p + q) * 2 ^ k := Nat.mul_pos N1 (Nat.pow_pos (by decide))
      generalize (2 * (p + q) * 2 ^ k) ^ (p + q - 1) = Z at pp ⊢
      have : 2 * (p + q) * 2 ^ k = 2 * ((p + q) * 2 ^ k) := Nat.mul_assoc _ _ _
      rw [this]
      have e3 : (p + q) * (2 ^ k * Z) = Z * ((p + q) * 2 ^ k) := by
        rw [← Nat.mul_assoc, Nat.mul_comm]
      rw [e3]
      exact Nat.mul_lt_mul_of_pos_left (by omega) pp
    refine Nat.lt_of_lt_of_le f1 ?_
    have f2 : 2 * (p + q) * 2 ^ k ≤ 2 ^ (k + 5) := by
      rw [Nat.pow_add, Nat.mul_comm]
      exact Nat.mul_le_mul_left _ (by have : (2 : Nat) ^ 5 = 32 := rfl; omega)
    refine Nat.le_trans (Nat.pow_le_pow_left f2 _) ?_
    rw [← Nat.pow_mul]
    refine Nat.pow_le_pow_right (by decide) ?_
    have f3 : (k + 5) * (p + q - 1 + 1) ≤ (k + 5) * 16 := Nat.mul_le_mul_left _ (by omega)
    omega
theorem prim_bitsG {f A : Nat → Int} {m n H : Nat} (df : Dg f m) (dA : Dg A n) (hH : ∀ i, (A i).natAbs ≤ H) (nm : n ≤ 16) (h : Dv f A) : ∃ (c : Int) (g : Nat → Int), c ≠ 0 ∧ Prim g ∧ Dg g m ∧ (∀ i, f i = c * g i) ∧ ∀ i, (g i).natAbs ≤ H * 2 ^ 23 := by
  obtain ⟨c, g, c0, pg, dg, e⟩ := prim_part df
  have hg : Dv g A := by
    have gf : Dv g f := ⟨1, fun i => c * xp 0 i, 1, by decide, (xp_fz 0).scale c, fun i => by rw [cf_scale_l, cf_one, Int.one_mul]; exact e i⟩
    exact gf.trans h
  obtain ⟨s, N, fs, ea⟩ := hg.whole pg
  have hs : ∃ k, Dg s k := by
    rcases zero_or_dg N fs with z | ⟨k, _, d⟩
    · exact absurd (by rw [ea n, cf_zero_l z]) dA.top
    · exact ⟨k, d⟩
  obtain ⟨k, ds⟩ := hs
  exact ⟨c, g, c0, pg, dg, e, facF_le16 nm ds dg.up dA.up hH ea⟩
theorem monic_bitsG {bs : List Int} {β : Int} {A : Nat → Int} {n H : Nat} (sb : Pq bs β bs β) (bne : bs ≠ []) (mon : bs.getD (bs.length - 1) 0 = β) (dA : Dg A n) (hH : ∀ i, (A i).natAbs ≤ H) (nm : n ≤ 16) (h : Dv (fun i => bs.getD i 0) A) (i : Nat) : (bs.getD i 0).natAbs ≤ H * 2 ^ 23 := by
  have bt : bs.getD (bs.length - 1) 0 ≠ 0 := sb.last.resolve_left bne
  have bl : 0 < bs.length := List.length_pos_iff.mpr bne
  have df : Dg (fun i => bs.getD i 0) (bs.length - 1) := ⟨bt, fun j hj => getD_end (by omega)⟩
  obtain ⟨c, g, c0, pg, dg, e, hb⟩ := prim_bitsG df dA hH nm h
  have c1 : c ∣ 1 := sb.cop c ⟨g (bs.length - 1), by rw [← mon]; exact e _⟩ fun j => ⟨g j, e j⟩
  have ca : c.natAbs = 1 := by
    have := Int.natAbs_dvd_natAbs.mpr c1
    exact Nat.dvd_one.mp this
  have e1 : bs.getD i 0 = c * g i := e i
  rw [e1, Int.natAbs_mul, ca, Nat.one_mul]
  exact hb i
end CB

namespace CB
open PySem PySem.Spec PyProof.Rows L2 CB.Z
local macro_rules | `(tactic| walk_at "cb sz") => `(tactic| first
  | assumption
  | (apply abs_lt_mul <;> walk_at "cb sz")
  | (apply sz_add <;> walk_at "cb sz")
  | (apply sz_sub <;> walk_at "cb sz")
  | (apply sz_neg <;> walk_at "cb sz")
  | (show _ < 2 ^ 64; decide)
  | (show _ < 2 ^ 128; decide)
  | (show _ < 2 ^ 144; decide)
  | (show _ < 2 ^ 250; decide))
local macro_rules | `(tactic| walk_at "cb size") => `(tactic| (apply abs_mono <;> first | walk_at "cb sz" | decide))
local macro_rules | `(tactic| walk_at "cb mul") => `(tactic| (apply mulW <;> first | walk_at "cb sz" | decide))
local macro_rules | `(tactic| walk_at "cb ne") => `(tactic| first
  | omega
  | (apply Int.mul_ne_zero <;> walk_at "cb ne"))
def top (i : Nat) : Stmt := PySem.Challenge.pw_certsums_k69_closed_accepted.main.body.getD i (.Pass ⟨0, 0, 0, 0⟩)
abbrev mth (i j : Nat) : Stmt := inClass (top i) j
abbrev s__law_numbers : Stmt := top 87
abbrev N__law_numbers : List Str := ["script", "count", "rest", "by_digits", "numbers", "k", "cell"]
theorem sc__law_numbers : FnScope N__law_numbers ["script", "count"] (defScope s__law_numbers) := ⟨rfl, rfl, rfl, by decide +kernel, rfl, by decide +kernel, by decide +kernel⟩
abbrev d__law_numbers : DefG := ⟨fun K => He.fAd K ("_law_numbers", none), "_law_numbers", "_law_numbers", defArgs s__law_numbers, defBody s__law_numbers, defScope s__law_numbers, []⟩
abbrev s__law_product : Stmt := top 88
abbrev N__law_product : List Str := ["a", "b", "result", "i", "j", "k"]
theorem sc__law_product : FnScope N__law_product ["a", "b"] (defScope s__law_product) := ⟨rfl, rfl, rfl, by decide +kernel, rfl, by decide +kernel, by decide +kernel⟩
abbrev d__law_product : DefG := ⟨fun K => He.fAd K ("_law_product", none), "_law_product", "_law_product", defArgs s__law_product, defBody s__law_product, defScope s__law_product, []⟩
abbrev s__law_trimmed : Stmt := top 90
abbrev N__law_trimmed : List Str := ["coefs", "size"]
theorem sc__law_trimmed : FnScope N__law_trimmed ["coefs"] (defScope s__law_trimmed) := ⟨rfl, rfl, rfl, by decide +kernel, rfl, by decide +kernel, by decide +kernel⟩
abbrev d__law_trimmed : DefG := ⟨fun K => He.fAd K ("_law_trimmed", none), "_law_trimmed", "_law_trimmed", defArgs s__law_trimmed, defBody s__law_trimmed, defScope s__law_trimmed, []⟩
abbrev s__law_ratio : Stmt := top 91
abbrev N__law_ratio : List Str := ["numbers", "place", "num", "den", "i", "number"]
theorem sc__law_ratio : FnScope N__law_ratio ["numbers", "place"] (defScope s__law_ratio) := ⟨rfl, rfl, rfl, by decide +kernel, rfl, by decide +kernel, by decide +kernel⟩
abbrev d__law_ratio : DefG := ⟨fun K => He.fAd K ("_law_ratio", none), "_law_ratio", "_law_ratio", defArgs s__law_ratio, defBody s__law_ratio, defScope s__law_ratio, []⟩
abbrev s__law_minus : Stmt := top 92
abbrev N__law_minus : List Str := ["a", "b", "result", "k"]
theorem sc__law_minus : FnScope N__law_minus ["a", "b"] (defScope s__law_minus) := ⟨rfl, rfl, rfl, by decide +kernel, rfl, by decide +kernel, by decide +kernel⟩
abbrev d__law_minus : DefG := ⟨fun K => He.fAd K ("_law_minus", none), "_law_minus", "_law_minus", defArgs s__law_minus, defBody s__law_minus, defScope s__law_minus, []⟩
abbrev s__law_shifted : Stmt := top 89
abbrev N__law_shifted : List Str := ["coefs", "step", "result", "power", "number", "k"]
theorem sc__law_shifted : FnScope N__law_shifted ["coefs", "step"] (defScope s__law_shifted) := ⟨rfl, rfl, rfl, by decide +kernel, rfl, by decide +kernel, by decide +kernel⟩
abbrev d__law_shifted : DefG := ⟨fun K => He.fAd K ("_law_shifted", none), "_law_shifted", "_law_shifted", defArgs s__law_shifted, defBody s__law_shifted, defScope s__law_shifted, []⟩
abbrev s_trimmed : Stmt := top 18
abbrev N_trimmed : List Str := ["coefs", "length"]
theorem sc_trimmed : FnScope N_trimmed ["coefs"] (defScope s_trimmed) := ⟨rfl, rfl, rfl, by decide +kernel, rfl, by decide +kernel, by decide +kernel⟩
abbrev d_trimmed : DefG := ⟨fun K => He.fAd K ("trimmed", none), "trimmed", "trimmed", defArgs s_trimmed, defBody s_trimmed, defScope s_trimmed, []⟩
abbrev s_common_factor : Stmt := top 17
abbrev N_common_factor : List Str := ["numbers", "found", "number"]
theorem sc_common_factor : FnScope N_common_factor ["numbers"] (defScope s_common_factor) := ⟨rfl, rfl, rfl, by decide +kernel, rfl, by decide +kernel, by decide +kernel⟩
abbrev d_common_factor : DefG := ⟨fun K => He.fAd K ("common_factor", none), "common_factor", "common_factor", defArgs s_common_factor, defBody s_common_factor, defScope s_common_factor, []⟩
abbrev s_Poly___init__ : Stmt := mth 42 0
abbrev N_Poly___init__ : List Str := ["self", "coefs", "den", "kept", "common", "c"]
theorem sc_Poly___init__ : FnScope N_Poly___init__ ["self", "coefs", "den"] (defScope s_Poly___init__) := ⟨rfl, rfl, rfl, by decide +kernel, rfl, by decide +kernel, by decide +kernel⟩
abbrev d_Poly___init__ : DefG := ⟨fun K => He.fAd K ("Poly", some "__init__"), "__init__", "Poly.__init__", defArgs s_Poly___init__, defBody s_Poly___init__, defScope s_Poly___init__, [.int 1]⟩
abbrev s_Poly_is_zero : Stmt := mth 42 7
abbrev N_Poly_is_zero : List Str := ["self"]
theorem sc_Poly_is_zero : FnScope N_Poly_is_zero ["self"] (defScope s_Poly_is_zero) := ⟨rfl, rfl, rfl, by decide +kernel, rfl, by decide +kernel, by decide +kernel⟩
abbrev d_Poly_is_zero : DefG := ⟨fun K => gtAd K (He.ga K "Poly") "is_zero", "is_zero", "Poly.is_zero", defArgs s_Poly_is_zero, defBody s_Poly_is_zero, defScope s_Poly_is_zero, []⟩
abbrev s_monic : Stmt := top 49
abbrev N_monic : List Str := ["p"]
theorem sc_monic : FnScope N_monic ["p"] (defScope s_monic) := ⟨rfl, rfl, rfl, by decide +kernel, rfl, by decide +kernel, by decide +kernel⟩
abbrev d_monic : DefG := ⟨fun K => He.fAd K ("monic", none), "monic", "monic", defArgs s_monic, defBody s_monic, defScope s_monic, []⟩
abbrev s_primitive : Stmt := top 19
abbrev N_primitive : List Str := ["coefs", "factor", "c"]
theorem sc_primitive : FnScope N_primitive ["coefs"] (defScope s_primitive) := ⟨rfl, rfl, rfl, by decide +kernel, rfl, by decide +kernel, by decide +kernel⟩
abbrev d_primitive : DefG := ⟨fun K => He.fAd K ("primitive", none), "primitive", "primitive", defArgs s_primitive, defBody s_primitive, defScope s_primitive, []⟩
abbrev s_remainders : Stmt := top 34
abbrev N_remainders : List Str := ["coefs", "modulus", "c"]
theorem sc_remainders : FnScope N_remainders ["coefs", "modulus"] (defScope s_remainders) := ⟨rfl, rfl, rfl, by decide +kernel, rfl, by decide +kernel, by decide +kernel⟩
abbrev d_remainders : DefG := ⟨fun K => He.fAd K ("remainders", none), "remainders", "remainders", defArgs s_remainders, defBody s_remainders, defScope s_remainders, []⟩
abbrev s_inverse_modulo : Stmt := top 12
abbrev N_inverse_modulo : List Str := ["number", "modulus", "first", "second", "factor", "following", "share"]
theorem sc_inverse_modulo : FnScope N_inverse_modulo ["number", "modulus"] (defScope s_inverse_modulo) := ⟨rfl, rfl, rfl, by decide +kernel, rfl, by decide +kernel, by decide +kernel⟩
abbrev d_inverse_modulo : DefG := ⟨fun K => He.fAd K ("inverse_modulo", none), "inverse_modulo", "inverse_modulo", defArgs s_inverse_modulo, defBody s_inverse_modulo, defScope s_inverse_modulo, []⟩
abbrev s_divided_modulo : Stmt := top 35
abbrev N_divided_modulo : List Str := ["first", "second", "modulus", "inverse", "rest", "quotient", "at", "share", "i", "c", "_"]
theorem sc_divided_modulo : FnScope N_divided_modulo ["first", "second", "modulus"] (defScope s_divided_modulo) := ⟨rfl, rfl, rfl, by decide +kernel, rfl, by decide +kernel, by decide +kernel⟩
abbrev d_divided_modulo : DefG := ⟨fun K => He.fAd K ("divided_modulo", none), "divided_modulo", "divided_modulo", defArgs s_divided_modulo, defBody s_divided_modulo, defScope s_divided_modulo, []⟩
abbrev s_divisor_modulo : Stmt := top 33
abbrev N_divisor_modulo : List Str := ["first", "second", "prime", "high", "low", "_", "rest"]
theorem sc_divisor_modulo : FnScope N_divisor_modulo ["first", "second", "prime"] (defScope s_divisor_modulo) := ⟨rfl, rfl, rfl, by decide +kernel, rfl, by decide +kernel, by decide +kernel⟩
abbrev d_divisor_modulo : DefG := ⟨fun K => He.fAd K ("divisor_modulo", none), "divisor_modulo", "divisor_modulo", defArgs s_divisor_modulo, defBody s_divisor_modulo, defScope s_divisor_modulo, []⟩
abbrev s_coprime_modulo : Stmt := top 32
abbrev N_coprime_modulo : List Str := ["first", "second", "prime"]
theorem sc_coprime_modulo : FnScope N_coprime_modulo ["first", "second", "prime"] (defScope s_coprime_modulo) := ⟨rfl, rfl, rfl, by decide +kernel, rfl, by decide +kernel, by decide +kernel⟩
abbrev d_coprime_modulo : DefG := ⟨fun K => He.fAd K ("coprime_modulo", none), "coprime_modulo", "coprime_modulo", defArgs s_coprime_modulo, defBody s_coprime_modulo, defScope s_coprime_modulo, []⟩
abbrev s_height : Stmt := top 20
abbrev N_height : List Str := ["coefs", "c"]
theorem sc_height : FnScope N_height ["coefs"] (defScope s_height) := ⟨rfl, rfl, rfl, by decide +kernel, rfl, by decide +kernel, by decide +kernel⟩
abbrev d_height : DefG := ⟨fun K => He.fAd K ("height", none), "height", "height", defArgs s_height, defBody s_height, defScope s_height, []⟩
abbrev s_evaluated : Stmt := top 21
abbrev N_evaluated : List Str := ["coefs", "at", "total", "c"]
theorem sc_evaluated : FnScope N_evaluated ["coefs", "at"] (defScope s_evaluated) := ⟨rfl, rfl, rfl, by decide +kernel, rfl, by decide +kernel, by decide +kernel⟩
abbrev d_evaluated : DefG := ⟨fun K => He.fAd K ("evaluated", none), "evaluated", "evaluated", defArgs s_evaluated, defBody s_evaluated, defScope s_evaluated, []⟩
abbrev s__digits : Stmt := top 52
abbrev N__digits : List Str := ["number", "base", "digits", "digit"]
theorem sc__digits : FnScope N__digits ["number", "base"] (defScope s__digits) := ⟨rfl, rfl, rfl, by decide +kernel, rfl, by decide +kernel, by decide +kernel⟩
abbrev d__digits : DefG := ⟨fun K => He.fAd K ("_digits", none), "_digits", "_digits", defArgs s__digits, defBody s__digits, defScope s__digits, []⟩
abbrev s__divide_coefs : Stmt := top 47
abbrev N__divide_coefs : List Str := ["first", "second", "count", "quotient", "rest", "factor", "lead", "at", "top", "scale", "share", "i", "c", "_"]
theorem sc__divide_coefs : FnScope N__divide_coefs ["first", "second"] (defScope s__divide_coefs) := ⟨rfl, rfl, rfl, by decide +kernel, rfl, by decide +kernel, by decide +kernel⟩
abbrev d__divide_coefs : DefG := ⟨fun K => He.fAd K ("_divide_coefs", none), "_divide_coefs", "_divide_coefs", defArgs s__divide_coefs, defBody s__divide_coefs, defScope s__divide_coefs, []⟩
abbrev s_divide : Stmt := top 46
abbrev N_divide : List Str := ["p", "q", "quotient", "rest", "factor", "den", "c"]
theorem sc_divide : FnScope N_divide ["p", "q"] (defScope s_divide) := ⟨rfl, rfl, rfl, by decide +kernel, rfl, by decide +kernel, by decide +kernel⟩
abbrev d_divide : DefG := ⟨fun K => He.fAd K ("divide", none), "divide", "divide", defArgs s_divide, defBody s_divide, defScope s_divide, []⟩
abbrev s__divides : Stmt := top 53
abbrev N__divides : List Str := ["q", "coefs", "_", "remainder"]
theorem sc__divides : FnScope N__divides ["q", "coefs"] (defScope s__divides) := ⟨rfl, rfl, rfl, by decide +kernel, rfl, by decide +kernel, by decide +kernel⟩
abbrev d__divides : DefG := ⟨fun K => He.fAd K ("_divides", none), "_divides", "_divides", defArgs s__divides, defBody s__divides, defScope s__divides, []⟩
abbrev s__divisor_by_values : Stmt := top 51
abbrev N__divisor_by_values : List Str := ["first", "second", "at", "value", "candidate"]
theorem sc__divisor_by_values : FnScope N__divisor_by_values ["first", "second"] (defScope s__divisor_by_values) := ⟨rfl, rfl, rfl, by decide +kernel, rfl, by decide +kernel, by decide +kernel⟩
abbrev d__divisor_by_values : DefG := ⟨fun K => He.fAd K ("_divisor_by_values", none), "_divisor_by_values", "_divisor_by_values", defArgs s__divisor_by_values, defBody s__divisor_by_values, defScope s__divisor_by_values, []⟩
abbrev s_common_divisor : Stmt := top 50
abbrev N_common_divisor : List Str := ["p", "q", "first", "second"]
theorem sc_common_divisor : FnScope N_common_divisor ["p", "q"] (defScope s_common_divisor) := ⟨rfl, rfl, rfl, by decide +kernel, rfl, by decide +kernel, by decide +kernel⟩
abbrev d_common_divisor : DefG := ⟨fun K => He.fAd K ("common_divisor", none), "common_divisor", "common_divisor", defArgs s_common_divisor, defBody s_common_divisor, defScope s_common_divisor, []⟩
abbrev s_exact : Stmt := top 48
abbrev N_exact : List Str := ["p", "q", "quotient", "_"]
theorem sc_exact : FnScope N_exact ["p", "q"] (defScope s_exact) := ⟨rfl, rfl, rfl, by decide +kernel, rfl, by decide +kernel, by decide +kernel⟩
abbrev d_exact : DefG := ⟨fun K => He.fAd K ("exact", none), "exact", "exact", defArgs s_exact, defBody s_exact, defScope s_exact, []⟩
abbrev s_Fraction___init__ : Stmt := mth 37 0
abbrev N_Fraction___init__ : List Str := ["self", "num", "den", "common"]
theorem sc_Fraction___init__ : FnScope N_Fraction___init__ ["self", "num", "den"] (defScope s_Fraction___init__) := ⟨rfl, rfl, rfl, by decide +kernel, rfl, by decide +kernel, by decide +kernel⟩
abbrev d_Fraction___init__ : DefG := ⟨fun K => He.fAd K ("Fraction", some "__init__"), "__init__", "Fraction.__init__", defArgs s_Fraction___init__, defBody s_Fraction___init__, defScope s_Fraction___init__, [.int 1]⟩
abbrev s_Poly_degree : Stmt := mth 42 6
abbrev N_Poly_degree : List Str := ["self"]
theorem sc_Poly_degree : FnScope N_Poly_degree ["self"] (defScope s_Poly_degree) := ⟨rfl, rfl, rfl, by decide +kernel, rfl, by decide +kernel, by decide +kernel⟩
abbrev d_Poly_degree : DefG := ⟨fun K => gtAd K (He.ga K "Poly") "degree", "degree", "Poly.degree", defArgs s_Poly_degree, defBody s_Poly_degree, defScope s_Poly_degree, []⟩
abbrev s_Poly_coefficient : Stmt := mth 42 9
abbrev N_Poly_coefficient : List Str := ["self", "index"]
theorem sc_Poly_coefficient : FnScope N_Poly_coefficient ["self", "index"] (defScope s_Poly_coefficient) := ⟨rfl, rfl, rfl, by decide +kernel, rfl, by decide +kernel, by decide +kernel⟩
abbrev d_Poly_coefficient : DefG := ⟨fun K => He.fAd K ("Poly", some "coefficient"), "coefficient", "Poly.coefficient", defArgs s_Poly_coefficient, defBody s_Poly_coefficient, defScope s_Poly_coefficient, []⟩
abbrev s_Poly_lead : Stmt := mth 42 8
abbrev N_Poly_lead : List Str := ["self"]
theorem sc_Poly_lead : FnScope N_Poly_lead ["self"] (defScope s_Poly_lead) := ⟨rfl, rfl, rfl, by decide +kernel, rfl, by decide +kernel, by decide +kernel⟩
abbrev d_Poly_lead : DefG := ⟨fun K => gtAd K (He.ga K "Poly") "lead", "lead", "Poly.lead", defArgs s_Poly_lead, defBody s_Poly_lead, defScope s_Poly_lead, []⟩
abbrev s_Fraction_is_zero : Stmt := mth 37 6
abbrev N_Fraction_is_zero : List Str := ["self"]
theorem sc_Fraction_is_zero : FnScope N_Fraction_is_zero ["self"] (defScope s_Fraction_is_zero) := ⟨rfl, rfl, rfl, by decide +kernel, rfl, by decide +kernel, by decide +kernel⟩
abbrev d_Fraction_is_zero : DefG := ⟨fun K => gtAd K (He.ga K "Fraction") "is_zero", "is_zero", "Fraction.is_zero", defArgs s_Fraction_is_zero, defBody s_Fraction_is_zero, defScope s_Fraction_is_zero, []⟩
abbrev s__in_lowest_terms : Stmt := top 38
abbrev N__in_lowest_terms : List Str := ["num", "den", "made"]
theorem sc__in_lowest_terms : FnScope N__in_lowest_terms ["num", "den"] (defScope s__in_lowest_terms) := ⟨rfl, rfl, rfl, by decide +kernel, rfl, by decide +kernel, by decide +kernel⟩
abbrev d__in_lowest_terms : DefG := ⟨fun K => He.fAd K ("_in_lowest_terms", none), "_in_lowest_terms", "_in_lowest_terms", defArgs s__in_lowest_terms, defBody s__in_lowest_terms, defScope s__in_lowest_terms, []⟩
abbrev s_Fraction___mul__ : Stmt := mth 37 4
abbrev N_Fraction___mul__ : List Str := ["self", "other", "left", "right", "num"]
theorem sc_Fraction___mul__ : FnScope N_Fraction___mul__ ["self", "other"] (defScope s_Fraction___mul__) := ⟨rfl, rfl, rfl, by decide +kernel, rfl, by decide +kernel, by decide +kernel⟩
abbrev d_Fraction___mul__ : DefG := ⟨fun K => He.fAd K ("Fraction", some "__mul__"), "__mul__", "Fraction.__mul__", defArgs s_Fraction___mul__, defBody s_Fraction___mul__, defScope s_Fraction___mul__, []⟩
abbrev s_Fraction_over : Stmt := mth 37 8
abbrev N_Fraction_over : List Str := ["self", "other"]
theorem sc_Fraction_over : FnScope N_Fraction_over ["self", "other"] (defScope s_Fraction_over) := ⟨rfl, rfl, rfl, by decide +kernel, rfl, by decide +kernel, by decide +kernel⟩
abbrev d_Fraction_over : DefG := ⟨fun K => He.fAd K ("Fraction", some "over"), "over", "Fraction.over", defArgs s_Fraction_over, defBody s_Fraction_over, defScope s_Fraction_over, []⟩
abbrev s_Poly_scaled : Stmt := mth 42 12
abbrev N_Poly_scaled : List Str := ["self", "factor", "c"]
theorem sc_Poly_scaled : FnScope N_Poly_scaled ["self", "factor"] (defScope s_Poly_scaled) := ⟨rfl, rfl, rfl, by decide +kernel, rfl, by decide +kernel, by decide +kernel⟩
abbrev d_Poly_scaled : DefG := ⟨fun K => He.fAd K ("Poly", some "scaled"), "scaled", "Poly.scaled", defArgs s_Poly_scaled, defBody s_Poly_scaled, defScope s_Poly_scaled, []⟩
abbrev s_Quotient___init__ : Stmt := mth 85 0
abbrev N_Quotient___init__ : List Str := ["self", "num", "den", "common", "lower"]
theorem sc_Quotient___init__ : FnScope N_Quotient___init__ ["self", "num", "den"] (defScope s_Quotient___init__) := ⟨rfl, rfl, rfl, by decide +kernel, rfl, by decide +kernel, by decide +kernel⟩
abbrev d_Quotient___init__ : DefG := ⟨fun K => He.fAd K ("Quotient", some "__init__"), "__init__", "Quotient.__init__", defArgs s_Quotient___init__, defBody s_Quotient___init__, defScope s_Quotient___init__, []⟩
abbrev s__law_spoilt : Stmt := top 94
abbrev N__law_spoilt : List Str := ["numbers", "above", "below", "choice", "other", "number"]
theorem sc__law_spoilt : FnScope N__law_spoilt ["numbers", "above", "below"] (defScope s__law_spoilt) := ⟨rfl, rfl, rfl, by decide +kernel, rfl, by decide +kernel, by decide +kernel⟩
abbrev d__law_spoilt : DefG := ⟨fun K => He.fAd K ("_law_spoilt", none), "_law_spoilt", "_law_spoilt", defArgs s__law_spoilt, defBody s__law_spoilt, defScope s__law_spoilt, []⟩
abbrev s_Quotient_is_zero : Stmt := mth 85 6
abbrev N_Quotient_is_zero : List Str := ["self"]
theorem sc_Quotient_is_zero : FnScope N_Quotient_is_zero ["self"] (defScope s_Quotient_is_zero) := ⟨rfl, rfl, rfl, by decide +kernel, rfl, by decide +kernel, by decide +kernel⟩
abbrev d_Quotient_is_zero : DefG := ⟨fun K => gtAd K (He.ga K "Quotient") "is_zero", "is_zero", "Quotient.is_zero", defArgs s_Quotient_is_zero, defBody s_Quotient_is_zero, defScope s_Quotient_is_zero, []⟩
abbrev s_shifted_coefs : Stmt := top 24
abbrev N_shifted_coefs : List Str := ["coefs", "step", "found", "last", "i", "j"]
theorem sc_shifted_coefs : FnScope N_shifted_coefs ["coefs", "step"] (defScope s_shifted_coefs) := ⟨rfl, rfl, rfl, by decide +kernel, rfl, by decide +kernel, by decide +kernel⟩
abbrev d_shifted_coefs : DefG := ⟨fun K => He.fAd K ("shifted_coefs", none), "shifted_coefs", "shifted_coefs", defArgs s_shifted_coefs, defBody s_shifted_coefs, defScope s_shifted_coefs, []⟩
abbrev s_Poly_shifted : Stmt := mth 42 13
abbrev N_Poly_shifted : List Str := ["self", "step"]
theorem sc_Poly_shifted : FnScope N_Poly_shifted ["self", "step"] (defScope s_Poly_shifted) := ⟨rfl, rfl, rfl, by decide +kernel, rfl, by decide +kernel, by decide +kernel⟩
abbrev d_Poly_shifted : DefG := ⟨fun K => He.fAd K ("Poly", some "shifted"), "shifted", "Poly.shifted", defArgs s_Poly_shifted, defBody s_Poly_shifted, defScope s_Poly_shifted, []⟩
abbrev s__plain_product : Stmt := top 27
abbrev N__plain_product : List Str := ["first", "second", "found", "i", "x", "j", "y", "_"]
theorem sc__plain_product : FnScope N__plain_product ["first", "second"] (defScope s__plain_product) := ⟨rfl, rfl, rfl, by decide +kernel, rfl, by decide +kernel, by decide +kernel⟩
abbrev d__plain_product : DefG := ⟨fun K => He.fAd K ("_plain_product", none), "_plain_product", "_plain_product", defArgs s__plain_product, defBody s__plain_product, defScope s__plain_product, []⟩
abbrev s_multiplied : Stmt := top 26
abbrev N_multiplied : List Str := ["first", "second", "largest", "bits", "number"]
theorem sc_multiplied : FnScope N_multiplied ["first", "second"] (defScope s_multiplied) := ⟨rfl, rfl, rfl, by decide +kernel, rfl, by decide +kernel, by decide +kernel⟩
abbrev d_multiplied : DefG := ⟨fun K => He.fAd K ("multiplied", none), "multiplied", "multiplied", defArgs s_multiplied, defBody s_multiplied, defScope s_multiplied, []⟩
abbrev s_Poly___mul__ : Stmt := mth 42 4
abbrev N_Poly___mul__ : List Str := ["self", "other"]
theorem sc_Poly___mul__ : FnScope N_Poly___mul__ ["self", "other"] (defScope s_Poly___mul__) := ⟨rfl, rfl, rfl, by decide +kernel, rfl, by decide +kernel, by decide +kernel⟩
abbrev d_Poly___mul__ : DefG := ⟨fun K => He.fAd K ("Poly", some "__mul__"), "__mul__", "Poly.__mul__", defArgs s_Poly___mul__, defBody s_Poly___mul__, defScope s_Poly___mul__, []⟩
abbrev s_Poly___neg__ : Stmt := mth 42 5
abbrev N_Poly___neg__ : List Str := ["self", "c"]
theorem sc_Poly___neg__ : FnScope N_Poly___neg__ ["self"] (defScope s_Poly___neg__) := ⟨rfl, rfl, rfl, by decide +kernel, rfl, by decide +kernel, by decide +kernel⟩
abbrev d_Poly___neg__ : DefG := ⟨fun K => He.fAd K ("Poly", some "__neg__"), "__neg__", "Poly.__neg__", defArgs s_Poly___neg__, defBody s_Poly___neg__, defScope s_Poly___neg__, []⟩
abbrev s__coefs_over : Stmt := top 43
abbrev N__coefs_over : List Str := ["p", "den", "scale", "c"]
theorem sc__coefs_over : FnScope N__coefs_over ["p", "den"] (defScope s__coefs_over) := ⟨rfl, rfl, rfl, by decide +kernel, rfl, by decide +kernel, by decide +kernel⟩
abbrev d__coefs_over : DefG := ⟨fun K => He.fAd K ("_coefs_over", none), "_coefs_over", "_coefs_over", defArgs s__coefs_over, defBody s__coefs_over, defScope s__coefs_over, []⟩
abbrev s_added : Stmt := top 25
abbrev N_added : List Str := ["first", "second", "x", "y"]
theorem sc_added : FnScope N_added ["first", "second"] (defScope s_added) := ⟨rfl, rfl, rfl, by decide +kernel, rfl, by decide +kernel, by decide +kernel⟩
abbrev d_added : DefG := ⟨fun K => He.fAd K ("added", none), "added", "added", defArgs s_added, defBody s_added, defScope s_added, []⟩
abbrev s_Poly___add__ : Stmt := mth 42 2
abbrev N_Poly___add__ : List Str := ["self", "other", "den"]
theorem sc_Poly___add__ : FnScope N_Poly___add__ ["self", "other"] (defScope s_Poly___add__) := ⟨rfl, rfl, rfl, by decide +kernel, rfl, by decide +kernel, by decide +kernel⟩
abbrev d_Poly___add__ : DefG := ⟨fun K => He.fAd K ("Poly", some "__add__"), "__add__", "Poly.__add__", defArgs s_Poly___add__, defBody s_Poly___add__, defScope s_Poly___add__, []⟩
abbrev s_Poly___sub__ : Stmt := mth 42 3
abbrev N_Poly___sub__ : List Str := ["self", "other"]
theorem sc_Poly___sub__ : FnScope N_Poly___sub__ ["self", "other"] (defScope s_Poly___sub__) := ⟨rfl, rfl, rfl, by decide +kernel, rfl, by decide +kernel, by decide +kernel⟩
abbrev d_Poly___sub__ : DefG := ⟨fun K => He.fAd K ("Poly", some "__sub__"), "__sub__", "Poly.__sub__", defArgs s_Poly___sub__, defBody s_Poly___sub__, defScope s_Poly___sub__, []⟩
abbrev s_Poly___eq__ : Stmt := mth 42 1
abbrev N_Poly___eq__ : List Str := ["self", "other"]
theorem sc_Poly___eq__ : FnScope N_Poly___eq__ ["self", "other"] (defScope s_Poly___eq__) := ⟨rfl, rfl, rfl, by decide +kernel, rfl, by decide +kernel, by decide +kernel⟩
abbrev d_Poly___eq__ : DefG := ⟨fun K => He.fAd K ("Poly", some "__eq__"), "__eq__", "Poly.__eq__", defArgs s_Poly___eq__, defBody s_Poly___eq__, defScope s_Poly___eq__, []⟩
abbrev s__is_closed_form : Stmt := top 80
abbrev N__is_closed_form : List Str := ["ratio", "y", "below", "left"]
theorem sc__is_closed_form : FnScope N__is_closed_form ["ratio", "y"] (defScope s__is_closed_form) := ⟨rfl, rfl, rfl, by decide +kernel, rfl, by decide +kernel, by decide +kernel⟩
abbrev d__is_closed_form : DefG := ⟨fun K => He.fAd K ("_is_closed_form", none), "_is_closed_form", "_is_closed_form", defArgs s__is_closed_form, defBody s__is_closed_form, defScope s__is_closed_form, []⟩
abbrev s_accepts_running : Stmt := top 79
abbrev N_accepts_running : List Str := ["ratio", "certificate", "_", "a", "b", "c", "u", "v", "w", "f"]
theorem sc_accepts_running : FnScope N_accepts_running ["ratio", "certificate"] (defScope s_accepts_running) := ⟨rfl, rfl, rfl, by decide +kernel, rfl, by decide +kernel, by decide +kernel⟩
abbrev d_accepts_running : DefG := ⟨fun K => He.fAd K ("accepts_running", none), "accepts_running", "accepts_running", defArgs s_accepts_running, defBody s_accepts_running, defScope s_accepts_running, []⟩
abbrev s__law_is_closed : Stmt := top 93
abbrev N__law_is_closed : List Str := ["num", "den", "above", "below", "left", "right", "due"]
theorem sc__law_is_closed : FnScope N__law_is_closed ["num", "den", "above", "below"] (defScope s__law_is_closed) := ⟨rfl, rfl, rfl, by decide +kernel, rfl, by decide +kernel, by decide +kernel⟩
abbrev d__law_is_closed : DefG := ⟨fun K => He.fAd K ("_law_is_closed", none), "_law_is_closed", "_law_is_closed", defArgs s__law_is_closed, defBody s__law_is_closed, defScope s__law_is_closed, []⟩
abbrev s_Operator___init__ : Stmt := mth 63 0
abbrev N_Operator___init__ : List Str := ["self", "coefs", "kept"]
theorem sc_Operator___init__ : FnScope N_Operator___init__ ["self", "coefs"] (defScope s_Operator___init__) := ⟨rfl, rfl, rfl, by decide +kernel, rfl, by decide +kernel, by decide +kernel⟩
abbrev d_Operator___init__ : DefG := ⟨fun K => He.fAd K ("Operator", some "__init__"), "__init__", "Operator.__init__", defArgs s_Operator___init__, defBody s_Operator___init__, defScope s_Operator___init__, []⟩
abbrev s_Poly2___init__ : Stmt := mth 70 0
abbrev N_Poly2___init__ : List Str := ["self", "rows", "kept"]
theorem sc_Poly2___init__ : FnScope N_Poly2___init__ ["self", "rows"] (defScope s_Poly2___init__) := ⟨rfl, rfl, rfl, by decide +kernel, rfl, by decide +kernel, by decide +kernel⟩
abbrev d_Poly2___init__ : DefG := ⟨fun K => He.fAd K ("Poly2", some "__init__"), "__init__", "Poly2.__init__", defArgs s_Poly2___init__, defBody s_Poly2___init__, defScope s_Poly2___init__, []⟩
abbrev s__law_refuses_others : Stmt := top 95
abbrev N__law_refuses_others : List Str := ["ratio"]
theorem sc__law_refuses_others : FnScope N__law_refuses_others ["ratio"] (defScope s__law_refuses_others) := ⟨rfl, rfl, rfl, by decide +kernel, rfl, by decide +kernel, by decide +kernel⟩
abbrev d__law_refuses_others : DefG := ⟨fun K => He.fAd K ("_law_refuses_others", none), "_law_refuses_others", "_law_refuses_others", defArgs s__law_refuses_others, defBody s__law_refuses_others, defScope s__law_refuses_others, []⟩
abbrev s_law : Stmt := top 96
abbrev N_law : List Str := ["script", "numbers", "parts", "growth", "num", "den", "ratio", "made", "y", "actual", "refused", "number"]
theorem sc_law : FnScope N_law ["script"] (defScope s_law) := ⟨rfl, rfl, rfl, by decide +kernel, rfl, by decide +kernel, by decide +kernel⟩
abbrev d_law : DefG := ⟨fun K => He.fAd K ("law", none), "law", "law", defArgs s_law, defBody s_law, defScope s_law, []⟩
/-! ### the head -/
abbrev DN__law_numbers : Nat := 0
abbrev DN__law_product : Nat := 1
abbrev DN__law_trimmed : Nat := 2
abbrev DN__law_ratio : Nat := 3
abbrev DN__law_minus : Nat := 4
abbrev DN__law_shifted : Nat := 5
abbrev DN_trimmed : Nat := 6
abbrev DN_common_factor : Nat := 7
abbrev DN_Poly___init__ : Nat := 8
abbrev DN_Poly_is_zero : Nat := 9
abbrev DN_monic : Nat := 10
abbrev DN_primitive : Nat := 11
abbrev DN_remainders : Nat := 12
abbrev DN_inverse_modulo : Nat := 13
abbrev DN_divided_modulo : Nat := 14
abbrev DN_divisor_modulo : Nat := 15
abbrev DN_coprime_modulo : Nat := 16
abbrev DN_height : Nat := 17
abbrev DN_evaluated : Nat := 18
abbrev DN__digits : Nat := 19
abbrev DN__divide_coefs : Nat := 20
abbrev DN_divide : Nat := 21
abbrev DN__divides : Nat := 22
abbrev DN__divisor_by_values : Nat := 23
abbrev DN_common_divisor : Nat := 24
abbrev DN_exact : Nat := 25
abbrev DN_Fraction___init__ : Nat := 26
abbrev DN_Poly_degree : Nat := 27
abbrev DN_Poly_coefficient : Nat := 28
abbrev DN_Poly_lead : Nat := 29
abbrev DN_Fraction_is_zero : Nat := 30
abbrev DN__in_lowest_terms : Nat := 31
abbrev DN_Fraction___mul__ : Nat := 32
abbrev DN_Fraction_over : Nat := 33
abbrev DN_Poly_scaled : Nat := 34
abbrev DN_Quotient___init__ : Nat := 35
abbrev DN__law_spoilt : Nat := 36
abbrev DN_Quotient_is_zero : Nat := 37
abbrev DN_shifted_coefs : Nat := 38
abbrev DN_Poly_shifted : Nat := 39
abbrev DN__plain_product : Nat := 40
abbrev DN_multiplied : Nat := 41
abbrev DN_Poly___mul__ : Nat := 42
abbrev DN_Poly___neg__ : Nat := 43
abbrev DN__coefs_over : Nat := 44
abbrev DN_added : Nat := 45
abbrev DN_Poly___add__ : Nat := 46
abbrev DN_Poly___sub__ : Nat := 47
abbrev DN_Poly___eq__ : Nat := 48
abbrev DN__is_closed_form : Nat := 49
abbrev DN_accepts_running : Nat := 50
abbrev DN__law_is_closed : Nat := 51
abbrev DN_Operator___init__ : Nat := 52
abbrev DN_Poly2___init__ : Nat := 53
abbrev DN__law_refuses_others : Nat := 54
abbrev DN_law : Nat := 55
def fnL : List DefG := [d__law_numbers, d__law_product, d__law_trimmed, d__law_ratio, d__law_minus, d__law_shifted, d_trimmed, d_common_factor, d_Poly___init__, d_Poly_is_zero, d_monic, d_primitive, d_remainders, d_inverse_modulo, d_divided_modulo, d_divisor_modulo, d_coprime_modulo, d_height, d_evaluated, d__digits, d__divide_coefs, d_divide, d__divides, d__divisor_by_values, d_common_divisor, d_exact, d_Fraction___init__, d_Poly_degree, d_Poly_coefficient, d_Poly_lead, d_Fraction_is_zero, d__in_lowest_terms, d_Fraction___mul__, d_Fraction_over, d_Poly_scaled, d_Quotient___init__, d__law_spoilt, d_Quotient_is_zero, d_shifted_coefs, d_Poly_shifted, d__plain_product, d_multiplied, d_Poly___mul__, d_Poly___neg__, d__coefs_over, d_added, d_Poly___add__, d_Poly___sub__, d_Poly___eq__, d__is_closed_form, d_accepts_running, d__law_is_closed, d_Operator___init__, d_Poly2___init__, d__law_refuses_others, d_law]
def faL : List He.Fa := [.cls "Fraction", .cls "Operator", .cls "Poly", .cls "Poly2", .cls "Quotient", .meth "Fraction" "__mul__", .meth "Poly" "__add__", .meth "Poly" "__eq__", .meth "Poly" "__mul__", .meth "Poly" "__neg__", .meth "Poly" "__sub__", .glo "DivisionByZero", .glo "Fraction", .glo "Operator", .int "PRIME" 2305843009213693951, .glo "Poly", .glo "Poly2", .glo "Quotient", .int "SHORT" 8, .glo "ZeroPolynomial", .glo "_coefs_over", .glo "_digits", .glo "_divide_coefs", .glo "_divides", .glo "_divisor_by_values", .glo "_in_lowest_terms", .glo "_is_closed_form", .glo "_law_is_closed", .glo "_law_minus", .glo "_law_numbers", .glo "_law_product", .glo "_law_ratio", .glo "_law_refuses_others", .glo "_law_shifted", .glo "_law_spoilt", .glo "_law_trimmed", .glo "_plain_product", .glo "accepts_running", .glo "added", .glo "common_divisor", .glo "common_factor", .glo "coprime_modulo", .glo "divide", .glo "divided_modulo", .glo "divisor_modulo", .glo "evaluated", .glo "exact", .glo "height", .glo "inverse_modulo", .glo "law", .glo "monic", .glo "multiplied", .glo "primitive", .glo "remainders", .glo "shifted_coefs", .glo "trimmed", .exc "DivisionByZero", .exc "ZeroPolynomial", .meth "Fraction" "over", .meth "Poly" "coefficient", .meth "Poly" "scaled", .meth "Poly" "shifted", .mkr "Fraction", .mkr "Operator", .mkr "Poly", .mkr "Poly2", .mkr "Quotient", .noat "Fraction" "den", .noat "Fraction" "num", .noat "Operator" "coefs", .noat "Poly2" "rows", .noat "Poly" "coefs", .noat "Poly" "den", .noat "Quotient" "den", .noat "Quotient" "num", .free "abs", .free "bool", .free "enumerate", .free "isinstance", .free "len", .free "list", .free "max", .free "min", .free "range", .free "reversed", .free "tuple"]
def exL (K : PySem.W.Frag) : List Bool := [decide (PySem.W.exmOne K (.ref (He.ga K "ZeroPolynomial")) (.ref (He.ga K "ZeroPolynomial")) = some true),
  PySem.W.selfFirst K (He.ga K "Fraction"),
  PySem.W.selfFirst K (He.ga K "Poly"),
  He.eqO (PySem.W.nsIn K mainGlobals "gcd") (some (some (.builtin "math.gcd"))),
  He.eqO (PySem.W.nsIn K mainGlobals "lcm") (some (some (.builtin "math.lcm"))),
  He.eqO (PySem.W.nsIn K mainGlobals "zip_longest") (some (some (.type "itertools.zip_longest"))),
  PySem.W.notFirst K (He.ga K "Poly") (.ref (He.ga K "Poly")),
  propB K (He.ga K "Fraction") "is_zero",
  propB K (He.ga K "Poly") "degree",
  propB K (He.ga K "Poly") "is_zero",
  propB K (He.ga K "Poly") "lead",
  propB K (He.ga K "Quotient") "is_zero",
  He.eqO (PySem.W.findIn K (.ref (He.ga K "Poly")) "__class__") (some (some (.builtin "object.__class__"))),
  He.eqO (PySem.W.specialIn K (.builtin "object.__class__") "__get__") (some (some (.builtin "getset_descriptor.__get__"))),
  decide (PySem.W.takesIn K (.builtin "object.__class__") = some true),
  decide (PySem.W.mroIn K (He.ga K "Poly") (.type "object") = some true)]
abbrev R : PySem.W.OpenRow := PySem.W.OpenLaw.row PySem.Challenge.rw_certsums_k69_closed_accepted
def hookL (as : List Addr) (fa : List He.Fa) (fn : List DefG) (ex : PySem.W.Frag → List Bool) : PySem.W.Hook where
  α := AlG
  obs := fun s => obsG fa fn ex (He.frG s.heap.get? as)
  val := fun _ => valG fn
  says := fun _ h => ∃ K : PySem.W.Frag, K.In h ∧ SaysG fa fn ex K
  of := fun _ _ e => ⟨_, He.frG_in, e⟩
  keeps := fun _ _ _ ⟨K, hK, c⟩ k => ⟨K, PySem.W.Frag.In.keeps hK k, c⟩
def asL : List Addr := [6, 0, 1, 2, 3, 4, 5, 7, 8, 9, 10, 11, 12, 13, 14, 15, 16, 17, 18, 19, 20, 21, 22, 23, 24, 25, 26, 27, 28, 29, 30, 31, 32, 33, 34, 35, 36, 37, 38, 39, 40, 41, 42, 43, 44, 45, 46, 47, 48, 49, 50, 51, 52, 53, 54, 55, 56, 57, 58, 59, 60, 61, 62, 63, 64, 65, 66, 67, 68, 69, 70, 71, 72, 73, 74, 75, 76, 77, 78, 79, 80, 81, 82, 83, 84, 85, 86, 87, 88, 89, 90, 91, 92, 93, 94, 95, 96, 97, 98, 99, 100, 101, 102, 103, 104, 105, 106, 107, 108, 109, 110, 111, 112, 113, 114, 115, 116, 117, 118, 119, 120, 121, 122, 123, 124, 125, 126, 127, 128, 129, 130, 131, 132, 133, 134, 135, 136, 137, 138, 139, 140, 141, 142, 143, 144, 145, 146, 147, 148, 149, 150, 151, 152, 153, 154, 155, 156, 157, 158, 159, 160, 161, 162, 163, 164, 165, 166, 167, 168, 169, 170, 171, 172, 173, 174, 175, 176, 177, 178, 179, 180, 181, 182, 183, 184, 185, 186, 187, 188, 189, 190, 191, 192, 193, 194, 195, 196, 197, 198, 199, 200, 201, 202, 203, 204, 205, 206, 207, 208, 209, 210, 211, 212, 213, 214, 215, 216, 217, 218, 219, 220, 221, 222, 223, 224, 225, 226, 227, 228, 229, 230, 231, 232, 233, 234, 235, 236, 237, 238, 239, 240, 241, 242, 243, 244, 245, 246, 247, 248, 249, 250, 251, 252, 253, 254, 255, 256, 257, 258, 259, 260, 261, 262, 263, 264, 265, 266, 267, 268, 269, 270, 271, 272, 273, 274, 275, 276, 277, 278, 279, 280, 281, 282, 283, 284, 285, 286, 287, 288, 289, 290, 291, 292, 293, 294, 295, 296, 297, 298, 299, 300, 301, 302, 303, 304, 305, 306, 307, 308, 309, 310, 311, 312, 313, 314, 315, 316, 317, 318, 319, 320, 321, 322, 323, 324, 325, 326, 327, 328, 329, 330, 331, 332, 333, 334, 335, 336, 337, 338, 339, 340, 341, 342, 343, 344, 345, 346, 347, 348, 349, 350, 351, 352, 353, 354, 355, 356, 357, 358, 359, 360, 361, 362, 363, 364, 365, 366, 367, 368, 369, 370, 371, 372, 373, 374, 375, 376, 377, 378, 379, 380, 381, 382, 383, 384, 385, 386, 387, 388, 389, 390, 391, 392, 393, 394, 395, 396, 397, 398, 399, 400, 401, 402, 403, 404, 405, 406, 407, 408, 409, 410, 411, 412, 413, 414, 415, 416, 417, 418, 419, 420, 421, 422, 423, 424, 425, 426, 427, 428, 429, 430, 431, 432, 433, 434, 435, 436, 437, 438, 439, 440, 441, 442, 443, 444, 445, 446, 447, 448, 449, 450, 451, 452, 453, 454, 455, 456, 457, 458, 459, 460, 461, 462, 463, 464, 465, 466, 467, 468, 469, 470, 471, 472, 473, 474, 475, 476, 477, 478, 479, 480, 481, 482, 483, 484, 485, 486, 487, 488, 489, 490, 491, 492, 493, 494, 495, 496, 497, 498, 499, 500, 501, 502, 503, 504, 505, 506, 507, 508, 509, 510, 511, 512, 513, 514, 515, 516, 517, 518, 519, 520, 521, 522, 523, 524, 525, 526, 527, 528, 529, 530, 531, 532, 533, 534, 535, 536, 537, 538, 539, 540, 541, 542, 543, 544, 545, 546, 547, 548, 549, 550, 551, 552, 553, 554, 555, 556, 557, 558, 559, 560, 561, 562, 563, 564, 565, 566, 567, 568, 569, 570, 571, 572, 573, 574, 575, 576, 577, 578, 579, 580, 581, 582, 583, 584, 585, 586, 587, 588, 589, 590, 591, 592, 593, 594, 595, 596, 597, 598, 599, 600, 601, 602, 603, 604, 605, 606, 607, 608, 609, 610, 611, 612, 613, 614, 615, 616, 617, 618, 619, 620, 621, 622, 623, 624, 625, 626, 627, 628, 629, 630, 631, 632, 633, 634, 635, 636, 637, 638, 639, 640, 641, 642, 643, 644, 645, 646, 647, 648, 649, 650, 651, 652, 653, 654, 655, 656, 657, 658, 659, 660, 661, 662, 663, 664, 665, 666, 667, 668, 669, 670, 671, 672, 673, 674, 675, 676, 677, 678, 679, 680, 681, 682, 683, 684, 685, 686, 687, 688, 689, 690, 691, 692, 693, 694, 695, 696, 697, 698, 699, 700, 701, 702, 703, 704, 705, 706, 707, 708, 709, 710, 711, 712, 713, 714, 715, 716, 717, 718, 719, 720, 721, 722, 723, 724, 725, 726, 727, 728, 729, 730, 731, 732, 733, 734, 735, 736, 737, 738, 739, 740, 741, 742, 743, 744, 745, 746, 747, 748, 749, 750, 751, 752, 753, 754, 755, 756, 757, 758, 759, 760, 761, 762, 763, 764, 765, 766, 767, 768, 769, 770, 771, 772, 773, 774, 775, 776, 777, 778, 779, 780, 781, 782, 783, 784, 785, 786, 787, 788, 789, 790, 791, 792, 793, 794, 795, 796, 797, 798, 799, 800, 801, 802, 803, 804, 805, 806, 807, 808, 809, 810, 811, 812, 813, 814, 815, 816, 817, 818, 819, 820, 821, 822, 823, 824, 825, 826, 827, 828, 829, 830, 831, 832, 833, 834, 835, 836, 837, 838, 839, 840, 841, 842, 843, 844, 845, 846, 847, 848, 849, 850, 851, 852, 853, 854, 855, 856, 857, 858, 859, 860, 861, 862, 863, 864, 865, 866, 867, 868, 869, 870, 871, 872, 873, 874, 875, 876, 877, 878, 879, 880, 881, 882, 883, 884, 885, 886, 887, 888, 889, 890, 891, 892, 893, 894, 895, 896, 897, 898, 899, 900, 901, 902, 903, 904, 905, 906, 907, 908, 909, 910, 911, 912, 913, 914, 915, 916, 917, 918, 919, 920, 921, 922, 923, 924, 925, 926, 927, 928, 929, 930, 931, 932, 933, 934, 935, 936, 937, 938, 939, 940, 941, 942, 943, 944, 945, 946, 947, 948, 949, 950, 951, 952, 953, 954, 955, 956, 957, 958, 959, 960, 961, 962, 963, 964, 965, 966, 967, 968, 969, 970, 971, 972, 973, 974, 975, 976, 977, 978, 979, 980, 981, 982, 983, 984, 985, 986, 987, 988, 989, 990, 991, 992, 993, 994, 995, 996, 997, 998, 999, 1000, 1001, 1002, 1003, 1004, 1005, 1006, 1007, 1008, 1009, 1010, 1011, 1012, 1013, 1014, 1015, 1016, 1017, 1018, 1019, 1020, 1021, 1022, 1023, 1024, 1025, 1026, 1027, 1028, 1029, 1030, 1031, 1032, 1033, 1034, 1035, 1036, 1037, 1038, 1039, 1040, 1041, 1042, 1043, 1044, 1045, 1046, 1047, 1048, 1049, 1050, 1051, 1052, 1053, 1054, 1055, 1056, 1057, 1058, 1059, 1060, 1061, 1062, 1063, 1064, 1065, 1066, 1067, 1068, 1069, 1070, 1071, 1072, 1073, 1074, 1075, 1076, 1077, 1078, 1079, 1080, 1081, 1082, 1083, 1084, 1085, 1086, 1087, 1088, 1089, 1090, 1091, 1092, 1093, 1094, 1095, 1096, 1097, 1098, 1099, 1100, 1101, 1102, 1103, 1104, 1105, 1106, 1107, 1108, 1109, 1110, 1111, 1112, 1113, 1114, 1115, 1116, 1117, 1118, 1119, 1120, 1121, 1122, 1123, 1124, 1125, 1126, 1127, 1128, 1129, 1130, 1131, 1132, 1133, 1134, 1135, 1136, 1137, 1138, 1139, 1140, 1141, 1142, 1143, 1144, 1145, 1146, 1147, 1148, 1149, 1150, 1151, 1152, 1153, 1154, 1155, 1156, 1157, 1158, 1159, 1160, 1161, 1162, 1163, 1164, 1165, 1166, 1167, 1168, 1169, 1170, 1171, 1172, 1173, 1174, 1175, 1176, 1177, 1178, 1179, 1180, 1181, 1182, 1183, 1184, 1185, 1186, 1187, 1188, 1189, 1190, 1191, 1192, 1193, 1194, 1195, 1196, 1197, 1198, 1199, 1200, 1201, 1202, 1203, 1204, 1205, 1206, 1207, 1208, 1209, 1210, 1211, 1212, 1213, 1214, 1215, 1216, 1217, 1218, 1219, 1220, 1221, 1222, 1223, 1224, 1225, 1226, 1227, 1228, 1229, 1230, 1231, 1232, 1233, 1234, 1235, 1236, 1237, 1238, 1239, 1240, 1241, 1242, 1243, 1244, 1245, 1246, 1247, 1248, 1249, 1250, 1251, 1252, 1253, 1254, 1255, 1256, 1257, 1258, 1259, 1260, 1261, 1262, 1263, 1264, 1265, 1266, 1267, 1268, 1269, 1270, 1271, 1272, 1273, 1274, 1275, 1276, 1277, 1278, 1279, 1280, 1281, 1282, 1283, 1284, 1285, 1286, 1287, 1288, 1289, 1290, 1291, 1292, 1293, 1294, 1295, 1296, 1297, 1298, 1299, 1300, 1301, 1302, 1303, 1304, 1305, 1306, 1307, 1308, 1309, 1310, 1311, 1312, 1313, 1314, 1315, 1316, 1317, 1318, 1319, 1320, 1321, 1322, 1323, 1324, 1325, 1326, 1327, 1328, 1329, 1330, 1331, 1332, 1333, 1334, 1335, 1336, 1337, 1338, 1339, 1340, 1341, 1342, 1343, 1344, 1345, 1346, 1347, 1348, 1349, 1350, 1351, 1352, 1353, 1354, 1355, 1356, 1357, 1358, 1359, 1360, 1361, 1362, 1363, 1364, 1365, 1366, 1367, 1368, 1369, 1370, 1371, 1372, 1373, 1374, 1375, 1376, 1377, 1378, 1379, 1380, 1381, 1382, 1383, 1384, 1385, 1386, 1387, 1388, 1389, 1390, 1391, 1392, 1393, 1394, 1395, 1396, 1397, 1398, 1399, 1400, 1401, 1402, 1403, 1404, 1405, 1406, 1407, 1408, 1409, 1410, 1411, 1412, 1413, 1414, 1415, 1416, 1417, 1418, 1419, 1420, 1421, 1422, 1423, 1424, 1425, 1426, 1427, 1428, 1429, 1430, 1431, 1432, 1433, 1434, 1435, 1436, 1437, 1438, 1439, 1440, 1441, 1442, 1443, 1444, 1445, 1446, 1447, 1448, 1449, 1450, 1451, 1452, 1453, 1454, 1455, 1456, 1457, 1458, 1459, 1460, 1461, 1462, 1463, 1464, 1465, 1466, 1467, 1468, 1469, 1470, 1471, 1472, 1473, 1474, 1475, 1476, 1477, 1478, 1479, 1480, 1481, 1482, 1483, 1484, 1485, 1486, 1487, 1488, 1489, 1490, 1491, 1492, 1493, 1494, 1495, 1496, 1497, 1498, 1499, 1500, 1501, 1502, 1503, 1504, 1505, 1506, 1507, 1508, 1509, 1510, 1511, 1512, 1513, 1514, 1515, 1516, 1517, 1518, 1519, 1520, 1521, 1522, 1523, 1524, 1525, 1526, 1527, 1528, 1529, 1530, 1531, 1532, 1533, 1534, 1535, 1536, 1537, 1538, 1539, 1540, 1541, 1542, 1543, 1544, 1545, 1546, 1547, 1548, 1549, 1550, 1551, 1552, 1553, 1554, 1555, 1556, 1557, 1558, 1559, 1560, 1561, 1562, 1563, 1564, 1565, 1566, 1567, 1568, 1569, 1570, 1571, 1572, 1573, 1574, 1575, 1576, 1577, 1578, 1579, 1580, 1581, 1582, 1583, 1584, 1585, 1586, 1587, 1588, 1589, 1590, 1591, 1592, 1593, 1594, 1595, 1596, 1597, 1598, 1599]
abbrev hk : PySem.W.Hook := hookL asL faL fnL exL
def ob (s : PySem.W.SharedT) : AlG := obsG faL fnL exL (He.frG (HandSHeadRun.getT s) asL)
theorem ob_eq (s : PySem.W.SharedT) : ob s = hk.obs s.abs := by
  have e : HandSHeadRun.getT s = s.abs.heap.get? := funext (HandSHeadRun.getT_eq s)
  show obsG faL fnL exL (He.frG (HandSHeadRun.getT s) asL) = obsG faL fnL exL (He.frG s.abs.heap.get? asL)
  rw [e]
def names : List Str := (["_wall", "SummationError", "DivisionByZero", "ZeroPolynomial", "Pole", "SHORT", "power_of", "total_of", "inverse_modulo", "next_prime", "_is_prime", "inner", "common_den", "common_factor", "trimmed", "primitive", "height", "evaluated", "value_modulo", "derivative", "shifted_coefs", "added", "multiplied", "_plain_product", "_packed", "_unpacked", "_halves", "powered", "coprime_modulo", "divisor_modulo"] : List Str) ++ (["remainders", "divided_modulo", "Fraction", "_in_lowest_terms", "degree_bound", "Poly", "_coefs_over", "PRIME", "divide", "_divide_coefs", "exact", "monic", "common_divisor", "_divisor_by_values", "_digits", "_divides", "_refuse_zero", "roots_from", "_whole_roots", "without_multiple_roots", "_prime_with_simple_roots", "_roots_modulo", "_lifted", "Operator", "_coefficient", "_coefficient_of_product", "binomial", "MUCH", "Poly2", "_growth"] : List Str) ++ (["_product_by_rows", "_row_of_product", "_padded", "_flat", "_cut", "product_of2", "accepts_running", "_is_closed_form", "_is_normal_form", "_shows_no_distance", "_refutes", "Quotient", "_law_numbers", "_law_product", "_law_shifted", "_law_trimmed", "_law_ratio", "_law_minus", "_law_is_closed", "_law_spoilt", "_law_refuses_others"] : List Str)
abbrev vw : Program := PySem.W.view R.prog [0, 1, 96]
theorem map3 {α β γ δ : Type} {o : Option α} {f : α → β} {g : α → γ} {h : α → δ} {a : β} {b : γ} {c : δ} (h1 : o.map f = some a) (h2 : o.map g = some b) (h3 : o.map h = some c) : o.map (fun x => (f x, g x, h x)) = some (a, b, c) := by
  cases o with
  | none => cases h1
  | some x =>
    have e1 : f x = a := Option.some.inj h1
    have e2 : g x = b := Option.some.inj h2
    have e3 : h x = c := Option.some.inj h3
    show some (f x, g x, h x) = _
    rw [e1, e2, e3]
set_option maxHeartbeats 0 in
theorem run1 (w : World) : (HandSHeadRun.wholeF (fun p => HandSHeadRun.stepQ (HandSHeadRun.denQ HandSHeadRun.tabQ) p w) HandSHeadRun.fenceQ 20000 R.prog).map (fun x => HandSHeadRun.looksF R.prog x.1.heap x.2.abs) = some true := by
  kernel_rfl
set_option maxHeartbeats 0 in
theorem run2 (w : World) : (HandSHeadRun.wholeF (fun p => HandSHeadRun.stepQ (HandSHeadRun.denQ HandSHeadRun.tabQ) p w) HandSHeadRun.fenceQ 20000 R.prog).map (fun x => HandSHeadRun.seenQ vw names (importedModules R.prog.main.body) (fun s => PySem.W.xlAt vw [] s && PySem.W.recOk R.toRowW.records s) x.2.abs) = some (PySem.W.openGood vw names) := by
  kernel_rfl
def obA (s : PySem.W.SharedT) : Bool := faL.all fun f => f.ok (He.frG (HandSHeadRun.getT s) asL)
def obB0 (s : PySem.W.SharedT) : Bool := ((fnL.drop 0).take 18).all fun d => d.ok (He.frG (HandSHeadRun.getT s) asL)
def obD0 (s : PySem.W.SharedT) : List FnW := ((fnL.drop 0).take 18).map fun d => fnG (He.frG (HandSHeadRun.getT s) asL) (d.at_ (He.frG (HandSHeadRun.getT s) asL))
def obB1 (s : PySem.W.SharedT) : Bool := ((fnL.drop 18).take 19).all fun d => d.ok (He.frG (HandSHeadRun.getT s) asL)
def obD1 (s : PySem.W.SharedT) : List FnW := ((fnL.drop 18).take 19).map fun d => fnG (He.frG (HandSHeadRun.getT s) asL) (d.at_ (He.frG (HandSHeadRun.getT s) asL))
def obB2 (s : PySem.W.SharedT) : Bool := ((fnL.drop 37).take 19).all fun d => d.ok (He.frG (HandSHeadRun.getT s) asL)
def obD2 (s : PySem.W.SharedT) : List FnW := ((fnL.drop 37).take 19).map fun d => fnG (He.frG (HandSHeadRun.getT s) asL) (d.at_ (He.frG (HandSHeadRun.getT s) asL))
def obX (s : PySem.W.SharedT) : Bool := (exL (He.frG (HandSHeadRun.getT s) asL)).all id
theorem fnL_cut : fnL = ((fnL.drop 0).take 18) ++ (((fnL.drop 18).take 19) ++ ((fnL.drop 37).take 19)) := rfl
theorem ob_parts (s : PySem.W.SharedT) : ob s = (obA s && ((obB0 s && (obB1 s && (obB2 s))) && obX s), obD0 s ++ (obD1 s ++ obD2 s)) := by
  show ((faL.all fun f => f.ok (He.frG (HandSHeadRun.getT s) asL)) && ((fnL.all fun d => d.ok (He.frG (HandSHeadRun.getT s) asL)) && (exL (He.frG (HandSHeadRun.getT s) asL)).all id), fnL.map fun d => fnG (He.frG (HandSHeadRun.getT s) asL) (d.at_ (He.frG (HandSHeadRun.getT s) asL))) = _
  rw [fnL_cut, List.all_append, List.all_append, List.map_append, List.map_append]
  rfl
set_option maxHeartbeats 0 in
theorem run3A (w : World) : (HandSHeadRun.wholeF (fun p => HandSHeadRun.stepQ (HandSHeadRun.denQ HandSHeadRun.tabQ) p w) HandSHeadRun.fenceQ 20000 R.prog).map (fun x => obA x.2) = some (true) := by
  kernel_rfl
set_option maxHeartbeats 0 in
theorem run3B0 (w : World) : (HandSHeadRun.wholeF (fun p => HandSHeadRun.stepQ (HandSHeadRun.denQ HandSHeadRun.tabQ) p w) HandSHeadRun.fenceQ 20000 R.prog).map (fun x => obB0 x.2) = some (true) := by
  kernel_rfl
set_option maxHeartbeats 0 in
theorem run3B1 (w : World) : (HandSHeadRun.wholeF (fun p => HandSHeadRun.stepQ (HandSHeadRun.denQ HandSHeadRun.tabQ) p w) HandSHeadRun.fenceQ 20000 R.prog).map (fun x => obB1 x.2) = some (true) := by
  kernel_rfl
set_option maxHeartbeats 0 in
theorem run3B2 (w : World) : (HandSHeadRun.wholeF (fun p => HandSHeadRun.stepQ (HandSHeadRun.denQ HandSHeadRun.tabQ) p w) HandSHeadRun.fenceQ 20000 R.prog).map (fun x => obB2 x.2) = some (true) := by
  kernel_rfl
set_option maxHeartbeats 0 in
theorem run3X (w : World) : (HandSHeadRun.wholeF (fun p => HandSHeadRun.stepQ (HandSHeadRun.denQ HandSHeadRun.tabQ) p w) HandSHeadRun.fenceQ 20000 R.prog).map (fun x => obX x.2) = some (true) := by
  kernel_rfl
set_option maxHeartbeats 0 in
theorem run3D0 (w : World) : (HandSHeadRun.wholeF (fun p => HandSHeadRun.stepQ (HandSHeadRun.denQ HandSHeadRun.tabQ) p w) HandSHeadRun.fenceQ 20000 R.prog).map (fun x => obD0 x.2) = some (((fnL.drop 0).take 18).map DefG.val) := by
  kernel_rfl
set_option maxHeartbeats 0 in
theorem run3D1 (w : World) : (HandSHeadRun.wholeF (fun p => HandSHeadRun.stepQ (HandSHeadRun.denQ HandSHeadRun.tabQ) p w) HandSHeadRun.fenceQ 20000 R.prog).map (fun x => obD1 x.2) = some (((fnL.drop 18).take 19).map DefG.val) := by
  kernel_rfl
set_option maxHeartbeats 0 in
theorem run3D2 (w : World) : (HandSHeadRun.wholeF (fun p => HandSHeadRun.stepQ (HandSHeadRun.denQ HandSHeadRun.tabQ) p w) HandSHeadRun.fenceQ 20000 R.prog).map (fun x => obD2 x.2) = some (((fnL.drop 37).take 19).map DefG.val) := by
  kernel_rfl
theorem map4 {α : Type} {o : Option α} {f : α → PySem.W.SharedT} (hA : o.map (fun x => obA (f x)) = some (true)) (hB0 : o.map (fun x => obB0 (f x)) = some (true)) (hB1 : o.map (fun x => obB1 (f x)) = some (true)) (hB2 : o.map (fun x => obB2 (f x)) = some (true)) (hX : o.map (fun x => obX (f x)) = some (true)) (hD0 : o.map (fun x => obD0 (f x)) = some (((fnL.drop 0).take 18).map DefG.val)) (hD1 : o.map (fun x => obD1 (f x)) = some (((fnL.drop 18).take 19).map DefG.val)) (hD2 : o.map (fun x => obD2 (f x)) = some (((fnL.drop 37).take 19).map DefG.val)) : o.map (fun x => ob (f x)) = some (true, fnL.map DefG.val) := by
  cases o with
  | none => cases hA
  | some x =>
    have eA : obA (f x) = true := Option.some.inj hA
    have eB0 : obB0 (f x) = true := Option.some.inj hB0
    have eB1 : obB1 (f x) = true := Option.some.inj hB1
    have eB2 : obB2 (f x) = true := Option.some.inj hB2
    have eX : obX (f x) = true := Option.some.inj hX
    have eD0 : obD0 (f x) = ((fnL.drop 0).take 18).map DefG.val := Option.some.inj hD0
    have eD1 : obD1 (f x) = ((fnL.drop 18).take 19).map DefG.val := Option.some.inj hD1
    have eD2 : obD2 (f x) = ((fnL.drop 37).take 19).map DefG.val := Option.some.inj hD2
    show some (ob (f x)) = _
    rw [ob_parts, eA, eB0, eB1, eB2, eX, eD0, eD1, eD2]
    rfl
set_option maxHeartbeats 0 in
theorem run (w : World) : HandSHeadRun.RunEqI R vw hk ob 20000 names w := by
  have h1 := run1 w
  have h2 := run2 w
  have rA := run3A w
  have rB0 := run3B0 w
  have rB1 := run3B1 w
  have rB2 := run3B2 w
  have rX := run3X w
  have rD0 := run3D0 w
  have rD1 := run3D1 w
  have rD2 := run3D2 w
  unfold HandSHeadRun.RunEqI
  generalize (HandSHeadRun.wholeF (fun p => HandSHeadRun.stepQ (HandSHeadRun.denQ HandSHeadRun.tabQ) p w) HandSHeadRun.fenceQ 20000 R.prog) = o at h1 h2 rA rB0 rB1 rB2 rX rD0 rD1 rD2 ⊢
  exact map3 h1 h2 (map4 rA rB0 rB1 rB2 rX rD0 rD1 rD2)
set_option maxHeartbeats 0 in
theorem head0 (hc : PySem.W.WalkO vw names (PySem.W.XL vw []) hk.says R.toRowW (HandSHeadRun.topDef R.prog 96) [] (fun f vs => PySem.call f vs)) : PySem.Challenge.rw_certsums_k69_closed_accepted.Holds := by
  w_on; o_law
  refine HandSHeadRun.head_imp (r := CB.R) (q := vw) (H := CB.hk) (ob := CB.ob) (M := 20000) (loose := CB.names) (d := HandSHeadRun.topDef CB.R.prog 96) (kwd := []) CB.ob_eq
    CB.run (by kernel_rfl) (by kernel_rfl) (by kernel_rfl) (by rfl) (by first | assumption | decide +kernel) (by decide +kernel) ⟨rfl, rfl, rfl, rfl, rfl, by decide +kernel⟩ ?hw hc
  case hw => w_witness2
/-- what the written part says of this text -/
structure Tx (K : PySem.W.Frag) (mg : Str → Option Value) : Prop where
  cls_Fraction : Cls K (He.ga K "Fraction")
  cls_Operator : Cls K (He.ga K "Operator")
  cls_Poly : Cls K (He.ga K "Poly")
  cls_Poly2 : Cls K (He.ga K "Poly2")
  cls_Quotient : Cls K (He.ga K "Quotient")
  d_Fraction___init__ : Dn K d_Fraction___init__
  d_Fraction___mul__ : Dn K d_Fraction___mul__
  d_Fraction_is_zero : Dn K d_Fraction_is_zero
  d_Fraction_over : Dn K d_Fraction_over
  d_Operator___init__ : Dn K d_Operator___init__
  d_Poly2___init__ : Dn K d_Poly2___init__
  d_Poly___add__ : Dn K d_Poly___add__
  d_Poly___eq__ : Dn K d_Poly___eq__
  d_Poly___init__ : Dn K d_Poly___init__
  d_Poly___mul__ : Dn K d_Poly___mul__
  d_Poly___neg__ : Dn K d_Poly___neg__
  d_Poly___sub__ : Dn K d_Poly___sub__
  d_Poly_coefficient : Dn K d_Poly_coefficient
  d_Poly_degree : Dn K d_Poly_degree
  d_Poly_is_zero : Dn K d_Poly_is_zero
  d_Poly_lead : Dn K d_Poly_lead
  d_Poly_scaled : Dn K d_Poly_scaled
  d_Poly_shifted : Dn K d_Poly_shifted
  d_Quotient___init__ : Dn K d_Quotient___init__
  d_Quotient_is_zero : Dn K d_Quotient_is_zero
  d__coefs_over : Dn K d__coefs_over
  d__digits : Dn K d__digits
  d__divide_coefs : Dn K d__divide_coefs
  d__divides : Dn K d__divides
  d__divisor_by_values : Dn K d__divisor_by_values
  d__in_lowest_terms : Dn K d__in_lowest_terms
  d__is_closed_form : Dn K d__is_closed_form
  d__law_is_closed : Dn K d__law_is_closed
  d__law_minus : Dn K d__law_minus
  d__law_numbers : Dn K d__law_numbers
  d__law_product : Dn K d__law_product
  d__law_ratio : Dn K d__law_ratio
  d__law_refuses_others : Dn K d__law_refuses_others
  d__law_shifted : Dn K d__law_shifted
  d__law_spoilt : Dn K d__law_spoilt
  d__law_trimmed : Dn K d__law_trimmed
  d__plain_product : Dn K d__plain_product
  d_accepts_running : Dn K d_accepts_running
  d_added : Dn K d_added
  d_common_divisor : Dn K d_common_divisor
  d_common_factor : Dn K d_common_factor
  d_coprime_modulo : Dn K d_coprime_modulo
  d_divide : Dn K d_divide
  d_divided_modulo : Dn K d_divided_modulo
  d_divisor_modulo : Dn K d_divisor_modulo
  d_evaluated : Dn K d_evaluated
  d_exact : Dn K d_exact
  d_height : Dn K d_height
  d_inverse_modulo : Dn K d_inverse_modulo
  d_law : Dn K d_law
  d_monic : Dn K d_monic
  d_multiplied : Dn K d_multiplied
  d_primitive : Dn K d_primitive
  d_remainders : Dn K d_remainders
  d_shifted_coefs : Dn K d_shifted_coefs
  d_trimmed : Dn K d_trimmed
  em_ZeroPolynomial : PySem.W.exmOne K (.ref (He.ga K "ZeroPolynomial")) (.ref (He.ga K "ZeroPolynomial")) = some true
  f_Fraction___mul__ : PySem.W.isFn K (.ref (He.fAd K ("Fraction", some "__mul__"))) = true
  f_Poly___add__ : PySem.W.isFn K (.ref (He.fAd K ("Poly", some "__add__"))) = true
  f_Poly___eq__ : PySem.W.isFn K (.ref (He.fAd K ("Poly", some "__eq__"))) = true
  f_Poly___mul__ : PySem.W.isFn K (.ref (He.fAd K ("Poly", some "__mul__"))) = true
  f_Poly___neg__ : PySem.W.isFn K (.ref (He.fAd K ("Poly", some "__neg__"))) = true
  f_Poly___sub__ : PySem.W.isFn K (.ref (He.fAd K ("Poly", some "__sub__"))) = true
  first_Fraction : PySem.W.selfFirst K (He.ga K "Fraction") = true
  first_Poly : PySem.W.selfFirst K (He.ga K "Poly") = true
  g_DivisionByZero : mg "DivisionByZero" = some (.ref (He.ga K "DivisionByZero"))
  g_Fraction : mg "Fraction" = some (.ref (He.ga K "Fraction"))
  g_Operator : mg "Operator" = some (.ref (He.ga K "Operator"))
  g_PRIME : ∃ t, mg "PRIME" = some (.int 2305843009213693951 t)
  g_Poly : mg "Poly" = some (.ref (He.ga K "Poly"))
  g_Poly2 : mg "Poly2" = some (.ref (He.ga K "Poly2"))
  g_Quotient : mg "Quotient" = some (.ref (He.ga K "Quotient"))
  g_SHORT : ∃ t, mg "SHORT" = some (.int 8 t)
  g_ZeroPolynomial : mg "ZeroPolynomial" = some (.ref (He.ga K "ZeroPolynomial"))
  g__coefs_over : mg "_coefs_over" = some (.ref (He.fAd K ("_coefs_over", none)))
  g__digits : mg "_digits" = some (.ref (He.fAd K ("_digits", none)))
  g__divide_coefs : mg "_divide_coefs" = some (.ref (He.fAd K ("_divide_coefs", none)))
  g__divides : mg "_divides" = some (.ref (He.fAd K ("_divides", none)))
  g__divisor_by_values : mg "_divisor_by_values" = some (.ref (He.fAd K ("_divisor_by_values", none)))
  g__in_lowest_terms : mg "_in_lowest_terms" = some (.ref (He.fAd K ("_in_lowest_terms", none)))
  g__is_closed_form : mg "_is_closed_form" = some (.ref (He.fAd K ("_is_closed_form", none)))
  g__law_is_closed : mg "_law_is_closed" = some (.ref (He.fAd K ("_law_is_closed", none)))
  g__law_minus : mg "_law_minus" = some (.ref (He.fAd K ("_law_minus", none)))
  g__law_numbers : mg "_law_numbers" = some (.ref (He.fAd K ("_law_numbers", none)))
  g__law_product : mg "_law_product" = some (.ref (He.fAd K ("_law_product", none)))
  g__law_ratio : mg "_law_ratio" = some (.ref (He.fAd K ("_law_ratio", none)))
  g__law_refuses_others : mg "_law_refuses_others" = some (.ref (He.fAd K ("_law_refuses_others", none)))
  g__law_shifted : mg "_law_shifted" = some (.ref (He.fAd K ("_law_shifted", none)))
  g__law_spoilt : mg "_law_spoilt" = some (.ref (He.fAd K ("_law_spoilt", none)))
  g__law_trimmed : mg "_law_trimmed" = some (.ref (He.fAd K ("_law_trimmed", none)))
  g__plain_product : mg "_plain_product" = some (.ref (He.fAd K ("_plain_product", none)))
  g_accepts_running : mg "accepts_running" = some (.ref (He.fAd K ("accepts_running", none)))
  g_added : mg "added" = some (.ref (He.fAd K ("added", none)))
  g_common_divisor : mg "common_divisor" = some (.ref (He.fAd K ("common_divisor", none)))
  g_common_factor : mg "common_factor" = some (.ref (He.fAd K ("common_factor", none)))
  g_coprime_modulo : mg "coprime_modulo" = some (.ref (He.fAd K ("coprime_modulo", none)))
  g_divide : mg "divide" = some (.ref (He.fAd K ("divide", none)))
  g_divided_modulo : mg "divided_modulo" = some (.ref (He.fAd K ("divided_modulo", none)))
  g_divisor_modulo : mg "divisor_modulo" = some (.ref (He.fAd K ("divisor_modulo", none)))
  g_evaluated : mg "evaluated" = some (.ref (He.fAd K ("evaluated", none)))
  g_exact : mg "exact" = some (.ref (He.fAd K ("exact", none)))
  g_gcd : mg "gcd" = some (.builtin "math.gcd")
  g_height : mg "height" = some (.ref (He.fAd K ("height", none)))
  g_inverse_modulo : mg "inverse_modulo" = some (.ref (He.fAd K ("inverse_modulo", none)))
  g_law : mg "law" = some (.ref (He.fAd K ("law", none)))
  g_lcm : mg "lcm" = some (.builtin "math.lcm")
  g_monic : mg "monic" = some (.ref (He.fAd K ("monic", none)))
  g_multiplied : mg "multiplied" = some (.ref (He.fAd K ("multiplied", none)))
  g_primitive : mg "primitive" = some (.ref (He.fAd K ("primitive", none)))
  g_remainders : mg "remainders" = some (.ref (He.fAd K ("remainders", none)))
  g_shifted_coefs : mg "shifted_coefs" = some (.ref (He.fAd K ("shifted_coefs", none)))
  g_trimmed : mg "trimmed" = some (.ref (He.fAd K ("trimmed", none)))
  g_zip_longest : mg "zip_longest" = some (.type "itertools.zip_longest")
  k_DivisionByZero : PySem.W.keepIn K (.ref (He.ga K "DivisionByZero")) = true
  k_ZeroPolynomial : PySem.W.keepIn K (.ref (He.ga K "ZeroPolynomial")) = true
  m_Fraction_over : Meth K (He.ga K "Fraction") "over" (He.fAd K ("Fraction", some "over"))
  m_Poly_coefficient : Meth K (He.ga K "Poly") "coefficient" (He.fAd K ("Poly", some "coefficient"))
  m_Poly_scaled : Meth K (He.ga K "Poly") "scaled" (He.fAd K ("Poly", some "scaled"))
  m_Poly_shifted : Meth K (He.ga K "Poly") "shifted" (He.fAd K ("Poly", some "shifted"))
  mk_Fraction : Mk K (He.ga K "Fraction") (He.fAd K ("Fraction", some "__init__"))
  mk_Operator : Mk K (He.ga K "Operator") (He.fAd K ("Operator", some "__init__"))
  mk_Poly : Mk K (He.ga K "Poly") (He.fAd K ("Poly", some "__init__"))
  mk_Poly2 : Mk K (He.ga K "Poly2") (He.fAd K ("Poly2", some "__init__"))
  mk_Quotient : Mk K (He.ga K "Quotient") (He.fAd K ("Quotient", some "__init__"))
  n_Fraction_den : NoAttr K (He.ga K "Fraction") "den"
  n_Fraction_num : NoAttr K (He.ga K "Fraction") "num"
  n_Operator_coefs : NoAttr K (He.ga K "Operator") "coefs"
  n_Poly2_rows : NoAttr K (He.ga K "Poly2") "rows"
  n_Poly_coefs : NoAttr K (He.ga K "Poly") "coefs"
  n_Poly_den : NoAttr K (He.ga K "Poly") "den"
  n_Quotient_den : NoAttr K (He.ga K "Quotient") "den"
  n_Quotient_num : NoAttr K (He.ga K "Quotient") "num"
  nf_Poly_own : PySem.W.notFirst K (He.ga K "Poly") (.ref (He.ga K "Poly")) = true
  p_Fraction_is_zero : PropOf K (He.ga K "Fraction") "is_zero" (prAd K (He.ga K "Fraction") "is_zero") (gtAd K (He.ga K "Fraction") "is_zero")
  p_Poly_degree : PropOf K (He.ga K "Poly") "degree" (prAd K (He.ga K "Poly") "degree") (gtAd K (He.ga K "Poly") "degree")
  p_Poly_is_zero : PropOf K (He.ga K "Poly") "is_zero" (prAd K (He.ga K "Poly") "is_zero") (gtAd K (He.ga K "Poly") "is_zero")
  p_Poly_lead : PropOf K (He.ga K "Poly") "lead" (prAd K (He.ga K "Poly") "lead") (gtAd K (He.ga K "Poly") "lead")
  p_Quotient_is_zero : PropOf K (He.ga K "Quotient") "is_zero" (prAd K (He.ga K "Quotient") "is_zero") (gtAd K (He.ga K "Quotient") "is_zero")
  r_DivisionByZero : ∀ {X : Cx}, X.K = K → Raises X (.ref (He.ga K "DivisionByZero"))
  r_ZeroPolynomial : ∀ {X : Cx}, X.K = K → Raises X (.ref (He.ga K "ZeroPolynomial"))
  s_Fraction___mul__ : PySem.W.findIn K (.ref (He.ga K "Fraction")) "__mul__" = some (some (.ref (He.fAd K ("Fraction", some "__mul__"))))
  s_Poly___add__ : PySem.W.findIn K (.ref (He.ga K "Poly")) "__add__" = some (some (.ref (He.fAd K ("Poly", some "__add__"))))
  s_Poly___eq__ : PySem.W.findIn K (.ref (He.ga K "Poly")) "__eq__" = some (some (.ref (He.fAd K ("Poly", some "__eq__"))))
  s_Poly___mul__ : PySem.W.findIn K (.ref (He.ga K "Poly")) "__mul__" = some (some (.ref (He.fAd K ("Poly", some "__mul__"))))
  s_Poly___neg__ : PySem.W.findIn K (.ref (He.ga K "Poly")) "__neg__" = some (some (.ref (He.fAd K ("Poly", some "__neg__"))))
  s_Poly___sub__ : PySem.W.findIn K (.ref (He.ga K "Poly")) "__sub__" = some (some (.ref (He.fAd K ("Poly", some "__sub__"))))
  ty_Poly : ∀ {H : Hp} {a dx : Addr} {fs : List (Str × V)}, H a = some (.ins (He.ga K "Poly") dx fs) → TyX K H (.ref a) (.ref (He.ga K "Poly"))
  x_DivisionByZero : PySem.W.excIn K (He.ga K "DivisionByZero") He.veBase "ValueError.__new__" = true
  x_ZeroPolynomial : PySem.W.excIn K (He.ga K "ZeroPolynomial") He.veBase "ValueError.__new__" = true
  z_abs : mg "abs" = none
  z_bool : mg "bool" = none
  z_enumerate : mg "enumerate" = none
  z_isinstance : mg "isinstance" = none
  z_len : mg "len" = none
  z_list : mg "list" = none
  z_max : mg "max" = none
  z_min : mg "min" = none
  z_range : mg "range" = none
  z_reversed : mg "reversed" = none
  z_tuple : mg "tuple" = none

/-! ### what the defs promise -/
abbrev CF (K : PySem.W.Frag) : Addr := He.ga K "Fraction"
abbrev CD (K : PySem.W.Frag) : Value := .ref (He.ga K "DivisionByZero")
/-- a Fraction at a: its numerator and denominator -/
abbrev fsF (n d : Int) : List (Str × V) := [("num", .int n), ("den", .int d)]
/-- in lowest terms and of at most k bits -/
structure Lw (k : Nat) (n d : Int) : Prop where
  pos : 0 < d
  cop : Cop n d
  bn : n.natAbs < 2 ^ k
  bd : d.natAbs < 2 ^ k
theorem Lw.fq {k : Nat} {n d : Int} (l : Lw k n d) : Fq n d n d := ⟨rfl, l.pos, l.cop⟩
theorem Lw.ne {k : Nat} {n d : Int} (l : Lw k n d) : d ≠ 0 := by have := l.pos; omega
theorem Lw.mono {k j : Nat} {n d : Int} (l : Lw k n d) (h : k ≤ j) : Lw j n d := ⟨l.pos, l.cop, abs_mono l.bn h, abs_mono l.bd h⟩
theorem lw_of {k : Nat} {n d a b : Int} (f : Fq n d a b) (hd : d ≠ 0) (hn : n.natAbs < 2 ^ k) (hk : d.natAbs < 2 ^ k) : Lw k a b :=
  ⟨f.pos, f.cop, Nat.lt_of_le_of_lt (f.num_le hd) hn, Nat.lt_of_le_of_lt (f.den_le hd) hk⟩
/-- the value is a new Fraction n / d -/
theorem same_mut {H H2 : Hp} {p : Addr} {o : HO} (sm : Same H H2) (np : H p = none) : Same H (upd H2 p o) := fun b x e => by
  rw [upd_ne (ne_of_none e np)]
  exact sm _ _ e
theorem same_made0 {H : Hp} {p dp C : Addr} (np : H p = none) (nd : H dp = none) : Same H (upd (upd H dp (.own p)) p (.ins C dp [])) := fun b x e => by
  rw [upd_ne (ne_of_none e np), upd_ne (ne_of_none e nd)]
  exact e
/-- Fraction(..), its values all written or with the default; nothing is raised -/
def mkFr (K : PySem.W.Frag) (dvs : List V) : List V → Hp → VK → Prop := fun vs H1 Q => ∃ (n d : Int) (k : Nat), vs ++ dvs = [.int n, .int d] ∧ d.natAbs < 2 ^ k ∧ k ≤ 8000 ∧ d ≠ 0 ∧
  ∀ p dp H2 a b, Same H1 H2 → H1 p = none → H2 p = some (.ins (CF K) dp (fsF a b)) → Fq n d a b → Q (.ref p) H2
/-- .. in a try's body: W is wished of an exception, with the slots -/
def mkFrS (K : PySem.W.Frag) (dvs : List V) (W : WX) : L2.St → List V → Hp → VK → Prop := fun σ vs H1 Q => ∃ (n d : Int) (k : Nat), vs ++ dvs = [.int n, .int d] ∧ d.natAbs < 2 ^ k ∧ k ≤ 8000 ∧ (d = 0 → ∀ H2, Same H1 H2 → W (CD K) none σ H2) ∧
  (d ≠ 0 → ∀ p dp H2 a b, Same H1 H2 → H1 p = none → H2 p = some (.ins (CF K) dp (fsF a b)) → Fq n d a b → Q (.ref p) H2)
def RF (K : PySem.W.Frag) (H : Hp) (Q : VK) (R : Int → Int → Prop) : Prop := ∀ p dp H' n d, Same H H' → H p = none → H' p = some (.ins (CF K) dp (fsF n d)) → R n d → Q (.ref p) H'


/-! ### lists of fractions -/
/-- the list's items are the fractions qs -/
structure FrL (K : PySem.W.Frag) (H : Hp) (xs : List V) (qs : List (Int × Int)) : Prop where
  len : xs.length = qs.length
  at_ : ∀ (i : Nat) (q : Int × Int), qs[i]? = some q → ∃ a dx, xs[i]? = some (.ref a) ∧ H a = some (.ins (CF K) dx (fsF q.1 q.2))
theorem FrL.mono {K : PySem.W.Frag} {H H' : Hp} {xs : List V} {qs : List (Int × Int)} (f : FrL K H xs qs) (sm : Same H H') : FrL K H' xs qs :=
  ⟨f.len, fun i q h => by obtain ⟨a, dx, e, h2⟩ := f.at_ i q h; exact ⟨a, dx, e, sm _ _ h2⟩⟩
theorem FrL.nil {K : PySem.W.Frag} {H : Hp} : FrL K H [] [] := ⟨rfl, fun i q h => by simp at h⟩
theorem FrL.upd {K : PySem.W.Frag} {H : Hp} {xs : List V} {qs : List (Int × Int)} {D : Addr} {ys : List V} {o : HO} (f : FrL K H xs qs) (h : H D = some (.lst ys)) : FrL K (upd H D o) xs qs :=
  ⟨f.len, fun i q e => by
    obtain ⟨a, dx, e1, e2⟩ := f.at_ i q e
    have ne : a ≠ D := fun z => by rw [z, h] at e2; cases e2
    exact ⟨a, dx, e1, by rw [upd_ne ne]; exact e2⟩⟩
theorem FrL.take {K : PySem.W.Frag} {H : Hp} {xs : List V} {qs : List (Int × Int)} (f : FrL K H xs qs) (m : Nat) : FrL K H (xs.take m) (qs.take m) := by
  refine ⟨by simp [f.len], fun i q h => ?_⟩
  rw [List.getElem?_take] at h
  by_cases c : i < m
  · rw [if_pos c] at h
    obtain ⟨a, dx, e, h2⟩ := f.at_ i q h
    exact ⟨a, dx, by rw [List.getElem?_take, if_pos c]; exact e, h2⟩
  · rw [if_neg c] at h
    cases h
theorem FrL.drop {K : PySem.W.Frag} {H : Hp} {xs : List V} {qs : List (Int × Int)} (f : FrL K H xs qs) (m : Nat) : FrL K H (xs.drop m) (qs.drop m) := by
  refine ⟨by simp [f.len], fun i q h => ?_⟩
  rw [List.getElem?_drop] at h
  obtain ⟨a, dx, e, h2⟩ := f.at_ _ q h
  exact ⟨a, dx, by rw [List.getElem?_drop]; exact e, h2⟩
/-- the sum of pairs, not in lowest terms -/
def sumQ : List (Int × Int) → Int × Int
  | [] => (0, 1)
  | q :: r => (q.1 * (sumQ r).2 + (sumQ r).1 * q.2, q.2 * (sumQ r).2)
def prodQ : List (Int × Int) → Int × Int
  | [] => (1, 1)
  | q :: r => (q.1 * (prodQ r).1, q.2 * (prodQ r).2)
abbrev AllLw (k : Nat) (qs : List (Int × Int)) : Prop := ∀ q ∈ qs, Lw k q.1 q.2
theorem AllLw.take {k : Nat} {qs : List (Int × Int)} (h : AllLw k qs) (m : Nat) : AllLw k (qs.take m) := fun q hq => h q (List.mem_of_mem_take hq)
theorem AllLw.drop {k : Nat} {qs : List (Int × Int)} (h : AllLw k qs) (m : Nat) : AllLw k (qs.drop m) := fun q hq => h q (List.mem_of_mem_drop hq)
/-- the answer is a fraction, new or not -/
def RS (K : PySem.W.Frag) (H : Hp) (Q : VK) (R : Int → Int → Prop) : Prop := ∀ p dp H' n d, Same H H' → H' p = some (.ins (CF K) dp (fsF n d)) → R n d → Q (.ref p) H'


def DenAt (K : PySem.W.Frag) (H : Hp) (v : V) (d : Int) : Prop := ∃ (b : Addr) (C : Addr) (dx : Addr) (fs : List (Str × V)), v = .ref b ∧ H b = some (.ins C dx fs) ∧ Cls K C ∧ NoAttr K C "den" ∧ fs.lookup ("den" : Str) = some (V.int d)


/-! ### polynomials -/
abbrev CP (K : PySem.W.Frag) : Addr := He.ga K "Poly"
abbrev fsP (t : Addr) (e : Int) : List (Str × V) := [("coefs", .ref t), ("den", .int e)]
/-- a Poly at p: its coefficients and denominator -/
def PoA (K : PySem.W.Frag) (H : Hp) (p : Addr) (ks : List Int) (e : Int) : Prop := ∃ dp t, H p = some (.ins (CP K) dp (fsP t e)) ∧ H t = some (.tup (ks.map V.int))
theorem PoA.mono {K : PySem.W.Frag} {H H' : Hp} {p : Addr} {ks : List Int} {e : Int} (h : PoA K H p ks e) (sm : Same H H') : PoA K H' p ks e := by
  obtain ⟨dp, t, h1, h2⟩ := h
  exact ⟨dp, t, sm _ _ h1, sm _ _ h2⟩
/-- a list or a tuple of whole numbers -/
def Sq (K : PySem.W.Frag) (H : Hp) (a : Addr) (xs : List Int) : Prop := SqL K H a (xs.map V.int) ∨ SqT K H a (xs.map V.int)
structure Bits (k : Nat) (xs : List Int) : Prop where
  all : ∀ x ∈ xs, x.natAbs < 2 ^ k
theorem Bits.getD {k : Nat} {xs : List Int} (h : Bits k xs) (i : Nat) : (xs.getD i 0).natAbs < 2 ^ k := by
  by_cases c : i < xs.length
  · exact h.all _ (getD_mem c)
  · rw [getD_end (by omega)]
    exact Nat.pow_pos (by decide)
theorem bits_of_at {k : Nat} {xs : List Int} (h : ∀ i, (xs.getD i 0).natAbs < 2 ^ k) : Bits k xs := ⟨fun x hx => by
  obtain ⟨i, hi, rfl⟩ := List.mem_iff_getElem.mp hx
  have z := h i
  rwa [List.getD_eq_getElem?_getD, List.getElem?_eq_getElem hi] at z⟩
theorem bits_put {k : Nat} {xs : List Int} {n : Nat} {x : Int} (h1 : Bits k xs) (h : x.natAbs < 2 ^ k) : Bits k (xs.set n x) := ⟨fun y hy => by
  rcases List.mem_or_eq_of_mem_set hy with hy | hy
  · exact h1.all y hy
  · rw [hy]; exact h⟩
theorem Bits.mono {k j : Nat} {xs : List Int} (h : Bits k xs) (c : k ≤ j) : Bits j xs := ⟨fun x hx => abs_mono (h.all x hx) c⟩
theorem Bits.neg {k : Nat} {xs : List Int} (h : Bits k xs) : Bits k (xs.map fun x => -x) := ⟨fun x hx => by
  obtain ⟨y, hy, rfl⟩ := List.mem_map.mp hx
  rw [Int.natAbs_neg]
  exact h.all y hy⟩
theorem Bits.mul {k j : Nat} {xs : List Int} {c : Int} (h : Bits k xs) (hc : c.natAbs < 2 ^ j) : Bits (k + j) (xs.map fun x => x * c) := ⟨fun x hx => by
  obtain ⟨y, hy, rfl⟩ := List.mem_map.mp hx
  exact abs_lt_mul (h.all y hy) hc⟩
theorem Bits.add {k : Nat} {xs ys : List Int} (h : Bits k xs) (h2 : Bits k ys) : Bits (k + 1) (addL xs ys) := ⟨fun x hx => by
  unfold addL at hx
  obtain ⟨i, _, rfl⟩ := List.mem_map.mp hx
  have z := sz_add (h.getD i) (h2.getD i)
  rw [Nat.max_self] at z
  exact z⟩
theorem Pq.bits {cs ks : List Int} {d e : Int} {k : Nat} (p : Pq cs d ks e) (hd : d ≠ 0) (h : Bits k cs) : Bits k ks := ⟨fun x hx => by
  obtain ⟨i, hi, rfl⟩ := List.mem_iff_getElem.mp hx
  have z : ks[i] = ks.getD i 0 := by rw [List.getD_eq_getElem?_getD, List.getElem?_eq_getElem hi]; rfl
  have c := h.getD i
  have q := p.eq i
  rw [z]
  have p0 := p.pos
  -- e divides d
  have dv := p.den_dvd1 hd
  obtain ⟨u, hu⟩ := dv
  have u0 : u ≠ 0 := fun w => by rw [w] at hu; omega
  have e1 : cs.getD i 0 = ks.getD i 0 * u := by
    rw [hu] at q
    have : cs.getD i 0 * e = (ks.getD i 0 * u) * e := by grind
    exact Int.eq_of_mul_eq_mul_right (by omega) this
  rw [e1, Int.natAbs_mul] at c
  exact Nat.lt_of_le_of_lt (Nat.le_mul_of_pos_right _ (by omega)) c⟩
/-- all that a check of a polynomial asks -/
structure POk (k : Nat) (cs : List Int) (den : Int) (ks : List Int) (e : Int) : Prop where
  pq : Pq cs den ks e
  l1 : ks.length ≤ 400
  l2 : cs.length ≤ 400
  b1 : ∀ x ∈ ks, x.natAbs < 2 ^ k
  b2 : ∀ x ∈ cs, x.natAbs < 2 ^ k
  b3 : e.natAbs < 2 ^ k
  b4 : den.natAbs < 2 ^ k
theorem PoA.upd {K : PySem.W.Frag} {H : Hp} {p D : Addr} {ks : List Int} {e : Int} {ys : List V} {o : HO} (h : PoA K H p ks e) (hD : H D = some (.lst ys)) : PoA K (upd H D o) p ks e := by
  obtain ⟨dp, t, h1, h2⟩ := h
  have n1 : p ≠ D := fun z => by rw [z, hD] at h1; cases h1
  have n2 : t ≠ D := fun z => by rw [z, hD] at h2; cases h2
  exact ⟨dp, t, by rw [upd_ne n1]; exact h1, by rw [upd_ne n2]; exact h2⟩
def mkPo (K : PySem.W.Frag) (dvs : List V) : List V → Hp → VK → Prop := fun vs H1 Q => ∃ (a : Addr) (cs : List Int) (d : Int) (k : Nat), vs ++ dvs = [.ref a, .int d] ∧ Sq K H1 a cs ∧ cs.length ≤ 900 ∧ d.natAbs < 2 ^ k ∧ k ≤ 8000 ∧ d ≠ 0 ∧
  ∀ p H2 ks e, Same H1 H2 → H1 p = none → PoA K H2 p ks e → Pq cs d ks e → Q (.ref p) H2
/-- .. in a try's body -/
def mkPoS (K : PySem.W.Frag) (dvs : List V) (W : WX) : L2.St → List V → Hp → VK → Prop := fun σ vs H1 Q => ∃ (a : Addr) (cs : List Int) (d : Int) (k : Nat), vs ++ dvs = [.ref a, .int d] ∧ Sq K H1 a cs ∧ cs.length ≤ 900 ∧ d.natAbs < 2 ^ k ∧ k ≤ 8000 ∧ (d = 0 → ∀ H2, Same H1 H2 → W (CD K) none σ H2) ∧
  (d ≠ 0 → ∀ p H2 ks e, Same H1 H2 → H1 p = none → PoA K H2 p ks e → Pq cs d ks e → Q (.ref p) H2)
/-- the answer is a new polynomial -/
def RP (K : PySem.W.Frag) (H : Hp) (Q : VK) (R : List Int → Int → Prop) : Prop := ∀ p H' ks e, Same H H' → H p = none → PoA K H' p ks e → R ks e → Q (.ref p) H'


theorem Bits.set {k : Nat} {xs : List Int} {n : Nat} {x : Int} (h1 : Bits k xs) (h : x.natAbs < 2 ^ k) : Bits k (xs.set n x) := ⟨fun y hy => by
  rcases List.mem_or_eq_of_mem_set hy with hy | hy
  · exact h1.all y hy
  · rw [hy]; exact h⟩
/-- the bits that a move gives -/
def shB (kb sb n : Nat) : Nat := kb + (sb + 1) * ((n + 1) * (n + 1))


/-! ### polynomials in two variables -/
abbrev CP2 (K : PySem.W.Frag) : Addr := He.ga K "Poly2"
abbrev Pt := Addr × List Int × Int
abbrev rf (q : Addr × List Int × Int) : V := V.ref q.1
abbrev fsP2 (t : Addr) : List (Str × V) := [("rows", .ref t)]
def PolG (K : PySem.W.Frag) (H : Hp) (ps : List Pt) : Prop := ∀ q ∈ ps, PoA K H q.1 q.2.1 q.2.2
theorem PolG.mono {K : PySem.W.Frag} {H H' : Hp} {ps : List Pt} (h : PolG K H ps) (sm : Same H H') : PolG K H' ps := fun q hq => (h q hq).mono sm
theorem PolG.take {K : PySem.W.Frag} {H : Hp} {ps : List Pt} {n : Nat} (h : PolG K H ps) : PolG K H (ps.take n) := fun q hq => h q (List.mem_of_mem_take hq)
/-- a Poly2 at p: its rows -/
def P2A (K : PySem.W.Frag) (H : Hp) (p : Addr) (ps : List Pt) : Prop := ∃ dp t, H p = some (.ins (CP2 K) dp (fsP2 t)) ∧ H t = some (.tup (ps.map rf)) ∧ PolG K H ps
theorem P2A.mono {K : PySem.W.Frag} {H H' : Hp} {p : Addr} {ps : List Pt} (h : P2A K H p ps) (sm : Same H H') : P2A K H' p ps := by
  obtain ⟨dp, t, h1, h2, h3⟩ := h
  exact ⟨dp, t, sm _ _ h1, sm _ _ h2, h3.mono sm⟩
/-- n is where the rows end without the last zero ones -/
structure TrimP (ps : List Pt) (n : Nat) : Prop where
  le : n ≤ ps.length
  up : ∀ i q, n ≤ i → ps[i]? = some q → q.2.1 = []
  at_ : n = 0 ∨ ∃ q, ps[n - 1]? = some q ∧ q.2.1 ≠ []
theorem get_take {α : Type} {xs : List α} {n i : Nat} (h : i < n) : (xs.take n)[i]? = xs[i]? := by rw [List.getElem?_take, if_pos h]
theorem pops {α β : Type} {f : α → β} {xs : List α} {n : Nat} (h : n ≤ xs.length) : ((xs.take n).map f).dropLast = (xs.take (n - 1)).map f := by
  rw [← List.map_dropLast, List.dropLast_eq_take, List.take_take, List.length_take]
  congr 2
  omega
/-- the coefficient of a power of k -/
def rw2 (ps : List Pt) (i : Nat) : List Int × Int := ((ps[i]?).map (·.2)).getD ([], 1)
/-- a table: rows of whole numbers -/
abbrev Rt := Addr × List Int
abbrev rr (r : Addr × List Int) : V := V.ref r.1
def TabG (H : Hp) (tb : List Rt) : Prop := ∀ r ∈ tb, H r.1 = some (.lst (r.2.map V.int))
theorem TabG.mono {H H' : Hp} {tb : List Rt} (h : TabG H tb) (sm : Same H H') : TabG H' tb := fun r hr => sm _ _ (h r hr)
theorem PolG.upd {K : PySem.W.Frag} {H : Hp} {ps : List Pt} {D : Addr} {ys : List V} {o : HO} (h : PolG K H ps) (hD : H D = some (.lst ys)) : PolG K (upd H D o) ps := fun q hq => (h q hq).upd hD
/-- the rows are table / d in their one form -/
structure P2q (tb : List (List Int)) (d : Int) (ps : List Pt) : Prop where
  at_ : ∀ i q, ps[i]? = some q → Pq (tb.getD i []) d q.2.1 q.2.2
  up : ∀ i, ps.length ≤ i → ∀ j, (tb.getD i []).getD j 0 = 0
  top : ps = [] ∨ ∃ q, ps[ps.length - 1]? = some q ∧ q.2.1 ≠ []
abbrev CZ (K : PySem.W.Frag) : Value := .ref (He.ga K "ZeroPolynomial")

/-- a quotient's parts, by their sizes -/
structure QSz (k : Nat) (as : List Int) (a : Int) (bs : List Int) (b : Int) : Prop where
  sa : Pq as a as a
  sb : Pq bs b bs b
  bne : bs ≠ []
  ba : Bits k as
  bb : Bits k bs
  ea : a.natAbs < 2 ^ 60
  eb : b.natAbs < 2 ^ 60
  la : as.length ≤ 7
  lb : bs.length ≤ 7
/-! ### operators -/
abbrev COp (K : PySem.W.Frag) : Addr := He.ga K "Operator"
abbrev fsOp (t : Addr) : List (Str × V) := [("coefs", .ref t)]
/-- an Operator at p: its coefficients -/
def OpA (K : PySem.W.Frag) (H : Hp) (p : Addr) (ps : List Pt) : Prop := ∃ dp t, H p = some (.ins (COp K) dp (fsOp t)) ∧ H t = some (.tup (ps.map rf)) ∧ PolG K H ps
theorem OpA.mono {K : PySem.W.Frag} {H H' : Hp} {p : Addr} {ps : List Pt} (h : OpA K H p ps) (sm : Same H H') : OpA K H' p ps := by
  obtain ⟨dp, t, h1, h2, h3⟩ := h
  exact ⟨dp, t, sm _ _ h1, sm _ _ h2, h3.mono sm⟩
/-- its coefficients as functions -/
def opA (ps : List Pt) (i : Nat) : Nat → Rat := rv (rw2 ps i).1 (rw2 ps i).2
/-- the sizes of polynomials -/
structure OpB (ps : List Pt) (kb db L : Nat) : Prop where
  ok : ∀ q ∈ ps, Pq q.2.1 q.2.2 q.2.1 q.2.2 ∧ Bits kb q.2.1 ∧ q.2.2.natAbs < 2 ^ db ∧ q.2.1.length ≤ L
theorem OpB.take {ps : List Pt} {kb db L n : Nat} (h : OpB ps kb db L) : OpB (ps.take n) kb db L := ⟨fun q hq => h.ok q (List.mem_of_mem_take hq)⟩
theorem OpB.drop {ps : List Pt} {kb db L n : Nat} (h : OpB ps kb db L) : OpB (ps.drop n) kb db L := ⟨fun q hq => h.ok q (List.mem_of_mem_drop hq)⟩
/-- the last coefficient is not zero -/
def TopP (os : List Pt) : Prop := os = [] ∨ ∃ q, os[os.length - 1]? = some q ∧ q.2.1 ≠ []
theorem TrimP.top {ps : List Pt} {n : Nat} (t : TrimP ps n) : TopP (ps.take n) := by
  rcases t.at_ with h0 | ⟨q, hq, ne⟩
  · exact .inl (by rw [h0]; rfl)
  · have n0 : n - 1 < ps.length := (List.getElem?_eq_some_iff.mp hq).1
    by_cases c : n = 0
    · exact .inl (by rw [c]; rfl)
    · refine .inr ⟨q, ?_, ne⟩
      rw [List.length_take, Nat.min_eq_left t.le, List.getElem?_take, if_pos (by omega)]
      exact hq

/-- a new list of c numbers from 0 to 999999 -/
def spNums (K : PySem.W.Frag) : Sp := fun vs H Q _ => ∃ (a : Addr) (c : Int) (ns : List Int), vs = [.ref a, .int c] ∧ SqL K H a (ns.map V.int) ∧ ns.length ≤ 63 ∧ 0 ≤ c ∧ c ≤ 100 ∧
  ∀ p H' (ms : List Int), Same H H' → H p = none → H' p = some (.lst (ms.map V.int)) → ms.length = c.toNat → (∀ m ∈ ms, 0 ≤ m ∧ m < 1000000) → Q (.ref p) H'
def spLPr (K : PySem.W.Frag) : Sp := fun vs H Q _ => ∃ (a b : Addr) (xs ys : List Int) (k : Nat), vs = [.ref a, .ref b] ∧ SqL K H a (xs.map V.int) ∧ SqL K H b (ys.map V.int) ∧ Bits k xs ∧ Bits k ys ∧ xs.length ≤ 400 ∧ ys.length ≤ 400 ∧ k ≤ 400000 ∧
  ∀ p H' zs, Same H H' → H p = none → H' p = some (.lst (zs.map V.int)) → IsMul zs xs ys → zs.length = xs.length + ys.length → Q (.ref p) H'
def spLTr (K : PySem.W.Frag) : Sp := fun vs H Q _ => ∃ (a : Addr) (xs : List Int), vs = [.ref a] ∧ SqL K H a (xs.map V.int) ∧
  ∀ p H' n, Same H H' → H p = none → H' p = some (.lst ((xs.take n).map V.int)) → Trim xs n → Q (.ref p) H'
def l1s (fs : List Int) : Nat → Nat
  | 0 => 0
  | n + 1 => l1s fs n + (fs.getD n 0).natAbs
theorem cv_l1 {xs ys : List Int} {B : Nat} (hy : ∀ i, (ys.getD i 0).natAbs ≤ B) (i : Nat) : ∀ n, (cvS xs ys n i).natAbs ≤ l1s xs n * B
  | 0 => Nat.le_of_eq (by rw [show l1s xs 0 = 0 from rfl, Nat.zero_mul]; rfl)
  | n + 1 => by
    have ih := cv_l1 (xs := xs) hy i n
    have m : (xs.getD n 0 * ys.getD (i - n) 0).natAbs ≤ (xs.getD n 0).natAbs * B := by rw [Int.natAbs_mul]; exact Nat.mul_le_mul_left _ (hy _)
    show (cvS xs ys n i + _).natAbs ≤ (l1s xs n + (xs.getD n 0).natAbs) * B
    rw [Nat.add_mul]
    split <;> omega

/-- a drawn product of factors -/
structure RtL (zs : List Int) (i B : Nat) : Prop where
  dg : ∃ m, m ≤ 2 * i ∧ Dg (ff zs) m
  len : zs.length ≤ 1 + 3 * i
  b : ∀ k, (zs.getD k 0).natAbs ≤ B * 7 ^ i
theorem RtL.start {c : Int} {B : Nat} (h : c ≠ 0) (hb : c.natAbs ≤ B) : RtL [c] 0 B := ⟨⟨0, by decide, h, fun i hi => by cases i with | zero => omega | succ i => rfl⟩, by show 1 ≤ 1; decide, fun k => by
  cases k with
  | zero => show c.natAbs ≤ B * 1; omega
  | succ k => exact Nat.zero_le _⟩
theorem RtL.step {zs ws fs : List Int} {i B n : Nat} (h : RtL zs i B) (im : IsMul ws zs fs) (l : ws.length = zs.length + fs.length) (fl : fs.length ≤ 3) (fd : Dg (ff fs) n) (n2 : n ≤ 2) (s7 : l1s fs fs.length ≤ 7) : RtL ws (i + 1) B := by
  obtain ⟨m, m2, d⟩ := h.dg
  have hl := h.len
  refine ⟨⟨m + n, by omega, ?_⟩, by omega, fun k => ?_⟩
  · have e : ff ws = cf (ff zs) (ff fs) := funext fun k => by rw [← cv_cf]; exact im.at_ k
    rw [e]
    exact d.cf fd
  · have e : ws.getD k 0 = cv fs zs k := by
      rw [im.at_, cv_cf, cv_cf]
      exact congrFun (congrArg PS.f (show pl zs * pl fs = pl fs * pl zs by grind)) k
    rw [e]
    have := cv_l1 (xs := fs) h.b k fs.length
    refine Nat.le_trans this (Nat.le_trans (Nat.mul_le_mul_right _ s7) (Nat.le_of_eq ?_))
    rw [Nat.pow_succ]
    ac_rfl
/-- .. without end zeros -/
structure RtP (M : Nat) (xs : List Int) : Prop where
  tf : Tf xs (ff xs)
  ne : xs ≠ []
  len : xs.length ≤ 5
  b : ∀ i, (xs.getD i 0).natAbs ≤ M
theorem RtP.top {M : Nat} {xs : List Int} (h : RtP M xs) : xs.getD (xs.length - 1) 0 ≠ 0 := h.tf.tr.resolve_left (fun w => h.ne (List.eq_nil_of_length_eq_zero w))
theorem RtL.trim {zs : List Int} {i B n : Nat} (h : RtL zs i B) (i2 : i ≤ 2) (t : Trim zs n) : RtP (B * 49) (zs.take n) := by
  obtain ⟨m, m2, d⟩ := h.dg
  have tf := t.tf
  have len := tf.len (n := m + 1) fun k hk => d.up k hk
  refine ⟨tf.self, fun z => ?_, by omega, fun k => ?_⟩
  · have := tf.at_ m
    rw [z] at this
    exact d.top this.symm
  · rw [tf.at_]
    exact Nat.le_trans (h.b k) (Nat.mul_le_mul_left _ (Nat.le_trans (Nat.pow_le_pow_right (by decide) i2) (by decide)))
theorem fac_lin {c : Int} (h : c.natAbs ≤ 6) : Dg (ff [c, 1]) 1 ∧ l1s [c, 1] 2 ≤ 7 := ⟨⟨by show (1 : Int) ≠ 0; decide, fun i hi => by rcases i with _ | _ | i <;> first | omega | rfl⟩, by show 0 + c.natAbs + 1 ≤ 7; omega⟩
theorem fac_quad {c : Int} (h : c.natAbs ≤ 6) : Dg (ff [c, 0, 1]) 2 ∧ l1s [c, 0, 1] 3 ≤ 7 := ⟨⟨by show (1 : Int) ≠ 0; decide, fun i hi => by rcases i with _ | _ | _ | i <;> first | omega | rfl⟩, by show 0 + c.natAbs + 0 + 1 ≤ 7; omega⟩
def spLRt (K : PySem.W.Frag) : Sp := fun vs H Q _ => ∃ (a : Addr) (ms : List Int) (_ : Unit), vs = [.ref a, .int 4] ∧ SqL K H a (ms.map V.int) ∧ ms.length = 10 ∧
  ∀ r p1 p2 xs ys H', Same H H' → H r = none → H' r = some (.lst [.ref p1, .ref p2]) → H' p1 = some (.lst (xs.map V.int)) → H' p2 = some (.lst (ys.map V.int)) → p1 ≠ r → p2 ≠ r → p1 ≠ p2 → RtP 196 xs → RtP 147 ys → Q (.ref r) H'
/-- what the loops leave -/
structure MiA (fs xs ys : List Int) (N k1 k2 : Nat) : Prop where
  len : fs.length = N
  at_ : ∀ i, fs.getD i 0 = (if i < k1 then xs.getD i 0 else 0) - (if i < k2 then ys.getD i 0 else 0)
theorem MiA.one {fs xs ys : List Int} {N k : Nat} (m : MiA fs xs ys N k 0) (h : k < N) : MiA (fs.set k (fs.getD k 0 + xs.getD k 0)) xs ys N (k + 1) 0 := by
  have l := m.len
  refine ⟨by rw [List.length_set]; exact l, fun i => ?_⟩
  have e := m.at_ i
  rw [getD_set (by omega)]
  by_cases c : i = k
  · subst c
    rw [if_pos rfl, e]
    simp only [Nat.lt_irrefl, Nat.not_lt_zero, Nat.lt_succ_self, if_true, if_false]
    omega
  · rw [if_neg c, e]
    by_cases c2 : i < k
    · rw [if_pos c2, if_pos (show i < k + 1 by omega)]
    · rw [if_neg c2, if_neg (show ¬ i < k + 1 by omega)]
theorem MiA.two {fs xs ys : List Int} {N k1 k : Nat} (m : MiA fs xs ys N k1 k) (h : k < N) : MiA (fs.set k (fs.getD k 0 - ys.getD k 0)) xs ys N k1 (k + 1) := by
  have l := m.len
  refine ⟨by rw [List.length_set]; exact l, fun i => ?_⟩
  have e := m.at_ i
  rw [getD_set (by omega)]
  by_cases c : i = k
  · subst c
    rw [if_pos rfl, e]
    simp only [Nat.lt_irrefl, Nat.lt_succ_self, if_true, if_false]
    omega
  · rw [if_neg c, e]
    by_cases c2 : i < k
    · rw [if_pos c2, if_pos (show i < k + 1 by omega)]
    · rw [if_neg c2, if_neg (show ¬ i < k + 1 by omega)]
def spLMi (K : PySem.W.Frag) : Sp := fun vs H Q _ => ∃ (a b : Addr) (xs ys : List Int), vs = [.ref a, .ref b] ∧ SqL K H a (xs.map V.int) ∧ SqL K H b (ys.map V.int) ∧ xs.length ≤ 900 ∧ ys.length ≤ 900 ∧
  ∀ p H' (zs : List Int), Same H H' → H p = none → H' p = some (.lst (zs.map V.int)) → Tf zs (fun k => xs.getD k 0 - ys.getD k 0) → zs.length ≤ max xs.length ys.length → Q (.ref p) H'
theorem mul_bits2 {p q : Nat} {xs ys zs : List Int} (h1 : Bits p xs) (h2 : Bits q ys) (h : IsMul zs xs ys) : Bits (p + q + xs.length) zs := ⟨fun x hx => by
  obtain ⟨i, hi, rfl⟩ := List.mem_iff_getElem.mp hx
  have z : zs[i] = zs.getD i 0 := by rw [List.getD_eq_getElem?_getD, List.getElem?_eq_getElem hi]; rfl
  rw [z, h.at_]
  exact cvS_bits h1.getD h2.getD i xs.length⟩
theorem bits_two {k : Nat} {x y : Int} (hx : x.natAbs < 2 ^ k) (hy : y.natAbs < 2 ^ k) : Bits k [x, y] := ⟨fun z hz => by
  rcases List.mem_cons.mp hz with rfl | hz
  · exact hx
  · rw [List.mem_singleton.mp hz]; exact hy⟩
def spLSh (K : PySem.W.Frag) : Sp := fun vs H Q _ => ∃ (a : Addr) (cs : List Int) (s : Int) (kb sb : Nat), vs = [.ref a, .int s] ∧ SqL K H a (cs.map V.int) ∧ Bits kb cs ∧ s.natAbs < 2 ^ sb ∧ cs.length ≤ 20 ∧ kb ≤ 4000 ∧ sb ≤ 1000 ∧
  ∀ p H' (zs : List Int), Same H H' → H p = none → H' p = some (.lst (zs.map V.int)) → (∀ k, zs.getD k 0 = shV s (fun i => cs.getD i 0) cs.length k) → zs.length = cs.length → Q (.ref p) H'
def spTrim (K : PySem.W.Frag) : Sp := fun vs H Q _ => ∃ (a : Addr) (xs : List Int), vs = [.ref a] ∧ (SqL K H a (xs.map V.int) ∨ SqT K H a (xs.map V.int)) ∧
  ∀ p H' n, Same H H' → H p = none → H' p = some (.lst ((xs.take n).map V.int)) → Trim xs n → Q (.ref p) H'
def spCom (K : PySem.W.Frag) : Sp := fun vs H Q _ => ∃ (a : Addr) (xs : List Int), vs = [.ref a] ∧ (SqL K H a (xs.map V.int) ∨ SqT K H a (xs.map V.int)) ∧ Q (.int ((gcdL xs : Nat) : Int)) H
def spPInit (K : PySem.W.Frag) : Sp := fun vs H Q E => ∃ (x dx a : Addr) (cs : List Int) (d : Int) (k : Nat), vs = [.ref x, .ref a, .int d] ∧ H x = some (.ins (CP K) dx []) ∧ Sq K H a cs ∧ cs.length ≤ 900 ∧ (d ≠ 0 → ∀ g : Int, g ∣ d → (∀ i, g ∣ cs.getD i 0) → g.natAbs < 2 ^ k) ∧ k ≤ 8000 ∧
  (d = 0 → E (CD K) none H) ∧ (d ≠ 0 → ∀ H' t ks e, Same H H' → H' t = some (.tup (ks.map V.int)) → t ≠ x → Pq cs d ks e → Q .non (upd H' x (.ins (CP K) dx (fsP t e))))
/-- a new polynomial, its common factor bounded -/
def mkPoG (K : PySem.W.Frag) (dvs : List V) : List V → Hp → VK → Prop := fun vs H1 Q => ∃ (a : Addr) (cs : List Int) (d : Int) (k : Nat), vs ++ dvs = [.ref a, .int d] ∧ Sq K H1 a cs ∧ cs.length ≤ 900 ∧ (∀ g : Int, g ∣ d → (∀ i, g ∣ cs.getD i 0) → g.natAbs < 2 ^ k) ∧ k ≤ 8000 ∧ d ≠ 0 ∧
  ∀ p H2 ks e, Same H1 H2 → H1 p = none → PoA K H2 p ks e → Pq cs d ks e → Q (.ref p) H2
theorem mkPoG_conv (K : PySem.W.Frag) (dvs : List V) (vs : List V) (H1 : Hp) (Q : VK) (h : mkPoG K dvs vs H1 Q) (x dx : Addr) (nx : H1 x = none) (nd : H1 dx = none) (ne : dx ≠ x) :
    spPInit K (.ref x :: (vs ++ dvs)) (upd (upd H1 dx (.own x)) x (.ins (CP K) dx [])) (fun v H2 => v = .non ∧ Q (.ref x) H2) E0 := by
  obtain ⟨a, cs, d, k, e, hS, hl, hb, hk, hd, q⟩ := h
  have s0 : Same H1 (upd (upd H1 dx (.own x)) x (.ins (CP K) dx [])) := same_made0 nx nd
  rw [e]
  refine ⟨x, dx, a, cs, d, k, rfl, upd_same, ?_, hl, fun _ => hb, hk, fun z => absurd z hd, fun _ H' t ks e sm ht tx pq => ⟨rfl, ?_⟩⟩
  · rcases hS with h | h
    · exact .inl (s0.seq h)
    · exact .inr (sm_tup s0 h)
  · exact q x _ ks e (same_mut (s0.trans sm) nx) nx ⟨dx, t, upd_same, by rw [upd_ne tx]; exact ht⟩ pq
theorem com_lt {d : Int} {cs : List Int} {k : Nat} (hb : d.natAbs < 2 ^ k) (hd : d ≠ 0) : ∀ g : Int, g ∣ d → (∀ i, g ∣ cs.getD i 0) → g.natAbs < 2 ^ k := fun g hg _ => Nat.lt_of_le_of_lt (natAbs_le_of_dvd hg hd) hb
theorem com_dvd {cs : List Int} {d c : Int} {n : Nat} (t : Trim cs n) (hc : c = if d < 0 then -((gcdL (d :: cs.take n) : Nat) : Int) else ((gcdL (d :: cs.take n) : Nat) : Int)) : c ∣ d ∧ ∀ i, c ∣ cs.getD i 0 := by
  have key : ∀ x : Int, ((gcdL (d :: cs.take n) : Nat) : Int) ∣ x → c ∣ x := fun x h => by
    rw [hc]
    split
    · exact Int.neg_dvd.mpr h
    · exact h
  refine ⟨key _ (Int.dvd_natAbs.mp (Int.natCast_dvd_natCast.mpr (gcdL_dvd (List.mem_cons_self ..)))), fun i => key _ ?_⟩
  by_cases h : i < n
  · have e : (cs.take n).getD i 0 = cs.getD i 0 := by rw [getD_take, if_pos h]
    have l : i < (cs.take n).length := by rw [List.length_take, Nat.min_eq_left t.le]; exact h
    rw [← e]
    exact Int.dvd_natAbs.mp (Int.natCast_dvd_natCast.mpr (gcdL_dvd (List.mem_cons_of_mem _ (getD_mem l))))
  · rw [t.up i (by omega)]
    exact Int.dvd_zero _
theorem mkPo_conv (K : PySem.W.Frag) (dvs : List V) (vs : List V) (H1 : Hp) (Q : VK) (h : mkPo K dvs vs H1 Q) (x dx : Addr) (nx : H1 x = none) (nd : H1 dx = none) (ne : dx ≠ x) :
    spPInit K (.ref x :: (vs ++ dvs)) (upd (upd H1 dx (.own x)) x (.ins (CP K) dx [])) (fun v H2 => v = .non ∧ Q (.ref x) H2) E0 := by
  obtain ⟨a, cs, d, k, e, hS, hl, hb, hk, hd, q⟩ := h
  have s0 : Same H1 (upd (upd H1 dx (.own x)) x (.ins (CP K) dx [])) := same_made0 nx nd
  rw [e]
  refine ⟨x, dx, a, cs, d, k, rfl, upd_same, ?_, hl, fun hd => com_lt hb hd, hk, fun z => absurd z hd, fun _ H' t ks e sm ht tx pq => ⟨rfl, ?_⟩⟩
  · rcases hS with h | h
    · exact .inl (s0.seq h)
    · exact .inr (sm_tup s0 h)
  · exact q x _ ks e (same_mut (s0.trans sm) nx) nx ⟨dx, t, upd_same, by rw [upd_ne tx]; exact ht⟩ pq
theorem mkPoS_conv (K : PySem.W.Frag) (dvs : List V) (W : WX) (σ : L2.St) (vs : List V) (H1 : Hp) (Q : VK) (h : mkPoS K dvs W σ vs H1 Q) (x dx : Addr) (nx : H1 x = none) (nd : H1 dx = none) (ne : dx ≠ x) :
    spPInit K (.ref x :: (vs ++ dvs)) (upd (upd H1 dx (.own x)) x (.ins (CP K) dx [])) (fun v H2 => v = .non ∧ Q (.ref x) H2) (WE W σ) := by
  obtain ⟨a, cs, d, k, e, hS, hl, hb, hk, h0, q⟩ := h
  have s0 : Same H1 (upd (upd H1 dx (.own x)) x (.ins (CP K) dx [])) := same_made0 nx nd
  rw [e]
  refine ⟨x, dx, a, cs, d, k, rfl, upd_same, ?_, hl, fun hd => com_lt hb hd, hk, fun z => h0 z _ s0, fun hd H' t ks e sm ht tx pq => ⟨rfl, ?_⟩⟩
  · rcases hS with h | h
    · exact .inl (s0.seq h)
    · exact .inr (sm_tup s0 h)
  · exact q hd x _ ks e (same_mut (s0.trans sm) nx) nx ⟨dx, t, upd_same, by rw [upd_ne tx]; exact ht⟩ pq
def spPZer (K : PySem.W.Frag) : Sp := fun vs H Q _ => ∃ (a : Addr) (ks : List Int) (e : Int), vs = [.ref a] ∧ PoA K H a ks e ∧ Q (.bl (decide (V.int (ks.length : Int) = V.int 0))) H
def MonR (ks ms : List Int) (g : Int) : Prop := (ks = [] ∧ ms = []) ∨ (ks ≠ [] ∧ Pq ks (ks.getD (ks.length - 1) 0) ms g)
def spMon (K : PySem.W.Frag) : Sp := fun vs H Q _ => ∃ (a : Addr) (ks : List Int) (e : Int) (k : Nat), vs = [.ref a] ∧ PoA K H a ks e ∧ Pq ks e ks e ∧ Bits k ks ∧ k ≤ 7000 ∧ ks.length ≤ 100 ∧
  ∀ p H' ms g, Same H H' → PoA K H' p ms g → Pq ms g ms g → MonR ks ms g → Q (.ref p) H'
/-- the coefficients without their common factor -/
structure PrL (xs zs : List Int) : Prop where
  len : zs.length = xs.length
  mul : ∃ c : Nat, (xs ≠ [] → 0 < c) ∧ ∀ i, xs.getD i 0 = (c : Int) * zs.getD i 0
  prim : xs ≠ [] → Prim (ff zs)
theorem prl (xs : List Int) (h : xs ≠ [] → 0 < gcdL xs) : PrL xs (xs.map fun x => x / ((gcdL xs : Nat) : Int)) := by
  have e : ∀ i, xs.getD i 0 = ((gcdL xs : Nat) : Int) * (xs.map fun x => x / ((gcdL xs : Nat) : Int)).getD i 0 := fun i => by
    rw [List.getD_eq_getElem?_getD, List.getD_eq_getElem?_getD, List.getElem?_map]
    cases hx : xs[i]? with
    | none => show (0 : Int) = _ * 0; rw [Int.mul_zero]
    | some x =>
      have d : ((gcdL xs : Nat) : Int) ∣ x := Int.ofNat_dvd_left.mpr (gcdL_dvd (List.mem_of_getElem? hx))
      exact (Int.mul_ediv_cancel' d).symm
  refine ⟨by rw [List.length_map], ⟨gcdL xs, h, e⟩, fun ne p hp => Classical.byContradiction fun c => ?_⟩
  have all : ∀ i, (p : Int) ∣ ff (xs.map fun x => x / ((gcdL xs : Nat) : Int)) i := fun i => Decidable.byContradiction fun z => c ⟨i, z⟩
  have g0 := h ne
  have d : gcdL xs * p ∣ gcdL xs := gcdL_great fun x hx => by
    obtain ⟨i, hi⟩ := List.mem_iff_getElem?.mp hx
    have ei := e i
    rw [List.getD_eq_getElem?_getD, hi] at ei
    have ei' : x = ((gcdL xs : Nat) : Int) * (xs.map fun x => x / ((gcdL xs : Nat) : Int)).getD i 0 := ei
    obtain ⟨t, ht⟩ := all i
    have ht' : (xs.map fun x => x / ((gcdL xs : Nat) : Int)).getD i 0 = (p : Int) * t := ht
    rw [ht', ← Int.mul_assoc, ← Int.natCast_mul] at ei'
    exact Int.ofNat_dvd_left.mp ⟨t, ei'⟩
  have := Nat.le_of_dvd g0 d
  have p2 := hp.two
  have : gcdL xs * 2 ≤ gcdL xs * p := Nat.mul_le_mul_left _ p2
  omega
def spPrm (K : PySem.W.Frag) : Sp := fun vs H Q _ => ∃ (a : Addr) (xs : List Int) (k : Nat), vs = [.ref a] ∧ (SqL K H a (xs.map V.int) ∨ SqT K H a (xs.map V.int)) ∧ Bits k xs ∧ k ≤ 8000 ∧ xs.length ≤ 400 ∧ (xs ≠ [] → ∃ x ∈ xs, x ≠ 0) ∧
  ∀ p H' zs, Same H H' → H p = none → H' p = some (.lst (zs.map V.int)) → PrL xs zs → Q (.ref p) H'
def spRems (K : PySem.W.Frag) : Sp := fun vs H Q _ => ∃ (a : Addr) (xs : List Int) (p : Nat), vs = [.ref a, .int (p : Int)] ∧ SqL K H a (xs.map V.int) ∧ 0 < p ∧ xs.length ≤ 400 ∧
  ∀ q H' zs, Same H H' → H q = none → H' q = some (.lst (zs.map V.int)) → RsP p zs → zs.length ≤ xs.length → (∀ k, (p : Int) ∣ ff xs k - ff zs k) → Q (.ref q) H'
theorem rsp_of {p : Nat} {xs : List Int} {n : Nat} (p0 : 0 < p) (r : ∀ z ∈ xs, 0 ≤ z ∧ z < p) (t : Trim xs n) : RsP p (xs.take n) := ⟨fun z hz => r z (List.mem_of_mem_take hz), by
  rcases t.at_ with h | h
  · exact .inl (by rw [h]; rfl)
  · by_cases c : n = 0
    · exact .inl (by rw [c]; rfl)
    · right
      have l := t.le
      rw [List.length_take, Nat.min_eq_left l, List.getD_eq_getElem?_getD, List.getElem?_take, if_pos (by omega), ← List.getD_eq_getElem?_getD]
      exact h⟩
theorem take_ff {xs : List Int} {n : Nat} (t : Trim xs n) (k : Nat) : ff (xs.take n) k = ff xs k := by
  show (xs.take n).getD k 0 = xs.getD k 0
  by_cases c : k < n
  · rw [List.getD_eq_getElem?_getD, List.getElem?_take, if_pos c, ← List.getD_eq_getElem?_getD]
  · rw [t.up k (by omega)]
    exact getD_end (by rw [List.length_take]; omega)
def spInv (K : PySem.W.Frag) : Sp := fun vs H Q _ => ∃ (n : Int) (p : Nat), vs = [.int n, .int (p : Int)] ∧ Pr p ∧ p < 2 ^ 62 ∧ ¬ (p : Int) ∣ n ∧ ∀ (r : Int) H', Same H H' → 0 ≤ r → r < p → (p : Int) ∣ r * n - 1 → Q (.int r) H'
def spDMd (K : PySem.W.Frag) : Sp := fun vs H Q _ => ∃ (a b : Addr) (xs ys : List Int) (p z : Nat), vs = [.ref a, .ref b, .int (p : Int)] ∧ SqL K H a (xs.map V.int) ∧ SqL K H b (ys.map V.int) ∧ Pr p ∧ p < 2 ^ 62 ∧ RsP p xs ∧ RsP p ys ∧ 0 < ys.length ∧ xs.length ≤ 100 ∧ ys.length ≤ 100 ∧
  ∀ t H' pq pr (qs : List V) rs, Same H H' → H' t = some (.tup [.ref pq, .ref pr]) → H pr = none → H' pr = some (.lst (rs.map V.int)) → RsP p rs → rs.length < ys.length → (∃ (s : Nat → Int) (N : Nat), Fz s N ∧ ∀ k, (p : Int) ∣ ff xs k - cf s (ff ys) k - ff rs k) → Q (.ref t) H'
def spDvM (K : PySem.W.Frag) : Sp := fun vs H Q _ => ∃ (a b : Addr) (xs ys : List Int) (p z : Nat), vs = [.ref a, .ref b, .int (p : Int)] ∧ SqL K H a (xs.map V.int) ∧ SqL K H b (ys.map V.int) ∧ Pr p ∧ p < 2 ^ 62 ∧ xs.length ≤ 100 ∧ ys.length ≤ 100 ∧
  ∀ t H' zs, Same H H' → H' t = some (.lst (zs.map V.int)) → RsP p zs → (∀ G, MDv p G (ff xs) → MDv p G (ff ys) → MDv p G (ff zs)) → Q (.ref t) H'
def spCpM (K : PySem.W.Frag) : Sp := fun vs H Q _ => ∃ (a b : Addr) (xs ys : List Int) (p z : Nat), vs = [.ref a, .ref b, .int (p : Int)] ∧ SqL K H a (xs.map V.int) ∧ SqL K H b (ys.map V.int) ∧ Pr p ∧ p < 2 ^ 62 ∧ 0 < xs.length ∧ 0 < ys.length ∧ xs.length ≤ 100 ∧ ys.length ≤ 100 ∧
  ∀ (r : Bool) H', Same H H' → (r = true → (¬ (p : Int) ∣ ff xs (xs.length - 1) ∨ ¬ (p : Int) ∣ ff ys (ys.length - 1)) ∧ ∃ c : Int, ¬ (p : Int) ∣ c ∧ ∀ G, MDv p G (ff xs) → MDv p G (ff ys) → MDv p G (fun i => if i = 0 then c else 0)) → Q (.bl r) H'
def spHeiB (K : PySem.W.Frag) : Sp := fun vs H Q _ => ∃ (a : Addr) (xs : List Int), vs = [.ref a] ∧ (SqL K H a (xs.map V.int) ∨ SqT K H a (xs.map V.int)) ∧ xs.length ≤ 400 ∧
  ∀ (h : Nat) H', Same H H' → (∀ i, (xs.getD i 0).natAbs ≤ h) → (∀ k, (∀ x ∈ xs, x.natAbs < 2 ^ k) → h < 2 ^ k) → Q (.int (h : Int)) H'
def spEvaB (K : PySem.W.Frag) : Sp := fun vs H Q _ => ∃ (a : Addr) (cs : List Int) (x : Int) (k j : Nat), vs = [.ref a, .int x] ∧ (SqL K H a (cs.map V.int) ∨ SqT K H a (cs.map V.int)) ∧ (∀ c ∈ cs, c.natAbs < 2 ^ k) ∧ x.natAbs < 2 ^ j ∧ k + (j + 1) * (cs.length + 1) ≤ 900000 ∧ Q (.int (evL x cs)) H
/-- the digits on both sides of zero -/
structure DigR (X : Nat) (n : Int) (ds : List Int) : Prop where
  val : e1 (ff ds) (X : Int) ds.length = n
  sm : ∀ d ∈ ds, 2 * d.natAbs ≤ X
  last : ds = [] ∨ ds.getD (ds.length - 1) 0 ≠ 0
def spDig (K : PySem.W.Frag) : Sp := fun vs H Q _ => ∃ (n : Int) (X L : Nat), vs = [.int n, .int (X : Int)] ∧ 3 ≤ X ∧ X < 2 ^ 8000 ∧ n.natAbs ≤ X ^ L ∧ L ≤ 100 ∧
  ∀ p H' ds, Same H H' → H p = none → H' p = some (.lst (ds.map V.int)) → DigR X n ds → ds.length ≤ L + 1 → Q (.ref p) H'
theorem e1_snoc (ds : List Int) (d x : Int) : e1 (ff (ds ++ [d])) x (ds.length + 1) = e1 (ff ds) x ds.length + d * x ^ ds.length := by
  show e1 (ff (ds ++ [d])) x ds.length + ff (ds ++ [d]) ds.length * x ^ ds.length = _
  have a : ff (ds ++ [d]) ds.length = d := by
    show (ds ++ [d]).getD ds.length 0 = d
    rw [List.getD_eq_getElem?_getD, List.getElem?_append_right (Nat.le_refl _), Nat.sub_self]
    rfl
  rw [a]
  congr 1
  refine e1_congr fun i hi => ?_
  show (ds ++ [d]).getD i 0 = ds.getD i 0
  rw [List.getD_eq_getElem?_getD, List.getElem?_append_left hi, List.getD_eq_getElem?_getD]
/-- the bits after t turns -/
def dvB (k t : Nat) : Nat := k + 1 + (k + 1) * t
theorem dvB_more (k t : Nat) : dvB k (t + 1) = dvB k t + (k + 1) := by unfold dvB; rw [Nat.mul_add, Nat.mul_one]; omega
theorem dvB_le {k s t : Nat} (h : s ≤ t) : dvB k s ≤ dvB k t := Nat.add_le_add_left (Nat.mul_le_mul_left _ h) _
/-- f xs = qs ys + rs, and rs is shorter than ys -/
structure DivR (f : Int) (xs qs rs ys : List Int) : Prop where
  f0 : f ≠ 0
  rl : rs.length = xs.length
  ql : qs.length ≤ xs.length
  eq : ∀ k, f * xs.getD k 0 = cv qs ys k + rs.getD k 0
  hi : ∀ k, ys.length ≤ k + 1 → rs.getD k 0 = 0
/-- no prime divides the factor and all of the quotient -/
def FqC (f : Int) (qs : List Int) : Prop := ∀ p : Nat, Pr p → (p : Int) ∣ f → ∃ i, ¬ (p : Int) ∣ qs.getD i 0
def FqH (f : Int) (qs : List Int) (tp ld : Int) : Prop := ∀ p : Nat, Pr p → (p : Int) ∣ f → (∃ i, ¬ (p : Int) ∣ qs.getD i 0) ∨ ∀ sh, sh * ld = tp → ¬ (p : Int) ∣ sh
theorem FqC.weak {f tp ld : Int} {qs : List Int} (h : FqC f qs) : FqH f qs tp ld := fun p hp d => .inl (h p hp d)
theorem FqC.start {qs : List Int} : FqC 1 qs := fun p hp d => by
  exfalso
  have := Int.natAbs_dvd_natAbs.mpr d
  rw [Int.natAbs_natCast] at this
  have := Nat.dvd_one.mp this
  have := hp.two
  omega
theorem cop_scale {t l g s sh : Int} {p : Nat} (hp : Pr p) (hg : g = ((Nat.gcd t.natAbs l.natAbs : Nat) : Int)) (hl : l ≠ 0) (hs : s = l.fdiv g) (h : sh * l = t * s) (d1 : (p : Int) ∣ s) (d2 : (p : Int) ∣ sh) : False := by
  have e1 : g ∣ l := by rw [hg]; exact Int.natAbs_dvd_natAbs.mp (by rw [Int.natAbs_natCast]; exact Nat.gcd_dvd_right _ _)
  have g0 : g ≠ 0 := fun z => by rw [z] at e1; exact hl (Int.zero_dvd.mp e1)
  have e := fdiv_dvd g0 e1
  rw [← hs] at e
  have s0 : s ≠ 0 := fun z => by rw [z, Int.zero_mul] at e; exact hl e.symm
  have et : sh * g = t := by
    apply Int.eq_of_mul_eq_mul_right s0
    rw [← h, ← e, Int.mul_assoc, Int.mul_comm g s]
  have pl : (p : Int) * g ∣ l := by
    obtain ⟨u, hu⟩ := d1
    exact ⟨u, by rw [← e, hu]; grind⟩
  have pt : (p : Int) * g ∣ t := by
    obtain ⟨u, hu⟩ := d2
    exact ⟨u, by rw [← et, hu]; grind⟩
  have n1 := Int.natAbs_dvd_natAbs.mpr pl
  have n2 := Int.natAbs_dvd_natAbs.mpr pt
  have n3 := Nat.dvd_gcd n2 n1
  have ge : g.natAbs = Nat.gcd t.natAbs l.natAbs := by rw [hg, Int.natAbs_natCast]
  rw [← ge, Int.natAbs_mul, Int.natAbs_natCast] at n3
  have gp : 0 < g.natAbs := by omega
  have le := Nat.le_of_dvd gp n3
  have := hp.two
  have : 2 * g.natAbs ≤ p * g.natAbs := Nat.mul_le_mul_right _ this
  omega
theorem FqC.scale {f sc tp ld g : Int} {qs : List Int} (h : FqC f qs) (hg : g = ((Nat.gcd tp.natAbs ld.natAbs : Nat) : Int)) (hl : ld ≠ 0) (hs : sc = ld.fdiv g) : FqH (f * sc) (qs.map fun x => x * sc) (tp * sc) ld := fun p hp d => by
  by_cases c : (p : Int) ∣ sc
  · exact .inr fun sh e d2 => cop_scale hp hg hl hs e c d2
  · rcases hp.mul _ _ d with z | z
    · obtain ⟨i, hi⟩ := h p hp z
      refine .inl ⟨i, fun y => ?_⟩
      rw [mul_at] at y
      rcases hp.mul _ _ y with y | y
      · exact hi y
      · exact c y
    · exact absurd z c
theorem FqH.put {f tp ld sh : Int} {qs : List Int} {n : Nat} (h : FqH f qs tp ld) (e : sh * ld = tp) (z : qs.getD n 0 = 0) (l : n < qs.length) : FqC f (qs.set n sh) := fun p hp d => by
  rcases h p hp d with ⟨i, hi⟩ | k
  · have ne : i ≠ n := fun y => hi (by rw [y, z]; exact Int.dvd_zero _)
    exact ⟨i, by rw [getD_set l, if_neg ne]; exact hi⟩
  · exact ⟨n, by rw [getD_set l, if_pos rfl]; exact k sh e⟩
/-- what divides both is a unit -/
theorem FqC.unit {f : Int} {qs : List Int} (h : FqC f qs) (f0 : f ≠ 0) {g : Int} (d : g ∣ f) (k : ∀ i, g ∣ qs.getD i 0) : g.natAbs < 2 ^ 8000 := by
  refine Decidable.byContradiction fun c => ?_
  have g2 : 2 ≤ g.natAbs := Decidable.byContradiction fun y => c (Nat.lt_of_lt_of_le (show g.natAbs < 2 ^ 1 by omega) (Nat.pow_le_pow_right (by decide) (by decide)))
  obtain ⟨p, hp, pg⟩ := pr_ex g.natAbs g2
  have pg2 : (p : Int) ∣ g := Int.dvd_natAbs.mp (Int.natCast_dvd_natCast.mpr pg)
  obtain ⟨i, hi⟩ := h p hp (Int.dvd_trans pg2 d)
  exact hi (Int.dvd_trans pg2 (k i))
def spDivC (K : PySem.W.Frag) : Sp := fun vs H Q _ => ∃ (a b : Addr) (xs ys : List Int) (k : Nat), vs = [.ref a, .ref b] ∧ SqT K H a (xs.map V.int) ∧ SqT K H b (ys.map V.int) ∧ Bits k xs ∧ Bits k ys ∧ 0 < ys.length ∧ ys.getD (ys.length - 1) 0 ≠ 0 ∧ xs.length ≤ 100 ∧ ys.length ≤ 100 ∧ k ≤ 2000 ∧
  ∀ t H' pq pr qs rs f, Same H H' → H' t = some (.tup [.ref pq, .ref pr, .int f]) → H' pq = some (.lst (qs.map V.int)) → H' pr = some (.lst (rs.map V.int)) → DivR f xs qs rs ys → FqC f qs → Bits (dvB k xs.length) qs → Bits (dvB k xs.length) rs → f.natAbs < 2 ^ (dvB k xs.length) → Q (.ref t) H'
/-- a pair of polynomials: ks / e = (ms / g) (js / f) + ns / h -/
structure DivP (ks : List Int) (e : Int) (js : List Int) (f : Int) (ms : List Int) (g : Int) (ns : List Int) (h : Int) : Prop where
  ex : ∃ qs rs F, DivR F ks qs rs js ∧ Pq (qs.map fun x => x * f) (F * e) ms g ∧ Pq rs (F * e) ns h ∧ F ≠ 0
  lm : ms.length ≤ ks.length
  ln : ns.length < js.length
/-- the sizes of what a division gives -/
structure NearD (k : Nat) (ks ms : List Int) (g : Int) : Prop where
  b : Bits (dvB k ks.length + k) ms
  g : g.natAbs < 2 ^ (dvB k ks.length + k)
/-- what divides the denominator and all of a division's quotient is small -/
theorem gq_small {F e f : Int} {ks js qs rs : List Int} {k : Nat} (hk : dvB k ks.length + k ≤ 7990 ∨ (e = 1 ∧ f = 1 ∧ Prim (ff js))) (d0 : F * e ≠ 0) (db : (F * e).natAbs < 2 ^ (dvB k ks.length + k)) (fc : FqC F qs) : ∀ g : Int, g ∣ F * e → (∀ i, g ∣ (qs.map fun x => x * f).getD i 0) → g.natAbs < 2 ^ 8000 := fun g hg hi => by
  rcases hk with h | ⟨rfl, rfl, _⟩
  · exact Nat.lt_of_lt_of_le (com_lt (cs := qs.map fun x => x * f) db d0 g hg hi) (Nat.pow_le_pow_right (by decide) (by omega))
  · rw [Int.mul_one] at hg d0
    exact fc.unit d0 hg fun i => by have := hi i; rw [mul_at, Int.mul_one] at this; exact this
theorem gr_small {F e f : Int} {ks js qs rs : List Int} {k : Nat} (hk : dvB k ks.length + k ≤ 7990 ∨ (e = 1 ∧ f = 1 ∧ Prim (ff js))) (d0 : F * e ≠ 0) (db : (F * e).natAbs < 2 ^ (dvB k ks.length + k)) (fc : FqC F qs) (dv : DivR F ks qs rs js) : ∀ g : Int, g ∣ F * e → (∀ i, g ∣ rs.getD i 0) → g.natAbs < 2 ^ 8000 := fun g hg hi => by
  rcases hk with h | ⟨rfl, rfl, pj⟩
  · exact Nat.lt_of_lt_of_le (com_lt (cs := rs) db d0 g hg hi) (Nat.pow_le_pow_right (by decide) (by omega))
  · rw [Int.mul_one] at hg d0
    refine Decidable.byContradiction fun c => ?_
    have g2 : 2 ≤ g.natAbs := Decidable.byContradiction fun y => c (Nat.lt_of_lt_of_le (show g.natAbs < 2 ^ 1 by omega) (Nat.pow_le_pow_right (by decide) (by decide)))
    obtain ⟨p, hp, pg⟩ := pr_ex g.natAbs g2
    have pg2 : (p : Int) ∣ g := Int.dvd_natAbs.mp (Int.natCast_dvd_natCast.mpr pg)
    obtain ⟨i, hi2⟩ := fc p hp (Int.dvd_trans pg2 hg)
    refine hi2 (gauss_p hp (f := ff qs) (g := ff js) (fun k => ?_) (pj p hp) i)
    have e := dv.eq k
    rw [cv_cf] at e
    have a : (p : Int) ∣ F * ks.getD k 0 := Int.dvd_trans (Int.dvd_trans pg2 hg) ⟨_, rfl⟩
    rw [e] at a
    exact (Int.dvd_add_left (Int.dvd_trans pg2 (hi k))).mp a
def spDivide (K : PySem.W.Frag) : Sp := fun vs H Q E => ∃ (a b : Addr) (ks js : List Int) (e f : Int) (k : Nat), vs = [.ref a, .ref b] ∧ PoA K H a ks e ∧ PoA K H b js f ∧ (js = [] → E (CZ K) none H) ∧
  (js ≠ [] → 0 < e ∧ 0 < f ∧ js.getD (js.length - 1) 0 ≠ 0 ∧ Bits k ks ∧ Bits k js ∧ e.natAbs < 2 ^ k ∧ f.natAbs < 2 ^ k ∧ ks.length ≤ 100 ∧ js.length ≤ 100 ∧ k ≤ 2000 ∧ (dvB k ks.length + k ≤ 7990 ∨ (e = 1 ∧ f = 1 ∧ Prim (ff js))) ∧
   ∀ t H' pq pr ms g ns h, Same H H' → H' t = some (.tup [.ref pq, .ref pr]) → PoA K H' pq ms g → PoA K H' pr ns h → DivP ks e js f ms g ns h → NearD k ks ms g → Q (.ref t) H')
theorem lpos {xs : List Int} (h : xs ≠ []) : 0 < xs.length := by
  cases xs with
  | nil => exact absurd rfl h
  | cons _ _ => exact Nat.succ_pos _
theorem dg_list {js : List Int} (h : js.getD (js.length - 1) 0 ≠ 0) : Dg (ff js) (js.length - 1) := ⟨h, fun i hi => getD_end (by
  have : js ≠ [] := fun z => h (by rw [z]; rfl)
  have := lpos this
  omega)⟩
theorem pq_one {zs ks : List Int} {e : Int} (p : Pq zs 1 ks e) : e = 1 ∧ ∀ i, ff ks i = ff zs i := by
  have d := p.den_dvd1 (by decide)
  have p0 := p.pos
  have le := Int.le_of_dvd (by decide) d
  have e1 : e = 1 := by omega
  refine ⟨e1, fun i => ?_⟩
  have := p.eq i
  rw [e1, Int.mul_one, Int.mul_one] at this
  exact this
/-- the remainder is nothing: a divisor -/
theorem div_iff {ks js qs rs ns : List Int} {F e h : Int} (dv : DivR F ks qs rs js) (pn : Pq rs (F * e) ns h) (e0 : e ≠ 0) (lj : js.getD (js.length - 1) 0 ≠ 0) : ns = [] ↔ Dv (ff js) (ff ks) := by
  have F0 := dv.f0
  have h0 := pn.pos
  have fe : F * e ≠ 0 := Int.mul_ne_zero F0 e0
  have eq : ∀ k, F * ff ks k = cf (ff qs) (ff js) k + ff rs k := fun k => by rw [← cv_cf]; exact dv.eq k
  have fq : Fz (ff qs) qs.length := fun i hi => getD_end hi
  constructor
  · intro z
    have rz : ∀ k, ff rs k = 0 := fun k => by
      have := pn.eq k
      rw [z, List.getD_nil, Int.zero_mul] at this
      rcases Int.mul_eq_zero.mp this.symm with w | w
      · exact w
      · omega
    exact ⟨F, ff qs, qs.length, F0, fq, fun k => by rw [eq, rz, Int.add_zero]⟩
  · intro d
    have dr : Dv (ff js) (ff rs) := by
      have c := Dv.comb (x := fun i => F * xp 0 i) (y := fun i => -1 * ff qs i) d (Dv.refl (ff js)) ((xp_fz 0).scale F) (fq.scale (-1))
      refine c.congr (fun _ => rfl) fun k => ?_
      rw [cf_scale_l, cf_one, cf_scale_l, eq]
      omega
    have fr : Fz (ff rs) (js.length - 1) := fun i hi => dv.hi i (by omega)
    have rz : ∀ k, ff rs k = 0 := by
      rcases zero_or_dg _ fr with z | ⟨m, hm, dm⟩
      · exact z
      · have := dr.deg (dg_list lj) dm
        omega
    rcases pn.last with z | z
    · exact z
    · exfalso
      have := pn.eq (ns.length - 1)
      have r0 : rs.getD (ns.length - 1) 0 = 0 := rz _
      rw [r0, Int.zero_mul] at this
      rcases Int.mul_eq_zero.mp this with w | w
      · exact z w
      · exact fe w
def spDvs (K : PySem.W.Frag) : Sp := fun vs H Q _ => ∃ (a b : Addr) (js xs : List Int) (k : Nat), vs = [.ref a, .ref b] ∧ PoA K H a js 1 ∧ SqL K H b (xs.map V.int) ∧ Prim (ff js) ∧ js.getD (js.length - 1) 0 ≠ 0 ∧ Bits k js ∧ Bits k xs ∧ xs.length ≤ 100 ∧ js.length ≤ 100 ∧ 1 ≤ k ∧ k ≤ 2000 ∧
  ∀ (r : Bool) H', Same H H' → (r = true ↔ Dv (ff js) (ff xs)) → Q (.bl r) H'
def spDBV (K : PySem.W.Frag) : Sp := fun vs H Q _ => ∃ (a b : Addr) (xs ys : List Int) (k KK : Nat), vs = [.ref a, .ref b] ∧ SqL K H a (xs.map V.int) ∧ SqL K H b (ys.map V.int) ∧ xs.getD (xs.length - 1) 0 ≠ 0 ∧ ys.getD (ys.length - 1) 0 ≠ 0 ∧ xs.length ≤ 13 ∧ ys.length ≤ 13 ∧ Bits k xs ∧ Bits k ys ∧
  (∃ (e0 : Nat → Int) (ke me : Nat), Euc (ff xs) (ff ys) e0 ∧ Dg e0 me ∧ Bt ke e0 ∧ ke + 30 ≤ KK) ∧ k + 30 ≤ KK ∧ KK ≤ 2000 ∧
  ∀ p H' js, Same H H' → PoA K H' p js 1 → js.getD (js.length - 1) 0 ≠ 0 → Bits KK js → js.length ≤ 13 → Dv (ff js) (ff xs) → Dv (ff js) (ff ys) → (∀ d, Dv d (ff xs) → Dv d (ff ys) → Dv d (ff js)) → Q (.ref p) H'
theorem e1_up {A : Nat → Int} {n H X : Nat} (dA : Dg A n) (hH : ∀ i, (A i).natAbs ≤ H) (hX : 2 ^ 24 * H + 29 ≤ X) : (e1 A (X : Int) (n + 1)).natAbs ≤ X ^ (n + 1) := by
  have l := e1_le (f := A) (h := (X : Int)) (x := X) hH (by omega) (n + 1)
  have g := sg_eq (x := X) (by omega) (n + 1)
  have m : H * sg X (n + 1) ≤ (X - 1) * sg X (n + 1) := Nat.mul_le_mul_right _ (by omega)
  omega
/-- what the greatest common divisor may be asked for -/
structure CDok (ks js : List Int) (k KK : Nat) : Prop where
  bk : Bits k ks
  bj : Bits k js
  lk : ks.length ≤ 13
  lj : js.length ≤ 13
  ex : ks ≠ [] → js ≠ [] → ∃ (e0 : Nat → Int) (ke me : Nat), Euc (ff ks) (ff js) e0 ∧ Dg e0 me ∧ Bt ke e0 ∧ ke + 30 ≤ KK
  kk : k + 30 ≤ KK
  KK2 : KK ≤ 2000
structure GcdR (ks js ms : List Int) (g : Int) (KK : Nat) : Prop where
  zero : ks = [] → js = [] → ms = []
  mon : ks ≠ [] ∨ js ≠ [] → ms ≠ [] ∧ ms.getD (ms.length - 1) 0 = g
  dk : Dv (ff ms) (ff ks)
  dj : Dv (ff ms) (ff js)
  max : ∀ d, Dv d (ff ks) → Dv d (ff js) → Dv d (ff ms)
  bits : Bits KK ms
  len : ms.length ≤ 13
  self : Pq ms g ms g
theorem ff_nil (i : Nat) : ff ([] : List Int) i = 0 := rfl
/-- a multiple in its one form -/
theorem mon_dv {ks ms : List Int} {g : Int} (ne : ks ≠ []) (lead : ks.getD (ks.length - 1) 0 ≠ 0) (pq : Pq ks (ks.getD (ks.length - 1) 0) ms g) : Dv (ff ms) (ff ks) ∧ Dv (ff ks) (ff ms) ∧ ms ≠ [] ∧ ms.getD (ms.length - 1) 0 = g ∧ ms.length = ks.length := by
  have g0 := pq.pos
  have e1 : ∀ i, ff ms i * ks.getD (ks.length - 1) 0 = ff ks i * g := pq.eq
  have d1 : Dv (ff ms) (ff ks) := ⟨g, fun i => ks.getD (ks.length - 1) 0 * xp 0 i, 1, by omega, (xp_fz 0).scale _, fun i => by rw [cf_scale_l, cf_one, Int.mul_comm g, ← e1, Int.mul_comm]⟩
  have d2 : Dv (ff ks) (ff ms) := ⟨ks.getD (ks.length - 1) 0, fun i => g * xp 0 i, 1, lead, (xp_fz 0).scale _, fun i => by rw [cf_scale_l, cf_one, Int.mul_comm, e1, Int.mul_comm]⟩
  have kp := lpos ne
  have top : ff ms (ks.length - 1) = g := by
    have := e1 (ks.length - 1)
    rw [Int.mul_comm (ff ks (ks.length - 1))] at this
    exact Int.eq_of_mul_eq_mul_right lead this
  have mne : ms ≠ [] := fun z => by
    rw [z] at top
    have : (0 : Int) = g := top
    omega
  have ml : ms.getD (ms.length - 1) 0 ≠ 0 := by
    rcases pq.last with z | z
    · exact absurd z mne
    · exact z
  have lm : ms.length - 1 = ks.length - 1 := by
    have a := d1.deg (dg_list ml) (dg_list lead)
    have b := d2.deg (dg_list lead) (dg_list ml)
    omega
  have mp := lpos mne
  exact ⟨d1, d2, mne, by rw [lm]; exact top, by omega⟩
def spCDv (K : PySem.W.Frag) : Sp := fun vs H Q _ => ∃ (a b : Addr) (ks js : List Int) (e f : Int) (k KK : Nat), vs = [.ref a, .ref b] ∧ PoA K H a ks e ∧ PoA K H b js f ∧ Pq ks e ks e ∧ Pq js f js f ∧ CDok ks js k KK ∧
  ∀ p H' ms g, Same H H' → PoA K H' p ms g → GcdR ks js ms g KK → Q (.ref p) H'
theorem Euc.prims {A B A' B' e0 : Nat → Int} {c d : Int} (c0 : c ≠ 0) (d0 : d ≠ 0) (hA : ∀ i, A i = c * A' i) (hB : ∀ i, B i = d * B' i) (h : Euc A B e0) : Euc A' B' e0 := by
  obtain ⟨u, v, N, hu, hv, cm⟩ := h.comb
  refine ⟨(h.da.congr (fun _ => rfl) (fun i => (hA i).symm)).scale c0, (h.db.congr (fun _ => rfl) (fun i => (hB i).symm)).scale d0, fun i => c * u i, fun i => d * v i, N, hu.scale c, hv.scale d, fun i => ?_⟩
  rw [cm, cf_scale_l, cf_scale_l, show cf u A i = c * cf u A' i by rw [← cf_scale]; exact cf_congr (fun _ => rfl) hA i, show cf v B i = d * cf v B' i by rw [← cf_scale]; exact cf_congr (fun _ => rfl) hB i]
def spExact (K : PySem.W.Frag) : Sp := fun vs H Q _ => ∃ (a b : Addr) (ks js : List Int) (e f : Int) (k : Nat), vs = [.ref a, .ref b] ∧ PoA K H a ks e ∧ PoA K H b js f ∧ js ≠ [] ∧
  0 < e ∧ 0 < f ∧ js.getD (js.length - 1) 0 ≠ 0 ∧ Bits k ks ∧ Bits k js ∧ e.natAbs < 2 ^ k ∧ f.natAbs < 2 ^ k ∧ ks.length ≤ 100 ∧ js.length ≤ 100 ∧ k ≤ 2000 ∧ dvB k ks.length + k ≤ 7990 ∧
  ∀ p H' ms g, Same H H' → PoA K H' p ms g → (∃ ns h, DivP ks e js f ms g ns h) → NearD k ks ms g → Q (.ref p) H'
def spInit (K : PySem.W.Frag) : Sp := fun vs H Q E => ∃ (x dx : Addr) (n d : Int) (k : Nat), vs = [.ref x, .int n, .int d] ∧ H x = some (.ins (CF K) dx []) ∧ d.natAbs < 2 ^ k ∧ k ≤ 8000 ∧
  (d = 0 → E (CD K) none H) ∧ (d ≠ 0 → ∀ a b, Fq n d a b → Q .non (upd H x (.ins (CF K) dx (fsF a b))))
theorem mkFr_conv (K : PySem.W.Frag) (dvs : List V) (vs : List V) (H1 : Hp) (Q : VK) (h : mkFr K dvs vs H1 Q) (x dx : Addr) (nx : H1 x = none) (nd : H1 dx = none) (ne : dx ≠ x) :
    spInit K (.ref x :: (vs ++ dvs)) (upd (upd H1 dx (.own x)) x (.ins (CF K) dx [])) (fun v H2 => v = .non ∧ Q (.ref x) H2) E0 := by
  obtain ⟨n, d, k, e, hb, hk, hd, q⟩ := h
  rw [e]
  exact ⟨x, dx, n, d, k, rfl, upd_same, hb, hk, fun z => absurd z hd, fun _ a b f => ⟨rfl, q x dx _ a b (same_made nx nd ne) nx upd_same f⟩⟩
def spPDeg (K : PySem.W.Frag) : Sp := fun vs H Q _ => ∃ (a : Addr) (ks : List Int) (e : Int), vs = [.ref a] ∧ PoA K H a ks e ∧ Q (.int ((ks.length : Int) - 1)) H
def coI (ks : List Int) (i : Int) : Int := if i < 0 then 0 else ks.getD i.toNat 0
def spPCo (K : PySem.W.Frag) : Sp := fun vs H Q _ => ∃ (a : Addr) (ks : List Int) (e i : Int) (k : Nat), vs = [.ref a, .int i] ∧ PoA K H a ks e ∧ 0 < e ∧ e.natAbs < 2 ^ k ∧ k ≤ 8000 ∧ RF K H Q (Fq (coI ks i) e)
def spPLe (K : PySem.W.Frag) : Sp := fun vs H Q _ => ∃ (a : Addr) (ks : List Int) (e : Int) (k : Nat), vs = [.ref a] ∧ PoA K H a ks e ∧ 0 < e ∧ e.natAbs < 2 ^ k ∧ k ≤ 8000 ∧ RF K H Q (Fq (coI ks ((ks.length : Int) - 1)) e)
def spZero (K : PySem.W.Frag) : Sp := fun vs H Q _ => ∃ (a da : Addr) (n1 d1 : Int), vs = [.ref a] ∧ H a = some (.ins (CF K) da (fsF n1 d1)) ∧ Q (.bl (decide (V.int n1 = V.int 0))) H
def spLow (K : PySem.W.Frag) : Sp := fun vs H Q _ => ∃ n d : Int, vs = [.int n, .int d] ∧ RF K H Q (fun a b => a = n ∧ b = d)
def spMul (K : PySem.W.Frag) : Sp := fun vs H Q _ => ∃ (a b da db : Addr) (n1 d1 n2 d2 : Int) (k : Nat), vs = [.ref a, .ref b] ∧ H a = some (.ins (CF K) da (fsF n1 d1)) ∧ H b = some (.ins (CF K) db (fsF n2 d2)) ∧ Lw k n1 d1 ∧ Lw k n2 d2 ∧ k ≤ 8000 ∧
  RF K H Q (Fq (n1 * n2) (d1 * d2))
def spOver (K : PySem.W.Frag) : Sp := fun vs H Q E => ∃ (a b da db : Addr) (n1 d1 n2 d2 : Int) (k : Nat), vs = [.ref a, .ref b] ∧ H a = some (.ins (CF K) da (fsF n1 d1)) ∧ H b = some (.ins (CF K) db (fsF n2 d2)) ∧ Lw k n1 d1 ∧ Lw k n2 d2 ∧ k ≤ 8000 ∧
  (n2 = 0 → E (CD K) none H) ∧ (n2 ≠ 0 → RF K H Q (Fq (n1 * d2) (d1 * n2)))
def spPSca (K : PySem.W.Frag) : Sp := fun vs H Q _ => ∃ (a b db : Addr) (ks : List Int) (e n d : Int) (k : Nat), vs = [.ref a, .ref b] ∧ PoA K H a ks e ∧ H b = some (.ins (CF K) db (fsF n d)) ∧ 0 < e ∧ e.natAbs < 2 ^ k ∧ d ≠ 0 ∧ Bits k ks ∧ n.natAbs < 2 ^ k ∧ d.natAbs < 2 ^ k ∧ ks.length ≤ 400 ∧ k ≤ 4000 ∧ RP K H Q (fun ms g => Pq (ks.map fun x => x * n) (e * d) ms g)
abbrev CQ (K : PySem.W.Frag) : Addr := He.ga K "Quotient"
abbrev fsQ (u v : Addr) : List (Str × L2.V) := [("num", .ref u), ("den", .ref v)]
/-- all but x is kept -/
def SameB (x : Addr) (H H' : Hp) : Prop := ∀ a o, a ≠ x → H a = some o → H' a = some o
/-- as / a over bs / b is (ks / e) / (js / f) in its one form -/
structure QtR (ks : List Int) (e : Int) (js : List Int) (f : Int) (as : List Int) (a : Int) (bs : List Int) (b : Int) : Prop where
  sa : Pq as a as a
  sb : Pq bs b bs b
  bne : bs ≠ []
  mon : bs.getD (bs.length - 1) 0 = b
  eq : ∀ i, cv as js i * (e * b) = cv ks bs i * (a * f)
  cop : ∀ D m, Dg D m → Dv D (ff as) → Dv D (ff bs) → m = 0
  da : Dv (ff as) (ff ks)
  db : Dv (ff bs) (ff js)
def spQuI (K : PySem.W.Frag) : Sp := fun vs H Q E => ∃ (x dx p r : Addr) (ks js : List Int) (e f : Int) (k KK kc : Nat), vs = [.ref x, .ref p, .ref r] ∧ H x = some (.ins (CQ K) dx []) ∧ PoA K H p ks e ∧ PoA K H r js f ∧ Pq ks e ks e ∧ Pq js f js f ∧
  (js = [] → E (CD K) none H) ∧
  (js ≠ [] → CDok ks js k KK ∧ (∀ ms g, GcdR ks js ms g KK → Bits kc ms) ∧ k ≤ kc ∧ e.natAbs < 2 ^ kc ∧ f.natAbs < 2 ^ kc ∧ dvB kc ks.length + kc ≤ 3990 ∧ dvB kc js.length + kc ≤ 3990 ∧
   ∀ H' u v as a bs b, SameB x H H' → PoA K H' u as a → PoA K H' v bs b → QtR ks e js f as a bs b → H' x = some (.ins (CQ K) dx (fsQ u v)) → Q .non H')
/-- a quotient -/
def QuA (K : PySem.W.Frag) (H : Hp) (q : Addr) (as : List Int) (a : Int) (bs : List Int) (b : Int) : Prop := ∃ dq u v, H q = some (.ins (CQ K) dq (fsQ u v)) ∧ PoA K H u as a ∧ PoA K H v bs b
theorem QuA.mono {K : PySem.W.Frag} {H H' : Hp} {q : Addr} {as bs : List Int} {a b : Int} (h : QuA K H q as a bs b) (s : Same H H') : QuA K H' q as a bs b := by
  obtain ⟨dq, u, v, h1, h2, h3⟩ := h
  exact ⟨dq, u, v, s _ _ h1, h2.mono s, h3.mono s⟩
structure QuOk (ks : List Int) (e : Int) (js : List Int) (f : Int) (k KK kc : Nat) : Prop where
  ok : CDok ks js k KK
  cb : ∀ ms g, GcdR ks js ms g KK → Bits kc ms
  kk : k ≤ kc
  eb : e.natAbs < 2 ^ kc
  fb : f.natAbs < 2 ^ kc
  d1 : dvB kc ks.length + kc ≤ 3990
  d2 : dvB kc js.length + kc ≤ 3990
def mkQu (K : PySem.W.Frag) (dvs : List V) : List V → Hp → VK → Prop := fun vs H1 Q => ∃ (p r : Addr) (ks js : List Int) (e f : Int) (k KK kc : Nat), vs ++ dvs = [.ref p, .ref r] ∧ PoA K H1 p ks e ∧ PoA K H1 r js f ∧ Pq ks e ks e ∧ Pq js f js f ∧ js ≠ [] ∧ QuOk ks e js f k KK kc ∧
  ∀ q H2 as a bs b, Same H1 H2 → H1 q = none → QuA K H2 q as a bs b → QtR ks e js f as a bs b → Q (.ref q) H2
theorem mkQu_conv (K : PySem.W.Frag) (dvs : List V) (vs : List V) (H1 : Hp) (Q : VK) (h : mkQu K dvs vs H1 Q) (x dx : Addr) (nx : H1 x = none) (nd : H1 dx = none) (ne : dx ≠ x) :
    spQuI K (.ref x :: (vs ++ dvs)) (upd (upd H1 dx (.own x)) x (.ins (CQ K) dx [])) (fun v H2 => v = .non ∧ Q (.ref x) H2) E0 := by
  obtain ⟨p, r, ks, js, e, f, k, KK, kc, ev, hp, hr, sk, sj, jne, o, q⟩ := h
  have s0 : Same H1 (upd (upd H1 dx (.own x)) x (.ins (CQ K) dx [])) := same_made0 nx nd
  rw [ev]
  refine ⟨x, dx, p, r, ks, js, e, f, k, KK, kc, rfl, upd_same, hp.mono s0, hr.mono s0, sk, sj, fun z => absurd z jne, fun _ => ⟨o.ok, o.cb, o.kk, o.eb, o.fb, o.d1, o.d2, fun H' u v as a bs b sb hu hv qt hx => ⟨rfl, ?_⟩⟩⟩
  exact q x H' as a bs b (fun y o hy => sb y o (fun z => by rw [z, nx] at hy; cases hy) (s0 _ _ hy)) nx ⟨dx, u, v, hx, hu, hv⟩ qt
theorem poA_updx {K : PySem.W.Frag} {H : Hp} {p x dx C : Addr} {ks : List Int} {e : Int} {fs : List (Str × L2.V)} {o : HO} (h : PoA K H p ks e) (hx : H x = some (.ins C dx fs)) (hf : fs.length ≤ 1) : PoA K (upd H x o) p ks e := by
  obtain ⟨dp, t, h1, h2⟩ := h
  refine ⟨dp, t, ?_, ?_⟩
  · rw [upd_ne (fun z => ?_)]
    · exact h1
    · subst z
      rw [hx] at h1
      cases h1
      exact absurd hf (by simp)
  · rw [upd_ne (fun z => ?_)]
    · exact h2
    · subst z
      rw [hx] at h2
      cases h2
theorem DivP.pm_self {ks js ms ns : List Int} {e f g h : Int} (d : DivP ks e js f ms g ns h) : Pq ms g ms g := by
  obtain ⟨_, _, _, _, p, _⟩ := d.ex
  exact p.self
theorem small1 (k : Nat) (h : 1 ≤ k) : (1 : Int).natAbs < 2 ^ k := Nat.lt_of_lt_of_le (show 1 < 2 ^ 1 by decide) (Nat.pow_le_pow_right (by decide) h)
theorem fq_11 {a b : Int} (f : Fq 1 1 a b) : a = 1 ∧ b = 1 := by
  have e := f.eq
  have p := f.pos
  have c := f.cop
  have ab : a = b := by omega
  rw [ab, Nat.gcd_self] at c
  omega
theorem prop_dv {x y : Nat → Int} {c d : Int} (c0 : c ≠ 0) (h : ∀ i, c * x i = d * y i) : Dv y x := ⟨c, fun i => d * xp 0 i, 1, c0, (xp_fz 0).scale d, fun i => by rw [cf_scale_l, cf_one]; exact h i⟩
/-- an exact division, crosswise -/
theorem exact_eq {ks ms vs ns : List Int} {e g w h : Int} (dn : DivP ks e ms g vs w ns h) (e0 : e ≠ 0) (ml : ms.getD (ms.length - 1) 0 ≠ 0) (dv : Dv (ff ms) (ff ks)) (i : Nat) : ff ks i * (w * g) = cf (ff vs) (ff ms) i * e := by
  obtain ⟨qs, rs, F, dr, pm, pn, F0⟩ := dn.ex
  have nz := (div_iff dr pn e0 ml).mpr dv
  have r0 : rs.getD i 0 = 0 := by
    have z := pn.eq i
    rw [nz] at z
    have z2 : (0 : Int) = rs.getD i 0 * h := by rw [← z]; show 0 = 0 * (F * e); omega
    have := pn.pos
    rcases Int.mul_eq_zero.mp z2.symm with y | y
    · exact y
    · omega
  have e1 := dr.eq i
  rw [r0, Int.add_zero, cv_cf] at e1
  have e2 : F * e * cf (ff vs) (ff ms) i = g * w * cf (ff qs) (ff ms) i := by
    rw [← cf_scale_l, ← cf_scale_l]
    refine cf_congr (fun j => ?_) (fun _ => rfl) i
    have y := pm.eq j
    rw [mul_at] at y
    show F * e * vs.getD j 0 = g * w * qs.getD j 0
    grind
  apply Int.eq_of_mul_eq_mul_left F0
  have e3 : F * (ff ks i * (w * g)) = (F * ks.getD i 0) * (w * g) := by rw [Int.mul_assoc]
  rw [e3, e1]
  grind
theorem low_ne {js ms us ns : List Int} {f g h h1 : Int} (jne : js ≠ []) (sj : Pq js f js f) (ml : ms.getD (ms.length - 1) 0 ≠ 0) (g0 : g ≠ 0) (dv : Dv (ff ms) (ff js)) (dl : DivP js f ms g us h ns h1) : us ≠ [] ∧ Pq us h us h := by
  have su := dl.pm_self
  refine ⟨fun z => ?_, su⟩
  have f0 : f ≠ 0 := by have := sj.pos; omega
  have e := exact_eq dl f0 ml dv (js.length - 1)
  rw [z, cf_zero_l ff_nil, Int.zero_mul] at e
  have h0 : h ≠ 0 := by have := su.pos; omega
  rcases Int.mul_eq_zero.mp e with y | y
  · exact (sj.last.resolve_left jne) y
  · rcases Int.mul_eq_zero.mp y with y | y
    · exact h0 y
    · exact g0 y
theorem Dv.mulr {d v m : Nat → Int} (h : Dv d v) : Dv (cf d m) (cf v m) := by
  obtain ⟨c, s, N, c0, hs, e⟩ := h
  refine ⟨c, s, N, c0, hs, fun i => ?_⟩
  rw [← cf_scale_l, cf_congr e (fun _ => rfl) i, cf_assoc]
theorem quo_math {ks js ms us vs as bs : List Int} {e f g h w n d n6 d6 a b : Int} {KK : Nat} {ns1 ns2 : List Int} {h1 h2 : Int} (sk : Pq ks e ks e) (sj : Pq js f js f) (jne : js ≠ []) (G : GcdR ks js ms g KK) (dl : DivP js f ms g us h ns1 h1) (dn : DivP ks e ms g vs w ns2 h2)
    (fq : Fq (coI us ((us.length : Int) - 1)) h n d) (fo : Fq (1 * d) (1 * n) n6 d6) (pq : Pq (vs.map fun x => x * n6) (w * d6) as a) (sb : Pq bs b bs b) (mr : MonR us bs b) : QtR ks e js f as a bs b := by
  obtain ⟨mne, gm⟩ := G.mon (.inr jne)
  have ml : ms.getD (ms.length - 1) 0 ≠ 0 := G.self.last.resolve_left mne
  have g0 : g ≠ 0 := by have := G.self.pos; omega
  have e0 : e ≠ 0 := by have := sk.pos; omega
  have f0 : f ≠ 0 := by have := sj.pos; omega
  obtain ⟨une, su⟩ := low_ne jne sj ml g0 G.dj dl
  have h0 : h ≠ 0 := by have := su.pos; omega
  have w0 : w ≠ 0 := by have := dn.pm_self.pos; omega
  have a0 : a ≠ 0 := by have := pq.pos; omega
  have b0 : b ≠ 0 := by have := sb.pos; omega
  have ul := lpos une
  have lu : coI us ((us.length : Int) - 1) = us.getD (us.length - 1) 0 := by
    unfold coI
    rw [if_neg (by omega), show ((us.length : Int) - 1).toNat = us.length - 1 by omega]
  rw [lu] at fq
  have lu0 : us.getD (us.length - 1) 0 ≠ 0 := su.last.resolve_left une
  obtain ⟨L, eL⟩ : ∃ L, L = us.getD (us.length - 1) 0 := ⟨_, rfl⟩
  rw [← eL] at fq lu0
  have d0 : d ≠ 0 := by have := fq.pos; omega
  have q1 := fq.eq
  have q2 := fo.eq
  rw [Int.one_mul, Int.one_mul] at q2
  have d60 : d6 ≠ 0 := by have := fo.pos; omega
  have n60 : n6 ≠ 0 := fun z => by
    rw [z, Int.zero_mul] at q2
    rcases Int.mul_eq_zero.mp q2.symm with y | y
    · exact d0 y
    · exact d60 y
  have key : n6 * L = d6 * h := by
    apply Int.eq_of_mul_eq_mul_left d0
    have : d * (n6 * L) = n6 * (L * d) := by grind
    rw [this, ← q1]
    have : d * (d6 * h) = (d * d6) * h := by grind
    rw [this, ← q2]
    grind
  have pb : Pq us L bs b := by
    rcases mr with ⟨z, _⟩ | ⟨_, p⟩
    · exact absurd z une
    · rw [eL]; exact p
  obtain ⟨bu, ub, bne, bm, _⟩ := mon_dv une (by rw [← eL]; exact lu0) (by rw [← eL]; exact pb)
  have E1 := exact_eq dl f0 ml G.dj
  have E2 := exact_eq dn e0 ml G.dk
  have A1 : ∀ i, w * d6 * ff as i = n6 * a * ff vs i := fun i => by
    have y := pq.eq i
    rw [mul_at] at y
    show w * d6 * as.getD i 0 = n6 * a * vs.getD i 0
    grind
  have B1 : ∀ i, L * ff bs i = b * ff us i := fun i => by
    have y := pb.eq i
    show L * bs.getD i 0 = b * us.getD i 0
    grind
  have na : n6 * a ≠ 0 := Int.mul_ne_zero n60 a0
  have wd : w * d6 ≠ 0 := Int.mul_ne_zero w0 d60
  have hg : h * g ≠ 0 := Int.mul_ne_zero h0 g0
  have wg : w * g ≠ 0 := Int.mul_ne_zero w0 g0
  have va : Dv (ff as) (ff vs) := prop_dv na fun i => (A1 i).symm
  have av : Dv (ff vs) (ff as) := prop_dv wd A1
  have vk : Dv (ff vs) (ff ks) := ⟨w * g, fun i => e * ff ms i, ms.length, wg, fun i hi => by show e * ms.getD i 0 = 0; rw [getD_end hi, Int.mul_zero], fun i => by rw [cf_scale_l, cf_comm, Int.mul_comm e, ← E2 i, Int.mul_comm]⟩
  have uj : Dv (ff us) (ff js) := ⟨h * g, fun i => f * ff ms i, ms.length, hg, fun i hi => by show f * ms.getD i 0 = 0; rw [getD_end hi, Int.mul_zero], fun i => by rw [cf_scale_l, cf_comm, Int.mul_comm f, ← E1 i, Int.mul_comm]⟩
  refine ⟨pq.self, sb, bne, bm, fun i => ?_, fun D m dg h1 h2 => ?_, va.trans vk, bu.trans uj⟩
  · rw [cv_cf, cv_cf]
    have T1 : w * d6 * (h * g) * cf (ff as) (ff js) i = n6 * a * f * cf (ff vs) (cf (ff us) (ff ms)) i := by
      have s1 : w * d6 * cf (ff as) (ff js) i = n6 * a * cf (ff vs) (ff js) i := by
        rw [← cf_scale_l, ← cf_scale_l]
        exact cf_congr A1 (fun _ => rfl) i
      have s2 : h * g * cf (ff vs) (ff js) i = f * cf (ff vs) (cf (ff us) (ff ms)) i := by
        rw [cf_comm (ff vs) (ff js), cf_comm (ff vs) (cf (ff us) (ff ms)), ← cf_scale_l, ← cf_scale_l]
        exact cf_congr (fun j => by rw [Int.mul_comm, E1 j, Int.mul_comm]) (fun _ => rfl) i
      grind
    have T2 : w * g * L * cf (ff ks) (ff bs) i = e * b * cf (ff vs) (cf (ff us) (ff ms)) i := by
      have s1 : w * g * cf (ff ks) (ff bs) i = e * cf (cf (ff vs) (ff ms)) (ff bs) i := by
        rw [← cf_scale_l, ← cf_scale_l]
        exact cf_congr (fun j => by rw [Int.mul_comm, E2 j, Int.mul_comm]) (fun _ => rfl) i
      have s2 : L * cf (cf (ff vs) (ff ms)) (ff bs) i = b * cf (cf (ff vs) (ff ms)) (ff us) i := by
        rw [cf_comm _ (ff bs), cf_comm _ (ff us), ← cf_scale_l, ← cf_scale_l]
        exact cf_congr B1 (fun _ => rfl) i
      have s3 : cf (cf (ff vs) (ff ms)) (ff us) i = cf (ff vs) (cf (ff us) (ff ms)) i := by
        rw [cf_assoc]
        exact cf_congr (fun _ => rfl) (fun j => cf_comm _ _ j) i
      grind
    generalize cf (ff vs) (cf (ff us) (ff ms)) i = P at T1 T2
    generalize cf (ff as) (ff js) i = X at T1 ⊢
    generalize cf (ff ks) (ff bs) i = Y at T2 ⊢
    have big : w * g * (L * (d6 * h)) ≠ 0 := Int.mul_ne_zero wg (Int.mul_ne_zero lu0 (Int.mul_ne_zero d60 h0))
    apply Int.eq_of_mul_eq_mul_left big
    have l1 : w * g * (L * (d6 * h)) * (X * (e * b)) = (w * d6 * (h * g) * X) * (L * e * b) := by grind
    have l2 : w * g * (L * (d6 * h)) * (Y * (a * f)) = (w * g * L * Y) * ((d6 * h) * a * f) := by grind
    rw [l1, l2, T1, T2, ← key]
    grind
  · have D1 : Dv (cf D (ff ms)) (ff ks) := Dv.scale wg (((h1.trans (prop_dv (c := 1) (d := 1) (by decide) (fun _ => rfl))).trans va).mulr (m := ff ms) |>.scale' e |>.congr (fun _ => rfl) (fun i => by rw [Int.mul_comm, E2 i, Int.mul_comm]))
    have D2 : Dv (cf D (ff ms)) (ff js) := Dv.scale hg ((h2.trans bu).mulr (m := ff ms) |>.scale' f |>.congr (fun _ => rfl) (fun i => by rw [Int.mul_comm, E1 i, Int.mul_comm]))
    have z := (G.max _ D1 D2).deg (dg.cf (dg_list ml)) (dg_list ml)
    omega
/-- what a spoilt form's parts are -/
structure SpR (m0 m1 : List Int) : Prop where
  l0 : m0.length ≤ 7
  l1 : m1.length ≤ 7
  b0 : ∀ i, (m0.getD i 0).natAbs ≤ 2 ^ 21
  b1 : ∀ i, (m1.getD i 0).natAbs < 2 ^ 22
  f0 : Fz (ff m0) 6
  d1 : ∃ n, n ≤ 5 ∧ Dg (ff m1) n
def sgR : Nat → Nat
  | 0 => 0
  | n + 1 => sgR n + 9 ^ n
theorem sgR_mono {n : Nat} (h : n ≤ 5) : sgR n ≤ sgR 5 := by
  rcases (by omega : n = 0 ∨ n = 1 ∨ n = 2 ∨ n = 3 ∨ n = 4 ∨ n = 5) with e | e | e | e | e | e <;> rw [e] <;> decide
theorem pw_absR {s : Int} (h : s.natAbs ≤ 8) : ∀ i k, (pw s i k).natAbs ≤ 9 ^ i
  | 0, 0 => Nat.le_refl _
  | 0, k + 1 => Nat.zero_le _
  | i + 1, 0 => by
    have ih := pw_absR h i 0
    rw [pw, Int.natAbs_mul, Nat.pow_succ, Nat.mul_comm]
    exact Nat.mul_le_mul ih (by omega)
  | i + 1, k + 1 => by
    have h1 := pw_absR h i (k + 1)
    have h2 := pw_absR h i k
    have m : (s * pw s i (k + 1)).natAbs ≤ 8 * 9 ^ i := by rw [Int.natAbs_mul]; exact Nat.mul_le_mul h h1
    rw [pw, Nat.pow_succ]
    omega
theorem shV_absR {s : Int} {f : Nat → Int} {B : Nat} (h : s.natAbs ≤ 8) (hf : ∀ i, (f i).natAbs ≤ B) : ∀ n k, (shV s f n k).natAbs ≤ B * sgR n
  | 0, k => Nat.zero_le _
  | n + 1, k => by
    have ih := shV_absR h hf n k
    have m : (f n * pw s n k).natAbs ≤ B * 9 ^ n := by rw [Int.natAbs_mul]; exact Nat.mul_le_mul (hf n) (pw_absR h n k)
    show (shV s f n k + f n * pw s n k).natAbs ≤ B * (sgR n + 9 ^ n)
    rw [Nat.mul_add]
    omega
def spLSpo (K : PySem.W.Frag) : Sp := fun vs H Q _ => ∃ (a p q : Addr) (ms xs ys : List Int), vs = [.ref a, .ref p, .ref q] ∧ SqL K H a (ms.map V.int) ∧ ms.length = 10 ∧ H p = some (.lst (xs.map V.int)) ∧ H q = some (.lst (ys.map V.int)) ∧ RtP 147 xs ∧ RtP 343 ys ∧
  ∀ r u v m0 m1 H', Same H H' → H r = none → H' r = some (.lst [.ref u, .ref v]) → H' u = some (.lst (m0.map V.int)) → H' v = some (.lst (m1.map V.int)) → SpR m0 m1 → Q (.ref r) H'
def spQuZ (K : PySem.W.Frag) : Sp := fun vs H Q _ => ∃ (q : Addr) (as : List Int) (a : Int) (bs : List Int) (b : Int), vs = [.ref q] ∧ QuA K H q as a bs b ∧ Q (.bl (decide (V.int (as.length : Int) = V.int 0))) H
def spShc (K : PySem.W.Frag) : Sp := fun vs H Q _ => ∃ (a : Addr) (cs : List Int) (s : Int) (kb sb : Nat), vs = [.ref a, .int s] ∧ (SqL K H a (cs.map V.int) ∨ SqT K H a (cs.map V.int)) ∧ Bits kb cs ∧ s.natAbs < 2 ^ sb ∧ cs.length ≤ 400 ∧ sb ≤ 100000 ∧ shB kb sb cs.length ≤ 400000 ∧
  ∀ p H' zs, Same H H' → H p = none → H' p = some (.lst (zs.map V.int)) → IsSh s zs cs → Bits (shB kb sb cs.length) zs → Q (.ref p) H'
def spPShi (K : PySem.W.Frag) : Sp := fun vs H Q _ => ∃ (a : Addr) (ks : List Int) (e s : Int) (kb sb : Nat), vs = [.ref a, .int s] ∧ PoA K H a ks e ∧ 0 < e ∧ e.natAbs < 2 ^ 60 ∧ Bits kb ks ∧ s.natAbs < 2 ^ sb ∧ ks.length ≤ 400 ∧ sb ≤ 100000 ∧ shB kb sb ks.length ≤ 400000 ∧
  RP K H Q (fun ms g => ∃ zs, IsSh s zs ks ∧ Bits (shB kb sb ks.length) zs ∧ Pq zs e ms g)
def spPlain (K : PySem.W.Frag) : Sp := fun vs H Q _ => ∃ (a b : Addr) (xs ys : List Int) (k : Nat), vs = [.ref a, .ref b] ∧ SqT K H a (xs.map V.int) ∧ SqT K H b (ys.map V.int) ∧ Bits k xs ∧ Bits k ys ∧ xs.length ≤ 400 ∧ ys.length ≤ 400 ∧ k ≤ 400000 ∧
  ∀ p H' zs, Same H H' → H p = none → H' p = some (.lst (zs.map V.int)) → IsMul zs xs ys → Q (.ref p) H'
def spMult (K : PySem.W.Frag) : Sp := fun vs H Q _ => ∃ (a b : Addr) (xs ys : List Int) (k : Nat), vs = [.ref a, .ref b] ∧ SqT K H a (xs.map V.int) ∧ SqT K H b (ys.map V.int) ∧ Bits k xs ∧ Bits k ys ∧ xs.length ≤ 400 ∧ ys.length ≤ 400 ∧ k ≤ 400000 ∧ (xs.length < 8 ∨ ys.length < 8) ∧
  ∀ p H' zs, Same H H' → H p = none → H' p = some (.lst (zs.map V.int)) → IsMul zs xs ys → Q (.ref p) H'
def spPMul (K : PySem.W.Frag) : Sp := fun vs H Q _ => ∃ (a b : Addr) (ks js : List Int) (e f : Int) (k : Nat), vs = [.ref a, .ref b] ∧ PoA K H a ks e ∧ PoA K H b js f ∧ 0 < e ∧ 0 < f ∧ Bits k ks ∧ Bits k js ∧ k ≤ 50000 ∧ e.natAbs < 2 ^ 60 ∧ f.natAbs < 2 ^ 60 ∧
  ks.length ≤ 400 ∧ js.length ≤ 400 ∧ (ks.length < 8 ∨ js.length < 8) ∧ RP K H Q (fun ms g => ∃ zs, IsMul zs ks js ∧ Pq zs (e * f) ms g)
def spPNeg (K : PySem.W.Frag) : Sp := fun vs H Q _ => ∃ (a : Addr) (ks : List Int) (e : Int) (k : Nat), vs = [.ref a] ∧ PoA K H a ks e ∧ 0 < e ∧ e.natAbs < 2 ^ k ∧ k ≤ 8000 ∧ ks.length ≤ 900 ∧ RP K H Q (Pq (ks.map fun x => -x) e)
/-- what is known of a polynomial's numbers: in one form, of at most k bits -/
structure Po (k : Nat) (ks : List Int) (e : Int) : Prop where
  self : Pq ks e ks e
  bn : Bits k ks
  bd : e.natAbs < 2 ^ k
theorem Po.mono {k j : Nat} {ks : List Int} {e : Int} (p : Po k ks e) (h : k ≤ j) : Po j ks e := ⟨p.self, p.bn.mono h, abs_mono p.bd h⟩
theorem Po.pos {k : Nat} {ks : List Int} {e : Int} (p : Po k ks e) : 0 < e := p.self.pos
def spOvr (K : PySem.W.Frag) : Sp := fun vs H Q _ => ∃ (a : Addr) (ks : List Int) (e d : Int) (k : Nat), vs = [.ref a, .int d] ∧ PoA K H a ks e ∧ 0 < e ∧ e.natAbs < 2 ^ 8000 ∧ ks.length ≤ 900 ∧ Bits k ks ∧ d.natAbs < 2 ^ k ∧ k ≤ 100000 ∧
  ∀ p H', Same H H' → H p = none → H' p = some (.lst ((ks.map fun x => x * (d / e)).map V.int)) → Q (.ref p) H'
def spAdded (K : PySem.W.Frag) : Sp := fun vs H Q _ => ∃ (a b : Addr) (xs ys : List Int), vs = [.ref a, .ref b] ∧ SqL K H a (xs.map V.int) ∧ SqL K H b (ys.map V.int) ∧ xs.length ≤ 900 ∧ ys.length ≤ 900 ∧
  ∀ p H', Same H H' → H p = none → H' p = some (.lst ((addL xs ys).map V.int)) → Q (.ref p) H'
theorem lcm_bits {a b : Int} {k : Nat} (ha : a.natAbs < 2 ^ k) (hb : b.natAbs < 2 ^ k) : ((Nat.lcm a.natAbs b.natAbs : Nat) : Int).natAbs < 2 ^ (k + k) := by
  rw [Int.natAbs_natCast]
  have z := PySem.W.mc_lcm_le a.natAbs b.natAbs
  have z2 := abs_lt_mul ha hb
  rw [Int.natAbs_mul] at z2
  exact Nat.lt_of_le_of_lt z z2
def spPAdd (K : PySem.W.Frag) : Sp := fun vs H Q _ => ∃ (a b : Addr) (ks js : List Int) (e f : Int) (k : Nat), vs = [.ref a, .ref b] ∧ PoA K H a ks e ∧ PoA K H b js f ∧ Pq ks e ks e ∧ Pq js f js f ∧ Bits k ks ∧ Bits k js ∧ k ≤ 50000 ∧ e.natAbs < 2 ^ 60 ∧ f.natAbs < 2 ^ 60 ∧
  ks.length ≤ 900 ∧ js.length ≤ 900 ∧ RP K H Q (Pq (sumP ks e js f) (e * f))
def spPSub (K : PySem.W.Frag) : Sp := fun vs H Q _ => ∃ (a b : Addr) (ks js : List Int) (e f : Int) (k : Nat), vs = [.ref a, .ref b] ∧ PoA K H a ks e ∧ PoA K H b js f ∧ Pq ks e ks e ∧ Pq js f js f ∧ Bits k ks ∧ Bits k js ∧ k ≤ 50000 ∧ e.natAbs < 2 ^ 60 ∧ f.natAbs < 2 ^ 60 ∧
  ks.length ≤ 900 ∧ js.length ≤ 900 ∧ RP K H Q (Pq (sumP ks e (js.map fun x => -x) f) (e * f))
def spPEq (K : PySem.W.Frag) : Sp := fun vs H Q _ => ∃ (a : Addr) (ks : List Int) (e : Int) (y : V), vs = [.ref a, y] ∧ PoA K H a ks e ∧
  ((∃ (b : Addr) (js : List Int) (f : Int), y = .ref b ∧ PoA K H b js f ∧ ∀ r : Bool, (r = true ↔ (ks = js ∧ e = f)) → Q (.bl r) H) ∨ (∃ t, TyX K H y t ∧ PySem.W.kitOne K t (.ref (CP K)) = some false ∧ Q (.bl false) H))
theorem pl_mul {zs xs ys : List Int} (h : IsMul zs xs ys) : pl zs = pl xs * pl ys := PS.ext (ff_cv h)
theorem dg_mul {X Y : PS} {n m : Nat} (h : Dg X.f n) (k : Dg Y.f m) : Dg (X * Y).f (n + m) := h.cf k

theorem pcc {k : Int} (k0 : k ≠ 0) {X Y : PS} (h : pc k * X = pc k * Y) : X = Y := PS.ext (funext fun i => by
  have e := congrFun (congrArg PS.f h) i
  have e2 : cf (cst k) X.f i = cf (cst k) Y.f i := e
  rw [cst_cf, cst_cf] at e2
  exact Int.eq_of_mul_eq_mul_left k0 e2)
theorem pq_ps {zs ms : List Int} {e g : Int} (h : Pq zs e ms g) : pc e * pl ms = pc g * pl zs := PS.ext (funext fun i => by
  show cf (cst e) (ff ms) i = cf (cst g) (ff zs) i
  rw [cst_cf, cst_cf]
  show e * ms.getD i 0 = g * zs.getD i 0
  rw [Int.mul_comm, Int.mul_comm g]
  exact h.eq i)
theorem ps_pq {xs ys : List Int} {e f : Int} (h : pc f * pl xs = pc e * pl ys) (i : Nat) : xs.getD i 0 * f = ys.getD i 0 * e := by
  have h2 := congrFun (congrArg PS.f h) i
  have e2 : cf (cst f) (ff xs) i = cf (cst e) (ff ys) i := h2
  rw [cst_cf, cst_cf] at e2
  have e3 : f * xs.getD i 0 = e * ys.getD i 0 := e2
  rw [Int.mul_comm, Int.mul_comm e] at e3
  exact e3
/-- a closed form's test, by the parts -/
theorem clo_iff {a b c d g1 g2 e1 e2 e3 e4 e5 e6 e7 : Int} {A B C D C1 D1 m1 m2 n1 n2 n3 n4 n6 : PS} {n5 n7 : List Int}
    (a0 : a ≠ 0) (b0 : b ≠ 0) (c0 : c ≠ 0) (d0 : d ≠ 0) (x1 : g1 ≠ 0) (x2 : g2 ≠ 0) (y1 : e1 ≠ 0) (y2 : e2 ≠ 0) (y3 : e3 ≠ 0) (y4 : e4 ≠ 0) (y5 : e5 ≠ 0) (y6 : e6 ≠ 0) (y7 : e7 ≠ 0)
    (h1 : pc c * m1 = pc g1 * C1) (h2 : pc d * m2 = pc g2 * D1) (h3 : pc (a * g1) * n1 = pc e1 * (A * m1)) (h4 : pc (e1 * d) * n2 = pc e2 * (n1 * D))
    (h5 : pc (c * b) * n3 = pc e3 * (C * B)) (h6 : pc (e3 * g2) * n4 = pc e4 * (n3 * m2)) (h7 : pc (e2 * e4) * pl n5 = pc e5 * (pc e4 * n2 - pc e2 * n4))
    (h8 : pc (b * g2) * n6 = pc e6 * (B * m2)) (h9 : pc (e6 * d) * pl n7 = pc e7 * (n6 * D)) (s5 : Pq n5 e5 n5 e5) (s7 : Pq n7 e7 n7 e7) :
    (n5 = n7 ∧ e5 = e7) ↔ pc (b * d) * (A * C1 * D) - pc (a * d) * (C * B * D1) = pc (a * c) * (B * D1 * D) := by
  have k2 : pc (a * c * d) * n2 = pc e2 * (A * C1 * D) := by
    apply pcc (Int.mul_ne_zero x1 y1)
    clear h2 h5 h6 h7 h8 h9 s5 s7
    simp only [pc_mul] at *
    clear a0 b0 c0 d0 x1 x2 y1 y2 y3 y4 y5 y6 y7
    grind
  have k4 : pc (c * b * d) * n4 = pc e4 * (C * B * D1) := by
    apply pcc (Int.mul_ne_zero x2 y3)
    clear h1 h3 h4 h7 h8 h9 s5 s7 k2
    simp only [pc_mul] at *
    clear a0 b0 c0 d0 x1 x2 y1 y2 y3 y4 y5 y6 y7
    grind
  have k7 : pc (b * d * d) * pl n7 = pc e7 * (B * D1 * D) := by
    apply pcc (Int.mul_ne_zero x2 y6)
    clear h1 h3 h4 h5 h6 h7 s5 s7 k2 k4
    simp only [pc_mul] at *
    clear a0 b0 c0 d0 x1 x2 y1 y2 y3 y4 y5 y6 y7
    grind
  have k5 : pc (a * c * d * b) * pl n5 = pc e5 * (pc b * (A * C1 * D) - pc a * (C * B * D1)) := by
    apply pcc (Int.mul_ne_zero y2 y4)
    clear h1 h2 h3 h4 h5 h6 h8 h9 k7 s5 s7
    simp only [pc_mul] at *
    clear a0 b0 c0 d0 x1 x2 y1 y2 y3 y4 y5 y6 y7
    grind
  clear h1 h2 h3 h4 h5 h6 h7 h8 h9 k2 k4
  constructor
  · rintro ⟨rfl, rfl⟩
    apply pcc (Int.mul_ne_zero (Int.mul_ne_zero b0 d0) y5)
    simp only [pc_mul] at *
    grind
  · intro h
    have e : pc e7 * pl n5 = pc e5 * pl n7 := by
      apply pcc (Int.mul_ne_zero (Int.mul_ne_zero (Int.mul_ne_zero (Int.mul_ne_zero a0 c0) d0) b0) d0)
      clear s5 s7
      simp only [pc_mul] at *
      clear a0 b0 c0 d0 x1 x2 y1 y2 y3 y4 y5 y6 y7
      grind
    have q := s7.conv y7 fun i => (ps_pq e i).symm
    obtain ⟨u, v⟩ := s5.uniq q y5
    exact ⟨u, v⟩
/-- ends -/
def Fi (a : PS) : Prop := ∃ n, Fz a.f n
theorem Fi.mul {a b : PS} (h : Fi a) (k : Fi b) : Fi (a * b) := by
  obtain ⟨n, h⟩ := h
  obtain ⟨m, k⟩ := k
  exact ⟨_, h.cf k⟩
theorem Fi.sub {a b : PS} (h : Fi a) (k : Fi b) : Fi (a - b) := by
  obtain ⟨n, h⟩ := h
  obtain ⟨m, k⟩ := k
  exact ⟨max n m, fun i hi => by
    show a.f i + -b.f i = 0
    rw [h i (by omega), k i (by omega)]
    rfl⟩
theorem Fi.pc (c : Int) : Fi (CB.pc c) := ⟨1, cst_fz c⟩
theorem Fi.pl (xs : List Int) : Fi (CB.pl xs) := ⟨_, ff_fz xs⟩
theorem cancelF {a b c : PS} {n : Nat} (d : Dg a.f n) (hb : Fi b) (hc : Fi c) (e : a * b = a * c) : b = c := by
  obtain ⟨_, hb⟩ := hb
  obtain ⟨_, hc⟩ := hc
  exact PS.cancel d hb hc e
theorem clo_same {X Y M0 M1 N0 N1 C1 D1 : PS} {as bs cs ds : List Int} {a b c d : Int} {n1 n2 n3 n4 : Nat} (q : Qn X.f Y.f as a bs b) (r : Qn M0.f M1.f cs c ds d) (sh : pc d * (C1 * N1) = pc c * (N0 * D1))
    (dY : Dg Y.f n1) (dM : Dg M1.f n2) (dN : Dg N1.f n3) (dD : Dg D1.f n4) (fX : Fi X) (fM : Fi M0) (fN : Fi N0) (fC : Fi C1) :
    (pc (b * d) * (pl as * C1 * pl ds) - pc (a * d) * (pl cs * pl bs * D1) = pc (a * c) * (pl bs * D1 * pl ds)) ↔ X * N0 * M1 - Y * M0 * N1 = Y * M1 * N1 := by
  have e1 := q.ps
  have e2 := r.ps
  have a0 := q.a0
  have c0 := r.a0
  have dB := dgl q.bt
  have dDs := dgl r.bt
  have fY : Fi Y := ⟨_, dY.up⟩
  have fM1 : Fi M1 := ⟨_, dM.up⟩
  have fN1 : Fi N1 := ⟨_, dN.up⟩
  have fD : Fi D1 := ⟨_, dD.up⟩
  have k1 : Y * M1 * N1 * (pc (b * d) * (pl as * C1 * pl ds) - pc (a * d) * (pl cs * pl bs * D1)) = pc (a * c) * (pl bs * pl ds * D1) * (X * N0 * M1 - Y * M0 * N1) := by
    simp only [pc_mul]
    clear q r a0 c0 dB dDs
    grind
  have k2 : Y * M1 * N1 * (pc (a * c) * (pl bs * D1 * pl ds)) = pc (a * c) * (pl bs * pl ds * D1) * (Y * M1 * N1) := by grind
  have dL : Dg (Y * M1 * N1).f (n1 + n2 + n3) := dg_mul (dg_mul dY dM) dN
  have dR : Dg (pc (a * c) * (pl bs * pl ds * D1)).f (0 + (bs.length - 1 + (ds.length - 1) + n4)) := dg_mul (pc_dg (Int.mul_ne_zero a0 c0)) (dg_mul (dg_mul dB dDs) dD)
  constructor
  · intro h
    refine cancelF dR (((fX.mul fN).mul fM1).sub ((fY.mul fM).mul fN1)) ((fY.mul fM1).mul fN1) ?_
    rw [← k1, ← k2, h]
  · intro h
    refine cancelF dL (((Fi.pc _).mul (((Fi.pl _).mul fC).mul (Fi.pl _))).sub ((Fi.pc _).mul (((Fi.pl _).mul (Fi.pl _)).mul fD))) ((Fi.pc _).mul (((Fi.pl _).mul fD).mul (Fi.pl _))) ?_
    rw [k1, k2, h]
theorem sh_ps {M0 M1 N0 N1 C1 D1 : PS} {cs ds : List Int} {c d : Int} (r : Qn M0.f M1.f cs c ds d) (m0 : Mv 1 M0 N0) (m1 : Mv 1 M1 N1) (mc : Mv 1 (pl cs) C1) (md : Mv 1 (pl ds) D1) (f0 : Fi M0) (f1 : Fi M1) (g0 : Fi N0) (g1 : Fi N1) (gc : Fi C1) (gd : Fi D1) : pc d * (C1 * N1) = pc c * (N0 * D1) := by
  obtain ⟨_, f0⟩ := f0
  obtain ⟨_, f1⟩ := f1
  obtain ⟨_, g0⟩ := g0
  obtain ⟨_, g1⟩ := g1
  obtain ⟨_, gc⟩ := gc
  obtain ⟨_, gd⟩ := gd
  exact mv_eq ((cst_fz d).cf ((ff_fz cs).cf f1)) ((cst_fz d).cf (gc.cf g1)) ((cst_fz c).cf (g0.cf gd)) r.ps (Mv.mul (cst_fz d) ((ff_fz cs).cf f1) (Mv.pc d) (Mv.mul (ff_fz cs) f1 mc m1)) (Mv.mul (cst_fz c) (f0.cf (ff_fz ds)) (Mv.pc c) (Mv.mul f0 (ff_fz ds) m0 md))

theorem mul_bits3 {p q k : Nat} {xs ys zs : List Int} (h : IsMul zs xs ys) (h1 : Bits p xs) (h2 : Bits q ys) (hk : p + q + xs.length ≤ k) : Bits k zs := ⟨fun x hx => by
  obtain ⟨i, hi, rfl⟩ := List.mem_iff_getElem.mp hx
  have z : zs[i] = zs.getD i 0 := by rw [List.getD_eq_getElem?_getD, List.getElem?_eq_getElem hi]; rfl
  rw [z, h.at_]
  exact abs_mono (cvS_bits h1.getD h2.getD i xs.length) hk⟩
/-- a quotient's parts, by their sizes -/
structure QC (as : List Int) (a : Int) (bs : List Int) (b : Int) (l ka kb : Nat) : Prop where
  sa : Pq as a as a
  sb : Pq bs b bs b
  ba : Bits 60 as
  bb : Bits 60 bs
  la : as.length ≤ l
  lb : bs.length ≤ l
  ga : a.natAbs < 2 ^ ka
  gb : b.natAbs < 2 ^ kb
/-- the answer says whether the identity holds -/
def CloR (as : List Int) (a : Int) (bs : List Int) (b : Int) (cs : List Int) (c : Int) (ds : List Int) (d : Int) (r : Bool) : Prop := ∀ zs ws, IsSh 1 zs cs → IsSh 1 ws ds → (r = true ↔ pc (b * d) * (pl as * pl zs * pl ds) - pc (a * d) * (pl cs * pl bs * pl ws) = pc (a * c) * (pl bs * pl ws * pl ds))
theorem IsSh.uniq1 {s : Int} {zs zs' cs : List Int} (h : IsSh s zs cs) (h' : IsSh s zs' cs) : zs = zs' := by
  have l1 := h.len
  have l2 := h'.len
  refine List.ext_getElem (by omega) fun i h1 h2 => ?_
  have e1 := h.at_ i
  have e2 := h'.at_ i
  rw [← e2, List.getD_eq_getElem?_getD, List.getD_eq_getElem?_getD, List.getElem?_eq_getElem h1, List.getElem?_eq_getElem h2] at e1
  exact e1
def spClo (K : PySem.W.Frag) : Sp := fun vs H Q _ => ∃ (x y : Addr) (as : List Int) (a : Int) (bs : List Int) (b : Int) (cs : List Int) (c : Int) (ds : List Int) (d : Int) (_ : Unit) (_ : Unit), vs = [.ref x, .ref y] ∧ QuA K H x as a bs b ∧ QuA K H y cs c ds d ∧ QC as a bs b 9 16 16 ∧ QC cs c ds d 7 22 22 ∧
  ∀ r H', Same H H' → CloR as a bs b cs c ds d r → Q (.bl r) H'
def AccC (K : PySem.W.Frag) (H : Hp) (Q : VK) (as : List Int) (a : Int) (bs : List Int) (b : Int) (xs : List V) : Prop :=
  (∃ (y : Addr) (cs : List Int) (c : Int) (ds : List Int) (d : Int), xs = [.str "closed", .ref y] ∧ QuA K H y cs c ds d ∧ QC as a bs b 9 16 16 ∧ QC cs c ds d 7 22 22 ∧ ∀ r H', Same H H' → CloR as a bs b cs c ds d r → Q (.bl r) H') ∨
  (∃ (s : Str) (rest : List V), xs = .str s :: rest ∧ decide (V.str s = V.str "closed") = false ∧ decide (V.str s = V.str "open") = false ∧ Q (.bl false) H)
def spAcc (K : PySem.W.Frag) : Sp := fun vs H Q E => ∃ (x t : Addr) (as : List Int) (a : Int) (bs : List Int) (b : Int) (xs : List V) (_ : Unit), vs = [.ref x, .ref t] ∧ QuA K H x as a bs b ∧ H t = some (.tup xs) ∧
  (as = [] → E (CZ K) none H) ∧ (as ≠ [] → AccC K H Q as a bs b xs)
theorem sh_bits8 {kb : Nat} {cs zs : List Int} (h : Bits kb cs) (l : cs.length ≤ 8) (i : IsSh 1 zs cs) : Bits (kb + 25) zs := bits_of_at fun k => by
  rw [i.at_]
  refine abs_mono (shV_bits (b := 1) (by decide) (fun j => h.getD j) k) ?_
  omega
def spLIC (K : PySem.W.Frag) : Sp := fun vs H Q _ => ∃ (p1 p2 p3 p4 : Addr) (num den ab be : List Int) (_ : Unit), vs = [.ref p1, .ref p2, .ref p3, .ref p4] ∧ SqL K H p1 (num.map V.int) ∧ SqL K H p2 (den.map V.int) ∧ SqL K H p3 (ab.map V.int) ∧ SqL K H p4 (be.map V.int) ∧ Bits 200 num ∧ Bits 200 den ∧ Bits 200 ab ∧ Bits 200 be ∧ num.length ≤ 20 ∧ den.length ≤ 20 ∧ ab.length ≤ 8 ∧ be.length ≤ 8 ∧
  ∀ r H', Same H H' → (∀ zs ws, IsSh 1 zs ab → IsSh 1 ws be → (r = true ↔ pl num * pl zs * pl be - pl den * pl ab * pl ws = pl den * pl be * pl ws)) → Q (.bl r) H'
def spOpI (K : PySem.W.Frag) : Sp := fun vs H Q _ => ∃ (x dx a : Addr) (ps : List Pt), vs = [.ref x, .ref a] ∧ H x = some (.ins (COp K) dx []) ∧ (SqL K H a (ps.map rf) ∨ SqT K H a (ps.map rf)) ∧ PolG K H ps ∧ ps.length ≤ 900 ∧
  ∀ H' t n, Same H H' → H' t = some (.tup ((ps.take n).map rf)) → t ≠ x → TrimP ps n → Q .non (upd H' x (.ins (COp K) dx (fsOp t)))
/-- a new Operator -/
def ROp (K : PySem.W.Frag) (H : Hp) (Q : VK) (R : List Pt → Prop) : Prop := ∀ p H' ps, Same H H' → H p = none → OpA K H' p ps → R ps → Q (.ref p) H'
def mkOp (K : PySem.W.Frag) (dvs : List V) : List V → Hp → VK → Prop := fun vs H1 Q => ∃ (a : Addr) (ps : List Pt), vs ++ dvs = [.ref a] ∧ (SqL K H1 a (ps.map rf) ∨ SqT K H1 a (ps.map rf)) ∧ PolG K H1 ps ∧ ps.length ≤ 900 ∧
  ROp K H1 Q (fun qs => ∃ n, TrimP ps n ∧ qs = ps.take n)
theorem mkOp_conv (K : PySem.W.Frag) (dvs : List V) (vs : List V) (H1 : Hp) (Q : VK) (h : mkOp K dvs vs H1 Q) (x dx : Addr) (nx : H1 x = none) (nd : H1 dx = none) (ne : dx ≠ x) :
    spOpI K (.ref x :: (vs ++ dvs)) (upd (upd H1 dx (.own x)) x (.ins (COp K) dx [])) (fun v H2 => v = .non ∧ Q (.ref x) H2) E0 := by
  obtain ⟨a, ps, e, hS, hp, hl, q⟩ := h
  have s0 : Same H1 (upd (upd H1 dx (.own x)) x (.ins (COp K) dx [])) := same_made0 nx nd
  rw [e]
  refine ⟨x, dx, a, ps, rfl, upd_same, ?_, hp.mono s0, hl, fun H' t n sm ht tx tr => ⟨rfl, ?_⟩⟩
  · rcases hS with h | h
    · exact .inl (s0.seq h)
    · exact .inr (sm_tup s0 h)
  · have sf : Same H1 (upd H' x (.ins (COp K) dx (fsOp t))) := same_mut (s0.trans sm) nx
    exact q x _ (ps.take n) sf nx ⟨dx, t, upd_same, by rw [upd_ne tx]; exact ht, (hp.mono sf).take⟩ ⟨n, tr, rfl⟩
def spP2I (K : PySem.W.Frag) : Sp := fun vs H Q _ => ∃ (x dx a : Addr) (ps : List Pt), vs = [.ref x, .ref a] ∧ H x = some (.ins (CP2 K) dx []) ∧ (SqL K H a (ps.map rf) ∨ SqT K H a (ps.map rf)) ∧ PolG K H ps ∧ ps.length ≤ 900 ∧
  ∀ H' t n, Same H H' → H' t = some (.tup ((ps.take n).map rf)) → t ≠ x → TrimP ps n → Q .non (upd H' x (.ins (CP2 K) dx (fsP2 t)))
/-- a new Poly2 -/
def RP2 (K : PySem.W.Frag) (H : Hp) (Q : VK) (R : List Pt → Prop) : Prop := ∀ p H' ps, Same H H' → H p = none → P2A K H' p ps → R ps → Q (.ref p) H'
def mkP2 (K : PySem.W.Frag) (dvs : List V) : List V → Hp → VK → Prop := fun vs H1 Q => ∃ (a : Addr) (ps : List Pt), vs ++ dvs = [.ref a] ∧ (SqL K H1 a (ps.map rf) ∨ SqT K H1 a (ps.map rf)) ∧ PolG K H1 ps ∧ ps.length ≤ 900 ∧
  RP2 K H1 Q (fun qs => ∃ n, TrimP ps n ∧ qs = ps.take n)
theorem mkP2_conv (K : PySem.W.Frag) (dvs : List V) (vs : List V) (H1 : Hp) (Q : VK) (h : mkP2 K dvs vs H1 Q) (x dx : Addr) (nx : H1 x = none) (nd : H1 dx = none) (ne : dx ≠ x) :
    spP2I K (.ref x :: (vs ++ dvs)) (upd (upd H1 dx (.own x)) x (.ins (CP2 K) dx [])) (fun v H2 => v = .non ∧ Q (.ref x) H2) E0 := by
  obtain ⟨a, ps, e, hS, hp, hl, q⟩ := h
  have s0 : Same H1 (upd (upd H1 dx (.own x)) x (.ins (CP2 K) dx [])) := same_made0 nx nd
  rw [e]
  refine ⟨x, dx, a, ps, rfl, upd_same, ?_, hp.mono s0, hl, fun H' t n sm ht tx tr => ⟨rfl, ?_⟩⟩
  · rcases hS with h | h
    · exact .inl (s0.seq h)
    · exact .inr (sm_tup s0 h)
  · have sf : Same H1 (upd H' x (.ins (CP2 K) dx (fsP2 t))) := same_mut (s0.trans sm) nx
    exact q x _ (ps.take n) sf nx ⟨dx, t, upd_same, by rw [upd_ne tx]; exact ht, (hp.mono sf).take⟩ ⟨n, tr, rfl⟩
def spLRO (K : PySem.W.Frag) : Sp := fun vs H Q _ => ∃ (x : Addr) (as : List Int) (a : Int) (bs : List Int) (b : Int) (_ : Unit), vs = [.ref x] ∧ QuA K H x as a bs b ∧ as ≠ [] ∧ ∀ H', Same H H' → Q (.bl true) H'
theorem cfz (g : Nat → Int) (n : Nat) : cf (fun _ => 0) g n = 0 := by
  have := cst_cf 0 g
  have e : cst 0 = fun _ => 0 := funext fun i => Int.zero_mul _
  rw [e] at this
  rw [this]
  exact Int.zero_mul _
theorem Qn.dens {X Y : PS} {as bs : List Int} {a b : Int} {n N : Nat} (q : Qn X.f Y.f as a bs b) (fX : Fz X.f N) (dY : Dg Y.f n) : a ∣ Y.f n ∧ b ∣ Y.f n := by
  have pb : Prim (ff bs) := fun p hp => Classical.byContradiction fun w => by
    have all : ∀ i, (p : Int) ∣ bs.getD i 0 := fun i => Decidable.byContradiction fun z => w ⟨i, z⟩
    have d : (p : Int) ∣ b := by rw [← q.mon]; exact all _
    have := q.sb.cop p d all
    have h1 := Int.natAbs_dvd_natAbs.mpr this
    have h2 : p ∣ 1 := h1
    have h3 := Nat.dvd_one.mp h2
    have := hp.two
    omega
  obtain ⟨s, M, fs, es⟩ := (q.bs_dv fX dY.up).whole pb
  have eY : Y = (⟨s⟩ : PS) * pl bs := PS.ext (funext es)
  have db := dgl q.bt
  have e1 : pc b * pl as * ⟨s⟩ = pc a * X := by
    refine cancelF (a := pl bs) db ⟨_, ((cst_fz b).cf (ff_fz as)).cf fs⟩ ⟨_, (cst_fz a).cf fX⟩ ?_
    have := q.ps
    rw [eY] at this
    clear es eY
    grind
  rcases zero_or_dg M fs with z | ⟨m, _, ds⟩
  · exfalso
    apply dY.top
    have e0 : Y.f n = cf s (ff bs) n := es n
    rw [e0, show s = fun _ => 0 from funext z]
    exact cfz _ _
  have dd : Dg ((⟨s⟩ : PS) * pl bs).f (m + (bs.length - 1)) := dg_mul ds db
  rw [← eY] at dd
  have nn := dY.uniq dd
  have top : Y.f n = s m * b := by
    rw [nn, es, ← q.mon]
    exact cf_top (fun i hi => ds.up i hi) (fun i hi => db.up i hi)
  refine ⟨?_, by rw [top]; exact ⟨s m, Int.mul_comm _ _⟩⟩
  rcases q.sa.last with w | w
  · have := q.sa.cop a ⟨1, by rw [Int.mul_one]⟩ fun i => by rw [w]; exact ⟨0, by rw [Int.mul_zero]; rfl⟩
    exact Int.dvd_trans this ⟨_, (Int.one_mul _).symm⟩
  · obtain ⟨c, g, c0, pg, dg, e⟩ := prim_part (dgl w)
    have a0 : a ≠ 0 := q.a0
    have cp : Nat.gcd c.natAbs a.natAbs = 1 := by
      have d1 : ((Nat.gcd c.natAbs a.natAbs : Nat) : Int) ∣ a := Int.dvd_natAbs.mp (Int.natCast_dvd_natCast.mpr (Nat.gcd_dvd_right _ _))
      have d2 : ((Nat.gcd c.natAbs a.natAbs : Nat) : Int) ∣ c := Int.dvd_natAbs.mp (Int.natCast_dvd_natCast.mpr (Nat.gcd_dvd_left _ _))
      have d3 := q.sa.cop _ d1 fun j => by
        have : as.getD j 0 = c * g j := e j
        rw [this]
        exact Int.dvd_trans d2 ⟨g j, rfl⟩
      have := Int.natAbs_dvd_natAbs.mpr d3
      exact Nat.dvd_one.mp this
    have eas : pl as = pc c * (⟨g⟩ : PS) := PS.ext (funext fun i => by
      show ff as i = cf (cst c) g i
      rw [cst_cf]
      exact e i)
    have e2 : pc a * X = (pc (b * c) * ⟨s⟩) * (⟨g⟩ : PS) := by
      rw [← e1, eas, pc_mul]
      clear e1 es eY
      grind
    obtain ⟨s', _, h1, _⟩ := gauss a.natAbs (m := a) (A := X.f) (s := (pc (b * c) * ⟨s⟩ : PS).f) (g := g) (N := 1 + M) rfl a0 pg ((cst_fz (b * c)).cf fs) fun i => by
      have := congrFun (congrArg PS.f e2) i
      have z : cf (cst a) X.f i = cf (pc (b * c) * ⟨s⟩ : PS).f g i := this
      rw [cst_cf] at z
      exact z
    have h2 := h1 m
    have z2 : (pc (b * c) * ⟨s⟩ : PS).f m = b * c * s m := by
      show cf (cst (b * c)) s m = _
      rw [cst_cf]
    rw [z2] at h2
    refine dvd_of_cop (a := c) (b := a) ⟨s' m, ?_⟩ cp
    rw [top, ← h2]
    grind
theorem qn_of {N M ks js as bs : List Int} {d e ek f α β : Int} (p1 : Pq N d ks ek) (p2 : Pq M e js f) (d0 : d ≠ 0) (e0 : e ≠ 0) (t : QtR ks ek js f as α bs β) : Qn (cf (cst e) (ff N)) (cf (cst d) (ff M)) as α bs β := by
  refine Qn.of_at t.sa t.sb t.bne t.mon t.cop fun i => ?_
  have k0 : ek ≠ 0 := by have := p1.pos; omega
  have f0 : f ≠ 0 := by have := p2.pos; omega
  have h1 : cf (cst d) (ff ks) = cf (cst ek) (ff N) := funext fun i => by
    rw [cst_cf, cst_cf]
    have := p1.eq i
    show d * ks.getD i 0 = ek * N.getD i 0
    rw [Int.mul_comm, this, Int.mul_comm]
  have h2 : cf (cst e) (ff js) = cf (cst f) (ff M) := funext fun i => by
    rw [cst_cf, cst_cf]
    have := p2.eq i
    show e * js.getD i 0 = f * M.getD i 0
    rw [Int.mul_comm, this, Int.mul_comm]
  have h3 : cf (cst (ek * β)) (cf (ff as) (ff js)) = cf (cst (α * f)) (cf (ff ks) (ff bs)) := funext fun i => by
    rw [cst_cf, cst_cf]
    have := t.eq i
    rw [cv_cf, cv_cf] at this
    show ek * β * cf (ff as) (ff js) i = α * f * cf (ff ks) (ff bs) i
    rw [Int.mul_comm, this, Int.mul_comm]
  have key : cf (cst (ek * f)) (cf (cst β) (cf (ff as) (cf (cst d) (ff M)))) = cf (cst (ek * f)) (cf (cst α) (cf (cf (cst e) (ff N)) (ff bs))) := by
    rw [← cst_mul] at h3 ⊢
    rw [← cst_mul] at h3
    calc cf (cf (cst ek) (cst f)) (cf (cst β) (cf (ff as) (cf (cst d) (ff M)))) = cf (cst d) (cf (cst ek) (cf (cst β) (cf (ff as) (cf (cst f) (ff M))))) := by ac_rfl
      _ = cf (cst d) (cf (cst ek) (cf (cst β) (cf (ff as) (cf (cst e) (ff js))))) := by rw [h2]
      _ = cf (cf (cst d) (cst e)) (cf (cf (cst ek) (cst β)) (cf (ff as) (ff js))) := by ac_rfl
      _ = cf (cf (cst d) (cst e)) (cf (cf (cst α) (cst f)) (cf (ff ks) (ff bs))) := by rw [h3]
      _ = cf (cst e) (cf (cst α) (cf (cst f) (cf (cf (cst d) (ff ks)) (ff bs)))) := by ac_rfl
      _ = cf (cst e) (cf (cst α) (cf (cst f) (cf (cf (cst ek) (ff N)) (ff bs)))) := by rw [h1]
      _ = cf (cf (cst ek) (cst f)) (cf (cst α) (cf (cf (cst e) (ff N)) (ff bs))) := by ac_rfl
  have z := congrFun key i
  rw [cst_cf (ek * f), cst_cf (ek * f), cst_cf β, cst_cf α] at z
  have z2 : ek * f * (β * cf (ff as) (cf (cst d) (ff M)) i) = ek * f * (α * cf (cf (cst e) (ff N)) (ff bs) i) := z
  have z3 := Int.eq_of_mul_eq_mul_left (Int.mul_ne_zero k0 f0) z2
  rw [Int.mul_comm, z3, Int.mul_comm]
theorem pq_upT {X ks : List Int} {d e : Int} {n : Nat} (q : Pq X d ks e) (d0 : d ≠ 0) (up : ∀ i, n ≤ i → X.getD i 0 = 0) : ks.length ≤ n := by
  refine Decidable.byContradiction fun c => ?_
  rcases q.last with z | z
  · rw [z] at c; exact c (Nat.zero_le _)
  · have w := q.eq (ks.length - 1)
    rw [up _ (by omega), Int.zero_mul] at w
    rcases Int.mul_eq_zero.mp w with w | w
    · exact z w
    · exact d0 w
/-- what a quotient of lengths up to 13 wants, that is known to be short -/
theorem mk_ok13 {ks js : List Int} {e f : Int} {P R : Nat → Int} {x y : Nat} (bk : Bits 101 ks) (bj : Bits 101 js) (lk : ks.length ≤ 13) (lj : js.length ≤ 13) (tk : ks = [] ∨ ks.getD (ks.length - 1) 0 ≠ 0) (tj : js = [] ∨ js.getD (js.length - 1) 0 ≠ 0) (jne : js ≠ []) (eb : e.natAbs < 2 ^ 101) (fb : f.natAbs < 2 ^ 101)
    (dP : Dg P x) (dR : Dg R y) (xy : x + y ≤ 16) (cr : pl ks * ⟨R⟩ = pl js * ⟨P⟩) : QuOk ks e js f 101 1830 125 := by
  have d1 : ∀ t, t ≤ 13 → dvB 125 t + 125 ≤ 3990 := fun t ht => by
    have := dvB_le (k := 125) ht
    have e : dvB 125 13 = 125 + 1 + (125 + 1) * 13 := rfl
    omega
  refine ⟨⟨bk, bj, by omega, by omega, fun kne jne => ?_, by decide, by decide⟩, fun ms g G => bits_of_at fun i => ?_, by decide, abs_mono eb (by decide), abs_mono fb (by decide), d1 _ lk, d1 _ lj⟩
  · obtain ⟨e, m, E, D, B⟩ := euclid_gap (dgl (tk.resolve_left kne)) (dgl (tj.resolve_left jne)) bk.getD bj.getD dP dR xy cr
    exact ⟨e, (101 + 5) * 16 + 101, m, E, D, B, by decide⟩
  · obtain ⟨mne, gm⟩ := G.mon (.inr jne)
    have jt := tj.resolve_left jne
    exact Nat.lt_of_le_of_lt (monic_bitsG G.self mne gm (dgl jt) (H := 2 ^ 101) (fun i => Nat.le_of_lt (bj.getD i)) (by omega) G.dj i) (by decide)
/-- what a quotient of lengths up to 9 wants -/
theorem mk_ok9 {ks js : List Int} {e f : Int} (bk : Bits 78 ks) (bj : Bits 78 js) (lk : ks.length ≤ 9) (lj : js.length ≤ 9) (tk : ks = [] ∨ ks.getD (ks.length - 1) 0 ≠ 0) (tj : js = [] ∨ js.getD (js.length - 1) 0 ≠ 0) (jne : js ≠ []) (eb : e.natAbs < 2 ^ 78) (fb : f.natAbs < 2 ^ 78) : QuOk ks e js f 78 1500 86 := by
  have d1 : ∀ t, t ≤ 9 → dvB 86 t + 86 ≤ 3990 := fun t ht => by
    have := dvB_le (k := 86) ht
    have e : dvB 86 9 = 86 + 1 + (86 + 1) * 9 := rfl
    omega
  refine ⟨⟨bk, bj, by omega, by omega, fun kne jne => ?_, by decide, by decide⟩, fun ms g G => bits_of_at fun i => ?_, by decide, abs_mono eb (by decide), abs_mono fb (by decide), d1 _ lk, d1 _ lj⟩
  · obtain ⟨e, m, E, D, B⟩ := euclid_small (dgl (tk.resolve_left kne)) (dgl (tj.resolve_left jne)) bk.getD bj.getD (by omega)
    refine ⟨e, (78 + 5) * 16 + 78, m, E, D, B.mono ?_, by decide⟩
    have : (78 + 5) * (ks.length - 1 + (js.length - 1)) ≤ (78 + 5) * 16 := Nat.mul_le_mul_left _ (by omega)
    omega
  · obtain ⟨mne, gm⟩ := G.mon (.inr jne)
    have jt := tj.resolve_left jne
    exact Nat.lt_of_le_of_lt (monic_bitsF G.self mne gm (dgl jt) (H := 2 ^ 78) (fun i => Nat.le_of_lt (bj.getD i)) (by omega) G.dj i) (by decide)

theorem one_of {zs ks : List Int} {e : Int} (p : Pq zs 1 ks e) : e = 1 := by
  have h := p.den_le (show (1 : Int) ≠ 0 by decide)
  have := p.pos
  have h2 : e.natAbs ≤ 1 := h
  omega
theorem pl_of {zs ks : List Int} {e : Int} (p : Pq zs 1 ks e) : pl ks = pl zs := by
  have h := pq_ps p
  rw [one_of p] at h
  exact pcc (by decide) h
theorem RtP.mono {M N : Nat} {xs : List Int} (h : RtP M xs) (l : M ≤ N) : RtP N xs := ⟨h.tf, h.ne, h.len, fun i => Nat.le_trans (h.b i) l⟩
theorem RtP.dg {M : Nat} {xs : List Int} (h : RtP M xs) : Dg (ff xs) (xs.length - 1) := dgl h.top
theorem RtP.bits {M k : Nat} {xs : List Int} (h : RtP M xs) (l : M < 2 ^ k) : Bits k xs := bits_of_at fun i => Nat.lt_of_le_of_lt (h.b i) l
theorem rt_sp {xs ys : List Int} (X : RtP 147 xs) (Y : RtP 343 ys) : SpR xs ys := by
  have xl := X.len
  have yl := Y.len
  exact ⟨by omega, by omega, fun i => by have := X.b i; omega, fun i => by have := Y.b i; omega, (ff_fz xs).mono (by omega), _, by omega, Y.dg⟩
theorem qn_one {num den ks js as bs : List Int} {e f a b : Int} (p : Pq num 1 ks e) (q : Pq den 1 js f) (t : QtR ks e js f as a bs b) : Qn (pl num).f (pl den).f as a bs b := by
  have h := qn_of p q (by decide) (by decide) t
  have e1 : ∀ xs : List Int, cf (cst 1) (ff xs) = (pl xs).f := fun xs => by
    have : pc 1 * pl xs = pl xs := by rw [pc_one]; grind
    exact congrArg PS.f this
  rw [e1, e1] at h
  exact h
theorem le_of_dvd2 {a y : Int} {k : Nat} (h : a ∣ y) (y0 : y ≠ 0) (l : y.natAbs < 2 ^ k) : a.natAbs < 2 ^ k := Nat.lt_of_le_of_lt (natAbs_le_of_dvd h y0) l
/-- what a form's quotient wants, and is -/
theorem yq {m0 m1 ks js : List Int} {e f : Int} (R : SpR m0 m1) (p : Pq m0 1 ks e) (q : Pq m1 1 js f) : js ≠ [] ∧ QuOk ks e js f 78 1500 86 := by
  obtain ⟨n, n5, d⟩ := R.d1
  have l0 := R.l0
  have l1 := R.l1
  have k0 := p.len (show (1 : Int) ≠ 0 by decide)
  have k1 := q.len (show (1 : Int) ≠ 0 by decide)
  have jne : js ≠ [] := fun z => by
    have h := q.eq n
    rw [z, one_of q, Int.mul_one, Int.mul_one] at h
    exact d.top h.symm
  refine ⟨jne, mk_ok9 (p.bits (by decide) (bits_of_at fun i => Nat.lt_of_le_of_lt (R.b0 i) (by decide))) (q.bits (by decide) (bits_of_at fun i => Nat.lt_trans (R.b1 i) (by decide))) (by omega) (by omega) p.last q.last jne (by rw [one_of p]; decide) (by rw [one_of q]; decide)⟩
theorem yz {m0 m1 ks js cs ds : List Int} {e f c d : Int} (R : SpR m0 m1) (p : Pq m0 1 ks e) (q : Pq m1 1 js f) (t : QtR ks e js f cs c ds d) : Qn (pl m0).f (pl m1).f cs c ds d ∧ QC cs c ds d 7 22 22 := by
  obtain ⟨n, n5, dn⟩ := R.d1
  have z := qn_one p q t
  have s := z.sizesF (N := 5) (M := 5) (HX := 2 ^ 21) (HY := 2 ^ 22) (LX := 2 ^ 21) (LY := 2 ^ 22) R.f0 dn n5 R.b0 (fun i => Nat.le_of_lt (R.b1 i)) (fun m _ => R.b0 m) (Nat.le_of_lt (R.b1 n)) (by decide) (by decide)
  obtain ⟨u, v⟩ := Qn.dens (X := pl m0) (Y := pl m1) z R.f0 dn
  have b1 := R.b1 n
  have la := s.la
  have lb := s.lb
  exact ⟨z, z.sa, z.sb, bits_of_at fun i => Nat.lt_of_le_of_lt (s.ba i) (by decide), bits_of_at fun i => Nat.lt_of_le_of_lt (s.bb i) (by decide), by omega, by omega, le_of_dvd2 u dn.top b1, le_of_dvd2 v dn.top b1⟩
/-- a drawn ratio's parts -/
structure Dr (p0 p1 g : List Int) : Prop where
  P0 : RtP 294 p0
  P1 : RtP 147 p1
  G : RtP 343 g
  df : ∀ i, p0.getD i 0 - p1.getD i 0 = g.getD i 0
theorem Dr.ps {p0 p1 g : List Int} (D : Dr p0 p1 g) : pl p0 - pl p1 = pl g := PS.ext (funext fun i => by
  have := D.df i
  show p0.getD i 0 + -p1.getD i 0 = g.getD i 0
  omega)
theorem cv_bd5 {zs xs ys : List Int} {A B : Nat} (im : IsMul zs xs ys) (l : xs.length ≤ 5) (hx : ∀ i, (xs.getD i 0).natAbs ≤ A) (hy : ∀ i, (ys.getD i 0).natAbs ≤ B) (i : Nat) : (zs.getD i 0).natAbs ≤ 5 * (A * B) := by
  rw [im.at_]
  exact Nat.le_trans (cv_bd hx hy i).1 (Nat.mul_le_mul_right _ l)
theorem sh_b {zs cs : List Int} {B : Nat} (z : IsSh 1 zs cs) (R : RtP B cs) (k : Nat) : (zs.getD k 0).natAbs ≤ B * 31 := by
  have l := R.len
  refine Nat.le_trans (sh_sz1 z (m := 5) ((ff_fz cs).mono l) R.b k) (Nat.mul_le_mul_left _ (by decide))
/-- what the ratio's quotient wants, and is -/
theorem rq {p0 p1 g g1 s1 u v num den ks js : List Int} {e f : Int} (D : Dr p0 p1 g) (i1 : IsSh 1 g1 g) (i2 : IsSh 1 s1 p1) (m1 : IsMul u p0 g1) (m2 : IsMul num u p1) (m3 : IsMul v p1 g) (m4 : IsMul den v s1) (q1 : Pq num 1 ks e) (q2 : Pq den 1 js f) :
    js ≠ [] ∧ QuOk ks e js f 101 1830 125 ∧ ∀ as a bs b, QtR ks e js f as a bs b → Qn (pl num).f (pl den).f as a bs b ∧ QC as a bs b 9 16 16 ∧ as ≠ [] := by
  have l0 := D.P0.len
  have l1 := D.P1.len
  have lg := D.G.len
  have d0 := D.P0.dg
  have d1 := D.P1.dg
  have dg := D.G.dg
  have dg1 := sh_dg i1 dg
  have ds1 := sh_dg i2 d1
  have gb := sh_b i1 D.G
  have sb := sh_b i2 D.P1
  have eN : pl num = pl p1 * (pl p0 * pl g1) := by rw [pl_mul m2, pl_mul m1]; grind
  have eD : pl den = pl p1 * (pl g * pl s1) := by rw [pl_mul m4, pl_mul m3]; grind
  have dX : Dg (pl p0 * pl g1).f (p0.length - 1 + (g.length - 1)) := dg_mul d0 dg1
  have dY : Dg (pl g * pl s1).f (g.length - 1 + (p1.length - 1)) := dg_mul dg ds1
  have dN : Dg (pl num).f (p1.length - 1 + (p0.length - 1 + (g.length - 1))) := by rw [eN]; exact dg_mul d1 dX
  have dD : Dg (pl den).f (p1.length - 1 + (g.length - 1 + (p1.length - 1))) := by rw [eD]; exact dg_mul d1 dY
  have bX : ∀ i, ((pl p0 * pl g1).f i).natAbs ≤ 5 * (294 * (343 * 31)) := fun i => by
    rw [← pl_mul m1]
    exact cv_bd5 m1 l0 D.P0.b gb i
  have bY : ∀ i, ((pl g * pl s1).f i).natAbs ≤ 5 * (343 * (147 * 31)) := fun i => by
    have e2 : (pl g * pl s1).f i = cv g s1 i := by rw [cv_cf]; rfl
    rw [e2]
    exact Nat.le_trans (cv_bd D.G.b sb i).1 (Nat.mul_le_mul_right _ lg)
  have bN : Bits 101 num := by
    have h1 := mul_bits3 (k := 60) m1 (D.P0.bits (k := 9) (by decide)) (bits_of_at (k := 14) fun i => Nat.lt_of_le_of_lt (gb i) (by decide)) (by omega)
    refine bits_of_at fun i => ?_
    have h2 : (num.getD i 0).natAbs ≤ 5 * (147 * (5 * (294 * (343 * 31)))) := by
      have e2 : num.getD i 0 = cv p1 u i := by
        have e3 : pl num = pl p1 * pl u := by rw [pl_mul m2]; grind
        have := congrFun (congrArg PS.f e3) i
        rw [cv_cf]
        exact this
      rw [e2]
      exact Nat.le_trans (cv_bd D.P1.b (fun j => cv_bd5 m1 l0 D.P0.b gb j) i).1 (Nat.mul_le_mul_right _ l1)
    exact Nat.lt_of_le_of_lt h2 (by decide)
  have bD : Bits 101 den := by
    refine bits_of_at fun i => ?_
    have h2 : (den.getD i 0).natAbs ≤ 5 * (147 * (5 * (343 * (147 * 31)))) := by
      have e2 : den.getD i 0 = cf (ff p1) (pl g * pl s1).f i := congrFun (congrArg PS.f eD) i
      have e4 : ∃ w : List Int, pl w = pl g * pl s1 := ⟨(List.range 10).map (pl g * pl s1).f, PS.ext (funext fun j => by
        show ((List.range 10).map (pl g * pl s1).f).getD j 0 = _
        rw [List.getD_eq_getElem?_getD, List.getElem?_map]
        by_cases c : j < 10
        · rw [List.getElem?_range c]; rfl
        · rw [List.getElem?_eq_none (by rw [List.length_range]; omega)]
          exact (dY.up j (by omega)).symm)⟩
      obtain ⟨w, hw⟩ := e4
      rw [e2, ← hw]
      have e5 : cf (ff p1) (pl w).f i = cv p1 w i := by rw [cv_cf]
      rw [e5]
      exact Nat.le_trans (cv_bd D.P1.b (fun j => by have : w.getD j 0 = (pl g * pl s1).f j := congrFun (congrArg PS.f hw) j; rw [this]; exact bY j) i).1 (Nat.mul_le_mul_right _ l1)
    exact Nat.lt_of_le_of_lt h2 (by decide)
  have jne : js ≠ [] := fun z => by
    have h := q2.eq (p1.length - 1 + (g.length - 1 + (p1.length - 1)))
    rw [z, one_of q2, Int.mul_one, Int.mul_one] at h
    exact dD.top h.symm
  refine ⟨jne, mk_ok13 (P := (pl p0 * pl g1).f) (R := (pl g * pl s1).f) (q1.bits (by decide) bN) (q2.bits (by decide) bD) (pq_upT q1 (by decide) fun i hi => dN.up i (by omega)) (pq_upT q2 (by decide) fun i hi => dD.up i (by omega)) q1.last q2.last jne (by rw [one_of q1]; decide) (by rw [one_of q2]; decide) dX dY (by omega) ?_, fun as a bs b t => ?_⟩
  · rw [pl_of q1, pl_of q2, eN, eD]
    show pl p1 * (pl p0 * pl g1) * (pl g * pl s1) = pl p1 * (pl g * pl s1) * (pl p0 * pl g1)
    grind
  · have z := qn_one q1 q2 t
    have z2 : Qn (pl p0 * pl g1).f (pl g * pl s1).f as a bs b := z.cancel d1 (congrArg PS.f eN) (congrArg PS.f eD) dX.up dY.up
    have s := z2.sizesF (N := 8) (M := 8) (HX := 5 * (294 * (343 * 31))) (HY := 5 * (343 * (147 * 31))) (LX := 5 * (294 * (343 * 31))) (LY := 5 * (343 * (147 * 31))) (dX.up.mono (by omega)) dY (by omega) bX bY (fun m _ => bX m) (bY _) (by decide) (by decide)
    obtain ⟨x, y⟩ := Qn.dens z2 dX.up dY
    have top : ((pl g * pl s1).f (g.length - 1 + (p1.length - 1))).natAbs < 2 ^ 16 := by
      have e1 : (pl g * pl s1).f (g.length - 1 + (p1.length - 1)) = g.getD (g.length - 1) 0 * s1.getD (p1.length - 1) 0 := cf_top (fun i hi => dg.up i hi) (fun i hi => ds1.up i hi)
      have p0 : 0 < p1.length := List.length_pos_iff.mpr D.P1.ne
      rw [e1, (i2.top (m := p1.length - 1) (by omega)).1, Int.natAbs_mul]
      exact Nat.lt_of_le_of_lt (Nat.mul_le_mul (D.G.b _) (D.P1.b _)) (by decide)
    have la := s.la
    have lb := s.lb
    refine ⟨z, ⟨z.sa, z.sb, bits_of_at fun i => Nat.lt_of_le_of_lt (s.ba i) (by decide), bits_of_at fun i => Nat.lt_of_le_of_lt (s.bb i) (by decide), by omega, by omega, le_of_dvd2 x dY.top top, le_of_dvd2 y dY.top top⟩, fun w => ?_⟩
    exact dX.top (z2.x_zero dX.up w _)
/-- the checker's identity and the law's -/
theorem clo_law {num den m0 m1 as bs cs ds zs ws n0 n1 : List Int} {a b c d : Int} {x : Nat} (q : Qn (pl num).f (pl den).f as a bs b) (r : Qn (pl m0).f (pl m1).f cs c ds d) (dY : Dg (pl den).f x) (R : SpR m0 m1) (iz : IsSh 1 zs cs) (iw : IsSh 1 ws ds) (j0 : IsSh 1 n0 m0) (j1 : IsSh 1 n1 m1) :
    (pc (b * d) * (pl as * pl zs * pl ds) - pc (a * d) * (pl cs * pl bs * pl ws) = pc (a * c) * (pl bs * pl ws * pl ds)) ↔ pl num * pl n0 * pl m1 - pl den * pl m0 * pl n1 = pl den * pl m1 * pl n1 := by
  obtain ⟨n, _, dn⟩ := R.d1
  exact clo_same q r (sh_ps r j0.mv j1.mv iz.mv iw.mv (Fi.pl _) (Fi.pl _) (Fi.pl _) (Fi.pl _) (Fi.pl _) (Fi.pl _)) dY dn (sh_dg j1 dn) (sh_dg iw (dgl r.bt)) (Fi.pl _) (Fi.pl _) (Fi.pl _) (Fi.pl _)
theorem den_dg {p1 g s1 v den : List Int} {M N : Nat} (P1 : RtP M p1) (G : RtP N g) (i2 : IsSh 1 s1 p1) (m3 : IsMul v p1 g) (m4 : IsMul den v s1) : ∃ x, Dg (pl den).f x := ⟨_, by rw [pl_mul m4, pl_mul m3]; exact dg_mul (dg_mul P1.dg G.dg) (sh_dg i2 P1.dg)⟩
def mkQuS (K : PySem.W.Frag) (dvs : List V) (_ : WX) : L2.St → List V → Hp → VK → Prop := fun _ vs H1 Q => mkQu K dvs vs H1 Q
theorem mkQuS_conv (K : PySem.W.Frag) (dvs : List V) (W : WX) (σ : L2.St) (vs : List V) (H1 : Hp) (Q : VK) (h : mkQuS K dvs W σ vs H1 Q) (x dx : Addr) (nx : H1 x = none) (nd : H1 dx = none) (ne : dx ≠ x) :
    spQuI K (.ref x :: (vs ++ dvs)) (upd (upd H1 dx (.own x)) x (.ins (CQ K) dx [])) (fun v H2 => v = .non ∧ Q (.ref x) H2) (WE W σ) := by
  obtain ⟨p, r, ks, js, e, f, k, KK, kc, ev, hp, hr, sk, sj, jne, o, q⟩ := h
  have s0 : Same H1 (upd (upd H1 dx (.own x)) x (.ins (CQ K) dx [])) := same_made0 nx nd
  rw [ev]
  refine ⟨x, dx, p, r, ks, js, e, f, k, KK, kc, rfl, upd_same, hp.mono s0, hr.mono s0, sk, sj, fun z => absurd z jne, fun _ => ⟨o.ok, o.cb, o.kk, o.eb, o.fb, o.d1, o.d2, fun H' u v as a bs b sb hu hv qt hx => ⟨rfl, ?_⟩⟩⟩
  exact q x H' as a bs b (fun y o hy => sb y o (fun z => by rw [z, nx] at hy; cases hy) (s0 _ _ hy)) nx ⟨dx, u, v, hx, hu, hv⟩ qt

section
variable {P : Program} {w : World} {K : PySem.W.Frag} {mg : Str → Option Value} {base : Heap}
theorem ok__law_numbers (T : Tx K mg) : OkF P w K mg base 1 (He.fAd K ("_law_numbers", none)) ["script", "count"] (spNums K) := by
  refine okF_of (d := d__law_numbers) T.d__law_numbers rfl sc__law_numbers (fun _ _ _ _ _ _ us hl => match us, hl with | [_, _], _ => rfl) (fun vs H Q E h => ?_) (fun cdv A outer s H vs Q E hr h => ?_)
  · first | (obtain ⟨_, rfl, _⟩ := h; rfl) | (obtain ⟨_, _, rfl, _⟩ := h; rfl) | (obtain ⟨_, _, _, rfl, _⟩ := h; rfl) | (obtain ⟨_, _, _, _, rfl, _⟩ := h; rfl) | (obtain ⟨_, _, _, _, _, rfl, _⟩ := h; rfl) | (obtain ⟨_, _, _, _, _, _, rfl, _⟩ := h; rfl) | (obtain ⟨_, _, _, _, _, _, _, rfl, _⟩ := h; rfl) | (obtain ⟨_, _, _, _, _, _, _, _, rfl, _⟩ := h; rfl) | (obtain ⟨_, _, _, _, _, _, _, _, _, rfl, _⟩ := h; rfl) | (obtain ⟨_, _, _, _, _, _, _, _, _, _, rfl, _⟩ := h; rfl)
  · obtain ⟨a, c, ns, rfl, hS, hl, hc0, hc1, q⟩ := h
    refine ⟨_, (pss_cons (ps_setI (i := 2) sc__law_numbers.nd rfl (Or.inl rfl) pe_int)
      (Evl.pss_cut (ps_if (pt_cmpR op_gt (pe_callB call_len_seq (by rfl) T.z_len PySem.boot_len (pa_cons (pv 0) pa_nil)) pe_int (nomark _)) (pss_one (ps_setI (i := 2) sc__law_numbers.nd rfl (Or.inl rfl) (pe_ix ix_list (pv 0) pe_int (fun _ _ => rfl)))) pss_nil)
      (pss_cons (ps_set (i := 3) sc__law_numbers.nd rfl (Or.inl rfl) (pe_cmpR op_ge (pv 2) (pe_op op_pow pe_int pe_int) (nomark _)))
      (pss_cons (ps_set (i := 4) sc__law_numbers.nd rfl (Or.inl rfl) (pe_lst pa_nil))
      (pss_cons (ps_for PassesOwn.leaving rfl (pi_range1 rfl T.z_range (pa_cons (pv 1) pa_nil)) (pg_name (i := 5) sc__law_numbers.nd rfl (Or.inl rfl)) (pss_one (ps_if (PW.pt (pw_and (pt_val (pv 3)) (pw_and1 (pt_cmpR op_gt (pv 2) pe_int (nomark _))))) (pss_cons (ps_expr (pe_bm PySem.F.plainAttrs_list PySem.F.slot_list_append PySem.F.type_list_append mt_append (pv 4) (pa_cons (pe_op op_mod (pv 2) pe_int) pa_nil)))
      (pss_one (ps_setI (i := 2) sc__law_numbers.nd rfl (Or.inl rfl) (pe_op op_fdiv (pv 2) pe_int)))) (pss_cons (ps_setI (i := 6) sc__law_numbers.nd rfl (Or.inl rfl) pe_int)
      (Evl.pss_cut (ps_if (pt_cmpR op_gt (pe_callB call_len_seq (by rfl) T.z_len PySem.boot_len (pa_cons (pv 0) pa_nil)) pe_int (nomark _)) (pss_one (ps_setI (i := 6) sc__law_numbers.nd rfl (Or.inl rfl) (pe_op op_add (pe_ix ix_list (pv 0) (pe_op op_mod (pv 5) (pe_callB call_len_seq (by rfl) T.z_len PySem.boot_len (pa_cons (pv 0) pa_nil))) (fun _ _ => rfl)) (pe_op op_mul pe_int (pv 5))))) pss_nil)
      (pss_one (ps_expr (pe_bm PySem.F.plainAttrs_list PySem.F.slot_list_append PySem.F.type_list_append mt_append (pv 4) (pa_cons (pe_op op_mod (pe_op op_mod (pe_op op_mul (pe_op op_mod (pe_op op_mul (pv 6) pe_int) pe_int) pe_int) pe_int) pe_int) pa_nil)))))))))
      (pss_one (ps_ret (pv 4)))))))), ?_⟩
    refine ⟨_, rfl, fun r0 _ => ?_⟩
    refine ⟨fun σ' H' => H = H' ∧ ∃ r : Int, σ' = [some (.ref a), some (.int c), some (.int r), none, none, none, none], ?_, ?_⟩
    · refine ⟨_, rfl, _, _, rfl, .inl hS, _, _, rfl, rfl, _, rfl, iteD (fun h1 => ?_) (fun h1 => ?_)⟩
      · rw [len_map] at h1
        obtain ⟨x, _, hx⟩ := get_map (ns := ns) (i := 0) (by omega)
        exact ⟨_, rfl, _, _, _, _, rfl, rfl, hS, atI_nat (j := 0) hx, _, rfl, fun r _ => ⟨rfl, r, rfl⟩⟩
      · exact ⟨rfl, r0, rfl⟩
    rintro _ _ ⟨rfl, r, rfl⟩
    refine ⟨_, rfl, _, _, rfl, rfl, ⟨by decide, by decide, by decide⟩, _, _, rfl, rfl, ?_⟩
    obtain ⟨bd, hbd⟩ : ∃ bd : Bool, bd = decide ((10 : Int) ^ (18 : Int).toNat ≤ r) := ⟨_, rfl⟩
    refine ⟨Nat.zero_le _, fun p np => ?_⟩
    refine ⟨_, rfl, _, rfl, by omega, by omega, for_range (lo := 0) (n := c.toNat) (fun i σ' H' => ∃ (r : Int) (ms : List Int) (y5 y6 : Option V), σ' = [some (.ref a), some (.int c), some (.int r), some (.bl bd), some (.ref p), y5, y6] ∧
      Same H H' ∧ H' p = some (.lst (ms.map V.int)) ∧ ms.length = i ∧ ∀ m ∈ ms, 0 ≤ m ∧ m < 1000000) ⟨r, [], none, none, by rw [hbd]; rfl, sm_new np, upd_same, rfl, fun m hm => absurd hm (by simp)⟩ (fun i σ' H1 hi hI => ?_) (fun σ' H1 hI => ?_)⟩
    · obtain ⟨r, ms, y5, y6, rfl, sm, hp, hm, hb⟩ := hI
      have hz : (ms.map V.int).length < sizeLine := by rw [len_map]; exact small1000 (by omega)
      have more : ∀ (x r : Int) (y5 y6 : Option V), 0 ≤ x → x < 1000000 → ∃ (r' : Int) (ms' : List Int) (y5' y6' : Option V), [some (.ref a), some (.int c), some (.int r), some (.bl bd), some (.ref p), y5, y6] = [some (.ref a), some (.int c), some (.int r'), some (.bl bd), some (.ref p), y5', y6'] ∧
          Same H (upd H1 p (.lst (ms.map V.int ++ [.int x]))) ∧ (upd H1 p (.lst (ms.map V.int ++ [.int x]))) p = some (.lst (ms'.map V.int)) ∧ ms'.length = i + 1 ∧ ∀ m ∈ ms', 0 ≤ m ∧ m < 1000000 := fun x r y5 y6 h0 h1 =>
        ⟨r, ms ++ [x], y5, y6, rfl, same_mut sm np, by rw [upd_same, List.map_append]; rfl, by rw [List.length_append, hm]; rfl, fun m hm => by
          rcases List.mem_append.mp hm with hm | hm
          · exact hb m hm
          · rw [List.mem_singleton.mp hm]; exact ⟨h0, h1⟩⟩
      have e0 : (0 : Int) + (i : Int) = (i : Int) := Int.zero_add _
      rw [e0]
      refine ⟨_, rfl, _, rfl, iteShare (iteF ?_) (fun h1 els => ?_)⟩
      · refine ⟨_, rfl, fun c0 _ => ?_⟩
        refine ⟨fun σ' H' => H1 = H' ∧ ∃ z : Int, σ' = [some (.ref a), some (.int c), some (.int r), some (.bl bd), some (.ref p), some (.int (i : Int)), some (.int z)], ?_, ?_⟩
        · refine ⟨_, rfl, _, _, rfl, .inl (sm.seq hS), _, _, rfl, rfl, _, rfl, iteD (fun h1 => ?_) (fun h1 => ?_)⟩
          · have h1' : (0 : Int) < ((ns.map V.int).length : Int) := h1
            have h2 : 0 ≤ (i : Int) % ((ns.map V.int).length : Int) := Int.emod_nonneg _ (by omega)
            have h3 : (i : Int) % ((ns.map V.int).length : Int) < ((ns.map V.int).length : Int) := Int.emod_lt_of_pos _ h1'
            obtain ⟨x, _, hx⟩ := get_map (ns := ns) (i := ((i : Int) % ((ns.map V.int).length : Int)).toNat) (by rw [len_map] at *; omega)
            exact ⟨_, rfl, _, rfl, _, rfl, _, _, rfl, .inl (sm.seq hS), _, _, rfl, rfl, h1', _, _, _, _, rfl, rfl, sm.seq hS, at_of (by omega) hx, _, rfl, _, _, rfl, rfl, .inl ⟨by decide, by decide⟩, _, _, rfl, rfl, _, rfl, fun z _ => ⟨rfl, z, rfl⟩⟩
          · exact ⟨rfl, c0, rfl⟩
        rintro _ _ ⟨rfl, z, rfl⟩
        refine ⟨_, rfl, .inl ⟨rfl, _, SqL.of hp⟩, _, rfl, _, _, rfl, rfl, .inr ⟨by decide, by decide⟩, _, _, rfl, rfl, (show (0 : Int) < 2147483647 by decide), _, _, rfl, rfl, .inr ⟨by decide, by decide⟩, _, _, rfl, rfl, (show (0 : Int) < 2147483629 by decide), _, _, rfl, rfl, (show (0 : Int) < 1000000 by decide), _, _, _, rfl, rfl, hp, hz, ?_⟩
        exact more (z * 48271 % 2147483647 * 69621 % 2147483629 % 1000000) r (some (.int (i : Int))) (some (.int z)) (Int.emod_nonneg _ (by decide)) (Int.emod_lt_of_pos _ (by decide))
      · refine ⟨_, rfl, _, _, rfl, rfl, _, rfl, iteD (fun h2 => ?_) (fun h2 => unF els)⟩
        refine ⟨_, rfl, .inl ⟨rfl, _, SqL.of hp⟩, _, rfl, _, _, rfl, rfl, (show (0 : Int) < 1000000 by decide), _, _, _, rfl, rfl, hp, hz, ?_⟩
        refine ⟨_, rfl, _, _, rfl, rfl, ⟨by decide, by decide⟩, _, rfl, fun r2 _ => ?_⟩
        exact more (r % 1000000) r2 (some (.int (i : Int))) y6 (Int.emod_nonneg _ (by decide)) (Int.emod_lt_of_pos _ (by decide))
    · obtain ⟨r, ms, y5, y6, rfl, sm, hp, hm, hb⟩ := hI
      exact ⟨_, rfl, q p H1 ms sm np hp hm hb⟩

theorem ok__law_product (T : Tx K mg) : OkF P w K mg base 1 (He.fAd K ("_law_product", none)) ["a", "b"] (spLPr K) := by
  refine okF_of (d := d__law_product) T.d__law_product rfl sc__law_product (fun _ _ _ _ _ _ us hl => match us, hl with | [_, _], _ => rfl) (fun vs H Q E h => ?_) (fun cdv A outer s H vs Q E hr h => ?_)
  · first | (obtain ⟨_, rfl, _⟩ := h; rfl) | (obtain ⟨_, _, rfl, _⟩ := h; rfl) | (obtain ⟨_, _, _, rfl, _⟩ := h; rfl) | (obtain ⟨_, _, _, _, rfl, _⟩ := h; rfl) | (obtain ⟨_, _, _, _, _, rfl, _⟩ := h; rfl) | (obtain ⟨_, _, _, _, _, _, rfl, _⟩ := h; rfl) | (obtain ⟨_, _, _, _, _, _, _, rfl, _⟩ := h; rfl) | (obtain ⟨_, _, _, _, _, _, _, _, rfl, _⟩ := h; rfl) | (obtain ⟨_, _, _, _, _, _, _, _, _, rfl, _⟩ := h; rfl) | (obtain ⟨_, _, _, _, _, _, _, _, _, _, rfl, _⟩ := h; rfl)
  · obtain ⟨a, b, xs, ys, k, rfl, hA, hB, b1, b2, l1, l2, hk, q⟩ := h
    refine ⟨_, (pss_cons (ps_setLc (i := 2) (own := [("k", 5)]) (g := gName 5) rfl sc__law_product.nd rfl rfl (sw_true rfl rfl rfl (by decide +kernel)) (pi_range1 rfl T.z_range (pa_cons (pe_op op_add (pe_callB call_len_seq (by rfl) T.z_len PySem.boot_len (pa_cons (pv 0) pa_nil)) (pe_callB call_len_seq (by rfl) T.z_len PySem.boot_len (pa_cons (pv 1) pa_nil))) pa_nil)) (blkOk_by (own := [("k", 5)]) (N := N__law_product) (sc := defScope s__law_product) (by decide +kernel)) (fun _ _ _ _ _ => (pg_name (i := 5) sc__law_product.nd rfl (Or.inl rfl))) (fun _ _ _ _ _ => pts_nil) (fun _ _ _ _ _ => pe_int))
      (pss_cons (ps_for PassesOwn.leaving rfl (pi_range1 rfl T.z_range (pa_cons (pe_callB call_len_seq (by rfl) T.z_len PySem.boot_len (pa_cons (pv 0) pa_nil)) pa_nil)) (pg_name (i := 3) sc__law_product.nd rfl (Or.inl rfl)) (pss_one (ps_for PassesOwn.leaving rfl (pi_range1 rfl T.z_range (pa_cons (pe_callB call_len_seq (by rfl) T.z_len PySem.boot_len (pa_cons (pv 1) pa_nil)) pa_nil)) (pg_name (i := 4) sc__law_product.nd rfl (Or.inl rfl)) (pss_one (ps_asg (pe_op op_add (pe_ix ix_list (pv 2) (pe_op op_add (pv 3) (pv 4)) (fun _ _ => rfl)) (pe_op op_mulW (pe_ix ix_list (pv 0) (pv 3) (fun _ _ => rfl)) (pe_ix ix_list (pv 1) (pv 4) (fun _ _ => rfl)))) (pg_sub (pv 2) (pe_op op_add (pv 3) (pv 4)) set_list))))))
      (pss_one (ps_ret (pv 2))))), ?_⟩
    refine ⟨_, rfl, _, _, rfl, .inl hA, _, rfl, _, _, rfl, .inl hB, _, _, rfl, rfl, _, rfl, by rw [len_map, len_map]; omega, by rw [len_map, len_map]; omega, fun D nD => lc_range (lo := 0) (n := (((xs.map V.int).length : Int) + ((ys.map V.int).length : Int)).toNat) (fun i H' => Same H H' ∧ H' D = some (.lst ((List.replicate i (0 : Int)).map V.int))) ⟨sm_new nD, upd_same⟩ (fun i H' hi hP => ?_) (fun H1 hP => ?_)⟩
    · obtain ⟨sm, hD⟩ := hP
      refine ⟨rfl, ?_⟩
      unfold tYes
      refine iteK rfl ?_
      rw [len_map, len_map] at hi
      refine ⟨_, hD, by rw [len_map, List.length_replicate]; exact small1000 (by omega), same_mut sm nD, ?_⟩
      rw [upd_same, List.replicate_succ', List.map_append]
      rfl
    obtain ⟨s1, hD⟩ := hP
    rw [len_map, len_map] at hD
    obtain ⟨N, hN⟩ : ∃ N : Nat, ((xs.length : Int) + (ys.length : Int)).toNat = N := ⟨_, rfl⟩
    rw [hN] at hD
    have hN2 : N = xs.length + ys.length := by omega
    refine ⟨_, rfl, _, _, rfl, .inl (s1.seq hA), _, rfl, by rw [len_map]; omega, by rw [len_map]; omega, for_range (lo := 0) (n := ((xs.map V.int).length : Int).toNat) (fun i σ' H' => ∃ (fs : List Int) (yi yj : Option V), σ' = [some (.ref a), some (.ref b), some (.ref D), yi, yj, none] ∧ Same H H' ∧ H' D = some (.lst (fs.map V.int)) ∧ MulAt fs xs ys N i 0)
      ⟨_, none, none, rfl, s1, hD, MulAt.start⟩ (fun i σ' H' hi hI => ?_) (fun σ' H' hI => ?_)⟩
    · obtain ⟨fs, yi, yj, rfl, sm, hf, m⟩ := hI
      rw [len_map] at hi
      refine ⟨_, rfl, _, _, rfl, .inl (sm.seq hB), _, rfl, by rw [len_map]; omega, by rw [len_map]; omega, for_range (lo := 0) (n := ((ys.map V.int).length : Int).toNat) (fun j σ' H' => ∃ (fs : List Int) (yj : Option V), σ' = [some (.ref a), some (.ref b), some (.ref D), some (.int (0 + (i : Int))), yj, none] ∧ Same H H' ∧ H' D = some (.lst (fs.map V.int)) ∧ MulAt fs xs ys N i j)
        ⟨_, _, rfl, sm, hf, m⟩ (fun j σ' H' hj hI => ?_) (fun σ' H' hI => ?_)⟩
      · obtain ⟨fs, yj, rfl, sm, hf, m⟩ := hI
        rw [len_map] at hj
        have il : i < xs.length := by omega
        have jl : j < ys.length := by omega
        have fl : i + j < fs.length := by rw [m.len]; omega
        refine ⟨_, rfl, _, rfl, _, rfl, _, _, rfl, rfl, _, _, _, _, rfl, rfl, SqL.of hf, at_of (j := i + j) (by omega) (map_at (get_of_lt fl)), _, rfl, _, rfl, _, _, _, _, rfl, rfl, sm.seq hA, at_of (j := i) (by omega) (map_at (get_of_lt il)), _, rfl, _, rfl, _, _, _, _, rfl, rfl, sm.seq hB, at_of (j := j) (by omega) (map_at (get_of_lt jl)), _, _, rfl, rfl, mulW (b1.getD i) (b2.getD j) (by omega), _, _, rfl, rfl, _, rfl, _, rfl, _, rfl, _, _, rfl, rfl, D, _, _, i + j, rfl, rfl, hf, ixN_at (by omega) (by rw [len_map]; exact fl), ?_⟩
        exact ⟨_, _, rfl, same_mut sm nD, by rw [upd_same, map_set_V], m.step (by omega) rfl⟩
      · obtain ⟨fs, yj, rfl, sm, hf, m⟩ := hI
        exact ⟨_, _, _, rfl, sm, hf, m.row (by rw [len_map]; omega)⟩
    · obtain ⟨fs, yi, yj, rfl, sm, hf, m⟩ := hI
      exact ⟨_, rfl, q D H' fs sm nD hf (m.fin (by rw [len_map]; omega) (by omega)) (by rw [m.len]; exact hN2)⟩

theorem ok__law_trimmed (T : Tx K mg) : OkF P w K mg base 1 (He.fAd K ("_law_trimmed", none)) ["coefs"] (spLTr K) := by
  refine okF_of (d := d__law_trimmed) T.d__law_trimmed rfl sc__law_trimmed (fun _ _ _ _ _ _ us hl => match us, hl with | [_], _ => rfl) (fun vs H Q E h => ?_) (fun cdv A outer s H vs Q E hr h => ?_)
  · first | (obtain ⟨_, rfl, _⟩ := h; rfl) | (obtain ⟨_, _, rfl, _⟩ := h; rfl) | (obtain ⟨_, _, _, rfl, _⟩ := h; rfl) | (obtain ⟨_, _, _, _, rfl, _⟩ := h; rfl) | (obtain ⟨_, _, _, _, _, rfl, _⟩ := h; rfl) | (obtain ⟨_, _, _, _, _, _, rfl, _⟩ := h; rfl) | (obtain ⟨_, _, _, _, _, _, _, rfl, _⟩ := h; rfl) | (obtain ⟨_, _, _, _, _, _, _, _, rfl, _⟩ := h; rfl) | (obtain ⟨_, _, _, _, _, _, _, _, _, rfl, _⟩ := h; rfl) | (obtain ⟨_, _, _, _, _, _, _, _, _, _, rfl, _⟩ := h; rfl)
  · obtain ⟨a, xs, rfl, hS, q⟩ := h
    refine ⟨_, (pss_cons (ps_setI (i := 1) sc__law_trimmed.nd rfl (Or.inl rfl) (pe_callB call_len_seq (by rfl) T.z_len PySem.boot_len (pa_cons (pv 0) pa_nil)))
      (pss_cons (ps_while PassesOwn.leaving (PW.pt (pw_and (pt_cmpR op_gt (pv 1) pe_int (nomark _)) (pw_and1 (pt_cmpR op_eq (pe_ix ix_list (pv 0) (pe_op op_sub (pv 1) pe_int) (fun _ _ => rfl)) pe_int (nomark _))))) (pss_one (ps_setI (i := 1) sc__law_trimmed.nd rfl (Or.inl rfl) (pe_op op_sub (pv 1) pe_int))))
      (pss_one (ps_ret (pe_slice sl_list (pv 0) po_none (po_some (pv 1))))))), ?_⟩
    refine ⟨_, rfl, _, _, rfl, .inl hS, _, rfl, fun l0 el => ?_⟩
    rw [len_map] at el
    refine ⟨fun m σ' H' => H = H' ∧ ∃ n : Nat, σ' = [some (.ref a), some (.int (n : Int))] ∧ m = n ∧ n ≤ xs.length ∧ ∀ k, n ≤ k → xs.getD k 0 = 0, ⟨_, rfl, xs.length, by rw [el]; rfl, rfl, Nat.le_refl _, fun k hk => getD_end hk⟩, ?_⟩
    rintro m _ _ ⟨rfl, n, rfl, rfl, hn, hz⟩
    have fin : (m = 0 ∨ xs.getD (m - 1) 0 ≠ 0) → Trim xs m := fun h => ⟨hn, hz, h⟩
    refine ⟨_, rfl, _, _, rfl, rfl, _, rfl, iteD (fun h1 => ?_) (fun h1 => ?_)⟩
    · have hm : m - 1 < xs.length := by omega
      refine ⟨_, rfl, _, rfl, _, _, rfl, rfl, _, _, _, _, rfl, rfl, hS, at_of (j := m - 1) (by omega) (map_at (get_of_lt hm)), rfl, _, rfl, iteEq (fun h2 => ?_) (fun h2 => ?_)⟩
      · refine ⟨fun σ2 H2 => ∃ m', m' < m ∧ H = H2 ∧ ∃ n : Nat, σ2 = [some (.ref a), some (.int (n : Int))] ∧ m' = n ∧ n ≤ xs.length ∧ ∀ k, n ≤ k → xs.getD k 0 = 0, fun _ _ h => h, ?_⟩
        refine ⟨_, rfl, _, _, rfl, rfl, _, rfl, fun l1 e1 => ?_⟩
        refine ⟨m - 1, by omega, rfl, m - 1, by rw [e1, show (m : Int) - 1 = ((m - 1 : Nat) : Int) by omega]; rfl, rfl, by omega, fun k hk => ?_⟩
        by_cases c : k = m - 1
        · rw [c]; exact h2
        · exact hz k (by omega)
      · have t := fin (.inr h2)
        refine ⟨_, rfl, _, rfl, _, rfl, _, _, rfl, hS, fun p np => ?_⟩
        rw [cut_lo (by rw [len_map]; exact hn), ← List.map_take]
        exact q p _ m (sm_new np) np upd_same t
    · have t := fin (.inl (by omega))
      refine ⟨_, rfl, _, rfl, _, rfl, _, _, rfl, hS, fun p np => ?_⟩
      rw [cut_lo (by rw [len_map]; exact hn), ← List.map_take]
      exact q p _ m (sm_new np) np upd_same t

theorem ok__law_ratio (T : Tx K mg) (O__law_product : OkF P w K mg base 1 (He.fAd K ("_law_product", none)) ["a", "b"] (spLPr K)) (O__law_trimmed : OkF P w K mg base 1 (He.fAd K ("_law_trimmed", none)) ["coefs"] (spLTr K)) : OkF P w K mg base 2 (He.fAd K ("_law_ratio", none)) ["numbers", "place"] (spLRt K) := by
  obtain ⟨_, G__law_product, b__law_product, k__law_product⟩ := O__law_product
  obtain ⟨_, G__law_trimmed, b__law_trimmed, k__law_trimmed⟩ := O__law_trimmed
  refine okF_of (d := d__law_ratio) T.d__law_ratio rfl sc__law_ratio (fun _ _ _ _ _ _ us hl => match us, hl with | [_, _], _ => rfl) (fun vs H Q E h => ?_) (fun cdv A outer s H vs Q E hr h => ?_)
  · (obtain ⟨_, _, _, rfl, _⟩ := h; rfl)
  · obtain ⟨a, ms, _, rfl, hA, ml, q⟩ := h
    refine ⟨_, (pss_cons (ps_set (i := 2) sc__law_ratio.nd rfl (Or.inl rfl) (pe_lst (pa_cons (pe_op op_sub (pe_op op_mod (pe_ix ix_list (pv 0) (pv 1) (fun _ _ => rfl)) pe_int) pe_int) pa_nil)))
      (Evl.pss_cut (ps_if (pt_cmpR op_ge (pe_ix ix_list (pv 2) pe_int (fun _ _ => rfl)) pe_int (nomark _)) (pss_one (ps_asg (pe_op op_add (pe_ix ix_list (pv 2) pe_int (fun _ _ => rfl)) pe_int) (pg_sub (pv 2) pe_int set_list))) pss_nil)
      (pss_cons (ps_set (i := 3) sc__law_ratio.nd rfl (Or.inl rfl) (pe_lst (pa_cons (pe_op op_add (pe_op op_mod (pe_op op_fdiv (pe_ix ix_list (pv 0) (pv 1) (fun _ _ => rfl)) pe_int) pe_int) pe_int) pa_nil)))
      (pss_cons (ps_for PassesOwn.leaving rfl (pi_range1 rfl T.z_range (pa_cons (pe_op op_mod (pe_ix ix_list (pv 0) (pe_op op_add (pv 1) pe_int) (fun _ _ => rfl)) pe_int) pa_nil)) (pg_name (i := 4) sc__law_ratio.nd rfl (Or.inl rfl)) (pss_cons (ps_setI (i := 5) sc__law_ratio.nd rfl (Or.inl rfl) (pe_ix ix_list (pv 0) (pe_op op_add (pe_op op_add (pv 1) pe_int) (pv 4)) (fun _ _ => rfl)))
      (pss_one (ps_if (pt_cmpR op_eq (pe_op op_mod (pv 5) pe_int) pe_int (nomark _)) (pss_one (ps_set (i := 2) sc__law_ratio.nd rfl (Or.inl rfl) (pe_call G__law_product (hr.mono (by decide)) (by rfl) T.g__law_product k__law_product b__law_product .nil passL (pa_cons (pv 2) (pa_cons (pe_lst (pa_cons (pe_op op_sub (pe_op op_mod (pe_op op_fdiv (pv 5) pe_int) pe_int) pe_int) (pa_cons pe_int (pa_cons pe_int pa_nil)))) pa_nil))))) (pss_one (ps_set (i := 2) sc__law_ratio.nd rfl (Or.inl rfl) (pe_call G__law_product (hr.mono (by decide)) (by rfl) T.g__law_product k__law_product b__law_product .nil passL (pa_cons (pv 2) (pa_cons (pe_lst (pa_cons (pe_op op_sub (pe_op op_mod (pe_op op_fdiv (pv 5) pe_int) pe_int) pe_int) (pa_cons pe_int pa_nil))) pa_nil)))))))))
      (pss_cons (ps_for PassesOwn.leaving rfl (pi_range1 rfl T.z_range (pa_cons (pe_op op_mod (pe_op op_fdiv (pe_ix ix_list (pv 0) (pe_op op_add (pv 1) pe_int) (fun _ _ => rfl)) pe_int) pe_int) pa_nil)) (pg_name (i := 4) sc__law_ratio.nd rfl (Or.inl rfl)) (pss_cons (ps_setI (i := 5) sc__law_ratio.nd rfl (Or.inl rfl) (pe_ix ix_list (pv 0) (pe_op op_add (pe_op op_add (pv 1) pe_int) (pv 4)) (fun _ _ => rfl)))
      (pss_one (ps_if (pt_cmpR op_eq (pe_op op_mod (pv 5) pe_int) pe_int (nomark _)) (pss_one (ps_set (i := 3) sc__law_ratio.nd rfl (Or.inl rfl) (pe_call G__law_product (hr.mono (by decide)) (by rfl) T.g__law_product k__law_product b__law_product .nil passL (pa_cons (pv 3) (pa_cons (pe_lst (pa_cons (pe_op op_sub (pe_op op_mod (pe_op op_fdiv (pv 5) pe_int) pe_int) pe_int) (pa_cons pe_int (pa_cons pe_int pa_nil)))) pa_nil))))) (pss_one (ps_set (i := 3) sc__law_ratio.nd rfl (Or.inl rfl) (pe_call G__law_product (hr.mono (by decide)) (by rfl) T.g__law_product k__law_product b__law_product .nil passL (pa_cons (pv 3) (pa_cons (pe_lst (pa_cons (pe_op op_sub (pe_op op_mod (pe_op op_fdiv (pv 5) pe_int) pe_int) pe_int) (pa_cons pe_int pa_nil))) pa_nil)))))))))
      (pss_one (ps_ret (pe_lst (pa_cons (pe_call G__law_trimmed (hr.mono (by decide)) (by rfl) T.g__law_trimmed k__law_trimmed b__law_trimmed .nil passL (pa_cons (pv 2) pa_nil)) (pa_cons (pe_call G__law_trimmed (hr.mono (by decide)) (by rfl) T.g__law_trimmed k__law_trimmed b__law_trimmed .nil passL (pa_cons (pv 3) pa_nil)) pa_nil)))))))))), ?_⟩
    have g : ∀ i, i < 10 → (ms.map V.int)[i]? = some (V.int (ms.getD i 0)) := fun i hi => map_at (get_of_lt (by omega))
    refine ⟨_, rfl, _, rfl, _, _, _, _, rfl, rfl, hA, at_of (j := 4) rfl (g 4 (by decide)), _, _, rfl, rfl, (show (0 : Int) < 8 by decide), _, _, rfl, rfl, by show 1 ≤ sizeLine; decide, fun p1 np1 => ?_⟩
    have s1 := sm_new (o := .lst [V.int (ms.getD 4 0 % 8 - 4)]) np1
    have m4 : 0 ≤ ms.getD 4 0 % 8 ∧ ms.getD 4 0 % 8 < 8 := ⟨Int.emod_nonneg _ (by decide), Int.emod_lt_of_pos _ (by decide)⟩
    refine ⟨fun σ' H' => σ' = [some (.ref a), some (.int 4), some (.ref p1), none, none, none] ∧ Same H H' ∧ ∃ c : Int, c ≠ 0 ∧ c.natAbs ≤ 4 ∧ H' p1 = some (.lst (([c] : List Int).map V.int)), ?_, ?_⟩
    · refine ⟨_, rfl, _, _, _, _, rfl, rfl, SqL.of upd_same, atI_nat (j := 0) rfl, _, _, rfl, rfl, _, rfl, iteD (fun c2 => ?_) (fun c2 => ?_)⟩
      · refine ⟨_, rfl, _, _, _, _, rfl, rfl, SqL.of upd_same, atI_nat (j := 0) rfl, _, _, rfl, rfl, _, rfl, p1, _, _, 0, rfl, rfl, upd_same, ixN_at (by omega) (show 0 < 1 by decide), ?_⟩
        exact ⟨rfl, same_mut s1 np1, ms.getD 4 0 % 8 - 4 + 1, by omega, by omega, upd_same⟩
      · exact ⟨rfl, s1, ms.getD 4 0 % 8 - 4, by omega, by omega, upd_same⟩
    rintro _ HA ⟨rfl, sA, c, c0, c4, hc1⟩
    have hA1 := sA.seq hA
    have m8 : 0 ≤ ms.getD 4 0 / 8 % 3 ∧ ms.getD 4 0 / 8 % 3 < 3 := ⟨Int.emod_nonneg _ (by decide), Int.emod_lt_of_pos _ (by decide)⟩
    refine ⟨_, rfl, _, rfl, _, _, _, _, rfl, rfl, hA1, at_of (j := 4) rfl (g 4 (by decide)), _, _, rfl, rfl, ⟨by decide, by decide⟩, _, _, rfl, rfl, (show (0 : Int) < 3 by decide), _, _, rfl, rfl, by show 1 ≤ sizeLine; decide, fun p2 np2 => ?_⟩
    have s2 := sm_new (o := .lst [V.int (ms.getD 4 0 / 8 % 3 + 1)]) np2
    have hc2 : (upd HA p2 (.lst [V.int (ms.getD 4 0 / 8 % 3 + 1)])) p2 = some (.lst (([ms.getD 4 0 / 8 % 3 + 1] : List Int).map V.int)) := upd_same
    have hc1' := s2 _ _ hc1
    have hA2 := s2.seq hA1
    have m5 : 0 ≤ ms.getD 5 0 % 3 ∧ ms.getD 5 0 % 3 < 3 := ⟨Int.emod_nonneg _ (by decide), Int.emod_lt_of_pos _ (by decide)⟩
    have m6 : 0 ≤ ms.getD 5 0 / 3 % 3 ∧ ms.getD 5 0 / 3 % 3 < 3 := ⟨Int.emod_nonneg _ (by decide), Int.emod_lt_of_pos _ (by decide)⟩
    refine ⟨_, rfl, _, rfl, _, _, rfl, rfl, _, _, _, _, rfl, rfl, hA2, at_of (j := 5) (by omega) (g 5 (by decide)), _, _, rfl, rfl, (show (0 : Int) < 3 by decide), _, rfl, by omega, by omega, for_range (lo := 0) (n := (ms.getD 5 0 % 3).toNat) (fun i σ' H' => ∃ (q1 : Addr) (zs : List Int) (y4 y5 : Option V), σ' = [some (.ref a), some (.int 4), some (.ref q1), some (.ref p2), y4, y5] ∧ Same (upd HA p2 (.lst [V.int (ms.getD 4 0 / 8 % 3 + 1)])) H' ∧ H' q1 = some (.lst (zs.map V.int)) ∧ RtL zs i 4) ⟨p1, [c], none, none, rfl, fun _ _ e => e, hc1', RtL.start c0 c4⟩ (fun i σ' H' hi hI => ?_) (fun σ' H' hI => ?_)⟩
    · obtain ⟨q1, zs, y4, y5, rfl, sm, hz, R⟩ := hI
      have Rl := R.len
      have R3 := R.b
      have i1 : i ≤ 1 := by omega
      have bz : Bits 20 zs := bits_of_at fun k => Nat.lt_of_le_of_lt (R3 k) (by rcases (by omega : i = 0 ∨ i = 1) with e | e <;> rw [e] <;> decide)
      refine ⟨_, rfl, _, rfl, _, _, rfl, rfl, _, rfl, _, _, rfl, rfl, _, _, _, _, rfl, rfl, sm.seq hA2, at_of (j := 6 + i) (by omega) (g (6 + i) (by omega)), _, rfl, fun nu enu => ?_⟩
      clear enu
      have cb : (nu / 4 % 13 - 6).natAbs ≤ 6 := by
        have h1 := Int.emod_nonneg (nu / 4) (show (13 : Int) ≠ 0 by decide)
        have h2 := Int.emod_lt_of_pos (nu / 4) (show (0 : Int) < 13 by decide)
        omega
      refine ⟨_, rfl, _, _, rfl, rfl, (show (0 : Int) < 4 by decide), rfl, _, rfl, iteEq (fun _ => ?_) (fun _ => ?_)⟩
      · refine ⟨_, rfl, _, rfl, _, _, rfl, rfl, ⟨by decide, by decide⟩, _, _, rfl, rfl, (show (0 : Int) < 13 by decide), _, _, rfl, rfl, by show 3 ≤ sizeLine; decide, fun pf npf => ?_⟩
        have s2 := sm_new (o := .lst [V.int (nu / 4 % 13 - 6), V.int 0, V.int 1]) npf
        refine ⟨q1, pf, zs, [nu / 4 % 13 - 6, 0, 1], 20, rfl, s2.seq (SqL.of hz), SqL.of (show _ = some (.lst (([nu / 4 % 13 - 6, 0, 1] : List Int).map V.int)) from upd_same), bz, ?_, by omega, by show 3 ≤ 400; decide, by decide, fun p3 H3 ws s3 np3 hp3 im l => ?_⟩
        · refine ⟨fun x hx => ?_⟩
          simp only [List.mem_cons, List.not_mem_nil, or_false] at hx
          rcases hx with rfl | rfl | rfl
          · exact Nat.lt_of_le_of_lt cb (by decide)
          · decide
          · decide
        exact ⟨p3, ws, _, _, rfl, sm.trans (s2.trans s3), hp3, R.step im l (by show 3 ≤ 3; decide) (fac_quad cb).1 (by decide) (fac_quad cb).2⟩
      · refine ⟨_, rfl, _, rfl, _, _, rfl, rfl, ⟨by decide, by decide⟩, _, _, rfl, rfl, (show (0 : Int) < 13 by decide), _, _, rfl, rfl, by show 2 ≤ sizeLine; decide, fun pf npf => ?_⟩
        have s2 := sm_new (o := .lst [V.int (nu / 4 % 13 - 6), V.int 1]) npf
        refine ⟨q1, pf, zs, [nu / 4 % 13 - 6, 1], 20, rfl, s2.seq (SqL.of hz), SqL.of (show _ = some (.lst (([nu / 4 % 13 - 6, 1] : List Int).map V.int)) from upd_same), bz, ?_, by omega, by show 2 ≤ 400; decide, by decide, fun p3 H3 ws s3 np3 hp3 im l => ?_⟩
        · refine ⟨fun x hx => ?_⟩
          simp only [List.mem_cons, List.not_mem_nil, or_false] at hx
          rcases hx with rfl | rfl
          · exact Nat.lt_of_le_of_lt cb (by decide)
          · decide
        exact ⟨p3, ws, _, _, rfl, sm.trans (s2.trans s3), hp3, R.step im l (by show 2 ≤ 3; decide) (fac_lin cb).1 (by decide) (fac_lin cb).2⟩
    obtain ⟨q1, zs, y4, y5, rfl, sm, hz, R⟩ := hI
    have hA3 := sm.seq hA2
    refine ⟨_, rfl, _, rfl, _, _, rfl, rfl, _, _, _, _, rfl, rfl, hA3, at_of (j := 5) (by omega) (g 5 (by decide)), _, _, rfl, rfl, ⟨by decide, by decide⟩, _, _, rfl, rfl, (show (0 : Int) < 3 by decide), _, rfl, by omega, by omega, for_range (lo := 0) (n := (ms.getD 5 0 / 3 % 3).toNat) (fun i σ2 H2 => ∃ (q2 : Addr) (ws : List Int) (y4 y5 : Option V), σ2 = [some (.ref a), some (.int 4), some (.ref q1), some (.ref q2), y4, y5] ∧ Same H' H2 ∧ H2 q2 = some (.lst (ws.map V.int)) ∧ RtL ws i 3) ⟨p2, [ms.getD 4 0 / 8 % 3 + 1], _, _, rfl, fun _ _ e => e, sm _ _ hc2, RtL.start (by omega) (by omega)⟩ (fun i σ2 H2 hi hI => ?_) (fun σ2 H2 hI => ?_)⟩
    · obtain ⟨q2, zs, y4, y5, rfl, sm, hz, R⟩ := hI
      have Rl := R.len
      have R3 := R.b
      have i1 : i ≤ 1 := by omega
      have bz : Bits 20 zs := bits_of_at fun k => Nat.lt_of_le_of_lt (R3 k) (by rcases (by omega : i = 0 ∨ i = 1) with e | e <;> rw [e] <;> decide)
      refine ⟨_, rfl, _, rfl, _, _, rfl, rfl, _, rfl, _, _, rfl, rfl, _, _, _, _, rfl, rfl, sm.seq hA3, at_of (j := 8 + i) (by omega) (g (8 + i) (by omega)), _, rfl, fun nu enu => ?_⟩
      clear enu
      have cb : (nu / 4 % 13 - 6).natAbs ≤ 6 := by
        have h1 := Int.emod_nonneg (nu / 4) (show (13 : Int) ≠ 0 by decide)
        have h2 := Int.emod_lt_of_pos (nu / 4) (show (0 : Int) < 13 by decide)
        omega
      refine ⟨_, rfl, _, _, rfl, rfl, (show (0 : Int) < 4 by decide), rfl, _, rfl, iteEq (fun _ => ?_) (fun _ => ?_)⟩
      · refine ⟨_, rfl, _, rfl, _, _, rfl, rfl, ⟨by decide, by decide⟩, _, _, rfl, rfl, (show (0 : Int) < 13 by decide), _, _, rfl, rfl, by show 3 ≤ sizeLine; decide, fun pf npf => ?_⟩
        have s2 := sm_new (o := .lst [V.int (nu / 4 % 13 - 6), V.int 0, V.int 1]) npf
        refine ⟨q2, pf, zs, [nu / 4 % 13 - 6, 0, 1], 20, rfl, s2.seq (SqL.of hz), SqL.of (show _ = some (.lst (([nu / 4 % 13 - 6, 0, 1] : List Int).map V.int)) from upd_same), bz, ?_, by omega, by show 3 ≤ 400; decide, by decide, fun p3 H3 ws s3 np3 hp3 im l => ?_⟩
        · refine ⟨fun x hx => ?_⟩
          simp only [List.mem_cons, List.not_mem_nil, or_false] at hx
          rcases hx with rfl | rfl | rfl
          · exact Nat.lt_of_le_of_lt cb (by decide)
          · decide
          · decide
        exact ⟨p3, ws, _, _, rfl, sm.trans (s2.trans s3), hp3, R.step im l (by show 3 ≤ 3; decide) (fac_quad cb).1 (by decide) (fac_quad cb).2⟩
      · refine ⟨_, rfl, _, rfl, _, _, rfl, rfl, ⟨by decide, by decide⟩, _, _, rfl, rfl, (show (0 : Int) < 13 by decide), _, _, rfl, rfl, by show 2 ≤ sizeLine; decide, fun pf npf => ?_⟩
        have s2 := sm_new (o := .lst [V.int (nu / 4 % 13 - 6), V.int 1]) npf
        refine ⟨q2, pf, zs, [nu / 4 % 13 - 6, 1], 20, rfl, s2.seq (SqL.of hz), SqL.of (show _ = some (.lst (([nu / 4 % 13 - 6, 1] : List Int).map V.int)) from upd_same), bz, ?_, by omega, by show 2 ≤ 400; decide, by decide, fun p3 H3 ws s3 np3 hp3 im l => ?_⟩
        · refine ⟨fun x hx => ?_⟩
          simp only [List.mem_cons, List.not_mem_nil, or_false] at hx
          rcases hx with rfl | rfl
          · exact Nat.lt_of_le_of_lt cb (by decide)
          · decide
        exact ⟨p3, ws, _, _, rfl, sm.trans (s2.trans s3), hp3, R.step im l (by show 2 ≤ 3; decide) (fac_lin cb).1 (by decide) (fac_lin cb).2⟩
    obtain ⟨q2, ws, y4, y5, rfl, sn, hw, S⟩ := hI
    refine ⟨_, rfl, q1, zs, rfl, SqL.of (sn _ _ hz), fun p3 H3 n3 s3 np3 hp3 t3 => ?_⟩
    refine ⟨_, rfl, q2, ws, rfl, s3.seq (SqL.of hw), fun p4 H4 n4 s4 np4 hp4 t4 => ?_⟩
    refine ⟨by show 2 ≤ sizeLine; decide, fun r nr => ?_⟩
    have s5 := sm_new (o := .lst [V.ref p3, V.ref p4]) nr
    have sAll := (((sA.trans s2).trans sm).trans sn).trans ((s3.trans s4).trans s5)
    have hp3' := s4 _ _ hp3
    exact q r p3 p4 (zs.take n3) (ws.take n4) _ sAll ((((sA.trans s2).trans sm).trans sn).trans (s3.trans s4) |>.free nr) upd_same (s5 _ _ hp3') (s5 _ _ hp4) (fun z => by rw [z, nr] at hp3'; cases hp3') (fun z => by rw [z, nr] at hp4; cases hp4) (fun z => by rw [← z, hp3] at np4; cases np4) (R.trim (by omega) t3) (S.trim (by omega) t4)

theorem ok__law_minus (T : Tx K mg) (O__law_trimmed : OkF P w K mg base 1 (He.fAd K ("_law_trimmed", none)) ["coefs"] (spLTr K)) : OkF P w K mg base 2 (He.fAd K ("_law_minus", none)) ["a", "b"] (spLMi K) := by
  obtain ⟨_, G__law_trimmed, b__law_trimmed, k__law_trimmed⟩ := O__law_trimmed
  refine okF_of (d := d__law_minus) T.d__law_minus rfl sc__law_minus (fun _ _ _ _ _ _ us hl => match us, hl with | [_, _], _ => rfl) (fun vs H Q E h => ?_) (fun cdv A outer s H vs Q E hr h => ?_)
  · first | (obtain ⟨_, rfl, _⟩ := h; rfl) | (obtain ⟨_, _, rfl, _⟩ := h; rfl) | (obtain ⟨_, _, _, rfl, _⟩ := h; rfl) | (obtain ⟨_, _, _, _, rfl, _⟩ := h; rfl) | (obtain ⟨_, _, _, _, _, rfl, _⟩ := h; rfl) | (obtain ⟨_, _, _, _, _, _, rfl, _⟩ := h; rfl) | (obtain ⟨_, _, _, _, _, _, _, rfl, _⟩ := h; rfl) | (obtain ⟨_, _, _, _, _, _, _, _, rfl, _⟩ := h; rfl) | (obtain ⟨_, _, _, _, _, _, _, _, _, rfl, _⟩ := h; rfl) | (obtain ⟨_, _, _, _, _, _, _, _, _, _, rfl, _⟩ := h; rfl)
  · obtain ⟨a, b, xs, ys, rfl, hA, hB, l1, l2, q⟩ := h
    refine ⟨_, (pss_cons (ps_setLc (i := 2) (own := [("k", 3)]) (g := gName 3) rfl sc__law_minus.nd rfl rfl (sw_true rfl rfl rfl (by decide +kernel)) (pi_range1 rfl T.z_range (pa_cons (pe_callB (call_max2 rfl) (by rfl) T.z_max (by decide +kernel) (pa_cons (pe_callB call_len_seq (by rfl) T.z_len PySem.boot_len (pa_cons (pv 0) pa_nil)) (pa_cons (pe_callB call_len_seq (by rfl) T.z_len PySem.boot_len (pa_cons (pv 1) pa_nil)) pa_nil))) pa_nil)) (blkOk_by (own := [("k", 3)]) (N := N__law_minus) (sc := defScope s__law_minus) (by decide +kernel)) (fun _ _ _ _ _ => (pg_name (i := 3) sc__law_minus.nd rfl (Or.inl rfl))) (fun _ _ _ _ _ => pts_nil) (fun _ _ _ _ _ => pe_int))
      (pss_cons (ps_for PassesOwn.leaving rfl (pi_range1 rfl T.z_range (pa_cons (pe_callB call_len_seq (by rfl) T.z_len PySem.boot_len (pa_cons (pv 0) pa_nil)) pa_nil)) (pg_name (i := 3) sc__law_minus.nd rfl (Or.inl rfl)) (pss_one (ps_asg (pe_op op_add (pe_ix ix_list (pv 2) (pv 3) (fun _ _ => rfl)) (pe_ix ix_list (pv 0) (pv 3) (fun _ _ => rfl))) (pg_sub (pv 2) (pv 3) set_list))))
      (pss_cons (ps_for PassesOwn.leaving rfl (pi_range1 rfl T.z_range (pa_cons (pe_callB call_len_seq (by rfl) T.z_len PySem.boot_len (pa_cons (pv 1) pa_nil)) pa_nil)) (pg_name (i := 3) sc__law_minus.nd rfl (Or.inl rfl)) (pss_one (ps_asg (pe_op op_sub (pe_ix ix_list (pv 2) (pv 3) (fun _ _ => rfl)) (pe_ix ix_list (pv 1) (pv 3) (fun _ _ => rfl))) (pg_sub (pv 2) (pv 3) set_list))))
      (pss_one (ps_ret (pe_call G__law_trimmed (hr.mono (by decide)) (by rfl) T.g__law_trimmed k__law_trimmed b__law_trimmed .nil passL (pa_cons (pv 2) pa_nil))))))), ?_⟩
    obtain ⟨N, hN, eN⟩ : ∃ N : Nat, N = max xs.length ys.length ∧ (if ((xs.map V.int).length : Int) < ((ys.map V.int).length : Int) then ((ys.map V.int).length : Int) else ((xs.map V.int).length : Int)) = (N : Int) := ⟨_, rfl, by rw [len_map, len_map]; split <;> omega⟩
    refine ⟨_, rfl, _, _, rfl, .inl hA, _, rfl, _, _, rfl, .inl hB, _, _, rfl, _, rfl, by rw [eN]; omega, by rw [eN]; omega, fun D nD => ?_⟩
    rw [eN]
    refine lc_range (lo := 0) (n := N) (fun i H' => Same H H' ∧ H' D = some (.lst ((List.replicate i (0 : Int)).map V.int))) ⟨sm_new nD, upd_same⟩ (fun i H' hi hP => ?_) (fun H1 hP => ?_)
    · obtain ⟨sm, hD⟩ := hP
      refine ⟨rfl, ?_⟩
      unfold tYes
      refine iteK rfl ?_
      refine ⟨_, hD, by rw [len_map, List.length_replicate]; exact small1000 (by omega), same_mut sm nD, ?_⟩
      rw [upd_same, List.replicate_succ', List.map_append]
      rfl
    obtain ⟨s1, hD⟩ := hP
    refine ⟨_, rfl, _, _, rfl, .inl (s1.seq hA), _, rfl, by rw [len_map]; omega, by rw [len_map]; omega, for_range (lo := 0) (n := ((xs.map V.int).length : Int).toNat) (fun i σ' H' => ∃ (fs : List Int) (yi : Option V), σ' = [some (.ref a), some (.ref b), some (.ref D), yi] ∧ Same H H' ∧ H' D = some (.lst (fs.map V.int)) ∧ MiA fs xs ys N i 0)
      ⟨_, none, rfl, s1, hD, ⟨List.length_replicate, fun i => by
        have z : (List.replicate N (0 : Int)).getD i 0 = 0 := by rw [List.getD_eq_getElem?_getD, List.getElem?_replicate]; split <;> rfl
        rw [z]
        simp⟩⟩ (fun i σ' H' hi hI => ?_) (fun σ' H' hI => ?_)⟩
    · obtain ⟨fs, yk, rfl, sm, hf, m⟩ := hI
      rw [len_map] at hi
      have il : i < xs.length := by omega
      have fl : i < fs.length := by rw [m.len]; omega
      refine ⟨_, rfl, _, rfl, _, _, _, _, rfl, rfl, SqL.of hf, at_of (j := i) (by omega) (map_at (get_of_lt fl)), _, rfl, _, rfl, _, _, _, _, rfl, rfl, sm.seq hA, at_of (j := i) (by omega) (map_at (get_of_lt il)), _, _, rfl, rfl, _, rfl, _, rfl, D, _, _, i, rfl, rfl, hf, ixN_at (by omega) (by rw [len_map]; exact fl), ?_⟩
      exact ⟨_, _, rfl, same_mut sm nD, by rw [upd_same, map_set_V], m.one (by omega)⟩
    obtain ⟨fs, yk, rfl, sm, hf, m⟩ := hI
    rw [len_map] at m
    replace m : MiA fs xs ys N xs.length 0 := m
    refine ⟨_, rfl, _, _, rfl, .inl (sm.seq hB), _, rfl, by rw [len_map]; omega, by rw [len_map]; omega, for_range (lo := 0) (n := ((ys.map V.int).length : Int).toNat) (fun i σ' H' => ∃ (fs : List Int) (yj : Option V), σ' = [some (.ref a), some (.ref b), some (.ref D), yj] ∧ Same H H' ∧ H' D = some (.lst (fs.map V.int)) ∧ MiA fs xs ys N xs.length i)
      ⟨_, _, rfl, sm, hf, m⟩ (fun i σ' H' hi hI => ?_) (fun σ' H' hI => ?_)⟩
    · obtain ⟨fs, yj, rfl, sm, hf, m⟩ := hI
      rw [len_map] at hi
      have il : i < ys.length := by omega
      have fl : i < fs.length := by rw [m.len]; omega
      refine ⟨_, rfl, _, rfl, _, _, _, _, rfl, rfl, SqL.of hf, at_of (j := i) (by omega) (map_at (get_of_lt fl)), _, rfl, _, rfl, _, _, _, _, rfl, rfl, sm.seq hB, at_of (j := i) (by omega) (map_at (get_of_lt il)), _, _, rfl, rfl, _, rfl, _, rfl, D, _, _, i, rfl, rfl, hf, ixN_at (by omega) (by rw [len_map]; exact fl), ?_⟩
      exact ⟨_, _, rfl, same_mut sm nD, by rw [upd_same, map_set_V], m.two (by omega)⟩
    · obtain ⟨fs, yj, rfl, sm, hf, m⟩ := hI
      rw [len_map] at m
      replace m : MiA fs xs ys N xs.length ys.length := m
      refine ⟨_, rfl, D, fs, rfl, SqL.of hf, fun p H2 n sm2 np hp t => ?_⟩
      refine q p H2 (fs.take n) (sm.trans sm2) (sm.free np) hp (t.tf.congr fun i => ?_) (by have := m.len; have := t.le; rw [List.length_take]; omega)
      show fs.getD i 0 = _
      rw [m.at_]
      have e1 : (if i < xs.length then xs.getD i 0 else 0) = xs.getD i 0 := by
        split
        · rfl
        · rw [getD_end (by omega)]
      have e2 : (if i < ys.length then ys.getD i 0 else 0) = ys.getD i 0 := by
        split
        · rfl
        · rw [getD_end (by omega)]
      rw [e1, e2]

theorem ok__law_shifted (T : Tx K mg) (O__law_product : OkF P w K mg base 1 (He.fAd K ("_law_product", none)) ["a", "b"] (spLPr K)) : OkF P w K mg base 2 (He.fAd K ("_law_shifted", none)) ["coefs", "step"] (spLSh K) := by
  obtain ⟨_, G__law_product, b__law_product, k__law_product⟩ := O__law_product
  refine okF_of (d := d__law_shifted) T.d__law_shifted rfl sc__law_shifted (fun _ _ _ _ _ _ us hl => match us, hl with | [_, _], _ => rfl) (fun vs H Q E h => ?_) (fun cdv A outer s H vs Q E hr h => ?_)
  · first | (obtain ⟨_, rfl, _⟩ := h; rfl) | (obtain ⟨_, _, rfl, _⟩ := h; rfl) | (obtain ⟨_, _, _, rfl, _⟩ := h; rfl) | (obtain ⟨_, _, _, _, rfl, _⟩ := h; rfl) | (obtain ⟨_, _, _, _, _, rfl, _⟩ := h; rfl) | (obtain ⟨_, _, _, _, _, _, rfl, _⟩ := h; rfl) | (obtain ⟨_, _, _, _, _, _, _, rfl, _⟩ := h; rfl) | (obtain ⟨_, _, _, _, _, _, _, _, rfl, _⟩ := h; rfl) | (obtain ⟨_, _, _, _, _, _, _, _, _, rfl, _⟩ := h; rfl) | (obtain ⟨_, _, _, _, _, _, _, _, _, _, rfl, _⟩ := h; rfl)
  · obtain ⟨a, cs, s, kb0, sb, rfl, hA, hb, hs, hl, hkb0, hsb, q⟩ := h
    refine ⟨_, (pss_cons (ps_setLc (i := 2) (own := [("k", 5)]) (g := gName 5) rfl sc__law_shifted.nd rfl rfl (sw_true rfl rfl rfl (by decide +kernel)) (pi_range1 rfl T.z_range (pa_cons (pe_callB call_len_seq (by rfl) T.z_len PySem.boot_len (pa_cons (pv 0) pa_nil)) pa_nil)) (blkOk_by (own := [("k", 5)]) (N := N__law_shifted) (sc := defScope s__law_shifted) (by decide +kernel)) (fun _ _ _ _ _ => (pg_name (i := 5) sc__law_shifted.nd rfl (Or.inl rfl))) (fun _ _ _ _ _ => pts_nil) (fun _ _ _ _ _ => pe_int))
      (pss_cons (ps_set (i := 3) sc__law_shifted.nd rfl (Or.inl rfl) (pe_lst (pa_cons pe_int pa_nil)))
      (pss_cons (ps_for PassesOwn.leaving rfl (pi_list (pv 0)) (pg_name (i := 4) sc__law_shifted.nd rfl (Or.inl rfl)) (pss_cons (ps_for PassesOwn.leaving rfl (pi_range1 rfl T.z_range (pa_cons (pe_callB (call_min2 rfl) (by rfl) T.z_min (by decide +kernel) (pa_cons (pe_callB call_len_seq (by rfl) T.z_len PySem.boot_len (pa_cons (pv 3) pa_nil)) (pa_cons (pe_callB call_len_seq (by rfl) T.z_len PySem.boot_len (pa_cons (pv 2) pa_nil)) pa_nil))) pa_nil)) (pg_name (i := 5) sc__law_shifted.nd rfl (Or.inl rfl)) (pss_one (ps_asg (pe_op op_add (pe_ix ix_list (pv 2) (pv 5) (fun _ _ => rfl)) (pe_op op_mulW (pv 4) (pe_ix ix_list (pv 3) (pv 5) (fun _ _ => rfl)))) (pg_sub (pv 2) (pv 5) set_list))))
      (pss_one (ps_set (i := 3) sc__law_shifted.nd rfl (Or.inl rfl) (pe_call G__law_product (hr.mono (by decide)) (by rfl) T.g__law_product k__law_product b__law_product .nil passL (pa_cons (pv 3) (pa_cons (pe_lst (pa_cons (pv 1) (pa_cons pe_int pa_nil))) pa_nil)))))))
      (pss_one (ps_ret (pv 2)))))), ?_⟩
    refine ⟨_, rfl, _, _, rfl, .inl hA, _, rfl, by rw [len_map]; omega, by rw [len_map]; omega, fun D nD => lc_range (lo := 0) (n := ((cs.map V.int).length : Int).toNat) (fun i H' => Same H H' ∧ H' D = some (.lst ((List.replicate i (0 : Int)).map V.int))) ⟨sm_new nD, upd_same⟩ (fun i H' hi hP => ?_) (fun H1 hP => ?_)⟩
    · obtain ⟨sm, hD⟩ := hP
      refine ⟨rfl, ?_⟩
      unfold tYes
      refine iteK rfl ?_
      rw [len_map] at hi
      refine ⟨_, hD, by rw [len_map, List.length_replicate]; exact small1000 (by omega), same_mut sm nD, ?_⟩
      rw [upd_same, List.replicate_succ', List.map_append]
      rfl
    obtain ⟨s1, hD⟩ := hP
    rw [len_map, show (cs.length : Int).toNat = cs.length by omega] at hD
    refine ⟨by show 1 ≤ sizeLine; decide, fun pp npp => ?_⟩
    have s2 := s1.trans (sm_new (o := .lst [V.int 1]) npp)
    have Dp : D ≠ pp := ne_of_none hD npp
    have hD2 : (upd H1 pp (.lst [V.int 1])) D = some (.lst ((List.replicate cs.length (0 : Int)).map V.int)) := by rw [upd_ne Dp]; exact hD
    have hp2 : (upd H1 pp (.lst [V.int 1])) pp = some (.lst (([1] : List Int).map V.int)) := upd_same
    generalize upd H1 pp (.lst [V.int 1]) = H2 at s2 hD2 hp2 ⊢
    refine ⟨_, rfl, _, rfl, ⟨_, s2.seq hA⟩, for_list (K := K) (a := a) (xs := cs.map V.int) (fun i σ' H' => ∃ (rs ps : List Int) (pp : Addr) (yn yk : Option V), σ' = [some (.ref a), some (.int s), some (.ref D), some (.ref pp), yn, yk] ∧ Same H H' ∧ H' D = some (.lst (rs.map V.int)) ∧ D ≠ pp ∧ H' pp = some (.lst (ps.map V.int)) ∧ rs.length = cs.length ∧ (∀ k, rs.getD k 0 = shV s (fun i => cs.getD i 0) i k) ∧ (∀ k, ps.getD k 0 = pw s i k) ∧ ps.length = 1 + 2 * i ∧ Bits ((sb + 52) * i + sb + 8) ps)
      ⟨_, [1], pp, none, none, rfl, s2, hD2, Dp, hp2, List.length_replicate, fun k => ?_, fun k => ?_, rfl, ⟨fun x hx => by rw [List.mem_singleton.mp hx]; exact Nat.lt_of_lt_of_le (show 1 < 2 ^ 1 by decide) (Nat.pow_le_pow_right (by decide) (by omega))⟩⟩ (fun i σ' H' hi hI => ?_) (fun i x σ' H' hi hI => ?_) (fun σ' H' hI => ?_)⟩
    · rw [List.getD_eq_getElem?_getD, List.getElem?_replicate]
      split <;> rfl
    · cases k with
      | zero => rfl
      | succ k => simp [pw]
    · obtain ⟨_, _, _, _, _, rfl, sm, _⟩ := hI
      exact sm.seq hA
    · obtain ⟨rs, ps, pp, yn, yk, rfl, sm, hr, Dp, hp, rl, ra, pa, pl, pb⟩ := hI
      obtain ⟨c, hc, rfl⟩ := get_map_int hi
      have il : i < cs.length := (List.getElem?_eq_some_iff.mp hc).1
      have ec := getD_of hc
      have cb := hb.all c (List.mem_of_getElem? hc)
      have hsi : (sb + 52) * i ≤ 1052 * 20 := Nat.mul_le_mul (by omega) (by omega)
      obtain ⟨m, hm⟩ : ∃ m : Nat, m = min ps.length rs.length := ⟨_, rfl⟩
      refine ⟨_, rfl, _, _, rfl, .inl (SqL.of hp), _, rfl, _, _, rfl, .inl (SqL.of hr), _, _, rfl, _, rfl, ?_, ?_, ?_⟩
      · rw [len_map, len_map]; split <;> omega
      · rw [len_map, len_map]; split <;> omega
      rw [len_map, len_map, show (if (rs.length : Int) < (ps.length : Int) then (rs.length : Int) else (ps.length : Int)).toNat = m by split <;> omega]
      refine for_range (lo := 0) (n := m) (fun t σ' H' => ∃ (rs : List Int) (yk : Option V), σ' = [some (.ref a), some (.int s), some (.ref D), some (.ref pp), some (.int c), yk] ∧ Same H H' ∧ H' D = some (.lst (rs.map V.int)) ∧ H' pp = some (.lst (ps.map V.int)) ∧ rs.length = cs.length ∧ ∀ k, rs.getD k 0 = shV s (fun i => cs.getD i 0) i k + if k < t then c * pw s i k else 0)
        ⟨rs, _, rfl, sm, hr, hp, rl, fun k => by rw [ra, if_neg (Nat.not_lt_zero _), Int.add_zero]⟩ (fun t σ' H' ht hI => ?_) (fun σ' H' hI => ?_)
      · obtain ⟨rs, yk, rfl, sm, hr, hp, rl2, ra⟩ := hI
        have tl : t < rs.length := by omega
        have tp : t < ps.length := by omega
        refine ⟨_, rfl, _, rfl, _, _, _, _, rfl, rfl, SqL.of hr, at_of (j := t) (by omega) (map_at (get_of_lt tl)), _, rfl, _, rfl, _, rfl, _, _, _, _, rfl, rfl, SqL.of hp, at_of (j := t) (by omega) (map_at (get_of_lt tp)), _, _, rfl, rfl, mulW cb (pb.getD t) (by omega), _, _, rfl, rfl, _, rfl, _, rfl, D, _, _, t, rfl, rfl, hr, ixN_at (by omega) (by rw [len_map]; exact tl), ?_⟩
        refine ⟨_, _, rfl, same_mut sm nD, by rw [upd_same, map_set_V], by rw [upd_ne Dp.symm]; exact hp, by rw [List.length_set]; exact rl2, fun k => ?_⟩
        rw [getD_set tl]
        by_cases c1 : k = t
        · subst c1
          rw [if_pos rfl, ra, if_neg (Nat.lt_irrefl _), if_pos (Nat.lt_succ_self _), pa]
          omega
        · rw [if_neg c1, ra]
          congr 1
          by_cases c2 : k < t
          · rw [if_pos c2, if_pos (by omega)]
          · rw [if_neg c2, if_neg (by omega)]
      obtain ⟨rs2, yk, rfl, sm, hr, hp, rl2, ra2⟩ := hI
      refine ⟨_, rfl, _, rfl, by show 2 ≤ sizeLine; decide, fun p2 np2 => ?_⟩
      have s3 := sm.trans (sm_new (o := .lst [V.int s, V.int 1]) np2)
      have D2 : D ≠ p2 := ne_of_none hr np2
      have P2 : pp ≠ p2 := ne_of_none hp np2
      have hr2 : (upd H' p2 (.lst [V.int s, V.int 1])) D = some (.lst (rs2.map V.int)) := by rw [upd_ne D2]; exact hr
      have hp2 : (upd H' p2 (.lst [V.int s, V.int 1])) pp = some (.lst (ps.map V.int)) := by rw [upd_ne P2]; exact hp
      have h2 : (upd H' p2 (.lst [V.int s, V.int 1])) p2 = some (.lst (([s, 1] : List Int).map V.int)) := upd_same
      generalize upd H' p2 (.lst [V.int s, V.int 1]) = H3 at s3 hr2 hp2 h2 ⊢
      have b2 : Bits (sb + 1) [s, 1] := bits_two (abs_mono hs (by omega)) (Nat.lt_of_lt_of_le (show 1 < 2 ^ 1 by decide) (Nat.pow_le_pow_right (by decide) (by omega)))
      refine ⟨_, _, ps, [s, 1], (sb + 52) * i + sb + 8, rfl, SqL.of hp2, SqL.of h2, pb, b2.mono (by omega), by omega, by show 2 ≤ 400; decide, by omega, fun p3 H4 qs sm4 np4 hp4 im ql => ?_⟩
      have D3 : D ≠ p3 := ne_of_none hr2 np4
      refine ⟨rs2, qs, p3, _, _, rfl, s3.trans sm4, sm4 _ _ hr2, D3, hp4, rl2, fun k => ?_, fun k => pw_next pa im k, by rw [ql, pl]; show 1 + 2 * i + 2 = _; omega, (mul_bits2 pb b2 im).mono (by rw [pl, Nat.mul_add (sb + 52), Nat.mul_one]; omega)⟩
      rw [ra2]
      show _ = sumTo _ i + (fun i => cs.getD i 0 * pw s i k) i
      rw [show (fun i => cs.getD i 0 * pw s i k) i = cs.getD i 0 * pw s i k from rfl, ec]
      show sumTo _ i + _ = _
      congr 1
      by_cases c1 : k < m
      · rw [if_pos c1]
      · rw [if_neg c1]
        by_cases c2 : k < ps.length
        · rw [pw_high s i k (by omega), Int.mul_zero]
        · rw [← pa, getD_end (by omega), Int.mul_zero]
    · obtain ⟨rs, ps, pp, yn, yk, rfl, sm, hr, Dp, hp, rl, ra, pa, pl, pb⟩ := hI
      rw [len_map] at ra
      exact ⟨_, rfl, q D H' rs sm nD hr ra rl⟩

theorem ok_trimmed (T : Tx K mg) : OkF P w K mg base 1 (He.fAd K ("trimmed", none)) ["coefs"] (spTrim K) := by
  refine okF_of (d := d_trimmed) T.d_trimmed rfl sc_trimmed (fun _ _ _ _ _ _ us hl => match us, hl with | [_], _ => rfl) (fun vs H Q E h => ?_) (fun cdv A outer s H vs Q E hr h => ?_)
  · first | (obtain ⟨_, rfl, _⟩ := h; rfl) | (obtain ⟨_, _, rfl, _⟩ := h; rfl) | (obtain ⟨_, _, _, rfl, _⟩ := h; rfl) | (obtain ⟨_, _, _, _, rfl, _⟩ := h; rfl) | (obtain ⟨_, _, _, _, _, rfl, _⟩ := h; rfl) | (obtain ⟨_, _, _, _, _, _, rfl, _⟩ := h; rfl) | (obtain ⟨_, _, _, _, _, _, _, rfl, _⟩ := h; rfl) | (obtain ⟨_, _, _, _, _, _, _, _, rfl, _⟩ := h; rfl) | (obtain ⟨_, _, _, _, _, _, _, _, _, rfl, _⟩ := h; rfl) | (obtain ⟨_, _, _, _, _, _, _, _, _, _, rfl, _⟩ := h; rfl)
  · obtain ⟨a, xs, rfl, hS, q⟩ := h
    rcases hS with hS | hS
    · refine ⟨_, (pss_cons (ps_setI (i := 1) sc_trimmed.nd rfl (Or.inl rfl) (pe_callB call_len_seq (by rfl) T.z_len PySem.boot_len (pa_cons (pv 0) pa_nil)))
      (pss_cons (ps_while PassesOwn.leaving (PW.pt (pw_and (pt_cmpR op_gt (pv 1) pe_int (nomark _)) (pw_and1 (pt_cmpR op_eq (pe_ix ix_list (pv 0) (pe_op op_sub (pv 1) pe_int) (fun _ _ => rfl)) pe_int (nomark _))))) (pss_one (ps_setI (i := 1) sc_trimmed.nd rfl (Or.inl rfl) (pe_op op_sub (pv 1) pe_int))))
      (pss_one (ps_ret (pe_callTy call_list_of (by rfl) T.z_list (by decide +kernel) (pa_cons (pe_slice sl_list (pv 0) po_none (po_some (pv 1))) pa_nil)))))), ?_⟩
      refine ⟨_, rfl, _, _, rfl, .inl hS, _, rfl, fun l0 el => ?_⟩
      rw [len_map] at el
      refine ⟨fun m σ' H' => H = H' ∧ ∃ n : Nat, σ' = [some (.ref a), some (.int (n : Int))] ∧ m = n ∧ n ≤ xs.length ∧ ∀ k, n ≤ k → xs.getD k 0 = 0, ⟨_, rfl, xs.length, by rw [el]; rfl, rfl, Nat.le_refl _, fun k hk => getD_end hk⟩, ?_⟩
      rintro m _ _ ⟨rfl, n, rfl, rfl, hn, hz⟩
      have fin : (m = 0 ∨ xs.getD (m - 1) 0 ≠ 0) → Trim xs m := fun h => ⟨hn, hz, h⟩
      refine ⟨_, rfl, _, _, rfl, rfl, _, rfl, iteD (fun h1 => ?_) (fun h1 => ?_)⟩
      · have hm : m - 1 < xs.length := by omega
        refine ⟨_, rfl, _, rfl, _, _, rfl, rfl, _, _, _, _, rfl, rfl, hS, at_of (j := m - 1) (by omega) (map_at (get_of_lt hm)), rfl, _, rfl, iteEq (fun h2 => ?_) (fun h2 => ?_)⟩
        · refine ⟨fun σ2 H2 => ∃ m', m' < m ∧ H = H2 ∧ ∃ n : Nat, σ2 = [some (.ref a), some (.int (n : Int))] ∧ m' = n ∧ n ≤ xs.length ∧ ∀ k, n ≤ k → xs.getD k 0 = 0, fun _ _ h => h, ?_⟩
          refine ⟨_, rfl, _, _, rfl, rfl, _, rfl, fun l1 e1 => ?_⟩
          refine ⟨m - 1, by omega, rfl, m - 1, by rw [e1, show (m : Int) - 1 = ((m - 1 : Nat) : Int) by omega]; rfl, rfl, by omega, fun k hk => ?_⟩
          by_cases c : k = m - 1
          · rw [c]; exact h2
          · exact hz k (by omega)
        · have t := fin (.inr h2)
          refine ⟨_, rfl, _, rfl, _, rfl, _, _, rfl, hS, fun p np => ?_⟩
          rw [cut_lo (by rw [len_map]; exact hn), ← List.map_take]
          exact ⟨_, _, rfl, .inl (SqL.of upd_same), fun l nl => q l _ m ((sm_new np).trans (sm_new nl)) ((sm_new np).free nl) upd_same t⟩
      · have t := fin (.inl (by omega))
        refine ⟨_, rfl, _, rfl, _, rfl, _, _, rfl, hS, fun p np => ?_⟩
        rw [cut_lo (by rw [len_map]; exact hn), ← List.map_take]
        exact ⟨_, _, rfl, .inl (SqL.of upd_same), fun l nl => q l _ m ((sm_new np).trans (sm_new nl)) ((sm_new np).free nl) upd_same t⟩
    · refine ⟨_, (pss_cons (ps_setI (i := 1) sc_trimmed.nd rfl (Or.inl rfl) (pe_callB call_len_seq (by rfl) T.z_len PySem.boot_len (pa_cons (pv 0) pa_nil)))
      (pss_cons (ps_while PassesOwn.leaving (PW.pt (pw_and (pt_cmpR op_gt (pv 1) pe_int (nomark _)) (pw_and1 (pt_cmpR op_eq (pe_ix ix_tup (pv 0) (pe_op op_sub (pv 1) pe_int) (fun _ _ => rfl)) pe_int (nomark _))))) (pss_one (ps_setI (i := 1) sc_trimmed.nd rfl (Or.inl rfl) (pe_op op_sub (pv 1) pe_int))))
      (pss_one (ps_ret (pe_callTy call_list_of (by rfl) T.z_list (by decide +kernel) (pa_cons (pe_slice sl_tupA (pv 0) po_none (po_some (pv 1))) pa_nil)))))), ?_⟩
      refine ⟨_, rfl, _, _, rfl, .inr hS, _, rfl, fun l0 el => ?_⟩
      rw [len_map] at el
      refine ⟨fun m σ' H' => H = H' ∧ ∃ n : Nat, σ' = [some (.ref a), some (.int (n : Int))] ∧ m = n ∧ n ≤ xs.length ∧ ∀ k, n ≤ k → xs.getD k 0 = 0, ⟨_, rfl, xs.length, by rw [el]; rfl, rfl, Nat.le_refl _, fun k hk => getD_end hk⟩, ?_⟩
      rintro m _ _ ⟨rfl, n, rfl, rfl, hn, hz⟩
      have fin : (m = 0 ∨ xs.getD (m - 1) 0 ≠ 0) → Trim xs m := fun h => ⟨hn, hz, h⟩
      refine ⟨_, rfl, _, _, rfl, rfl, _, rfl, iteD (fun h1 => ?_) (fun h1 => ?_)⟩
      · have hm : m - 1 < xs.length := by omega
        refine ⟨_, rfl, _, rfl, _, _, rfl, rfl, _, _, _, _, rfl, rfl, hS, at_of (j := m - 1) (by omega) (map_at (get_of_lt hm)), rfl, _, rfl, iteEq (fun h2 => ?_) (fun h2 => ?_)⟩
        · refine ⟨fun σ2 H2 => ∃ m', m' < m ∧ H = H2 ∧ ∃ n : Nat, σ2 = [some (.ref a), some (.int (n : Int))] ∧ m' = n ∧ n ≤ xs.length ∧ ∀ k, n ≤ k → xs.getD k 0 = 0, fun _ _ h => h, ?_⟩
          refine ⟨_, rfl, _, _, rfl, rfl, _, rfl, fun l1 e1 => ?_⟩
          refine ⟨m - 1, by omega, rfl, m - 1, by rw [e1, show (m : Int) - 1 = ((m - 1 : Nat) : Int) by omega]; rfl, rfl, by omega, fun k hk => ?_⟩
          by_cases c : k = m - 1
          · rw [c]; exact h2
          · exact hz k (by omega)
        · have t := fin (.inr h2)
          refine ⟨_, rfl, _, rfl, _, rfl, _, _, rfl, hS, fun w => ?_, fun w p np => ?_⟩
          · have e : xs.take m = xs := by
              have z := w.2
              rw [HT.sIx_nat, len_map] at z
              exact List.take_of_length_le (by omega)
            exact ⟨_, _, rfl, .inr hS, fun l nl => q l _ m (sm_new nl) nl (by rw [e]; exact upd_same) t⟩
          · rw [cut_lo (by rw [len_map]; exact hn), ← List.map_take]
            exact ⟨_, _, rfl, .inr (SqT.of upd_same), fun l nl => q l _ m ((sm_new np).trans (sm_new nl)) ((sm_new np).free nl) upd_same t⟩
      · have t := fin (.inl (by omega))
        refine ⟨_, rfl, _, rfl, _, rfl, _, _, rfl, hS, fun w => ?_, fun w p np => ?_⟩
        · have e : xs.take m = xs := by
            have z := w.2
            rw [HT.sIx_nat, len_map] at z
            exact List.take_of_length_le (by omega)
          exact ⟨_, _, rfl, .inr hS, fun l nl => q l _ m (sm_new nl) nl (by rw [e]; exact upd_same) t⟩
        · rw [cut_lo (by rw [len_map]; exact hn), ← List.map_take]
          exact ⟨_, _, rfl, .inr (SqT.of upd_same), fun l nl => q l _ m ((sm_new np).trans (sm_new nl)) ((sm_new np).free nl) upd_same t⟩

theorem ok_common_factor (T : Tx K mg) : OkF P w K mg base 1 (He.fAd K ("common_factor", none)) ["numbers"] (spCom K) := by
  refine okF_of (d := d_common_factor) T.d_common_factor rfl sc_common_factor (fun _ _ _ _ _ _ us hl => match us, hl with | [_], _ => rfl) (fun vs H Q E h => ?_) (fun cdv A outer s H vs Q E hr h => ?_)
  · first | (obtain ⟨_, rfl, _⟩ := h; rfl) | (obtain ⟨_, _, rfl, _⟩ := h; rfl) | (obtain ⟨_, _, _, rfl, _⟩ := h; rfl) | (obtain ⟨_, _, _, _, rfl, _⟩ := h; rfl) | (obtain ⟨_, _, _, _, _, rfl, _⟩ := h; rfl) | (obtain ⟨_, _, _, _, _, _, rfl, _⟩ := h; rfl) | (obtain ⟨_, _, _, _, _, _, _, rfl, _⟩ := h; rfl) | (obtain ⟨_, _, _, _, _, _, _, _, rfl, _⟩ := h; rfl) | (obtain ⟨_, _, _, _, _, _, _, _, _, rfl, _⟩ := h; rfl) | (obtain ⟨_, _, _, _, _, _, _, _, _, _, rfl, _⟩ := h; rfl)
  · obtain ⟨a, xs, rfl, hS, q⟩ := h
    rcases hS with hS | hS
    · refine ⟨_, (pss_cons (ps_setI (i := 1) sc_common_factor.nd rfl (Or.inl rfl) pe_int)
      (pss_cons (ps_for PassesOwn.leaving rfl (pi_list (pv 0)) (pg_name (i := 2) sc_common_factor.nd rfl (Or.inl rfl)) (pss_cons (ps_setI (i := 1) sc_common_factor.nd rfl (Or.inl rfl) (pe_callBfun cr_gcd rfl T.g_gcd (pa_cons (pv 1) (pa_cons (pv 2) pa_nil))))
      (pss_one (ps_if (pt_cmpR op_eq (pv 1) pe_int (nomark _)) (pss_one (ps_ret pe_int)) pss_nil))))
      (pss_one (ps_ret (pv 1))))), ?_⟩
      refine ⟨_, rfl, fun f0 ef => ?_⟩
      refine ⟨_, rfl, _, rfl, ⟨_, hS⟩, for_list (K := K) (a := a) (xs := xs.map V.int) (fun i σ' H' => H = H' ∧ ∃ y : Option V, σ' = [some (.ref a), some (.int ((gcdL (xs.take i) : Nat) : Int)), y]) ⟨rfl, _, by rw [ef]; rfl⟩ (fun i σ' H' hi hI => ?_) (fun i x σ' H' hi hI => ?_) (fun σ' H' hI => ?_)⟩
      · obtain ⟨rfl, y, rfl⟩ := hI
        exact hS
      · obtain ⟨rfl, y, rfl⟩ := hI
        obtain ⟨n, hn, rfl⟩ : ∃ n, xs[i]? = some n ∧ x = V.int n := by
          rw [List.getElem?_map] at hi
          cases e : xs[i]? with
          | none => rw [e] at hi; cases hi
          | some n => rw [e] at hi; cases hi; exact ⟨n, rfl, rfl⟩
        refine ⟨_, rfl, _, rfl, _, _, rfl, _, rfl, fun f1 e1 => ?_⟩
        rw [Int.natAbs_natCast, ← gcdL_more hn] at e1
        refine ⟨_, rfl, rfl, _, rfl, iteEq (fun c => ?_) (fun c => ?_)⟩
        · have g1 : gcdL xs = 1 := gcdL_one (i := i + 1) (by omega)
          rw [g1] at q
          exact q
        · exact ⟨rfl, _, by rw [e1]; rfl⟩
      · obtain ⟨rfl, y, rfl⟩ := hI
        rw [len_map, List.take_length]
        exact ⟨_, rfl, q⟩
    · refine ⟨_, (pss_cons (ps_setI (i := 1) sc_common_factor.nd rfl (Or.inl rfl) pe_int)
      (pss_cons (ps_for PassesOwn.leaving rfl (pi_tup (pv 0)) (pg_name (i := 2) sc_common_factor.nd rfl (Or.inl rfl)) (pss_cons (ps_setI (i := 1) sc_common_factor.nd rfl (Or.inl rfl) (pe_callBfun cr_gcd rfl T.g_gcd (pa_cons (pv 1) (pa_cons (pv 2) pa_nil))))
      (pss_one (ps_if (pt_cmpR op_eq (pv 1) pe_int (nomark _)) (pss_one (ps_ret pe_int)) pss_nil))))
      (pss_one (ps_ret (pv 1))))), ?_⟩
      refine ⟨_, rfl, fun f0 ef => ?_⟩
      refine ⟨_, rfl, _, rfl, ⟨_, hS⟩, for_tup (K := K) (a := a) (xs := xs.map V.int) (fun i σ' H' => H = H' ∧ ∃ y : Option V, σ' = [some (.ref a), some (.int ((gcdL (xs.take i) : Nat) : Int)), y]) ⟨rfl, _, by rw [ef]; rfl⟩ (fun i σ' H' hi hI => ?_) (fun i x σ' H' hi hI => ?_) (fun σ' H' hI => ?_)⟩
      · obtain ⟨rfl, y, rfl⟩ := hI
        exact hS
      · obtain ⟨rfl, y, rfl⟩ := hI
        obtain ⟨n, hn, rfl⟩ : ∃ n, xs[i]? = some n ∧ x = V.int n := by
          rw [List.getElem?_map] at hi
          cases e : xs[i]? with
          | none => rw [e] at hi; cases hi
          | some n => rw [e] at hi; cases hi; exact ⟨n, rfl, rfl⟩
        refine ⟨_, rfl, _, rfl, _, _, rfl, _, rfl, fun f1 e1 => ?_⟩
        rw [Int.natAbs_natCast, ← gcdL_more hn] at e1
        refine ⟨_, rfl, rfl, _, rfl, iteEq (fun c => ?_) (fun c => ?_)⟩
        · have g1 : gcdL xs = 1 := gcdL_one (i := i + 1) (by omega)
          rw [g1] at q
          exact q
        · exact ⟨rfl, _, by rw [e1]; rfl⟩
      · obtain ⟨rfl, y, rfl⟩ := hI
        rw [len_map, List.take_length]
        exact ⟨_, rfl, q⟩

theorem ok_Poly___init__ (T : Tx K mg) (O_trimmed : OkF P w K mg base 1 (He.fAd K ("trimmed", none)) ["coefs"] (spTrim K)) (O_common_factor : OkF P w K mg base 1 (He.fAd K ("common_factor", none)) ["numbers"] (spCom K)) : OkD P w K mg base 2 (He.fAd K ("Poly", some "__init__")) ["self", "coefs", "den"] (He.Dv.v K (.int 1)) (spPInit K) := by
  obtain ⟨_, G_trimmed, b_trimmed, k_trimmed⟩ := O_trimmed
  obtain ⟨_, G_common_factor, b_common_factor, k_common_factor⟩ := O_common_factor
  refine okD_of (d := d_Poly___init__) (dv := .int 1) T.d_Poly___init__ rfl sc_Poly___init__ (fun _ _ _ _ _ _ _ us its h1 h2 => match us, its, h1, h2 with | [_, _, _], [_], _, _ => ⟨_, rfl, rfl⟩) (fun _ _ _ _ _ _ _ us its h1 h2 => match us, its, h1, h2 with | [_, _], [_], _, _ => ⟨_, rfl, rfl⟩) (by decide) (fun vs H Q E h => ?_) (fun cdv A outer s H vs Q E hr h => ?_)
  · first | (obtain ⟨_, rfl, _⟩ := h; rfl) | (obtain ⟨_, _, rfl, _⟩ := h; rfl) | (obtain ⟨_, _, _, rfl, _⟩ := h; rfl) | (obtain ⟨_, _, _, _, rfl, _⟩ := h; rfl) | (obtain ⟨_, _, _, _, _, rfl, _⟩ := h; rfl) | (obtain ⟨_, _, _, _, _, _, rfl, _⟩ := h; rfl) | (obtain ⟨_, _, _, _, _, _, _, rfl, _⟩ := h; rfl) | (obtain ⟨_, _, _, _, _, _, _, _, rfl, _⟩ := h; rfl) | (obtain ⟨_, _, _, _, _, _, _, _, _, rfl, _⟩ := h; rfl) | (obtain ⟨_, _, _, _, _, _, _, _, _, _, rfl, _⟩ := h; rfl)
  · obtain ⟨x, dx, a, cs, d, k, rfl, hx, hS, hlen, hb, hk, hE, q⟩ := h
    refine ⟨_, (pss_cons (ps_if (pt_cmpR op_eq (pv 2) pe_int (nomark _)) (pss_one (ps_raise rfl (takes_of rfl rfl rfl rfl) (pmk_own PySem.F.excBase_ValueError T.x_DivisionByZero T.g_DivisionByZero T.k_DivisionByZero (T.r_DivisionByZero rfl) rfl))) pss_nil)
      (pss_cons (ps_set (i := 3) sc_Poly___init__.nd rfl (Or.inl rfl) (pe_call G_trimmed (hr.mono (by decide)) (by rfl) T.g_trimmed k_trimmed b_trimmed .nil passL (pa_cons (pv 1) pa_nil)))
      (pss_cons (ps_setI (i := 4) sc_Poly___init__.nd rfl (Or.inr rfl) (pe_call G_common_factor (hr.mono (by decide)) (by rfl) T.g_common_factor k_common_factor b_common_factor .nil passL (pa_cons (pe_op op_cat (pe_lst (pa_cons (pv 2) pa_nil)) (pv 3)) pa_nil)))
      (Evl.pss_cut (ps_if (pt_cmpR op_lt (pv 2) pe_int (nomark _)) (pss_one (ps_setI (i := 4) sc_Poly___init__.nd rfl (Or.inr rfl) (pe_un un_neg (pv 4)))) pss_nil)
      (pss_cons (ps_fld (pv 0) (pe_callTy call_tuple_of (by rfl) T.z_tuple (by decide +kernel) (pa_cons (pe_lc (own := [("c", 5)]) (g := gName 5) rfl sc_Poly___init__.nd (pi_list (pv 3)) (blkOk_by (own := [("c", 5)]) (N := N_Poly___init__) (sc := defScope s_Poly___init__) (by decide +kernel)) (fun _ _ _ _ _ => (pg_name (i := 5) sc_Poly___init__.nd rfl (Or.inl rfl))) (fun _ _ _ _ _ => pts_nil) (fun _ _ _ _ _ => (pe_op op_fdivZ (pv 5) (pv 4)))) pa_nil)) rfl)
      (pss_one (ps_fld (pv 0) (pe_op op_fdivZ (pv 2) (pv 4)) rfl))))))), ?_⟩
    refine ⟨_, rfl, rfl, _, rfl, iteEq (fun c => ?_) (fun c => ?_)⟩
    · exact hE c
    refine ⟨_, rfl, a, cs, rfl, hS, fun p1 H1 n sm1 np1 hp1 tr => ?_⟩
    refine ⟨_, rfl, by show 1 ≤ sizeLine; decide, fun p2 np2 => ?_⟩
    have s2 := sm_new (o := .lst [.int d]) np2
    have lt : (cs.take n).length ≤ 900 := by rw [List.length_take]; omega
    refine ⟨_, rfl, _, _, _, _, rfl, rfl, upd_same, s2 _ _ hp1, (by show 1 + ((cs.take n).map V.int).length ≤ sizeLine; rw [len_map]; exact Nat.le_of_lt (small1000 (by omega))), fun p3 np3 => ?_⟩
    have s3 := sm_new (o := .lst ([.int d] ++ (cs.take n).map V.int)) np3
    refine ⟨_, d :: cs.take n, rfl, .inl (SqL.of upd_same), _, rfl, fun c0 ec => ?_⟩
    generalize hG : upd (upd H1 p2 (.lst [.int d])) p3 (.lst ([.int d] ++ (cs.take n).map V.int)) = G at s3
    have s4 : Same H1 G := s2.trans s3
    refine ⟨fun σ' H' => G = H' ∧ ∃ c : Int, σ' = [some (.ref x), some (.ref a), some (.int d), some (.ref p1), some (.int c), none] ∧ c = if d < 0 then -c0 else c0, ?_, ?_⟩
    · refine ⟨_, rfl, _, _, rfl, rfl, _, rfl, iteD (fun h1 => ?_) (fun h1 => ?_)⟩
      · exact ⟨_, rfl, _, rfl, _, rfl, fun c e => ⟨rfl, c, rfl, by rw [if_pos h1, e]⟩⟩
      · exact ⟨rfl, c0, rfl, by rw [if_neg h1]⟩
    rintro _ _ ⟨rfl, cc, rfl, hc⟩
    rw [ec] at hc
    obtain ⟨cn0, cl, pq⟩ := pq_init c tr hc
    have cd := com_dvd tr hc
    have dz : ∀ u, CDivZ u cc := fun u => divZ cn0 (hb c _ cd.1 cd.2) hk
    have hp1G := s4 _ _ hp1
    refine ⟨_, rfl, _, rfl, ⟨_, SqL.of hp1G⟩, fun D nD => lc_list (K := K) (a := p1) (xs := (cs.take n).map V.int) (fun i H' => Same G H' ∧ H' D = some (.lst ((((cs.take n).map fun x => x.fdiv cc).take i).map V.int))) ⟨sm_new nD, by rw [upd_same]; rfl⟩ (fun i H' hi hP => SqL.of (hP.1 _ _ hp1G)) (fun i y H' hi hP => ?_) (fun H' hP => ?_)⟩
    · obtain ⟨sm, hD⟩ := hP
      obtain ⟨u, hu, rfl⟩ : ∃ u, (cs.take n)[i]? = some u ∧ y = V.int u := by
        rw [List.getElem?_map] at hi
        cases e : (cs.take n)[i]? with
        | none => rw [e] at hi; cases hi
        | some u => rw [e] at hi; cases hi; exact ⟨u, rfl, rfl⟩
      refine ⟨rfl, ?_⟩
      unfold tYes
      refine iteK rfl ?_
      refine ⟨_, rfl, _, rfl, _, _, rfl, rfl, dz u, _, hD, ?_, same_mut sm nD, ?_⟩
      · rw [len_map, List.length_take, List.length_map]
        exact small1000 (by omega)
      · rw [upd_same, List.take_succ, List.map_append, List.getElem?_map, hu]
        rfl
    · obtain ⟨sm, hD⟩ := hP
      have e : ((cs.take n).map fun x => x.fdiv cc).take ((cs.take n).map V.int).length = (cs.take n).map fun x => x.fdiv cc := List.take_of_length_le (by rw [List.length_map, List.length_map]; exact Nat.le_refl _)
      rw [e] at hD
      refine ⟨D, _, rfl, .inl ⟨SqL.of hD, fun t nt => ?_⟩⟩
      have s5 : Same H (upd H' t (.tup (((cs.take n).map fun x => x.fdiv cc).map V.int))) := ((sm1.trans s4).trans sm).trans (sm_new nt)
      refine ⟨_, rfl, x, _, dx, [], rfl, s5 _ _ hx, T.cls_Poly, T.n_Poly_coefs, by decide, ?_⟩
      refine ⟨_, rfl, _, rfl, _, _, rfl, rfl, dz d, _, rfl, x, _, dx, _, rfl, upd_same, T.cls_Poly, T.n_Poly_den, (show (1 : Nat) < 1000 by decide), ?_⟩
      have tx : t ≠ x := fun z => by
        have := ((sm1.trans s4).trans sm) _ _ hx
        rw [z, this] at nt
        cases nt
      have z := q c _ t _ _ s5 upd_same tx pq
      rw [← upd_upd (a := x) (o := .ins (CP K) dx (putF "coefs" (.ref t) []))] at z
      exact z

theorem ok_Poly_is_zero (T : Tx K mg) : OkF P w K mg base 1 (gtAd K (He.ga K "Poly") "is_zero") ["self"] (spPZer K) := by
  refine okF_of (d := d_Poly_is_zero) T.d_Poly_is_zero rfl sc_Poly_is_zero (fun _ _ _ _ _ _ us hl => match us, hl with | [_], _ => rfl) (fun vs H Q E h => ?_) (fun cdv A outer s H vs Q E hr h => ?_)
  · first | (obtain ⟨_, rfl, _⟩ := h; rfl) | (obtain ⟨_, _, rfl, _⟩ := h; rfl) | (obtain ⟨_, _, _, rfl, _⟩ := h; rfl) | (obtain ⟨_, _, _, _, rfl, _⟩ := h; rfl) | (obtain ⟨_, _, _, _, _, rfl, _⟩ := h; rfl) | (obtain ⟨_, _, _, _, _, _, rfl, _⟩ := h; rfl) | (obtain ⟨_, _, _, _, _, _, _, rfl, _⟩ := h; rfl) | (obtain ⟨_, _, _, _, _, _, _, _, rfl, _⟩ := h; rfl) | (obtain ⟨_, _, _, _, _, _, _, _, _, rfl, _⟩ := h; rfl) | (obtain ⟨_, _, _, _, _, _, _, _, _, _, rfl, _⟩ := h; rfl)
  · obtain ⟨a, ks, e, rfl, ⟨da, t, ha, ht⟩, q⟩ := h
    refine ⟨_, (pss_one (ps_ret (pe_cmpR op_eq (pe_callB call_len_seq (by rfl) T.z_len PySem.boot_len (pa_cons (pe_fld (pv 0) rfl) pa_nil)) pe_int (nomark _)))), ?_⟩
    rw [← len_map] at q
    exact ⟨_, rfl, _, _, _, _, _, rfl, ha, T.cls_Poly, T.n_Poly_coefs, rfl, _, _, rfl, .inr (SqT.of ht), rfl, q⟩

theorem ok_monic (T : Tx K mg) (O_Poly_is_zero : OkF P w K mg base 1 (gtAd K (He.ga K "Poly") "is_zero") ["self"] (spPZer K)) (O_Poly___init__ : OkD P w K mg base 2 (He.fAd K ("Poly", some "__init__")) ["self", "coefs", "den"] (He.Dv.v K (.int 1)) (spPInit K)) : OkF P w K mg base 4 (He.fAd K ("monic", none)) ["p"] (spMon K) := by
  obtain ⟨_, G_Poly_is_zero, b_Poly_is_zero, k_Poly_is_zero⟩ := O_Poly_is_zero
  obtain ⟨_, G_Poly___init__, b_Poly___init__, ⟨_, v_Poly___init__, bd_Poly___init__⟩, k_Poly___init__⟩ := O_Poly___init__
  refine okF_of (d := d_monic) T.d_monic rfl sc_monic (fun _ _ _ _ _ _ us hl => match us, hl with | [_], _ => rfl) (fun vs H Q E h => ?_) (fun cdv A outer s H vs Q E hr h => ?_)
  · (obtain ⟨_, _, _, _, rfl, _⟩ := h; rfl)
  · obtain ⟨a, ks, e, k, rfl, ha, self, bk, hk, lk, q⟩ := h
    refine ⟨_, (pss_cons (ps_if (pt_val (pe_prop (pv 0) T.cls_Poly T.p_Poly_is_zero G_Poly_is_zero (hr.mono (by decide)) b_Poly_is_zero .nil passL rfl)) (pss_one (ps_ret (pv 0))) pss_nil)
      (pss_one (ps_ret (pe_makeI T.mk_Poly G_Poly___init__ (hr.mono (by decide)) (by rfl) T.g_Poly b_Poly___init__ .nil passL (mkPo_conv K []) (pa_cons (pe_fld (pv 0) rfl) (pa_cons (pe_ix ix_tup (pe_fld (pv 0) rfl) (pe_un un_neg pe_int) (fun _ _ => rfl)) pa_nil)))))), ?_⟩
    obtain ⟨da, ta, haa, hta⟩ := id ha
    refine ⟨_, rfl, _, _, _, rfl, haa, a, ks, e, rfl, ha, _, rfl, iteEq (fun z => ?_) (fun z => ?_)⟩
    · have k0 : ks = [] := List.eq_nil_of_length_eq_zero (by omega)
      exact ⟨_, rfl, q a H ks e (fun _ _ e => e) ha self (.inl ⟨k0, k0⟩)⟩
    · have kne : ks ≠ [] := fun w => z (by rw [w]; rfl)
      have kp := lpos kne
      have lead : ks.getD (ks.length - 1) 0 ≠ 0 := by
        rcases self.last with w | w
        · exact absurd w kne
        · exact w
      refine ⟨_, rfl, _, _, _, _, _, rfl, haa, T.cls_Poly, T.n_Poly_coefs, rfl, _, rfl, _, _, _, _, _, rfl, haa, T.cls_Poly, T.n_Poly_coefs, rfl, _, rfl, _, _, _, _, rfl, rfl, SqT.of hta, at_last (by rw [len_map]; exact map_at (get_of_lt (by omega))), ta, ks, _, k, rfl, .inr (SqT.of hta), by omega, bk.getD _, by omega, lead, fun p H' ms g s np hp pq => ?_⟩
      exact q p H' ms g s hp pq.self (.inr ⟨kne, pq⟩)

theorem ok_primitive (T : Tx K mg) (O_common_factor : OkF P w K mg base 1 (He.fAd K ("common_factor", none)) ["numbers"] (spCom K)) : OkF P w K mg base 2 (He.fAd K ("primitive", none)) ["coefs"] (spPrm K) := by
  obtain ⟨_, G_common_factor, b_common_factor, k_common_factor⟩ := O_common_factor
  refine okF_of (d := d_primitive) T.d_primitive rfl sc_primitive (fun _ _ _ _ _ _ us hl => match us, hl with | [_], _ => rfl) (fun vs H Q E h => ?_) (fun cdv A outer s H vs Q E hr h => ?_)
  · (obtain ⟨_, _, _, rfl, _⟩ := h; rfl)
  · obtain ⟨a, xs, k, rfl, hS, bk, hk, lx, nz, q⟩ := h
    have gp : xs ≠ [] → 0 < gcdL xs ∧ gcdL xs < 2 ^ k := fun ne => by
      obtain ⟨x, hx, x0⟩ := nz ne
      have d := gcdL_dvd hx
      exact ⟨Nat.pos_of_dvd_of_pos d (by omega), Nat.lt_of_le_of_lt (Nat.le_of_dvd (by omega) d) (bk.all x hx)⟩
    rcases hS with hS | hS
    · refine ⟨_, (pss_cons (ps_setI (i := 1) sc_primitive.nd rfl (Or.inr rfl) (pe_call G_common_factor (hr.mono (by decide)) (by rfl) T.g_common_factor k_common_factor b_common_factor .nil passL (pa_cons (pv 0) pa_nil)))
      (pss_one (ps_ret (pe_lc (own := [("c", 2)]) (g := gName 2) rfl sc_primitive.nd (pi_list (pv 0)) (blkOk_by (own := [("c", 2)]) (N := N_primitive) (sc := defScope s_primitive) (by decide +kernel)) (fun _ _ _ _ _ => (pg_name (i := 2) sc_primitive.nd rfl (Or.inl rfl))) (fun _ _ _ _ _ => pts_nil) (fun _ _ _ _ _ => (pe_op op_fdivW (pv 2) (pv 1))))))), ?_⟩
      refine ⟨_, rfl, a, xs, rfl, .inl hS, _, rfl, fun c ec => ?_⟩
      obtain rfl : c = ((gcdL xs : Nat) : Int) := ec
      refine ⟨_, rfl, _, rfl, ⟨_, hS⟩, fun D nD => lc_list (K := K) (a := a) (xs := xs.map V.int) (fun i HL => Same H HL ∧ HL D = some (.lst (((xs.map fun x => x / ((gcdL xs : Nat) : Int)).take i).map V.int))) ⟨sm_new nD, by rw [upd_same]; rfl⟩ (fun i HL hi hP => hP.1.seq hS) (fun i y HL hi hP => ?_) (fun HA hP => ?_)⟩
      · obtain ⟨sm, hD⟩ := hP
        obtain ⟨u, hu, rfl⟩ := get_map_int hi
        have hll := (List.getElem?_eq_some_iff.mp hu).1
        obtain ⟨g0, gb⟩ := gp (List.ne_nil_of_length_pos (by omega))
        refine ⟨rfl, ?_⟩
        unfold tYes
        refine iteK rfl ?_
        refine ⟨_, rfl, _, rfl, _, _, rfl, rfl, divW (b := k) (by omega) (by rw [Int.natAbs_natCast]; exact gb) hk, _, hD, ?_, same_mut sm nD, ?_⟩
        · rw [len_map, List.length_take, List.length_map]; exact small1000 (by omega)
        · rw [upd_same, List.take_succ, List.map_append, List.getElem?_map, hu]; rfl
      obtain ⟨sm, hD⟩ := hP
      rw [List.take_of_length_le (by rw [List.length_map, List.length_map]; exact Nat.le_refl _)] at hD
      exact q D HA _ sm nD hD (prl xs fun e => (gp e).1)
    · refine ⟨_, (pss_cons (ps_setI (i := 1) sc_primitive.nd rfl (Or.inr rfl) (pe_call G_common_factor (hr.mono (by decide)) (by rfl) T.g_common_factor k_common_factor b_common_factor .nil passL (pa_cons (pv 0) pa_nil)))
      (pss_one (ps_ret (pe_lc (own := [("c", 2)]) (g := gName 2) rfl sc_primitive.nd (pi_tup (pv 0)) (blkOk_by (own := [("c", 2)]) (N := N_primitive) (sc := defScope s_primitive) (by decide +kernel)) (fun _ _ _ _ _ => (pg_name (i := 2) sc_primitive.nd rfl (Or.inl rfl))) (fun _ _ _ _ _ => pts_nil) (fun _ _ _ _ _ => (pe_op op_fdivW (pv 2) (pv 1))))))), ?_⟩
      refine ⟨_, rfl, a, xs, rfl, .inr hS, _, rfl, fun c ec => ?_⟩
      obtain rfl : c = ((gcdL xs : Nat) : Int) := ec
      refine ⟨_, rfl, _, rfl, ⟨_, hS⟩, fun D nD => lc_tup (K := K) (a := a) (xs := xs.map V.int) (fun i HL => Same H HL ∧ HL D = some (.lst (((xs.map fun x => x / ((gcdL xs : Nat) : Int)).take i).map V.int))) ⟨sm_new nD, by rw [upd_same]; rfl⟩ (fun i HL hi hP => sm_tup hP.1 hS) (fun i y HL hi hP => ?_) (fun HA hP => ?_)⟩
      · obtain ⟨sm, hD⟩ := hP
        obtain ⟨u, hu, rfl⟩ := get_map_int hi
        have hll := (List.getElem?_eq_some_iff.mp hu).1
        obtain ⟨g0, gb⟩ := gp (List.ne_nil_of_length_pos (by omega))
        refine ⟨rfl, ?_⟩
        unfold tYes
        refine iteK rfl ?_
        refine ⟨_, rfl, _, rfl, _, _, rfl, rfl, divW (b := k) (by omega) (by rw [Int.natAbs_natCast]; exact gb) hk, _, hD, ?_, same_mut sm nD, ?_⟩
        · rw [len_map, List.length_take, List.length_map]; exact small1000 (by omega)
        · rw [upd_same, List.take_succ, List.map_append, List.getElem?_map, hu]; rfl
      obtain ⟨sm, hD⟩ := hP
      rw [List.take_of_length_le (by rw [List.length_map, List.length_map]; exact Nat.le_refl _)] at hD
      exact q D HA _ sm nD hD (prl xs fun e => (gp e).1)

theorem ok_remainders (T : Tx K mg) (O_trimmed : OkF P w K mg base 1 (He.fAd K ("trimmed", none)) ["coefs"] (spTrim K)) : OkF P w K mg base 2 (He.fAd K ("remainders", none)) ["coefs", "modulus"] (spRems K) := by
  obtain ⟨_, G_trimmed, b_trimmed, k_trimmed⟩ := O_trimmed
  refine okF_of (d := d_remainders) T.d_remainders rfl sc_remainders (fun _ _ _ _ _ _ us hl => match us, hl with | [_, _], _ => rfl) (fun vs H Q E h => ?_) (fun cdv A outer s H vs Q E hr h => ?_)
  · (obtain ⟨_, _, _, rfl, _⟩ := h; rfl)
  · obtain ⟨a, xs, p, rfl, hA, p0, lx, q⟩ := h
    refine ⟨_, (pss_one (ps_ret (pe_call G_trimmed (hr.mono (by decide)) (by rfl) T.g_trimmed k_trimmed b_trimmed .nil passL (pa_cons (pe_lc (own := [("c", 2)]) (g := gName 2) rfl sc_remainders.nd (pi_list (pv 0)) (blkOk_by (own := [("c", 2)]) (N := N_remainders) (sc := defScope s_remainders) (by decide +kernel)) (fun _ _ _ _ _ => (pg_name (i := 2) sc_remainders.nd rfl (Or.inl rfl))) (fun _ _ _ _ _ => pts_nil) (fun _ _ _ _ _ => (pe_op op_mod (pv 2) (pv 1)))) pa_nil)))), ?_⟩
    refine ⟨_, rfl, _, rfl, ⟨_, hA⟩, fun D nD => lc_list (K := K) (a := a) (xs := xs.map V.int) (fun i HL => Same H HL ∧ HL D = some (.lst (((xs.map fun x => x % (p : Int)).take i).map V.int))) ⟨sm_new nD, by rw [upd_same]; rfl⟩ (fun i HL hi hP => hP.1.seq hA) (fun i y HL hi hP => ?_) (fun HA hP => ?_)⟩
    · obtain ⟨sm, hD⟩ := hP
      obtain ⟨u, hu, rfl⟩ := get_map_int hi
      have hll := (List.getElem?_eq_some_iff.mp hu).1
      refine ⟨rfl, ?_⟩
      unfold tYes
      refine iteK rfl ?_
      refine ⟨_, rfl, _, rfl, _, _, rfl, rfl, (show (0 : Int) < p by omega), _, hD, ?_, same_mut sm nD, ?_⟩
      · rw [len_map, List.length_take, List.length_map]; exact small1000 (by omega)
      · rw [upd_same, List.take_succ, List.map_append, List.getElem?_map, hu]; rfl
    obtain ⟨sm, hD⟩ := hP
    rw [List.take_of_length_le (by rw [List.length_map, List.length_map]; exact Nat.le_refl _)] at hD
    refine ⟨D, _, rfl, .inl (SqL.of hD), fun p2 H2 n s2 np2 hp2 t => ?_⟩
    have rng : ∀ z ∈ xs.map fun x => x % (p : Int), 0 ≤ z ∧ z < p := fun z hz => by
      obtain ⟨x, _, rfl⟩ := List.mem_map.mp hz
      exact ⟨Int.emod_nonneg _ (by omega), Int.emod_lt_of_pos _ (by omega)⟩
    refine q p2 H2 _ (sm.trans s2) (sm.free np2) hp2 (rsp_of p0 rng t) ?_ fun k => ?_
    · rw [List.length_take, List.length_map]; omega
    · rw [take_ff t]
      have e : ff (xs.map fun x => x % (p : Int)) k = ff xs k % (p : Int) := by
        show (xs.map _).getD k 0 = xs.getD k 0 % _
        rw [List.getD_eq_getElem?_getD, List.getElem?_map, List.getD_eq_getElem?_getD]
        cases xs[k]? with
        | none => exact (Int.zero_emod _).symm
        | some x => rfl
      rw [e]
      exact mod_sub_dvd p _

theorem ok_inverse_modulo (T : Tx K mg) : OkF P w K mg base 1 (He.fAd K ("inverse_modulo", none)) ["number", "modulus"] (spInv K) := by
  refine okF_of (d := d_inverse_modulo) T.d_inverse_modulo rfl sc_inverse_modulo (fun _ _ _ _ _ _ us hl => match us, hl with | [_, _], _ => rfl) (fun vs H Q E h => ?_) (fun cdv A outer s H vs Q E hr h => ?_)
  · (obtain ⟨_, _, rfl, _⟩ := h; rfl)
  · obtain ⟨n, p, rfl, hp, p62, pn, q⟩ := h
    refine ⟨_, (pss_cons (ps_par (i := 2) (j := 3) (by rfl) sc_inverse_modulo.nd rfl rfl (by decide) rfl rfl (pa_cons (pe_op op_mod (pv 0) (pv 1)) (pa_cons (pv 1) pa_nil)) (by rfl))
      (pss_cons (ps_asg (pe_tup (pa_cons pe_int (pa_cons pe_int pa_nil))) (pg_tup rfl (pgs_cons (pg_name (i := 4) sc_inverse_modulo.nd rfl (Or.inl rfl)) (pgs_cons (pg_name (i := 5) sc_inverse_modulo.nd rfl (Or.inl rfl)) pgs_nil))))
      (pss_cons (ps_while PassesOwn.leaving (pt_cmpR op_ne (pv 3) pe_int (nomark _)) (pss_cons (ps_setI (i := 6) sc_inverse_modulo.nd rfl (Or.inl rfl) (pe_op op_fdivW (pv 2) (pv 3)))
      (pss_cons (ps_par (i := 2) (j := 3) (by rfl) sc_inverse_modulo.nd rfl rfl (by decide) rfl rfl (pa_cons (pv 3) (pa_cons (pe_op op_sub (pv 2) (pe_op op_mulW (pv 6) (pv 3))) pa_nil)) (by rfl))
      (pss_one (ps_par (i := 4) (j := 5) (by rfl) sc_inverse_modulo.nd rfl rfl (by decide) rfl rfl (pa_cons (pv 5) (pa_cons (pe_op op_sub (pv 4) (pe_op op_mulW (pv 6) (pv 5))) pa_nil)) (by rfl))))))
      (pss_one (ps_ret (pe_op op_mod (pv 4) (pv 1))))))), ?_⟩
    have p2 := hp.two
    obtain ⟨a0, ha0⟩ : ∃ a0 : Nat, (a0 : Int) = n % (p : Int) := ⟨(n % (p : Int)).toNat, Int.toNat_of_nonneg (Int.emod_nonneg _ (by omega))⟩
    have lt := Int.emod_lt_of_pos n (show (0 : Int) < p by omega)
    have d0 := mod_sub_dvd p n
    have a1 : 1 ≤ a0 := by
      refine Decidable.byContradiction fun z => pn ?_
      have : n % (p : Int) = 0 := by omega
      exact Int.dvd_of_emod_eq_zero this
    have g0 : Nat.gcd a0 p = 1 := by
      obtain ⟨g, hg⟩ : ∃ g, g = Nat.gcd a0 p := ⟨_, rfl⟩
      have g1 : g ∣ a0 := hg ▸ Nat.gcd_dvd_left _ _
      have g2 : g ∣ p := hg ▸ Nat.gcd_dvd_right _ _
      obtain ⟨t, ht⟩ := g2
      have gl := Nat.le_of_dvd (by omega) g1
      have gp : 0 < g := Nat.pos_of_dvd_of_pos g1 (by omega)
      rcases hp.mul (g : Int) (t : Int) (by rw [← Int.natCast_mul, ← ht]; exact Int.dvd_refl _) with z | z
      · have := Nat.le_of_dvd (by omega) (Int.natCast_dvd_natCast.mp z)
        omega
      · obtain ⟨u, hu⟩ := Int.natCast_dvd_natCast.mp z
        rw [hu] at ht
        have e : p * 1 = p * (g * u) := by
          calc p * 1 = p := Nat.mul_one _
            _ = g * (p * u) := ht
            _ = _ := by grind
        have := Nat.eq_of_mul_eq_mul_left (by omega) e
        rw [← hg]
        exact Nat.eq_one_of_mul_eq_one_right this.symm
    refine ⟨_, rfl, _, rfl, _, _, rfl, rfl, (show (0 : Int) < p by omega), _, rfl, _, _, rfl, ?_⟩
    refine ⟨by show 2 ≤ sizeLine; decide, fun pt npt => ⟨pt, _, rfl, SqT.of upd_same, rfl, _, _, rfl, _, _, rfl, rfl, ?_⟩⟩
    have s1 := sm_new (o := .tup [V.int 1, V.int 0]) npt
    generalize upd H pt (.tup [V.int 1, V.int 0]) = H1 at s1 ⊢
    refine ⟨fun m σ' H' => H1 = H' ∧ ∃ (a b : Nat) (x y : Int) (z : Option V), σ' = [some (.int n), some (.int (p : Int)), some (.int (a : Int)), some (.int (b : Int)), some (.int x), some (.int y), z] ∧ m = b ∧ 1 ≤ a ∧ a ≤ p ∧ b ≤ p ∧ Nat.gcd a b = 1 ∧ (p : Int) ∣ x * n - a ∧ (p : Int) ∣ y * n - b ∧ x.natAbs * b + y.natAbs * a ≤ p ∧ (b = 0 ∨ x.natAbs ≤ p), ⟨_, rfl, a0, p, 1, 0, none, by rw [ha0]; rfl, rfl, a1, by omega, Nat.le_refl _, g0, by rw [Int.one_mul, ha0]; exact d0, by rw [Int.zero_mul]; exact ⟨-1, by omega⟩, by simp, .inr (by show 1 ≤ p; omega)⟩, ?_⟩
    rintro m _ _ ⟨rfl, a, b, x, y, z, rfl, rfl, a1, ap, bp, hg, dx, dy, bd, xb⟩
    refine ⟨_, rfl, rfl, _, rfl, iteEqN (fun h1 => ?_) (fun h1 => ?_)⟩
    · have b0 : 0 < m := by omega
      have yp : y.natAbs ≤ p := by
        have := Nat.mul_le_mul_left y.natAbs a1
        omega
      refine ⟨fun σ2 H2 => ∃ m', m' < m ∧ H1 = H2 ∧ ∃ (a b : Nat) (x y : Int) (z : Option V), σ2 = [some (.int n), some (.int (p : Int)), some (.int (a : Int)), some (.int (b : Int)), some (.int x), some (.int y), z] ∧ m' = b ∧ 1 ≤ a ∧ a ≤ p ∧ b ≤ p ∧ Nat.gcd a b = 1 ∧ (p : Int) ∣ x * n - a ∧ (p : Int) ∣ y * n - b ∧ x.natAbs * b + y.natAbs * a ≤ p ∧ (b = 0 ∨ x.natAbs ≤ p), fun _ _ h => h, ?_⟩
      refine ⟨_, rfl, _, rfl, _, _, rfl, rfl, divW (b := 62) (by omega) (by rw [Int.natAbs_natCast]; omega) (by decide), _, rfl, fun s es => ?_⟩
      obtain ⟨t, ht⟩ : ∃ t : Nat, s = (t : Int) := ⟨a / m, by rw [es]; rfl⟩
      have et : t = a / m := by
        rw [ht] at es
        exact Int.ofNat.inj es
      subst ht
      have tl : t ≤ a := by rw [et]; exact Nat.div_le_self _ _
      have tb : ((t : Nat) : Int).natAbs < 2 ^ 62 := by rw [Int.natAbs_natCast]; omega
      refine ⟨_, rfl, _, rfl, _, rfl, _, rfl, _, _, rfl, rfl, mulW tb (b := 62) (by rw [Int.natAbs_natCast]; omega) (by decide), _, _, rfl, rfl, _, _, rfl, ?_⟩
      refine ⟨_, rfl, _, rfl, _, rfl, _, rfl, _, _, rfl, rfl, mulW tb (b := 62) (show y.natAbs < 2 ^ 62 by omega) (by decide), _, _, rfl, rfl, _, _, rfl, ?_⟩
      have dm : a = m * t + a % m := by rw [et]; exact (Nat.div_add_mod a m).symm
      have e1 : (a : Int) - (t : Int) * (m : Int) = ((a % m : Nat) : Int) := by
        have : (a : Int) = (m : Int) * (t : Int) + ((a % m : Nat) : Int) := by rw [← Int.natCast_mul, ← Int.natCast_add, ← dm]
        rw [this, Int.mul_comm (t : Int)]
        omega
      have lm := Nat.mod_lt a b0
      refine ⟨a % m, lm, rfl, m, a % m, y, x - (t : Int) * y, _, by rw [← e1]; rfl, rfl, b0, bp, by omega, ?_, dy, ?_, ?_, .inr yp⟩
      · rw [← hg, Nat.gcd_comm m, ← Nat.gcd_rec, Nat.gcd_comm]
      · have w := Int.dvd_sub dx (Int.dvd_trans dy (Int.dvd_mul_left (t : Int) _))
        have e2 : x * n - (a : Int) - (t : Int) * (y * n - (m : Int)) = (x - (t : Int) * y) * n - ((a % m : Nat) : Int) := by
          rw [← e1]
          grind
        rwa [e2] at w
      · have w1 : (x - (t : Int) * y).natAbs ≤ x.natAbs + t * y.natAbs := by
          have := Int.natAbs_sub_le x ((t : Int) * y)
          rw [Int.natAbs_mul, Int.natAbs_natCast] at this
          exact this
        have w2 := Nat.mul_le_mul_right m w1
        have w3 : y.natAbs * a = y.natAbs * (a % m) + t * y.natAbs * m := by
          calc y.natAbs * a = y.natAbs * (m * t + a % m) := by rw [← dm]
            _ = _ := by grind
        rw [Nat.add_mul] at w2
        omega
    · have b0 : m = 0 := by omega
      subst b0
      rw [Nat.gcd_zero_right] at hg
      subst hg
      refine ⟨_, rfl, _, rfl, _, _, rfl, rfl, (show (0 : Int) < p by omega), ?_⟩
      refine q _ H1 s1 (Int.emod_nonneg _ (by omega)) (Int.emod_lt_of_pos _ (by omega)) ?_
      have w := Int.dvd_sub dx (Int.dvd_trans (mod_sub_dvd p x) (Int.dvd_mul_right _ n))
      have e2 : x * n - ((1 : Nat) : Int) - (x - x % (p : Int)) * n = x % (p : Int) * n - 1 := by
        generalize x % (p : Int) = r
        grind
      rwa [e2] at w

theorem ok_divided_modulo (T : Tx K mg) (O_inverse_modulo : OkF P w K mg base 1 (He.fAd K ("inverse_modulo", none)) ["number", "modulus"] (spInv K)) (O_trimmed : OkF P w K mg base 1 (He.fAd K ("trimmed", none)) ["coefs"] (spTrim K)) : OkF P w K mg base 2 (He.fAd K ("divided_modulo", none)) ["first", "second", "modulus"] (spDMd K) := by
  obtain ⟨_, G_inverse_modulo, b_inverse_modulo, k_inverse_modulo⟩ := O_inverse_modulo
  obtain ⟨_, G_trimmed, b_trimmed, k_trimmed⟩ := O_trimmed
  refine okF_of (d := d_divided_modulo) T.d_divided_modulo rfl sc_divided_modulo (fun _ _ _ _ _ _ us hl => match us, hl with | [_, _, _], _ => rfl) (fun vs H Q E h => ?_) (fun cdv A outer s H vs Q E hr h => ?_)
  · (obtain ⟨_, _, _, _, _, _, rfl, _⟩ := h; rfl)
  · obtain ⟨a, b, xs, ys, p, z, rfl, hA, hB, hp, p62, rx, ry, y0, lx, ly, q⟩ := h
    refine ⟨_, (pss_cons (ps_setI (i := 3) sc_divided_modulo.nd rfl (Or.inl rfl) (pe_call G_inverse_modulo (hr.mono (by decide)) (by rfl) T.g_inverse_modulo k_inverse_modulo b_inverse_modulo .nil passL (pa_cons (pe_ix ix_list (pv 1) (pe_un un_neg pe_int) (fun _ _ => rfl)) (pa_cons (pv 2) pa_nil))))
      (pss_cons (ps_set (i := 4) sc_divided_modulo.nd rfl (Or.inl rfl) (pe_callTy call_list_of (by rfl) T.z_list (by decide +kernel) (pa_cons (pv 0) pa_nil)))
      (pss_cons (ps_setLc (i := 5) (own := [("_", 10)]) (g := gName 10) rfl sc_divided_modulo.nd rfl rfl (sw_true rfl rfl rfl (by decide +kernel)) (pi_range1 rfl T.z_range (pa_cons (pe_op op_add (pe_op op_sub (pe_callB call_len_seq (by rfl) T.z_len PySem.boot_len (pa_cons (pv 0) pa_nil)) (pe_callB call_len_seq (by rfl) T.z_len PySem.boot_len (pa_cons (pv 1) pa_nil))) pe_int) pa_nil)) (blkOk_by (own := [("_", 10)]) (N := N_divided_modulo) (sc := defScope s_divided_modulo) (by decide +kernel)) (fun _ _ _ _ _ => (pg_name (i := 10) sc_divided_modulo.nd rfl (Or.inl rfl))) (fun _ _ _ _ _ => pts_nil) (fun _ _ _ _ _ => pe_int))
      (pss_cons (ps_for PassesOwn.leaving rfl (pi_range3 rfl T.z_range (pa_cons (pe_op op_sub (pe_callB call_len_seq (by rfl) T.z_len PySem.boot_len (pa_cons (pv 0) pa_nil)) (pe_callB call_len_seq (by rfl) T.z_len PySem.boot_len (pa_cons (pv 1) pa_nil))) (pa_cons (pe_un un_neg pe_int) (pa_cons (pe_un un_neg pe_int) pa_nil)))) (pg_name (i := 6) sc_divided_modulo.nd rfl (Or.inl rfl)) (pss_cons (ps_setI (i := 7) sc_divided_modulo.nd rfl (Or.inl rfl) (pe_op op_mod (pe_op op_mulW (pe_ix ix_list (pv 4) (pe_op op_sub (pe_op op_add (pv 6) (pe_callB call_len_seq (by rfl) T.z_len PySem.boot_len (pa_cons (pv 1) pa_nil))) pe_int) (fun _ _ => rfl)) (pv 3)) (pv 2)))
      (pss_cons (ps_asg (pv 7) (pg_sub (pv 5) (pv 6) set_list))
      (pss_one (ps_if (pt_cmpR op_ne (pv 7) pe_int (nomark _)) (pss_one (ps_for PassesOwn.leaving rfl (pi_enum (by rfl) T.z_enumerate (pa_cons (pv 1) pa_nil)) (pg_tup rfl (pgs_cons (pg_name (i := 8) sc_divided_modulo.nd rfl (Or.inl rfl)) (pgs_cons (pg_name (i := 9) sc_divided_modulo.nd rfl (Or.inl rfl)) pgs_nil))) (pss_one (ps_asg (pe_op op_mod (pe_op op_sub (pe_ix ix_list (pv 4) (pe_op op_add (pv 6) (pv 8)) (fun _ _ => rfl)) (pe_op op_mulW (pv 7) (pv 9))) (pv 2)) (pg_sub (pv 4) (pe_op op_add (pv 6) (pv 8)) set_list))))) pss_nil)))))
      (pss_one (ps_ret (pe_tup (pa_cons (pv 5) (pa_cons (pe_call G_trimmed (hr.mono (by decide)) (by rfl) T.g_trimmed k_trimmed b_trimmed .nil passL (pa_cons (pv 4) pa_nil)) pa_nil))))))))), ?_⟩
    have p2 := hp.two
    have lt : ys.length - 1 < ys.length := by omega
    have ylast : ys.getD (ys.length - 1) 0 ≠ 0 := by
      rcases ry.last with e | e
      · rw [e] at y0; exact absurd y0 (by decide)
      · exact e
    have yr := ry.rng _ (getD_mem lt)
    have ynd : ¬ (p : Int) ∣ ys.getD (ys.length - 1) 0 := fun d => by
      have := Int.le_of_dvd (by omega) d
      omega
    have small : ∀ {x : Int}, 0 ≤ x ∧ x < p → x.natAbs < 2 ^ 62 := fun h => by omega
    refine ⟨_, rfl, _, rfl, _, _, _, _, rfl, rfl, hB, at_last (by rw [len_map]; exact map_at (get_of_lt lt)), _, rfl, _, p, rfl, hp, p62, ynd, fun inv H1 s1 i0 ip hv => ?_⟩
    refine ⟨_, rfl, fun inv' ei => ?_⟩
    obtain rfl : inv' = inv := ei
    have hA1 := s1.seq hA
    have hB1 := s1.seq hB
    refine ⟨_, rfl, a, _, rfl, .inl hA1, fun pr0 npr => ?_⟩
    have s2 := s1.trans (sm_new (o := .lst (xs.map V.int)) npr)
    have hp2 : (upd H1 pr0 (.lst (xs.map V.int))) pr0 = some (.lst (xs.map V.int)) := upd_same
    have nr0 : H pr0 = none := s1.free npr
    generalize upd H1 pr0 (.lst (xs.map V.int)) = H2 at s2 hp2 ⊢
    have hA2 := s2.seq hA
    have hB2 := s2.seq hB
    refine ⟨_, rfl, _, _, rfl, .inl hA2, _, rfl, _, _, rfl, .inl hB2, _, _, rfl, rfl, _, _, rfl, rfl, _, rfl, by rw [len_map, len_map]; omega, by rw [len_map, len_map]; omega, fun D nD => lc_range (lo := 0) (n := (((xs.map V.int).length : Int) - ((ys.map V.int).length : Int) + 1).toNat) (fun i H' => Same H2 H' ∧ H' D = some (.lst ((List.replicate i (0 : Int)).map V.int))) ⟨sm_new nD, upd_same⟩ (fun i H' hi hP => ?_) (fun H3 hP => ?_)⟩
    · obtain ⟨sm, hD⟩ := hP
      refine ⟨rfl, ?_⟩
      unfold tYes
      refine iteK rfl ?_
      rw [len_map, len_map] at hi
      refine ⟨_, hD, by rw [len_map, List.length_replicate]; exact small1000 (by omega), same_mut sm nD, ?_⟩
      rw [upd_same, List.replicate_succ', List.map_append]
      rfl
    obtain ⟨s3, hD⟩ := hP
    rw [len_map, len_map] at hD
    obtain ⟨CN, hCN⟩ : ∃ CN : Nat, ((xs.length : Int) - (ys.length : Int) + 1).toNat = CN := ⟨_, rfl⟩
    rw [hCN] at hD
    have hp3 := s3 _ _ hp2
    have Dp : D ≠ pr0 := (ne_of_none hp2 nD).symm
    have s23 := s2.trans s3
    have hA3 := s23.seq hA
    have hB3 := s23.seq hB
    have nD0 : H D = none := s2.free nD
    refine ⟨_, rfl, _, _, rfl, .inl hA3, _, rfl, _, _, rfl, .inl hB3, _, _, rfl, rfl, _, rfl, _, rfl, _, _, _, _, rfl, RgC.neg (by rw [len_map, len_map]; omega) (by rw [len_map, len_map]; omega) (by omega) (by omega), ?_⟩
    rw [len_map, len_map]
    refine for_rangeC (lo := (xs.length : Int) - (ys.length : Int)) (c := -1) (n := ((xs.length : Int) - (ys.length : Int) - (-1)).toNat) (fun t σ' H' => ∃ (qs : List V) (rs : List Int) (y6 y7 y8 y9 : Option V), σ' = [some (.ref a), some (.ref b), some (.int (p : Int)), some (.int inv'), some (.ref pr0), some (.ref D), y6, y7, y8, y9, none] ∧ Same H H' ∧ H' D = some (.lst qs) ∧ H' pr0 = some (.lst (rs.map V.int)) ∧ qs.length = CN ∧ DmAt p xs rs ys (CN - t))
      ⟨(List.replicate CN (0 : Int)).map V.int, xs, none, none, none, none, rfl, s23, hD, hp3, by rw [List.length_map, List.length_replicate], DmAt.start rx.rng (by omega)⟩ (fun t σ' H' ht hI => ?_) (fun σ' H' hI => ?_)
    · obtain ⟨qs, rs, y6, y7, y8, y9, rfl, sm, hq, hr, ql, m⟩ := hI
      obtain ⟨n, hn⟩ : ∃ n : Nat, CN - t = n + 1 := ⟨CN - t - 1, by omega⟩
      rw [hn] at m
      have nl : n < CN := by omega
      have rl := m.rl
      have hat : (xs.length : Int) - (ys.length : Int) + (t : Int) * -1 = (n : Int) := by omega
      rw [hat]
      have rlt : n + ys.length - 1 < rs.length := by omega
      have rb := small (m.rng _ (getD_mem rlt))
      refine ⟨_, rfl, _, rfl, _, rfl, _, _, rfl, .inl (sm.seq hB), _, _, rfl, rfl, _, _, rfl, rfl, _, _, _, _, rfl, rfl, SqL.of hr, at_of (j := n + ys.length - 1) (by rw [len_map]; omega) (map_at (get_of_lt rlt)), _, rfl, _, _, rfl, rfl, mulW rb (small ⟨i0, ip⟩) (by decide), _, rfl, _, _, rfl, rfl, (show (0 : Int) < p by omega), _, rfl, fun sh esh => ?_⟩
      have shr : 0 ≤ sh ∧ sh < p := by rw [esh]; exact ⟨Int.emod_nonneg _ (by omega), Int.emod_lt_of_pos _ (by omega)⟩
      refine ⟨_, rfl, _, rfl, _, rfl, D, _, _, n, rfl, rfl, hq, ixN_at rfl (by omega), ?_⟩
      have sm2 : Same H (upd H' D (.lst (qs.set n (.int sh)))) := same_mut sm nD0
      have hq2 : (upd H' D (.lst (qs.set n (.int sh)))) D = some (.lst (qs.set n (.int sh))) := upd_same
      have hr2 : (upd H' D (.lst (qs.set n (.int sh)))) pr0 = some (.lst (rs.map V.int)) := by rw [upd_ne Dp.symm]; exact hr
      generalize upd H' D (.lst (qs.set n (.int sh))) = H4 at sm2 hq2 hr2 ⊢
      have e1 : CN - (t + 1) = n := by omega
      refine ⟨_, rfl, rfl, _, rfl, iteEqN (fun c0 => ?_) (fun c0 => ?_)⟩
      rotate_left
      · refine ⟨_, rs, _, _, _, _, rfl, sm2, hq2, hr2, by rw [List.length_set, ql], ?_⟩
        rw [e1]
        exact m.skip (by omega) y0 rlt hv esh c0
      refine ⟨_, rfl, b, _, rfl, sm2.seq hB, for_enL (K := K) (a := b) (xs := ys.map V.int) (fun i σ' H' => ∃ (zs : List Int) (y8 y9 : Option V), σ' = [some (.ref a), some (.ref b), some (.int (p : Int)), some (.int inv'), some (.ref pr0), some (.ref D), some (.int (n : Int)), some (.int sh), y8, y9, none] ∧ Same H H' ∧ H' D = some (.lst (qs.set n (.int sh))) ∧ H' pr0 = some (.lst (zs.map V.int)) ∧ SubM p zs rs ys sh n i)
        ⟨rs, _, _, rfl, sm2, hq2, hr2, SubM.start⟩ (fun i σ' H' hI => ?_) (fun i y T σ' H' hi hI nT => ?_) (fun σ' H' hI => ?_)⟩
      · obtain ⟨_, _, _, rfl, sm, _⟩ := hI
        exact sm.seq hB
      · obtain ⟨zs, y8, y9, rfl, sm, hq, hr, mz⟩ := hI
        obtain ⟨c, hc, rfl⟩ := get_map_int hi
        have il : i < ys.length := (List.getElem?_eq_some_iff.mp hc).1
        have ec2 := getD_of hc
        have Tq : D ≠ T := ne_of_none hq nT
        have Tr : pr0 ≠ T := ne_of_none hr nT
        have sm3 := sm.trans (sm_new (o := .tup [.int (i : Nat), .int c]) nT)
        have hq3 : (upd H' T (.tup [.int (i : Nat), .int c])) D = some (.lst (qs.set n (.int sh))) := by rw [upd_ne Tq]; exact hq
        have hr3 : (upd H' T (.tup [.int (i : Nat), .int c])) pr0 = some (.lst (zs.map V.int)) := by rw [upd_ne Tr]; exact hr
        refine ⟨T, _, rfl, SqT.of upd_same, rfl, _, _, rfl, _, _, rfl, rfl, ?_⟩
        generalize upd H' T (.tup [.int (i : Nat), .int c]) = G at sm3 hq3 hr3 ⊢
        have zl := mz.len
        have fl : n + i < zs.length := by omega
        have cb := small (ry.rng c (List.mem_of_getElem? hc))
        refine ⟨_, rfl, _, rfl, _, rfl, _, _, rfl, rfl, _, _, _, _, rfl, rfl, SqL.of hr3, at_of (j := n + i) (by omega) (map_at (get_of_lt fl)), _, rfl, _, rfl, _, _, rfl, rfl, mulW (small shr) cb (by decide), _, _, rfl, rfl, _, rfl, _, _, rfl, rfl, (show (0 : Int) < p by omega), _, rfl, _, rfl, _, rfl, _, _, rfl, rfl, pr0, _, _, n + i, rfl, rfl, hr3, ixN_at (by omega) (by rw [len_map]; exact fl), ?_⟩
        exact ⟨_, _, _, rfl, same_mut sm3 nr0, by rw [upd_ne Dp]; exact hq3, by rw [upd_same, map_set_V], mz.step (by omega) ec2.symm⟩
      · obtain ⟨zs, y8, y9, rfl, sm, hq, hr, mz⟩ := hI
        rw [len_map] at mz
        refine ⟨_, zs, _, _, _, _, rfl, sm, hq, hr, by rw [List.length_set, ql], ?_⟩
        rw [e1]
        exact m.step (by omega) y0 hv esh mz
    · obtain ⟨qs, rs, y6, y7, y8, y9, rfl, sm, hq, hr, ql, m⟩ := hI
      rw [show CN - ((xs.length : Int) - (ys.length : Int) - (-1)).toNat = 0 by omega] at m
      refine ⟨_, rfl, _, rfl, pr0, rs, rfl, .inl (SqL.of hr), fun p2 H5 n s5 np2 hp2' t => ?_⟩
      refine ⟨by show 2 ≤ sizeLine; decide, fun T nT => ?_⟩
      have sT := sm_new (o := .tup [.ref D, .ref p2]) nT
      have rl := m.rl
      refine q T _ D p2 qs (rs.take n) ((sm.trans s5).trans sT) upd_same (sm.free np2) (sT _ _ hp2') (rsp_of (by omega) m.rng t) ?_ ?_
      · have tl := t.le
        rw [List.length_take, Nat.min_eq_left tl]
        rcases t.at_ with e | e
        · omega
        · refine Decidable.byContradiction fun c => e (m.hi _ (by omega))
      · obtain ⟨s, N, hs, d⟩ := m.eq
        exact ⟨s, N, hs, fun k => by rw [take_ff t]; exact d k⟩

theorem ok_divisor_modulo (T : Tx K mg) (O_remainders : OkF P w K mg base 2 (He.fAd K ("remainders", none)) ["coefs", "modulus"] (spRems K)) (O_divided_modulo : OkF P w K mg base 2 (He.fAd K ("divided_modulo", none)) ["first", "second", "modulus"] (spDMd K)) : OkF P w K mg base 3 (He.fAd K ("divisor_modulo", none)) ["first", "second", "prime"] (spDvM K) := by
  obtain ⟨_, G_remainders, b_remainders, k_remainders⟩ := O_remainders
  obtain ⟨_, G_divided_modulo, b_divided_modulo, k_divided_modulo⟩ := O_divided_modulo
  refine okF_of (d := d_divisor_modulo) T.d_divisor_modulo rfl sc_divisor_modulo (fun _ _ _ _ _ _ us hl => match us, hl with | [_, _, _], _ => rfl) (fun vs H Q E h => ?_) (fun cdv A outer s H vs Q E hr h => ?_)
  · (obtain ⟨_, _, _, _, _, _, rfl, _⟩ := h; rfl)
  · obtain ⟨a, b, xs, ys, p, z, rfl, hA, hB, hp, p62, lx, ly, q⟩ := h
    refine ⟨_, (pss_cons (ps_set (i := 3) sc_divisor_modulo.nd rfl (Or.inl rfl) (pe_call G_remainders (hr.mono (by decide)) (by rfl) T.g_remainders k_remainders b_remainders .nil passL (pa_cons (pv 0) (pa_cons (pv 2) pa_nil))))
      (pss_cons (ps_set (i := 4) sc_divisor_modulo.nd rfl (Or.inl rfl) (pe_call G_remainders (hr.mono (by decide)) (by rfl) T.g_remainders k_remainders b_remainders .nil passL (pa_cons (pv 1) (pa_cons (pv 2) pa_nil))))
      (pss_cons (ps_while PassesOwn.leaving (pt_cmpR op_gt (pe_callB call_len_seq (by rfl) T.z_len PySem.boot_len (pa_cons (pv 4) pa_nil)) pe_int (nomark _)) (pss_cons (ps_asg (pe_call G_divided_modulo (hr.mono (by decide)) (by rfl) T.g_divided_modulo k_divided_modulo b_divided_modulo .nil passL (pa_cons (pv 3) (pa_cons (pv 4) (pa_cons (pv 2) pa_nil)))) (pg_tup rfl (pgs_cons (pg_name (i := 5) sc_divisor_modulo.nd rfl (Or.inl rfl)) (pgs_cons (pg_name (i := 6) sc_divisor_modulo.nd rfl (Or.inl rfl)) pgs_nil))))
      (pss_one (ps_par (i := 3) (j := 4) (by rfl) sc_divisor_modulo.nd rfl rfl (by decide) rfl rfl (pa_cons (pv 4) (pa_cons (pv 6) pa_nil)) (by rfl)))))
      (pss_one (ps_ret (pv 3)))))), ?_⟩
    have p2 := hp.two
    refine ⟨_, rfl, _, rfl, a, xs, p, rfl, hA, by omega, by omega, fun h0 H1 hs s1 nh hh rh lh eh => ?_⟩
    refine ⟨_, rfl, _, rfl, b, ys, p, rfl, s1.seq hB, by omega, by omega, fun l0 H2 ls s2 nl hl rl ll el => ?_⟩
    refine ⟨fun m σ' H' => ∃ (h l : Addr) (hs ls : List Int) (y5 y6 : Option V), σ' = [some (.ref a), some (.ref b), some (.int (p : Int)), some (.ref h), some (.ref l), y5, y6] ∧ m = ls.length ∧ Same H H' ∧ H' h = some (.lst (hs.map V.int)) ∧ H' l = some (.lst (ls.map V.int)) ∧ RsP p hs ∧ RsP p ls ∧ hs.length ≤ 100 ∧ ls.length ≤ 100 ∧ ∀ G, MDv p G (ff xs) → MDv p G (ff ys) → MDv p G (ff hs) ∧ MDv p G (ff ls), ⟨_, h0, l0, hs, ls, none, none, rfl, rfl, s1.trans s2, s2 _ _ hh, hl, rh, rl, by omega, by omega, fun G g1 g2 => ⟨g1.eqv eh, g2.eqv el⟩⟩, ?_⟩
    rintro m _ H' ⟨h, l, hs, ls, y5, y6, rfl, rfl, sm, hh, hl, rh, rl, lh, ll, gg⟩
    refine ⟨_, rfl, _, _, rfl, .inl (SqL.of hl), _, _, rfl, rfl, _, rfl, iteD (fun c => ?_) (fun c => ?_)⟩
    · rw [len_map] at c
      refine ⟨fun σ2 H2 => ∃ m', m' < ls.length ∧ ∃ (h l : Addr) (hs ls : List Int) (y5 y6 : Option V), σ2 = [some (.ref a), some (.ref b), some (.int (p : Int)), some (.ref h), some (.ref l), y5, y6] ∧ m' = ls.length ∧ Same H H2 ∧ H2 h = some (.lst (hs.map V.int)) ∧ H2 l = some (.lst (ls.map V.int)) ∧ RsP p hs ∧ RsP p ls ∧ hs.length ≤ 100 ∧ ls.length ≤ 100 ∧ ∀ G, MDv p G (ff xs) → MDv p G (ff ys) → MDv p G (ff hs) ∧ MDv p G (ff ls), fun _ _ h => h, ?_⟩
      refine ⟨_, rfl, _, rfl, _, rfl, h, l, hs, ls, p, 0, rfl, SqL.of hh, SqL.of hl, hp, p62, rh, rl, by omega, lh, ll, fun t H3 pq pr qs rs s3 ht npr hr rr lr ⟨s, N, hs_, d⟩ => ?_⟩
      refine ⟨t, _, rfl, SqT.of ht, rfl, _, _, rfl, _, _, rfl, rfl, ?_⟩
      refine ⟨_, rfl, _, rfl, _, _, rfl, ?_⟩
      exact ⟨rs.length, lr, l, pr, ls, rs, _, _, rfl, rfl, sm.trans s3, s3 _ _ hl, hr, rl, rr, ll, by omega, fun G g1 g2 => ⟨(gg G g1 g2).2, (gg G g1 g2).1.rest (gg G g1 g2).2 hs_ d⟩⟩
    · exact ⟨_, rfl, q h H' hs sm hh rh fun G g1 g2 => (gg G g1 g2).1⟩

theorem ok_coprime_modulo (T : Tx K mg) (O_divisor_modulo : OkF P w K mg base 3 (He.fAd K ("divisor_modulo", none)) ["first", "second", "prime"] (spDvM K)) : OkF P w K mg base 4 (He.fAd K ("coprime_modulo", none)) ["first", "second", "prime"] (spCpM K) := by
  obtain ⟨_, G_divisor_modulo, b_divisor_modulo, k_divisor_modulo⟩ := O_divisor_modulo
  refine okF_of (d := d_coprime_modulo) T.d_coprime_modulo rfl sc_coprime_modulo (fun _ _ _ _ _ _ us hl => match us, hl with | [_, _, _], _ => rfl) (fun vs H Q E h => ?_) (fun cdv A outer s H vs Q E hr h => ?_)
  · (obtain ⟨_, _, _, _, _, _, rfl, _⟩ := h; rfl)
  · obtain ⟨a, b, xs, ys, p, z, rfl, hA, hB, hp, p62, x0, y0, lx, ly, q⟩ := h
    refine ⟨_, (pss_cons (ps_if (PW.pt (pw_and (pt_cmpR op_eq (pe_op op_mod (pe_ix ix_list (pv 0) (pe_un un_neg pe_int) (fun _ _ => rfl)) (pv 2)) pe_int (nomark _)) (pw_and1 (pt_cmpR op_eq (pe_op op_mod (pe_ix ix_list (pv 1) (pe_un un_neg pe_int) (fun _ _ => rfl)) (pv 2)) pe_int (nomark _))))) (pss_one (ps_ret pe_bl)) pss_nil)
      (pss_one (ps_ret (pe_cmpR op_eq (pe_callB call_len_seq (by rfl) T.z_len PySem.boot_len (pa_cons (pe_call G_divisor_modulo (hr.mono (by decide)) (by rfl) T.g_divisor_modulo k_divisor_modulo b_divisor_modulo .nil passL (pa_cons (pv 0) (pa_cons (pv 1) (pa_cons (pv 2) pa_nil)))) pa_nil)) pe_int (nomark _))))), ?_⟩
    have p2 := hp.two
    have ltx : xs.length - 1 < xs.length := by omega
    have lty : ys.length - 1 < ys.length := by omega
    have fin : (¬ (p : Int) ∣ ff xs (xs.length - 1) ∨ ¬ (p : Int) ∣ ff ys (ys.length - 1)) → ∀ t H' zs, Same H H' → H' t = some (.lst (zs.map V.int)) → RsP p zs → (∀ G, MDv p G (ff xs) → MDv p G (ff ys) → MDv p G (ff zs)) → Q (.bl (decide (V.int ((zs.map V.int).length : Int) = V.int 1))) H' := fun hl t H' zs sm ht rz gz => by
      refine q _ H' sm fun e => ⟨hl, ?_⟩
      have e1 := V.int.inj (of_decide_eq_true e)
      rw [len_map] at e1
      obtain ⟨c, rfl⟩ := List.length_eq_one_iff.mp (show zs.length = 1 by omega)
      have cr := rz.rng c (List.mem_cons_self ..)
      have c0 : c ≠ 0 := by
        rcases rz.last with h | h
        · cases h
        · exact h
      refine ⟨c, fun d => ?_, fun G g1 g2 => (gz G g1 g2).eqv fun k => ?_⟩
      · have := Int.le_of_dvd (by omega) d
        omega
      · match k with
        | 0 => show (p : Int) ∣ c - c; rw [Int.sub_self]; exact Int.dvd_zero _
        | k + 1 =>
          rw [if_neg (by omega)]
          show (p : Int) ∣ ([c] : List Int).getD (k + 1) 0 - 0
          rw [getD_end (by show 1 ≤ _; omega)]
          exact Int.dvd_zero _
    refine ⟨_, rfl, _, rfl, _, _, _, _, rfl, rfl, hA, at_last (by rw [len_map]; exact map_at (get_of_lt ltx)), _, rfl, _, _, rfl, rfl, (show (0 : Int) < p by omega), rfl, _, rfl, iteEq (fun c1 => ?_) (fun c1 => iteN rfl ?_)⟩
    · refine ⟨_, rfl, _, rfl, _, _, _, _, rfl, rfl, hB, at_last (by rw [len_map]; exact map_at (get_of_lt lty)), _, rfl, _, _, rfl, rfl, (show (0 : Int) < p by omega), rfl, _, rfl, iteEq (fun c2 => ?_) (fun c2 => ?_)⟩
      · exact q false H (fun _ _ e => e) fun e => Bool.noConfusion e
      · refine ⟨_, rfl, _, rfl, _, rfl, a, b, xs, ys, p, 0, rfl, hA, hB, hp, p62, lx, ly, fun t H' zs sm ht rz gz => ?_⟩
        exact ⟨_, _, rfl, .inl (SqL.of ht), rfl, fin (.inr fun d => c2 (Int.emod_eq_zero_of_dvd d)) t H' zs sm ht rz gz⟩
    · refine ⟨_, rfl, _, rfl, _, rfl, a, b, xs, ys, p, 0, rfl, hA, hB, hp, p62, lx, ly, fun t H' zs sm ht rz gz => ?_⟩
      exact ⟨_, _, rfl, .inl (SqL.of ht), rfl, fin (.inl fun d => c1 (Int.emod_eq_zero_of_dvd d)) t H' zs sm ht rz gz⟩

theorem ok_height (T : Tx K mg) : OkF P w K mg base 1 (He.fAd K ("height", none)) ["coefs"] (spHeiB K) := by
  refine okF_of (d := d_height) T.d_height rfl sc_height (fun _ _ _ _ _ _ us hl => match us, hl with | [_], _ => rfl) (fun vs H Q E h => ?_) (fun cdv A outer s H vs Q E hr h => ?_)
  · first | (obtain ⟨_, rfl, _⟩ := h; rfl) | (obtain ⟨_, _, rfl, _⟩ := h; rfl) | (obtain ⟨_, _, _, rfl, _⟩ := h; rfl) | (obtain ⟨_, _, _, _, rfl, _⟩ := h; rfl) | (obtain ⟨_, _, _, _, _, rfl, _⟩ := h; rfl) | (obtain ⟨_, _, _, _, _, _, rfl, _⟩ := h; rfl) | (obtain ⟨_, _, _, _, _, _, _, rfl, _⟩ := h; rfl) | (obtain ⟨_, _, _, _, _, _, _, _, rfl, _⟩ := h; rfl) | (obtain ⟨_, _, _, _, _, _, _, _, _, rfl, _⟩ := h; rfl) | (obtain ⟨_, _, _, _, _, _, _, _, _, _, rfl, _⟩ := h; rfl)
  · obtain ⟨a, xs, rfl, hS, l1, q⟩ := h
    rcases hS with hS | hS
    · refine ⟨_, (pss_one (ps_ret (pe_callBK (cr_maxD rfl hr.units) (by rfl) T.z_max (by decide +kernel) (pa_cons (pe_lc (own := [("c", 1)]) (g := gName 1) rfl sc_height.nd (pi_list (pv 0)) (blkOk_by (own := [("c", 1)]) (N := N_height) (sc := defScope s_height) (by decide +kernel)) (fun _ _ _ _ _ => (pg_name (i := 1) sc_height.nd rfl (Or.inl rfl))) (fun _ _ _ _ _ => pts_nil) (fun _ _ _ _ _ => (pe_callB call_abs (by rfl) T.z_abs (by decide +kernel) (pa_cons (pv 1) pa_nil)))) pa_nil) (pk_cons pe_int pk_nil)))), ?_⟩
      have gv : ∀ (h : Nat), (∀ x ∈ xs, x.natAbs ≤ h) → ∀ i, (xs.getD i 0).natAbs ≤ h := fun h hh i => by
        by_cases c : i < xs.length
        · exact hh _ (List.mem_of_getElem? (get_of_lt c))
        · rw [getD_end (by omega)]; exact Nat.zero_le _
      refine ⟨_, rfl, a, rfl, ⟨_, hS⟩, fun D nD => ?_⟩
      refine walkL (xs := xs.map V.int) (fun i H' => Same H H' ∧ H' D = some (.lst (((xs.take i).map fun x => (x.natAbs : Int)).map V.int))) ⟨sm_new nD, upd_same⟩ (fun i H' hi hP => hP.1.seq hS) (fun i x H' hi hP => ?_) (fun H' hP => ?_)
      · obtain ⟨u, hu, rfl⟩ := get_map_int hi
        obtain ⟨sm, hD⟩ := hP
        refine ⟨rfl, ?_⟩
        unfold tYes
        refine iteK rfl ?_
        refine ⟨_, rfl, _, rfl, _, hD, by rw [List.length_map, List.length_map, List.length_take]; exact small1000 (by omega), same_mut sm nD, ?_⟩
        rw [upd_same, List.take_succ, hu, List.map_append, List.map_append, show (if u < 0 then -u else u) = (u.natAbs : Int) by split <;> omega]
        rfl
      obtain ⟨sm, hD⟩ := hP
      rw [len_map, List.take_length] at hD
      refine ⟨D, _, 0, rfl, rfl, SqL.of hD, fun e => ?_, fun m hm hm2 => ?_⟩
      · have e2 : xs = [] := by simpa using e
        exact q 0 H' sm (gv 0 fun x hx => by rw [e2] at hx; cases hx) (fun k _ => Nat.two_pow_pos k)
      · obtain ⟨x, hx, rfl⟩ := List.mem_map.mp hm
        exact q x.natAbs H' sm (gv _ fun y hy => by have := hm2 _ (List.mem_map.mpr ⟨y, hy, rfl⟩); omega) (fun k hk => hk x hx)
    · refine ⟨_, (pss_one (ps_ret (pe_callBK (cr_maxD rfl hr.units) (by rfl) T.z_max (by decide +kernel) (pa_cons (pe_lc (own := [("c", 1)]) (g := gName 1) rfl sc_height.nd (pi_tup (pv 0)) (blkOk_by (own := [("c", 1)]) (N := N_height) (sc := defScope s_height) (by decide +kernel)) (fun _ _ _ _ _ => (pg_name (i := 1) sc_height.nd rfl (Or.inl rfl))) (fun _ _ _ _ _ => pts_nil) (fun _ _ _ _ _ => (pe_callB call_abs (by rfl) T.z_abs (by decide +kernel) (pa_cons (pv 1) pa_nil)))) pa_nil) (pk_cons pe_int pk_nil)))), ?_⟩
      have gv : ∀ (h : Nat), (∀ x ∈ xs, x.natAbs ≤ h) → ∀ i, (xs.getD i 0).natAbs ≤ h := fun h hh i => by
        by_cases c : i < xs.length
        · exact hh _ (List.mem_of_getElem? (get_of_lt c))
        · rw [getD_end (by omega)]; exact Nat.zero_le _
      refine ⟨_, rfl, a, rfl, ⟨_, hS⟩, fun D nD => ?_⟩
      refine walkT (xs := xs.map V.int) (fun i H' => Same H H' ∧ H' D = some (.lst (((xs.take i).map fun x => (x.natAbs : Int)).map V.int))) ⟨sm_new nD, upd_same⟩ (fun i H' hi hP => sm_tup hP.1 hS) (fun i x H' hi hP => ?_) (fun H' hP => ?_)
      · obtain ⟨u, hu, rfl⟩ := get_map_int hi
        obtain ⟨sm, hD⟩ := hP
        refine ⟨rfl, ?_⟩
        unfold tYes
        refine iteK rfl ?_
        refine ⟨_, rfl, _, rfl, _, hD, by rw [List.length_map, List.length_map, List.length_take]; exact small1000 (by omega), same_mut sm nD, ?_⟩
        rw [upd_same, List.take_succ, hu, List.map_append, List.map_append, show (if u < 0 then -u else u) = (u.natAbs : Int) by split <;> omega]
        rfl
      obtain ⟨sm, hD⟩ := hP
      rw [len_map, List.take_length] at hD
      refine ⟨D, _, 0, rfl, rfl, SqL.of hD, fun e => ?_, fun m hm hm2 => ?_⟩
      · have e2 : xs = [] := by simpa using e
        exact q 0 H' sm (gv 0 fun x hx => by rw [e2] at hx; cases hx) (fun k _ => Nat.two_pow_pos k)
      · obtain ⟨x, hx, rfl⟩ := List.mem_map.mp hm
        exact q x.natAbs H' sm (gv _ fun y hy => by have := hm2 _ (List.mem_map.mpr ⟨y, hy, rfl⟩); omega) (fun k hk => hk x hx)

theorem ok_evaluated (T : Tx K mg) : OkF P w K mg base 1 (He.fAd K ("evaluated", none)) ["coefs", "at"] (spEvaB K) := by
  refine okF_of (d := d_evaluated) T.d_evaluated rfl sc_evaluated (fun _ _ _ _ _ _ us hl => match us, hl with | [_, _], _ => rfl) (fun vs H Q E h => ?_) (fun cdv A outer s H vs Q E hr h => ?_)
  · first | (obtain ⟨_, rfl, _⟩ := h; rfl) | (obtain ⟨_, _, rfl, _⟩ := h; rfl) | (obtain ⟨_, _, _, rfl, _⟩ := h; rfl) | (obtain ⟨_, _, _, _, rfl, _⟩ := h; rfl) | (obtain ⟨_, _, _, _, _, rfl, _⟩ := h; rfl) | (obtain ⟨_, _, _, _, _, _, rfl, _⟩ := h; rfl) | (obtain ⟨_, _, _, _, _, _, _, rfl, _⟩ := h; rfl) | (obtain ⟨_, _, _, _, _, _, _, _, rfl, _⟩ := h; rfl) | (obtain ⟨_, _, _, _, _, _, _, _, _, rfl, _⟩ := h; rfl) | (obtain ⟨_, _, _, _, _, _, _, _, _, _, rfl, _⟩ := h; rfl)
  · obtain ⟨a, cs, x, k, j, rfl, hS, hb, hx, hk, q⟩ := h
    rcases hS with hS | hS
    · refine ⟨_, (pss_cons (ps_setI (i := 2) sc_evaluated.nd rfl (Or.inl rfl) pe_int)
      (pss_cons (ps_for PassesOwn.leaving rfl (RT.pi_revA (by rfl) T.z_reversed (pv 0)) (pg_name (i := 3) sc_evaluated.nd rfl (Or.inl rfl)) (pss_one (ps_setI (i := 2) sc_evaluated.nd rfl (Or.inl rfl) (pe_op op_add (pe_op op_mulW (pv 2) (pv 1)) (pv 3)))))
      (pss_one (ps_ret (pv 2))))), ?_⟩
      refine ⟨_, rfl, fun t0 et => ?_⟩
      refine ⟨_, rfl, _, _, rfl, .inl ⟨hS, RT.for_Itv (K := K) (a := a) (xs := cs.map V.int) (fun i σ' H' => H = H' ∧ ∃ (t : Int) (y : Option V), σ' = [some (.ref a), some (.int x), some (.int t), y] ∧ t = evL x (cs.drop (cs.length - i)))
        ⟨rfl, t0, none, rfl, by rw [et, Nat.sub_zero, List.drop_length]; rfl⟩ (fun i σ' H' hI => ?_) (fun i y σ' H' hlt hi hI => ?_) (fun σ' H' hI => ?_)⟩⟩
      · obtain ⟨rfl, t, y, rfl, ht⟩ := hI
        exact hS
      · obtain ⟨rfl, t, y0, rfl, ht⟩ := hI
        rw [len_map] at hlt hi
        obtain ⟨c, hc, rfl⟩ : ∃ c, cs[cs.length - 1 - i]? = some c ∧ y = V.int c := by
          rw [List.getElem?_map] at hi
          cases e : cs[cs.length - 1 - i]? with
          | none => rw [e] at hi; cases hi
          | some u => rw [e] at hi; cases hi; exact ⟨u, rfl, rfl⟩
        have tb := evL_bits hx (k := k) (cs := cs.drop (cs.length - i)) fun z hz => hb z (List.mem_of_mem_drop hz)
        rw [← ht, List.length_drop] at tb
        have le : (j + 1) * (cs.length - (cs.length - i)) ≤ (j + 1) * cs.length := Nat.mul_le_mul_left _ (by omega)
        rw [Nat.mul_add] at hk
        refine ⟨_, rfl, _, rfl, _, _, rfl, rfl, mulW tb hx (by omega), _, rfl, _, _, rfl, rfl, _, rfl, fun t2 e2 => ?_⟩
        refine ⟨rfl, t2, _, rfl, ?_⟩
        rw [e2, ht, drop_rev hc hlt]
        rfl
      · obtain ⟨rfl, t, y, rfl, ht⟩ := hI
        rw [len_map, Nat.sub_self, List.drop_zero] at ht
        rw [← ht] at q
        exact ⟨_, rfl, q⟩
    · refine ⟨_, (pss_cons (ps_setI (i := 2) sc_evaluated.nd rfl (Or.inl rfl) pe_int)
      (pss_cons (ps_for PassesOwn.leaving rfl (RT.pi_revA (by rfl) T.z_reversed (pv 0)) (pg_name (i := 3) sc_evaluated.nd rfl (Or.inl rfl)) (pss_one (ps_setI (i := 2) sc_evaluated.nd rfl (Or.inl rfl) (pe_op op_add (pe_op op_mulW (pv 2) (pv 1)) (pv 3)))))
      (pss_one (ps_ret (pv 2))))), ?_⟩
      refine ⟨_, rfl, fun t0 et => ?_⟩
      refine ⟨_, rfl, _, _, rfl, .inr ⟨hS, RT.for_ItvT (K := K) (a := a) (xs := cs.map V.int) (fun i σ' H' => H = H' ∧ ∃ (t : Int) (y : Option V), σ' = [some (.ref a), some (.int x), some (.int t), y] ∧ t = evL x (cs.drop (cs.length - i)))
        ⟨rfl, t0, none, rfl, by rw [et, Nat.sub_zero, List.drop_length]; rfl⟩ (fun i σ' H' hI => ?_) (fun i y σ' H' hlt hi hI => ?_) (fun σ' H' hI => ?_)⟩⟩
      · obtain ⟨rfl, t, y, rfl, ht⟩ := hI
        exact hS
      · obtain ⟨rfl, t, y0, rfl, ht⟩ := hI
        rw [len_map] at hlt hi
        obtain ⟨c, hc, rfl⟩ : ∃ c, cs[cs.length - 1 - i]? = some c ∧ y = V.int c := by
          rw [List.getElem?_map] at hi
          cases e : cs[cs.length - 1 - i]? with
          | none => rw [e] at hi; cases hi
          | some u => rw [e] at hi; cases hi; exact ⟨u, rfl, rfl⟩
        have tb := evL_bits hx (k := k) (cs := cs.drop (cs.length - i)) fun z hz => hb z (List.mem_of_mem_drop hz)
        rw [← ht, List.length_drop] at tb
        have le : (j + 1) * (cs.length - (cs.length - i)) ≤ (j + 1) * cs.length := Nat.mul_le_mul_left _ (by omega)
        rw [Nat.mul_add] at hk
        refine ⟨_, rfl, _, rfl, _, _, rfl, rfl, mulW tb hx (by omega), _, rfl, _, _, rfl, rfl, _, rfl, fun t2 e2 => ?_⟩
        refine ⟨rfl, t2, _, rfl, ?_⟩
        rw [e2, ht, drop_rev hc hlt]
        rfl
      · obtain ⟨rfl, t, y, rfl, ht⟩ := hI
        rw [len_map, Nat.sub_self, List.drop_zero] at ht
        rw [← ht] at q
        exact ⟨_, rfl, q⟩

theorem ok__digits (T : Tx K mg) : OkF P w K mg base 1 (He.fAd K ("_digits", none)) ["number", "base"] (spDig K) := by
  refine okF_of (d := d__digits) T.d__digits rfl sc__digits (fun _ _ _ _ _ _ us hl => match us, hl with | [_, _], _ => rfl) (fun vs H Q E h => ?_) (fun cdv A outer s H vs Q E hr h => ?_)
  · (obtain ⟨_, _, _, rfl, _⟩ := h; rfl)
  · obtain ⟨n, X, L, rfl, X3, X8, nb, hL, q⟩ := h
    refine ⟨_, (pss_cons (ps_set (i := 2) sc__digits.nd rfl (Or.inl rfl) (pe_lst pa_nil))
      (pss_cons (ps_while PassesOwn.leaving (pt_cmpR op_ne (pv 0) pe_int (nomark _)) (pss_cons (ps_setI (i := 3) sc__digits.nd rfl (Or.inl rfl) (pe_op op_mod (pv 0) (pv 1)))
      (Evl.pss_cut (ps_if (pt_cmpR op_gt (pe_op op_mulW pe_int (pv 3)) (pv 1) (nomark _)) (pss_one (ps_setI (i := 3) sc__digits.nd rfl (Or.inl rfl) (pe_op op_sub (pv 3) (pv 1)))) pss_nil)
      (pss_cons (ps_expr (pe_bm PySem.F.plainAttrs_list PySem.F.slot_list_append PySem.F.type_list_append mt_append (pv 2) (pa_cons (pv 3) pa_nil)))
      (pss_one (ps_setI (i := 0) sc__digits.nd rfl (Or.inl rfl) (pe_op op_fdivW (pe_op op_sub (pv 0) (pv 3)) (pv 1))))))))
      (pss_one (ps_ret (pv 2))))), ?_⟩
    refine ⟨by show 0 ≤ sizeLine; decide, fun D nD => ?_⟩
    have s0 := sm_new (o := .lst []) nD
    have hD0 : (upd H D (.lst [])) D = some (.lst (([] : List Int).map V.int)) := upd_same
    generalize upd H D (.lst []) = H0 at s0 hD0 ⊢
    refine ⟨fun m σ' H' => ∃ (v : Int) (ds : List Int) (y3 : Option V), σ' = [some (.int v), some (.int (X : Int)), some (.ref D), y3] ∧ m = v.natAbs ∧ Same H H' ∧ H' D = some (.lst (ds.map V.int)) ∧ (∀ d ∈ ds, 2 * d.natAbs ≤ X) ∧ e1 (ff ds) (X : Int) ds.length + v * (X : Int) ^ ds.length = n ∧ (v ≠ 0 → ds.length ≤ L ∧ v.natAbs ≤ X ^ (L - ds.length)) ∧ ds.length ≤ L + 1 ∧ (v = 0 → ds = [] ∨ ds.getD (ds.length - 1) 0 ≠ 0), ⟨_, n, [], none, rfl, rfl, s0, hD0, fun d hd => absurd hd (by simp), by show (0 : Int) + n * (X : Int) ^ 0 = n; rw [Int.pow_zero]; omega, fun _ => ⟨Nat.zero_le _, nb⟩, Nat.zero_le _, fun _ => .inl rfl⟩, ?_⟩
    rintro m _ H' ⟨v, ds, y3, rfl, rfl, sm, hD, sd, val, vb, dl, last⟩
    refine ⟨_, rfl, rfl, _, rfl, iteEqN (fun v0 => ?_) (fun v0 => ?_)⟩
    · obtain ⟨dL, vX⟩ := vb v0
      refine ⟨fun σ2 H2 => ∃ m', m' < v.natAbs ∧ ∃ (v : Int) (ds : List Int) (y3 : Option V), σ2 = [some (.int v), some (.int (X : Int)), some (.ref D), y3] ∧ m' = v.natAbs ∧ Same H H2 ∧ H2 D = some (.lst (ds.map V.int)) ∧ (∀ d ∈ ds, 2 * d.natAbs ≤ X) ∧ e1 (ff ds) (X : Int) ds.length + v * (X : Int) ^ ds.length = n ∧ (v ≠ 0 → ds.length ≤ L ∧ v.natAbs ≤ X ^ (L - ds.length)) ∧ ds.length ≤ L + 1 ∧ (v = 0 → ds = [] ∨ ds.getD (ds.length - 1) 0 ≠ 0), fun _ _ h => h, ?_⟩
      refine ⟨_, rfl, _, rfl, _, _, rfl, rfl, (show (0 : Int) < X by omega), _, rfl, fun d0 ed => ?_⟩
      have r0 := Int.emod_nonneg v (show (X : Int) ≠ 0 by omega)
      have r1 := Int.emod_lt_of_pos v (show (0 : Int) < X by omega)
      have d0b : d0.natAbs < 2 ^ 8000 := by
        rw [ed]
        exact Nat.lt_trans (show (v % (X : Int)).natAbs < X by omega) X8
      refine ⟨fun σ3 H3 => H' = H3 ∧ ∃ d : Int, σ3 = [some (.int v), some (.int (X : Int)), some (.ref D), some (.int d)] ∧ 2 * d.natAbs ≤ X ∧ (X : Int) ∣ v - d, ?_, ?_⟩
      · refine ⟨_, rfl, _, _, rfl, rfl, mulW (a := 2) (by decide) d0b (by decide), _, rfl, _, _, rfl, rfl, _, rfl, iteD (fun z => ?_) (fun z => ?_)⟩
        · refine ⟨_, rfl, _, rfl, _, _, rfl, rfl, _, rfl, fun d ed2 => ⟨rfl, d, rfl, by omega, ?_⟩⟩
          obtain ⟨t, ht⟩ := mod_sub_dvd X v
          exact ⟨t + 1, by rw [Int.mul_add]; omega⟩
        · exact ⟨rfl, d0, rfl, by omega, by rw [ed]; exact mod_sub_dvd X v⟩
      rintro _ _ ⟨rfl, d, rfl, d2, t, ht⟩
      refine ⟨_, rfl, .inl ⟨rfl, _, SqL.of hD⟩, _, rfl, _, _, _, rfl, rfl, hD, by rw [len_map]; exact small1000 (by omega), ?_⟩
      refine ⟨_, rfl, _, rfl, _, _, rfl, rfl, _, rfl, _, _, rfl, rfl, divW (b := 8000) (by omega) (by rw [Int.natAbs_natCast]; exact X8) (by decide), _, rfl, fun v2 ev2 => ?_⟩
      have et : v2 = t := by rw [ev2, ht]; exact Int.mul_ediv_cancel_left t (by omega)
      subst et
      have vt : v = d + (X : Int) * v2 := by omega
      -- |v2| X ≤ |v| + |d|
      have ab : X * v2.natAbs ≤ v.natAbs + d.natAbs := by
        have := Int.natAbs_sub_le v d
        rw [ht, Int.natAbs_mul, Int.natAbs_natCast] at this
        exact this
      have lt : v2.natAbs < v.natAbs := by
        refine Decidable.byContradiction fun c => ?_
        have h3 : 3 * v2.natAbs ≤ X * v2.natAbs := Nat.mul_le_mul_right _ X3
        have h4 : X * 1 ≤ X * v2.natAbs := Nat.mul_le_mul_left _ (by omega)
        omega
      refine ⟨v2.natAbs, lt, v2, ds ++ [d], _, rfl, rfl, same_mut sm nD, by rw [upd_same, List.map_append]; rfl, fun x hx => ?_, ?_, fun v20 => ?_, ?_, fun v20 => ?_⟩
      · rcases List.mem_append.mp hx with hx | hx
        · exact sd x hx
        · rw [List.mem_singleton.mp hx]; exact d2
      · rw [List.length_append]
        show e1 (ff (ds ++ [d])) (X : Int) (ds.length + 1) + v2 * (X : Int) ^ (ds.length + 1) = n
        rw [e1_snoc, ← val, vt, Int.pow_succ]
        grind
      · rw [List.length_append]
        show ds.length + 1 ≤ L ∧ v2.natAbs ≤ X ^ (L - (ds.length + 1))
        by_cases c : ds.length = L
        · exfalso
          rw [c, Nat.sub_self, Nat.pow_zero] at vX
          have h4 : X * 1 ≤ X * v2.natAbs := Nat.mul_le_mul_left _ (by omega)
          omega
        · refine ⟨by omega, ?_⟩
          obtain ⟨j, hj⟩ : ∃ j, L - ds.length = j + 1 := ⟨L - ds.length - 1, by omega⟩
          rw [show L - (ds.length + 1) = j by omega]
          rw [hj, Nat.pow_succ] at vX
          refine Decidable.byContradiction fun c2 => ?_
          obtain ⟨u, hu⟩ : ∃ u, v2.natAbs = X ^ j + 1 + u := ⟨v2.natAbs - (X ^ j + 1), by omega⟩
          rw [hu, Nat.mul_add, Nat.mul_add, Nat.mul_comm X (X ^ j)] at ab
          omega
      · rw [List.length_append]
        show ds.length + 1 ≤ L + 1
        omega
      · right
        rw [List.length_append]
        show (ds ++ [d]).getD (ds.length + 1 - 1) 0 ≠ 0
        rw [Nat.add_sub_cancel, List.getD_eq_getElem?_getD, List.getElem?_append_right (Nat.le_refl _), Nat.sub_self]
        show d ≠ 0
        intro z
        rw [z, v20, Int.mul_zero] at vt
        exact v0 vt
    · have v0' : v = 0 := v0
      rw [v0', Int.zero_mul, Int.add_zero] at val
      exact ⟨_, rfl, q D H' ds sm nD hD ⟨val, sd, last v0'⟩ dl⟩

theorem ok__divide_coefs (T : Tx K mg) : OkF P w K mg base 1 (He.fAd K ("_divide_coefs", none)) ["first", "second"] (spDivC K) := by
  refine okF_of (d := d__divide_coefs) T.d__divide_coefs rfl sc__divide_coefs (fun _ _ _ _ _ _ us hl => match us, hl with | [_, _], _ => rfl) (fun vs H Q E h => ?_) (fun cdv A outer s H vs Q E hr h => ?_)
  · first | (obtain ⟨_, rfl, _⟩ := h; rfl) | (obtain ⟨_, _, rfl, _⟩ := h; rfl) | (obtain ⟨_, _, _, rfl, _⟩ := h; rfl) | (obtain ⟨_, _, _, _, rfl, _⟩ := h; rfl) | (obtain ⟨_, _, _, _, _, rfl, _⟩ := h; rfl) | (obtain ⟨_, _, _, _, _, _, rfl, _⟩ := h; rfl) | (obtain ⟨_, _, _, _, _, _, _, rfl, _⟩ := h; rfl) | (obtain ⟨_, _, _, _, _, _, _, _, rfl, _⟩ := h; rfl) | (obtain ⟨_, _, _, _, _, _, _, _, _, rfl, _⟩ := h; rfl) | (obtain ⟨_, _, _, _, _, _, _, _, _, _, rfl, _⟩ := h; rfl)
  · obtain ⟨a, b, xs, ys, k, rfl, hA, hB, b1, b2, y0, lz, l1, l2, hk, q⟩ := h
    refine ⟨_, (pss_cons (ps_setI (i := 2) sc__divide_coefs.nd rfl (Or.inl rfl) (pe_op op_add (pe_op op_sub (pe_callB call_len_seq (by rfl) T.z_len PySem.boot_len (pa_cons (pv 0) pa_nil)) (pe_callB call_len_seq (by rfl) T.z_len PySem.boot_len (pa_cons (pv 1) pa_nil))) pe_int))
      (pss_cons (ps_setLc (i := 3) (own := [("_", 13)]) (g := gName 13) rfl sc__divide_coefs.nd rfl rfl (sw_true rfl rfl rfl (by decide +kernel)) (pi_range1 rfl T.z_range (pa_cons (pv 2) pa_nil)) (blkOk_by (own := [("_", 13)]) (N := N__divide_coefs) (sc := defScope s__divide_coefs) (by decide +kernel)) (fun _ _ _ _ _ => (pg_name (i := 13) sc__divide_coefs.nd rfl (Or.inl rfl))) (fun _ _ _ _ _ => pts_nil) (fun _ _ _ _ _ => pe_int))
      (pss_cons (ps_set (i := 4) sc__divide_coefs.nd rfl (Or.inl rfl) (pe_callTy call_list_of (by rfl) T.z_list (by decide +kernel) (pa_cons (pv 0) pa_nil)))
      (pss_cons (ps_setI (i := 5) sc__divide_coefs.nd rfl (Or.inl rfl) pe_int)
      (pss_cons (ps_setI (i := 6) sc__divide_coefs.nd rfl (Or.inl rfl) (pe_ix ix_tup (pv 1) (pe_un un_neg pe_int) (fun _ _ => rfl)))
      (pss_cons (ps_for PassesOwn.leaving rfl (pi_range3 rfl T.z_range (pa_cons (pe_op op_sub (pv 2) pe_int) (pa_cons (pe_un un_neg pe_int) (pa_cons (pe_un un_neg pe_int) pa_nil)))) (pg_name (i := 7) sc__divide_coefs.nd rfl (Or.inl rfl)) (pss_cons (ps_setI (i := 8) sc__divide_coefs.nd rfl (Or.inl rfl) (pe_ix ix_list (pv 4) (pe_op op_sub (pe_op op_add (pv 7) (pe_callB call_len_seq (by rfl) T.z_len PySem.boot_len (pa_cons (pv 1) pa_nil))) pe_int) (fun _ _ => rfl)))
      (Evl.pss_cut (ps_if (pt_cmpR op_ne (pe_op op_modN (pv 8) (pv 6)) pe_int (nomark _)) (pss_cons (ps_setI (i := 9) sc__divide_coefs.nd rfl (Or.inr rfl) (pe_op op_fdivZ (pv 6) (pe_callBfun cr_gcd rfl T.g_gcd (pa_cons (pv 8) (pa_cons (pv 6) pa_nil)))))
      (pss_cons (ps_setLc (i := 3) (own := [("c", 12)]) (g := gName 12) rfl sc__divide_coefs.nd rfl rfl (sw_true rfl rfl rfl (by decide +kernel)) (pi_list (pv 3)) (blkOk_by (own := [("c", 12)]) (N := N__divide_coefs) (sc := defScope s__divide_coefs) (by decide +kernel)) (fun _ _ _ _ _ => (pg_name (i := 12) sc__divide_coefs.nd rfl (Or.inl rfl))) (fun _ _ _ _ _ => pts_nil) (fun _ _ _ _ _ => (pe_op op_mulW (pv 12) (pv 9))))
      (pss_cons (ps_setLc (i := 4) (own := [("c", 12)]) (g := gName 12) rfl sc__divide_coefs.nd rfl rfl (sw_true rfl rfl rfl (by decide +kernel)) (pi_list (pv 4)) (blkOk_by (own := [("c", 12)]) (N := N__divide_coefs) (sc := defScope s__divide_coefs) (by decide +kernel)) (fun _ _ _ _ _ => (pg_name (i := 12) sc__divide_coefs.nd rfl (Or.inl rfl))) (fun _ _ _ _ _ => pts_nil) (fun _ _ _ _ _ => (pe_op op_mulW (pv 12) (pv 9))))
      (pss_cons (ps_setI (i := 5) sc__divide_coefs.nd rfl (Or.inl rfl) (pe_op op_mulW (pv 5) (pv 9)))
      (pss_one (ps_setI (i := 8) sc__divide_coefs.nd rfl (Or.inl rfl) (pe_op op_mulW (pv 8) (pv 9)))))))) pss_nil)
      (pss_cons (ps_setI (i := 10) sc__divide_coefs.nd rfl (Or.inl rfl) (pe_op op_fdivZ (pv 8) (pv 6)))
      (pss_cons (ps_asg (pv 10) (pg_sub (pv 3) (pv 7) set_list))
      (pss_one (ps_if (pt_cmpR op_ne (pv 10) pe_int (nomark _)) (pss_one (ps_for PassesOwn.leaving rfl (pi_enumT (by rfl) T.z_enumerate (pa_cons (pv 1) pa_nil)) (pg_tup rfl (pgs_cons (pg_name (i := 11) sc__divide_coefs.nd rfl (Or.inl rfl)) (pgs_cons (pg_name (i := 12) sc__divide_coefs.nd rfl (Or.inl rfl)) pgs_nil))) (pss_one (ps_asg (pe_op op_sub (pe_ix ix_list (pv 4) (pe_op op_add (pv 7) (pv 11)) (fun _ _ => rfl)) (pe_op op_mulW (pv 10) (pv 12))) (pg_sub (pv 4) (pe_op op_add (pv 7) (pv 11)) set_list))))) pss_nil)))))))
      (pss_one (ps_ret (pe_tup (pa_cons (pv 3) (pa_cons (pv 4) (pa_cons (pv 5) pa_nil)))))))))))), ?_⟩
    refine ⟨_, rfl, _, _, rfl, .inr hA, _, rfl, _, _, rfl, .inr hB, _, _, rfl, rfl, _, _, rfl, rfl, _, rfl, fun cnt ec => ?_⟩
    rw [len_map, len_map] at ec
    refine ⟨_, rfl, _, rfl, by omega, by omega, fun D nD => lc_range (lo := 0) (n := cnt.toNat) (fun i H' => Same H H' ∧ H' D = some (.lst ((List.replicate i (0 : Int)).map V.int))) ⟨sm_new nD, upd_same⟩ (fun i H' hi hP => ?_) (fun H1 hP => ?_)⟩
    · obtain ⟨sm, hD⟩ := hP
      refine ⟨rfl, ?_⟩
      unfold tYes
      refine iteK rfl ?_
      refine ⟨_, hD, by rw [len_map, List.length_replicate]; exact small1000 (by omega), same_mut sm nD, ?_⟩
      rw [upd_same, List.replicate_succ', List.map_append]
      rfl
    obtain ⟨s1, hD⟩ := hP
    refine ⟨_, rfl, a, _, rfl, .inr (sm_tup s1 hA), fun pr0 npr => ?_⟩
    have s2 := s1.trans (sm_new (o := .lst (xs.map V.int)) npr)
    have Dp : D ≠ pr0 := ne_of_none hD npr
    have hD2 : (upd H1 pr0 (.lst (xs.map V.int))) D = some (.lst ((List.replicate cnt.toNat (0 : Int)).map V.int)) := by rw [upd_ne Dp]; exact hD
    have hp2 : (upd H1 pr0 (.lst (xs.map V.int))) pr0 = some (.lst (xs.map V.int)) := upd_same
    have nr0 : H pr0 = none := s1.free npr
    generalize upd H1 pr0 (.lst (xs.map V.int)) = H2 at s2 hD2 hp2 ⊢
    refine ⟨_, rfl, fun f0 ef => ?_⟩
    have lt : ys.length - 1 < ys.length := by omega
    refine ⟨_, rfl, _, rfl, _, _, _, _, rfl, rfl, sm_tup s2 hB, at_last (by rw [len_map]; exact map_at (get_of_lt lt)), _, rfl, fun ld eld => ?_⟩
    have ld0 : ld ≠ 0 := by rw [eld]; exact lz
    have ldb : ld.natAbs < 2 ^ k := by rw [eld]; exact b2.getD _
    obtain ⟨CN, hCN⟩ : ∃ CN : Nat, cnt.toNat = CN := ⟨_, rfl⟩
    have cn1 : CN ≤ xs.length := by omega
    rw [hCN] at hD2
    refine ⟨_, rfl, _, _, rfl, rfl, _, rfl, _, rfl, _, _, _, _, rfl, RgC.neg (by omega) (by omega) (by omega) (by omega), for_rangeC (lo := cnt - 1) (c := -1) (n := (cnt - 1 - (-1)).toNat) (fun t σ' H' => ∃ (pq pr : Addr) (qs rs : List Int) (f : Int) (y7 y8 y9 y10 y11 y12 : Option V), σ' = [some (.ref a), some (.ref b), some (.int cnt), some (.ref pq), some (.ref pr), some (.int f), some (.int ld), y7, y8, y9, y10, y11, y12, none] ∧
        Same H H' ∧ H pq = none ∧ H pr = none ∧ pq ≠ pr ∧ H' pq = some (.lst (qs.map V.int)) ∧ H' pr = some (.lst (rs.map V.int)) ∧ qs.length = CN ∧ DivAt f xs qs rs ys (CN - t) ∧ FqC f qs ∧ Bits (dvB k t) qs ∧ Bits (dvB k t) rs ∧ f.natAbs < 2 ^ (dvB k t))
      ⟨D, pr0, List.replicate CN 0, xs, f0, none, none, none, none, none, none, rfl, s2, nD, nr0, Dp, hD2, hp2, List.length_replicate, ?_, ?_, ?_, ?_, ?_⟩ (fun t σ' H' ht hI => ?_) (fun σ' H' hI => ?_)⟩
    · rw [ef]; exact DivAt.start (by omega)
    · rw [ef]; exact FqC.start
    · exact ⟨fun x hx => by rw [(List.mem_replicate.mp hx).2]; exact Nat.pow_pos (by decide)⟩
    · exact b1.mono (by unfold dvB; omega)
    · rw [ef]; exact Nat.lt_of_lt_of_le (show 1 < 2 ^ 1 by decide) (Nat.pow_le_pow_right (by decide) (by unfold dvB; omega))
    · obtain ⟨pq, pr, qs, rs, f, y7, y8, y9, y10, y11, y12, rfl, sm, nq, nr, qr, hq, hr, ql, m, fc, bq, br, bf⟩ := hI
      obtain ⟨n, hn⟩ : ∃ n : Nat, CN - t = n + 1 := ⟨CN - t - 1, by omega⟩
      rw [hn] at m
      have nl : n < CN := by omega
      have rl := m.rl
      have bB : dvB k t + (k + 1) ≤ dvB k xs.length := by rw [← dvB_more]; exact dvB_le (by omega)
      have bT : dvB k xs.length ≤ 300000 := by
        have z := Nat.mul_le_mul (show k + 1 ≤ 2001 by omega) l1
        unfold dvB
        omega
      have hat : cnt - 1 + (t : Int) * -1 = (n : Int) := by omega
      rw [hat]
      have rlt : n + ys.length - 1 < rs.length := by omega
      refine ⟨_, rfl, _, rfl, _, rfl, _, _, rfl, .inr (sm_tup sm hB), _, _, rfl, rfl, _, _, rfl, rfl, _, _, _, _, rfl, rfl, SqL.of hr, at_of (j := n + ys.length - 1) (by rw [len_map]; omega) (map_at (get_of_lt rlt)), _, rfl, fun tp etp => ?_⟩
      have tpb : tp.natAbs < 2 ^ (dvB k t) := by rw [etp]; exact br.getD _
      refine ⟨fun σ2 H2 => ∃ (pq pr : Addr) (qs rs : List Int) (f tp : Int) (y9 : Option V), σ2 = [some (.ref a), some (.ref b), some (.int cnt), some (.ref pq), some (.ref pr), some (.int f), some (.int ld), some (.int (n : Int)), some (.int tp), y9, y10, y11, y12, none] ∧
        Same H H2 ∧ H pq = none ∧ H pr = none ∧ pq ≠ pr ∧ H2 pq = some (.lst (qs.map V.int)) ∧ H2 pr = some (.lst (rs.map V.int)) ∧ qs.length = CN ∧ DivAt f xs qs rs ys (n + 1) ∧ FqH f qs tp ld ∧ Bits (dvB k t + k) qs ∧ Bits (dvB k t + k) rs ∧ f.natAbs < 2 ^ (dvB k t + k) ∧ ld ∣ tp ∧ tp = rs.getD (n + ys.length - 1) 0 ∧ tp.natAbs < 2 ^ (dvB k t) * ld.natAbs, ?_, ?_⟩
      · refine ⟨_, rfl, _, rfl, _, _, rfl, rfl, ld0, rfl, _, rfl, iteEqN (fun c0 => ?_) (fun c0 => ?_)⟩
        rotate_left
        · exact ⟨pq, pr, qs, rs, f, tp, _, rfl, sm, nq, nr, qr, hq, hr, ql, m, fc.weak, bq.mono (by omega), br.mono (by omega), abs_mono bf (by omega), dvd_of_fmod c0, etp, Nat.lt_of_lt_of_le tpb (Nat.le_mul_of_pos_right _ (by omega))⟩
        refine ⟨_, rfl, _, rfl, _, rfl, _, _, rfl, ?_⟩
        obtain ⟨g0, gl, s0, sl, dv⟩ := dvd_scale (t := tp) (l := ld) rfl ld0 rfl
        refine ⟨_, _, rfl, rfl, divZ g0 (Nat.lt_of_le_of_lt gl ldb) (by omega), _, rfl, fun sc esc => ?_⟩
        rw [← esc] at s0 sl dv
        have scb : sc.natAbs < 2 ^ k := Nat.lt_of_le_of_lt sl ldb
        refine ⟨_, rfl, _, rfl, ⟨_, SqL.of hq⟩, fun Dq nDq => lc_list (K := K) (a := pq) (xs := (qs).map V.int) (fun i HL => Same H' HL ∧ HL Dq = some (.lst ((((qs).map (fun x => x * sc)).take i).map V.int))) ⟨sm_new nDq, by rw [upd_same]; rfl⟩ (fun i HL hi hP => hP.1.seq (SqL.of hq)) (fun i y HL hi hP => ?_) (fun H3 hP => ?_)⟩
        · obtain ⟨sm, hD⟩ := hP
          obtain ⟨u, hu, rfl⟩ := get_map_int hi
          have hum := List.mem_of_getElem? hu
          have hll := (List.getElem?_eq_some_iff.mp hu).1
          refine ⟨rfl, ?_⟩
          unfold tYes
          refine iteK rfl ?_
          refine ⟨_, rfl, _, rfl, _, _, rfl, rfl, mulW (bq.all u hum) scb (by omega), _, hD, ?_, same_mut sm nDq, ?_⟩
          · rw [len_map, List.length_take, List.length_map]; exact small1000 (by omega)
          · rw [upd_same, List.take_succ, List.map_append, List.getElem?_map, hu]; rfl
        obtain ⟨sDq, hDq⟩ := hP
        rw [List.take_of_length_le (by rw [List.length_map, List.length_map]; exact Nat.le_refl _)] at hDq
        have hr3 := sDq _ _ hr
        refine ⟨_, rfl, _, rfl, ⟨_, SqL.of hr3⟩, fun Dr nDr => lc_list (K := K) (a := pr) (xs := (rs).map V.int) (fun i HL => Same H3 HL ∧ HL Dr = some (.lst ((((rs).map (fun x => x * sc)).take i).map V.int))) ⟨sm_new nDr, by rw [upd_same]; rfl⟩ (fun i HL hi hP => hP.1.seq (SqL.of hr3)) (fun i y HL hi hP => ?_) (fun H4 hP => ?_)⟩
        · obtain ⟨sm, hD⟩ := hP
          obtain ⟨u, hu, rfl⟩ := get_map_int hi
          have hum := List.mem_of_getElem? hu
          have hll := (List.getElem?_eq_some_iff.mp hu).1
          refine ⟨rfl, ?_⟩
          unfold tYes
          refine iteK rfl ?_
          refine ⟨_, rfl, _, rfl, _, _, rfl, rfl, mulW (br.all u hum) scb (by omega), _, hD, ?_, same_mut sm nDr, ?_⟩
          · rw [len_map, List.length_take, List.length_map]; exact small1000 (by omega)
          · rw [upd_same, List.take_succ, List.map_append, List.getElem?_map, hu]; rfl
        obtain ⟨sDr, hDr⟩ := hP
        rw [List.take_of_length_le (by rw [List.length_map, List.length_map]; exact Nat.le_refl _)] at hDr
        refine ⟨_, rfl, _, rfl, _, _, rfl, rfl, mulW bf scb (by omega), _, rfl, fun f2 ef2 => ?_⟩
        refine ⟨_, rfl, _, rfl, _, _, rfl, rfl, mulW tpb scb (by omega), _, rfl, fun t2 et2 => ?_⟩
        have Dqr : Dq ≠ Dr := ne_of_none hDq nDr
        refine ⟨Dq, Dr, _, _, f2, t2, _, rfl, (sm.trans sDq).trans sDr, sm.free nDq, sm.free (sDq.free nDr), Dqr, sDr _ _ hDq, hDr, by rw [List.length_map, ql], ?_, ?_, ?_, ?_, ?_, ?_, ?_, ?_⟩
        · rw [ef2]; exact m.scale s0
        · rw [ef2, et2]; exact fc.scale rfl ld0 esc
        · exact ⟨bits_mulE bq.all scb⟩
        · exact ⟨bits_mulE br.all scb⟩
        · rw [ef2]; exact abs_lt_mul bf scb
        · rw [et2]; exact dv
        · rw [et2, mul_at, etp]
        · rw [et2, Int.natAbs_mul]
          calc tp.natAbs * sc.natAbs ≤ tp.natAbs * ld.natAbs := Nat.mul_le_mul_left _ sl
            _ < 2 ^ (dvB k t) * ld.natAbs := Nat.mul_lt_mul_of_pos_right tpb (by omega)
      clear hr hq etp tpb bq br bf m rl ql rlt nq nr qr sm
      rintro _ H2 ⟨pq, pr, qs, rs, f, tp, y9, rfl, sm, nq, nr, qr, hq, hr, ql, m, fh, bq, br, bf, dv, etp, tpl⟩
      have rl := m.rl
      have rlt : n + ys.length - 1 < rs.length := by omega
      have tpb : tp.natAbs < 2 ^ (dvB k t + k) := by rw [etp]; exact br.getD _
      have shm := fdiv_dvd ld0 dv
      refine ⟨_, rfl, _, rfl, _, _, rfl, rfl, divZ ld0 ldb (by omega), _, rfl, fun sh esh => ?_⟩
      rw [← esh] at shm
      have shb : sh.natAbs < 2 ^ (dvB k t) := by
        rw [← shm, Int.natAbs_mul] at tpl
        exact Nat.lt_of_mul_lt_mul_right tpl
      refine ⟨_, rfl, _, rfl, _, rfl, pq, _, _, n, rfl, rfl, hq, ixN_at rfl (by rw [len_map]; omega), ?_⟩
      have sm2 : Same H (upd H2 pq (.lst ((qs.map V.int).set n (.int sh)))) := same_mut sm nq
      have hq2 : (upd H2 pq (.lst ((qs.map V.int).set n (.int sh)))) pq = some (.lst ((qs.set n sh).map V.int)) := by rw [upd_same, map_set_V]
      have hr2 : (upd H2 pq (.lst ((qs.map V.int).set n (.int sh)))) pr = some (.lst (rs.map V.int)) := by rw [upd_ne qr.symm]; exact hr
      generalize upd H2 pq (.lst ((qs.map V.int).set n (.int sh))) = H3 at sm2 hq2 hr2 ⊢
      have hv : sh * ys.getD (ys.length - 1) 0 = rs.getD (n + ys.length - 1) 0 := by rw [← eld, shm, etp]
      have e1 : CN - (t + 1) = n := by omega
      have fc2 : FqC f (qs.set n sh) := fh.put shm (m.lo n (by omega)) (by omega)
      have bq2 : Bits (dvB k (t + 1)) (qs.set n sh) := bits_put (bq.mono (by rw [dvB_more]; omega)) (abs_mono shb (by rw [dvB_more]; omega))
      have bf2 : f.natAbs < 2 ^ (dvB k (t + 1)) := abs_mono bf (by rw [dvB_more]; omega)
      refine ⟨_, rfl, rfl, _, rfl, iteEqN (fun c0 => ?_) (fun c0 => ?_)⟩
      rotate_left
      · refine ⟨pq, pr, _, rs, f, _, _, _, _, _, _, rfl, sm2, nq, nr, qr, hq2, hr2, by rw [List.length_set, ql], ?_, fc2, bq2, br.mono (by rw [dvB_more]; omega), bf2⟩
        rw [e1]
        exact m.step (by omega) y0 hv rfl fun k => by rw [c0]; simp
      refine ⟨_, rfl, b, _, rfl, sm_tup sm2 hB, for_enT (K := K) (a := b) (xs := ys.map V.int) (fun i σ' H' => ∃ (zs : List Int) (y11 y12 : Option V), σ' = [some (.ref a), some (.ref b), some (.int cnt), some (.ref pq), some (.ref pr), some (.int f), some (.int ld), some (.int (n : Int)), some (.int tp), y9, some (.int sh), y11, y12, none] ∧ Same H H' ∧ H' pq = some (.lst ((qs.set n sh).map V.int)) ∧ H' pr = some (.lst (zs.map V.int)) ∧ SubAt zs rs ys sh n i)
        ⟨rs, _, _, rfl, sm2, hq2, hr2, SubAt.start⟩ (fun i σ' H' hI => ?_) (fun i y T σ' H' hi hI nT => ?_) (fun σ' H' hI => ?_)⟩
      · obtain ⟨_, _, _, rfl, sm, _⟩ := hI
        exact sm_tup sm hB
      · obtain ⟨zs, y11, y12, rfl, sm, hq, hr, mz⟩ := hI
        obtain ⟨c, hc, rfl⟩ := get_map_int hi
        have il : i < ys.length := (List.getElem?_eq_some_iff.mp hc).1
        have ec2 := getD_of hc
        have Tq : pq ≠ T := ne_of_none hq nT
        have Tr : pr ≠ T := ne_of_none hr nT
        have sm3 := sm.trans (sm_new (o := .tup [.int (i : Nat), .int c]) nT)
        have hq3 : (upd H' T (.tup [.int (i : Nat), .int c])) pq = some (.lst ((qs.set n sh).map V.int)) := by rw [upd_ne Tq]; exact hq
        have hr3 : (upd H' T (.tup [.int (i : Nat), .int c])) pr = some (.lst (zs.map V.int)) := by rw [upd_ne Tr]; exact hr
        refine ⟨T, _, rfl, SqT.of upd_same, rfl, _, _, rfl, _, _, rfl, rfl, ?_⟩
        generalize upd H' T (.tup [.int (i : Nat), .int c]) = G at sm3 hq3 hr3 ⊢
        have zl := mz.len
        have fl : n + i < zs.length := by omega
        refine ⟨_, rfl, _, rfl, _, rfl, _, _, rfl, rfl, _, _, _, _, rfl, rfl, SqL.of hr3, at_of (j := n + i) (by omega) (map_at (get_of_lt fl)), _, rfl, _, rfl, _, _, rfl, rfl, mulW shb (b2.all c (List.mem_of_getElem? hc)) (by omega), _, _, rfl, rfl, _, rfl, _, rfl, _, rfl, _, _, rfl, rfl, pr, _, _, n + i, rfl, rfl, hr3, ixN_at (by omega) (by rw [len_map]; exact fl), ?_⟩
        exact ⟨_, _, _, rfl, same_mut sm3 nr, by rw [upd_ne qr]; exact hq3, by rw [upd_same, map_set_V], mz.step (by omega) (by rw [ec2])⟩
      · obtain ⟨zs, y11, y12, rfl, sm, hq, hr, mz⟩ := hI
        rw [len_map] at mz
        refine ⟨pq, pr, _, zs, f, _, _, _, _, _, _, rfl, sm, nq, nr, qr, hq, hr, by rw [List.length_set, ql], ?_, fc2, bq2, ?_, bf2⟩
        · rw [e1]
          exact m.step (by omega) y0 hv mz.len mz.fin
        · exact bits_of_at fun i => abs_mono (mz.bits (p := dvB k t) (q := k) (fun i => abs_mono (br.getD i) (by omega)) shb b2.getD i) (by rw [dvB_more]; omega)
    · obtain ⟨pq, pr, qs, rs, f, y7, y8, y9, y10, y11, y12, rfl, sm, nq, nr, qr, hq, hr, ql, m, fc, bq, br, bf⟩ := hI
      have le : dvB k (cnt - 1 - (-1)).toNat ≤ dvB k xs.length := dvB_le (by omega)
      rw [show CN - (cnt - 1 - (-1)).toNat = 0 by omega] at m
      refine ⟨_, rfl, _, rfl, _, rfl, by show 3 ≤ sizeLine; decide, fun T nT => ?_⟩
      have sT := sm_new (o := .tup [.ref pq, .ref pr, .int f]) nT
      exact q T _ pq pr qs rs f (sm.trans sT) upd_same (sT _ _ hq) (sT _ _ hr) ⟨m.f0, m.rl, by omega, m.eq, fun k hk => m.hi k (by omega)⟩ fc (bq.mono le) (br.mono le) (abs_mono bf le)

theorem ok_divide (T : Tx K mg) (O_Poly_is_zero : OkF P w K mg base 1 (gtAd K (He.ga K "Poly") "is_zero") ["self"] (spPZer K)) (O__divide_coefs : OkF P w K mg base 1 (He.fAd K ("_divide_coefs", none)) ["first", "second"] (spDivC K)) (O_Poly___init__ : OkD P w K mg base 2 (He.fAd K ("Poly", some "__init__")) ["self", "coefs", "den"] (He.Dv.v K (.int 1)) (spPInit K)) : OkF P w K mg base 4 (He.fAd K ("divide", none)) ["p", "q"] (spDivide K) := by
  obtain ⟨_, G_Poly_is_zero, b_Poly_is_zero, k_Poly_is_zero⟩ := O_Poly_is_zero
  obtain ⟨_, G__divide_coefs, b__divide_coefs, k__divide_coefs⟩ := O__divide_coefs
  obtain ⟨_, G_Poly___init__, b_Poly___init__, ⟨_, v_Poly___init__, bd_Poly___init__⟩, k_Poly___init__⟩ := O_Poly___init__
  refine okF_of (d := d_divide) T.d_divide rfl sc_divide (fun _ _ _ _ _ _ us hl => match us, hl with | [_, _], _ => rfl) (fun vs H Q E h => ?_) (fun cdv A outer s H vs Q E hr h => ?_)
  · first | (obtain ⟨_, rfl, _⟩ := h; rfl) | (obtain ⟨_, _, rfl, _⟩ := h; rfl) | (obtain ⟨_, _, _, rfl, _⟩ := h; rfl) | (obtain ⟨_, _, _, _, rfl, _⟩ := h; rfl) | (obtain ⟨_, _, _, _, _, rfl, _⟩ := h; rfl) | (obtain ⟨_, _, _, _, _, _, rfl, _⟩ := h; rfl) | (obtain ⟨_, _, _, _, _, _, _, rfl, _⟩ := h; rfl) | (obtain ⟨_, _, _, _, _, _, _, _, rfl, _⟩ := h; rfl) | (obtain ⟨_, _, _, _, _, _, _, _, _, rfl, _⟩ := h; rfl) | (obtain ⟨_, _, _, _, _, _, _, _, _, _, rfl, _⟩ := h; rfl)
  · obtain ⟨a, b, ks, js, e, f, k, rfl, hp, hq, hE, hN⟩ := h
    have hp0 := hp
    have hq0 := hq
    obtain ⟨da, ta, ha, hta⟩ := hp
    obtain ⟨db, tb, hb, htb⟩ := hq
    refine ⟨_, (pss_cons (ps_if (pt_val (pe_prop (pv 1) T.cls_Poly T.p_Poly_is_zero G_Poly_is_zero (hr.mono (by decide)) b_Poly_is_zero .nil passL rfl)) (pss_one (ps_raise rfl (takes_of rfl rfl rfl rfl) (pmk_own PySem.F.excBase_ValueError T.x_ZeroPolynomial T.g_ZeroPolynomial T.k_ZeroPolynomial (T.r_ZeroPolynomial rfl) rfl))) pss_nil)
      (pss_cons (ps_asg (pe_call G__divide_coefs (hr.mono (by decide)) (by rfl) T.g__divide_coefs k__divide_coefs b__divide_coefs .nil passL (pa_cons (pe_fld (pv 0) rfl) (pa_cons (pe_fld (pv 1) rfl) pa_nil))) (pg_tup rfl (pgs_cons (pg_name (i := 2) sc_divide.nd rfl (Or.inl rfl)) (pgs_cons (pg_name (i := 3) sc_divide.nd rfl (Or.inl rfl)) (pgs_cons (pg_name (i := 4) sc_divide.nd rfl (Or.inl rfl)) pgs_nil)))))
      (pss_cons (ps_setI (i := 5) sc_divide.nd rfl (Or.inl rfl) (pe_op op_mulW (pv 4) (pe_fld (pv 0) rfl)))
      (pss_one (ps_ret (pe_tup (pa_cons (pe_makeI T.mk_Poly G_Poly___init__ (hr.mono (by decide)) (by rfl) T.g_Poly b_Poly___init__ .nil passL (mkPoG_conv K []) (pa_cons (pe_lc (own := [("c", 6)]) (g := gName 6) rfl sc_divide.nd (pi_list (pv 2)) (blkOk_by (own := [("c", 6)]) (N := N_divide) (sc := defScope s_divide) (by decide +kernel)) (fun _ _ _ _ _ => (pg_name (i := 6) sc_divide.nd rfl (Or.inl rfl))) (fun _ _ _ _ _ => pts_nil) (fun _ _ _ _ _ => (pe_op op_mulW (pv 6) (pe_fldK (K := K) rfl (pe_fld (pv 1) rfl))))) (pa_cons (pv 5) pa_nil))) (pa_cons (pe_makeI T.mk_Poly G_Poly___init__ (hr.mono (by decide)) (by rfl) T.g_Poly b_Poly___init__ .nil passL (mkPoG_conv K []) (pa_cons (pv 3) (pa_cons (pv 5) pa_nil))) pa_nil)))))))), ?_⟩
    refine ⟨_, rfl, _, _, _, rfl, hb, _, _, _, rfl, hq0, _, rfl, iteEq (fun c => ?_) (fun c => ?_)⟩
    · exact hE (List.eq_nil_of_length_eq_zero (by omega))
    have c1 : js ≠ [] := fun z => c (by rw [z]; rfl)
    obtain ⟨e0, f0, lz, b1, b2, eb, fb, l1, l2, hk, hk2, q⟩ := hN c1
    have j0 : 0 < js.length := by omega
    refine ⟨_, rfl, _, _, _, _, _, rfl, ha, T.cls_Poly, T.n_Poly_coefs, rfl, _, rfl, _, _, _, _, _, rfl, hb, T.cls_Poly, T.n_Poly_coefs, rfl, _, _, ks, js, k, rfl, SqT.of hta, SqT.of htb, b1, b2, j0, lz, l1, l2, hk, fun t H1 pq pr qs rs F s1 ht hq1 hr1 dv fc bq br bf => ?_⟩
    refine ⟨t, _, rfl, SqT.of ht, rfl, _, _, rfl, _, _, rfl, _, _, rfl, rfl, ?_⟩
    have F0 := dv.f0
    have bT : dvB k ks.length ≤ 300000 := by
      have z := Nat.mul_le_mul (show k + 1 ≤ 2001 by omega) l1
      unfold dvB
      omega
    have d0 : F * e ≠ 0 := Int.mul_ne_zero F0 (by omega)
    have db1 : (F * e).natAbs < 2 ^ (dvB k ks.length + k) := abs_lt_mul bf eb
    refine ⟨_, rfl, _, rfl, _, _, _, _, _, rfl, s1 _ _ ha, T.cls_Poly, T.n_Poly_den, rfl, _, _, rfl, rfl, mulW bf eb (by omega), _, rfl, fun dn edn => ?_⟩
    have g1 := gq_small (rs := rs) hk2 d0 db1 fc
    have g2 := gr_small hk2 d0 db1 fc dv
    rw [← edn] at d0 db1 g1 g2
    have rl := dv.rl
    have ql := dv.ql
    refine ⟨_, rfl, _, rfl, ⟨_, SqL.of hq1⟩, fun D nD => lc_list (K := K) (a := pq) (xs := (qs).map V.int) (fun i HL => Same H1 HL ∧ HL D = some (.lst ((((qs).map (fun x => x * f)).take i).map V.int))) ⟨sm_new nD, by rw [upd_same]; rfl⟩ (fun i HL hi hP => hP.1.seq (SqL.of hq1)) (fun i y HL hi hP => ?_) (fun H2 hP => ?_)⟩
    · obtain ⟨sm, hD⟩ := hP
      obtain ⟨u, hu, rfl⟩ := get_map_int hi
      have hum := List.mem_of_getElem? hu
      have hll := (List.getElem?_eq_some_iff.mp hu).1
      refine ⟨rfl, ?_⟩
      unfold tYes
      refine iteK rfl ?_
      refine ⟨_, rfl, _, rfl, _, _, _, _, _, rfl, (s1.trans sm) _ _ hb, T.cls_Poly, T.n_Poly_den, rfl, _, _, rfl, rfl, mulW (bq.all u hum) fb (by omega), _, hD, ?_, same_mut sm nD, ?_⟩
      · rw [len_map, List.length_take, List.length_map]; exact small1000 (by omega)
      · rw [upd_same, List.take_succ, List.map_append, List.getElem?_map, hu]; rfl
    obtain ⟨sD, hD⟩ := hP
    rw [List.take_of_length_le (by rw [List.length_map, List.length_map]; exact Nat.le_refl _)] at hD
    have bq2 : Bits (dvB k ks.length + k) (qs.map fun x => x * f) := bq.mul fb
    refine ⟨_, rfl, D, _, dn, 8000, rfl, .inl (SqL.of hD), by rw [List.length_map]; omega, g1, by decide, d0, fun p1 H3 ms g s3 np1 hp1 pm => ?_⟩
    refine ⟨_, rfl, _, rfl, pr, rs, dn, 8000, rfl, .inl (SqL.of (s3 _ _ (sD _ _ hr1))), by omega, g2, by decide, d0, fun p2 H4 ns h s4 np2 hp2 pn => ?_⟩
    refine ⟨by show 2 ≤ sizeLine; decide, fun T nT => ?_⟩
    have sT := sm_new (o := .tup [.ref p1, .ref p2]) nT
    refine q T _ p1 p2 ms g ns h ((((s1.trans sD).trans s3).trans s4).trans sT) upd_same ((hp1.mono s4).mono sT) (hp2.mono sT) ⟨⟨qs, rs, F, dv, by rw [← edn]; exact pm, by rw [← edn]; exact pn, F0⟩, ?_, ?_⟩ ⟨pm.bits d0 bq2, Nat.lt_of_le_of_lt (pm.den_le d0) db1⟩
    · have z := pm.len d0
      rw [List.length_map] at z
      omega
    · -- the rest is shorter
      refine Decidable.byContradiction fun z => ?_
      rcases pn.last with w | w
      · exact z (by rw [w]; exact j0)
      · have y := pn.eq (ns.length - 1)
        rw [dv.hi _ (by omega), Int.zero_mul] at y
        rcases Int.mul_eq_zero.mp y with y | y
        · exact w y
        · exact d0 y

theorem ok__divides (T : Tx K mg) (O_Poly___init__ : OkD P w K mg base 2 (He.fAd K ("Poly", some "__init__")) ["self", "coefs", "den"] (He.Dv.v K (.int 1)) (spPInit K)) (O_divide : OkF P w K mg base 4 (He.fAd K ("divide", none)) ["p", "q"] (spDivide K)) (O_Poly_is_zero : OkF P w K mg base 1 (gtAd K (He.ga K "Poly") "is_zero") ["self"] (spPZer K)) : OkF P w K mg base 5 (He.fAd K ("_divides", none)) ["q", "coefs"] (spDvs K) := by
  obtain ⟨_, G_Poly___init__, b_Poly___init__, ⟨_, v_Poly___init__, bd_Poly___init__⟩, k_Poly___init__⟩ := O_Poly___init__
  obtain ⟨_, G_divide, b_divide, k_divide⟩ := O_divide
  obtain ⟨_, G_Poly_is_zero, b_Poly_is_zero, k_Poly_is_zero⟩ := O_Poly_is_zero
  refine okF_of (d := d__divides) T.d__divides rfl sc__divides (fun _ _ _ _ _ _ us hl => match us, hl with | [_, _], _ => rfl) (fun vs H Q E h => ?_) (fun cdv A outer s H vs Q E hr h => ?_)
  · (obtain ⟨_, _, _, _, _, rfl, _⟩ := h; rfl)
  · obtain ⟨a, b, js, xs, k, rfl, ha, hb, pj, lj, bj, bx, lx, ll, k1, k2, q⟩ := h
    refine ⟨_, (pss_cons (ps_asg (pe_call G_divide (hr.mono (by decide)) (by rfl) T.g_divide k_divide b_divide .nil passL (pa_cons (pe_makeI T.mk_Poly G_Poly___init__ (hr.mono (by decide)) (by rfl) T.g_Poly bd_Poly___init__ v_Poly___init__ passL (mkPo_conv K [_]) (pa_cons (pv 1) pa_nil)) (pa_cons (pv 0) pa_nil))) (pg_tup rfl (pgs_cons (pg_name (i := 2) sc__divides.nd rfl (Or.inl rfl)) (pgs_cons (pg_name (i := 3) sc__divides.nd rfl (Or.inl rfl)) pgs_nil))))
      (pss_one (ps_ret (pe_prop (pv 3) T.cls_Poly T.p_Poly_is_zero G_Poly_is_zero (hr.mono (by decide)) b_Poly_is_zero .nil passL rfl)))), ?_⟩
    have jne : js ≠ [] := fun z => lj (by rw [z]; rfl)
    refine ⟨_, rfl, b, xs, 1, 8, rfl, .inl hb, by omega, by decide, by decide, by decide, fun p1 H1 ks e s1 np1 hp1 pq => ?_⟩
    obtain ⟨rfl, ek⟩ := pq_one pq
    have kl := pq.len (by decide)
    have bk := pq.bits (by decide) bx
    have le : dvB k ks.length ≤ dvB k xs.length := dvB_le kl
    have one : (1 : Int).natAbs < 2 ^ k := Nat.lt_of_lt_of_le (show 1 < 2 ^ 1 by decide) (Nat.pow_le_pow_right (by decide) k1)
    refine ⟨_, rfl, p1, a, ks, js, 1, 1, k, rfl, hp1, ha.mono s1, fun z => absurd z jne, fun _ => ⟨by decide, by decide, lj, bk, bj, one, one, by omega, ll, k2, .inr ⟨rfl, rfl, pj⟩, fun t H2 pq_ pr ms g ns h s2 ht hpq hpr dp _ => ?_⟩⟩
    refine ⟨t, _, rfl, SqT.of ht, rfl, _, _, rfl, _, _, rfl, rfl, ?_⟩
    obtain ⟨dpr, tpr, hpr1, hpr2⟩ := id hpr
    refine ⟨_, rfl, _, _, _, rfl, hpr1, pr, ns, h, rfl, hpr, ?_⟩
    refine q _ H2 (s1.trans s2) ?_
    obtain ⟨qs, rs, F, dv, _, pn, F0⟩ := dp.ex
    have it := div_iff dv pn (by decide) lj
    rw [show ff ks = ff xs from funext ek] at it
    rw [← it]
    constructor
    · intro e
      have := V.int.inj (of_decide_eq_true e)
      exact List.eq_nil_of_length_eq_zero (by omega)
    · intro e
      rw [e]
      rfl

theorem ok__divisor_by_values (T : Tx K mg) (O_height : OkF P w K mg base 1 (He.fAd K ("height", none)) ["coefs"] (spHeiB K)) (O_evaluated : OkF P w K mg base 1 (He.fAd K ("evaluated", none)) ["coefs", "at"] (spEvaB K)) (O__digits : OkF P w K mg base 1 (He.fAd K ("_digits", none)) ["number", "base"] (spDig K)) (O_primitive : OkF P w K mg base 2 (He.fAd K ("primitive", none)) ["coefs"] (spPrm K)) (O_Poly___init__ : OkD P w K mg base 2 (He.fAd K ("Poly", some "__init__")) ["self", "coefs", "den"] (He.Dv.v K (.int 1)) (spPInit K)) (O__divides : OkF P w K mg base 5 (He.fAd K ("_divides", none)) ["q", "coefs"] (spDvs K)) : OkF P w K mg base 6 (He.fAd K ("_divisor_by_values", none)) ["first", "second"] (spDBV K) := by
  obtain ⟨_, G_height, b_height, k_height⟩ := O_height
  obtain ⟨_, G_evaluated, b_evaluated, k_evaluated⟩ := O_evaluated
  obtain ⟨_, G__digits, b__digits, k__digits⟩ := O__digits
  obtain ⟨_, G_primitive, b_primitive, k_primitive⟩ := O_primitive
  obtain ⟨_, G_Poly___init__, b_Poly___init__, ⟨_, v_Poly___init__, bd_Poly___init__⟩, k_Poly___init__⟩ := O_Poly___init__
  obtain ⟨_, G__divides, b__divides, k__divides⟩ := O__divides
  refine okF_of (d := d__divisor_by_values) T.d__divisor_by_values rfl sc__divisor_by_values (fun _ _ _ _ _ _ us hl => match us, hl with | [_, _], _ => rfl) (fun vs H Q E h => ?_) (fun cdv A outer s H vs Q E hr h => ?_)
  · (obtain ⟨_, _, _, _, _, _, rfl, _⟩ := h; rfl)
  · obtain ⟨a, b, xs, ys, k, KK, rfl, hA, hB, lxn, lyn, lx, ly, bx, by_, ⟨e0, ke, me, eu, de0, bke, hke⟩, kk, KK2, q⟩ := h
    refine ⟨_, (pss_cons (ps_setI (i := 2) sc__divisor_by_values.nd rfl (Or.inl rfl) (pe_op op_add (pe_op op_shlW (pe_callB (call_min2 rfl) (by rfl) T.z_min (by decide +kernel) (pa_cons (pe_call G_height (hr.mono (by decide)) (by rfl) T.g_height k_height b_height .nil passL (pa_cons (pv 0) pa_nil)) (pa_cons (pe_call G_height (hr.mono (by decide)) (by rfl) T.g_height k_height b_height .nil passL (pa_cons (pv 1) pa_nil)) pa_nil))) pe_int) pe_int))
      (pss_one (ps_while PassesOwn.leaving (pt_val pe_bl) (pss_cons (ps_setI (i := 3) sc__divisor_by_values.nd rfl (Or.inl rfl) (pe_callBfun cr_gcd rfl T.g_gcd (pa_cons (pe_call G_evaluated (hr.mono (by decide)) (by rfl) T.g_evaluated k_evaluated b_evaluated .nil passL (pa_cons (pv 0) (pa_cons (pv 2) pa_nil))) (pa_cons (pe_call G_evaluated (hr.mono (by decide)) (by rfl) T.g_evaluated k_evaluated b_evaluated .nil passL (pa_cons (pv 1) (pa_cons (pv 2) pa_nil))) pa_nil))))
      (pss_cons (ps_set (i := 4) sc__divisor_by_values.nd rfl (Or.inl rfl) (pe_makeI T.mk_Poly G_Poly___init__ (hr.mono (by decide)) (by rfl) T.g_Poly bd_Poly___init__ v_Poly___init__ passL (mkPo_conv K [_]) (pa_cons (pe_call G_primitive (hr.mono (by decide)) (by rfl) T.g_primitive k_primitive b_primitive .nil passL (pa_cons (pe_call G__digits (hr.mono (by decide)) (by rfl) T.g__digits k__digits b__digits .nil passL (pa_cons (pv 3) (pa_cons (pv 2) pa_nil))) pa_nil)) pa_nil)))
      (pss_cons (ps_if (PW.pt (pw_and (pt_val (pe_call G__divides (hr.mono (by decide)) (by rfl) T.g__divides k__divides b__divides .nil passL (pa_cons (pv 4) (pa_cons (pv 0) pa_nil)))) (pw_and1 (pt_val (pe_call G__divides (hr.mono (by decide)) (by rfl) T.g__divides k__divides b__divides .nil passL (pa_cons (pv 4) (pa_cons (pv 1) pa_nil))))))) (pss_one (ps_ret (pv 4))) pss_nil)
      (pss_one (ps_setI (i := 2) sc__divisor_by_values.nd rfl (Or.inl rfl) (pe_op op_add (pe_op op_shlW (pv 2) pe_int) pe_int))))))))), ?_⟩
    have xne : 0 < xs.length := lpos fun z => lxn (by rw [z]; rfl)
    have yne : 0 < ys.length := lpos fun z => lyn (by rw [z]; rfl)
    have dgx := dg_list lxn
    have dgy := dg_list lyn
    obtain ⟨T, hT⟩ : ∃ T, T = 2 ^ (ke + 2) := ⟨_, rfl⟩
    have TK : T * 2 ^ 25 ≤ 2 ^ KK := by
      rw [hT, ← Nat.pow_add]
      exact Nat.pow_le_pow_right (by decide) (by omega)
    have T4 : 4 ≤ T := by rw [hT, Nat.pow_add]; have := Nat.two_pow_pos ke; omega
    -- where it starts
    refine ⟨_, rfl, a, xs, rfl, .inl hA, by omega, fun h1 H1 s1 hh1 hb1 => ?_⟩
    refine ⟨_, rfl, b, ys, rfl, .inl (s1.seq hB), by omega, fun h2 H2 s2 hh2 hb2 => ?_⟩
    obtain ⟨hm, ehm⟩ : ∃ hm : Nat, (hm : Int) = (if (h2 : Int) < (h1 : Int) then (h2 : Int) else (h1 : Int)) := by
      split
      · exact ⟨h2, rfl⟩
      · exact ⟨h1, rfl⟩
    have smo : SmP (ff xs) (ff ys) (xs.length - 1) (ys.length - 1) hm := by
      by_cases c : (h2 : Int) < (h1 : Int)
      · rw [if_pos c] at ehm
        exact .inr ⟨by omega, fun i => by have := hh2 i; show (ys.getD i 0).natAbs ≤ hm; omega⟩
      · rw [if_neg c] at ehm
        exact .inl ⟨by omega, fun i => by have := hh1 i; show (xs.getD i 0).natAbs ≤ hm; omega⟩
    have hmk : hm < 2 ^ k := by
      have q1 := hb1 k bx.all
      have q2 := hb2 k by_.all
      split at ehm <;> omega
    have p24 : 2 ^ (k + 24) = 2 ^ k * 2 ^ 24 := Nat.pow_add ..
    refine ⟨_, _, rfl, _, _, rfl, rfl, ⟨by decide, ?_⟩, _, _, rfl, rfl, _, rfl, fun at0 eat0 => ?_⟩
    · rw [← ehm]
      have ib : Builtin.Int.intBits ((hm : Nat) : Int) ≤ k := PySem.intBits_le_iff.mpr (by rw [Int.natAbs_natCast]; exact hmk)
      omega
    rw [← ehm] at eat0
    obtain ⟨X0, hX0⟩ : ∃ X0 : Nat, at0 = (X0 : Int) ∧ X0 = hm * 2 ^ 24 + 29 := ⟨hm * 2 ^ 24 + 29, by rw [eat0]; rfl, rfl⟩
    obtain ⟨rfl, eX0⟩ := hX0
    have X0K : X0 < 2 ^ KK := by
      have : 2 ^ (k + 25) ≤ 2 ^ KK := Nat.pow_le_pow_right (by decide) (by omega)
      have p25 : 2 ^ (k + 25) = 2 ^ k * 2 ^ 25 := Nat.pow_add ..
      have := Nat.two_pow_pos k
      omega
    have s12 := s1.trans s2
    refine ⟨fun m σ' H' => ∃ (X : Nat) (y3 y4 : Option V), σ' = [some (.ref a), some (.ref b), some (.int (X : Int)), y3, y4] ∧ m = T - X ∧ Same H H' ∧ 2 ^ 24 * hm + 29 ≤ X ∧ X < 2 ^ KK, ⟨_, X0, none, none, rfl, rfl, s12, by omega, X0K⟩, ?_⟩
    rintro m _ H3 ⟨X, y3, y4, rfl, rfl, sm, hX, XK⟩
    refine ⟨_, rfl, iteK rfl ?_⟩
    refine ⟨fun σ2 H2 => ∃ m', m' < T - X ∧ ∃ (X : Nat) (y3 y4 : Option V), σ2 = [some (.ref a), some (.ref b), some (.int (X : Int)), y3, y4] ∧ m' = T - X ∧ Same H H2 ∧ 2 ^ 24 * hm + 29 ≤ X ∧ X < 2 ^ KK, fun _ _ h => h, ?_⟩
    have XbK : ((X : Nat) : Int).natAbs < 2 ^ KK := by rw [Int.natAbs_natCast]; exact XK
    have m8 : (KK + 1) * (xs.length + 1) ≤ 2001 * 14 := Nat.mul_le_mul (by omega) (by omega)
    have m9 : (KK + 1) * (ys.length + 1) ≤ 2001 * 14 := Nat.mul_le_mul (by omega) (by omega)
    refine ⟨_, rfl, _, rfl, a, xs, (X : Int), k, KK, rfl, .inl (sm.seq hA), bx.all, XbK, by omega, ?_⟩
    refine ⟨_, rfl, _, rfl, b, ys, (X : Int), k, KK, rfl, .inl (sm.seq hB), by_.all, XbK, by omega, ?_⟩
    refine ⟨_, _, rfl, _, rfl, fun v ev => ?_⟩
    have vx : evL (X : Int) xs = e1 (ff xs) (X : Int) (xs.length - 1 + 1) := evL_e1 _ _ _ (by omega)
    have vy : evL (X : Int) ys = e1 (ff ys) (X : Int) (ys.length - 1 + 1) := evL_e1 _ _ _ (by omega)
    rw [vx, vy] at ev
    -- the value is not zero, and not too great
    obtain ⟨g, eg⟩ : ∃ g : Nat, g = Nat.gcd (e1 (ff xs) (X : Int) (xs.length - 1 + 1)).natAbs (e1 (ff ys) (X : Int) (ys.length - 1 + 1)).natAbs := ⟨_, rfl⟩
    rw [← eg] at ev
    have X29 : 29 ≤ X := by omega
    have gok : 0 < g ∧ g ≤ X ^ 13 := by
      rcases smo with ⟨a7, hh⟩ | ⟨b7, hh⟩
      · have z := e1_big dgx hh hX
        have u := e1_up dgx hh hX
        have p : 0 < (e1 (ff xs) (X : Int) (xs.length - 1 + 1)).natAbs := by omega
        have le := Nat.le_of_dvd p (Nat.gcd_dvd_left _ (e1 (ff ys) (X : Int) (ys.length - 1 + 1)).natAbs)
        have pw : X ^ (xs.length - 1 + 1) ≤ X ^ 13 := Nat.pow_le_pow_right (by omega) (by omega)
        exact ⟨eg ▸ Nat.gcd_pos_of_pos_left _ p, by omega⟩
      · have z := e1_big dgy hh hX
        have u := e1_up dgy hh hX
        have p : 0 < (e1 (ff ys) (X : Int) (ys.length - 1 + 1)).natAbs := by omega
        have le := Nat.le_of_dvd p (Nat.gcd_dvd_right (e1 (ff xs) (X : Int) (xs.length - 1 + 1)).natAbs _)
        have pw : X ^ (ys.length - 1 + 1) ≤ X ^ 13 := Nat.pow_le_pow_right (by omega) (by omega)
        exact ⟨eg ▸ Nat.gcd_pos_of_pos_right _ p, by omega⟩
    -- the digits
    refine ⟨_, rfl, _, rfl, v, X, 13, rfl, by omega, Nat.lt_of_lt_of_le XK (Nat.pow_le_pow_right (by decide) (by omega)), by rw [ev, Int.natAbs_natCast]; exact gok.2, by decide, fun pd H4 ds s4 npd hpd dr dlen => ?_⟩
    have dne : ds ≠ [] := fun z => by
      have w := dr.val
      rw [z] at w
      have w0 : (0 : Int) = v := w
      omega
    have dl0 : ds.getD (ds.length - 1) 0 ≠ 0 := by
      rcases dr.last with z | z
      · exact absurd z dne
      · exact z
    have dsp : 0 < ds.length := lpos dne
    have bds : Bits KK ds := ⟨fun x hx => by have := dr.sm x hx; omega⟩
    refine ⟨pd, ds, KK, rfl, .inl (SqL.of hpd), bds, by omega, by omega, fun _ => ⟨_, getD_mem (by omega), dl0⟩, fun pp H5 zs s5 npp hpp pr => ?_⟩
    have zl := pr.len
    refine ⟨pp, zs, 1, 8, rfl, .inl (SqL.of hpp), by omega, by decide, by decide, by decide, fun pc H6 js e s6 npc hpc pq => ?_⟩
    obtain ⟨rfl, ej⟩ := pq_one pq
    obtain ⟨c, c0, hc⟩ := pr.mul
    have c1 := c0 dne
    have ejz : ff js = ff zs := funext ej
    have zlast : zs.getD (zs.length - 1) 0 ≠ 0 := fun z => dl0 (by rw [hc, ← zl, z, Int.mul_zero])
    have dgz := dg_list zlast
    have jlast : js.getD (js.length - 1) 0 ≠ 0 := by
      rcases pq.last with z | z
      · exfalso
        apply zlast
        have : ff js (zs.length - 1) = 0 := by rw [z]; rfl
        rw [ejz] at this
        exact this
      · exact z
    have jl := pq.len (by decide)
    have pj : Prim (ff js) := by rw [ejz]; exact pr.prim dne
    have bzs : Bits KK zs := bits_of_at fun i => by
      have w := bds.getD i
      rw [hc, Int.natAbs_mul, Int.natAbs_natCast] at w
      have : 1 * (zs.getD i 0).natAbs ≤ c * (zs.getD i 0).natAbs := Nat.mul_le_mul_right _ c1
      omega
    have bjs : Bits KK js := pq.bits (by decide) bzs
    have s46 := s4.trans (s5.trans s6)
    have eds : ∀ i, ff ds i = (c : Int) * ff zs i := hc
    have vds : e1 (ff ds) (X : Int) ds.length = (c : Int) * e1 (ff zs) (X : Int) (zs.length - 1 + 1) := by
      rw [show zs.length - 1 + 1 = ds.length by omega, ← e1_scale']
      exact e1_congr fun i _ => eds i
    have one1 : (1 : Int).natAbs < 2 ^ KK := Nat.lt_of_lt_of_le (show 1 < 2 ^ 1 by decide) (Nat.pow_le_pow_right (by decide) (by omega))
    have bxK : Bits KK xs := bx.mono (by omega)
    have byK : Bits KK ys := by_.mono (by omega)
    -- if one of the two isn't divided, the number is still small
    have more : ¬ (Dv (ff js) (ff xs) ∧ Dv (ff js) (ff ys)) → X < T := fun no => Nat.lt_of_not_le fun c' => no (by
      have ok := heu_ok (D := ff ds) (N := ds.length) dgx dgy eu de0 bke (hT ▸ c') (fun i hi => getD_end hi) (fun i => by
        by_cases w : i < ds.length
        · exact dr.sm _ (getD_mem w)
        · show 2 * (ds.getD i 0).natAbs ≤ X
          rw [getD_end (by omega)]
          exact Nat.zero_le _) (by rw [dr.val, ev, eg])
      have sc : ∀ {P : Nat → Int}, Dv (ff ds) P → Dv (ff js) P := fun {P} d => by
        obtain ⟨m', s, N, m0, hs, h⟩ := d
        rw [ejz]
        exact ⟨m', fun i => (c : Int) * s i, N, m0, hs.scale _, fun i => by rw [h i, cf_scale_l, ← cf_scale]; exact cf_congr (fun _ => rfl) eds i⟩
      exact ⟨sc ok.1, sc ok.2⟩)
    have next : X < T → ∀ (H' : Hp), Same H H' → ∃ m', m' < T - X ∧ ∃ (X' : Nat) (y3 y4 : Option V), [some (V.ref a), some (V.ref b), some (V.int ((X : Int) * 2 ^ (24 : Int).toNat + 29)), some (V.int v), some (V.ref pc)] = [some (V.ref a), some (V.ref b), some (V.int (X' : Int)), y3, y4] ∧ m' = T - X' ∧ Same H H' ∧ 2 ^ 24 * hm + 29 ≤ X' ∧ X' < 2 ^ KK := fun lt H' sm' =>
      ⟨T - (X * 2 ^ 24 + 29), by omega, X * 2 ^ 24 + 29, _, _, rfl, rfl, sm', by omega, by omega⟩
    have shl : (0 : Int) ≤ 24 ∧ (Builtin.Int.intBits ((X : Nat) : Int) : Int) + 24 ≤ 2 ^ 27 := ⟨by decide, by
      have ib : Builtin.Int.intBits ((X : Nat) : Int) ≤ KK := PySem.intBits_le_iff.mpr XbK
      omega⟩
    refine ⟨_, rfl, _, rfl, pc, a, js, xs, KK, rfl, hpc, (sm.trans s46).seq hA, pj, jlast, bjs, bxK, by omega, by omega, by omega, KK2, fun r1 H7 s7 hr1 => ?_⟩
    have sm7 := (sm.trans s46).trans s7
    refine ⟨_, rfl, iteB (fun z1 => ?_) (fun z1 => iteN rfl ?_)⟩
    · have d1 := hr1.mp z1
      refine ⟨_, rfl, _, rfl, pc, b, js, ys, KK, rfl, hpc.mono s7, sm7.seq hB, pj, jlast, bjs, byK, by omega, by omega, by omega, KK2, fun r2 H8 s8 hr2 => ?_⟩
      refine ⟨_, rfl, iteB (fun z2 => ?_) (fun z2 => ?_)⟩
      · have d2 := hr2.mp z2
        refine ⟨_, rfl, q pc H8 js (sm7.trans s8) ((hpc.mono s7).mono s8) jlast bjs ?_ d1 d2 ?_⟩
        · have := d1.deg (dg_list jlast) dgx
          omega
        · rw [ejz] at d1 d2 ⊢
          refine heu_maxP (c := (c : Int)) dgx dgy smo hX (pr.prim dne) dgz d1 d2 ?_ ?_
          · have w := dr.sm _ (getD_mem (show ds.length - 1 < ds.length by omega))
            rw [hc, Int.natAbs_mul, Int.natAbs_natCast, ← zl] at w
            have : c * 1 ≤ c * (zs.getD (zs.length - 1) 0).natAbs := Nat.mul_le_mul_left _ (by omega)
            rw [Int.natAbs_natCast]
            omega
          · rw [← vds, dr.val, ev, Int.natAbs_natCast, eg]
      · have nd : ¬ Dv (ff js) (ff ys) := fun d => by rw [hr2.mpr d] at z2; cases z2
        refine ⟨_, rfl, _, _, rfl, rfl, shl, _, _, rfl, rfl, _, rfl, fun at2 eat2 => ?_⟩
        rw [eat2]
        exact next (more fun w => nd w.2) _ (sm7.trans s8)
    · have nd : ¬ Dv (ff js) (ff xs) := fun d => by rw [hr1.mpr d] at z1; cases z1
      refine ⟨_, rfl, _, _, rfl, rfl, shl, _, _, rfl, rfl, _, rfl, fun at2 eat2 => ?_⟩
      rw [eat2]
      exact next (more fun w => nd w.1) _ sm7

theorem ok_common_divisor (T : Tx K mg) (O_Poly_is_zero : OkF P w K mg base 1 (gtAd K (He.ga K "Poly") "is_zero") ["self"] (spPZer K)) (O_monic : OkF P w K mg base 4 (He.fAd K ("monic", none)) ["p"] (spMon K)) (O_primitive : OkF P w K mg base 2 (He.fAd K ("primitive", none)) ["coefs"] (spPrm K)) (O_coprime_modulo : OkF P w K mg base 4 (He.fAd K ("coprime_modulo", none)) ["first", "second", "prime"] (spCpM K)) (O_Poly___init__ : OkD P w K mg base 2 (He.fAd K ("Poly", some "__init__")) ["self", "coefs", "den"] (He.Dv.v K (.int 1)) (spPInit K)) (O__divisor_by_values : OkF P w K mg base 6 (He.fAd K ("_divisor_by_values", none)) ["first", "second"] (spDBV K)) : OkF P w K mg base 7 (He.fAd K ("common_divisor", none)) ["p", "q"] (spCDv K) := by
  obtain ⟨_, G_Poly_is_zero, b_Poly_is_zero, k_Poly_is_zero⟩ := O_Poly_is_zero
  obtain ⟨_, G_monic, b_monic, k_monic⟩ := O_monic
  obtain ⟨_, G_primitive, b_primitive, k_primitive⟩ := O_primitive
  obtain ⟨_, G_coprime_modulo, b_coprime_modulo, k_coprime_modulo⟩ := O_coprime_modulo
  obtain ⟨_, G_Poly___init__, b_Poly___init__, ⟨_, v_Poly___init__, bd_Poly___init__⟩, k_Poly___init__⟩ := O_Poly___init__
  obtain ⟨_, G__divisor_by_values, b__divisor_by_values, k__divisor_by_values⟩ := O__divisor_by_values
  refine okF_of (d := d_common_divisor) T.d_common_divisor rfl sc_common_divisor (fun _ _ _ _ _ _ us hl => match us, hl with | [_, _], _ => rfl) (fun vs H Q E h => ?_) (fun cdv A outer s H vs Q E hr h => ?_)
  · (obtain ⟨_, _, _, _, _, _, _, _, rfl, _⟩ := h; rfl)
  · obtain ⟨a, b, ks, js, e, f, k, KK, rfl, ha, hb, sk, sj, ok, q⟩ := h
    refine ⟨_, (pss_cons (ps_if (pt_val (pe_prop (pv 0) T.cls_Poly T.p_Poly_is_zero G_Poly_is_zero (hr.mono (by decide)) b_Poly_is_zero .nil passL rfl)) (pss_one (ps_ret (pe_call G_monic (hr.mono (by decide)) (by rfl) T.g_monic k_monic b_monic .nil passL (pa_cons (pv 1) pa_nil)))) pss_nil)
      (pss_cons (ps_if (pt_val (pe_prop (pv 1) T.cls_Poly T.p_Poly_is_zero G_Poly_is_zero (hr.mono (by decide)) b_Poly_is_zero .nil passL rfl)) (pss_one (ps_ret (pe_call G_monic (hr.mono (by decide)) (by rfl) T.g_monic k_monic b_monic .nil passL (pa_cons (pv 0) pa_nil)))) pss_nil)
      (pss_cons (ps_set (i := 2) sc_common_divisor.nd rfl (Or.inl rfl) (pe_call G_primitive (hr.mono (by decide)) (by rfl) T.g_primitive k_primitive b_primitive .nil passL (pa_cons (pe_fld (pv 0) rfl) pa_nil)))
      (pss_cons (ps_set (i := 3) sc_common_divisor.nd rfl (Or.inl rfl) (pe_call G_primitive (hr.mono (by decide)) (by rfl) T.g_primitive k_primitive b_primitive .nil passL (pa_cons (pe_fld (pv 1) rfl) pa_nil)))
      (pss_cons (ps_if (pt_val (pe_call G_coprime_modulo (hr.mono (by decide)) (by rfl) T.g_coprime_modulo k_coprime_modulo b_coprime_modulo .nil passL (pa_cons (pv 2) (pa_cons (pv 3) (pa_cons (pe_globI rfl T.g_PRIME) pa_nil))))) (pss_one (ps_ret (pe_makeI T.mk_Poly G_Poly___init__ (hr.mono (by decide)) (by rfl) T.g_Poly bd_Poly___init__ v_Poly___init__ passL (mkPo_conv K [_]) (pa_cons (pe_lst (pa_cons pe_int pa_nil)) pa_nil)))) pss_nil)
      (pss_one (ps_ret (pe_call G_monic (hr.mono (by decide)) (by rfl) T.g_monic k_monic b_monic .nil passL (pa_cons (pe_call G__divisor_by_values (hr.mono (by decide)) (by rfl) T.g__divisor_by_values k__divisor_by_values b__divisor_by_values .nil passL (pa_cons (pv 2) (pa_cons (pv 3) pa_nil))) pa_nil))))))))), ?_⟩
    have bk := ok.bk
    have bj := ok.bj
    have lk := ok.lk
    have lj := ok.lj
    have kk := ok.kk
    have KK2 := ok.KK2
    obtain ⟨da, ta, haa, hta⟩ := id ha
    obtain ⟨db, tb, hbb, htb⟩ := id hb
    have leadOf : ∀ {zs : List Int} {h : Int}, Pq zs h zs h → zs ≠ [] → zs.getD (zs.length - 1) 0 ≠ 0 := fun p ne => by
      rcases p.last with w | w
      · exact absurd w ne
      · exact w
    refine ⟨_, rfl, _, _, _, rfl, haa, a, ks, e, rfl, ha, _, rfl, iteEq (fun z => ?_) (fun z => ?_)⟩
    · have k0 : ks = [] := List.eq_nil_of_length_eq_zero (by omega)
      refine ⟨_, rfl, b, js, f, k, rfl, hb, sj, bj, by omega, by omega, fun p H' ms g s hp sm mr => ?_⟩
      refine q p H' ms g s hp ?_
      rcases mr with ⟨j0, m0⟩ | ⟨jne, pq⟩
      · exact ⟨fun _ _ => m0, fun w => by rcases w with w | w; exact absurd k0 w; exact absurd j0 w, by rw [k0]; exact Dv.zero ff_nil, by rw [j0]; exact Dv.zero ff_nil, fun d _ _ => by rw [m0]; exact Dv.zero ff_nil, ⟨fun x hx => by rw [m0] at hx; cases hx⟩, by rw [m0]; exact Nat.zero_le _, sm⟩
      · obtain ⟨d1, d2, mne, top, ll⟩ := mon_dv jne (leadOf sj jne) pq
        exact ⟨fun _ w => absurd w jne, fun _ => ⟨mne, top⟩, by rw [k0]; exact Dv.zero ff_nil, d1, fun d _ h2 => h2.trans d2, (pq.bits (leadOf sj jne) bj).mono (by omega), by omega, sm⟩
    have kne : ks ≠ [] := fun w => z (by rw [w]; rfl)
    refine ⟨_, rfl, _, _, _, rfl, hbb, b, js, f, rfl, hb, _, rfl, iteEq (fun z2 => ?_) (fun z2 => ?_)⟩
    · have j0 : js = [] := List.eq_nil_of_length_eq_zero (by omega)
      refine ⟨_, rfl, a, ks, e, k, rfl, ha, sk, bk, by omega, by omega, fun p H' ms g s hp sm mr => ?_⟩
      refine q p H' ms g s hp ?_
      rcases mr with ⟨k0, m0⟩ | ⟨_, pq⟩
      · exact absurd k0 kne
      · obtain ⟨d1, d2, mne, top, ll⟩ := mon_dv kne (leadOf sk kne) pq
        exact ⟨fun w => absurd w kne, fun _ => ⟨mne, top⟩, d1, by rw [j0]; exact Dv.zero ff_nil, fun d h1 _ => h1.trans d2, (pq.bits (leadOf sk kne) bk).mono (by omega), by omega, sm⟩
    have jne : js ≠ [] := fun w => z2 (by rw [w]; rfl)
    have kl := leadOf sk kne
    have jl := leadOf sj jne
    have kp := lpos kne
    have jp := lpos jne
    refine ⟨_, rfl, _, _, _, _, _, rfl, haa, T.cls_Poly, T.n_Poly_coefs, rfl, ta, ks, k, rfl, .inr (SqT.of hta), bk, by omega, by omega, fun _ => ⟨_, getD_mem (by omega), kl⟩, fun p1 H1 xs s1 np1 hp1 px => ?_⟩
    have htb1 := s1 _ _ htb
    have hbb1 := s1 _ _ hbb
    refine ⟨_, rfl, _, _, _, _, _, rfl, hbb1, T.cls_Poly, T.n_Poly_coefs, rfl, tb, js, k, rfl, .inr (SqT.of htb1), bj, by omega, by omega, fun _ => ⟨_, getD_mem (by omega), jl⟩, fun p2 H2 ys s2 np2 hp2 py => ?_⟩
    obtain ⟨cx, cx0, hx⟩ := px.mul
    obtain ⟨cy, cy0, hy⟩ := py.mul
    have cx1 := cx0 kne
    have cy1 := cy0 jne
    have lx := px.len
    have ly := py.len
    have xl : xs.getD (xs.length - 1) 0 ≠ 0 := fun w => kl (by rw [hx, ← lx, w, Int.mul_zero])
    have yl : ys.getD (ys.length - 1) 0 ≠ 0 := fun w => jl (by rw [hy, ← ly, w, Int.mul_zero])
    have bxs : Bits k xs := bits_of_at fun i => by
      have w := bk.getD i
      rw [hx, Int.natAbs_mul, Int.natAbs_natCast] at w
      have : 1 * (xs.getD i 0).natAbs ≤ cx * (xs.getD i 0).natAbs := Nat.mul_le_mul_right _ cx1
      omega
    have bys : Bits k ys := bits_of_at fun i => by
      have w := bj.getD i
      rw [hy, Int.natAbs_mul, Int.natAbs_natCast] at w
      have : 1 * (ys.getD i 0).natAbs ≤ cy * (ys.getD i 0).natAbs := Nat.mul_le_mul_right _ cy1
      omega
    have toK : ∀ {d : Nat → Int}, Dv d (ff xs) ↔ Dv d (ff ks) := fun {d} => ⟨fun h => (h.scale' cx).congr (fun _ => rfl) hx, fun h => (h.congr (fun _ => rfl) (fun i => (hx i).symm)).scale (by omega)⟩
    have toJ : ∀ {d : Nat → Int}, Dv d (ff ys) ↔ Dv d (ff js) := fun {d} => ⟨fun h => (h.scale' cy).congr (fun _ => rfl) hy, fun h => (h.congr (fun _ => rfl) (fun i => (hy i).symm)).scale (by omega)⟩
    have s12 := s1.trans s2
    have hp12 := s2 _ _ hp1
    refine ⟨_, rfl, _, rfl, p1, p2, xs, ys, M61, 0, rfl, SqL.of hp12, SqL.of hp2, m61_prime, by decide, by omega, by omega, by omega, by omega, fun r H3 s3 hr => ?_⟩
    have s13 := s12.trans s3
    refine ⟨_, rfl, iteB (fun w => ?_) (fun w => ?_)⟩
    · obtain ⟨hl, c, hc, hG⟩ := hr w
      refine ⟨by show 1 ≤ sizeLine; decide, fun p3 np3 => ?_⟩
      have s4 := sm_new (o := .lst [V.int 1]) np3
      refine ⟨p3, [1], 1, 8, rfl, .inl (SqL.of upd_same), by decide, by decide, by decide, by decide, fun p5 H5 ms g s5 np5 hp5 pq => ?_⟩
      obtain ⟨rfl, em⟩ := pq_one pq
      have e1_ : ff ms = xp 0 := funext fun i => by
        rw [em]
        match i with
        | 0 => rfl
        | i + 1 => show ([1] : List Int).getD (i + 1) 0 = if i + 1 = 0 then 1 else 0; rw [if_neg (by omega)]; exact getD_end (by show 1 ≤ _; omega)
      have ml := pq.len (by decide)
      have mne : ms ≠ [] := fun w => by
        have : ff ms 0 = 0 := by rw [w]; rfl
        rw [e1_] at this
        exact absurd this (by decide)
      have m1 : ms.length = 1 := by
        have := lpos mne
        have : ms.length ≤ 1 := ml
        omega
      refine q p5 H5 ms 1 ((s13.trans s4).trans s5) hp5 ⟨fun w => absurd w kne, fun _ => ⟨mne, ?_⟩, ?_, ?_, fun d h1 h2 => ?_, ?_, by omega, pq.self⟩
      · rw [m1]
        show ff ms 0 = 1
        rw [e1_]
        rfl
      · rw [e1_]; exact Dv.one _ (N := ks.length) (fun i hi => getD_end hi)
      · rw [e1_]; exact Dv.one _ (N := js.length) (fun i hi => getD_end hi)
      · rw [e1_]
        have dA := dg_list xl
        have dB := dg_list yl
        obtain ⟨e', ke, me, eu, de0, _, _⟩ := ok.ex kne jne
        have eu' := Euc.prims (c := (cx : Int)) (d := (cy : Int)) (by omega) (by omega) hx hy eu
        have n0 := mod_coprime m61_prime dA dB hl hc hG de0 eu'.da eu'.db
        subst n0
        exact (eu.max h1 h2).trans (Dv.const de0)
      · exact (pq.bits (by decide) (k := 1) ⟨fun x hx => by rw [List.mem_singleton.mp hx]; decide⟩).mono (by omega)
    · obtain ⟨e0, ke, me, eu, de0, bke, hke⟩ := ok.ex kne jne
      have eu' := Euc.prims (c := (cx : Int)) (d := (cy : Int)) (by omega) (by omega) hx hy eu
      refine ⟨_, rfl, _, rfl, p1, p2, xs, ys, k, KK, rfl, SqL.of (s3 _ _ hp12), SqL.of (s3 _ _ hp2), xl, yl, by omega, by omega, bxs, bys, ⟨e0, ke, me, eu', de0, bke, hke⟩, kk, KK2, fun p4 H4 zs s4 hp4 zl bz lz d1 d2 mx => ?_⟩
      have zne : zs ≠ [] := fun y => zl (by rw [y]; rfl)
      have selfz : Pq zs 1 zs 1 := ⟨fun i => rfl, by decide, .inr zl, fun g hg _ => hg⟩
      refine ⟨p4, zs, 1, KK, rfl, hp4, selfz, bz, by omega, by omega, fun p5 H5 ms g s5 hp5 sm mr => ?_⟩
      rcases mr with ⟨z0, _⟩ | ⟨_, pq⟩
      · exact absurd z0 zne
      · obtain ⟨m1, m2, mne, top, ll⟩ := mon_dv zne zl pq
        exact q p5 H5 ms g ((s13.trans s4).trans s5) hp5 ⟨fun y => absurd y kne, fun _ => ⟨mne, top⟩, m1.trans (toK.mp d1), m1.trans (toJ.mp d2), fun d h1 h2 => (mx d (toK.mpr h1) (toJ.mpr h2)).trans m2, pq.bits zl bz, by omega, sm⟩

theorem ok_exact (T : Tx K mg) (O_divide : OkF P w K mg base 4 (He.fAd K ("divide", none)) ["p", "q"] (spDivide K)) : OkF P w K mg base 5 (He.fAd K ("exact", none)) ["p", "q"] (spExact K) := by
  obtain ⟨_, G_divide, b_divide, k_divide⟩ := O_divide
  refine okF_of (d := d_exact) T.d_exact rfl sc_exact (fun _ _ _ _ _ _ us hl => match us, hl with | [_, _], _ => rfl) (fun vs H Q E h => ?_) (fun cdv A outer s H vs Q E hr h => ?_)
  · first | (obtain ⟨_, rfl, _⟩ := h; rfl) | (obtain ⟨_, _, rfl, _⟩ := h; rfl) | (obtain ⟨_, _, _, rfl, _⟩ := h; rfl) | (obtain ⟨_, _, _, _, rfl, _⟩ := h; rfl) | (obtain ⟨_, _, _, _, _, rfl, _⟩ := h; rfl) | (obtain ⟨_, _, _, _, _, _, rfl, _⟩ := h; rfl) | (obtain ⟨_, _, _, _, _, _, _, rfl, _⟩ := h; rfl) | (obtain ⟨_, _, _, _, _, _, _, _, rfl, _⟩ := h; rfl) | (obtain ⟨_, _, _, _, _, _, _, _, _, rfl, _⟩ := h; rfl) | (obtain ⟨_, _, _, _, _, _, _, _, _, _, rfl, _⟩ := h; rfl)
  · obtain ⟨a, b, ks, js, e, f, k, rfl, hp, hq, c, e0, f0, lz, b1, b2, eb, fb, l1, l2, hk, hk2, q⟩ := h
    refine ⟨_, (pss_cons (ps_asg (pe_call G_divide (hr.mono (by decide)) (by rfl) T.g_divide k_divide b_divide .nil passL (pa_cons (pv 0) (pa_cons (pv 1) pa_nil))) (pg_tup rfl (pgs_cons (pg_name (i := 2) sc_exact.nd rfl (Or.inl rfl)) (pgs_cons (pg_name (i := 3) sc_exact.nd rfl (Or.inl rfl)) pgs_nil))))
      (pss_one (ps_ret (pv 2)))), ?_⟩
    refine ⟨_, rfl, _, rfl, _, _, ks, js, e, f, k, rfl, hp, hq, fun z => absurd z c, fun _ => ⟨e0, f0, lz, b1, b2, eb, fb, l1, l2, hk, .inl hk2, fun t H' pq pr ms g ns h sm ht hm hn dv nr => ?_⟩⟩
    refine ⟨t, _, rfl, SqT.of ht, rfl, _, _, rfl, _, _, rfl, rfl, ?_⟩
    exact ⟨_, rfl, q pq H' ms g sm hm ⟨ns, h, dv⟩ nr⟩

theorem ok_Fraction___init__ (T : Tx K mg) : OkD P w K mg base 1 (He.fAd K ("Fraction", some "__init__")) ["self", "num", "den"] (He.Dv.v K (.int 1)) (spInit K) := by
  refine okD_of (d := d_Fraction___init__) (dv := .int 1) T.d_Fraction___init__ rfl sc_Fraction___init__ (fun _ _ _ _ _ _ _ us its h1 h2 => match us, its, h1, h2 with | [_, _, _], [_], _, _ => ⟨_, rfl, rfl⟩) (fun _ _ _ _ _ _ _ us its h1 h2 => match us, its, h1, h2 with | [_, _], [_], _, _ => ⟨_, rfl, rfl⟩) (by decide) (fun vs H Q E h => ?_) (fun cdv A outer s H vs Q E hr h => ?_)
  · first | (obtain ⟨_, rfl, _⟩ := h; rfl) | (obtain ⟨_, _, rfl, _⟩ := h; rfl) | (obtain ⟨_, _, _, rfl, _⟩ := h; rfl) | (obtain ⟨_, _, _, _, rfl, _⟩ := h; rfl) | (obtain ⟨_, _, _, _, _, rfl, _⟩ := h; rfl) | (obtain ⟨_, _, _, _, _, _, rfl, _⟩ := h; rfl) | (obtain ⟨_, _, _, _, _, _, _, rfl, _⟩ := h; rfl) | (obtain ⟨_, _, _, _, _, _, _, _, rfl, _⟩ := h; rfl) | (obtain ⟨_, _, _, _, _, _, _, _, _, rfl, _⟩ := h; rfl) | (obtain ⟨_, _, _, _, _, _, _, _, _, _, rfl, _⟩ := h; rfl)
  · obtain ⟨x, dx, n, d, k, rfl, hx, hb, hk, hE, q⟩ := h
    refine ⟨_, (pss_cons (ps_if (pt_cmpR op_eq (pv 2) pe_int (nomark _)) (pss_one (ps_raise rfl (takes_of rfl rfl rfl rfl) (pmk_own PySem.F.excBase_ValueError T.x_DivisionByZero T.g_DivisionByZero T.k_DivisionByZero (T.r_DivisionByZero rfl) rfl))) pss_nil)
      (pss_cons (ps_setI (i := 3) sc_Fraction___init__.nd rfl (Or.inl rfl) (pe_callBfun cr_gcd rfl T.g_gcd (pa_cons (pv 1) (pa_cons (pv 2) pa_nil))))
      (Evl.pss_cut (ps_if (pt_cmpR op_lt (pv 2) pe_int (nomark _)) (pss_one (ps_setI (i := 3) sc_Fraction___init__.nd rfl (Or.inl rfl) (pe_un un_neg (pv 3)))) pss_nil)
      (pss_cons (ps_fld (pv 0) (pe_op op_fdivZ (pv 1) (pv 3)) rfl)
      (pss_one (ps_fld (pv 0) (pe_op op_fdivZ (pv 2) (pv 3)) rfl)))))), ?_⟩
    refine ⟨_, rfl, rfl, _, rfl, iteEq (fun c => ?_) (fun c => ?_)⟩
    · exact hE c
    refine ⟨_, rfl, _, rfl, _, _, rfl, _, rfl, fun common e_common => ?_⟩
    refine ⟨fun σ' H' => H = H' ∧ ∃ c : Int, σ' = [some (.ref x), some (.int n), some (.int d), some (.int c)] ∧ c = if d < 0 then -common else common, ?_, ?_⟩
    · refine ⟨_, rfl, _, _, rfl, rfl, _, rfl, iteD (fun h1 => ?_) (fun h1 => ?_)⟩
      · exact ⟨_, rfl, _, rfl, _, rfl, fun c e => ⟨rfl, c, rfl, by rw [if_pos h1, e]⟩⟩
      · exact ⟨rfl, common, rfl, by rw [if_neg h1]⟩
    rintro _ _ ⟨rfl, cc, rfl, hc⟩
    rw [e_common] at hc
    obtain ⟨c0, cl, f⟩ := fq_init c hc
    have dz : CDivZ n cc := divZ c0 (Nat.lt_of_le_of_lt cl hb) hk
    have dz2 : CDivZ d cc := divZ c0 (Nat.lt_of_le_of_lt cl hb) hk
    refine ⟨_, rfl, _, rfl, _, _, rfl, rfl, dz, _, rfl, x, _, dx, [], rfl, hx, T.cls_Fraction, T.n_Fraction_num, by decide, ?_⟩
    refine ⟨_, rfl, _, rfl, _, _, rfl, rfl, dz2, _, rfl, x, _, dx, _, rfl, upd_same, T.cls_Fraction, T.n_Fraction_den, (show (1 : Nat) < 1000 by decide), ?_⟩
    have z := q c _ _ f
    rw [← upd_upd (H := H) (a := x) (o := .ins (CF K) dx (putF "num" (.int (n.fdiv cc)) []))] at z
    exact z

theorem ok_Poly_degree (T : Tx K mg) : OkF P w K mg base 1 (gtAd K (He.ga K "Poly") "degree") ["self"] (spPDeg K) := by
  refine okF_of (d := d_Poly_degree) T.d_Poly_degree rfl sc_Poly_degree (fun _ _ _ _ _ _ us hl => match us, hl with | [_], _ => rfl) (fun vs H Q E h => ?_) (fun cdv A outer s H vs Q E hr h => ?_)
  · first | (obtain ⟨_, rfl, _⟩ := h; rfl) | (obtain ⟨_, _, rfl, _⟩ := h; rfl) | (obtain ⟨_, _, _, rfl, _⟩ := h; rfl) | (obtain ⟨_, _, _, _, rfl, _⟩ := h; rfl) | (obtain ⟨_, _, _, _, _, rfl, _⟩ := h; rfl) | (obtain ⟨_, _, _, _, _, _, rfl, _⟩ := h; rfl) | (obtain ⟨_, _, _, _, _, _, _, rfl, _⟩ := h; rfl) | (obtain ⟨_, _, _, _, _, _, _, _, rfl, _⟩ := h; rfl) | (obtain ⟨_, _, _, _, _, _, _, _, _, rfl, _⟩ := h; rfl) | (obtain ⟨_, _, _, _, _, _, _, _, _, _, rfl, _⟩ := h; rfl)
  · obtain ⟨a, ks, e, rfl, ⟨da, t, ha, ht⟩, q⟩ := h
    refine ⟨_, (pss_one (ps_ret (pe_op op_sub (pe_callB call_len_seq (by rfl) T.z_len PySem.boot_len (pa_cons (pe_fld (pv 0) rfl) pa_nil)) pe_int))), ?_⟩
    rw [← len_map] at q
    exact ⟨_, rfl, _, _, _, _, _, rfl, ha, T.cls_Poly, T.n_Poly_coefs, rfl, _, _, rfl, .inr (SqT.of ht), _, _, rfl, rfl, q⟩

theorem ok_Poly_coefficient (T : Tx K mg) (O_Poly_degree : OkF P w K mg base 1 (gtAd K (He.ga K "Poly") "degree") ["self"] (spPDeg K)) (O_Fraction___init__ : OkD P w K mg base 1 (He.fAd K ("Fraction", some "__init__")) ["self", "num", "den"] (He.Dv.v K (.int 1)) (spInit K)) : OkF P w K mg base 3 (He.fAd K ("Poly", some "coefficient")) ["self", "index"] (spPCo K) := by
  obtain ⟨_, G_Poly_degree, b_Poly_degree, k_Poly_degree⟩ := O_Poly_degree
  obtain ⟨_, G_Fraction___init__, b_Fraction___init__, ⟨_, v_Fraction___init__, bd_Fraction___init__⟩, k_Fraction___init__⟩ := O_Fraction___init__
  refine okF_of (d := d_Poly_coefficient) T.d_Poly_coefficient rfl sc_Poly_coefficient (fun _ _ _ _ _ _ us hl => match us, hl with | [_, _], _ => rfl) (fun vs H Q E h => ?_) (fun cdv A outer s H vs Q E hr h => ?_)
  · first | (obtain ⟨_, rfl, _⟩ := h; rfl) | (obtain ⟨_, _, rfl, _⟩ := h; rfl) | (obtain ⟨_, _, _, rfl, _⟩ := h; rfl) | (obtain ⟨_, _, _, _, rfl, _⟩ := h; rfl) | (obtain ⟨_, _, _, _, _, rfl, _⟩ := h; rfl) | (obtain ⟨_, _, _, _, _, _, rfl, _⟩ := h; rfl) | (obtain ⟨_, _, _, _, _, _, _, rfl, _⟩ := h; rfl) | (obtain ⟨_, _, _, _, _, _, _, _, rfl, _⟩ := h; rfl) | (obtain ⟨_, _, _, _, _, _, _, _, _, rfl, _⟩ := h; rfl) | (obtain ⟨_, _, _, _, _, _, _, _, _, _, rfl, _⟩ := h; rfl)
  · obtain ⟨a, ks, e, i, k, rfl, hp, e0, eb, hk, q⟩ := h
    have hp2 := hp
    obtain ⟨da, t, ha, ht⟩ := hp
    refine ⟨_, (pss_cons (ps_if (PW.pt (pw_or (pt_cmpR op_lt (pv 1) pe_int (nomark _)) (pw_or1 (pt_cmpR op_gt (pv 1) (pe_prop (pv 0) T.cls_Poly T.p_Poly_degree G_Poly_degree (hr.mono (by decide)) b_Poly_degree .nil passL rfl) (nomark _))))) (pss_one (ps_ret (pe_makeI T.mk_Fraction G_Fraction___init__ (hr.mono (by decide)) (by rfl) T.g_Fraction bd_Fraction___init__ v_Fraction___init__ passL (mkFr_conv K [_]) (pa_cons pe_int pa_nil)))) pss_nil)
      (pss_one (ps_ret (pe_makeI T.mk_Fraction G_Fraction___init__ (hr.mono (by decide)) (by rfl) T.g_Fraction b_Fraction___init__ .nil passL (mkFr_conv K []) (pa_cons (pe_ix ix_tup (pe_fld (pv 0) rfl) (pv 1) (fun _ _ => rfl)) (pa_cons (pe_fld (pv 0) rfl) pa_nil)))))), ?_⟩
    have zero : (i < 0 ∨ (ks.length : Int) - 1 < i) → ∀ p dp H2 n d, Same H H2 → H p = none → H2 p = some (.ins (CF K) dp (fsF n d)) → Fq 0 1 n d → Q (.ref p) H2 := fun h p dp H2 n d sm np hp f => by
      refine q p dp H2 n d sm np hp ?_
      have z : coI ks i = 0 := by
        unfold coI
        split
        · rfl
        · exact getD_end (by omega)
      rw [z]
      exact f.conv (by decide) (by grind)
    refine ⟨_, rfl, _, _, rfl, rfl, _, rfl, iteD (fun c => ?_) (fun c => ?_)⟩
    · refine iteK rfl ?_
      exact ⟨_, _, 8, rfl, by decide, by decide, by decide, zero (.inl c)⟩
    · refine ⟨_, rfl, _, rfl, _, _, _, rfl, ha, _, _, _, rfl, hp2, _, _, rfl, rfl, _, rfl, iteD (fun c2 => ?_) (fun c2 => ?_)⟩
      · exact ⟨_, _, 8, rfl, by decide, by decide, by decide, zero (.inr c2)⟩
      · have lt : i.toNat < ks.length := by omega
        refine ⟨_, rfl, _, _, _, _, _, rfl, ha, T.cls_Poly, T.n_Poly_coefs, rfl, _, rfl, _, _, _, _, rfl, rfl, SqT.of ht, at_of (j := i.toNat) (by omega) (map_at (get_of_lt lt)), _, rfl, _, _, _, _, _, rfl, ha, T.cls_Poly, T.n_Poly_den, rfl, _, _, k, rfl, eb, hk, by omega, fun p dp H2 n d sm np hp f => ?_⟩
        refine q p dp H2 n d sm np hp ?_
        unfold coI
        rw [if_neg c]
        exact f

theorem ok_Poly_lead (T : Tx K mg) (O_Poly_degree : OkF P w K mg base 1 (gtAd K (He.ga K "Poly") "degree") ["self"] (spPDeg K)) (O_Poly_coefficient : OkF P w K mg base 3 (He.fAd K ("Poly", some "coefficient")) ["self", "index"] (spPCo K)) : OkF P w K mg base 4 (gtAd K (He.ga K "Poly") "lead") ["self"] (spPLe K) := by
  obtain ⟨_, G_Poly_degree, b_Poly_degree, k_Poly_degree⟩ := O_Poly_degree
  obtain ⟨_, G_Poly_coefficient, b_Poly_coefficient, k_Poly_coefficient⟩ := O_Poly_coefficient
  refine okF_of (d := d_Poly_lead) T.d_Poly_lead rfl sc_Poly_lead (fun _ _ _ _ _ _ us hl => match us, hl with | [_], _ => rfl) (fun vs H Q E h => ?_) (fun cdv A outer s H vs Q E hr h => ?_)
  · first | (obtain ⟨_, rfl, _⟩ := h; rfl) | (obtain ⟨_, _, rfl, _⟩ := h; rfl) | (obtain ⟨_, _, _, rfl, _⟩ := h; rfl) | (obtain ⟨_, _, _, _, rfl, _⟩ := h; rfl) | (obtain ⟨_, _, _, _, _, rfl, _⟩ := h; rfl) | (obtain ⟨_, _, _, _, _, _, rfl, _⟩ := h; rfl) | (obtain ⟨_, _, _, _, _, _, _, rfl, _⟩ := h; rfl) | (obtain ⟨_, _, _, _, _, _, _, _, rfl, _⟩ := h; rfl) | (obtain ⟨_, _, _, _, _, _, _, _, _, rfl, _⟩ := h; rfl) | (obtain ⟨_, _, _, _, _, _, _, _, _, _, rfl, _⟩ := h; rfl)
  · obtain ⟨a, ks, e, k, rfl, hp, e0, eb, hk, q⟩ := h
    have hp2 := hp
    obtain ⟨da, t, ha, ht⟩ := hp
    refine ⟨_, (pss_one (ps_ret (pe_meth (pv 0) T.cls_Poly T.m_Poly_coefficient G_Poly_coefficient (hr.mono (by decide)) b_Poly_coefficient .nil passL (pa_cons (pe_prop (pv 0) T.cls_Poly T.p_Poly_degree G_Poly_degree (hr.mono (by decide)) b_Poly_degree .nil passL rfl) pa_nil)))), ?_⟩
    exact ⟨_, rfl, _, _, _, rfl, ha, rfl, _, rfl, _, _, _, rfl, ha, _, _, _, rfl, hp2, _, _, _, _, k, rfl, hp2, e0, eb, hk, q⟩

theorem ok_Fraction_is_zero (T : Tx K mg) : OkF P w K mg base 1 (gtAd K (He.ga K "Fraction") "is_zero") ["self"] (spZero K) := by
  refine okF_of (d := d_Fraction_is_zero) T.d_Fraction_is_zero rfl sc_Fraction_is_zero (fun _ _ _ _ _ _ us hl => match us, hl with | [_], _ => rfl) (fun vs H Q E h => ?_) (fun cdv A outer s H vs Q E hr h => ?_)
  · first | (obtain ⟨_, rfl, _⟩ := h; rfl) | (obtain ⟨_, _, rfl, _⟩ := h; rfl) | (obtain ⟨_, _, _, rfl, _⟩ := h; rfl) | (obtain ⟨_, _, _, _, rfl, _⟩ := h; rfl) | (obtain ⟨_, _, _, _, _, rfl, _⟩ := h; rfl) | (obtain ⟨_, _, _, _, _, _, rfl, _⟩ := h; rfl) | (obtain ⟨_, _, _, _, _, _, _, rfl, _⟩ := h; rfl) | (obtain ⟨_, _, _, _, _, _, _, _, rfl, _⟩ := h; rfl) | (obtain ⟨_, _, _, _, _, _, _, _, _, rfl, _⟩ := h; rfl) | (obtain ⟨_, _, _, _, _, _, _, _, _, _, rfl, _⟩ := h; rfl)
  · obtain ⟨a, da, n1, d1, rfl, ha, q⟩ := h
    refine ⟨_, (pss_one (ps_ret (pe_cmpR op_eq (pe_fld (pv 0) rfl) pe_int (nomark _)))), ?_⟩
    exact ⟨_, rfl, _, _, _, _, _, rfl, ha, T.cls_Fraction, T.n_Fraction_num, rfl, rfl, q⟩

theorem ok__in_lowest_terms (T : Tx K mg) (O_Fraction___init__ : OkD P w K mg base 1 (He.fAd K ("Fraction", some "__init__")) ["self", "num", "den"] (He.Dv.v K (.int 1)) (spInit K)) : OkF P w K mg base 3 (He.fAd K ("_in_lowest_terms", none)) ["num", "den"] (spLow K) := by
  obtain ⟨_, G_Fraction___init__, b_Fraction___init__, ⟨_, v_Fraction___init__, bd_Fraction___init__⟩, k_Fraction___init__⟩ := O_Fraction___init__
  refine okF_of (d := d__in_lowest_terms) T.d__in_lowest_terms rfl sc__in_lowest_terms (fun _ _ _ _ _ _ us hl => match us, hl with | [_, _], _ => rfl) (fun vs H Q E h => ?_) (fun cdv A outer s H vs Q E hr h => ?_)
  · first | (obtain ⟨_, rfl, _⟩ := h; rfl) | (obtain ⟨_, _, rfl, _⟩ := h; rfl) | (obtain ⟨_, _, _, rfl, _⟩ := h; rfl) | (obtain ⟨_, _, _, _, rfl, _⟩ := h; rfl) | (obtain ⟨_, _, _, _, _, rfl, _⟩ := h; rfl) | (obtain ⟨_, _, _, _, _, _, rfl, _⟩ := h; rfl) | (obtain ⟨_, _, _, _, _, _, _, rfl, _⟩ := h; rfl) | (obtain ⟨_, _, _, _, _, _, _, _, rfl, _⟩ := h; rfl) | (obtain ⟨_, _, _, _, _, _, _, _, _, rfl, _⟩ := h; rfl) | (obtain ⟨_, _, _, _, _, _, _, _, _, _, rfl, _⟩ := h; rfl)
  · obtain ⟨n, d, rfl, q⟩ := h
    refine ⟨_, (pss_cons (ps_set (i := 2) sc__in_lowest_terms.nd rfl (Or.inl rfl) (pe_makeI T.mk_Fraction G_Fraction___init__ (hr.mono (by decide)) (by rfl) T.g_Fraction bd_Fraction___init__ v_Fraction___init__ passL (mkFr_conv K [_]) (pa_cons pe_int pa_nil)))
      (pss_cons (ps_fld (pv 2) (pv 0) rfl)
      (pss_cons (ps_fld (pv 2) (pv 1) rfl)
      (pss_one (ps_ret (pv 2)))))), ?_⟩
    refine ⟨0, 1, 1, rfl, by decide, by decide, by decide, fun p dp H2 a b sm np hp fq => ?_⟩
    refine ⟨_, rfl, _, rfl, p, _, dp, _, rfl, hp, T.cls_Fraction, T.n_Fraction_num, (show (2 : Nat) < 1000 by decide), ?_⟩
    refine ⟨_, rfl, _, rfl, p, _, dp, _, rfl, upd_same, T.cls_Fraction, T.n_Fraction_den, (show (2 : Nat) < 1000 by decide), ?_⟩
    exact ⟨_, rfl, q p dp _ n d (same_mut (same_mut sm np) np) np upd_same ⟨rfl, rfl⟩⟩

theorem ok_Fraction___mul__ (T : Tx K mg) (O__in_lowest_terms : OkF P w K mg base 3 (He.fAd K ("_in_lowest_terms", none)) ["num", "den"] (spLow K)) : OkF P w K mg base 4 (He.fAd K ("Fraction", some "__mul__")) ["self", "other"] (spMul K) := by
  obtain ⟨_, G__in_lowest_terms, b__in_lowest_terms, k__in_lowest_terms⟩ := O__in_lowest_terms
  refine okF_of (d := d_Fraction___mul__) T.d_Fraction___mul__ rfl sc_Fraction___mul__ (fun _ _ _ _ _ _ us hl => match us, hl with | [_, _], _ => rfl) (fun vs H Q E h => ?_) (fun cdv A outer s H vs Q E hr h => ?_)
  · first | (obtain ⟨_, rfl, _⟩ := h; rfl) | (obtain ⟨_, _, rfl, _⟩ := h; rfl) | (obtain ⟨_, _, _, rfl, _⟩ := h; rfl) | (obtain ⟨_, _, _, _, rfl, _⟩ := h; rfl) | (obtain ⟨_, _, _, _, _, rfl, _⟩ := h; rfl) | (obtain ⟨_, _, _, _, _, _, rfl, _⟩ := h; rfl) | (obtain ⟨_, _, _, _, _, _, _, rfl, _⟩ := h; rfl) | (obtain ⟨_, _, _, _, _, _, _, _, rfl, _⟩ := h; rfl) | (obtain ⟨_, _, _, _, _, _, _, _, _, rfl, _⟩ := h; rfl) | (obtain ⟨_, _, _, _, _, _, _, _, _, _, rfl, _⟩ := h; rfl)
  · obtain ⟨a, b, da, db, n1, d1, n2, d2, k, rfl, ha, hb, l1, l2, hk, q⟩ := h
    refine ⟨_, (pss_cons (ps_setI (i := 2) sc_Fraction___mul__.nd rfl (Or.inl rfl) (pe_callBfun cr_gcd rfl T.g_gcd (pa_cons (pe_fld (pv 0) rfl) (pa_cons (pe_fld (pv 1) rfl) pa_nil))))
      (pss_cons (ps_setI (i := 3) sc_Fraction___mul__.nd rfl (Or.inl rfl) (pe_callBfun cr_gcd rfl T.g_gcd (pa_cons (pe_fld (pv 1) rfl) (pa_cons (pe_fld (pv 0) rfl) pa_nil))))
      (pss_cons (ps_setI (i := 4) sc_Fraction___mul__.nd rfl (Or.inl rfl) (pe_op op_mulW (pe_op op_fdivW (pe_fld (pv 0) rfl) (pv 2)) (pe_op op_fdivW (pe_fld (pv 1) rfl) (pv 3))))
      (pss_one (ps_ret (pe_call G__in_lowest_terms (hr.mono (by decide)) (by rfl) T.g__in_lowest_terms k__in_lowest_terms b__in_lowest_terms .nil passL (pa_cons (pv 4) (pa_cons (pe_op op_mulW (pe_op op_fdivW (pe_fld (pv 0) rfl) (pv 3)) (pe_op op_fdivW (pe_fld (pv 1) rfl) (pv 2))) pa_nil)))))))), ?_⟩
    refine ⟨_, rfl, _, _, _, _, _, rfl, ha, T.cls_Fraction, T.n_Fraction_num, rfl, _, rfl, _, _, _, _, _, rfl, hb, T.cls_Fraction, T.n_Fraction_den, rfl, _, _, rfl, _, rfl, fun l el => ?_⟩
    refine ⟨_, rfl, _, _, _, _, _, rfl, hb, T.cls_Fraction, T.n_Fraction_num, rfl, _, rfl, _, _, _, _, _, rfl, ha, T.cls_Fraction, T.n_Fraction_den, rfl, _, _, rfl, _, rfl, fun r er => ?_⟩
    obtain ⟨l0, r0, f⟩ := fq_mul l1.pos l2.pos l1.cop l2.cop el er
    have lb : l.natAbs < 2 ^ k := Nat.lt_of_le_of_lt (by
      rw [el, Int.natAbs_natCast]
      exact Nat.le_of_dvd (by have := l2.pos; omega) (Nat.gcd_dvd_right _ _)) l2.bd
    have rb : r.natAbs < 2 ^ k := Nat.lt_of_le_of_lt (by
      rw [er, Int.natAbs_natCast]
      exact Nat.le_of_dvd (by have := l1.pos; omega) (Nat.gcd_dvd_right _ _)) l1.bd
    have b1 : (n1 / l).natAbs < 2 ^ k := Nat.lt_of_le_of_lt (Int.natAbs_ediv_le_natAbs _ _) l1.bn
    have b2 : (n2 / r).natAbs < 2 ^ k := Nat.lt_of_le_of_lt (Int.natAbs_ediv_le_natAbs _ _) l2.bn
    have b3 : (d1 / r).natAbs < 2 ^ k := Nat.lt_of_le_of_lt (Int.natAbs_ediv_le_natAbs _ _) l1.bd
    have b4 : (d2 / l).natAbs < 2 ^ k := Nat.lt_of_le_of_lt (Int.natAbs_ediv_le_natAbs _ _) l2.bd
    refine ⟨_, rfl, _, _, _, _, _, rfl, ha, T.cls_Fraction, T.n_Fraction_num, rfl, _, rfl, _, _, rfl, rfl, divW l0 lb hk, _, rfl, _, _, _, _, _, rfl, hb, T.cls_Fraction, T.n_Fraction_num, rfl, _, rfl, _, _, rfl, rfl, divW r0 rb hk, _, _, rfl, rfl, mulW b1 b2 (by omega), _, rfl, fun num en => ?_⟩
    refine ⟨_, rfl, _, rfl, _, _, _, _, _, rfl, ha, T.cls_Fraction, T.n_Fraction_den, rfl, _, rfl, _, _, rfl, rfl, divW r0 rb hk, _, rfl, _, _, _, _, _, rfl, hb, T.cls_Fraction, T.n_Fraction_den, rfl, _, rfl, _, _, rfl, rfl, divW l0 lb hk, _, _, rfl, rfl, mulW b3 b4 (by omega), _, _, rfl, fun p dp H' n d sm np hp e => ?_⟩
    obtain ⟨rfl, rfl⟩ := e
    rw [← en] at f
    exact q p dp H' _ _ sm np hp f

theorem ok_Fraction_over (T : Tx K mg) (O_Fraction_is_zero : OkF P w K mg base 1 (gtAd K (He.ga K "Fraction") "is_zero") ["self"] (spZero K)) (O_Fraction___init__ : OkD P w K mg base 1 (He.fAd K ("Fraction", some "__init__")) ["self", "num", "den"] (He.Dv.v K (.int 1)) (spInit K)) (O_Fraction___mul__ : OkF P w K mg base 4 (He.fAd K ("Fraction", some "__mul__")) ["self", "other"] (spMul K)) : OkF P w K mg base 5 (He.fAd K ("Fraction", some "over")) ["self", "other"] (spOver K) := by
  obtain ⟨_, G_Fraction_is_zero, b_Fraction_is_zero, k_Fraction_is_zero⟩ := O_Fraction_is_zero
  obtain ⟨_, G_Fraction___init__, b_Fraction___init__, ⟨_, v_Fraction___init__, bd_Fraction___init__⟩, k_Fraction___init__⟩ := O_Fraction___init__
  obtain ⟨_, G_Fraction___mul__, b_Fraction___mul__, k_Fraction___mul__⟩ := O_Fraction___mul__
  refine okF_of (d := d_Fraction_over) T.d_Fraction_over rfl sc_Fraction_over (fun _ _ _ _ _ _ us hl => match us, hl with | [_, _], _ => rfl) (fun vs H Q E h => ?_) (fun cdv A outer s H vs Q E hr h => ?_)
  · first | (obtain ⟨_, rfl, _⟩ := h; rfl) | (obtain ⟨_, _, rfl, _⟩ := h; rfl) | (obtain ⟨_, _, _, rfl, _⟩ := h; rfl) | (obtain ⟨_, _, _, _, rfl, _⟩ := h; rfl) | (obtain ⟨_, _, _, _, _, rfl, _⟩ := h; rfl) | (obtain ⟨_, _, _, _, _, _, rfl, _⟩ := h; rfl) | (obtain ⟨_, _, _, _, _, _, _, rfl, _⟩ := h; rfl) | (obtain ⟨_, _, _, _, _, _, _, _, rfl, _⟩ := h; rfl) | (obtain ⟨_, _, _, _, _, _, _, _, _, rfl, _⟩ := h; rfl) | (obtain ⟨_, _, _, _, _, _, _, _, _, _, rfl, _⟩ := h; rfl)
  · obtain ⟨a, b, da, db, n1, d1, n2, d2, k, rfl, ha, hb, l1, l2, hk, hE, q⟩ := h
    refine ⟨_, (pss_cons (ps_if (pt_val (pe_prop (pv 1) T.cls_Fraction T.p_Fraction_is_zero G_Fraction_is_zero (hr.mono (by decide)) b_Fraction_is_zero .nil passL rfl)) (pss_one (ps_raise rfl (takes_of rfl rfl rfl rfl) (pmk_own PySem.F.excBase_ValueError T.x_DivisionByZero T.g_DivisionByZero T.k_DivisionByZero (T.r_DivisionByZero rfl) rfl))) pss_nil)
      (pss_one (ps_ret (pe_op (op_own2 T.first_Fraction T.s_Fraction___mul__ T.f_Fraction___mul__ G_Fraction___mul__ (hr.mono (by decide)) b_Fraction___mul__ passL) (pv 0) (pe_makeI T.mk_Fraction G_Fraction___init__ (hr.mono (by decide)) (by rfl) T.g_Fraction b_Fraction___init__ .nil passL (mkFr_conv K []) (pa_cons (pe_fld (pv 1) rfl) (pa_cons (pe_fld (pv 1) rfl) pa_nil))))))), ?_⟩
    refine ⟨_, rfl, _, _, _, rfl, hb, _, _, _, _, rfl, hb, _, rfl, iteEq (fun c => ?_) (fun c => ?_)⟩
    · exact hE c
    refine ⟨_, rfl, _, rfl, _, _, _, _, _, rfl, hb, T.cls_Fraction, T.n_Fraction_den, rfl, _, rfl, _, _, _, _, _, rfl, hb, T.cls_Fraction, T.n_Fraction_num, rfl, _, _, k, rfl, l2.bn, hk, c, fun p dp H1 x y sm np hp f => ?_⟩
    have ha1 := sm _ _ ha
    have l3 : Lw k x y := lw_of f c l2.bd l2.bn
    refine ⟨_, _, _, _, _, _, rfl, rfl, ha1, hp, _, _, _, _, _, _, _, _, k, rfl, ha1, hp, l1, l3, hk, fun p2 dp2 H2 n d sm2 np2 hp2 e2 => ?_⟩
    refine q c p2 dp2 H2 _ _ (sm.trans sm2) (sm.free np2) hp2 ?_
    refine e2.conv ?_ ?_
    · have z1 := l1.pos
      have z2 := l3.pos
      exact Int.mul_ne_zero (by omega) (by omega)
    · have z := f.eq
      have : n1 * x * (d1 * n2) = n1 * d1 * (x * n2) := by grind
      rw [this, z]
      grind

theorem ok_Poly_scaled (T : Tx K mg) (O_Poly___init__ : OkD P w K mg base 2 (He.fAd K ("Poly", some "__init__")) ["self", "coefs", "den"] (He.Dv.v K (.int 1)) (spPInit K)) : OkF P w K mg base 4 (He.fAd K ("Poly", some "scaled")) ["self", "factor"] (spPSca K) := by
  obtain ⟨_, G_Poly___init__, b_Poly___init__, ⟨_, v_Poly___init__, bd_Poly___init__⟩, k_Poly___init__⟩ := O_Poly___init__
  refine okF_of (d := d_Poly_scaled) T.d_Poly_scaled rfl sc_Poly_scaled (fun _ _ _ _ _ _ us hl => match us, hl with | [_, _], _ => rfl) (fun vs H Q E h => ?_) (fun cdv A outer s H vs Q E hr h => ?_)
  · first | (obtain ⟨_, rfl, _⟩ := h; rfl) | (obtain ⟨_, _, rfl, _⟩ := h; rfl) | (obtain ⟨_, _, _, rfl, _⟩ := h; rfl) | (obtain ⟨_, _, _, _, rfl, _⟩ := h; rfl) | (obtain ⟨_, _, _, _, _, rfl, _⟩ := h; rfl) | (obtain ⟨_, _, _, _, _, _, rfl, _⟩ := h; rfl) | (obtain ⟨_, _, _, _, _, _, _, rfl, _⟩ := h; rfl) | (obtain ⟨_, _, _, _, _, _, _, _, rfl, _⟩ := h; rfl) | (obtain ⟨_, _, _, _, _, _, _, _, _, rfl, _⟩ := h; rfl) | (obtain ⟨_, _, _, _, _, _, _, _, _, _, rfl, _⟩ := h; rfl)
  · obtain ⟨a, b, db, ks, e, n, d, k, rfl, hp, hbb, e0, eb, d0, hb, hn, hd, hl, hk, q⟩ := h
    obtain ⟨da, ta, ha, hta⟩ := hp
    refine ⟨_, (pss_one (ps_ret (pe_makeI T.mk_Poly G_Poly___init__ (hr.mono (by decide)) (by rfl) T.g_Poly b_Poly___init__ .nil passL (mkPo_conv K []) (pa_cons (pe_lc (own := [("c", 2)]) (g := gName 2) rfl sc_Poly_scaled.nd (pi_tup (pe_fld (pv 0) rfl)) (blkOk_by (own := [("c", 2)]) (N := N_Poly_scaled) (sc := defScope s_Poly_scaled) (by decide +kernel)) (fun _ _ _ _ _ => (pg_name (i := 2) sc_Poly_scaled.nd rfl (Or.inl rfl))) (fun _ _ _ _ _ => pts_nil) (fun _ _ _ _ _ => (pe_op op_mulW (pv 2) (pe_fldK (K := K) rfl (pe_fld (pv 1) rfl))))) (pa_cons (pe_op op_mulW (pe_fld (pv 0) rfl) (pe_fld (pv 1) rfl)) pa_nil))))), ?_⟩
    refine ⟨_, rfl, _, _, _, _, _, rfl, ha, T.cls_Poly, T.n_Poly_coefs, rfl, _, rfl, ⟨_, SqT.of hta⟩, fun D nD => lc_tup (K := K) (a := ta) (xs := (ks).map V.int) (fun i HL => Same H HL ∧ HL D = some (.lst ((((ks).map (fun x => x * n)).take i).map V.int))) ⟨sm_new nD, by rw [upd_same]; rfl⟩ (fun i HL hi hP => sm_tup hP.1 (SqT.of hta)) (fun i y HL hi hP => ?_) (fun H2 hP => ?_)⟩
    · obtain ⟨sm, hD⟩ := hP
      obtain ⟨u, hu, rfl⟩ := get_map_int hi
      have hum := List.mem_of_getElem? hu
      have hll := (List.getElem?_eq_some_iff.mp hu).1
      refine ⟨rfl, ?_⟩
      unfold tYes
      refine iteK rfl ?_
      refine ⟨_, rfl, _, rfl, _, _, _, _, _, rfl, sm _ _ hbb, T.cls_Fraction, T.n_Fraction_num, rfl, _, _, rfl, rfl, mulW (hb.all u hum) hn (by omega), _, hD, ?_, same_mut sm nD, ?_⟩
      · rw [len_map, List.length_take, List.length_map]; exact small1000 (by omega)
      · rw [upd_same, List.take_succ, List.map_append, List.getElem?_map, hu]; rfl
    obtain ⟨sD, hD⟩ := hP
    rw [List.take_of_length_le (by rw [List.length_map, List.length_map]; exact Nat.le_refl _)] at hD
    refine ⟨_, rfl, _, _, _, _, _, rfl, sD _ _ ha, T.cls_Poly, T.n_Poly_den, rfl, _, rfl, _, _, _, _, _, rfl, sD _ _ hbb, T.cls_Fraction, T.n_Fraction_den, rfl, _, _, rfl, rfl, mulW eb hd (by omega), D, _, _, k + k, rfl, .inl (SqL.of hD), by rw [List.length_map]; omega, abs_lt_mul eb hd, by omega, Int.mul_ne_zero (by omega) d0, fun p H4 ms g s4 np4 hp4 pq => ?_⟩
    exact q p H4 ms g (sD.trans s4) (sD.free np4) hp4 pq

theorem ok_Quotient___init__ (T : Tx K mg) (O_Poly_is_zero : OkF P w K mg base 1 (gtAd K (He.ga K "Poly") "is_zero") ["self"] (spPZer K)) (O_common_divisor : OkF P w K mg base 7 (He.fAd K ("common_divisor", none)) ["p", "q"] (spCDv K)) (O_exact : OkF P w K mg base 5 (He.fAd K ("exact", none)) ["p", "q"] (spExact K)) (O_Fraction___init__ : OkD P w K mg base 1 (He.fAd K ("Fraction", some "__init__")) ["self", "num", "den"] (He.Dv.v K (.int 1)) (spInit K)) (O_Poly_lead : OkF P w K mg base 4 (gtAd K (He.ga K "Poly") "lead") ["self"] (spPLe K)) (O_Fraction_over : OkF P w K mg base 5 (He.fAd K ("Fraction", some "over")) ["self", "other"] (spOver K)) (O_Poly_scaled : OkF P w K mg base 4 (He.fAd K ("Poly", some "scaled")) ["self", "factor"] (spPSca K)) (O_monic : OkF P w K mg base 4 (He.fAd K ("monic", none)) ["p"] (spMon K)) : OkF P w K mg base 9 (He.fAd K ("Quotient", some "__init__")) ["self", "num", "den"] (spQuI K) := by
  obtain ⟨_, G_Poly_is_zero, b_Poly_is_zero, k_Poly_is_zero⟩ := O_Poly_is_zero
  obtain ⟨_, G_common_divisor, b_common_divisor, k_common_divisor⟩ := O_common_divisor
  obtain ⟨_, G_exact, b_exact, k_exact⟩ := O_exact
  obtain ⟨_, G_Fraction___init__, b_Fraction___init__, ⟨_, v_Fraction___init__, bd_Fraction___init__⟩, k_Fraction___init__⟩ := O_Fraction___init__
  obtain ⟨_, G_Poly_lead, b_Poly_lead, k_Poly_lead⟩ := O_Poly_lead
  obtain ⟨_, G_Fraction_over, b_Fraction_over, k_Fraction_over⟩ := O_Fraction_over
  obtain ⟨_, G_Poly_scaled, b_Poly_scaled, k_Poly_scaled⟩ := O_Poly_scaled
  obtain ⟨_, G_monic, b_monic, k_monic⟩ := O_monic
  refine okF_of (d := d_Quotient___init__) T.d_Quotient___init__ rfl sc_Quotient___init__ (fun _ _ _ _ _ _ us hl => match us, hl with | [_, _, _], _ => rfl) (fun vs H Q E h => ?_) (fun cdv A outer s H vs Q E hr h => ?_)
  · (obtain ⟨_, _, _, _, _, _, _, _, _, _, _, rfl, _⟩ := h; rfl)
  · obtain ⟨x, dx, p, r, ks, js, e, f, k, KK, kc, rfl, hx, hp, hr_, sk, sj, hE, q⟩ := h
    refine ⟨_, (pss_cons (ps_if (pt_val (pe_prop (pv 2) T.cls_Poly T.p_Poly_is_zero G_Poly_is_zero (hr.mono (by decide)) b_Poly_is_zero .nil passL rfl)) (pss_one (ps_raise rfl (takes_of rfl rfl rfl rfl) (pmk_own PySem.F.excBase_ValueError T.x_DivisionByZero T.g_DivisionByZero T.k_DivisionByZero (T.r_DivisionByZero rfl) rfl))) pss_nil)
      (pss_cons (ps_set (i := 3) sc_Quotient___init__.nd rfl (Or.inl rfl) (pe_call G_common_divisor (hr.mono (by decide)) (by rfl) T.g_common_divisor k_common_divisor b_common_divisor .nil passL (pa_cons (pv 1) (pa_cons (pv 2) pa_nil))))
      (pss_cons (ps_set (i := 4) sc_Quotient___init__.nd rfl (Or.inl rfl) (pe_call G_exact (hr.mono (by decide)) (by rfl) T.g_exact k_exact b_exact .nil passL (pa_cons (pv 2) (pa_cons (pv 3) pa_nil))))
      (pss_cons (ps_fld (pv 0) (pe_meth (pe_call G_exact (hr.mono (by decide)) (by rfl) T.g_exact k_exact b_exact .nil passL (pa_cons (pv 1) (pa_cons (pv 3) pa_nil))) T.cls_Poly T.m_Poly_scaled G_Poly_scaled (hr.mono (by decide)) b_Poly_scaled .nil passL (pa_cons (pe_meth (pe_makeI T.mk_Fraction G_Fraction___init__ (hr.mono (by decide)) (by rfl) T.g_Fraction bd_Fraction___init__ v_Fraction___init__ passL (mkFr_conv K [_]) (pa_cons pe_int pa_nil)) T.cls_Fraction T.m_Fraction_over G_Fraction_over (hr.mono (by decide)) b_Fraction_over .nil passL (pa_cons (pe_prop (pv 4) T.cls_Poly T.p_Poly_lead G_Poly_lead (hr.mono (by decide)) b_Poly_lead .nil passL rfl) pa_nil)) pa_nil)) rfl)
      (pss_one (ps_fld (pv 0) (pe_call G_monic (hr.mono (by decide)) (by rfl) T.g_monic k_monic b_monic .nil passL (pa_cons (pv 4) pa_nil)) rfl)))))), ?_⟩
    obtain ⟨_, _, rr, _⟩ := id hr_
    refine ⟨_, rfl, _, _, _, rfl, rr, r, js, f, rfl, hr_, _, rfl, iteEq (fun z => ?_) (fun z => ?_)⟩
    · exact hE (List.eq_nil_of_length_eq_zero (by omega))
    have jne : js ≠ [] := fun w => z (by rw [w]; rfl)
    obtain ⟨ok, kb, kk, eb, fb, d1, d2, q⟩ := q jne
    have lk := ok.lk
    have lj := ok.lj
    have kc2 : kc ≤ 2000 := by
      have : kc ≤ dvB kc ks.length + kc := Nat.le_add_left _ _
      have e : dvB kc js.length = kc + 1 + (kc + 1) * js.length := rfl
      omega
    refine ⟨_, rfl, _, rfl, p, r, ks, js, e, f, k, KK, rfl, hp, hr_, sk, sj, ok, fun c H1 ms g s1 hc G => ?_⟩
    have bm := kb ms g G
    obtain ⟨mne, gm⟩ := G.mon (.inr jne)
    have lm := G.len
    have ml : ms.getD (ms.length - 1) 0 ≠ 0 := G.self.last.resolve_left mne
    have gb : g.natAbs < 2 ^ kc := by rw [← gm]; exact bm.getD _
    refine ⟨_, rfl, _, rfl, r, c, js, ms, f, g, kc, rfl, hr_.mono s1, hc, mne, sj.pos, G.self.pos, ml, ok.bj.mono kk, bm, fb, gb, by omega, by omega, kc2, by omega, fun lw H2 us h s2 hl dl nl => ?_⟩
    obtain ⟨ns1, h1, dl⟩ := dl
    have s12 := s1.trans s2
    obtain ⟨une, su⟩ := low_ne jne sj ml (by have := G.self.pos; omega) G.dj dl
    obtain ⟨_, _, rl, _⟩ := id hl
    refine ⟨_, rfl, _, rfl, p, c, ks, ms, e, g, kc, rfl, hp.mono s12, hc.mono s2, mne, sk.pos, G.self.pos, ml, ok.bk.mono kk, bm, eb, gb, by omega, by omega, kc2, by omega, fun nm H3 vs w s3 hn dn nn => ?_⟩
    obtain ⟨ns2, h2, dn⟩ := dn
    have sv := dn.pm_self
    obtain ⟨_, _, rn, _⟩ := id hn
    refine ⟨_, _, _, rfl, rn, rfl, 1, 1, 8, rfl, by decide, by decide, by decide, fun fp fdp H4 a1 b1 s4 np4 hf4 fq1 => ?_⟩
    have vsl : vs.length ≤ 400 := by have := dn.lm; omega
    have usl : us.length ≤ 100 := by have := dl.lm; omega
    have dn_pos : 0 < w := sv.pos
    have bl : Bits 3990 us := nl.b.mono (by omega)
    have bh : h.natAbs < 2 ^ 3990 := abs_mono nl.g (by omega)
    have bv : Bits 3990 vs := nn.b.mono (by omega)
    have bw : w.natAbs < 2 ^ 3990 := abs_mono nn.g (by omega)
    have sA := s3.trans s4
    have hl4 := hl.mono sA
    have ul := lpos une
    have lu : coI us ((us.length : Int) - 1) = us.getD (us.length - 1) 0 := by
      unfold coI
      rw [if_neg (by omega), show ((us.length : Int) - 1).toNat = us.length - 1 by omega]
    have lu0 : us.getD (us.length - 1) 0 ≠ 0 := su.last.resolve_left une
    have h0 : h ≠ 0 := by have := su.pos; omega
    obtain ⟨rfl, rfl⟩ := fq_11 fq1
    refine ⟨_, _, _, rfl, hf4, rfl, _, rfl, _, _, _, rfl, sA _ _ rl, lw, us, h, 3990, rfl, hl4, su.pos, bh, by decide, fun pl dpl H5 n d s5 np5 hpl fq5 => ?_⟩
    have n0 : n ≠ 0 := fun z => by
      have := fq5.eq
      rw [z, Int.zero_mul, lu] at this
      rcases Int.mul_eq_zero.mp this.symm with y | y
      · exact lu0 y
      · have := fq5.pos; omega
    have nb : n.natAbs < 2 ^ 3990 := Nat.lt_of_le_of_lt (fq5.num_le h0) (by rw [lu]; exact bl.getD _)
    have db : d.natAbs < 2 ^ 3990 := Nat.lt_of_le_of_lt (fq5.den_le h0) bh
    refine ⟨fp, pl, fdp, dpl, 1, 1, n, d, 3990, rfl, s5 _ _ hf4, hpl, ⟨by decide, by decide, small1 _ (by decide), small1 _ (by decide)⟩, ⟨fq5.pos, fq5.cop, nb, db⟩, by decide, fun z => absurd z n0, fun _ pz dpz H6 n6 d6 s6 np6 hp6 fo => ?_⟩
    have n1 : 1 * n ≠ 0 := by omega
    have b6 : n6.natAbs < 2 ^ 3990 := Nat.lt_of_le_of_lt (fo.num_le n1) (by rw [Int.one_mul]; exact db)
    have c6 : d6.natAbs < 2 ^ 3990 := Nat.lt_of_le_of_lt (fo.den_le n1) (by rw [Int.one_mul]; exact nb)
    have d60 : d6 ≠ 0 := by have := fo.pos; omega
    have s46 := s4.trans (s5.trans s6)
    refine ⟨nm, pz, dpz, vs, w, n6, d6, 3990, rfl, hn.mono s46, hp6, dn_pos, bw, d60, bv, b6, c6, vsl, by decide, fun p7 H7 as a s7 np7 hp7 pq => ?_⟩
    have s07 := ((s12.trans s3).trans s46).trans s7
    have hx7 := s07 _ _ hx
    have hl7 := (hl4.mono (s5.trans s6)).mono s7
    refine ⟨_, rfl, x, _, dx, [], rfl, hx7, T.cls_Quotient, T.n_Quotient_num, by decide, ?_⟩
    refine ⟨_, rfl, lw, us, h, 3990, rfl, poA_updx hl7 hx7 (by decide), su, bl, by decide, usl, fun p8 H9 bs b s9 hp9 sb mr => ?_⟩
    refine ⟨_, rfl, x, _, dx, _, rfl, s9 _ _ upd_same, T.cls_Quotient, T.n_Quotient_den, (show (1 : Nat) < 1000 by decide), ?_⟩
    have hx9 := s9 _ _ (upd_same (H := H7) (a := x) (o := .ins (CQ K) dx [("num", .ref p7)]))
    refine q _ p7 p8 as a bs b (fun a0 o ne e0 => ?_) (poA_updx ((poA_updx hp7 hx7 (by decide)).mono s9) hx9 (by show 1 ≤ 1; decide)) (poA_updx hp9 hx9 (by show 1 ≤ 1; decide)) (quo_math sk sj jne G dl dn fq5 fo pq sb mr) upd_same
    rw [upd_ne ne]
    refine s9 _ _ ?_
    rw [upd_ne ne]
    exact s07 _ _ e0

theorem ok__law_spoilt (T : Tx K mg) (O__law_minus : OkF P w K mg base 2 (He.fAd K ("_law_minus", none)) ["a", "b"] (spLMi K)) (O__law_shifted : OkF P w K mg base 2 (He.fAd K ("_law_shifted", none)) ["coefs", "step"] (spLSh K)) (O__law_product : OkF P w K mg base 1 (He.fAd K ("_law_product", none)) ["a", "b"] (spLPr K)) : OkF P w K mg base 3 (He.fAd K ("_law_spoilt", none)) ["numbers", "above", "below"] (spLSpo K) := by
  obtain ⟨_, G__law_minus, b__law_minus, k__law_minus⟩ := O__law_minus
  obtain ⟨_, G__law_shifted, b__law_shifted, k__law_shifted⟩ := O__law_shifted
  obtain ⟨_, G__law_product, b__law_product, k__law_product⟩ := O__law_product
  refine okF_of (d := d__law_spoilt) T.d__law_spoilt rfl sc__law_spoilt (fun _ _ _ _ _ _ us hl => match us, hl with | [_, _, _], _ => rfl) (fun vs H Q E h => ?_) (fun cdv A outer s H vs Q E hr h => ?_)
  · (obtain ⟨_, _, _, _, _, _, rfl, _⟩ := h; rfl)
  · obtain ⟨a, p, q_, ms, xs, ys, rfl, hA, ml, hp, hq, X, Y, q⟩ := h
    refine ⟨_, (pss_cons (ps_setI (i := 3) sc__law_spoilt.nd rfl (Or.inl rfl) (pe_op op_mod (pe_ix ix_list (pv 0) pe_int (fun _ _ => rfl)) pe_int))
      (pss_cons (ps_if (pt_cmpR op_eq (pv 3) pe_int (nomark _)) (pss_one (ps_ret (pe_lst (pa_cons (pe_call G__law_minus (hr.mono (by decide)) (by rfl) T.g__law_minus k__law_minus b__law_minus .nil passL (pa_cons (pv 1) (pa_cons (pe_lc (own := [("number", 5)]) (g := gName 5) rfl sc__law_spoilt.nd (pi_list (pv 2)) (blkOk_by (own := [("number", 5)]) (N := N__law_spoilt) (sc := defScope s__law_spoilt) (by decide +kernel)) (fun _ _ _ _ _ => (pg_name (i := 5) sc__law_spoilt.nd rfl (Or.inl rfl))) (fun _ _ _ _ _ => pts_nil) (fun _ _ _ _ _ => (pe_op op_mulW (pe_op op_mod (pe_ix (show IxR _ (rIxL K) from ix_list) (pv 0) pe_int (fun _ _ => rfl)) pe_int) (pv 5)))) pa_nil))) (pa_cons (pv 2) pa_nil))))) pss_nil)
      (pss_cons (ps_if (pt_cmpR op_eq (pv 3) pe_int (nomark _)) (pss_one (ps_ret (pe_lst (pa_cons (pe_lc (own := [("number", 5)]) (g := gName 5) rfl sc__law_spoilt.nd (pi_list (pv 1)) (blkOk_by (own := [("number", 5)]) (N := N__law_spoilt) (sc := defScope s__law_spoilt) (by decide +kernel)) (fun _ _ _ _ _ => (pg_name (i := 5) sc__law_spoilt.nd rfl (Or.inl rfl))) (fun _ _ _ _ _ => pts_nil) (fun _ _ _ _ _ => (pe_op op_mulW (pv 5) (pe_op op_sub (pe_op op_mod (pe_ix (show IxR _ (rIxL K) from ix_list) (pv 0) pe_int (fun _ _ => rfl)) pe_int) pe_int)))) (pa_cons (pe_lc (own := [("number", 5)]) (g := gName 5) rfl sc__law_spoilt.nd (pi_list (pv 2)) (blkOk_by (own := [("number", 5)]) (N := N__law_spoilt) (sc := defScope s__law_spoilt) (by decide +kernel)) (fun _ _ _ _ _ => (pg_name (i := 5) sc__law_spoilt.nd rfl (Or.inl rfl))) (fun _ _ _ _ _ => pts_nil) (fun _ _ _ _ _ => (pe_op op_mulW (pv 5) pe_int))) pa_nil))))) pss_nil)
      (pss_cons (ps_if (pt_cmpR op_eq (pv 3) pe_int (nomark _)) (pss_one (ps_ret (pe_lst (pa_cons (pe_call G__law_shifted (hr.mono (by decide)) (by rfl) T.g__law_shifted k__law_shifted b__law_shifted .nil passL (pa_cons (pv 1) (pa_cons (pe_op op_mod (pe_ix ix_list (pv 0) pe_int (fun _ _ => rfl)) pe_int) pa_nil))) (pa_cons (pe_call G__law_shifted (hr.mono (by decide)) (by rfl) T.g__law_shifted k__law_shifted b__law_shifted .nil passL (pa_cons (pv 2) (pa_cons (pe_op op_mod (pe_ix ix_list (pv 0) pe_int (fun _ _ => rfl)) pe_int) pa_nil))) pa_nil))))) pss_nil)
      (pss_cons (ps_if (pt_cmpR op_eq (pv 3) pe_int (nomark _)) (pss_cons (ps_set (i := 4) sc__law_spoilt.nd rfl (Or.inl rfl) (pe_lst (pa_cons (pe_op op_sub (pe_op op_mod (pe_ix ix_list (pv 0) pe_int (fun _ _ => rfl)) pe_int) pe_int) (pa_cons pe_int pa_nil))))
      (pss_one (ps_ret (pe_lst (pa_cons (pe_call G__law_minus (hr.mono (by decide)) (by rfl) T.g__law_minus k__law_minus b__law_minus .nil passL (pa_cons (pe_call G__law_product (hr.mono (by decide)) (by rfl) T.g__law_product k__law_product b__law_product .nil passL (pa_cons (pv 1) (pa_cons (pv 4) pa_nil))) (pa_cons (pv 2) pa_nil))) (pa_cons (pe_call G__law_product (hr.mono (by decide)) (by rfl) T.g__law_product k__law_product b__law_product .nil passL (pa_cons (pv 2) (pa_cons (pv 4) pa_nil))) pa_nil)))))) pss_nil)
      (pss_one (ps_ret (pe_lst (pa_cons (pv 1) (pa_cons (pv 2) pa_nil)))))))))), ?_⟩
    have g : ∀ i, i < 10 → (ms.map V.int)[i]? = some (V.int (ms.getD i 0)) := fun i hi => map_at (get_of_lt (by omega))
    have xl := X.len
    have yl := Y.len
    have bits_xs : ∀ m ∈ xs, m.natAbs < 2 ^ 9 := fun m h => by
      obtain ⟨i, hi, e⟩ := List.mem_iff_getElem.mp h
      have := X.b i
      rw [List.getD_eq_getElem?_getD, List.getElem?_eq_getElem hi] at this
      have e2 : (some xs[i]).getD 0 = m := e
      rw [e2] at this
      omega
    have bits_ys : ∀ m ∈ ys, m.natAbs < 2 ^ 9 := fun m h => by
      obtain ⟨i, hi, e⟩ := List.mem_iff_getElem.mp h
      have := Y.b i
      rw [List.getD_eq_getElem?_getD, List.getElem?_eq_getElem hi] at this
      have e2 : (some ys[i]).getD 0 = m := e
      rw [e2] at this
      omega
    have dY := dgl Y.top
    have fX : Fz (ff xs) 6 := (ff_fz xs).mono (by omega)
    refine ⟨_, rfl, _, _, _, _, rfl, rfl, hA, at_of (j := 1) rfl (g 1 (by decide)), _, _, rfl, rfl, (show (0 : Int) < 8 by decide), _, rfl, fun ch ech => ?_⟩
    clear ech
    refine ⟨_, rfl, rfl, _, rfl, iteEq (fun _ => ?_) (fun _ => ?_)⟩
    · have e9 : 0 ≤ ms.getD 2 0 % 9 ∧ ms.getD 2 0 % 9 < 9 := ⟨Int.emod_nonneg _ (by decide), Int.emod_lt_of_pos _ (by decide)⟩
      have e9b : (ms.getD 2 0 % 9).natAbs < 2 ^ 4 := by omega
      refine ⟨_, rfl, _, rfl, _, rfl, ⟨_, SqL.of hq⟩, fun D nD => lc_list (K := K) (a := q_) (xs := ys.map V.int) (fun i H' => Same H H' ∧ H' D = some (.lst (((ys.take i).map (fun x => ms.getD 2 0 % 9 * x)).map V.int))) ⟨sm_new nD, upd_same⟩ (fun i H' hi hP => hP.1.seq (SqL.of hq)) (fun i x H' hi hP => ?_) (fun H1 hP => ?_)⟩
      · obtain ⟨sm, hD⟩ := hP
        obtain ⟨m, hx, rfl⟩ := get_map_int hi
        have il : i < ys.length := (List.getElem?_eq_some_iff.mp hx).1
        have mb := bits_ys m (List.mem_of_getElem? hx)
        refine ⟨rfl, ?_⟩
        unfold tYes
        refine iteK rfl ?_
        refine ⟨_, rfl, _, _, _, _, rfl, rfl, sm.seq hA, at_of (j := 2) rfl (g 2 (by decide)), _, _, rfl, rfl, (show (0 : Int) < 9 by decide), _, rfl, _, _, rfl, rfl, mulW e9b mb (by decide), _, hD, by rw [len_map, List.length_map, List.length_take]; exact small1000 (by omega), same_mut sm nD, ?_⟩
        rw [upd_same, List.take_succ, hx, List.map_append, List.map_append]
        rfl
      obtain ⟨sD, hD⟩ := hP
      rw [len_map, List.take_length] at hD
      refine ⟨p, D, xs, _, rfl, SqL.of (sD _ _ hp), SqL.of hD, by omega, by rw [List.length_map]; omega, fun p2 H2 zs s2 np2 hp2 tz tl => ?_⟩
      rw [List.length_map] at tl
      refine ⟨_, rfl, by show 2 ≤ sizeLine; decide, fun r nr => ?_⟩
      have s3 := sm_new (o := .lst [V.ref p2, V.ref q_]) nr
      refine q r p2 q_ zs ys _ ((sD.trans s2).trans s3) ((sD.trans s2).free nr) upd_same (s3 _ _ hp2) (((sD.trans s2).trans s3) _ _ hq) ⟨by omega, by omega, fun i => ?_, fun i => ?_, (ff_fz zs).mono (by omega), _, by omega, dY⟩
      · have x1 := X.b i
        have y1 := Y.b i
        have e := tz.at_ i
        rw [e, getD_map (f := fun x => ms.getD 2 0 % 9 * x) (Int.mul_zero _) ys i]
        have m1 : (ms.getD 2 0 % 9 * ys.getD i 0).natAbs ≤ 8 * 343 := by rw [Int.natAbs_mul]; exact Nat.mul_le_mul (by omega) y1
        omega
      · have y1 := Y.b i
        omega
    refine ⟨_, rfl, rfl, _, rfl, iteEq (fun _ => ?_) (fun _ => ?_)⟩
    · have e5 : 0 ≤ ms.getD 2 0 % 5 ∧ ms.getD 2 0 % 5 < 5 := ⟨Int.emod_nonneg _ (by decide), Int.emod_lt_of_pos _ (by decide)⟩
      have e5b : (ms.getD 2 0 % 5 - 2).natAbs < 2 ^ 4 := by omega
      refine ⟨_, rfl, _, rfl, ⟨_, SqL.of hp⟩, fun D nD => lc_list (K := K) (a := p) (xs := xs.map V.int) (fun i H' => Same H H' ∧ H' D = some (.lst (((xs.take i).map (fun x => x * (ms.getD 2 0 % 5 - 2))).map V.int))) ⟨sm_new nD, upd_same⟩ (fun i H' hi hP => hP.1.seq (SqL.of hp)) (fun i x H' hi hP => ?_) (fun H1 hP => ?_)⟩
      · obtain ⟨sm, hD⟩ := hP
        obtain ⟨m, hx, rfl⟩ := get_map_int hi
        have il : i < xs.length := (List.getElem?_eq_some_iff.mp hx).1
        have mb := bits_xs m (List.mem_of_getElem? hx)
        refine ⟨rfl, ?_⟩
        unfold tYes
        refine iteK rfl ?_
        refine ⟨_, rfl, _, rfl, _, _, _, _, rfl, rfl, sm.seq hA, at_of (j := 2) rfl (g 2 (by decide)), _, _, rfl, rfl, (show (0 : Int) < 5 by decide), _, _, rfl, rfl, _, _, rfl, rfl, mulW mb e5b (by decide), _, hD, by rw [len_map, List.length_map, List.length_take]; exact small1000 (by omega), same_mut sm nD, ?_⟩
        rw [upd_same, List.take_succ, hx, List.map_append, List.map_append]
        rfl
      obtain ⟨sD, hD⟩ := hP
      rw [len_map, List.take_length] at hD
      refine ⟨_, rfl, _, rfl, ⟨_, SqL.of (sD _ _ hq)⟩, fun E nE => lc_list (K := K) (a := q_) (xs := ys.map V.int) (fun i H' => Same H1 H' ∧ H' E = some (.lst (((ys.take i).map (fun x => x * 3)).map V.int))) ⟨sm_new nE, upd_same⟩ (fun i H' hi hP => hP.1.seq (SqL.of (sD _ _ hq))) (fun i x H' hi hP => ?_) (fun H2 hP => ?_)⟩
      · obtain ⟨sm, hD⟩ := hP
        obtain ⟨m, hx, rfl⟩ := get_map_int hi
        have il : i < ys.length := (List.getElem?_eq_some_iff.mp hx).1
        have mb := bits_ys m (List.mem_of_getElem? hx)
        refine ⟨rfl, ?_⟩
        unfold tYes
        refine iteK rfl ?_
        refine ⟨_, rfl, _, _, rfl, rfl, mulW mb (show (3 : Int).natAbs < 2 ^ 4 by decide) (by decide), _, hD, by rw [len_map, List.length_map, List.length_take]; exact small1000 (by omega), same_mut sm nE, ?_⟩
        rw [upd_same, List.take_succ, hx, List.map_append, List.map_append]
        rfl
      obtain ⟨sE, hE⟩ := hP
      rw [len_map, List.take_length] at hE
      refine ⟨by show 2 ≤ sizeLine; decide, fun r nr => ?_⟩
      have s3 := sm_new (o := .lst [V.ref D, V.ref E]) nr
      refine q r D E _ _ _ ((sD.trans sE).trans s3) ((sD.trans sE).free nr) upd_same (s3 _ _ (sE _ _ hD)) (s3 _ _ hE) ⟨by rw [List.length_map]; omega, by rw [List.length_map]; omega, fun i => ?_, fun i => ?_, (ff_fz _).mono (by rw [List.length_map]; omega), ys.length - 1, by omega, ?_, fun i hi => ?_⟩
      · have x1 := X.b i
        rw [getD_map (f := fun x => x * (ms.getD 2 0 % 5 - 2)) (Int.zero_mul _) xs i]
        have m1 : (xs.getD i 0 * (ms.getD 2 0 % 5 - 2)).natAbs ≤ 147 * 4 := by rw [Int.natAbs_mul]; exact Nat.mul_le_mul x1 (by omega)
        omega
      · have y1 := Y.b i
        rw [getD_map (f := fun x => x * 3) (Int.zero_mul _) ys i]
        omega
      · show (ys.map fun x => x * 3).getD (ys.length - 1) 0 ≠ 0
        rw [getD_map (f := fun x => x * 3) (Int.zero_mul _) ys _]
        have := Y.top
        omega
      · show (ys.map fun x => x * 3).getD i 0 = 0
        rw [getD_map (f := fun x => x * 3) (Int.zero_mul _) ys _]
        have : ys.getD i 0 = 0 := dY.up i hi
        rw [this]
        rfl
    refine ⟨_, rfl, rfl, _, rfl, iteEq (fun _ => ?_) (fun _ => ?_)⟩
    · obtain ⟨s, hs⟩ : ∃ s, ms.getD 2 0 % 3 = s := ⟨_, rfl⟩
      have e3 : 0 ≤ s ∧ s < 3 := by rw [← hs]; exact ⟨Int.emod_nonneg _ (by decide), Int.emod_lt_of_pos _ (by decide)⟩
      have s8 : s.natAbs ≤ 8 := by omega
      refine ⟨_, rfl, _, rfl, _, _, _, _, rfl, rfl, hA, at_of (j := 2) rfl (g 2 (by decide)), _, _, rfl, rfl, (show (0 : Int) < 3 by decide), ?_⟩
      refine ⟨p, xs, _, 9, 4, rfl, SqL.of hp, ⟨bits_xs⟩, by omega, by omega, by decide, by decide, fun p1 H1 zs s1 np1 hp1 az lz => ?_⟩
      refine ⟨_, rfl, _, rfl, _, _, _, _, rfl, rfl, s1.seq hA, at_of (j := 2) rfl (g 2 (by decide)), _, _, rfl, rfl, (show (0 : Int) < 3 by decide), ?_⟩
      refine ⟨q_, ys, _, 9, 4, rfl, SqL.of (s1 _ _ hq), ⟨bits_ys⟩, by omega, by omega, by decide, by decide, fun p2 H2 ws s2 np2 hp2 aw lw => ?_⟩
      refine ⟨by show 2 ≤ sizeLine; decide, fun r nr => ?_⟩
      have s3 := sm_new (o := .lst [V.ref p1, V.ref p2]) nr
      rw [hs] at az aw
      refine q r p1 p2 zs ws _ ((s1.trans s2).trans s3) ((s1.trans s2).free nr) upd_same (s3 _ _ (s2 _ _ hp1)) (s3 _ _ hp2) ⟨by omega, by omega, fun i => ?_, fun i => ?_, (ff_fz zs).mono (by omega), ys.length - 1, by omega, ?_⟩
      · rw [az]
        refine Nat.le_trans (shV_absR s8 X.b _ i) (Nat.le_trans (Nat.mul_le_mul_left _ (sgR_mono xl)) (by decide))
      · rw [aw]
        refine Nat.lt_of_le_of_lt (Nat.le_trans (shV_absR s8 Y.b _ i) (Nat.mul_le_mul_left _ (sgR_mono yl))) (by decide)
      · have iw : IsSh s ws ys := ⟨aw, lw⟩
        have y0 : 0 < ys.length := List.length_pos_iff.mpr Y.ne
        refine ⟨?_, fun i hi => getD_end (by omega)⟩
        show ws.getD (ys.length - 1) 0 ≠ 0
        rw [(iw.top (m := ys.length - 1) (by omega)).1]
        exact Y.top
    refine ⟨_, rfl, rfl, _, rfl, iteEq (fun _ => ?_) (fun _ => ?_)⟩
    · have e7 : 0 ≤ ms.getD 2 0 % 7 ∧ ms.getD 2 0 % 7 < 7 := ⟨Int.emod_nonneg _ (by decide), Int.emod_lt_of_pos _ (by decide)⟩
      have f6 : (ms.getD 2 0 % 7 - 3).natAbs ≤ 6 := by omega
      refine ⟨_, rfl, _, _, _, _, rfl, rfl, hA, at_of (j := 2) rfl (g 2 (by decide)), _, _, rfl, rfl, (show (0 : Int) < 7 by decide), _, _, rfl, rfl, by show 2 ≤ sizeLine; decide, fun po npo => ?_⟩
      have s1 := sm_new (o := .lst [V.int (ms.getD 2 0 % 7 - 3), V.int 1]) npo
      have ho : (upd H po (.lst [V.int (ms.getD 2 0 % 7 - 3), V.int 1])) po = some (.lst (([ms.getD 2 0 % 7 - 3, 1] : List Int).map V.int)) := upd_same
      have bo : Bits 9 [ms.getD 2 0 % 7 - 3, 1] := ⟨fun x hx => by
        simp only [List.mem_cons, List.not_mem_nil, or_false] at hx
        rcases hx with rfl | rfl
        · exact Nat.lt_of_le_of_lt f6 (by decide)
        · decide⟩
      refine ⟨_, rfl, _, rfl, p, po, xs, [ms.getD 2 0 % 7 - 3, 1], 9, rfl, SqL.of (s1 _ _ hp), SqL.of ho, ⟨bits_xs⟩, bo, by omega, by show 2 ≤ 400; decide, by decide, fun p1 H1 zs s2 np1 hp1 im1 l1 => ?_⟩
      have s12 := s1.trans s2
      have l1' : zs.length = xs.length + 2 := l1
      refine ⟨_, rfl, p1, q_, zs, ys, rfl, SqL.of hp1, SqL.of (s12 _ _ hq), by omega, by omega, fun p2 H2 ws s3 np2 hp2 tw wl => ?_⟩
      have s13 := s12.trans s3
      refine ⟨_, rfl, _, rfl, q_, po, ys, [ms.getD 2 0 % 7 - 3, 1], 9, rfl, SqL.of (s13 _ _ hq), SqL.of (s3 _ _ (s2 _ _ ho)), ⟨bits_ys⟩, bo, by omega, by show 2 ≤ 400; decide, by decide, fun p3 H3 us s4 np3 hp3 im3 l3 => ?_⟩
      have l3' : us.length = ys.length + 2 := l3
      refine ⟨by show 2 ≤ sizeLine; decide, fun r nr => ?_⟩
      have s5 := sm_new (o := .lst [V.ref p2, V.ref p3]) nr
      have prod : ∀ {us ys : List Int} {B : Nat}, IsMul us ys [ms.getD 2 0 % 7 - 3, 1] → (∀ i, (ys.getD i 0).natAbs ≤ B) → ∀ k, (us.getD k 0).natAbs ≤ 7 * B := fun {us ys B} im hB k => by
        have e : us.getD k 0 = cv [ms.getD 2 0 % 7 - 3, 1] ys k := by
          rw [im.at_, cv_cf, cv_cf]
          exact congrFun (congrArg PS.f (show pl ys * pl [ms.getD 2 0 % 7 - 3, 1] = pl [ms.getD 2 0 % 7 - 3, 1] * pl ys by grind)) k
        rw [e]
        exact Nat.le_trans (cv_l1 hB k 2) (Nat.mul_le_mul_right _ (fac_lin f6).2)
      have dU : Dg (ff us) (ys.length - 1 + 1) := by
        have e : ff us = cf (ff ys) (ff [ms.getD 2 0 % 7 - 3, 1]) := funext fun k => by rw [← cv_cf]; exact im3.at_ k
        rw [e]
        exact dY.cf (fac_lin f6).1
      have zf : ∀ i, 6 ≤ i → zs.getD i 0 = 0 := fun i hi => by
        rw [im1.at_]
        exact cv_zero (show xs.length + 2 ≤ i + 1 by omega)
      have yf : ∀ i, 6 ≤ i → ys.getD i 0 = 0 := fun i hi => getD_end (by omega)
      refine q r p2 p3 ws us _ ((s13.trans s4).trans s5) ((s13.trans s4).free nr) upd_same (s5 _ _ (s4 _ _ hp2)) (s5 _ _ hp3) ⟨by omega, by omega, fun i => ?_, fun i => ?_, fun i hi => ?_, _, by omega, dU⟩
      · have a1 := prod im1 X.b i
        have y1 := Y.b i
        rw [tw.at_]
        omega
      · have a1 := prod im3 Y.b i
        omega
      · show ws.getD i 0 = 0
        rw [tw.at_, zf i hi, yf i hi]
        rfl
    refine ⟨_, rfl, _, rfl, by show 2 ≤ sizeLine; decide, fun r nr => ?_⟩
    have s3 := sm_new (o := .lst [V.ref p, V.ref q_]) nr
    exact q r p q_ xs ys _ s3 nr upd_same (s3 _ _ hp) (s3 _ _ hq) ⟨by omega, by omega, fun i => by have := X.b i; omega, fun i => by have := Y.b i; omega, fX, _, by omega, dY⟩

theorem ok_Quotient_is_zero (T : Tx K mg) (O_Poly_is_zero : OkF P w K mg base 1 (gtAd K (He.ga K "Poly") "is_zero") ["self"] (spPZer K)) : OkF P w K mg base 3 (gtAd K (He.ga K "Quotient") "is_zero") ["self"] (spQuZ K) := by
  obtain ⟨_, G_Poly_is_zero, b_Poly_is_zero, k_Poly_is_zero⟩ := O_Poly_is_zero
  refine okF_of (d := d_Quotient_is_zero) T.d_Quotient_is_zero rfl sc_Quotient_is_zero (fun _ _ _ _ _ _ us hl => match us, hl with | [_], _ => rfl) (fun vs H Q E h => ?_) (fun cdv A outer s H vs Q E hr h => ?_)
  · (obtain ⟨_, _, _, _, _, rfl, _⟩ := h; rfl)
  · obtain ⟨q, as, a, bs, b, rfl, ⟨dq, u, v, h1, h2, h3⟩, k⟩ := h
    refine ⟨_, (pss_one (ps_ret (pe_prop (pe_fld (pv 0) rfl) T.cls_Poly T.p_Poly_is_zero G_Poly_is_zero (hr.mono (by decide)) b_Poly_is_zero .nil passL rfl))), ?_⟩
    obtain ⟨_, _, r2, _⟩ := id h2
    exact ⟨_, rfl, _, _, _, _, _, rfl, h1, T.cls_Quotient, T.n_Quotient_num, rfl, _, _, _, rfl, r2, u, as, a, rfl, h2, k⟩

theorem ok_shifted_coefs (T : Tx K mg) : OkF P w K mg base 1 (He.fAd K ("shifted_coefs", none)) ["coefs", "step"] (spShc K) := by
  refine okF_of (d := d_shifted_coefs) T.d_shifted_coefs rfl sc_shifted_coefs (fun _ _ _ _ _ _ us hl => match us, hl with | [_, _], _ => rfl) (fun vs H Q E h => ?_) (fun cdv A outer s H vs Q E hr h => ?_)
  · first | (obtain ⟨_, rfl, _⟩ := h; rfl) | (obtain ⟨_, _, rfl, _⟩ := h; rfl) | (obtain ⟨_, _, _, rfl, _⟩ := h; rfl) | (obtain ⟨_, _, _, _, rfl, _⟩ := h; rfl) | (obtain ⟨_, _, _, _, _, rfl, _⟩ := h; rfl) | (obtain ⟨_, _, _, _, _, _, rfl, _⟩ := h; rfl) | (obtain ⟨_, _, _, _, _, _, _, rfl, _⟩ := h; rfl) | (obtain ⟨_, _, _, _, _, _, _, _, rfl, _⟩ := h; rfl) | (obtain ⟨_, _, _, _, _, _, _, _, _, rfl, _⟩ := h; rfl) | (obtain ⟨_, _, _, _, _, _, _, _, _, _, rfl, _⟩ := h; rfl)
  · obtain ⟨a, cs, s, kb, sb, rfl, hA, hb, hs, hl, hsb, hk, q⟩ := h
    refine ⟨_, (pss_cons (ps_set (i := 2) sc_shifted_coefs.nd rfl (Or.inl rfl) (pe_callTy call_list_of (by rfl) T.z_list (by decide +kernel) (pa_cons (pv 0) pa_nil)))
      (pss_cons (ps_setI (i := 3) sc_shifted_coefs.nd rfl (Or.inl rfl) (pe_op op_sub (pe_callB call_len_seq (by rfl) T.z_len PySem.boot_len (pa_cons (pv 2) pa_nil)) pe_int))
      (pss_cons (ps_for PassesOwn.leaving rfl (pi_range1 rfl T.z_range (pa_cons (pv 3) pa_nil)) (pg_name (i := 4) sc_shifted_coefs.nd rfl (Or.inl rfl)) (pss_one (ps_for PassesOwn.leaving rfl (pi_range3 rfl T.z_range (pa_cons (pe_op op_sub (pv 3) pe_int) (pa_cons (pe_op op_sub (pv 4) pe_int) (pa_cons (pe_un un_neg pe_int) pa_nil)))) (pg_name (i := 5) sc_shifted_coefs.nd rfl (Or.inl rfl)) (pss_one (ps_asg (pe_op op_add (pe_ix ix_list (pv 2) (pv 5) (fun _ _ => rfl)) (pe_op op_mulW (pv 1) (pe_ix ix_list (pv 2) (pe_op op_add (pv 5) pe_int) (fun _ _ => rfl)))) (pg_sub (pv 2) (pv 5) set_list))))))
      (pss_one (ps_ret (pv 2)))))), ?_⟩
    refine ⟨_, rfl, a, _, rfl, hA, fun p np => ?_⟩
    have s1 := sm_new (o := .lst (cs.map V.int)) np
    have hp : (upd H p (.lst (cs.map V.int))) p = some (.lst (cs.map V.int)) := upd_same
    generalize upd H p (.lst (cs.map V.int)) = H1 at s1 hp ⊢
    refine ⟨_, rfl, _, _, rfl, .inl (SqL.of hp), _, _, rfl, rfl, _, rfl, fun l0 el => ?_⟩
    rw [len_map] at el
    have le : ∀ t, t ≤ (cs.length + 1) * (cs.length + 1) → kb + (sb + 1) * t ≤ 400000 := fun t ht => Nat.le_trans (Nat.add_le_add_left (Nat.mul_le_mul_left _ ht) _) hk
    have fin : ∀ H' fs i, Same H H' → H' p = some (.lst (fs.map V.int)) → ShAt s cs fs i → cs.length ≤ i + 1 → Bits (kb + (sb + 1) * (i * (cs.length + 1))) fs → i ≤ cs.length → Q (.ref p) H' := fun H' fs i sm hf m hi mb il => by
      refine q p H' fs sm np hf ⟨fun k => by rw [m.fin hi, shC_eq], m.len⟩ (mb.mono ?_)
      exact Nat.add_le_add_left (Nat.mul_le_mul_left _ (Nat.mul_le_mul_right _ (by omega))) _
    refine ⟨_, rfl, _, rfl, by omega, by omega, for_range (lo := 0) (n := l0.toNat) (fun i σ' H' => ∃ (fs : List Int) (yi yj : Option V), σ' = [some (.ref a), some (.int s), some (.ref p), some (.int l0), yi, yj] ∧ Same H H' ∧ H' p = some (.lst (fs.map V.int)) ∧ ShAt s cs fs i ∧ Bits (kb + (sb + 1) * (i * (cs.length + 1))) fs)
      ⟨cs, none, none, rfl, s1, hp, ShAt.start, by rw [Nat.zero_mul, Nat.mul_zero]; exact hb⟩ (fun i σ' H' hi hI => ?_) (fun σ' H' hI => ?_)⟩
    · obtain ⟨fs, yi, yj, rfl, sm, hf, m, mb⟩ := hI
      have il : i + 1 < cs.length := by omega
      have fl := m.len
      have lt1 : i * (cs.length + 1) + (cs.length + 1) ≤ (cs.length + 1) * (cs.length + 1) := by
        have z := Nat.mul_le_mul_right (cs.length + 1) (show i + 1 ≤ cs.length + 1 by omega)
        rwa [Nat.add_mul, Nat.one_mul] at z
      refine ⟨_, rfl, _, _, rfl, rfl, _, rfl, _, _, rfl, rfl, _, rfl, _, _, _, _, rfl, RgC.neg (by omega) (by omega) (by omega) (by omega), for_rangeC (lo := l0 - 1) (c := -1) (n := (l0 - 1 - (0 + (i : Int) - 1)).toNat) (fun t σ' H' => ∃ (gs : List Int) (yj : Option V), σ' = [some (.ref a), some (.int s), some (.ref p), some (.int l0), some (.int (0 + (i : Int))), yj] ∧ Same H H' ∧ H' p = some (.lst (gs.map V.int)) ∧ ShIn s fs gs (cs.length - 1 - t) ∧ Bits (kb + (sb + 1) * (i * (cs.length + 1) + t)) gs)
        ⟨fs, _, rfl, sm, hf, by have z := ShIn.start (s := s) (fs := fs); rwa [fl] at z, mb⟩ (fun t σ' H' ht hI => ?_) (fun σ' H' hI => ?_)⟩
      · obtain ⟨gs, yj, rfl, sm, hg, mi, gb⟩ := hI
        obtain ⟨j, hj⟩ : ∃ j : Nat, cs.length - 1 - t = j + 1 := ⟨cs.length - 2 - t, by omega⟩
        rw [hj] at mi
        have gl := mi.len
        have le1 := le (i * (cs.length + 1) + t) (by omega)
        refine ⟨_, rfl, _, rfl, _, _, _, _, rfl, rfl, SqL.of hg, at_of (j := j) (by omega) (map_at (get_of_lt (by omega))), _, rfl, _, rfl, _, rfl, _, _, rfl, rfl, _, _, _, _, rfl, rfl, SqL.of hg, at_of (j := j + 1) (by omega) (map_at (get_of_lt (by omega))), _, _, rfl, rfl, mulW hs (gb.getD (j + 1)) (by omega), _, _, rfl, rfl, _, rfl, _, rfl, p, _, _, j, rfl, rfl, hg, ixN_at (by omega) (by rw [len_map]; omega), ?_⟩
        have e2 : cs.length - 1 - (t + 1) = j := by omega
        have gb2 : Bits (kb + (sb + 1) * (i * (cs.length + 1) + (t + 1))) gs := gb.mono (Nat.add_le_add_left (Nat.mul_le_mul_left _ (by omega)) _)
        refine ⟨_, _, rfl, same_mut sm np, by rw [upd_same, map_set_V], by rw [e2]; exact mi.step (by omega) rfl, gb2.set (abs_mono (sz_add (gb.getD j) (abs_lt_mul hs (gb.getD (j + 1)))) ?_)⟩
        rw [show i * (cs.length + 1) + (t + 1) = (i * (cs.length + 1) + t) + 1 by omega, Nat.mul_add (sb + 1) _ 1]
        omega
      · obtain ⟨gs, yj, rfl, sm, hg, mi, gb⟩ := hI
        rw [show cs.length - 1 - (l0 - 1 - (0 + (i : Int) - 1)).toNat = i by omega] at mi
        refine ⟨gs, _, _, rfl, sm, hg, m.pass mi (by omega), gb.mono (Nat.add_le_add_left (Nat.mul_le_mul_left _ ?_) _)⟩
        rw [Nat.add_mul, Nat.one_mul]
        omega
    · obtain ⟨fs, yi, yj, rfl, sm, hf, m, mb⟩ := hI
      exact ⟨_, rfl, fin H' fs _ sm hf m (by omega) mb (by omega)⟩

theorem ok_Poly_shifted (T : Tx K mg) (O_shifted_coefs : OkF P w K mg base 1 (He.fAd K ("shifted_coefs", none)) ["coefs", "step"] (spShc K)) (O_Poly___init__ : OkD P w K mg base 2 (He.fAd K ("Poly", some "__init__")) ["self", "coefs", "den"] (He.Dv.v K (.int 1)) (spPInit K)) : OkF P w K mg base 4 (He.fAd K ("Poly", some "shifted")) ["self", "step"] (spPShi K) := by
  obtain ⟨_, G_shifted_coefs, b_shifted_coefs, k_shifted_coefs⟩ := O_shifted_coefs
  obtain ⟨_, G_Poly___init__, b_Poly___init__, ⟨_, v_Poly___init__, bd_Poly___init__⟩, k_Poly___init__⟩ := O_Poly___init__
  refine okF_of (d := d_Poly_shifted) T.d_Poly_shifted rfl sc_Poly_shifted (fun _ _ _ _ _ _ us hl => match us, hl with | [_, _], _ => rfl) (fun vs H Q E h => ?_) (fun cdv A outer s H vs Q E hr h => ?_)
  · first | (obtain ⟨_, rfl, _⟩ := h; rfl) | (obtain ⟨_, _, rfl, _⟩ := h; rfl) | (obtain ⟨_, _, _, rfl, _⟩ := h; rfl) | (obtain ⟨_, _, _, _, rfl, _⟩ := h; rfl) | (obtain ⟨_, _, _, _, _, rfl, _⟩ := h; rfl) | (obtain ⟨_, _, _, _, _, _, rfl, _⟩ := h; rfl) | (obtain ⟨_, _, _, _, _, _, _, rfl, _⟩ := h; rfl) | (obtain ⟨_, _, _, _, _, _, _, _, rfl, _⟩ := h; rfl) | (obtain ⟨_, _, _, _, _, _, _, _, _, rfl, _⟩ := h; rfl) | (obtain ⟨_, _, _, _, _, _, _, _, _, _, rfl, _⟩ := h; rfl)
  · obtain ⟨a, ks, e, s, kb, sb, rfl, hp, e0, eb, hb, hs, hl, hsb, hk, q⟩ := h
    obtain ⟨da, ta, ha, hta⟩ := hp
    refine ⟨_, (pss_one (ps_ret (pe_makeI T.mk_Poly G_Poly___init__ (hr.mono (by decide)) (by rfl) T.g_Poly b_Poly___init__ .nil passL (mkPo_conv K []) (pa_cons (pe_call G_shifted_coefs (hr.mono (by decide)) (by rfl) T.g_shifted_coefs k_shifted_coefs b_shifted_coefs .nil passL (pa_cons (pe_fld (pv 0) rfl) (pa_cons (pv 1) pa_nil))) (pa_cons (pe_fld (pv 0) rfl) pa_nil))))), ?_⟩
    refine ⟨_, rfl, _, _, _, _, _, rfl, ha, T.cls_Poly, T.n_Poly_coefs, rfl, _, rfl, _, ks, s, kb, sb, rfl, .inr (SqT.of hta), hb, hs, hl, hsb, hk, fun p1 H1 zs sm1 np1 hp1 mz mb => ?_⟩
    refine ⟨_, rfl, _, _, _, _, _, rfl, sm1 _ _ ha, T.cls_Poly, T.n_Poly_den, rfl, p1, zs, e, 60, rfl, .inl (SqL.of hp1), by have := mz.len; omega, eb, by decide, by omega, fun p H4 ms g sm4 np4 hp4 pq => ?_⟩
    exact q p H4 ms g (sm1.trans sm4) (sm1.free np4) hp4 ⟨zs, mz, mb, pq⟩

theorem ok__plain_product (T : Tx K mg) : OkF P w K mg base 1 (He.fAd K ("_plain_product", none)) ["first", "second"] (spPlain K) := by
  refine okF_of (d := d__plain_product) T.d__plain_product rfl sc__plain_product (fun _ _ _ _ _ _ us hl => match us, hl with | [_, _], _ => rfl) (fun vs H Q E h => ?_) (fun cdv A outer s H vs Q E hr h => ?_)
  · first | (obtain ⟨_, rfl, _⟩ := h; rfl) | (obtain ⟨_, _, rfl, _⟩ := h; rfl) | (obtain ⟨_, _, _, rfl, _⟩ := h; rfl) | (obtain ⟨_, _, _, _, rfl, _⟩ := h; rfl) | (obtain ⟨_, _, _, _, _, rfl, _⟩ := h; rfl) | (obtain ⟨_, _, _, _, _, _, rfl, _⟩ := h; rfl) | (obtain ⟨_, _, _, _, _, _, _, rfl, _⟩ := h; rfl) | (obtain ⟨_, _, _, _, _, _, _, _, rfl, _⟩ := h; rfl) | (obtain ⟨_, _, _, _, _, _, _, _, _, rfl, _⟩ := h; rfl) | (obtain ⟨_, _, _, _, _, _, _, _, _, _, rfl, _⟩ := h; rfl)
  · obtain ⟨a, b, xs, ys, k, rfl, hA, hB, b1, b2, l1, l2, hk, q⟩ := h
    refine ⟨_, (pss_cons (ps_if (PW.pt (pw_or (pt_cmpR op_eq (pe_callB call_len_seq (by rfl) T.z_len PySem.boot_len (pa_cons (pv 0) pa_nil)) pe_int (nomark _)) (pw_or1 (pt_cmpR op_eq (pe_callB call_len_seq (by rfl) T.z_len PySem.boot_len (pa_cons (pv 1) pa_nil)) pe_int (nomark _))))) (pss_one (ps_ret (pe_lst pa_nil))) pss_nil)
      (pss_cons (ps_setLc (i := 2) (own := [("_", 7)]) (g := gName 7) rfl sc__plain_product.nd rfl rfl (sw_true rfl rfl rfl (by decide +kernel)) (pi_range1 rfl T.z_range (pa_cons (pe_op op_sub (pe_op op_add (pe_callB call_len_seq (by rfl) T.z_len PySem.boot_len (pa_cons (pv 0) pa_nil)) (pe_callB call_len_seq (by rfl) T.z_len PySem.boot_len (pa_cons (pv 1) pa_nil))) pe_int) pa_nil)) (blkOk_by (own := [("_", 7)]) (N := N__plain_product) (sc := defScope s__plain_product) (by decide +kernel)) (fun _ _ _ _ _ => (pg_name (i := 7) sc__plain_product.nd rfl (Or.inl rfl))) (fun _ _ _ _ _ => pts_nil) (fun _ _ _ _ _ => pe_int))
      (pss_cons (ps_for PassesOwn.leaving rfl (pi_enumT (by rfl) T.z_enumerate (pa_cons (pv 0) pa_nil)) (pg_tup rfl (pgs_cons (pg_name (i := 3) sc__plain_product.nd rfl (Or.inl rfl)) (pgs_cons (pg_name (i := 4) sc__plain_product.nd rfl (Or.inl rfl)) pgs_nil))) (pss_one (ps_if (pt_cmpR op_ne (pv 4) pe_int (nomark _)) (pss_one (ps_for PassesOwn.leaving rfl (pi_enumT (by rfl) T.z_enumerate (pa_cons (pv 1) pa_nil)) (pg_tup rfl (pgs_cons (pg_name (i := 5) sc__plain_product.nd rfl (Or.inl rfl)) (pgs_cons (pg_name (i := 6) sc__plain_product.nd rfl (Or.inl rfl)) pgs_nil))) (pss_one (ps_asg (pe_op op_add (pe_ix ix_list (pv 2) (pe_op op_add (pv 3) (pv 5)) (fun _ _ => rfl)) (pe_op op_mulW (pv 4) (pv 6))) (pg_sub (pv 2) (pe_op op_add (pv 3) (pv 5)) set_list))))) pss_nil)))
      (pss_one (ps_ret (pv 2)))))), ?_⟩
    have none_ : xs.length = 0 ∨ ys.length = 0 → ∀ p, H p = none → Q (.ref p) (upd H p (.lst [])) := fun c p np => q p _ [] (sm_new np) np upd_same ⟨fun k => by rw [cv_nil c]; rfl, Nat.zero_le _⟩
    refine ⟨_, rfl, _, _, rfl, .inr hA, rfl, _, rfl, iteEq (fun c1 => ?_) (fun c1 => ?_)⟩
    · rw [len_map] at c1
      exact ⟨by show 0 ≤ sizeLine; decide, fun p np => none_ (.inl (by omega)) p np⟩
    refine ⟨_, rfl, _, _, rfl, .inr hB, rfl, _, rfl, iteEq (fun c2 => ?_) (fun c2 => ?_)⟩
    · rw [len_map] at c2
      exact ⟨by show 0 ≤ sizeLine; decide, fun p np => none_ (.inr (by omega)) p np⟩
    rw [len_map] at c1 c2
    refine ⟨_, rfl, _, _, rfl, .inr hA, _, rfl, _, _, rfl, .inr hB, _, _, rfl, rfl, _, _, rfl, rfl, _, rfl, by rw [len_map, len_map]; omega, by rw [len_map, len_map]; omega, fun D nD => lc_range (lo := 0) (n := (((xs.map V.int).length : Int) + ((ys.map V.int).length : Int) - 1).toNat) (fun i H' => Same H H' ∧ H' D = some (.lst ((List.replicate i (0 : Int)).map V.int))) ⟨sm_new nD, upd_same⟩ (fun i H' hi hP => ?_) (fun H1 hP => ?_)⟩
    · obtain ⟨sm, hD⟩ := hP
      refine ⟨rfl, ?_⟩
      unfold tYes
      refine iteK rfl ?_
      rw [len_map, len_map] at hi
      refine ⟨_, hD, by rw [len_map, List.length_replicate]; exact small1000 (by omega), same_mut sm nD, ?_⟩
      rw [upd_same, List.replicate_succ', List.map_append]
      rfl
    obtain ⟨s1, hD⟩ := hP
    rw [len_map, len_map] at hD
    obtain ⟨N, hN⟩ : ∃ N : Nat, ((xs.length : Int) + (ys.length : Int) - 1).toNat = N := ⟨_, rfl⟩
    rw [hN] at hD
    have hN2 : N + 1 = xs.length + ys.length := by omega
    refine ⟨_, rfl, a, _, rfl, sm_tup s1 hA, for_enT (K := K) (a := a) (xs := xs.map V.int) (fun i σ' H' => ∃ (fs : List Int) (yi yx yj yy : Option V), σ' = [some (.ref a), some (.ref b), some (.ref D), yi, yx, yj, yy, none] ∧ Same H H' ∧ H' D = some (.lst (fs.map V.int)) ∧ MulAt fs xs ys N i 0)
      ⟨_, none, none, none, none, rfl, s1, hD, MulAt.start⟩ (fun i σ' H' hI => ?_) (fun i x T σ' H' hi hI nT => ?_) (fun σ' H' hI => ?_)⟩
    · obtain ⟨fs, yi, yx, yj, yy, rfl, sm, _⟩ := hI
      exact sm_tup sm hA
    · obtain ⟨fs, yi, yx, yj, yy, rfl, sm, hf, m⟩ := hI
      obtain ⟨c, hc, rfl⟩ := get_map_int hi
      have il : i < xs.length := (List.getElem?_eq_some_iff.mp hc).1
      have ec := getD_of hc
      have TD : D ≠ T := ne_of_none hf nT
      have sm2 := sm.trans (sm_new (o := .tup [.int (i : Nat), .int c]) nT)
      have hf2 : (upd H' T (.tup [.int (i : Nat), .int c])) D = some (.lst (fs.map V.int)) := by rw [upd_ne TD]; exact hf
      refine ⟨T, _, rfl, SqT.of upd_same, rfl, _, _, rfl, _, _, rfl, rfl, ?_⟩
      generalize upd H' T (.tup [.int (i : Nat), .int c]) = G at sm2 hf2 ⊢
      refine ⟨_, rfl, rfl, _, rfl, iteEqN (fun c0 => ?_) (fun c0 => ?_)⟩
      rotate_left
      · exact ⟨_, _, _, _, _, rfl, sm2, hf2, m.skip (by rw [ec]; exact c0)⟩
      refine ⟨_, rfl, b, _, rfl, sm_tup sm2 hB, for_enT (K := K) (a := b) (xs := ys.map V.int) (fun j σ' H' => ∃ (fs : List Int) (yj yy : Option V), σ' = [some (.ref a), some (.ref b), some (.ref D), some (.int (i : Int)), some (.int c), yj, yy, none] ∧ Same H H' ∧ H' D = some (.lst (fs.map V.int)) ∧ MulAt fs xs ys N i j)
        ⟨_, _, _, rfl, sm2, hf2, m⟩ (fun j σ' H' hI => ?_) (fun j y T2 σ' H3 hj hI nT2 => ?_) (fun σ' H' hI => ?_)⟩
      · obtain ⟨fs, yj, yy, rfl, sm, _⟩ := hI
        exact sm_tup sm hB
      · obtain ⟨fs, yj, yy, rfl, sm, hf, m⟩ := hI
        obtain ⟨u, hu, rfl⟩ := get_map_int hj
        have jl : j < ys.length := (List.getElem?_eq_some_iff.mp hu).1
        have eu := getD_of hu
        have TD : D ≠ T2 := ne_of_none hf nT2
        have sm2 := sm.trans (sm_new (o := .tup [.int (j : Nat), .int u]) nT2)
        have hf2 : (upd H3 T2 (.tup [.int (j : Nat), .int u])) D = some (.lst (fs.map V.int)) := by rw [upd_ne TD]; exact hf
        refine ⟨T2, _, rfl, SqT.of upd_same, rfl, _, _, rfl, _, _, rfl, rfl, ?_⟩
        generalize upd H3 T2 (.tup [.int (j : Nat), .int u]) = G at sm2 hf2 ⊢
        have fl : i + j < fs.length := by rw [m.len]; omega
        refine ⟨_, rfl, _, rfl, _, rfl, _, _, rfl, rfl, _, _, _, _, rfl, rfl, SqL.of hf2, at_of (j := i + j) (by omega) (map_at (get_of_lt fl)), _, rfl, _, rfl, _, _, rfl, rfl, mulW (b1.all c (List.mem_of_getElem? hc)) (b2.all u (List.mem_of_getElem? hu)) (by omega), _, _, rfl, rfl, _, rfl, _, rfl, _, rfl, _, _, rfl, rfl, D, _, _, i + j, rfl, rfl, hf2, ixN_at (by omega) (by rw [len_map]; exact fl), ?_⟩
        refine ⟨_, _, _, rfl, same_mut sm2 nD, by rw [upd_same, map_set_V], m.step (by omega) (by rw [ec, eu])⟩
      · obtain ⟨fs, yj, yy, rfl, sm, hf, m⟩ := hI
        exact ⟨_, _, _, _, _, rfl, sm, hf, m.row (by rw [len_map]; exact Nat.le_refl _)⟩
    · obtain ⟨fs, yi, yx, yj, yy, rfl, sm, hf, m⟩ := hI
      rw [len_map] at m
      exact ⟨_, rfl, q D H' fs sm nD hf (m.fin (Nat.le_refl _) (by omega))⟩

theorem ok_multiplied (T : Tx K mg) (O__plain_product : OkF P w K mg base 1 (He.fAd K ("_plain_product", none)) ["first", "second"] (spPlain K)) : OkF P w K mg base 2 (He.fAd K ("multiplied", none)) ["first", "second"] (spMult K) := by
  obtain ⟨_, G__plain_product, b__plain_product, k__plain_product⟩ := O__plain_product
  refine okF_of (d := d_multiplied) T.d_multiplied rfl sc_multiplied (fun _ _ _ _ _ _ us hl => match us, hl with | [_, _], _ => rfl) (fun vs H Q E h => ?_) (fun cdv A outer s H vs Q E hr h => ?_)
  · first | (obtain ⟨_, rfl, _⟩ := h; rfl) | (obtain ⟨_, _, rfl, _⟩ := h; rfl) | (obtain ⟨_, _, _, rfl, _⟩ := h; rfl) | (obtain ⟨_, _, _, _, rfl, _⟩ := h; rfl) | (obtain ⟨_, _, _, _, _, rfl, _⟩ := h; rfl) | (obtain ⟨_, _, _, _, _, _, rfl, _⟩ := h; rfl) | (obtain ⟨_, _, _, _, _, _, _, rfl, _⟩ := h; rfl) | (obtain ⟨_, _, _, _, _, _, _, _, rfl, _⟩ := h; rfl) | (obtain ⟨_, _, _, _, _, _, _, _, _, rfl, _⟩ := h; rfl) | (obtain ⟨_, _, _, _, _, _, _, _, _, _, rfl, _⟩ := h; rfl)
  · obtain ⟨a, b, xs, ys, k, rfl, hA, hB, b1, b2, l1, l2, hk, h8, q⟩ := h
    refine ⟨_, (pss_cons (ps_if (pt_cmpR op_lt (pe_callB (call_min2 rfl) (by rfl) T.z_min (by decide +kernel) (pa_cons (pe_callB call_len_seq (by rfl) T.z_len PySem.boot_len (pa_cons (pv 0) pa_nil)) (pa_cons (pe_callB call_len_seq (by rfl) T.z_len PySem.boot_len (pa_cons (pv 1) pa_nil)) pa_nil))) (pe_globI rfl T.g_SHORT) (nomark _)) (pss_one (ps_ret (pe_call G__plain_product (hr.mono (by decide)) (by rfl) T.g__plain_product k__plain_product b__plain_product .nil passL (pa_cons (pv 0) (pa_cons (pv 1) pa_nil))))) pss_nil)
      pss_dead), ?_⟩
    refine ⟨_, rfl, _, _, rfl, .inr hA, _, rfl, _, _, rfl, .inr hB, _, _, rfl, _, _, rfl, rfl, _, rfl, iteD (fun c1 => ?_) (fun c1 => absurd c1 ?_)⟩
    · exact ⟨_, rfl, _, rfl, _, _, _, _, _, rfl, hA, hB, b1, b2, l1, l2, hk, q⟩
    · rw [len_map, len_map]
      split <;> omega

theorem ok_Poly___mul__ (T : Tx K mg) (O_multiplied : OkF P w K mg base 2 (He.fAd K ("multiplied", none)) ["first", "second"] (spMult K)) (O_Poly___init__ : OkD P w K mg base 2 (He.fAd K ("Poly", some "__init__")) ["self", "coefs", "den"] (He.Dv.v K (.int 1)) (spPInit K)) : OkF P w K mg base 4 (He.fAd K ("Poly", some "__mul__")) ["self", "other"] (spPMul K) := by
  obtain ⟨_, G_multiplied, b_multiplied, k_multiplied⟩ := O_multiplied
  obtain ⟨_, G_Poly___init__, b_Poly___init__, ⟨_, v_Poly___init__, bd_Poly___init__⟩, k_Poly___init__⟩ := O_Poly___init__
  refine okF_of (d := d_Poly___mul__) T.d_Poly___mul__ rfl sc_Poly___mul__ (fun _ _ _ _ _ _ us hl => match us, hl with | [_, _], _ => rfl) (fun vs H Q E h => ?_) (fun cdv A outer s H vs Q E hr h => ?_)
  · first | (obtain ⟨_, rfl, _⟩ := h; rfl) | (obtain ⟨_, _, rfl, _⟩ := h; rfl) | (obtain ⟨_, _, _, rfl, _⟩ := h; rfl) | (obtain ⟨_, _, _, _, rfl, _⟩ := h; rfl) | (obtain ⟨_, _, _, _, _, rfl, _⟩ := h; rfl) | (obtain ⟨_, _, _, _, _, _, rfl, _⟩ := h; rfl) | (obtain ⟨_, _, _, _, _, _, _, rfl, _⟩ := h; rfl) | (obtain ⟨_, _, _, _, _, _, _, _, rfl, _⟩ := h; rfl) | (obtain ⟨_, _, _, _, _, _, _, _, _, rfl, _⟩ := h; rfl) | (obtain ⟨_, _, _, _, _, _, _, _, _, _, rfl, _⟩ := h; rfl)
  · obtain ⟨a, b, ks, js, e, f, k, rfl, hp, hq, e0, f0, b1, b2, hk, eb, fb, l1, l2, h8, q⟩ := h
    obtain ⟨da, ta, ha, hta⟩ := hp
    obtain ⟨db, tb, hb, htb⟩ := hq
    refine ⟨_, (pss_one (ps_ret (pe_makeI T.mk_Poly G_Poly___init__ (hr.mono (by decide)) (by rfl) T.g_Poly b_Poly___init__ .nil passL (mkPo_conv K []) (pa_cons (pe_call G_multiplied (hr.mono (by decide)) (by rfl) T.g_multiplied k_multiplied b_multiplied .nil passL (pa_cons (pe_fld (pv 0) rfl) (pa_cons (pe_fld (pv 1) rfl) pa_nil))) (pa_cons (pe_op op_mulW (pe_fld (pv 0) rfl) (pe_fld (pv 1) rfl)) pa_nil))))), ?_⟩
    refine ⟨_, rfl, _, _, _, _, _, rfl, ha, T.cls_Poly, T.n_Poly_coefs, rfl, _, rfl, _, _, _, _, _, rfl, hb, T.cls_Poly, T.n_Poly_coefs, rfl, _, _, ks, js, k, rfl, SqT.of hta, SqT.of htb, b1, b2, l1, l2, by omega, h8, fun p1 H1 zs sm1 np1 hp1 mz => ?_⟩
    refine ⟨_, rfl, _, _, _, _, _, rfl, sm1 _ _ ha, T.cls_Poly, T.n_Poly_den, rfl, _, rfl, _, _, _, _, _, rfl, sm1 _ _ hb, T.cls_Poly, T.n_Poly_den, rfl, _, _, rfl, rfl, mulW eb fb (by decide), p1, zs, e * f, 120, rfl, .inl (SqL.of hp1), by have := mz.len; omega, abs_lt_mul eb fb, by decide, Int.mul_ne_zero (by omega) (by omega), fun p H4 ms g sm4 np4 hp4 pq => ?_⟩
    exact q p H4 ms g (sm1.trans sm4) (sm1.free np4) hp4 ⟨zs, mz, pq⟩

theorem ok_Poly___neg__ (T : Tx K mg) (O_Poly___init__ : OkD P w K mg base 2 (He.fAd K ("Poly", some "__init__")) ["self", "coefs", "den"] (He.Dv.v K (.int 1)) (spPInit K)) : OkF P w K mg base 4 (He.fAd K ("Poly", some "__neg__")) ["self"] (spPNeg K) := by
  obtain ⟨_, G_Poly___init__, b_Poly___init__, ⟨_, v_Poly___init__, bd_Poly___init__⟩, k_Poly___init__⟩ := O_Poly___init__
  refine okF_of (d := d_Poly___neg__) T.d_Poly___neg__ rfl sc_Poly___neg__ (fun _ _ _ _ _ _ us hl => match us, hl with | [_], _ => rfl) (fun vs H Q E h => ?_) (fun cdv A outer s H vs Q E hr h => ?_)
  · first | (obtain ⟨_, rfl, _⟩ := h; rfl) | (obtain ⟨_, _, rfl, _⟩ := h; rfl) | (obtain ⟨_, _, _, rfl, _⟩ := h; rfl) | (obtain ⟨_, _, _, _, rfl, _⟩ := h; rfl) | (obtain ⟨_, _, _, _, _, rfl, _⟩ := h; rfl) | (obtain ⟨_, _, _, _, _, _, rfl, _⟩ := h; rfl) | (obtain ⟨_, _, _, _, _, _, _, rfl, _⟩ := h; rfl) | (obtain ⟨_, _, _, _, _, _, _, _, rfl, _⟩ := h; rfl) | (obtain ⟨_, _, _, _, _, _, _, _, _, rfl, _⟩ := h; rfl) | (obtain ⟨_, _, _, _, _, _, _, _, _, _, rfl, _⟩ := h; rfl)
  · obtain ⟨a, ks, e, k, rfl, ⟨da, t, ha, ht⟩, e0, eb, hk, hl, q⟩ := h
    refine ⟨_, (pss_one (ps_ret (pe_makeI T.mk_Poly G_Poly___init__ (hr.mono (by decide)) (by rfl) T.g_Poly b_Poly___init__ .nil passL (mkPo_conv K []) (pa_cons (pe_lc (own := [("c", 1)]) (g := gName 1) rfl sc_Poly___neg__.nd (pi_tup (pe_fld (pv 0) rfl)) (blkOk_by (own := [("c", 1)]) (N := N_Poly___neg__) (sc := defScope s_Poly___neg__) (by decide +kernel)) (fun _ _ _ _ _ => (pg_name (i := 1) sc_Poly___neg__.nd rfl (Or.inl rfl))) (fun _ _ _ _ _ => pts_nil) (fun _ _ _ _ _ => (pe_un un_neg (pv 1)))) (pa_cons (pe_fld (pv 0) rfl) pa_nil))))), ?_⟩
    refine ⟨_, rfl, _, _, _, _, _, rfl, ha, T.cls_Poly, T.n_Poly_coefs, rfl, _, rfl, ⟨_, SqT.of ht⟩, fun D nD => lc_tup (K := K) (a := t) (xs := ks.map V.int) (fun i H' => Same H H' ∧ H' D = some (.lst (((ks.map fun x => -x).take i).map V.int))) ⟨sm_new nD, by rw [upd_same]; rfl⟩ (fun i H' hi hP => SqT.of (hP.1 _ _ ht)) (fun i y H' hi hP => ?_) (fun H' hP => ?_)⟩
    · obtain ⟨sm, hD⟩ := hP
      obtain ⟨u, hu, rfl⟩ : ∃ u, ks[i]? = some u ∧ y = V.int u := by
        rw [List.getElem?_map] at hi
        cases e : ks[i]? with
        | none => rw [e] at hi; cases hi
        | some u => rw [e] at hi; cases hi; exact ⟨u, rfl, rfl⟩
      refine ⟨rfl, ?_⟩
      unfold tYes
      refine iteK rfl ?_
      refine ⟨_, rfl, _, rfl, _, hD, ?_, same_mut sm nD, ?_⟩
      · rw [len_map, List.length_take, List.length_map]
        exact small1000 (by omega)
      · rw [upd_same, List.take_succ, List.map_append, List.getElem?_map, hu]
        rfl
    · obtain ⟨sm, hD⟩ := hP
      have e1 : (ks.map fun x => -x).take (ks.map V.int).length = ks.map fun x => -x := List.take_of_length_le (by rw [List.length_map, List.length_map]; exact Nat.le_refl _)
      rw [e1] at hD
      refine ⟨_, rfl, _, _, _, _, _, rfl, sm _ _ ha, T.cls_Poly, T.n_Poly_den, rfl, _, _, _, k, rfl, .inl (SqL.of hD), by rw [List.length_map]; exact hl, eb, hk, by omega, fun p H4 ms g sm4 np4 hp4 pq => ?_⟩
      exact q p H4 ms g (sm.trans sm4) (sm.free np4) hp4 pq

theorem ok__coefs_over (T : Tx K mg) : OkF P w K mg base 1 (He.fAd K ("_coefs_over", none)) ["p", "den"] (spOvr K) := by
  refine okF_of (d := d__coefs_over) T.d__coefs_over rfl sc__coefs_over (fun _ _ _ _ _ _ us hl => match us, hl with | [_, _], _ => rfl) (fun vs H Q E h => ?_) (fun cdv A outer s H vs Q E hr h => ?_)
  · first | (obtain ⟨_, rfl, _⟩ := h; rfl) | (obtain ⟨_, _, rfl, _⟩ := h; rfl) | (obtain ⟨_, _, _, rfl, _⟩ := h; rfl) | (obtain ⟨_, _, _, _, rfl, _⟩ := h; rfl) | (obtain ⟨_, _, _, _, _, rfl, _⟩ := h; rfl) | (obtain ⟨_, _, _, _, _, _, rfl, _⟩ := h; rfl) | (obtain ⟨_, _, _, _, _, _, _, rfl, _⟩ := h; rfl) | (obtain ⟨_, _, _, _, _, _, _, _, rfl, _⟩ := h; rfl) | (obtain ⟨_, _, _, _, _, _, _, _, _, rfl, _⟩ := h; rfl) | (obtain ⟨_, _, _, _, _, _, _, _, _, _, rfl, _⟩ := h; rfl)
  · obtain ⟨a, ks, e, d, k, rfl, ⟨da, t, ha, ht⟩, e0, eb, hl, hb, db, hk, q⟩ := h
    refine ⟨_, (pss_cons (ps_setI (i := 2) sc__coefs_over.nd rfl (Or.inr rfl) (pe_op op_fdivW (pv 1) (pe_fld (pv 0) rfl)))
      (pss_one (ps_ret (pe_lc (own := [("c", 3)]) (g := gName 3) rfl sc__coefs_over.nd (pi_tup (pe_fld (pv 0) rfl)) (blkOk_by (own := [("c", 3)]) (N := N__coefs_over) (sc := defScope s__coefs_over) (by decide +kernel)) (fun _ _ _ _ _ => (pg_name (i := 3) sc__coefs_over.nd rfl (Or.inl rfl))) (fun _ _ _ _ _ => pts_nil) (fun _ _ _ _ _ => (pe_op op_mulW (pv 3) (pv 2))))))), ?_⟩
    refine ⟨_, rfl, _, rfl, _, _, _, _, _, rfl, ha, T.cls_Poly, T.n_Poly_den, rfl, _, _, rfl, rfl, divW e0 eb (Nat.le_refl _), _, rfl, fun sc es => ?_⟩
    have sb : sc.natAbs < 2 ^ k := by rw [es]; exact Nat.lt_of_le_of_lt (Int.natAbs_ediv_le_natAbs _ _) db
    refine ⟨_, rfl, _, _, _, _, _, rfl, ha, T.cls_Poly, T.n_Poly_coefs, rfl, _, rfl, ⟨_, SqT.of ht⟩, fun D nD => lc_tup (K := K) (a := t) (xs := ks.map V.int) (fun i H' => Same H H' ∧ H' D = some (.lst (((ks.map fun x => x * sc).take i).map V.int))) ⟨sm_new nD, by rw [upd_same]; rfl⟩ (fun i H' hi hP => SqT.of (hP.1 _ _ ht)) (fun i y H' hi hP => ?_) (fun H' hP => ?_)⟩
    · obtain ⟨sm, hD⟩ := hP
      obtain ⟨u, hu, rfl⟩ : ∃ u, ks[i]? = some u ∧ y = V.int u := by
        rw [List.getElem?_map] at hi
        cases e : ks[i]? with
        | none => rw [e] at hi; cases hi
        | some u => rw [e] at hi; cases hi; exact ⟨u, rfl, rfl⟩
      refine ⟨rfl, ?_⟩
      unfold tYes
      refine iteK rfl ?_
      refine ⟨_, rfl, _, rfl, _, _, rfl, rfl, mulW (hb.all u (List.mem_of_getElem? hu)) sb (by omega), _, hD, ?_, same_mut sm nD, ?_⟩
      · rw [len_map, List.length_take, List.length_map]
        exact small1000 (by omega)
      · rw [upd_same, List.take_succ, List.map_append, List.getElem?_map, hu]
        rfl
    · obtain ⟨sm, hD⟩ := hP
      have e1 : (ks.map fun x => x * sc).take (ks.map V.int).length = ks.map fun x => x * sc := List.take_of_length_le (by rw [List.length_map, List.length_map]; exact Nat.le_refl _)
      rw [e1, es] at hD
      exact q D H' sm nD hD

theorem ok_added (T : Tx K mg) : OkF P w K mg base 1 (He.fAd K ("added", none)) ["first", "second"] (spAdded K) := by
  refine okF_of (d := d_added) T.d_added rfl sc_added (fun _ _ _ _ _ _ us hl => match us, hl with | [_, _], _ => rfl) (fun vs H Q E h => ?_) (fun cdv A outer s H vs Q E hr h => ?_)
  · first | (obtain ⟨_, rfl, _⟩ := h; rfl) | (obtain ⟨_, _, rfl, _⟩ := h; rfl) | (obtain ⟨_, _, _, rfl, _⟩ := h; rfl) | (obtain ⟨_, _, _, _, rfl, _⟩ := h; rfl) | (obtain ⟨_, _, _, _, _, rfl, _⟩ := h; rfl) | (obtain ⟨_, _, _, _, _, _, rfl, _⟩ := h; rfl) | (obtain ⟨_, _, _, _, _, _, _, rfl, _⟩ := h; rfl) | (obtain ⟨_, _, _, _, _, _, _, _, rfl, _⟩ := h; rfl) | (obtain ⟨_, _, _, _, _, _, _, _, _, rfl, _⟩ := h; rfl) | (obtain ⟨_, _, _, _, _, _, _, _, _, _, rfl, _⟩ := h; rfl)
  · obtain ⟨a, b, xs, ys, rfl, hA, hB, l1, l2, q⟩ := h
    refine ⟨_, (pss_one (ps_ret (pe_lc (own := [("x", 2), ("y", 3)]) (g := gTup K 2 (gCons (gName 2) (gCons (gName 3) gNil))) rfl sc_added.nd (pi_zipL (by rfl) T.g_zip_longest (pa_cons (pv 0) (pa_cons (pv 1) pa_nil)) (pk_cons pe_int pk_nil)) (blkOk_by (own := [("x", 2), ("y", 3)]) (N := N_added) (sc := defScope s_added) (by decide +kernel)) (fun _ _ _ _ _ => (pg_tup rfl (pgs_cons (pg_name (i := 2) sc_added.nd rfl (Or.inl rfl)) (pgs_cons (pg_name (i := 3) sc_added.nd rfl (Or.inl rfl)) pgs_nil)))) (fun _ _ _ _ _ => pts_nil) (fun _ _ _ _ _ => (pe_op op_add (pv 2) (pv 3)))))), ?_⟩
    refine ⟨_, rfl, _, rfl, a, b, _, _, 0, rfl, rfl, hA, hB, fun D nD => lc_zl (fun i H' => Same H H' ∧ H' D = some (.lst (((List.range i).map fun j => xs.getD j 0 + ys.getD j 0).map V.int))) ⟨sm_new nD, upd_same⟩ (fun i H' hP => ⟨hP.1.seq hA, hP.1.seq hB⟩) (fun i T H' hi hP nT => ?_) (fun H' hP => ?_)⟩
    · obtain ⟨sm, hD⟩ := hP
      refine ⟨T, _, rfl, SqT.of upd_same, rfl, _, _, rfl, _, _, rfl, rfl, rfl, ?_⟩
      unfold tYes
      refine iteK rfl ?_
      have nTD : T ≠ D := fun z => by rw [z, hD] at nT; cases nT
      have gd : ∀ (zs : List Int) (j : Nat), (zs.map V.int).getD j (.int 0) = .int (zs.getD j 0) := fun zs j => by
        rw [List.getD_eq_getElem?_getD, List.getD_eq_getElem?_getD, List.getElem?_map]
        cases zs[j]? <;> rfl
      rw [gd, gd]
      have hD2 : (upd H' T (.tup [.int (xs.getD i 0), .int (ys.getD i 0)])) D = some (.lst (((List.range i).map fun j => xs.getD j 0 + ys.getD j 0).map V.int)) := by rw [upd_ne nTD.symm]; exact hD
      refine ⟨_, rfl, _, rfl, _, _, rfl, rfl, _, hD2, ?_, ?_⟩
      · rw [len_map] at hi hi
        rw [List.length_map, List.length_map, List.length_range]
        exact small1000 (by omega)
      · refine ⟨same_mut (sm.trans (sm_new nT)) nD, ?_⟩
        rw [upd_same, List.range_succ, List.map_append, List.map_append]
        rfl
    · obtain ⟨sm, hD⟩ := hP
      exact q D H' sm nD (by rw [hD]; simp [addL])

theorem ok_Poly___add__ (T : Tx K mg) (O__coefs_over : OkF P w K mg base 1 (He.fAd K ("_coefs_over", none)) ["p", "den"] (spOvr K)) (O_added : OkF P w K mg base 1 (He.fAd K ("added", none)) ["first", "second"] (spAdded K)) (O_Poly___init__ : OkD P w K mg base 2 (He.fAd K ("Poly", some "__init__")) ["self", "coefs", "den"] (He.Dv.v K (.int 1)) (spPInit K)) : OkF P w K mg base 4 (He.fAd K ("Poly", some "__add__")) ["self", "other"] (spPAdd K) := by
  obtain ⟨_, G__coefs_over, b__coefs_over, k__coefs_over⟩ := O__coefs_over
  obtain ⟨_, G_added, b_added, k_added⟩ := O_added
  obtain ⟨_, G_Poly___init__, b_Poly___init__, ⟨_, v_Poly___init__, bd_Poly___init__⟩, k_Poly___init__⟩ := O_Poly___init__
  refine okF_of (d := d_Poly___add__) T.d_Poly___add__ rfl sc_Poly___add__ (fun _ _ _ _ _ _ us hl => match us, hl with | [_, _], _ => rfl) (fun vs H Q E h => ?_) (fun cdv A outer s H vs Q E hr h => ?_)
  · first | (obtain ⟨_, rfl, _⟩ := h; rfl) | (obtain ⟨_, _, rfl, _⟩ := h; rfl) | (obtain ⟨_, _, _, rfl, _⟩ := h; rfl) | (obtain ⟨_, _, _, _, rfl, _⟩ := h; rfl) | (obtain ⟨_, _, _, _, _, rfl, _⟩ := h; rfl) | (obtain ⟨_, _, _, _, _, _, rfl, _⟩ := h; rfl) | (obtain ⟨_, _, _, _, _, _, _, rfl, _⟩ := h; rfl) | (obtain ⟨_, _, _, _, _, _, _, _, rfl, _⟩ := h; rfl) | (obtain ⟨_, _, _, _, _, _, _, _, _, rfl, _⟩ := h; rfl) | (obtain ⟨_, _, _, _, _, _, _, _, _, _, rfl, _⟩ := h; rfl)
  · obtain ⟨a, b, ks, js, e, f, k, rfl, hp, hq, s1, s2, b1, b2, hk, eb, fb, l1, l2, q⟩ := h
    have hp0 := hp
    have hq0 := hq
    obtain ⟨da, ta, ha, hta⟩ := hp
    obtain ⟨db, tb, hb, htb⟩ := hq
    have e0 := s1.pos
    have f0 := s2.pos
    refine ⟨_, (pss_cons (ps_setI (i := 2) sc_Poly___add__.nd rfl (Or.inl rfl) (pe_callBfun cr_lcm rfl T.g_lcm (pa_cons (pe_fld (pv 0) rfl) (pa_cons (pe_fld (pv 1) rfl) pa_nil))))
      (pss_one (ps_ret (pe_makeI T.mk_Poly G_Poly___init__ (hr.mono (by decide)) (by rfl) T.g_Poly b_Poly___init__ .nil passL (mkPo_conv K []) (pa_cons (pe_call G_added (hr.mono (by decide)) (by rfl) T.g_added k_added b_added .nil passL (pa_cons (pe_call G__coefs_over (hr.mono (by decide)) (by rfl) T.g__coefs_over k__coefs_over b__coefs_over .nil passL (pa_cons (pv 0) (pa_cons (pv 2) pa_nil))) (pa_cons (pe_call G__coefs_over (hr.mono (by decide)) (by rfl) T.g__coefs_over k__coefs_over b__coefs_over .nil passL (pa_cons (pv 1) (pa_cons (pv 2) pa_nil))) pa_nil))) (pa_cons (pv 2) pa_nil)))))), ?_⟩
    refine ⟨_, rfl, _, _, _, _, _, rfl, ha, T.cls_Poly, T.n_Poly_den, rfl, _, rfl, _, _, _, _, _, rfl, hb, T.cls_Poly, T.n_Poly_den, rfl, _, _, rfl, abs_mono eb (by decide), abs_mono fb (by decide), _, rfl, fun L eL => ?_⟩
    have Lb : L.natAbs < 2 ^ 120 := by rw [eL]; exact lcm_bits eb fb
    have L0 : 0 < L := by
      rw [eL]
      have := Nat.lcm_pos (m := e.natAbs) (n := f.natAbs) (by omega) (by omega)
      omega
    have d1 : L / e * e = L := Int.ediv_mul_cancel (by rw [eL]; exact Int.natAbs_dvd_natAbs.mp (by rw [Int.natAbs_natCast]; exact Nat.dvd_lcm_left _ _))
    have d2 : L / f * f = L := Int.ediv_mul_cancel (by rw [eL]; exact Int.natAbs_dvd_natAbs.mp (by rw [Int.natAbs_natCast]; exact Nat.dvd_lcm_right _ _))
    have big : 120 ≤ k + 120 := by omega
    refine ⟨_, rfl, _, rfl, _, ks, e, L, k + 120, rfl, hp0, e0, abs_mono eb (by decide), l1, b1.mono (by omega), abs_mono Lb big, by omega, fun p1 H1 sm1 np1 hp1 => ?_⟩
    refine ⟨_, rfl, _, rfl, _, js, f, L, k + 120, rfl, hq0.mono sm1, f0, abs_mono fb (by decide), l2, b2.mono (by omega), abs_mono Lb big, by omega, fun p2 H2 sm2 np2 hp2 => ?_⟩
    refine ⟨_, _, _, _, rfl, SqL.of (sm2 _ _ hp1), SqL.of hp2, by rw [List.length_map]; exact l1, by rw [List.length_map]; exact l2, fun p3 H3 sm3 np3 hp3 => ?_⟩
    refine ⟨_, rfl, _, _, _, 120, rfl, .inl (SqL.of hp3), by rw [addL_len, List.length_map, List.length_map]; omega, Lb, by decide, by omega, fun p H4 ms g sm4 np4 hp4 pq => ?_⟩
    refine q p H4 ms g (((sm1.trans sm2).trans sm3).trans sm4) (((sm1.trans sm2).trans sm3).free np4) hp4 ?_
    refine pq.conv (by omega) fun i => ?_
    rw [addL_at, mul_at, mul_at, sumP_at]
    generalize L / e = u at *
    generalize L / f = v at *
    grind

theorem ok_Poly___sub__ (T : Tx K mg) (O_Poly___neg__ : OkF P w K mg base 4 (He.fAd K ("Poly", some "__neg__")) ["self"] (spPNeg K)) (O_Poly___add__ : OkF P w K mg base 4 (He.fAd K ("Poly", some "__add__")) ["self", "other"] (spPAdd K)) : OkF P w K mg base 5 (He.fAd K ("Poly", some "__sub__")) ["self", "other"] (spPSub K) := by
  obtain ⟨_, G_Poly___neg__, b_Poly___neg__, k_Poly___neg__⟩ := O_Poly___neg__
  obtain ⟨_, G_Poly___add__, b_Poly___add__, k_Poly___add__⟩ := O_Poly___add__
  refine okF_of (d := d_Poly___sub__) T.d_Poly___sub__ rfl sc_Poly___sub__ (fun _ _ _ _ _ _ us hl => match us, hl with | [_, _], _ => rfl) (fun vs H Q E h => ?_) (fun cdv A outer s H vs Q E hr h => ?_)
  · first | (obtain ⟨_, rfl, _⟩ := h; rfl) | (obtain ⟨_, _, rfl, _⟩ := h; rfl) | (obtain ⟨_, _, _, rfl, _⟩ := h; rfl) | (obtain ⟨_, _, _, _, rfl, _⟩ := h; rfl) | (obtain ⟨_, _, _, _, _, rfl, _⟩ := h; rfl) | (obtain ⟨_, _, _, _, _, _, rfl, _⟩ := h; rfl) | (obtain ⟨_, _, _, _, _, _, _, rfl, _⟩ := h; rfl) | (obtain ⟨_, _, _, _, _, _, _, _, rfl, _⟩ := h; rfl) | (obtain ⟨_, _, _, _, _, _, _, _, _, rfl, _⟩ := h; rfl) | (obtain ⟨_, _, _, _, _, _, _, _, _, _, rfl, _⟩ := h; rfl)
  · obtain ⟨a, b, ks, js, e, f, k, rfl, hp, hq, s1, s2, b1, b2, hk, eb, fb, l1, l2, q⟩ := h
    have hp0 := hp
    have hq0 := hq
    obtain ⟨da, ta, ha, hta⟩ := hp
    obtain ⟨db, tb, hb, htb⟩ := hq
    refine ⟨_, (pss_one (ps_ret (pe_op (op_own2 T.first_Poly T.s_Poly___add__ T.f_Poly___add__ G_Poly___add__ (hr.mono (by decide)) b_Poly___add__ passL) (pv 0) (pe_un (un_ownNeg T.s_Poly___neg__ T.f_Poly___neg__ G_Poly___neg__ (hr.mono (by decide)) b_Poly___neg__ passL) (pv 1))))), ?_⟩
    refine ⟨_, rfl, _, rfl, _, _, _, rfl, hb, _, js, f, 60, rfl, hq0, s2.pos, fb, by decide, l2, fun p1 H1 ms g sm1 np1 hp1 pq => ?_⟩
    have s3 := pq.self
    have m1 : ms = js.map (fun x => -x) ∧ g = f := pq.uniq (pq_neg_self s2) (by have := s2.pos; omega)
    obtain ⟨rfl, rfl⟩ := m1
    have hp10 := hp1
    obtain ⟨d1, t1, h1, ht1⟩ := hp1
    refine ⟨_, _, _, _, _, _, rfl, rfl, sm1 _ _ ha, h1, _, _, ks, _, e, _, k, rfl, hp0.mono sm1, hp10, s1, s3, b1, b2.neg, hk, eb, fb, l1, by rw [List.length_map]; exact l2, fun p2 H2 ms2 g2 sm2 np2 hp2 pq2 => ?_⟩
    exact q p2 H2 ms2 g2 (sm1.trans sm2) (sm1.free np2) hp2 pq2

theorem ok_Poly___eq__ (T : Tx K mg) : OkF P w K mg base 1 (He.fAd K ("Poly", some "__eq__")) ["self", "other"] (spPEq K) := by
  refine okF_of (d := d_Poly___eq__) T.d_Poly___eq__ rfl sc_Poly___eq__ (fun _ _ _ _ _ _ us hl => match us, hl with | [_, _], _ => rfl) (fun vs H Q E h => ?_) (fun cdv A outer s H vs Q E hr h => ?_)
  · first | (obtain ⟨_, rfl, _⟩ := h; rfl) | (obtain ⟨_, _, rfl, _⟩ := h; rfl) | (obtain ⟨_, _, _, rfl, _⟩ := h; rfl) | (obtain ⟨_, _, _, _, rfl, _⟩ := h; rfl) | (obtain ⟨_, _, _, _, _, rfl, _⟩ := h; rfl) | (obtain ⟨_, _, _, _, _, _, rfl, _⟩ := h; rfl) | (obtain ⟨_, _, _, _, _, _, _, rfl, _⟩ := h; rfl) | (obtain ⟨_, _, _, _, _, _, _, _, rfl, _⟩ := h; rfl) | (obtain ⟨_, _, _, _, _, _, _, _, _, rfl, _⟩ := h; rfl) | (obtain ⟨_, _, _, _, _, _, _, _, _, _, rfl, _⟩ := h; rfl)
  · obtain ⟨a, ks, e, y, rfl, ⟨da, ta, ha, hta⟩, hy⟩ := h
    refine ⟨_, (pss_one (ps_ret (pe_and (pe_callB call_isi (by rfl) T.z_isinstance (by decide +kernel) (pa_cons (pv 1) (pa_cons (pe_glob (v := .ref (He.ga K "Poly")) rfl T.g_Poly rfl) pa_nil))) (pe_and (pe_cmpR (op_eqD hr.units) (pe_fld (pv 0) rfl) (pe_fld (pv 1) rfl) (nomark _)) (pe_one (pe_cmpR op_eq (pe_fld (pv 0) rfl) (pe_fld (pv 1) rfl) (nomark _))))))), ?_⟩
    rcases hy with ⟨b, js, f, rfl, ⟨db, tb, hb, htb⟩, q⟩ | ⟨t, ty, kt, q⟩
    · refine ⟨_, rfl, _, _, _, _, true, rfl, .own _, T.ty_Poly hb, kit_same _, _, rfl, iteK rfl ?_⟩
      refine ⟨_, rfl, _, _, _, _, _, rfl, ha, T.cls_Poly, T.n_Poly_coefs, rfl, _, rfl, _, _, _, _, _, rfl, hb, T.cls_Poly, T.n_Poly_coefs, rfl, _, _, .tup (SqT.of hta) (dpI ks), .tup (SqT.of htb) (dpI js), shT ks, shT js, _, rfl, ?_⟩
      rw [eqvT]
      refine iteD (fun c => ?_) (fun c => ?_)
      · refine ⟨_, rfl, _, _, _, _, _, rfl, ha, T.cls_Poly, T.n_Poly_den, rfl, _, rfl, _, _, _, _, _, rfl, hb, T.cls_Poly, T.n_Poly_den, rfl, rfl, ?_⟩
        refine q _ ?_
        rw [decide_eq_true_eq]
        exact ⟨fun z => ⟨c, V.int.inj z⟩, fun z => by rw [z.2]⟩
      · exact q _ ⟨fun z => absurd z Bool.false_ne_true, fun z => absurd z.1 c⟩
    · exact ⟨_, rfl, _, _, _, _, false, rfl, .own _, ty, kt, _, rfl, iteN rfl q⟩

theorem ok__is_closed_form (T : Tx K mg) (O_Poly_shifted : OkF P w K mg base 4 (He.fAd K ("Poly", some "shifted")) ["self", "step"] (spPShi K)) (O_Poly___mul__ : OkF P w K mg base 4 (He.fAd K ("Poly", some "__mul__")) ["self", "other"] (spPMul K)) (O_Poly___sub__ : OkF P w K mg base 5 (He.fAd K ("Poly", some "__sub__")) ["self", "other"] (spPSub K)) (O_Poly___eq__ : OkF P w K mg base 1 (He.fAd K ("Poly", some "__eq__")) ["self", "other"] (spPEq K)) : OkF P w K mg base 6 (He.fAd K ("_is_closed_form", none)) ["ratio", "y"] (spClo K) := by
  obtain ⟨_, G_Poly_shifted, b_Poly_shifted, k_Poly_shifted⟩ := O_Poly_shifted
  obtain ⟨_, G_Poly___mul__, b_Poly___mul__, k_Poly___mul__⟩ := O_Poly___mul__
  obtain ⟨_, G_Poly___sub__, b_Poly___sub__, k_Poly___sub__⟩ := O_Poly___sub__
  obtain ⟨_, G_Poly___eq__, b_Poly___eq__, k_Poly___eq__⟩ := O_Poly___eq__
  refine okF_of (d := d__is_closed_form) T.d__is_closed_form rfl sc__is_closed_form (fun _ _ _ _ _ _ us hl => match us, hl with | [_, _], _ => rfl) (fun vs H Q E h => ?_) (fun cdv A outer s H vs Q E hr h => ?_)
  · (obtain ⟨_, _, _, _, _, _, _, _, _, _, _, _, rfl, _⟩ := h; rfl)
  · obtain ⟨x, y, as, a, bs, b, cs, c, ds, d, _, _, rfl, ⟨dx, u, v, hx, hu, hv⟩, ⟨dy, u2, v2, hy, hu2, hv2⟩, zx, zy, q⟩ := h
    have la := zx.la
    have lb := zx.lb
    have lc := zy.la
    have ld := zy.lb
    have a0 := zx.sa.pos
    have b0 := zx.sb.pos
    have c0 := zy.sa.pos
    have d0 := zy.sb.pos
    have one : (1 : Int).natAbs < 2 ^ 1 := by decide
    have shb : ∀ n, n ≤ 7 → shB 60 1 n ≤ 188 := fun n hn => by
      unfold shB
      have : (n + 1) * (n + 1) ≤ 8 * 8 := Nat.mul_le_mul (by omega) (by omega)
      omega
    refine ⟨_, (pss_cons (ps_set (i := 2) sc__is_closed_form.nd rfl (Or.inl rfl) (pe_meth (pe_fld (pv 1) rfl) T.cls_Poly T.m_Poly_shifted G_Poly_shifted (hr.mono (by decide)) b_Poly_shifted .nil passL (pa_cons pe_int pa_nil)))
      (pss_cons (ps_set (i := 3) sc__is_closed_form.nd rfl (Or.inl rfl) (pe_op (op_own2 T.first_Poly T.s_Poly___sub__ T.f_Poly___sub__ G_Poly___sub__ (hr.mono (by decide)) b_Poly___sub__ passL) (pe_op (op_own2 T.first_Poly T.s_Poly___mul__ T.f_Poly___mul__ G_Poly___mul__ (hr.mono (by decide)) b_Poly___mul__ passL) (pe_op (op_own2 T.first_Poly T.s_Poly___mul__ T.f_Poly___mul__ G_Poly___mul__ (hr.mono (by decide)) b_Poly___mul__ passL) (pe_fld (pv 0) rfl) (pe_meth (pe_fld (pv 1) rfl) T.cls_Poly T.m_Poly_shifted G_Poly_shifted (hr.mono (by decide)) b_Poly_shifted .nil passL (pa_cons pe_int pa_nil))) (pe_fld (pv 1) rfl)) (pe_op (op_own2 T.first_Poly T.s_Poly___mul__ T.f_Poly___mul__ G_Poly___mul__ (hr.mono (by decide)) b_Poly___mul__ passL) (pe_op (op_own2 T.first_Poly T.s_Poly___mul__ T.f_Poly___mul__ G_Poly___mul__ (hr.mono (by decide)) b_Poly___mul__ passL) (pe_fld (pv 1) rfl) (pe_fld (pv 0) rfl)) (pv 2))))
      (pss_one (ps_ret (pe_cmpR (op_ownEq T.s_Poly___eq__ T.f_Poly___eq__ G_Poly___eq__ (hr.mono (by decide)) b_Poly___eq__ passL) (pv 3) (pe_op (op_own2 T.first_Poly T.s_Poly___mul__ T.f_Poly___mul__ G_Poly___mul__ (hr.mono (by decide)) b_Poly___mul__ passL) (pe_op (op_own2 T.first_Poly T.s_Poly___mul__ T.f_Poly___mul__ G_Poly___mul__ (hr.mono (by decide)) b_Poly___mul__ passL) (pe_fld (pv 0) rfl) (pv 2)) (pe_fld (pv 1) rfl)) (nomark _)))))), ?_⟩
    obtain ⟨_, _, rv2, _⟩ := id hv2
    have s1 := shb _ ld
    refine ⟨_, rfl, _, _, _, _, _, rfl, hy, T.cls_Quotient, T.n_Quotient_den, rfl, _, _, _, rfl, rv2, rfl, v2, ds, d, 1, 60, 1, rfl, hv2, d0, abs_mono zy.gb (by decide), zy.bb, one, by omega, by decide, by omega, fun p2 H1 m2 g2 t1 np2 hp2 ⟨z2, i2, b2, q2⟩ => ?_⟩
    have s2 := shb _ lc
    have l2 := q2.len (show d ≠ 0 by omega)
    have il2 := i2.len
    have g2b : g2.natAbs < 2 ^ 22 := Nat.lt_of_le_of_lt (q2.den_le (by omega)) zy.gb
    have c2 := (q2.bits (by omega) b2).mono (show shB 60 1 ds.length ≤ 188 by omega)
    obtain ⟨_, _, ru, _⟩ := id hu
    obtain ⟨_, _, ru2, _⟩ := id hu2
    obtain ⟨_, _, rv, _⟩ := id hv
    refine ⟨_, rfl, _, _, _, _, _, rfl, t1 _ _ hx, T.cls_Quotient, T.n_Quotient_num, rfl, _, rfl, _, _, _, _, _, rfl, t1 _ _ hy, T.cls_Quotient, T.n_Quotient_num, rfl, _, _, _, rfl, t1 _ _ ru2, rfl, u2, cs, c, 1, 60, 1, rfl, hu2.mono t1, c0, abs_mono zy.ga (by decide), zy.ba, one, by omega, by decide, by omega, fun p1 H2 m1 g1 t2 np1 hp1 ⟨z1, i1, b1, q1⟩ => ?_⟩
    have l1 := q1.len (show c ≠ 0 by omega)
    have il1 := i1.len
    have g1b : g1.natAbs < 2 ^ 22 := Nat.lt_of_le_of_lt (q1.den_le (by omega)) zy.ga
    have c1 := (q1.bits (by omega) b1).mono (show shB 60 1 cs.length ≤ 188 by omega)
    have t12 := t1.trans t2
    have g10 := q1.pos
    have g20 := q2.pos
    obtain ⟨_, _, rp1, _⟩ := id hp1
    refine ⟨_, _, _, _, _, _, rfl, rfl, t12 _ _ ru, rp1, u, p1, as, m1, a, g1, 1000, rfl, hu.mono t12, hp1, a0, g10, zx.ba.mono (by decide), c1.mono (by decide), by decide, abs_mono zx.ga (by decide), abs_mono g1b (by decide), by omega, by omega, .inr (by omega), fun p3 H3 n1 e1 t3 np3 hp3 ⟨z3, i3, q3⟩ => ?_⟩
    have ag : a * g1 ≠ 0 := Int.mul_ne_zero (by omega) (by omega)
    have il3 := i3.len
    have l3 := q3.len ag
    have e1b : e1.natAbs < 2 ^ 38 := Nat.lt_of_le_of_lt (q3.den_le ag) (abs_lt_mul zx.ga g1b)
    have e10 := q3.pos
    have c3 := q3.bits ag (mul_bits3 (k := 300) i3 zx.ba c1 (by omega))
    have t13 := t12.trans t3
    obtain ⟨_, _, rp3, _⟩ := id hp3
    refine ⟨_, rfl, _, _, _, _, _, rfl, t13 _ _ hy, T.cls_Quotient, T.n_Quotient_den, rfl, _, _, _, _, _, _, rfl, rfl, rp3, t13 _ _ rv2, p3, v2, n1, ds, e1, d, 1000, rfl, hp3, hv2.mono t13, e10, d0, c3.mono (by decide), zy.bb.mono (by decide), by decide, abs_mono e1b (by decide), abs_mono zy.gb (by decide), by omega, by omega, .inr (by omega), fun p4 H4 n2 e2 t4 np4 hp4 ⟨z4, i4, q4⟩ => ?_⟩
    have ed : e1 * d ≠ 0 := Int.mul_ne_zero (by omega) (by omega)
    have il4 := i4.len
    have l4 := q4.len ed
    have e2b : e2.natAbs < 2 ^ 60 := Nat.lt_of_le_of_lt (q4.den_le ed) (abs_lt_mul e1b zy.gb)
    have e20 := q4.pos
    have c4 := q4.bits ed (mul_bits3 (k := 400) i4 c3 zy.bb (by omega))
    have t14 := t13.trans t4
    refine ⟨_, rfl, _, _, _, _, _, rfl, t14 _ _ hy, T.cls_Quotient, T.n_Quotient_num, rfl, _, rfl, _, _, _, _, _, rfl, t14 _ _ hx, T.cls_Quotient, T.n_Quotient_den, rfl, _, _, _, _, _, _, rfl, rfl, t14 _ _ ru2, t14 _ _ rv, u2, v, cs, bs, c, b, 1000, rfl, hu2.mono t14, hv.mono t14, c0, b0, zy.ba.mono (by decide), zx.bb.mono (by decide), by decide, abs_mono zy.ga (by decide), abs_mono zx.gb (by decide), by omega, by omega, .inl (by omega), fun p5 H5 n3 e3 t5 np5 hp5 ⟨z5, i5, q5⟩ => ?_⟩
    have cb : c * b ≠ 0 := Int.mul_ne_zero (by omega) (by omega)
    have il5 := i5.len
    have l5 := q5.len cb
    have e3b : e3.natAbs < 2 ^ 38 := Nat.lt_of_le_of_lt (q5.den_le cb) (abs_lt_mul zy.ga zx.gb)
    have e30 := q5.pos
    have c5 := q5.bits cb (mul_bits3 (k := 300) i5 zy.ba zx.bb (by omega))
    have t15 := t14.trans t5
    have t25 := (t2.trans t3).trans (t4.trans t5)
    obtain ⟨_, _, rp5, _⟩ := id hp5
    obtain ⟨_, _, rp2, _⟩ := id hp2
    refine ⟨_, rfl, _, _, _, _, _, _, rfl, rfl, rp5, t25 _ _ rp2, p5, p2, n3, m2, e3, g2, 1000, rfl, hp5, hp2.mono t25, e30, g20, c5.mono (by decide), c2.mono (by decide), by decide, abs_mono e3b (by decide), abs_mono g2b (by decide), by omega, by omega, .inr (by omega), fun p6 H6 n4 e4 t6 np6 hp6 ⟨z6, i6, q6⟩ => ?_⟩
    have eg : e3 * g2 ≠ 0 := Int.mul_ne_zero (by omega) (by omega)
    have il6 := i6.len
    have l6 := q6.len eg
    have e4b : e4.natAbs < 2 ^ 60 := Nat.lt_of_le_of_lt (q6.den_le eg) (abs_lt_mul e3b g2b)
    have e40 := q6.pos
    have c6 := q6.bits eg (mul_bits3 (k := 600) i6 c5 c2 (by omega))
    obtain ⟨_, _, rp4, _⟩ := id hp4
    obtain ⟨_, _, rp6, _⟩ := id hp6
    have t56 := t5.trans t6
    refine ⟨_, _, _, _, _, _, rfl, rfl, t56 _ _ rp4, rp6, p4, p6, n2, n4, e2, e4, 1000, rfl, hp4.mono t56, hp6, q4.self, q6.self, c4.mono (by decide), c6.mono (by decide), by decide, abs_mono e2b (by decide), abs_mono e4b (by decide), by omega, by omega, fun p7 H7 n5 e5 t7 np7 hp7 q7 => ?_⟩
    have t17 := ((t15.trans t6).trans t7)
    have t27 := (t25.trans t6).trans t7
    refine ⟨_, rfl, _, rfl, _, _, _, _, _, rfl, t17 _ _ hx, T.cls_Quotient, T.n_Quotient_den, rfl, _, rfl, _, _, _, _, _, _, rfl, rfl, t17 _ _ rv, t27 _ _ rp2, v, p2, bs, m2, b, g2, 1000, rfl, hv.mono t17, hp2.mono t27, b0, g20, zx.bb.mono (by decide), c2.mono (by decide), by decide, abs_mono zx.gb (by decide), abs_mono g2b (by decide), by omega, by omega, .inr (by omega), fun p8 H8 n6 e6 t8 np8 hp8 ⟨z8, i8, q8⟩ => ?_⟩
    have bg : b * g2 ≠ 0 := Int.mul_ne_zero (by omega) (by omega)
    have il8 := i8.len
    have l8 := q8.len bg
    have e6b : e6.natAbs < 2 ^ 38 := Nat.lt_of_le_of_lt (q8.den_le bg) (abs_lt_mul zx.gb g2b)
    have e60 := q8.pos
    have c8 := q8.bits bg (mul_bits3 (k := 300) i8 zx.bb c2 (by omega))
    have t18 := t17.trans t8
    obtain ⟨_, _, rp8, _⟩ := id hp8
    refine ⟨_, rfl, _, _, _, _, _, rfl, t18 _ _ hy, T.cls_Quotient, T.n_Quotient_den, rfl, _, _, _, _, _, _, rfl, rfl, rp8, t18 _ _ rv2, p8, v2, n6, ds, e6, d, 1000, rfl, hp8, hv2.mono t18, e60, d0, c8.mono (by decide), zy.bb.mono (by decide), by decide, abs_mono e6b (by decide), abs_mono zy.gb (by decide), by omega, by omega, .inr (by omega), fun p9 H9 n7 e7 t9 np9 hp9 ⟨z9, i9, q9⟩ => ?_⟩
    have e6d : e6 * d ≠ 0 := Int.mul_ne_zero (by omega) (by omega)
    have e70 := q9.pos
    have e50 := q7.pos
    have t89 := t8.trans t9
    obtain ⟨_, _, rp7, _⟩ := id hp7
    obtain ⟨_, _, rp9, _⟩ := id hp9
    refine ⟨_, _, _, rfl, t89 _ _ rp7, .own rp9 T.nf_Poly_own, p7, n5, e5, _, rfl, hp7.mono t89, .inl ⟨p9, n7, e7, rfl, hp9, fun r hr => ?_⟩⟩
    refine q r H9 (t18.trans t9) fun zs ws iz iw => ?_
    obtain rfl := iz.uniq1 i1
    obtain rfl := iw.uniq1 i2
    rw [hr]
    refine clo_iff (m1 := pl m1) (m2 := pl m2) (n1 := pl n1) (n2 := pl n2) (n3 := pl n3) (n4 := pl n4) (n6 := pl n6) (g1 := g1) (g2 := g2) (e1 := e1) (e2 := e2) (e3 := e3) (e4 := e4) (e6 := e6) (by omega) (by omega) (by omega) (by omega) (by omega) (by omega) (by omega) (by omega) (by omega) (by omega) (by omega) (by omega) (by omega) (pq_ps q1) (pq_ps q2) ?_ ?_ ?_ ?_ ?_ ?_ ?_ q7.self q9.self
    · rw [← pl_mul i3]; exact pq_ps q3
    · rw [← pl_mul i4]; exact pq_ps q4
    · rw [← pl_mul i5]; exact pq_ps q5
    · rw [← pl_mul i6]; exact pq_ps q6
    · refine (pq_ps q7).trans (congrArg (pc e5 * ·) (PS.ext (funext fun i => ?_)))
      show (sumP n2 e2 (n4.map fun x => -x) e4).getD i 0 = cf (cst e4) (ff n2) i + -cf (cst e2) (ff n4) i
      rw [sumP_at, cst_cf, cst_cf, neg_at]
      show n2.getD i 0 * e4 + -n4.getD i 0 * e2 = e4 * n2.getD i 0 + -(e2 * n4.getD i 0)
      grind
    · rw [← pl_mul i8]; exact pq_ps q8
    · rw [← pl_mul i9]; exact pq_ps q9

theorem ok_accepts_running (T : Tx K mg) (O_Quotient_is_zero : OkF P w K mg base 3 (gtAd K (He.ga K "Quotient") "is_zero") ["self"] (spQuZ K)) (O__is_closed_form : OkF P w K mg base 6 (He.fAd K ("_is_closed_form", none)) ["ratio", "y"] (spClo K)) : OkF P w K mg base 7 (He.fAd K ("accepts_running", none)) ["ratio", "certificate"] (spAcc K) := by
  obtain ⟨_, G_Quotient_is_zero, b_Quotient_is_zero, k_Quotient_is_zero⟩ := O_Quotient_is_zero
  obtain ⟨_, G__is_closed_form, b__is_closed_form, k__is_closed_form⟩ := O__is_closed_form
  refine okF_of (d := d_accepts_running) T.d_accepts_running rfl sc_accepts_running (fun _ _ _ _ _ _ us hl => match us, hl with | [_, _], _ => rfl) (fun vs H Q E h => ?_) (fun cdv A outer s H vs Q E hr h => ?_)
  · (obtain ⟨_, _, _, _, _, _, _, _, rfl, _⟩ := h; rfl)
  · obtain ⟨x, t, as, a, bs, b, xs, _, rfl, hq, ht, hE, hC⟩ := h
    obtain ⟨dx, u, v, hx, hu, hv⟩ := id hq
    refine ⟨_, (pss_cons (ps_if (pt_val (pe_prop (pv 0) T.cls_Quotient T.p_Quotient_is_zero G_Quotient_is_zero (hr.mono (by decide)) b_Quotient_is_zero .nil passL rfl)) (pss_one (ps_raise rfl (takes_of rfl rfl rfl rfl) (pmk_own PySem.F.excBase_ValueError T.x_ZeroPolynomial T.g_ZeroPolynomial T.k_ZeroPolynomial (T.r_ZeroPolynomial rfl) rfl))) pss_nil)
      (pss_cons (ps_if (pt_cmpR op_eq (pe_ix ix_tup (pv 1) pe_int (fun _ _ => rfl)) pe_str (nomark _)) (pss_one (ps_ret (pe_call G__is_closed_form (hr.mono (by decide)) (by rfl) T.g__is_closed_form k__is_closed_form b__is_closed_form .nil passL (pa_cons (pv 0) (pa_cons (pe_ix ix_tup (pv 1) pe_int (fun _ _ => rfl)) pa_nil))))) pss_nil)
      (pss_cons (ps_if (pt_cmpR op_eq (pe_ix ix_tup (pv 1) pe_int (fun _ _ => rfl)) pe_str (nomark _)) pss_dead pss_nil)
      (pss_one (ps_ret pe_bl))))), ?_⟩
    refine ⟨_, rfl, _, _, _, rfl, hx, x, as, a, bs, b, rfl, hq, _, rfl, iteEq (fun c => ?_) (fun c => ?_)⟩
    · exact hE (List.eq_nil_of_length_eq_zero (by omega))
    rcases hC (fun z => c (by rw [z]; rfl)) with ⟨y, cs, c, ds, d, rfl, hy, zx, zy, q⟩ | ⟨s, rest, rfl, n1, n2, q⟩
    · refine ⟨_, rfl, _, _, _, _, rfl, rfl, SqT.of ht, atI_nat (j := 0) rfl, rfl, _, rfl, iteK (decide_eq_true rfl) ?_⟩
      refine ⟨_, rfl, _, rfl, _, _, _, _, rfl, rfl, SqT.of ht, atI_nat (j := 1) rfl, x, y, as, a, bs, b, cs, c, ds, d, (), (), rfl, hq, hy, zx, zy, fun r H' s h => ?_⟩
      exact q r H' s h
    · refine ⟨_, rfl, _, _, _, _, rfl, rfl, SqT.of ht, atI_nat (j := 0) rfl, rfl, _, rfl, iteN n1 ?_⟩
      refine ⟨_, rfl, _, _, _, _, rfl, rfl, SqT.of ht, atI_nat (j := 0) rfl, rfl, _, rfl, iteN n2 ?_⟩
      exact q

theorem ok__law_is_closed (T : Tx K mg) (O__law_shifted : OkF P w K mg base 2 (He.fAd K ("_law_shifted", none)) ["coefs", "step"] (spLSh K)) (O__law_product : OkF P w K mg base 1 (He.fAd K ("_law_product", none)) ["a", "b"] (spLPr K)) (O__law_minus : OkF P w K mg base 2 (He.fAd K ("_law_minus", none)) ["a", "b"] (spLMi K)) : OkF P w K mg base 3 (He.fAd K ("_law_is_closed", none)) ["num", "den", "above", "below"] (spLIC K) := by
  obtain ⟨_, G__law_shifted, b__law_shifted, k__law_shifted⟩ := O__law_shifted
  obtain ⟨_, G__law_product, b__law_product, k__law_product⟩ := O__law_product
  obtain ⟨_, G__law_minus, b__law_minus, k__law_minus⟩ := O__law_minus
  refine okF_of (d := d__law_is_closed) T.d__law_is_closed rfl sc__law_is_closed (fun _ _ _ _ _ _ us hl => match us, hl with | [_, _, _, _], _ => rfl) (fun vs H Q E h => ?_) (fun cdv A outer s H vs Q E hr h => ?_)
  · (obtain ⟨_, _, _, _, _, _, _, _, _, rfl, _⟩ := h; rfl)
  · obtain ⟨p1, p2, p3, p4, num, den, ab, be, _, rfl, h1, h2, h3, h4, b1, b2, b3, b4, l1, l2, l3, l4, q⟩ := h
    have one : (1 : Int).natAbs < 2 ^ 1 := by decide
    refine ⟨_, (pss_cons (ps_set (i := 4) sc__law_is_closed.nd rfl (Or.inl rfl) (pe_call G__law_product (hr.mono (by decide)) (by rfl) T.g__law_product k__law_product b__law_product .nil passL (pa_cons (pe_call G__law_product (hr.mono (by decide)) (by rfl) T.g__law_product k__law_product b__law_product .nil passL (pa_cons (pv 0) (pa_cons (pe_call G__law_shifted (hr.mono (by decide)) (by rfl) T.g__law_shifted k__law_shifted b__law_shifted .nil passL (pa_cons (pv 2) (pa_cons pe_int pa_nil))) pa_nil))) (pa_cons (pv 3) pa_nil))))
      (pss_cons (ps_set (i := 5) sc__law_is_closed.nd rfl (Or.inl rfl) (pe_call G__law_product (hr.mono (by decide)) (by rfl) T.g__law_product k__law_product b__law_product .nil passL (pa_cons (pe_call G__law_product (hr.mono (by decide)) (by rfl) T.g__law_product k__law_product b__law_product .nil passL (pa_cons (pv 1) (pa_cons (pv 2) pa_nil))) (pa_cons (pe_call G__law_shifted (hr.mono (by decide)) (by rfl) T.g__law_shifted k__law_shifted b__law_shifted .nil passL (pa_cons (pv 3) (pa_cons pe_int pa_nil))) pa_nil))))
      (pss_cons (ps_set (i := 6) sc__law_is_closed.nd rfl (Or.inl rfl) (pe_call G__law_product (hr.mono (by decide)) (by rfl) T.g__law_product k__law_product b__law_product .nil passL (pa_cons (pe_call G__law_product (hr.mono (by decide)) (by rfl) T.g__law_product k__law_product b__law_product .nil passL (pa_cons (pv 1) (pa_cons (pv 3) pa_nil))) (pa_cons (pe_call G__law_shifted (hr.mono (by decide)) (by rfl) T.g__law_shifted k__law_shifted b__law_shifted .nil passL (pa_cons (pv 3) (pa_cons pe_int pa_nil))) pa_nil))))
      (pss_one (ps_ret (pe_cmpR (op_eqD hr.units) (pe_call G__law_minus (hr.mono (by decide)) (by rfl) T.g__law_minus k__law_minus b__law_minus .nil passL (pa_cons (pe_call G__law_minus (hr.mono (by decide)) (by rfl) T.g__law_minus k__law_minus b__law_minus .nil passL (pa_cons (pv 4) (pa_cons (pv 5) pa_nil))) (pa_cons (pv 6) pa_nil))) (pe_lst pa_nil) (nomark _))))))), ?_⟩
    refine ⟨_, rfl, _, rfl, p3, ab, 1, 200, 1, rfl, h3, b3, one, by omega, by decide, by decide, fun q1 H1 z1 t1 nq1 hq1 a1 n1 => ?_⟩
    have i1 : IsSh 1 z1 ab := ⟨a1, n1⟩
    have c1 := sh_bits8 b3 l3 i1
    refine ⟨p1, q1, num, z1, 300, rfl, t1.seq h1, SqL.of hq1, b1.mono (by decide), c1.mono (by decide), by omega, by omega, by decide, fun q2 H2 z2 t2 nq2 hq2 i2 n2 => ?_⟩
    have c2 := mul_bits3 (k := 500) i2 b1 c1 (by omega)
    have t12 := t1.trans t2
    refine ⟨_, rfl, q2, p4, z2, be, 600, rfl, SqL.of hq2, t12.seq h4, c2.mono (by decide), b4.mono (by decide), by omega, by omega, by decide, fun q3 H3 z3 t3 nq3 hq3 i3 n3 => ?_⟩
    have t13 := t12.trans t3
    refine ⟨_, rfl, _, rfl, p2, p3, den, ab, 600, rfl, t13.seq h2, t13.seq h3, b2.mono (by decide), b3.mono (by decide), by omega, by omega, by decide, fun q4 H4 z4 t4 nq4 hq4 i4 n4 => ?_⟩
    have c4 := mul_bits3 (k := 500) i4 b2 b3 (by omega)
    have t14 := t13.trans t4
    refine ⟨_, rfl, p4, be, 1, 200, 1, rfl, t14.seq h4, b4, one, by omega, by decide, by decide, fun q5 H5 z5 t5 nq5 hq5 a5 n5 => ?_⟩
    have i5 : IsSh 1 z5 be := ⟨a5, n5⟩
    have c5 := sh_bits8 b4 l4 i5
    refine ⟨q4, q5, z4, z5, 600, rfl, t5.seq (SqL.of hq4), SqL.of hq5, c4.mono (by decide), c5.mono (by decide), by omega, by omega, by decide, fun q6 H6 z6 t6 nq6 hq6 i6 n6 => ?_⟩
    have t16 := t14.trans (t5.trans t6)
    refine ⟨_, rfl, _, rfl, p2, p4, den, be, 600, rfl, t16.seq h2, t16.seq h4, b2.mono (by decide), b4.mono (by decide), by omega, by omega, by decide, fun q7 H7 z7 t7 nq7 hq7 i7 n7 => ?_⟩
    have c7 := mul_bits3 (k := 500) i7 b2 b4 (by omega)
    have t17 := t16.trans t7
    refine ⟨_, rfl, p4, be, 1, 200, 1, rfl, t17.seq h4, b4, one, by omega, by decide, by decide, fun q8 H8 z8 t8 nq8 hq8 a8 n8 => ?_⟩
    have i8 : IsSh 1 z8 be := ⟨a8, n8⟩
    have c8 := sh_bits8 b4 l4 i8
    refine ⟨q7, q8, z7, z8, 600, rfl, t8.seq (SqL.of hq7), SqL.of hq8, c7.mono (by decide), c8.mono (by decide), by omega, by omega, by decide, fun q9 H9 z9 t9 nq9 hq9 i9 n9 => ?_⟩
    have t19 := t17.trans (t8.trans t9)
    have t39 := t4.trans ((t5.trans t6).trans (t7.trans (t8.trans t9)))
    have t69 := t7.trans (t8.trans t9)
    refine ⟨_, rfl, _, rfl, q3, q6, z3, z6, rfl, t39.seq (SqL.of hq3), t69.seq (SqL.of hq6), by omega, by omega, fun qa Ha za ta nqa hqa fa na => ?_⟩
    refine ⟨_, rfl, qa, q9, za, z9, rfl, SqL.of hqa, ta.seq (SqL.of hq9), by omega, by omega, fun qb Hb zb tb nqb hqb fb nb => ?_⟩
    refine ⟨by show 0 ≤ sizeLine; decide, fun qc nqc => ?_⟩
    have tc := sm_new (o := .lst []) nqc
    refine ⟨_, _, .lst (SqL.of (tc _ _ hqb)) (dpI zb), .lst (SqL.of upd_same) (dpI []), shL _, shL [], ?_⟩
    refine q _ _ (t19.trans ((ta.trans tb).trans tc)) fun zs ws iz iw => ?_
    obtain rfl := iz.uniq1 i1
    obtain rfl := iw.uniq1 i5
    obtain rfl := i8.uniq1 i5
    rw [eqvL, decide_eq_true_eq, ← pl_mul i2, ← pl_mul i4, ← pl_mul i7, ← pl_mul i3, ← pl_mul i6, ← pl_mul i9]
    constructor
    · intro h
      refine PS.ext (funext fun i => ?_)
      show z3.getD i 0 + -z6.getD i 0 = z9.getD i 0
      have e1 := fb.at_ i
      have e2 := fa.at_ i
      rw [h] at e1
      have e3 : (0 : Int) = za.getD i 0 - z9.getD i 0 := e1
      omega
    · intro h
      refine fb.uniq (Tf.nil (f := fun _ => 0) fun _ => rfl) fun i => ?_
      have e2 := fa.at_ i
      have e3 : z3.getD i 0 + -z6.getD i 0 = z9.getD i 0 := congrFun (congrArg PS.f h) i
      show za.getD i 0 - z9.getD i 0 = 0
      omega

theorem ok_Operator___init__ (T : Tx K mg) (O_Poly_is_zero : OkF P w K mg base 1 (gtAd K (He.ga K "Poly") "is_zero") ["self"] (spPZer K)) : OkF P w K mg base 3 (He.fAd K ("Operator", some "__init__")) ["self", "coefs"] (spOpI K) := by
  obtain ⟨_, G_Poly_is_zero, b_Poly_is_zero, k_Poly_is_zero⟩ := O_Poly_is_zero
  refine okF_of (d := d_Operator___init__) T.d_Operator___init__ rfl sc_Operator___init__ (fun _ _ _ _ _ _ us hl => match us, hl with | [_, _], _ => rfl) (fun vs H Q E h => ?_) (fun cdv A outer s H vs Q E hr h => ?_)
  · first | (obtain ⟨_, rfl, _⟩ := h; rfl) | (obtain ⟨_, _, rfl, _⟩ := h; rfl) | (obtain ⟨_, _, _, rfl, _⟩ := h; rfl) | (obtain ⟨_, _, _, _, rfl, _⟩ := h; rfl) | (obtain ⟨_, _, _, _, _, rfl, _⟩ := h; rfl) | (obtain ⟨_, _, _, _, _, _, rfl, _⟩ := h; rfl) | (obtain ⟨_, _, _, _, _, _, _, rfl, _⟩ := h; rfl) | (obtain ⟨_, _, _, _, _, _, _, _, rfl, _⟩ := h; rfl) | (obtain ⟨_, _, _, _, _, _, _, _, _, rfl, _⟩ := h; rfl) | (obtain ⟨_, _, _, _, _, _, _, _, _, _, rfl, _⟩ := h; rfl)
  · obtain ⟨x, dx, a, ps, rfl, hx, hS, hg, hl, q⟩ := h
    refine ⟨_, (pss_cons (ps_set (i := 2) sc_Operator___init__.nd rfl (Or.inl rfl) (pe_callTy call_list_of (by rfl) T.z_list (by decide +kernel) (pa_cons (pv 1) pa_nil)))
      (pss_cons (ps_while PassesOwn.leaving (PW.pt (pw_and (pt_cmpR op_gt (pe_callB call_len_seq (by rfl) T.z_len PySem.boot_len (pa_cons (pv 2) pa_nil)) pe_int (nomark _)) (pw_and1 (pt_val (pe_prop (pe_ix ix_list (pv 2) (pe_un un_neg pe_int) (fun _ _ => rfl)) T.cls_Poly T.p_Poly_is_zero G_Poly_is_zero (hr.mono (by decide)) b_Poly_is_zero .nil passL rfl))))) (pss_one (ps_expr (pe_bm0 PySem.F.plainAttrs_list PySem.F.slot_list_pop PySem.F.type_list_pop mt_pop (pv 2)))))
      (pss_one (ps_fld (pv 0) (pe_callTy call_tuple_of (by rfl) T.z_tuple (by decide +kernel) (pa_cons (pv 2) pa_nil)) rfl)))), ?_⟩
    refine ⟨_, rfl, a, _, rfl, hS, fun D nD => ?_⟩
    refine ⟨fun m σ' H' => σ' = [some (.ref x), some (.ref a), some (.ref D)] ∧ Same H H' ∧ H' D = some (.lst ((ps.take m).map rf)) ∧ m ≤ ps.length ∧ (∀ i q, m ≤ i → ps[i]? = some q → q.2.1 = []), ⟨ps.length, rfl, sm_new nD, by rw [upd_same, List.take_length], Nat.le_refl _, fun i q hi hq => by rw [List.getElem?_eq_none hi] at hq; cases hq⟩, ?_⟩
    rintro m _ H' ⟨rfl, sm, hD, hm, hz⟩
    have fl : ((ps.take m).map rf).length = m := by rw [List.length_map, List.length_take]; omega
    refine ⟨_, rfl, _, _, rfl, .inl (SqL.of hD), _, _, rfl, rfl, _, rfl, iteD (fun h1 => ?_) (fun h1 => ?_)⟩
    · rw [fl] at h1
      obtain ⟨u, hu⟩ : ∃ u, ps[m - 1]? = some u := ⟨_, List.getElem?_eq_getElem (show m - 1 < ps.length by omega)⟩
      have hu2 : ((ps.take m).map rf)[((ps.take m).map rf).length - 1]? = some (rf u) := by rw [fl, List.getElem?_map, get_take (by omega), hu]; rfl
      have hpu := (hg u (List.mem_of_getElem? hu)).mono sm
      obtain ⟨du, tu, hau, htu⟩ := id hpu
      refine ⟨_, rfl, _, rfl, _, _, _, _, rfl, rfl, SqL.of hD, at_last hu2, _, _, _, rfl, hau, _, _, _, rfl, hpu, _, rfl, iteEq (fun h2 => ?_) (fun h2 => ?_)⟩
      · refine ⟨fun σ2 H2 => ∃ m', m' < m ∧ σ2 = [some (.ref x), some (.ref a), some (.ref D)] ∧ Same H H2 ∧ H2 D = some (.lst ((ps.take m').map rf)) ∧ m' ≤ ps.length ∧ (∀ i q, m' ≤ i → ps[i]? = some q → q.2.1 = []), fun _ _ h => h, ?_⟩
        refine ⟨_, rfl, .inl ⟨rfl, _, SqL.of hD⟩, _, _, _, rfl, rfl, hD, hu2, ?_⟩
        refine ⟨m - 1, by omega, rfl, same_mut sm nD, by rw [upd_same, pops hm], by omega, fun i q hi hq => ?_⟩
        by_cases c : i = m - 1
        · rw [c, hu] at hq
          cases hq
          exact List.eq_nil_of_length_eq_zero (by omega)
        · exact hz i q (by omega) hq
      · have tr : TrimP ps m := ⟨hm, hz, .inr ⟨u, hu, fun w => h2 (by rw [w]; rfl)⟩⟩
        refine ⟨_, rfl, D, _, rfl, .inl ⟨SqL.of hD, fun t nt => ?_⟩⟩
        have s5 := sm.trans (sm_new (o := .tup ((ps.take m).map rf)) nt)
        have tx : t ≠ x := fun w => by
          have := sm _ _ hx
          rw [w, this] at nt
          cases nt
        refine ⟨_, rfl, x, _, dx, [], rfl, s5 _ _ hx, T.cls_Operator, T.n_Operator_coefs, by decide, ?_⟩
        exact q _ t m s5 upd_same tx tr
    · rw [fl] at h1
      have tr : TrimP ps m := ⟨hm, hz, .inl (by omega)⟩
      refine ⟨_, rfl, D, _, rfl, .inl ⟨SqL.of hD, fun t nt => ?_⟩⟩
      have s5 := sm.trans (sm_new (o := .tup ((ps.take m).map rf)) nt)
      have tx : t ≠ x := fun w => by
        have := sm _ _ hx
        rw [w, this] at nt
        cases nt
      refine ⟨_, rfl, x, _, dx, [], rfl, s5 _ _ hx, T.cls_Operator, T.n_Operator_coefs, by decide, ?_⟩
      exact q _ t m s5 upd_same tx tr

theorem ok_Poly2___init__ (T : Tx K mg) (O_Poly_is_zero : OkF P w K mg base 1 (gtAd K (He.ga K "Poly") "is_zero") ["self"] (spPZer K)) : OkF P w K mg base 3 (He.fAd K ("Poly2", some "__init__")) ["self", "rows"] (spP2I K) := by
  obtain ⟨_, G_Poly_is_zero, b_Poly_is_zero, k_Poly_is_zero⟩ := O_Poly_is_zero
  refine okF_of (d := d_Poly2___init__) T.d_Poly2___init__ rfl sc_Poly2___init__ (fun _ _ _ _ _ _ us hl => match us, hl with | [_, _], _ => rfl) (fun vs H Q E h => ?_) (fun cdv A outer s H vs Q E hr h => ?_)
  · first | (obtain ⟨_, rfl, _⟩ := h; rfl) | (obtain ⟨_, _, rfl, _⟩ := h; rfl) | (obtain ⟨_, _, _, rfl, _⟩ := h; rfl) | (obtain ⟨_, _, _, _, rfl, _⟩ := h; rfl) | (obtain ⟨_, _, _, _, _, rfl, _⟩ := h; rfl) | (obtain ⟨_, _, _, _, _, _, rfl, _⟩ := h; rfl) | (obtain ⟨_, _, _, _, _, _, _, rfl, _⟩ := h; rfl) | (obtain ⟨_, _, _, _, _, _, _, _, rfl, _⟩ := h; rfl) | (obtain ⟨_, _, _, _, _, _, _, _, _, rfl, _⟩ := h; rfl) | (obtain ⟨_, _, _, _, _, _, _, _, _, _, rfl, _⟩ := h; rfl)
  · obtain ⟨x, dx, a, ps, rfl, hx, hS, hg, hl, q⟩ := h
    refine ⟨_, (pss_cons (ps_set (i := 2) sc_Poly2___init__.nd rfl (Or.inl rfl) (pe_callTy call_list_of (by rfl) T.z_list (by decide +kernel) (pa_cons (pv 1) pa_nil)))
      (pss_cons (ps_while PassesOwn.leaving (PW.pt (pw_and (pt_cmpR op_gt (pe_callB call_len_seq (by rfl) T.z_len PySem.boot_len (pa_cons (pv 2) pa_nil)) pe_int (nomark _)) (pw_and1 (pt_val (pe_prop (pe_ix ix_list (pv 2) (pe_un un_neg pe_int) (fun _ _ => rfl)) T.cls_Poly T.p_Poly_is_zero G_Poly_is_zero (hr.mono (by decide)) b_Poly_is_zero .nil passL rfl))))) (pss_one (ps_expr (pe_bm0 PySem.F.plainAttrs_list PySem.F.slot_list_pop PySem.F.type_list_pop mt_pop (pv 2)))))
      (pss_one (ps_fld (pv 0) (pe_callTy call_tuple_of (by rfl) T.z_tuple (by decide +kernel) (pa_cons (pv 2) pa_nil)) rfl)))), ?_⟩
    refine ⟨_, rfl, a, _, rfl, hS, fun D nD => ?_⟩
    refine ⟨fun m σ' H' => σ' = [some (.ref x), some (.ref a), some (.ref D)] ∧ Same H H' ∧ H' D = some (.lst ((ps.take m).map rf)) ∧ m ≤ ps.length ∧ (∀ i q, m ≤ i → ps[i]? = some q → q.2.1 = []), ⟨ps.length, rfl, sm_new nD, by rw [upd_same, List.take_length], Nat.le_refl _, fun i q hi hq => by rw [List.getElem?_eq_none hi] at hq; cases hq⟩, ?_⟩
    rintro m _ H' ⟨rfl, sm, hD, hm, hz⟩
    have fl : ((ps.take m).map rf).length = m := by rw [List.length_map, List.length_take]; omega
    refine ⟨_, rfl, _, _, rfl, .inl (SqL.of hD), _, _, rfl, rfl, _, rfl, iteD (fun h1 => ?_) (fun h1 => ?_)⟩
    · rw [fl] at h1
      obtain ⟨u, hu⟩ : ∃ u, ps[m - 1]? = some u := ⟨_, List.getElem?_eq_getElem (show m - 1 < ps.length by omega)⟩
      have hu2 : ((ps.take m).map rf)[((ps.take m).map rf).length - 1]? = some (rf u) := by rw [fl, List.getElem?_map, get_take (by omega), hu]; rfl
      have hpu := (hg u (List.mem_of_getElem? hu)).mono sm
      obtain ⟨du, tu, hau, htu⟩ := id hpu
      refine ⟨_, rfl, _, rfl, _, _, _, _, rfl, rfl, SqL.of hD, at_last hu2, _, _, _, rfl, hau, _, _, _, rfl, hpu, _, rfl, iteEq (fun h2 => ?_) (fun h2 => ?_)⟩
      · refine ⟨fun σ2 H2 => ∃ m', m' < m ∧ σ2 = [some (.ref x), some (.ref a), some (.ref D)] ∧ Same H H2 ∧ H2 D = some (.lst ((ps.take m').map rf)) ∧ m' ≤ ps.length ∧ (∀ i q, m' ≤ i → ps[i]? = some q → q.2.1 = []), fun _ _ h => h, ?_⟩
        refine ⟨_, rfl, .inl ⟨rfl, _, SqL.of hD⟩, _, _, _, rfl, rfl, hD, hu2, ?_⟩
        refine ⟨m - 1, by omega, rfl, same_mut sm nD, by rw [upd_same, pops hm], by omega, fun i q hi hq => ?_⟩
        by_cases c : i = m - 1
        · rw [c, hu] at hq
          cases hq
          exact List.eq_nil_of_length_eq_zero (by omega)
        · exact hz i q (by omega) hq
      · have tr : TrimP ps m := ⟨hm, hz, .inr ⟨u, hu, fun w => h2 (by rw [w]; rfl)⟩⟩
        refine ⟨_, rfl, D, _, rfl, .inl ⟨SqL.of hD, fun t nt => ?_⟩⟩
        have s5 := sm.trans (sm_new (o := .tup ((ps.take m).map rf)) nt)
        have tx : t ≠ x := fun w => by
          have := sm _ _ hx
          rw [w, this] at nt
          cases nt
        refine ⟨_, rfl, x, _, dx, [], rfl, s5 _ _ hx, T.cls_Poly2, T.n_Poly2_rows, by decide, ?_⟩
        exact q _ t m s5 upd_same tx tr
    · rw [fl] at h1
      have tr : TrimP ps m := ⟨hm, hz, .inl (by omega)⟩
      refine ⟨_, rfl, D, _, rfl, .inl ⟨SqL.of hD, fun t nt => ?_⟩⟩
      have s5 := sm.trans (sm_new (o := .tup ((ps.take m).map rf)) nt)
      have tx : t ≠ x := fun w => by
        have := sm _ _ hx
        rw [w, this] at nt
        cases nt
      refine ⟨_, rfl, x, _, dx, [], rfl, s5 _ _ hx, T.cls_Poly2, T.n_Poly2_rows, by decide, ?_⟩
      exact q _ t m s5 upd_same tx tr

theorem ok__law_refuses_others (T : Tx K mg) (O_accepts_running : OkF P w K mg base 7 (He.fAd K ("accepts_running", none)) ["ratio", "certificate"] (spAcc K)) (O_Operator___init__ : OkF P w K mg base 3 (He.fAd K ("Operator", some "__init__")) ["self", "coefs"] (spOpI K)) (O_Poly___init__ : OkD P w K mg base 2 (He.fAd K ("Poly", some "__init__")) ["self", "coefs", "den"] (He.Dv.v K (.int 1)) (spPInit K)) (O_Poly2___init__ : OkF P w K mg base 3 (He.fAd K ("Poly2", some "__init__")) ["self", "rows"] (spP2I K)) : OkF P w K mg base 8 (He.fAd K ("_law_refuses_others", none)) ["ratio"] (spLRO K) := by
  obtain ⟨_, G_accepts_running, b_accepts_running, k_accepts_running⟩ := O_accepts_running
  obtain ⟨_, G_Operator___init__, b_Operator___init__, k_Operator___init__⟩ := O_Operator___init__
  obtain ⟨_, G_Poly___init__, b_Poly___init__, ⟨_, v_Poly___init__, bd_Poly___init__⟩, k_Poly___init__⟩ := O_Poly___init__
  obtain ⟨_, G_Poly2___init__, b_Poly2___init__, k_Poly2___init__⟩ := O_Poly2___init__
  refine okF_of (d := d__law_refuses_others) T.d__law_refuses_others rfl sc__law_refuses_others (fun _ _ _ _ _ _ us hl => match us, hl with | [_], _ => rfl) (fun vs H Q E h => ?_) (fun cdv A outer s H vs Q E hr h => ?_)
  · (obtain ⟨_, _, _, _, _, _, rfl, _⟩ := h; rfl)
  · obtain ⟨x, as, a, bs, b, _, rfl, hq, ne, q⟩ := h
    refine ⟨_, (pss_cons (ps_if (PW.pt (pw_or (pt_val (pe_call G_accepts_running (hr.mono (by decide)) (by rfl) T.g_accepts_running k_accepts_running b_accepts_running .nil passL (pa_cons (pv 0) (pa_cons (pe_tup (pa_cons pe_str (pa_cons pe_int pa_nil))) pa_nil)))) (pw_or1 (pt_val (pe_call G_accepts_running (hr.mono (by decide)) (by rfl) T.g_accepts_running k_accepts_running b_accepts_running .nil passL (pa_cons (pv 0) (pa_cons (pe_tup (pa_cons pe_str (pa_cons (pe_makeI T.mk_Operator G_Operator___init__ (hr.mono (by decide)) (by rfl) T.g_Operator b_Operator___init__ .nil passL (mkOp_conv K []) (pa_cons (pe_lst pa_nil) pa_nil)) (pa_cons (pe_makeI T.mk_Operator G_Operator___init__ (hr.mono (by decide)) (by rfl) T.g_Operator b_Operator___init__ .nil passL (mkOp_conv K []) (pa_cons (pe_lst pa_nil) pa_nil)) pa_nil)))) pa_nil))))))) (pss_one (ps_ret pe_bl)) pss_nil)
      (pss_cons (ps_if (pt_val (pe_call G_accepts_running (hr.mono (by decide)) (by rfl) T.g_accepts_running k_accepts_running b_accepts_running .nil passL (pa_cons (pv 0) (pa_cons (pe_tup (pa_cons pe_str (pa_cons pe_int (pa_cons (pe_makeI T.mk_Operator G_Operator___init__ (hr.mono (by decide)) (by rfl) T.g_Operator b_Operator___init__ .nil passL (mkOp_conv K []) (pa_cons (pe_lst (pa_cons (pe_makeI T.mk_Poly G_Poly___init__ (hr.mono (by decide)) (by rfl) T.g_Poly bd_Poly___init__ v_Poly___init__ passL (mkPo_conv K [_]) (pa_cons (pe_lst (pa_cons pe_int pa_nil)) pa_nil)) pa_nil)) pa_nil)) (pa_cons (pe_makeI T.mk_Poly2 G_Poly2___init__ (hr.mono (by decide)) (by rfl) T.g_Poly2 b_Poly2___init__ .nil passL (mkP2_conv K []) (pa_cons (pe_lst pa_nil) pa_nil)) pa_nil))))) pa_nil)))) (pss_one (ps_ret pe_bl)) pss_nil)
      (pss_one (ps_ret (pe_not (pe_call G_accepts_running (hr.mono (by decide)) (by rfl) T.g_accepts_running k_accepts_running b_accepts_running .nil passL (pa_cons (pv 0) (pa_cons (pe_tup (pa_cons pe_str (pa_cons pe_int (pa_cons pe_int (pa_cons (pe_tup pa_nil) pa_nil))))) pa_nil)))))))), ?_⟩
    refine ⟨_, rfl, by show 2 ≤ sizeLine; decide, fun t1 n1 => ?_⟩
    have s1 := sm_new (o := .tup [V.str "different", V.int 0]) n1
    refine ⟨x, t1, as, a, bs, b, _, (), rfl, hq.mono s1, upd_same, fun z => absurd z ne, fun _ => .inr ⟨_, _, rfl, by decide, by decide, ?_⟩⟩
    refine ⟨_, rfl, iteN rfl ?_⟩
    refine ⟨_, rfl, by show 0 ≤ sizeLine; decide, fun pE npE => ?_⟩
    have s2 := sm_new (o := .lst []) npE
    refine ⟨pE, [], rfl, .inl (SqL.of upd_same), fun q hq => absurd hq (by simp), by decide, fun pO HO osO s3 npO hO _ => ?_⟩
    refine ⟨by show 0 ≤ sizeLine; decide, fun pE2 npE2 => ?_⟩
    have s4 := sm_new (o := .lst []) npE2
    refine ⟨pE2, [], rfl, .inl (SqL.of upd_same), fun q hq => absurd hq (by simp), by decide, fun pO2 HO2 osO2 s5 npO2 hO2 _ => ?_⟩
    refine ⟨by show 3 ≤ sizeLine; decide, fun t2 n2 => ?_⟩
    have s6 := sm_new (o := .tup [V.str "equal", V.ref pO, V.ref pO2]) n2
    have sA := s1.trans ((s2.trans s3).trans ((s4.trans s5).trans s6))
    refine ⟨x, t2, as, a, bs, b, _, (), rfl, hq.mono sA, upd_same, fun z => absurd z ne, fun _ => .inr ⟨_, _, rfl, by decide, by decide, ?_⟩⟩
    refine ⟨_, rfl, iteN rfl ?_⟩
    refine ⟨_, rfl, by show 1 ≤ sizeLine; decide, fun pa npa => ?_⟩
    have s7 := sm_new (o := .lst [V.int 1]) npa
    refine ⟨pa, [1], 1, 1, rfl, .inl (SqL.of upd_same), by decide, by decide, by decide, by decide, fun p1 H7 ks1 e1 s8 np1 hp1 q1 => ?_⟩
    refine ⟨by show 1 ≤ sizeLine; decide, fun pb npb => ?_⟩
    have s9 := sm_new (o := .lst [V.ref p1]) npb
    refine ⟨pb, [(p1, ks1, e1)], rfl, .inl (SqL.of upd_same), fun q hq => by rw [List.mem_singleton.mp hq]; exact hp1.mono s9, by show 1 ≤ 900; decide, fun pO3 HO3 osO3 s10 npO3 hO3 _ => ?_⟩
    refine ⟨by show 0 ≤ sizeLine; decide, fun pE4 npE4 => ?_⟩
    have s11 := sm_new (o := .lst []) npE4
    refine ⟨pE4, [], rfl, .inl (SqL.of upd_same), fun q hq => absurd hq (by simp), by decide, fun pO4 HO4 osO4 s12 npO4 hO4 _ => ?_⟩
    refine ⟨by show 4 ≤ sizeLine; decide, fun t3 n3 => ?_⟩
    have s13 := sm_new (o := .tup [V.str "recurrence", V.int 0, V.ref pO3, V.ref pO4]) n3
    have sB := sA.trans ((s7.trans s8).trans ((s9.trans s10).trans ((s11.trans s12).trans s13)))
    refine ⟨x, t3, as, a, bs, b, _, (), rfl, hq.mono sB, upd_same, fun z => absurd z ne, fun _ => .inr ⟨_, _, rfl, by decide, by decide, ?_⟩⟩
    refine ⟨_, rfl, iteN rfl ?_⟩
    refine ⟨_, rfl, by show 0 ≤ sizeLine; decide, fun t4 n4 => ?_⟩
    have s14 := sm_new (o := .tup []) n4
    refine ⟨by show 4 ≤ sizeLine; decide, fun t5 n5 => ?_⟩
    have s15 := sm_new (o := .tup [V.str "none", V.int 0, V.int 0, V.ref t4]) n5
    have sC := sB.trans (s14.trans s15)
    refine ⟨x, t5, as, a, bs, b, _, (), rfl, hq.mono sC, upd_same, fun z => absurd z ne, fun _ => .inr ⟨_, _, rfl, by decide, by decide, ?_⟩⟩
    exact ⟨_, rfl, q _ sC⟩

end
section
variable {P : Program} {w : World} {K : PySem.W.Frag} {mg : Str → Option Value}
theorem ok_law (T : Tx K mg) (O__law_numbers : ∀ base, OkF P w K mg base 1 (He.fAd K ("_law_numbers", none)) ["script", "count"] (spNums K)) (O__law_ratio : ∀ base, OkF P w K mg base 2 (He.fAd K ("_law_ratio", none)) ["numbers", "place"] (spLRt K)) (O__law_minus : ∀ base, OkF P w K mg base 2 (He.fAd K ("_law_minus", none)) ["a", "b"] (spLMi K)) (O__law_shifted : ∀ base, OkF P w K mg base 2 (He.fAd K ("_law_shifted", none)) ["coefs", "step"] (spLSh K)) (O__law_product : ∀ base, OkF P w K mg base 1 (He.fAd K ("_law_product", none)) ["a", "b"] (spLPr K)) (O_Poly___init__ : ∀ base, OkD P w K mg base 2 (He.fAd K ("Poly", some "__init__")) ["self", "coefs", "den"] (He.Dv.v K (.int 1)) (spPInit K)) (O_Quotient___init__ : ∀ base, OkF P w K mg base 9 (He.fAd K ("Quotient", some "__init__")) ["self", "num", "den"] (spQuI K)) (O__law_spoilt : ∀ base, OkF P w K mg base 3 (He.fAd K ("_law_spoilt", none)) ["numbers", "above", "below"] (spLSpo K)) (O_accepts_running : ∀ base, OkF P w K mg base 7 (He.fAd K ("accepts_running", none)) ["ratio", "certificate"] (spAcc K)) (O__law_is_closed : ∀ base, OkF P w K mg base 3 (He.fAd K ("_law_is_closed", none)) ["num", "den", "above", "below"] (spLIC K)) (O__law_refuses_others : ∀ base, OkF P w K mg base 8 (He.fAd K ("_law_refuses_others", none)) ["ratio"] (spLRO K)) : ∃ fd : FuncData, (∀ (s : Shared) (v : Value), BindsTo s fd ⟨[v], []⟩ [("script", v)]) ∧ ∀ base : Heap, FnOk P w K mg base CX0 11 (He.fAd K ("law", none)) fd ["script"] (spLaw K) := by
  refine okLaw_of (d := d_law) T.d_law rfl sc_law (fun _ _ _ _ _ _ us hl => match us, hl with | [_], _ => rfl) (fun vs H Q E h => by obtain ⟨_, _, rfl, _⟩ := h; rfl) (fun base cdv A outer s H vs Q E hr h => ?_)
  · obtain ⟨_, G__law_numbers, b__law_numbers, k__law_numbers⟩ := O__law_numbers base
    obtain ⟨_, G__law_ratio, b__law_ratio, k__law_ratio⟩ := O__law_ratio base
    obtain ⟨_, G__law_minus, b__law_minus, k__law_minus⟩ := O__law_minus base
    obtain ⟨_, G__law_shifted, b__law_shifted, k__law_shifted⟩ := O__law_shifted base
    obtain ⟨_, G__law_product, b__law_product, k__law_product⟩ := O__law_product base
    obtain ⟨_, G_Poly___init__, b_Poly___init__, ⟨_, v_Poly___init__, bd_Poly___init__⟩, k_Poly___init__⟩ := O_Poly___init__ base
    obtain ⟨_, G_Quotient___init__, b_Quotient___init__, k_Quotient___init__⟩ := O_Quotient___init__ base
    obtain ⟨_, G__law_spoilt, b__law_spoilt, k__law_spoilt⟩ := O__law_spoilt base
    obtain ⟨_, G_accepts_running, b_accepts_running, k_accepts_running⟩ := O_accepts_running base
    obtain ⟨_, G__law_is_closed, b__law_is_closed, k__law_is_closed⟩ := O__law_is_closed base
    obtain ⟨_, G__law_refuses_others, b__law_refuses_others, k__law_refuses_others⟩ := O__law_refuses_others base
    obtain ⟨aS, ns, rfl, hS, hl, q⟩ := h
    refine ⟨_, (pss_cons (ps_set (i := 1) sc_law.nd rfl (Or.inl rfl) (pe_call G__law_numbers (hr.mono (by decide)) (by rfl) T.g__law_numbers k__law_numbers b__law_numbers .nil passL (pa_cons (pv 0) (pa_cons pe_int pa_nil))))
      (pss_cons (ps_set (i := 2) sc_law.nd rfl (Or.inl rfl) (pe_call G__law_ratio (hr.mono (by decide)) (by rfl) T.g__law_ratio k__law_ratio b__law_ratio .nil passL (pa_cons (pv 1) (pa_cons pe_int pa_nil))))
      (pss_cons (ps_set (i := 3) sc_law.nd rfl (Or.inl rfl) (pe_call G__law_minus (hr.mono (by decide)) (by rfl) T.g__law_minus k__law_minus b__law_minus .nil passL (pa_cons (pe_ix ix_list (pv 2) pe_int (fun _ _ => rfl)) (pa_cons (pe_ix ix_list (pv 2) pe_int (fun _ _ => rfl)) pa_nil))))
      (Evl.pss_cut (ps_if (pt_cmpR op_eq (pe_callB call_len_seq (by rfl) T.z_len PySem.boot_len (pa_cons (pv 3) pa_nil)) pe_int (nomark _)) (pss_cons (ps_asg (pe_lc (own := [("number", 11)]) (g := gName 11) rfl sc_law.nd (pi_list (pe_ix ix_list (pv 2) pe_int (fun _ _ => rfl))) (blkOk_by (own := [("number", 11)]) (N := N_law) (sc := defScope s_law) (by decide +kernel)) (fun _ _ _ _ _ => (pg_name (i := 11) sc_law.nd rfl (Or.inl rfl))) (fun _ _ _ _ _ => pts_nil) (fun _ _ _ _ _ => (pe_op op_mulW pe_int (pv 11)))) (pg_sub (pv 2) pe_int set_list))
      (pss_one (ps_set (i := 3) sc_law.nd rfl (Or.inl rfl) (pe_callTy call_list_of (by rfl) T.z_list (by decide +kernel) (pa_cons (pe_ix ix_list (pv 2) pe_int (fun _ _ => rfl)) pa_nil))))) pss_nil)
      (pss_cons (ps_set (i := 4) sc_law.nd rfl (Or.inl rfl) (pe_call G__law_product (hr.mono (by decide)) (by rfl) T.g__law_product k__law_product b__law_product .nil passL (pa_cons (pe_call G__law_product (hr.mono (by decide)) (by rfl) T.g__law_product k__law_product b__law_product .nil passL (pa_cons (pe_ix ix_list (pv 2) pe_int (fun _ _ => rfl)) (pa_cons (pe_call G__law_shifted (hr.mono (by decide)) (by rfl) T.g__law_shifted k__law_shifted b__law_shifted .nil passL (pa_cons (pv 3) (pa_cons pe_int pa_nil))) pa_nil))) (pa_cons (pe_ix ix_list (pv 2) pe_int (fun _ _ => rfl)) pa_nil))))
      (pss_cons (ps_set (i := 5) sc_law.nd rfl (Or.inl rfl) (pe_call G__law_product (hr.mono (by decide)) (by rfl) T.g__law_product k__law_product b__law_product .nil passL (pa_cons (pe_call G__law_product (hr.mono (by decide)) (by rfl) T.g__law_product k__law_product b__law_product .nil passL (pa_cons (pe_ix ix_list (pv 2) pe_int (fun _ _ => rfl)) (pa_cons (pv 3) pa_nil))) (pa_cons (pe_call G__law_shifted (hr.mono (by decide)) (by rfl) T.g__law_shifted k__law_shifted b__law_shifted .nil passL (pa_cons (pe_ix ix_list (pv 2) pe_int (fun _ _ => rfl)) (pa_cons pe_int pa_nil))) pa_nil))))
      (pss_cons (ps_set (i := 6) sc_law.nd rfl (Or.inl rfl) (pe_makeI T.mk_Quotient G_Quotient___init__ (hr.mono (by decide)) (by rfl) T.g_Quotient b_Quotient___init__ .nil passL (mkQu_conv K []) (pa_cons (pe_makeI T.mk_Poly G_Poly___init__ (hr.mono (by decide)) (by rfl) T.g_Poly bd_Poly___init__ v_Poly___init__ passL (mkPo_conv K [_]) (pa_cons (pv 4) pa_nil)) (pa_cons (pe_makeI T.mk_Poly G_Poly___init__ (hr.mono (by decide)) (by rfl) T.g_Poly bd_Poly___init__ v_Poly___init__ passL (mkPo_conv K [_]) (pa_cons (pv 5) pa_nil)) pa_nil))))
      (pss_cons (ps_set (i := 7) sc_law.nd rfl (Or.inl rfl) (pe_call G__law_spoilt (hr.mono (by decide)) (by rfl) T.g__law_spoilt k__law_spoilt b__law_spoilt .nil passL (pa_cons (pv 1) (pa_cons (pe_ix ix_list (pv 2) pe_int (fun _ _ => rfl)) (pa_cons (pv 3) pa_nil)))))
      (pss_cons (ps_set (i := 8) sc_law.nd rfl (Or.inl rfl) (pe_makeI T.mk_Quotient G_Quotient___init__ (hr.mono (by decide)) (by rfl) T.g_Quotient b_Quotient___init__ .nil passL (mkQu_conv K []) (pa_cons (pe_makeI T.mk_Poly G_Poly___init__ (hr.mono (by decide)) (by rfl) T.g_Poly bd_Poly___init__ v_Poly___init__ passL (mkPo_conv K [_]) (pa_cons (pe_ix ix_list (pv 7) pe_int (fun _ _ => rfl)) pa_nil)) (pa_cons (pe_makeI T.mk_Poly G_Poly___init__ (hr.mono (by decide)) (by rfl) T.g_Poly bd_Poly___init__ v_Poly___init__ passL (mkPo_conv K [_]) (pa_cons (pe_ix ix_list (pv 7) pe_int (fun _ _ => rfl)) pa_nil)) pa_nil))))
      (pss_cons (ps_set (i := 9) sc_law.nd rfl (Or.inl rfl) (pe_call G_accepts_running (hr.mono (by decide)) (by rfl) T.g_accepts_running k_accepts_running b_accepts_running .nil passL (pa_cons (pv 6) (pa_cons (pe_tup (pa_cons pe_str (pa_cons (pv 8) pa_nil))) pa_nil))))
      (pss_cons (ps_if (PW.pt (pw_or (pt_not (pt_val (pe_callB call_isi (by rfl) T.z_isinstance (by decide +kernel) (pa_cons (pv 9) (pa_cons (pe_bltn (v := .ty "bool") rfl T.z_bool (by decide +kernel) rfl) pa_nil))))) (pw_or1 (pt_cmpR op_ne (pv 9) (pe_call G__law_is_closed (hr.mono (by decide)) (by rfl) T.g__law_is_closed k__law_is_closed b__law_is_closed .nil passL (pa_cons (pv 4) (pa_cons (pv 5) (pa_cons (pe_ix ix_list (pv 7) pe_int (fun _ _ => rfl)) (pa_cons (pe_ix ix_list (pv 7) pe_int (fun _ _ => rfl)) pa_nil))))) (nomark _))))) (pss_one (ps_ret pe_bl)) pss_nil)
      (pss_cons (ps_if (pt_cmpR op_isnot_bl (pe_call G_accepts_running (hr.mono (by decide)) (by rfl) T.g_accepts_running k_accepts_running b_accepts_running .nil passL (pa_cons (pv 6) (pa_cons (pe_tup (pa_cons pe_str (pa_cons (pe_makeI T.mk_Quotient G_Quotient___init__ (hr.mono (by decide)) (by rfl) T.g_Quotient b_Quotient___init__ .nil passL (mkQu_conv K []) (pa_cons (pe_makeI T.mk_Poly G_Poly___init__ (hr.mono (by decide)) (by rfl) T.g_Poly bd_Poly___init__ v_Poly___init__ passL (mkPo_conv K [_]) (pa_cons (pe_ix ix_list (pv 2) pe_int (fun _ _ => rfl)) pa_nil)) (pa_cons (pe_makeI T.mk_Poly G_Poly___init__ (hr.mono (by decide)) (by rfl) T.g_Poly bd_Poly___init__ v_Poly___init__ passL (mkPo_conv K [_]) (pa_cons (pv 3) pa_nil)) pa_nil))) pa_nil))) pa_nil))) pe_bl (nomark _)) (pss_one (ps_ret pe_bl)) pss_nil)
      (pss_cons (ps_set (i := 10) sc_law.nd rfl (Or.inl rfl) pe_bl)
      (pss_cons (ps_try_only rfl rfl ⟨rfl, by decide, .inl T.g_ZeroPolynomial⟩ takes0 (fun W pn xe tk _ => (pss_one (ps_expr (pe_callS G_accepts_running (hr.mono (by decide)) (by rfl) T.g_accepts_running k_accepts_running b_accepts_running (fun σ => passAt tk σ) (pa_cons (pe_makeIS T.mk_Quotient G_Quotient___init__ (hr.mono (by decide)) (by rfl) T.g_Quotient b_Quotient___init__ .nil (fun σ => passAt tk σ) (mkQuS_conv K [] W) (pa_cons (pe_makeIS T.mk_Poly G_Poly___init__ (hr.mono (by decide)) (by rfl) T.g_Poly bd_Poly___init__ v_Poly___init__ (fun σ => passAt tk σ) (mkPoS_conv K [_] W) (pa_cons (pe_lst pa_nil) pa_nil)) (pa_cons (pe_makeIS T.mk_Poly G_Poly___init__ (hr.mono (by decide)) (by rfl) T.g_Poly bd_Poly___init__ v_Poly___init__ (fun σ => passAt tk σ) (mkPoS_conv K [_] W) (pa_cons (pe_lst (pa_cons pe_int pa_nil)) pa_nil)) pa_nil))) (pa_cons (pe_tup (pa_cons pe_str (pa_cons (pv 8) pa_nil))) pa_nil)))))) (fun a oe cls d pn _ _ => (pss_one (ps_set (i := 10) sc_law.nd rfl (Or.inl rfl) pe_bl))))
      (pss_one (ps_ret (pe_and (pv 10) (pe_one (pe_call G__law_refuses_others (hr.mono (by decide)) (by rfl) T.g__law_refuses_others k__law_refuses_others b__law_refuses_others .nil passL (pa_cons (pv 6) pa_nil)))))))))))))))))))), ?_⟩
    refine ⟨_, rfl, aS, 10, ns, rfl, hS, hl, by decide, by decide, fun pn H1 ms s1 npn hpn ml mr => ?_⟩
    have ml2 : ms.length = 10 := ml
    refine ⟨_, rfl, pn, ms, (), rfl, SqL.of hpn, ml2, fun r qa qb xs ys H2 s2 nr hr hqa hqb nra nrb nab X Y => ?_⟩
    have xl := X.len
    have yl := Y.len
    refine ⟨_, rfl, _, _, _, _, rfl, rfl, SqL.of hr, atI_nat (j := 0) rfl, _, rfl, _, _, _, _, rfl, rfl, SqL.of hr, atI_nat (j := 1) rfl, qa, qb, xs, ys, rfl, SqL.of hqa, SqL.of hqb, by omega, by omega, fun qg H3 gs s3 nqg hqg tg gl => ?_⟩
    refine ⟨fun σ' HC => ∃ (qa qg : Addr) (p0 p1 g : List Int), σ' = [some (.ref aS), some (.ref pn), some (.ref r), some (.ref qg), none, none, none, none, none, none, none, none] ∧ Same H1 HC ∧ HC r = some (.lst [.ref qa, .ref qb]) ∧ HC qa = some (.lst (p0.map V.int)) ∧ HC qb = some (.lst (p1.map V.int)) ∧ HC qg = some (.lst (g.map V.int)) ∧ Dr p0 p1 g, ?_, ?_⟩
    · refine ⟨_, rfl, _, _, rfl, .inl (SqL.of hqg), rfl, _, rfl, iteEq (fun c => ?_) (fun c => ?_)⟩
      · have g0 : gs = [] := List.eq_nil_of_length_eq_zero (by rw [len_map] at c; omega)
        have hr3 := s3 _ _ hr
        have hqb3 := s3 _ _ hqb
        have byy : ∀ m ∈ ys, m.natAbs < 2 ^ 9 := fun m h => by
          obtain ⟨i, hi, e⟩ := List.mem_iff_getElem.mp h
          have := Y.b i
          rw [List.getD_eq_getElem?_getD, List.getElem?_eq_getElem hi] at this
          have e2 : (some ys[i]).getD 0 = m := e
          rw [e2] at this
          omega
        refine ⟨_, rfl, _, _, _, _, rfl, rfl, SqL.of hr3, atI_nat (j := 1) rfl, _, rfl, ⟨_, SqL.of hqb3⟩, fun D nD => lc_list (K := K) (a := qb) (xs := ys.map V.int) (fun i H' => Same H3 H' ∧ H' D = some (.lst (((ys.take i).map (fun x => 2 * x)).map V.int))) ⟨sm_new nD, upd_same⟩ (fun i H' hi hP => hP.1.seq (SqL.of hqb3)) (fun i x H' hi hP => ?_) (fun H4 hP => ?_)⟩
        · obtain ⟨sm, hD⟩ := hP
          obtain ⟨m, hx, rfl⟩ := get_map_int hi
          have il : i < ys.length := (List.getElem?_eq_some_iff.mp hx).1
          have mb := byy m (List.mem_of_getElem? hx)
          refine ⟨rfl, ?_⟩
          unfold tYes
          refine iteK rfl ?_
          refine ⟨_, rfl, _, _, rfl, rfl, mulW (show (2 : Int).natAbs < 2 ^ 9 by decide) mb (by decide), _, hD, by rw [len_map, List.length_map, List.length_take]; exact small1000 (by omega), same_mut sm nD, ?_⟩
          rw [upd_same, List.take_succ, hx, List.map_append, List.map_append]
          rfl
        obtain ⟨s4, hD⟩ := hP
        rw [len_map, List.take_length] at hD
        have hr4 := s4 _ _ hr3
        have Dr_ : D ≠ r := fun z => by rw [z, hr3] at nD; cases nD
        have qbr : qb ≠ r := nrb
        refine ⟨_, rfl, r, _, _, 0, rfl, rfl, hr4, ixN_at (by omega) (show 0 < 2 by decide), ?_⟩
        have s5 : Same H1 (upd H4 r (.lst ([V.ref qa, V.ref qb].set 0 (V.ref D)))) := same_mut ((s2.trans s3).trans s4) nr
        have hb5 : (upd H4 r (.lst ([V.ref qa, V.ref qb].set 0 (V.ref D)))) qb = some (.lst (ys.map V.int)) := by rw [upd_ne qbr]; exact s4 _ _ hqb3
        have hD5 : (upd H4 r (.lst ([V.ref qa, V.ref qb].set 0 (V.ref D)))) D = some (.lst ((ys.map (fun x => 2 * x)).map V.int)) := by rw [upd_ne Dr_]; exact hD
        refine ⟨_, rfl, _, _, _, _, rfl, rfl, SqL.of upd_same, atI_nat (j := 1) rfl, qb, _, rfl, .inl (SqL.of hb5), fun pd npd => ?_⟩
        have s6 := sm_new (o := .lst (ys.map V.int)) npd
        refine ⟨D, pd, ys.map (fun x => 2 * x), ys, ys, rfl, s5.trans s6, s6 _ _ upd_same, s6 _ _ hD5, s6 _ _ hb5, upd_same, ⟨⟨⟨fun _ => rfl, .inr ?_⟩, fun z => Y.ne (List.map_eq_nil_iff.mp z), by rw [List.length_map]; exact yl, fun i => ?_⟩, Y, Y.mono (by decide), fun i => ?_⟩⟩
        · rw [List.length_map, getD_map (f := fun x => 2 * x) rfl ys _]
          have := Y.top
          omega
        · rw [getD_map (f := fun x => 2 * x) rfl ys _]
          have := Y.b i
          omega
        · rw [getD_map (f := fun x => 2 * x) rfl ys _]
          omega
      · refine ⟨qa, qg, xs, ys, gs, rfl, s2.trans s3, s3 _ _ hr, s3 _ _ hqa, s3 _ _ hqb, hqg, ⟨X.mono (by decide), Y, ⟨tg.self, fun z => c (by rw [z]; rfl), by omega, fun i => ?_⟩, fun i => (tg.at_ i).symm⟩⟩
        have := tg.at_ i
        have x1 := X.b i
        have y1 := Y.b i
        omega
    rintro _ HC ⟨qa, qg, p0, p1, g, rfl, sC, hr, hqa, hqb, hqg, D⟩
    have l0 := D.P0.len
    have l1 := D.P1.len
    have lg := D.G.len
    have one : (1 : Int).natAbs < 2 ^ 1 := by decide
    have b0 : Bits 20 p0 := D.P0.bits (by decide)
    have b1 : Bits 20 p1 := D.P1.bits (by decide)
    have bg : Bits 20 g := D.G.bits (by decide)
    refine ⟨_, rfl, _, _, _, _, rfl, rfl, SqL.of hr, atI_nat (j := 0) rfl, _, rfl, qg, g, 1, 20, 1, rfl, SqL.of hqg, bg, one, by omega, by decide, by decide, fun c1 G1 g1 t1 nc1 hc1 a1 n1 => ?_⟩
    have i1 : IsSh 1 g1 g := ⟨a1, n1⟩
    have bg1 := sh_bits8 bg (by omega) i1
    refine ⟨qa, c1, p0, g1, 50, rfl, SqL.of (t1 _ _ hqa), SqL.of hc1, b0.mono (by decide), bg1.mono (by decide), by omega, by omega, by decide, fun c2 G2 u t2 nc2 hc2 m1 n2 => ?_⟩
    have bu := mul_bits3 (k := 80) m1 b0 bg1 (by omega)
    have t12 := t1.trans t2
    refine ⟨_, rfl, _, _, _, _, rfl, rfl, SqL.of (t12 _ _ hr), atI_nat (j := 1) rfl, c2, qb, u, p1, 80, rfl, SqL.of hc2, SqL.of (t12 _ _ hqb), bu, b1.mono (by decide), by omega, by omega, by decide, fun c3 G3 num t3 nc3 hc3 m2 n3 => ?_⟩
    have bnum := mul_bits3 (k := 200) m2 bu b1 (by omega)
    have t13 := t12.trans t3
    refine ⟨_, rfl, _, _, _, _, rfl, rfl, SqL.of (t13 _ _ hr), atI_nat (j := 1) rfl, _, rfl, qb, qg, p1, g, 20, rfl, SqL.of (t13 _ _ hqb), SqL.of (t13 _ _ hqg), b1, bg, by omega, by omega, by decide, fun c4 G4 v t4 nc4 hc4 m3 n4 => ?_⟩
    have bv := mul_bits3 (k := 80) m3 b1 bg (by omega)
    have t14 := t13.trans t4
    refine ⟨_, rfl, _, _, _, _, rfl, rfl, SqL.of (t14 _ _ hr), atI_nat (j := 1) rfl, qb, p1, 1, 20, 1, rfl, SqL.of (t14 _ _ hqb), b1, one, by omega, by decide, by decide, fun c5 G5 w1 t5 nc5 hc5 a5 n5 => ?_⟩
    have i2 : IsSh 1 w1 p1 := ⟨a5, n5⟩
    have bw := sh_bits8 b1 (by omega) i2
    refine ⟨c4, c5, v, w1, 80, rfl, SqL.of (t5 _ _ hc4), SqL.of hc5, bv, bw.mono (by decide), by omega, by omega, by decide, fun c6 G6 den t6 nc6 hc6 m4 n6 => ?_⟩
    have bden := mul_bits3 (k := 200) m4 bv bw (by omega)
    have t36 := t4.trans (t5.trans t6)
    have t16 := t13.trans t36
    refine ⟨_, rfl, c3, num, 1, 1, rfl, .inl (SqL.of (t36 _ _ hc3)), by omega, by decide, by decide, by decide, fun d1 G7 ks e t7 nd1 hd1 q1 => ?_⟩
    refine ⟨_, rfl, c6, den, 1, 1, rfl, .inl (SqL.of (t7 _ _ hc6)), by omega, by decide, by decide, by decide, fun d2 G8 js f t8 nd2 hd2 q2 => ?_⟩
    obtain ⟨jne, ok, made⟩ := rq D i1 i2 m1 m2 m3 m4 q1 q2
    refine ⟨d1, d2, ks, js, e, f, 101, 1830, 125, rfl, hd1.mono t8, hd2, q1.self, q2.self, jne, ok, fun rt G9 as a bs b t9 nrt hrt qt => ?_⟩
    obtain ⟨qn, qc, ane⟩ := made as a bs b qt
    have t19 := t16.trans ((t7.trans t8).trans t9)
    have t39 := t36.trans ((t7.trans t8).trans t9)
    have t69 := (t7.trans t8).trans t9
    obtain ⟨xd, dD⟩ := den_dg D.P1 D.G i2 m3 m4
    have hpnC := sC _ _ hpn
    refine ⟨_, rfl, _, rfl, _, _, _, _, rfl, rfl, SqL.of (t19 _ _ hr), atI_nat (j := 1) rfl, _, rfl, pn, qb, qg, ms, p1, g, rfl, SqL.of (t19 _ _ hpnC), ml2, t19 _ _ hqb, t19 _ _ hqg, D.P1, D.G, fun md e0 e1 m0 w0 GA tA nmd hmd he0 he1 R => ?_⟩
    have Rl0 := R.l0
    have Rl1 := R.l1
    refine ⟨_, rfl, _, _, _, _, rfl, rfl, SqL.of hmd, atI_nat (j := 0) rfl, e0, m0, 1, 1, rfl, .inl (SqL.of he0), by omega, by decide, by decide, by decide, fun d3 GB k3 f3 tB nd3 hd3 q3 => ?_⟩
    refine ⟨_, rfl, _, _, _, _, rfl, rfl, SqL.of (tB _ _ hmd), atI_nat (j := 1) rfl, e1, w0, 1, 1, rfl, .inl (SqL.of (tB _ _ he1)), by omega, by decide, by decide, by decide, fun d4 GC k4 f4 tC nd4 hd4 q4 => ?_⟩
    obtain ⟨jne2, ok2⟩ := yq R q3 q4
    refine ⟨d3, d4, k3, k4, f3, f4, 78, 1500, 86, rfl, hd3.mono tC, hd4, q3.self, q4.self, jne2, ok2, fun yt GD cs c ds d tD nyt hyt qt2 => ?_⟩
    obtain ⟨yn, yc⟩ := yz R q3 q4 qt2
    have tAD := (tA.trans tB).trans (tC.trans tD)
    have tBD := tB.trans (tC.trans tD)
    refine ⟨_, rfl, _, rfl, by show 2 ≤ sizeLine; decide, fun tp ntp => ?_⟩
    have tE := sm_new (o := .tup [V.str "closed", V.ref yt]) ntp
    have tAE := tAD.trans tE
    refine ⟨rt, tp, as, a, bs, b, _, (), rfl, hrt.mono tAE, upd_same, fun z => absurd z ane, fun _ => .inl ⟨yt, cs, c, ds, d, rfl, hyt.mono tE, qc, yc, fun ra GF tF clo => ?_⟩⟩
    refine ⟨_, rfl, _, _, _, _, true, rfl, .ty _, .base (.bl _), kit_ty (by decide +kernel), _, rfl, iteN rfl ?_⟩
    have tAF := tAE.trans tF
    have tBF := (tBD.trans tE).trans tF
    have t1F := t19.trans tAF
    have t3F := t39.trans tAF
    have t6F := t69.trans tAF
    have hmdF := tBF _ _ hmd
    refine ⟨_, rfl, _, rfl, _, rfl, _, rfl, _, _, _, _, rfl, rfl, SqL.of hmdF, atI_nat (j := 0) rfl, _, rfl, _, _, _, _, rfl, rfl, SqL.of hmdF, atI_nat (j := 1) rfl, ?_⟩
    refine ⟨c3, c6, e0, e1, num, den, m0, w0, (), rfl, SqL.of (t3F _ _ hc3), SqL.of (t6F _ _ hc6), SqL.of (tBF _ _ he0), SqL.of (tBF _ _ he1), bnum, bden, bits_of_at fun i => Nat.lt_of_le_of_lt (R.b0 i) (by decide), bits_of_at fun i => Nat.lt_trans (R.b1 i) (by decide), by omega, by omega, by omega, by omega, fun rb GG tG law => ?_⟩
    obtain ⟨zs, iz⟩ := sh_ex 1 cs
    obtain ⟨ws, iw⟩ := sh_ex 1 ds
    obtain ⟨n0, j0⟩ := sh_ex 1 m0
    obtain ⟨n1', j1⟩ := sh_ex 1 w0
    have h1 := (clo zs ws iz iw).trans ((clo_law qn yn dD R iz iw j0 j1).trans (law n0 n1' j0 j1).symm)
    obtain rfl : ra = rb := by cases ra <;> cases rb <;> simp_all
    clear h1 clo law
    refine ⟨rfl, _, rfl, iteN (by simp) ?_⟩
    have t1G := t1F.trans tG
    refine ⟨_, rfl, _, rfl, _, _, _, _, rfl, rfl, SqL.of (t1G _ _ hr), atI_nat (j := 1) rfl, qb, p1, 1, 1, rfl, .inl (SqL.of (t1G _ _ hqb)), by omega, by decide, by decide, by decide, fun d5 GH k5 f5 tH nd5 hd5 q5 => ?_⟩
    refine ⟨_, rfl, qg, g, 1, 1, rfl, .inl (SqL.of (tH _ _ (t1G _ _ hqg))), by omega, by decide, by decide, by decide, fun d6 GI k6 f6 tI nd6 hd6 q6 => ?_⟩
    have R2 := rt_sp D.P1 D.G
    obtain ⟨jne3, ok3⟩ := yq R2 q5 q6
    refine ⟨d5, d6, k5, k6, f5, f6, 78, 1500, 86, rfl, hd5.mono tI, hd6, q5.self, q6.self, jne3, ok3, fun y2 GJ es c' us d' tJ ny2 hy2 qt3 => ?_⟩
    obtain ⟨yn2, yc2⟩ := yz R2 q5 q6 qt3
    refine ⟨by show 2 ≤ sizeLine; decide, fun tp2 ntp2 => ?_⟩
    have tK := sm_new (o := .tup [V.str "closed", V.ref y2]) ntp2
    have tGK := tG.trans ((tH.trans tI).trans (tJ.trans tK))
    refine ⟨rt, tp2, as, a, bs, b, _, (), rfl, hrt.mono (tAF.trans tGK), upd_same, fun z => absurd z ane, fun _ => .inl ⟨y2, es, c', us, d', rfl, hy2.mono tK, qc, yc2, fun rc GL tL clo => ?_⟩⟩
    obtain ⟨zs2, iz2⟩ := sh_ex 1 es
    obtain ⟨ws2, iw2⟩ := sh_ex 1 us
    have dps := D.ps
    obtain rfl : rc = true := (clo zs2 ws2 iz2 iw2).mpr ((clo_law qn yn2 dD R2 iz2 iw2 i2 i1).mpr (by
      rw [pl_mul m2, pl_mul m1, pl_mul m4, pl_mul m3, ← dps]
      grind))
    clear clo
    refine ⟨_, _, rfl, rfl, _, rfl, iteN (by simp) ?_⟩
    have tAL := (tAF.trans tGK).trans tL
    have hytL := hyt.mono (tE.trans (tF.trans (tGK.trans tL)))
    refine ⟨by show 0 ≤ sizeLine; decide, fun pE npE => ?_⟩
    have u1 := sm_new (o := .lst []) npE
    refine ⟨pE, [], 1, 8, rfl, .inl (SqL.of upd_same), by decide, by decide, by decide, fun z => absurd z (by decide), fun _ d7 GM k7 f7 u2 nd7 hd7 q7 => ?_⟩
    refine ⟨by show 1 ≤ sizeLine; decide, fun pF npF => ?_⟩
    have u3 := sm_new (o := .lst [V.int 1]) npF
    refine ⟨pF, [1], 1, 8, rfl, .inl (SqL.of upd_same), by decide, by decide, by decide, fun z => absurd z (by decide), fun _ d8 GN k8 f8 u4 nd8 hd8 q8 => ?_⟩
    have R3 : SpR [] [1] := ⟨by decide, by decide, fun i => Nat.zero_le _, fun i => match i with | 0 => by decide | i + 1 => show (0 : Nat) < 2 ^ 22 by decide, fun i _ => rfl, 0, by decide, ⟨by show (1 : Int) ≠ 0; decide, fun i hi => by rcases i with _ | i <;> first | omega | rfl⟩⟩
    obtain ⟨jne4, ok4⟩ := yq R3 q7 q8
    refine ⟨d7, d8, k7, k8, f7, f8, 78, 1500, 86, rfl, hd7.mono (u3.trans u4), hd8, q7.self, q8.self, jne4, ok4, fun y3 GO gs' c'' vs' d'' u5 ny3 hy3 qt4 => ?_⟩
    obtain ⟨yn3, _⟩ := yz R3 q7 q8 qt4
    obtain ⟨_, _, dz⟩ := R3.d1
    obtain rfl : gs' = [] := yn3.as_zero dz fun _ => rfl
    refine ⟨_, rfl, by show 2 ≤ sizeLine; decide, fun tp3 ntp3 => ?_⟩
    have u6 := sm_new (o := .tup [V.str "closed", V.ref yt]) ntp3
    refine ⟨y3, tp3, [], c'', vs', d'', _, (), rfl, hy3.mono u6, upd_same, fun _ => ?_, fun z => absurd rfl z⟩
    refine ⟨true, T.em_ZeroPolynomial, fun _ ea nea => ?_, fun z => Bool.noConfusion z⟩
    refine ⟨_, rfl, _, rfl, iteK rfl ?_⟩
    exact ⟨_, rfl, rt, as, a, bs, b, (), rfl, hrt.mono (tAL.trans (((u1.trans u2).trans (u3.trans u4)).trans (u5.trans u6))), ane, fun HZ sz => q _⟩
theorem whole (T : Tx K mg) : ∃ fd : FuncData, (∀ (s : Shared) (v : Value), BindsTo s fd ⟨[v], []⟩ [("script", v)]) ∧ ∀ base : Heap, FnOk P w K mg base CX0 11 (He.fAd K ("law", none)) fd ["script"] (spLaw K) := by
  have O__law_numbers : ∀ base, OkF P w K mg base 1 (He.fAd K ("_law_numbers", none)) ["script", "count"] (spNums K) := fun base => ok__law_numbers T
  have O__law_product : ∀ base, OkF P w K mg base 1 (He.fAd K ("_law_product", none)) ["a", "b"] (spLPr K) := fun base => ok__law_product T
  have O__law_trimmed : ∀ base, OkF P w K mg base 1 (He.fAd K ("_law_trimmed", none)) ["coefs"] (spLTr K) := fun base => ok__law_trimmed T
  have O__law_ratio : ∀ base, OkF P w K mg base 2 (He.fAd K ("_law_ratio", none)) ["numbers", "place"] (spLRt K) := fun base => ok__law_ratio T (O__law_product base) (O__law_trimmed base)
  have O__law_minus : ∀ base, OkF P w K mg base 2 (He.fAd K ("_law_minus", none)) ["a", "b"] (spLMi K) := fun base => ok__law_minus T (O__law_trimmed base)
  have O__law_shifted : ∀ base, OkF P w K mg base 2 (He.fAd K ("_law_shifted", none)) ["coefs", "step"] (spLSh K) := fun base => ok__law_shifted T (O__law_product base)
  have O_trimmed : ∀ base, OkF P w K mg base 1 (He.fAd K ("trimmed", none)) ["coefs"] (spTrim K) := fun base => ok_trimmed T
  have O_common_factor : ∀ base, OkF P w K mg base 1 (He.fAd K ("common_factor", none)) ["numbers"] (spCom K) := fun base => ok_common_factor T
  have O_Poly___init__ : ∀ base, OkD P w K mg base 2 (He.fAd K ("Poly", some "__init__")) ["self", "coefs", "den"] (He.Dv.v K (.int 1)) (spPInit K) := fun base => ok_Poly___init__ T (O_trimmed base) (O_common_factor base)
  have O_Poly_is_zero : ∀ base, OkF P w K mg base 1 (gtAd K (He.ga K "Poly") "is_zero") ["self"] (spPZer K) := fun base => ok_Poly_is_zero T
  have O_monic : ∀ base, OkF P w K mg base 4 (He.fAd K ("monic", none)) ["p"] (spMon K) := fun base => ok_monic T (O_Poly_is_zero base) (O_Poly___init__ base)
  have O_primitive : ∀ base, OkF P w K mg base 2 (He.fAd K ("primitive", none)) ["coefs"] (spPrm K) := fun base => ok_primitive T (O_common_factor base)
  have O_remainders : ∀ base, OkF P w K mg base 2 (He.fAd K ("remainders", none)) ["coefs", "modulus"] (spRems K) := fun base => ok_remainders T (O_trimmed base)
  have O_inverse_modulo : ∀ base, OkF P w K mg base 1 (He.fAd K ("inverse_modulo", none)) ["number", "modulus"] (spInv K) := fun base => ok_inverse_modulo T
  have O_divided_modulo : ∀ base, OkF P w K mg base 2 (He.fAd K ("divided_modulo", none)) ["first", "second", "modulus"] (spDMd K) := fun base => ok_divided_modulo T (O_inverse_modulo base) (O_trimmed base)
  have O_divisor_modulo : ∀ base, OkF P w K mg base 3 (He.fAd K ("divisor_modulo", none)) ["first", "second", "prime"] (spDvM K) := fun base => ok_divisor_modulo T (O_remainders base) (O_divided_modulo base)
  have O_coprime_modulo : ∀ base, OkF P w K mg base 4 (He.fAd K ("coprime_modulo", none)) ["first", "second", "prime"] (spCpM K) := fun base => ok_coprime_modulo T (O_divisor_modulo base)
  have O_height : ∀ base, OkF P w K mg base 1 (He.fAd K ("height", none)) ["coefs"] (spHeiB K) := fun base => ok_height T
  have O_evaluated : ∀ base, OkF P w K mg base 1 (He.fAd K ("evaluated", none)) ["coefs", "at"] (spEvaB K) := fun base => ok_evaluated T
  have O__digits : ∀ base, OkF P w K mg base 1 (He.fAd K ("_digits", none)) ["number", "base"] (spDig K) := fun base => ok__digits T
  have O__divide_coefs : ∀ base, OkF P w K mg base 1 (He.fAd K ("_divide_coefs", none)) ["first", "second"] (spDivC K) := fun base => ok__divide_coefs T
  have O_divide : ∀ base, OkF P w K mg base 4 (He.fAd K ("divide", none)) ["p", "q"] (spDivide K) := fun base => ok_divide T (O_Poly_is_zero base) (O__divide_coefs base) (O_Poly___init__ base)
  have O__divides : ∀ base, OkF P w K mg base 5 (He.fAd K ("_divides", none)) ["q", "coefs"] (spDvs K) := fun base => ok__divides T (O_Poly___init__ base) (O_divide base) (O_Poly_is_zero base)
  have O__divisor_by_values : ∀ base, OkF P w K mg base 6 (He.fAd K ("_divisor_by_values", none)) ["first", "second"] (spDBV K) := fun base => ok__divisor_by_values T (O_height base) (O_evaluated base) (O__digits base) (O_primitive base) (O_Poly___init__ base) (O__divides base)
  have O_common_divisor : ∀ base, OkF P w K mg base 7 (He.fAd K ("common_divisor", none)) ["p", "q"] (spCDv K) := fun base => ok_common_divisor T (O_Poly_is_zero base) (O_monic base) (O_primitive base) (O_coprime_modulo base) (O_Poly___init__ base) (O__divisor_by_values base)
  have O_exact : ∀ base, OkF P w K mg base 5 (He.fAd K ("exact", none)) ["p", "q"] (spExact K) := fun base => ok_exact T (O_divide base)
  have O_Fraction___init__ : ∀ base, OkD P w K mg base 1 (He.fAd K ("Fraction", some "__init__")) ["self", "num", "den"] (He.Dv.v K (.int 1)) (spInit K) := fun base => ok_Fraction___init__ T
  have O_Poly_degree : ∀ base, OkF P w K mg base 1 (gtAd K (He.ga K "Poly") "degree") ["self"] (spPDeg K) := fun base => ok_Poly_degree T
  have O_Poly_coefficient : ∀ base, OkF P w K mg base 3 (He.fAd K ("Poly", some "coefficient")) ["self", "index"] (spPCo K) := fun base => ok_Poly_coefficient T (O_Poly_degree base) (O_Fraction___init__ base)
  have O_Poly_lead : ∀ base, OkF P w K mg base 4 (gtAd K (He.ga K "Poly") "lead") ["self"] (spPLe K) := fun base => ok_Poly_lead T (O_Poly_degree base) (O_Poly_coefficient base)
  have O_Fraction_is_zero : ∀ base, OkF P w K mg base 1 (gtAd K (He.ga K "Fraction") "is_zero") ["self"] (spZero K) := fun base => ok_Fraction_is_zero T
  have O__in_lowest_terms : ∀ base, OkF P w K mg base 3 (He.fAd K ("_in_lowest_terms", none)) ["num", "den"] (spLow K) := fun base => ok__in_lowest_terms T (O_Fraction___init__ base)
  have O_Fraction___mul__ : ∀ base, OkF P w K mg base 4 (He.fAd K ("Fraction", some "__mul__")) ["self", "other"] (spMul K) := fun base => ok_Fraction___mul__ T (O__in_lowest_terms base)
  have O_Fraction_over : ∀ base, OkF P w K mg base 5 (He.fAd K ("Fraction", some "over")) ["self", "other"] (spOver K) := fun base => ok_Fraction_over T (O_Fraction_is_zero base) (O_Fraction___init__ base) (O_Fraction___mul__ base)
  have O_Poly_scaled : ∀ base, OkF P w K mg base 4 (He.fAd K ("Poly", some "scaled")) ["self", "factor"] (spPSca K) := fun base => ok_Poly_scaled T (O_Poly___init__ base)
  have O_Quotient___init__ : ∀ base, OkF P w K mg base 9 (He.fAd K ("Quotient", some "__init__")) ["self", "num", "den"] (spQuI K) := fun base => ok_Quotient___init__ T (O_Poly_is_zero base) (O_common_divisor base) (O_exact base) (O_Fraction___init__ base) (O_Poly_lead base) (O_Fraction_over base) (O_Poly_scaled base) (O_monic base)
  have O__law_spoilt : ∀ base, OkF P w K mg base 3 (He.fAd K ("_law_spoilt", none)) ["numbers", "above", "below"] (spLSpo K) := fun base => ok__law_spoilt T (O__law_minus base) (O__law_shifted base) (O__law_product base)
  have O_Quotient_is_zero : ∀ base, OkF P w K mg base 3 (gtAd K (He.ga K "Quotient") "is_zero") ["self"] (spQuZ K) := fun base => ok_Quotient_is_zero T (O_Poly_is_zero base)
  have O_shifted_coefs : ∀ base, OkF P w K mg base 1 (He.fAd K ("shifted_coefs", none)) ["coefs", "step"] (spShc K) := fun base => ok_shifted_coefs T
  have O_Poly_shifted : ∀ base, OkF P w K mg base 4 (He.fAd K ("Poly", some "shifted")) ["self", "step"] (spPShi K) := fun base => ok_Poly_shifted T (O_shifted_coefs base) (O_Poly___init__ base)
  have O__plain_product : ∀ base, OkF P w K mg base 1 (He.fAd K ("_plain_product", none)) ["first", "second"] (spPlain K) := fun base => ok__plain_product T
  have O_multiplied : ∀ base, OkF P w K mg base 2 (He.fAd K ("multiplied", none)) ["first", "second"] (spMult K) := fun base => ok_multiplied T (O__plain_product base)
  have O_Poly___mul__ : ∀ base, OkF P w K mg base 4 (He.fAd K ("Poly", some "__mul__")) ["self", "other"] (spPMul K) := fun base => ok_Poly___mul__ T (O_multiplied base) (O_Poly___init__ base)
  have O_Poly___neg__ : ∀ base, OkF P w K mg base 4 (He.fAd K ("Poly", some "__neg__")) ["self"] (spPNeg K) := fun base => ok_Poly___neg__ T (O_Poly___init__ base)
  have O__coefs_over : ∀ base, OkF P w K mg base 1 (He.fAd K ("_coefs_over", none)) ["p", "den"] (spOvr K) := fun base => ok__coefs_over T
  have O_added : ∀ base, OkF P w K mg base 1 (He.fAd K ("added", none)) ["first", "second"] (spAdded K) := fun base => ok_added T
  have O_Poly___add__ : ∀ base, OkF P w K mg base 4 (He.fAd K ("Poly", some "__add__")) ["self", "other"] (spPAdd K) := fun base => ok_Poly___add__ T (O__coefs_over base) (O_added base) (O_Poly___init__ base)
  have O_Poly___sub__ : ∀ base, OkF P w K mg base 5 (He.fAd K ("Poly", some "__sub__")) ["self", "other"] (spPSub K) := fun base => ok_Poly___sub__ T (O_Poly___neg__ base) (O_Poly___add__ base)
  have O_Poly___eq__ : ∀ base, OkF P w K mg base 1 (He.fAd K ("Poly", some "__eq__")) ["self", "other"] (spPEq K) := fun base => ok_Poly___eq__ T
  have O__is_closed_form : ∀ base, OkF P w K mg base 6 (He.fAd K ("_is_closed_form", none)) ["ratio", "y"] (spClo K) := fun base => ok__is_closed_form T (O_Poly_shifted base) (O_Poly___mul__ base) (O_Poly___sub__ base) (O_Poly___eq__ base)
  have O_accepts_running : ∀ base, OkF P w K mg base 7 (He.fAd K ("accepts_running", none)) ["ratio", "certificate"] (spAcc K) := fun base => ok_accepts_running T (O_Quotient_is_zero base) (O__is_closed_form base)
  have O__law_is_closed : ∀ base, OkF P w K mg base 3 (He.fAd K ("_law_is_closed", none)) ["num", "den", "above", "below"] (spLIC K) := fun base => ok__law_is_closed T (O__law_shifted base) (O__law_product base) (O__law_minus base)
  have O_Operator___init__ : ∀ base, OkF P w K mg base 3 (He.fAd K ("Operator", some "__init__")) ["self", "coefs"] (spOpI K) := fun base => ok_Operator___init__ T (O_Poly_is_zero base)
  have O_Poly2___init__ : ∀ base, OkF P w K mg base 3 (He.fAd K ("Poly2", some "__init__")) ["self", "rows"] (spP2I K) := fun base => ok_Poly2___init__ T (O_Poly_is_zero base)
  have O__law_refuses_others : ∀ base, OkF P w K mg base 8 (He.fAd K ("_law_refuses_others", none)) ["ratio"] (spLRO K) := fun base => ok__law_refuses_others T (O_accepts_running base) (O_Operator___init__ base) (O_Poly___init__ base) (O_Poly2___init__ base)
  exact ok_law T O__law_numbers O__law_ratio O__law_minus O__law_shifted O__law_product O_Poly___init__ O_Quotient___init__ O__law_spoilt O_accepts_running O__law_is_closed O__law_refuses_others
end
theorem tx_of {K : PySem.W.Frag} {h : Heap} {mg : Str → Option Value} (X : K.In h) (G : h.Ns mainGlobals mg) (c : SaysG faL fnL exL K) : Tx K mg :=
  ⟨He.cls_ok (c.fact 0),
   He.cls_ok (c.fact 1),
   He.cls_ok (c.fact 2),
   He.cls_ok (c.fact 3),
   He.cls_ok (c.fact 4),
   c.dn DN_Fraction___init__,
   c.dn DN_Fraction___mul__,
   c.dn DN_Fraction_is_zero,
   c.dn DN_Fraction_over,
   c.dn DN_Operator___init__,
   c.dn DN_Poly2___init__,
   c.dn DN_Poly___add__,
   c.dn DN_Poly___eq__,
   c.dn DN_Poly___init__,
   c.dn DN_Poly___mul__,
   c.dn DN_Poly___neg__,
   c.dn DN_Poly___sub__,
   c.dn DN_Poly_coefficient,
   c.dn DN_Poly_degree,
   c.dn DN_Poly_is_zero,
   c.dn DN_Poly_lead,
   c.dn DN_Poly_scaled,
   c.dn DN_Poly_shifted,
   c.dn DN_Quotient___init__,
   c.dn DN_Quotient_is_zero,
   c.dn DN__coefs_over,
   c.dn DN__digits,
   c.dn DN__divide_coefs,
   c.dn DN__divides,
   c.dn DN__divisor_by_values,
   c.dn DN__in_lowest_terms,
   c.dn DN__is_closed_form,
   c.dn DN__law_is_closed,
   c.dn DN__law_minus,
   c.dn DN__law_numbers,
   c.dn DN__law_product,
   c.dn DN__law_ratio,
   c.dn DN__law_refuses_others,
   c.dn DN__law_shifted,
   c.dn DN__law_spoilt,
   c.dn DN__law_trimmed,
   c.dn DN__plain_product,
   c.dn DN_accepts_running,
   c.dn DN_added,
   c.dn DN_common_divisor,
   c.dn DN_common_factor,
   c.dn DN_coprime_modulo,
   c.dn DN_divide,
   c.dn DN_divided_modulo,
   c.dn DN_divisor_modulo,
   c.dn DN_evaluated,
   c.dn DN_exact,
   c.dn DN_height,
   c.dn DN_inverse_modulo,
   c.dn DN_law,
   c.dn DN_monic,
   c.dn DN_multiplied,
   c.dn DN_primitive,
   c.dn DN_remainders,
   c.dn DN_shifted_coefs,
   c.dn DN_trimmed,
   of_decide_eq_true (c.more 0),
   (He.meth_ok (c.fact 5)).fn,
   (He.meth_ok (c.fact 6)).fn,
   (He.meth_ok (c.fact 7)).fn,
   (He.meth_ok (c.fact 8)).fn,
   (He.meth_ok (c.fact 9)).fn,
   (He.meth_ok (c.fact 10)).fn,
   c.more 1,
   c.more 2,
   He.glo_ok X G (c.fact 11),
   He.glo_ok X G (c.fact 12),
   He.glo_ok X G (c.fact 13),
   He.int_ok X G (c.fact 14),
   He.glo_ok X G (c.fact 15),
   He.glo_ok X G (c.fact 16),
   He.glo_ok X G (c.fact 17),
   He.int_ok X G (c.fact 18),
   He.glo_ok X G (c.fact 19),
   He.glo_ok X G (c.fact 20),
   He.glo_ok X G (c.fact 21),
   He.glo_ok X G (c.fact 22),
   He.glo_ok X G (c.fact 23),
   He.glo_ok X G (c.fact 24),
   He.glo_ok X G (c.fact 25),
   He.glo_ok X G (c.fact 26),
   He.glo_ok X G (c.fact 27),
   He.glo_ok X G (c.fact 28),
   He.glo_ok X G (c.fact 29),
   He.glo_ok X G (c.fact 30),
   He.glo_ok X G (c.fact 31),
   He.glo_ok X G (c.fact 32),
   He.glo_ok X G (c.fact 33),
   He.glo_ok X G (c.fact 34),
   He.glo_ok X G (c.fact 35),
   He.glo_ok X G (c.fact 36),
   He.glo_ok X G (c.fact 37),
   He.glo_ok X G (c.fact 38),
   He.glo_ok X G (c.fact 39),
   He.glo_ok X G (c.fact 40),
   He.glo_ok X G (c.fact 41),
   He.glo_ok X G (c.fact 42),
   He.glo_ok X G (c.fact 43),
   He.glo_ok X G (c.fact 44),
   He.glo_ok X G (c.fact 45),
   He.glo_ok X G (c.fact 46),
   PySem.W.mg_of X G (He.eqO_ok (c.more 3)),
   He.glo_ok X G (c.fact 47),
   He.glo_ok X G (c.fact 48),
   He.glo_ok X G (c.fact 49),
   PySem.W.mg_of X G (He.eqO_ok (c.more 4)),
   He.glo_ok X G (c.fact 50),
   He.glo_ok X G (c.fact 51),
   He.glo_ok X G (c.fact 52),
   He.glo_ok X G (c.fact 53),
   He.glo_ok X G (c.fact 54),
   He.glo_ok X G (c.fact 55),
   PySem.W.mg_of X G (He.eqO_ok (c.more 5)),
   (He.exc_ok (c.fact 56)).2.1,
   (He.exc_ok (c.fact 57)).2.1,
   He.meth_ok (c.fact 58),
   He.meth_ok (c.fact 59),
   He.meth_ok (c.fact 60),
   He.meth_ok (c.fact 61),
   He.mkr_ok (c.fact 62),
   He.mkr_ok (c.fact 63),
   He.mkr_ok (c.fact 64),
   He.mkr_ok (c.fact 65),
   He.mkr_ok (c.fact 66),
   He.noat_ok (c.fact 67),
   He.noat_ok (c.fact 68),
   He.noat_ok (c.fact 69),
   He.noat_ok (c.fact 70),
   He.noat_ok (c.fact 71),
   He.noat_ok (c.fact 72),
   He.noat_ok (c.fact 73),
   He.noat_ok (c.fact 74),
   c.more 6,
   propB_ok (c.more 7),
   propB_ok (c.more 8),
   propB_ok (c.more 9),
   propB_ok (c.more 10),
   propB_ok (c.more 11),
   @fun X e => by subst e; exact raises_own (He.exc_ok (c.fact 56)).2.2.1 (He.exc_ok (c.fact 56)).2.2.2,
   @fun X e => by subst e; exact raises_own (He.exc_ok (c.fact 57)).2.2.1 (He.exc_ok (c.fact 57)).2.2.2,
   (He.meth_ok (c.fact 5)).at_,
   (He.meth_ok (c.fact 6)).at_,
   (He.meth_ok (c.fact 7)).at_,
   (He.meth_ok (c.fact 8)).at_,
   (He.meth_ok (c.fact 9)).at_,
   (He.meth_ok (c.fact 10)).at_,
   @fun H a dx fs e => .base (.ins e (He.cls_ok (c.fact 2)) (He.eqO_ok (c.more 12)) (He.eqO_ok (c.more 13)) (of_decide_eq_true (c.more 14)) (of_decide_eq_true (c.more 15))),
   (He.exc_ok (c.fact 56)).1,
   (He.exc_ok (c.fact 57)).1,
   He.free_ok X G (c.fact 75),
   He.free_ok X G (c.fact 76),
   He.free_ok X G (c.fact 77),
   He.free_ok X G (c.fact 78),
   He.free_ok X G (c.fact 79),
   He.free_ok X G (c.fact 80),
   He.free_ok X G (c.fact 81),
   He.free_ok X G (c.fact 82),
   He.free_ok X G (c.fact 83),
   He.free_ok X G (c.fact 84),
   He.free_ok X G (c.fact 85)⟩
end CB
open PySem PySem.W PyProof.Rows
set_option maxHeartbeats 0 in
theorem PySem.Challenge.cw_certsums_k69_closed_accepted_holds : PySem.Challenge.rw_certsums_k69_closed_accepted.Holds := by
  refine CB.head0 ?_
  refine L2.walk_ofE (l := PySem.Challenge.rw_certsums_k69_closed_accepted) (n := 63) (k := 11) (x := "script") (CX := L2.CX0) rfl (by decide) (by kernel_rfl) ⟨rfl, by decide, by decide⟩ ?F (fun _ _ _ _ z => z)
  intro w mg fa h Y G hmg0
  obtain ⟨K, KX, c⟩ := Y
  have hmg : mg ("law" : PySem.Str) = some (.ref fa) := by
    have e : (HandSHeadRun.topDef CB.R.prog 96).name = ("law" : PySem.Str) := by kernel_rfl
    rw [← e]
    exact hmg0
  have T : CB.Tx K mg := CB.tx_of KX G c
  obtain ⟨fd, hb, hF⟩ := CB.whole (P := (PySem.Challenge.rw_certsums_k69_closed_accepted).prog) (w := w) T
  cases (T.g_law.symm.trans hmg)
  exact ⟨K, fd, CB.spLaw K, KX, hb, fun H a ns hl _ hS => ⟨a, ns, rfl, hS, hl, fun _ => rfl⟩, fun base _ _ => hF base⟩
