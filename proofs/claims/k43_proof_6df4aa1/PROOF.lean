import PyProof.Rows.All
import Wide.All
import OpenK.AllK
import Wide.FinOn
import KE.KStateDown
import KE.KMathGC
import KE.KOpsOwn
import Lean
import HandS.ForMost
import HandS.Exc
import HandS.ExcOwn
import HandS.ExcIs
import HandS.TryOnly
import HandS.WordsExc
import HandS.Defaults
import HandS.IsInst
import HandS.Wide
import HandS.WideBits
import HandS.Gcd
import HandS.Property
import HandS.OwnEq
import HandS.Flow
import HandS.Evl
import HandS.Head0
import HandS.Head1
import HandS.Head2
import HandS.Head3
import HandS.HeadEnd
import HandS.HeadHook1
import HandS.HeadHook2
import HandS.HeadHook3
import HandS.HeadHook4
import HandS.Iter
import HandS.TupAny
import HandS.List
import HandS.SortKw
import KE.DatumOrd
import HandS.Rev
import HandS.ClsMeth
import HandS.HeadNt
import KE.GoesEnumKw
import HandS.Deep
import HandS.Steps
import HandS.MakeKwOnly
import HandS.OwnEq
import HandS.Style
import PyProof.NeKinds
import HandS.SortInts
import HandS.ExcInit
import HandS.ExcField
import HandS.ExcIs
import KE.KExcSuper
import KE.KExcIs
import HandS.HotCalls
import HandS.ExcInitHot
import PySem.Challenge.RW_certsums_k43_closed_value
set_option Elab.async false
set_option linter.all false
set_option maxRecDepth 100000
set_option maxHeartbeats 4000000
namespace CB
open PySem PySem.Spec PyProof.Rows L2

/-! ### readings made simpler -/
/-! ### a value is never NotImplemented -/
theorem back_of {P : Value → Shared → Prop} {z : V} {v : Value} {s' : Shared} (r : RelV z v) (h : P v s') : PySem.W.CmpBack P v s' := by
  cases z with
  | non => cases r; exact h
  | bl _ => cases r; exact h
  | int _ => obtain ⟨t, rfl⟩ := r; exact h
  | str _ => obtain ⟨t, rfl⟩ := r; exact h
  | byt _ => obtain ⟨t, rfl⟩ := r; exact h
  | flt _ => obtain ⟨t, rfl⟩ := r; exact h
  | ref _ => cases r; exact h
  | ty _ => cases r; exact h

section
variable {X : Cx} {CX : CXT} {k : Nat} {f C : Addr} {fd : FuncData} {ps : List Str} {sp : Sp} {E : XK}

/-- x op y by the class's own method, both of the class -/
def rOwn2 (C : Addr) (sp : Sp) (E : XK) : R2 := fun x y H Q => ∃ a b dx dy fs gs, x = .ref a ∧ y = .ref b ∧ H a = some (.ins C dx fs) ∧ H b = some (.ins C dy gs) ∧ sp [.ref a, .ref b] H Q E
theorem op_own2 {op : Operator} (hc : PySem.W.selfFirst X.K C = true) (hs : PySem.W.findIn X.K (.ref C) (PySem.dunder op.info.2) = some (some (.ref f))) (hf : PySem.W.isFn X.K (.ref f) = true)
    (F : FnOk X.prog X.w X.K X.mg X.base CX k f fd ps sp) (hr : Room k X.A) (hb : Binds X.K fd ps []) (hx : Passes CX X E) : OpR X (binaryOp op) (rOwn2 C sp E) := by
  intro pins s σ H x y v u Q I rx ry h
  obtain ⟨a, b, dx, dy, fs, gs, rfl, rfl, ha, hb', hq⟩ := h
  cases rx
  cases ry
  obtain ⟨mA, J, _⟩ := ins_get I.hok ha
  obtain ⟨mB, J', _⟩ := ins_get I.hok hb'
  obtain ⟨od, J, _⟩ := J.look
  obtain ⟨od', J', _⟩ := J'.look
  obtain ⟨m, hF⟩ := I.fr
  refine PySem.W.binop_K hF I.ok.mod.kin J J'.type hc hs hf ?_
  refine thn (run_fn (us := [.ref a, .ref b]) (vs := [.ref a, .ref b]) F hr hb .nil hx I (.cons rfl (.cons rfl .nil)) hq) fun w s' h => ?_
  obtain ⟨z, H', I', r, q⟩ := h
  exact back_of r ⟨z, H', I', r, q⟩
/-- - x by the class's own method -/
def rOwn1 (C : Addr) (sp : Sp) (E : XK) : V → Hp → VK → Prop := fun x H Q => ∃ a dx fs, x = .ref a ∧ H a = some (.ins C dx fs) ∧ sp [.ref a] H Q E
theorem un_ownNeg (hs : PySem.W.findIn X.K (.ref C) "__neg__" = some (some (.ref f))) (hf : PySem.W.isFn X.K (.ref f) = true)
    (F : FnOk X.prog X.w X.K X.mg X.base CX k f fd ps sp) (hr : Room k X.A) (hb : Binds X.K fd ps []) (hx : Passes CX X E) : UnR X (unaryOp .USub) (rOwn1 C sp E) := by
  intro pins s σ H x v Q I rx h
  obtain ⟨a, dx, fs, rfl, ha, hq⟩ := h
  cases rx
  obtain ⟨mA, J, _⟩ := ins_get I.hok ha
  obtain ⟨od, J, _⟩ := J.look
  obtain ⟨m, hF⟩ := I.fr
  refine PySem.W.ksp_neg hF I.ok.mod.kin J hs hf ?_
  exact run_fn (us := [.ref a]) (vs := [.ref a]) F hr hb .nil hx I (.cons rfl .nil) hq
/-- the other side of an own ==: what it may be -/
inductive EqTy (K : PySem.W.Frag) (C : Addr) (H : Hp) : V → Prop where
  | int {i : Int} (h : PySem.W.notFirst K C (.type "int") = true) : EqTy K C H (.int i)
  | str {x : Str} (h : PySem.W.notFirst K C (.type "str") = true) : EqTy K C H (.str x)
  | tup {a : Addr} {xs : List V} (e : H a = some (.tup xs)) (h : PySem.W.notFirst K C (.type "tuple") = true) : EqTy K C H (.ref a)
  | lst {a : Addr} {xs : List V} (e : H a = some (.lst xs)) (h : PySem.W.notFirst K C (.type "list") = true) : EqTy K C H (.ref a)
  | own {a dy C' : Addr} {gs : List (Str × V)} (e : H a = some (.ins C' dy gs)) (h : PySem.W.notFirst K C (.ref C') = true) : EqTy K C H (.ref a)
theorem EqTy.look {pins : List (Addr × Obj)} {σ : L2.St} {H : Hp} {s : Shared} {y : V} {u : Value} (I : Inv X pins σ H s) (t : EqTy X.K C H y) (ry : RelV y u) :
    ∃ tb, PySem.W.Looks (model X.prog X.w) s.heap (typeOf u) tb ∧ PySem.W.notFirst X.K C tb = true := by
  cases t with
  | int h => obtain ⟨t, rfl⟩ := ry; exact ⟨_, PySem.W.Looks.of_pure rfl, h⟩
  | str h => obtain ⟨t, rfl⟩ := ry; exact ⟨_, PySem.W.Looks.of_pure rfl, h⟩
  | @tup a xs e h =>
    cases ry
    obtain ⟨_, its, r, o, e1, e2, _⟩ := (show ObjOk X.prog X.w H s.heap a (.tup xs) from I.hok a _ e)
    exact ⟨.type "tuple", fun A Q E s' k q => wpAny_typeOf_ref (k _ _ e1) (by rw [e2]; exact q), h⟩
  | @lst a xs e h =>
    cases ry
    obtain ⟨_, _, n, _, e1⟩ := (show ObjOk X.prog X.w H s.heap a (.lst xs) from I.hok a _ e)
    exact ⟨.type "list", fun A Q E s' k q => wpAny_typeOf_ref (k _ _ e1) q, h⟩
  | @own a dy C' gs e h =>
    cases ry
    obtain ⟨mB, J', _⟩ := ins_get I.hok e
    obtain ⟨od', J', _⟩ := J'.look
    exact ⟨_, J'.type, h⟩
def rOwnEq (K : PySem.W.Frag) (C : Addr) (sp : Sp) (E : XK) : R2 := fun x y H Q => ∃ a dx fs, x = .ref a ∧ H a = some (.ins C dx fs) ∧ EqTy K C H y ∧ sp [.ref a, y] H Q E
end

/-! ### whole numbers -/
/-- // by a divisor of any sign below 2 ^ 9000 -/
def CDivZ (_ j : Int) : Prop := j ≠ 0 ∧ j.natAbs.log2 < 9000
section
variable {X : Cx}
theorem op_fdivZ : OpR X (binaryOp .FloorDiv) (rI CDivZ fun i j => .int (i.fdiv j)) := opI fun i j _ _ _ _ _ hc q =>
  floordiv_int hc.1 q (.inl (PyProof.noPylong_of_log2 hc.2))
end

/-! ### small words -/
theorem iteK {c : Bool} {A B : Prop} (h : c = true) (a : A) : if c = true then A else B := by rw [h]; exact iteT a
theorem iteN {c : Bool} {A B : Prop} (h : c = false) (b : B) : if c = true then A else B := by rw [h]; exact iteF b
theorem iteB {c : Bool} {A B : Prop} (h1 : c = true → A) (h2 : c = false → B) : if c = true then A else B := by
  cases c with
  | true => exact iteT (h1 rfl)
  | false => exact iteF (h2 rfl)
theorem iteD {p : Prop} [Decidable p] {A B : Prop} (h1 : p → A) (h2 : ¬ p → B) : if decide p = true then A else B := by
  by_cases h : p
  · rw [decide_eq_true h]; exact iteT (h1 h)
  · rw [decide_eq_false h]; exact iteF (h2 h)
theorem iteDN {p : Prop} [Decidable p] {A B : Prop} (h1 : ¬ p → A) (h2 : p → B) : if (!decide p) = true then A else B := by
  by_cases h : p
  · rw [decide_eq_true h]; exact iteF (h2 h)
  · rw [decide_eq_false h]; exact iteT (h1 h)
theorem iteEq {i j : Int} {A B : Prop} (h1 : i = j → A) (h2 : i ≠ j → B) : if decide (V.int i = V.int j) = true then A else B :=
  iteD (fun h => h1 (V.int.inj h)) fun h => h2 fun e => h (by rw [e])
theorem iteEqN {i j : Int} {A B : Prop} (h1 : i ≠ j → A) (h2 : i = j → B) : if (!decide (V.int i = V.int j)) = true then A else B :=
  iteDN (fun h => h1 fun e => h (by rw [e])) fun h => h2 (V.int.inj h)
/-- both ways go on alike: the second way shown first -/
theorem iteShare {c : Bool} {A B : Prop} (hb : B) (ha : c = true → B → A) : if c = true then A else B := by
  cases c with
  | true => exact iteT (ha rfl hb)
  | false => exact iteF hb
theorem unF {A B : Prop} (h : if false = true then A else B) : B := by
  rw [if_neg Bool.false_ne_true] at h
  exact h
theorem veq {i j : Int} (h : i = j) : decide (V.int i = V.int j) = true := decide_eq_true (by rw [h])
theorem vne {i j : Int} (h : i ≠ j) : decide (V.int i = V.int j) = false := decide_eq_false fun e => h (V.int.inj e)
theorem sm_tup {K : PySem.W.Frag} {H H' : Hp} {a : Addr} {xs : List V} (sm : Same H H') (h : SqT K H a xs) : SqT K H' a xs := by
  rcases h with (h | ⟨o, h⟩) | h
  · exact .inl (.inl (sm _ _ h))
  · exact .inl (.inr ⟨o, sm _ _ h⟩)
  · exact .inr h
theorem kit_same {K : PySem.W.Frag} (t : Value) : PySem.W.kitOne K t t = some true := by
  unfold PySem.W.kitOne
  rw [if_pos (by simp)]
theorem sm_new {H : Hp} {p : Addr} {o : HO} (h : H p = none) : Same H (upd H p o) := fun b x e => by
  rw [upd_ne (ne_of_none e h)]
  exact e
/-- x = e, e a whole number: behind it the number has a name -/
def tAsgI (te : TE) (i : Nat) : TS := fun D σ H => te σ H fun v H1 => ∃ m : Int, v = .int m ∧ ∀ n : Int, n = m → D.nx (σ.set i (some (.int n))) H1
theorem ps_setI {X : Cx} {i : Nat} {x : Str} {e : Expr} {te : TE} {pos pos' : Pos} (hN : X.N.Nodup) (hi : X.N[i]? = some x) (hx : Loc X.env.scope x) (he : PE X e te) (hs : swapsWith e (some (.Name x pos')) pos.line X.env = pure false := by rfl)
    (hf : X.fn x = true ∨ X.env.scope.names.lookup x = some .local := by first | exact .inl rfl | exact .inr rfl | assumption) : PS X (.Assign [.Name x pos'] e pos) (tAsgI te i) := by
  refine ⟨fun pins s σ H D I h => ?_⟩
  refine wpAny_Assign_Name (thn (he.run pins s σ H _ I h) fun v s1 h1 => ?_) hs
  obtain ⟨y, H1, I1, r1, m, rfl, q1⟩ := h1
  exact store_ok I1 hN hi hx r1 (fun s2 I2 => ⟨_, H1, I2, q1 m rfl⟩) hf

/-! ### defs by where they stand -/
abbrev FnW : Type := He.FnW
/-- one def of the text: where it stands (an address by the written part), its row's parts, its defaults -/
structure DefG where
  at_ : PySem.W.Frag → Addr
  name : Str
  qual : Str
  params : Arguments
  body : List Stmt
  scope : Scope
  dfl : List He.Dv := []
def fnG (K : PySem.W.Frag) (a : Addr) : FnW := match K.lookup a with
  | some ⟨_, _, .func fd, _⟩ => some (fd.name, fd.qualname, fd.params, fd.body, fd.scope, fd.globals, fd.closure, fd.builtins)
  | _ => none
def DefG.val (d : DefG) : FnW := some (d.name, d.qual, d.params, .stmts d.body, d.scope, mainGlobals, [], builtinsNs)
def DefG.dvs (K : PySem.W.Frag) (d : DefG) : List V := d.dfl.map (He.Dv.v K)
def DefG.ok (K : PySem.W.Frag) (d : DefG) : Bool := PySem.W.keepIn K (.ref (d.at_ K)) && (match K.lookup (d.at_ K) with
  | some ⟨_, _, .func fd, _⟩ => PySem.W.codeIn K fd.code d.qual && He.dflB K fd.defaults (d.dvs K)
  | _ => false)
/-- a def of the text, by its datum -/
def Dn (K : PySem.W.Frag) (d : DefG) : Prop := ∃ fd, FunD K d.name d.qual d.params d.body d.scope (d.dvs K) [] (d.at_ K) fd
theorem DefG.funD {K : PySem.W.Frag} {d : DefG} (e : fnG K (d.at_ K) = d.val) (c : d.ok K = true) : Dn K d := by
  obtain ⟨kp, c2⟩ := He.ba c
  unfold fnG at e
  cases q : K.lookup (d.at_ K) with
  | none =>
    rw [q] at c2
    cases c2
  | some o =>
    obtain ⟨oc, od, dt, osl⟩ := o
    rw [q] at c2 e
    cases dt with
    | func fd =>
      obtain ⟨n1, n2, n3, n4, n5, n6, n7, n8, n9, n10, n11, n12, n13, n14, n15⟩ := fd
      have e2 : (some (n1, n2, n3, n4, n5, n6, n7, n15) : FnW) = some (d.name, d.qual, d.params, .stmts d.body, d.scope, mainGlobals, [], builtinsNs) := e
      simp only [Option.some.injEq, Prod.mk.injEq] at e2
      obtain ⟨h1, h2, h3, h4, h5, h6, h7, h8⟩ := e2
      subst h1 h2 h3 h4 h5 h6 h7 h8
      have c3 : (PySem.W.codeIn K n13 d.qual && He.dflB K n8 (d.dvs K)) = true := c2
      obtain ⟨k1, k2⟩ := He.ba c3
      exact ⟨_, ⟨oc, od, n8, n9, n10, n11, n12, n13, n14, osl, rfl, q, k1, He.dflB_ok k2, .inl rfl⟩, kp⟩
    | _ => cases c2

/-! ### the shape of a def's promise: what a caller needs of the def at a -/
/-- the def at a is known by its promise (level k, parameters ps) -/
def OkF (P : Program) (w : World) (K : PySem.W.Frag) (mg : Str → Option Value) (base : Heap) (k : Nat) (a : Addr) (ps : List Str) (sp : Sp) : Prop :=
  ∃ fd : FuncData, FnOk P w K mg base (L2.CX P w) k a fd ps sp ∧ Binds K fd ps [] ∧ PySem.W.keepIn K (.ref a) = true
theorem okF_of {P : Program} {w : World} {K : PySem.W.Frag} {mg : Str → Option Value} {base : Heap} {k : Nat} {d : DefG} {N ps : List Str} {sp : Sp} (D : Dn K d) (hd : d.dfl = []) (S : FnScope N ps d.scope)
    (hb : ∀ (kV doc pm : Value) (an : Option Addr) (cdv ct : Value) (us : List Value), us.length = ps.length → bindArgs (PySem.W.fnOf d.name d.qual d.params d.body d.scope .none kV doc pm an cdv ct) ⟨us, []⟩ = pure (ps.zip us))
    (len : ∀ vs H Q E, sp vs H Q E → vs.length = ps.length)
    (hbody : ∀ (cdv : Value) (A : Around) (outer : List Env) (s : Shared) (H : Hp) (vs : List V) (Q : VK) (E : XK), Room k (A.deeper (envOfC d.qual d.scope s.heap.objs.size (d.at_ K) cdv)) → sp vs H Q E →
      ∃ t, PSs (cxOf (L2.CX P w) P w K mg base N d.qual d.scope (d.at_ K) cdv A outer s H E) d.body t ∧ t { nx := fun _ H' => Q .non H', rt := Q } (start N vs) H) :
    OkF P w K mg base (k + 1) (d.at_ K) ps sp := by
  obtain ⟨fd, F⟩ := D
  have e1 : d.dvs K = [] := by unfold DefG.dvs; rw [hd]; rfl
  rw [e1] at F
  exact ⟨fd, F.ok S len hbody, F.bindsN hb, F.kp⟩
/-- the same of a def with one default, of which all values or all but the last are written -/
def OkD (P : Program) (w : World) (K : PySem.W.Frag) (mg : Str → Option Value) (base : Heap) (k : Nat) (a : Addr) (ps : List Str) (dv : V) (sp : Sp) : Prop :=
  ∃ fd : FuncData, FnOk P w K mg base (L2.CX P w) k a fd ps sp ∧ Binds K fd ps [] ∧ (∃ ds, Vals [dv] ds ∧ Binds K fd ps ds) ∧ PySem.W.keepIn K (.ref a) = true
theorem okD_of {P : Program} {w : World} {K : PySem.W.Frag} {mg : Str → Option Value} {base : Heap} {k : Nat} {d : DefG} {N ps : List Str} {sp : Sp} {dv : He.Dv} (D : Dn K d) (hd : d.dfl = [dv]) (S : FnScope N ps d.scope)
    (hb0 : ∀ (T : Addr) (kV doc pm : Value) (an : Option Addr) (cdv ct : Value) (us its : List Value), us.length = ps.length → its.length = 1 →
      ∃ k, bindArgs (PySem.W.fnOf d.name d.qual d.params d.body d.scope (.ref T) kV doc pm an cdv ct) ⟨us, []⟩ = seqItems? (.ref T) >>= k ∧ k (some its.toArray) = pure (ps.zip (us ++ its.drop 1)))
    (hb1 : ∀ (T : Addr) (kV doc pm : Value) (an : Option Addr) (cdv ct : Value) (us its : List Value), us.length = ps.length - 1 → its.length = 1 →
      ∃ k, bindArgs (PySem.W.fnOf d.name d.qual d.params d.body d.scope (.ref T) kV doc pm an cdv ct) ⟨us, []⟩ = seqItems? (.ref T) >>= k ∧ k (some its.toArray) = pure (ps.zip (us ++ its.drop 0)))
    (hp : 0 < ps.length) (len : ∀ vs H Q E, sp vs H Q E → vs.length = ps.length)
    (hbody : ∀ (cdv : Value) (A : Around) (outer : List Env) (s : Shared) (H : Hp) (vs : List V) (Q : VK) (E : XK), Room k (A.deeper (envOfC d.qual d.scope s.heap.objs.size (d.at_ K) cdv)) → sp vs H Q E →
      ∃ t, PSs (cxOf (L2.CX P w) P w K mg base N d.qual d.scope (d.at_ K) cdv A outer s H E) d.body t ∧ t { nx := fun _ H' => Q .non H', rt := Q } (start N vs) H) :
    OkD P w K mg base (k + 1) (d.at_ K) ps (dv.v K) sp := by
  obtain ⟨fd, F⟩ := D
  have e1 : d.dvs K = [dv.v K] := by unfold DefG.dvs; rw [hd]; rfl
  rw [e1] at F
  obtain ⟨ds0, v0, b0⟩ := FunD.binds1 (ps := ps) F ps.length 1 (by simp) (by simp) fun T kV doc pm an cdv ct us its h1 h2 => hb0 T kV doc pm an cdv ct us its h1 (by simpa using h2)
  obtain ⟨ds1, v1, b1⟩ := FunD.binds1 (ps := ps) F (ps.length - 1) 0 (by simp) (by simp; omega) fun T kV doc pm an cdv ct us its h1 h2 => hb1 T kV doc pm an cdv ct us its h1 (by simpa using h2)
  have z : ds0 = [] := by
    have := v0.length
    simp at this
    exact List.eq_nil_of_length_eq_zero this.symm
  subst z
  exact ⟨fd, F.ok S len hbody, b0, ⟨ds1, v1, b1⟩, F.kp⟩

/-- the law's own def: no exception leaves it -/
theorem okLaw_of {P : Program} {w : World} {K : PySem.W.Frag} {mg : Str → Option Value} {k : Nat} {d : DefG} {N : List Str} {sp : Sp} (D : Dn K d) (hd : d.dfl = []) (S : FnScope N ["script"] d.scope)
    (hb : ∀ (kV doc pm : Value) (an : Option Addr) (cdv ct : Value) (us : List Value), us.length = 1 → bindArgs (PySem.W.fnOf d.name d.qual d.params d.body d.scope .none kV doc pm an cdv ct) ⟨us, []⟩ = pure ((["script"] : List Str).zip us))
    (len : ∀ vs H Q E, sp vs H Q E → vs.length = 1)
    (hbody : ∀ (base : Heap) (cdv : Value) (A : Around) (outer : List Env) (s : Shared) (H : Hp) (vs : List V) (Q : VK) (E : XK), Room k (A.deeper (envOfC d.qual d.scope s.heap.objs.size (d.at_ K) cdv)) → sp vs H Q E →
      ∃ t, PSs (cxOf CX0 P w K mg base N d.qual d.scope (d.at_ K) cdv A outer s H E) d.body t ∧ t { nx := fun _ H' => Q .non H', rt := Q } (start N vs) H) :
    ∃ fd : FuncData, (∀ (s : Shared) (v : Value), BindsTo s fd ⟨[v], []⟩ [("script", v)]) ∧ ∀ base : Heap, FnOk P w K mg base CX0 (k + 1) (d.at_ K) fd ["script"] sp := by
  obtain ⟨fd, F⟩ := D
  have e1 : d.dvs K = [] := by unfold DefG.dvs; rw [hd]; rfl
  rw [e1] at F
  exact ⟨fd, fun s v => FunD.bindsA (ps := ["script"]) F hb s [v] rfl, fun base => F.ok S len (hbody base)⟩
/-- what a law promises: True, of every script -/
def spLaw (K : PySem.W.Frag) : Sp := fun vs H Q _ => ∃ (a : Addr) (ns : List Int), vs = [.ref a] ∧ SqL K H a (ns.map V.int) ∧ ns.length ≤ 63 ∧ ∀ H', Q (.bl true) H'

/-! ### the head's facts by a Hook of our own: defs at any address -/
/-- the getter of a property of a class -/
def prAd (K : PySem.W.Frag) (C : Addr) (x : Str) : Addr := match PySem.W.findIn K (.ref C) x with
  | some (some (.ref p)) => p
  | _ => 0
def gtAd (K : PySem.W.Frag) (C : Addr) (x : Str) : Addr := match PySem.W.recIn K (prAd K C x) "property" with
  | some (.ref g :: _) => g
  | _ => 0
def propB (K : PySem.W.Frag) (C : Addr) (x : Str) : Bool :=
  He.eqO (PySem.W.findIn K (.ref C) x) (some (some (.ref (prAd K C x)))) && (He.eqO (PySem.W.specialIn K (.ref (prAd K C x)) "__get__") (some (some (.builtin "property.__get__"))) && (decide (PySem.W.takesIn K (.ref (prAd K C x)) = some true) &&
    (match PySem.W.recIn K (prAd K C x) "property" with
      | some (.ref _ :: _) => true
      | _ => false)))
theorem propB_ok {K : PySem.W.Frag} {C : Addr} {x : Str} (h : propB K C x = true) : PropOf K C x (prAd K C x) (gtAd K C x) := by
  obtain ⟨h1, h⟩ := He.ba h
  obtain ⟨h2, h⟩ := He.ba h
  obtain ⟨h3, h4⟩ := He.ba h
  refine ⟨He.eqO_ok h1, He.eqO_ok h2, of_decide_eq_true h3, ?_⟩
  unfold gtAd
  cases q : PySem.W.recIn K (prAd K C x) "property" with
  | none => rw [q] at h4; cases h4
  | some l =>
    rw [q] at h4
    cases l with
    | nil => cases h4
    | cons v r =>
      cases v with
      | ref g => exact ⟨r, rfl⟩
      | _ => cases h4
abbrev AlG : Type := Bool × List FnW
def obsG (fa : List He.Fa) (fn : List DefG) (ex : PySem.W.Frag → List Bool) (K : PySem.W.Frag) : AlG := ((fa.all fun f => f.ok K) && ((fn.all fun d => d.ok K) && (ex K).all id), fn.map fun d => fnG K (d.at_ K))
def valG (fn : List DefG) : AlG := (true, fn.map DefG.val)
def SaysG (fa : List He.Fa) (fn : List DefG) (ex : PySem.W.Frag → List Bool) (K : PySem.W.Frag) : Prop := obsG fa fn ex K = valG fn
def obsGG (n : Nat) (fa : List He.Fa) (fn : List DefG) (ex : PySem.W.Frag → List Bool) (g : Addr → Option Obj) : AlG := obsG fa fn ex (He.frG g (He.asD g n ++ [PySem.cStatics]))
def hookG (n : Nat) (fa : List He.Fa) (fn : List DefG) (ex : PySem.W.Frag → List Bool) : PySem.W.Hook where
  α := AlG
  obs := fun s => obsGG n fa fn ex s.heap.get?
  val := fun _ => valG fn
  says := fun _ h => ∃ K : PySem.W.Frag, K.In h ∧ SaysG fa fn ex K
  of := fun _ _ e => ⟨_, He.frG_in, e⟩
  keeps := fun _ _ _ ⟨K, hK, c⟩ k => ⟨K, PySem.W.Frag.In.keeps hK k, c⟩
section
variable {fa : List He.Fa} {fn : List DefG} {ex : PySem.W.Frag → List Bool} {K : PySem.W.Frag}
theorem SaysG.fact (c : SaysG fa fn ex K) (i : Nat) {f : He.Fa} (h : fa[i]? = some f := by rfl) : f.ok K = true := by
  have c1 := (He.ba (show ((fa.all fun f => f.ok K) && ((fn.all fun d => d.ok K) && (ex K).all id)) = true from congrArg (fun z : AlG => z.1) c)).1
  exact List.all_eq_true.mp c1 f (List.mem_of_getElem? h)
theorem SaysG.more (c : SaysG fa fn ex K) (i : Nat) {b : Bool} (h : (ex K)[i]? = some b := by rfl) : b = true := by
  have c1 := (He.ba (He.ba (show ((fa.all fun f => f.ok K) && ((fn.all fun d => d.ok K) && (ex K).all id)) = true from congrArg (fun z : AlG => z.1) c)).2).2
  exact List.all_eq_true.mp c1 b (List.mem_of_getElem? h)
theorem SaysG.dn (c : SaysG fa fn ex K) (i : Nat) {d : DefG} (h : fn[i]? = some d := by rfl) : Dn K d := by
  have c2 := (He.ba (He.ba (show ((fa.all fun f => f.ok K) && ((fn.all fun d => d.ok K) && (ex K).all id)) = true from congrArg (fun z : AlG => z.1) c)).2).1
  have e : fn.map (fun d => fnG K (d.at_ K)) = fn.map DefG.val := congrArg (fun z : AlG => z.2) c
  have e2 : (fn.map fun d => fnG K (d.at_ K))[i]? = (fn.map DefG.val)[i]? := by rw [e]
  rw [List.getElem?_map, List.getElem?_map, h] at e2
  exact DefG.funD (Option.some.inj e2) (List.all_eq_true.mp c2 d (List.mem_of_getElem? h))
end

/-! ### sizes -/
theorem abs_lt_mul {i j : Int} {a b : Nat} (ha : i.natAbs < 2 ^ a) (hb : j.natAbs < 2 ^ b) : (i * j).natAbs < 2 ^ (a + b) := wide_lt ha hb
theorem abs_lt_add {i j : Int} {a : Nat} (ha : i.natAbs < 2 ^ a) (hb : j.natAbs < 2 ^ a) : (i + j).natAbs < 2 ^ (a + 1) := by
  have := Int.natAbs_add_le i j
  rw [Nat.pow_succ]; omega
theorem abs_mono {i : Int} {a b : Nat} (h : i.natAbs < 2 ^ a) (hab : a ≤ b) : i.natAbs < 2 ^ b := Nat.lt_of_lt_of_le h (Nat.pow_le_pow_right (by decide) hab)
theorem sz_add {i j : Int} {a b : Nat} (ha : i.natAbs < 2 ^ a) (hb : j.natAbs < 2 ^ b) : (i + j).natAbs < 2 ^ (max a b + 1) :=
  abs_lt_add (abs_mono ha (Nat.le_max_left _ _)) (abs_mono hb (Nat.le_max_right _ _))
theorem sz_neg {i : Int} {a : Nat} (ha : i.natAbs < 2 ^ a) : (-i).natAbs < 2 ^ a := by rw [Int.natAbs_neg]; exact ha
theorem sz_sub {i j : Int} {a b : Nat} (ha : i.natAbs < 2 ^ a) (hb : j.natAbs < 2 ^ b) : (i - j).natAbs < 2 ^ (max a b + 1) := by
  rw [Int.sub_eq_add_neg]; exact sz_add ha (sz_neg hb)
theorem mulW {i j : Int} {a b : Nat} (ha : i.natAbs < 2 ^ a) (hb : j.natAbs < 2 ^ b) (h : a + b + 2 ≤ 1000000) : CMulW i j := wide_mul (a := a + 1) (b := b + 1) (abs_mono ha (by omega)) (abs_mono hb (by omega)) (by omega) (by omega) (by omega)
theorem divW {i j : Int} {b : Nat} (h : 0 < j) (hb : j.natAbs < 2 ^ b) (h9 : b ≤ 8000) : CDivW i j := wide_div (b := b + 1) h (abs_mono hb (by omega)) (by omega) (by omega)
theorem divZ {i j : Int} {b : Nat} (h : j ≠ 0) (hb : j.natAbs < 2 ^ b) (h9 : b ≤ 8000) : CDivZ i j := ⟨h, Nat.lt_of_lt_of_le (PySem.Flt.log2_lt_of (k := b + 1) (by omega) (abs_mono hb (by omega))) (by omega)⟩

/-! ### a new instance, its __init__'s promise taken in another form -/
section
variable {X : Cx} {CX : CXT} {k : Nat} {f C : Addr} {fd : FuncData} {ps : List Str} {sp : Sp} {dvs : List V} {ds : List Value} {E : XK} {x : Str} {p pos : Pos} {e : Expr} {es : List Expr} {t : TA} {B : List V → Hp → VK → Prop}
def tMk (B : List V → Hp → VK → Prop) (t : TA) : TE := fun σ H Q => t σ H fun vs H1 => B vs H1 Q
theorem pe_makeI (M : Mk X.K C f) (F : FnOk X.prog X.w X.K X.mg X.base CX k f fd ps sp) (hr : Room (k + 1) X.A) (hg : Gl X x) (hm : X.mg x = some (.ref C)) (hb : Binds X.K fd ps ds) (hd : Vals dvs ds) (hx : Passes CX X E)
    (conv : ∀ vs H1 Q, B vs H1 Q → ∀ x dx, H1 x = none → H1 dx = none → dx ≠ x → sp (.ref x :: (vs ++ dvs)) (upd (upd H1 dx (.own x)) x (.ins C dx [])) (fun v H2 => v = .non ∧ Q (.ref x) H2) E)
    (ha : PA X (e :: es) t) (hdb : (x == ("__debug__" : Str)) = false := by decide) (he : starEach (e :: es) X.env = (false, eval e X.env) :: starEach es X.env := by rfl) (hpl : (backTo pos (starEach es X.env)).any (·.1) = false := by rfl) :
    PE X (.Call (.Name x p) (e :: es) [] pos) (tMk B t) := by
  refine ⟨fun pins s σ H Q I h => ?_⟩
  refine wpAny_Call_Name_kw (ld_glob I hg hm ?_ hdb)
  refine PySem.W.callWith_K (h₀ := X.base) I.ok.mod.kin M.kp (thn (ha.run pos pins s σ H _ I h) fun us s1 hh => ?_) he hpl
  obtain ⟨vs, H1, I1, r, q⟩ := hh
  exact ⟨I1.kIn, run_make M F hr hb hd hx I1 r (conv vs H1 Q q)⟩
def tMkS (B : L2.St → List V → Hp → VK → Prop) (t : TA) : TE := fun σ H Q => t σ H fun vs H1 => B σ vs H1 Q
end
/-- what a new instance's heap keeps -/
theorem same_made {H : Hp} {p dp C : Addr} {o : HO} (np : H p = none) (nd : H dp = none) (h : dp ≠ p) : Same H (upd (upd (upd H dp (.own p)) p (.ins C dp [])) p o) := fun b x e => by
  rw [upd_ne (ne_of_none e np), upd_ne (ne_of_none e np), upd_ne (ne_of_none e nd)]
  exact e
/-! ### caught errors -/
def excCB (K : PySem.W.Frag) (D : Addr) : Bool :=
  He.eqO (PySem.W.findIn K (.ref D) "__getattribute__") (some (some (.builtin "BaseException.__getattribute__"))) && (He.eqO (PySem.W.findIn K (.ref D) "__getattr__") (some none) && (decide (PySem.W.subIn K (.ref D) (.type "BaseException") = some true) &&
    (PySem.W.hasDictIn K D && (He.eqO (PySem.W.findIn K (.ref D) "__class__") (some (some (.builtin "object.__class__"))) && (He.eqO (PySem.W.specialIn K (.builtin "object.__class__") "__get__") (some (some (.builtin "getset_descriptor.__get__"))) &&
      (decide (PySem.W.takesIn K (.builtin "object.__class__") = some true) && decide (PySem.W.mroIn K D (.type "object") = some true)))))))
/-! ### o.m(e, ..) in a try's body: what is wished of an exception knows the slots -/
def tMethE (C : Addr) (m : Str) (sp : Sp) (E : L2.St → XK) (ta : TE) (t : TA) : TE := fun σ H Q => ta σ H fun x H1 => ∃ a dx fs, x = .ref a ∧ H1 a = some (.ins C dx fs) ∧ fs.lookup m = none ∧
  t σ H1 fun vs H2 => sp (x :: vs) H2 Q (E σ)
section
variable {X : Cx} {CX : CXT} {k : Nat} {f C : Addr} {fd : FuncData} {ps : List Str} {sp : Sp} {x m : Str} {p pos apos : Pos} {e o : Expr} {es : List Expr} {ta : TE} {t : TA} {E : L2.St → XK}
end
theorem get_map {ns : List Int} {i : Nat} (h : i < ns.length) : ∃ x, ns[i]? = some x ∧ (ns.map V.int)[i]? = some (.int x) :=
  ⟨ns[i], List.getElem?_eq_getElem h, by rw [List.getElem?_map, List.getElem?_eq_getElem h]; rfl⟩
theorem len_map {ns : List Int} : (ns.map V.int).length = ns.length := List.length_map ..
theorem map_at {ns : List Int} {i : Nat} {x : Int} (h : ns[i]? = some x) : (ns.map V.int)[i]? = some (.int x) := by rw [List.getElem?_map, h]; rfl
theorem cut_lo {xs : List V} {m : Nat} (h : m ≤ xs.length) : cutV xs none (some (m : Int)) = xs.take m := by
  have e : HT.sIx xs.length xs.length (some (m : Int)) = m := by rw [HT.sIx_nat]; omega
  simp [cutV, e, HT.sIx_none]
theorem cut_hi {xs : List V} {m : Nat} (h : m ≤ xs.length) : cutV xs (some (m : Int)) none = xs.drop m := by
  have e : HT.sIx xs.length 0 (some (m : Int)) = m := by rw [HT.sIx_nat]; omega
  simp only [cutV, e, HT.sIx_none]
  exact List.take_of_length_le (by simp)
/-- within a comprehension: the written part said -/
theorem pe_fldK {X : Cx} {K : PySem.W.Frag} {o : Expr} {ta : TE} {f : Str} {pos : Pos} (hK : X.K = K) (h : PE X (.Attribute o f pos) (tFld X.K ta f)) : PE X (.Attribute o f pos) (tFld K ta f) := by
  subst hK
  exact h
end CB

namespace CB
/-- a / b is n / d in lowest terms, with a positive denominator -/
structure Fq (n d a b : Int) : Prop where
  eq : a * d = n * b
  pos : 0 < b
  cop : Nat.gcd a.natAbs b.natAbs = 1

theorem dvd_of_cop {a b c : Int} (h : b ∣ a * c) (g : Nat.gcd a.natAbs b.natAbs = 1) : b ∣ c := by
  have h1 : b.natAbs ∣ a.natAbs * c.natAbs := by rw [← Int.natAbs_mul]; exact Int.natAbs_dvd_natAbs.mpr h
  have h2 : Nat.Coprime b.natAbs a.natAbs := by rw [Nat.coprime_iff_gcd_eq_one, Nat.gcd_comm]; exact g
  exact Int.natAbs_dvd_natAbs.mp (h2.dvd_of_dvd_mul_left h1)
theorem Fq.den_dvd {n d a b : Int} (f : Fq n d a b) : b ∣ d := dvd_of_cop ⟨n, by have := f.eq; grind⟩ f.cop
theorem Fq.num_dvd {n d a b : Int} (f : Fq n d a b) : a ∣ n := by
  have h : a ∣ b * n := ⟨d, by have := f.eq; grind⟩
  exact dvd_of_cop h (by rw [Nat.gcd_comm]; exact f.cop)
theorem natAbs_le_of_dvd {a b : Int} (h : a ∣ b) (hb : b ≠ 0) : a.natAbs ≤ b.natAbs := Nat.le_of_dvd (by omega) (Int.natAbs_dvd_natAbs.mpr h)
theorem Fq.den_le {n d a b : Int} (f : Fq n d a b) (hd : d ≠ 0) : b.natAbs ≤ d.natAbs := natAbs_le_of_dvd f.den_dvd hd
theorem Fq.num_le {n d a b : Int} (f : Fq n d a b) (hd : d ≠ 0) : a.natAbs ≤ n.natAbs := by
  by_cases hn : n = 0
  · have e := f.eq
    rw [hn, Int.zero_mul] at e
    rcases Int.mul_eq_zero.mp e with e | e
    · rw [e]; exact Nat.zero_le _
    · exact absurd e hd
  · exact natAbs_le_of_dvd f.num_dvd hn
theorem Fq.uniq {n d a b a' b' : Int} (f : Fq n d a b) (f' : Fq n d a' b') (hd : d ≠ 0) : a = a' ∧ b = b' := by
  have h1 := f.eq
  have h2 := f'.eq
  have e : a * b' = a' * b := by
    have : (a * b') * d = (a' * b) * d := by grind
    exact Int.eq_of_mul_eq_mul_right hd this
  have p := f.pos
  have p' := f'.pos
  have d1 : b ∣ b' := dvd_of_cop (a := a) ⟨a', by grind⟩ f.cop
  have d2 : b' ∣ b := dvd_of_cop (a := a') ⟨a, by grind⟩ f'.cop
  have e2 : b = b' := by
    have x1 := natAbs_le_of_dvd d1 (by omega)
    have x2 := natAbs_le_of_dvd d2 (by omega)
    omega
  subst e2
  exact ⟨Int.eq_of_mul_eq_mul_right (by omega) e, rfl⟩
/-- the same number by another pair -/
theorem Fq.conv {n d a b n' d' : Int} (f : Fq n d a b) (hd : d ≠ 0) (h : n * d' = n' * d) : Fq n' d' a b := by
  refine ⟨?_, f.pos, f.cop⟩
  have e := f.eq
  have : (a * d') * d = (n' * b) * d := by grind
  exact Int.eq_of_mul_eq_mul_right hd this
theorem Fq.self {a b : Int} (p : 0 < b) (c : Nat.gcd a.natAbs b.natAbs = 1) : Fq a b a b := ⟨rfl, p, c⟩
/-- what __init__ stores -/
theorem fq_init {n d c : Int} (hd : d ≠ 0) (hc : c = if d < 0 then -((Nat.gcd n.natAbs d.natAbs : Nat) : Int) else ((Nat.gcd n.natAbs d.natAbs : Nat) : Int)) : c ≠ 0 ∧ c.natAbs ≤ d.natAbs ∧ Fq n d (n.fdiv c) (d.fdiv c) := by
  have gp : 0 < Nat.gcd n.natAbs d.natAbs := Nat.gcd_pos_of_pos_right _ (by omega)
  have g1 : c.natAbs = Nat.gcd n.natAbs d.natAbs := by rw [hc]; split <;> omega
  have c0 : c ≠ 0 := by omega
  have cn : c ∣ n := Int.natAbs_dvd_natAbs.mp (by rw [g1]; exact Nat.gcd_dvd_left _ _)
  have cd : c ∣ d := Int.natAbs_dvd_natAbs.mp (by rw [g1]; exact Nat.gcd_dvd_right _ _)
  obtain ⟨n', hn⟩ := cn
  obtain ⟨d', hd'⟩ := cd
  have e1 : n.fdiv c = n' := by rw [hn, Int.mul_fdiv_cancel_left _ c0]
  have e2 : d.fdiv c = d' := by rw [hd', Int.mul_fdiv_cancel_left _ c0]
  refine ⟨c0, natAbs_le_of_dvd ⟨d', hd'⟩ hd, ?_⟩
  rw [e1, e2]
  refine ⟨by grind, ?_, ?_⟩
  · refine Decidable.byContradiction fun hn => ?_
    have hn : d' ≤ 0 := by omega
    by_cases h : d < 0
    · have hc' : c < 0 := by rw [hc, if_pos h]; omega
      have z := Int.mul_nonneg (show 0 ≤ -c by omega) (show 0 ≤ -d' by omega)
      rw [Int.neg_mul_neg] at z
      omega
    · have hc' : 0 < c := by rw [hc, if_neg h]; omega
      have z := Int.mul_nonneg (show 0 ≤ c by omega) (show 0 ≤ -d' by omega)
      rw [Int.mul_neg] at z
      omega
  · have z := Nat.gcd_mul_left c.natAbs n'.natAbs d'.natAbs
    rw [← Int.natAbs_mul, ← Int.natAbs_mul, ← hn, ← hd', ← g1] at z
    have : 0 < c.natAbs := by omega
    exact Nat.eq_of_mul_eq_mul_left this (by omega)

abbrev Cop (a b : Int) : Prop := Nat.gcd a.natAbs b.natAbs = 1
theorem Cop.dvd {a b d : Int} (h : Cop a b) (h1 : d ∣ a) (h2 : d ∣ b) : d ∣ 1 := by
  have z := Nat.dvd_gcd (Int.natAbs_dvd_natAbs.mpr h1) (Int.natAbs_dvd_natAbs.mpr h2)
  have z2 : d.natAbs ∣ (1 : Int).natAbs := by rw [h] at z; exact z
  exact Int.natAbs_dvd_natAbs.mp z2
theorem cop_of {a b : Int} (h : ∀ d : Int, d ∣ a → d ∣ b → d ∣ 1) : Cop a b := by
  have z := h ((Nat.gcd a.natAbs b.natAbs : Nat) : Int) (Int.natAbs_dvd_natAbs.mp (by rw [Int.natAbs_natCast]; exact Nat.gcd_dvd_left _ _)) (Int.natAbs_dvd_natAbs.mp (by rw [Int.natAbs_natCast]; exact Nat.gcd_dvd_right _ _))
  have z2 := Int.natAbs_dvd_natAbs.mpr z
  rw [Int.natAbs_natCast] at z2
  exact Nat.eq_one_of_dvd_one z2
theorem Cop.symm {a b : Int} (h : Cop a b) : Cop b a := by unfold Cop; rw [Nat.gcd_comm]; exact h
theorem Cop.left {a a' b : Int} (h : Cop a b) (d : a' ∣ a) : Cop a' b := cop_of fun x h1 h2 => h.dvd (Int.dvd_trans h1 d) h2
theorem Cop.right {a b b' : Int} (h : Cop a b) (d : b' ∣ b) : Cop a b' := cop_of fun x h1 h2 => h.dvd h1 (Int.dvd_trans h2 d)
theorem Cop.mul {a b c : Int} (h1 : Cop a b) (h2 : Cop a c) : Cop a (b * c) := cop_of fun x k1 k2 => by
  have k3 : x ∣ c := dvd_of_cop (a := b) k2 (cop_of fun y y1 y2 => h1.dvd (Int.dvd_trans y2 k1) y1)
  exact h2.dvd k1 k3
theorem Cop.mull {a b c : Int} (h1 : Cop a c) (h2 : Cop b c) : Cop (a * b) c := (h1.symm.mul h2.symm).symm
theorem cop_one {a : Int} : Cop a 1 := cop_of fun _ _ h => h
/-- two numbers by their greatest common divisor -/
theorem gcd_parts {n d : Int} (h : n ≠ 0 ∨ d ≠ 0) : ∃ (g x y : Int), g = ((Nat.gcd n.natAbs d.natAbs : Nat) : Int) ∧ 0 < g ∧ n = g * x ∧ d = g * y ∧ Cop x y ∧ n / g = x ∧ d / g = y := by
  have gp : 0 < Nat.gcd n.natAbs d.natAbs := by
    rcases h with h | h
    · exact Nat.gcd_pos_of_pos_left _ (by omega)
    · exact Nat.gcd_pos_of_pos_right _ (by omega)
  obtain ⟨x, hx⟩ : ((Nat.gcd n.natAbs d.natAbs : Nat) : Int) ∣ n := Int.natAbs_dvd_natAbs.mp (by rw [Int.natAbs_natCast]; exact Nat.gcd_dvd_left _ _)
  obtain ⟨y, hy⟩ : ((Nat.gcd n.natAbs d.natAbs : Nat) : Int) ∣ d := Int.natAbs_dvd_natAbs.mp (by rw [Int.natAbs_natCast]; exact Nat.gcd_dvd_right _ _)
  generalize hg : ((Nat.gcd n.natAbs d.natAbs : Nat) : Int) = g at hx hy
  have g0 : 0 < g := by omega
  refine ⟨g, x, y, rfl, g0, hx, hy, ?_, ?_, ?_⟩
  · have z := Nat.gcd_mul_left g.natAbs x.natAbs y.natAbs
    rw [← Int.natAbs_mul, ← Int.natAbs_mul, ← hx, ← hy] at z
    have g1 : g.natAbs = Nat.gcd n.natAbs d.natAbs := by rw [← hg, Int.natAbs_natCast]
    rw [← g1] at z
    have : 0 < g.natAbs := by omega
    exact Nat.eq_of_mul_eq_mul_left this (by omega)
  · rw [hx, Int.mul_ediv_cancel_left _ (by omega)]
  · rw [hy, Int.mul_ediv_cancel_left _ (by omega)]
/-- the sum as the program reckons it -/
theorem fq_add {a1 b1 a2 b2 g sc num sh : Int} (p1 : 0 < b1) (p2 : 0 < b2) (c1 : Cop a1 b1) (c2 : Cop a2 b2) (hg : g = ((Nat.gcd b1.natAbs b2.natAbs : Nat) : Int)) (hs : sc = b2 / g) (hn : num = a1 * sc + a2 * (b1 / g))
    (hh : sh = ((Nat.gcd num.natAbs g.natAbs : Nat) : Int)) : 0 < g ∧ 0 < sh ∧ Fq (a1 * b2 + a2 * b1) (b1 * b2) (num / sh) (b1 / sh * sc) := by
  obtain ⟨g', x, y, e1, g0, ex, ey, cxy, dx, dy⟩ := gcd_parts (n := b1) (d := b2) (.inl (by omega))
  rw [← hg] at e1
  subst e1
  rw [dx] at hn
  rw [dy] at hs
  subst hs
  obtain ⟨s', m, t, e2, s0, em, et, cmt, dm, dt⟩ := gcd_parts (n := num) (d := g') (.inr (by omega))
  rw [← hh] at e2
  subst e2
  have ebs : b1 / s' = t * x := by
    have e : b1 = s' * (t * x) := by rw [ex, et]; grind
    rw [e, Int.mul_ediv_cancel_left _ (by omega)]
  refine ⟨g0, s0, ?_⟩
  rw [dm, ebs]
  have x0 : 0 < x := Decidable.byContradiction fun h => by
    have z := Int.mul_nonneg (show 0 ≤ g' by omega) (show 0 ≤ -x by omega)
    rw [Int.mul_neg] at z
    omega
  have y0 : 0 < sc := Decidable.byContradiction fun h => by
    have z := Int.mul_nonneg (show 0 ≤ g' by omega) (show 0 ≤ -sc by omega)
    rw [Int.mul_neg] at z
    omega
  have t0 : 0 < t := Decidable.byContradiction fun h => by
    have z := Int.mul_nonneg (show 0 ≤ s' by omega) (show 0 ≤ -t by omega)
    rw [Int.mul_neg] at z
    omega
  refine ⟨by grind, Int.mul_pos (Int.mul_pos t0 x0) y0, ?_⟩
  have nx : Cop num x := cop_of fun d k1 k2 => by
    have k3 : d ∣ a1 * sc := by
      have : a1 * sc = num - a2 * x := by rw [hn]; omega
      rw [this]
      exact Int.dvd_sub k1 (Int.dvd_mul_of_dvd_right k2)
    have k4 : d ∣ sc := dvd_of_cop (a := a1) k3 ((c1.right ⟨g', by rw [ex]; grind⟩ : Cop a1 x).right k2)
    exact cxy.dvd k2 k4
  have ny : Cop num sc := cop_of fun d k1 k2 => by
    have k3 : d ∣ a2 * x := by
      have : a2 * x = num - a1 * sc := by rw [hn]; omega
      rw [this]
      exact Int.dvd_sub k1 (Int.dvd_mul_of_dvd_right k2)
    have k4 : d ∣ x := dvd_of_cop (a := a2) k3 ((c2.right ⟨g', by rw [ey]; grind⟩ : Cop a2 sc).right k2)
    exact cxy.dvd k4 k2
  have md : m ∣ num := ⟨s', by rw [em]; grind⟩
  exact (cmt.mul (nx.left md)).mul (ny.left md)
/-- the product as the program reckons it -/
theorem fq_mul {a1 b1 a2 b2 l r : Int} (p1 : 0 < b1) (p2 : 0 < b2) (c1 : Cop a1 b1) (c2 : Cop a2 b2) (hl : l = ((Nat.gcd a1.natAbs b2.natAbs : Nat) : Int)) (hr : r = ((Nat.gcd a2.natAbs b1.natAbs : Nat) : Int)) :
    0 < l ∧ 0 < r ∧ Fq (a1 * a2) (b1 * b2) (a1 / l * (a2 / r)) (b1 / r * (b2 / l)) := by
  obtain ⟨l', x, y, e1, l0, ex, ey, cxy, dx, dy⟩ := gcd_parts (n := a1) (d := b2) (.inr (by omega))
  rw [← hl] at e1
  subst e1
  obtain ⟨r', z, w, e2, r0, ez, ew, czw, dz, dw⟩ := gcd_parts (n := a2) (d := b1) (.inr (by omega))
  rw [← hr] at e2
  subst e2
  rw [dx, dy, dz, dw]
  have y0 : 0 < y := Decidable.byContradiction fun h => by
    have q := Int.mul_nonneg (show 0 ≤ l' by omega) (show 0 ≤ -y by omega)
    rw [Int.mul_neg] at q
    omega
  have w0 : 0 < w := Decidable.byContradiction fun h => by
    have q := Int.mul_nonneg (show 0 ≤ r' by omega) (show 0 ≤ -w by omega)
    rw [Int.mul_neg] at q
    omega
  refine ⟨l0, r0, by grind, Int.mul_pos w0 y0, ?_⟩
  have xw : Cop x w := (c1.left ⟨l', by rw [ex]; grind⟩).right ⟨r', by rw [ew]; grind⟩
  have zy : Cop z y := (c2.left ⟨r', by rw [ez]; grind⟩).right ⟨l', by rw [ey]; grind⟩
  exact (xw.mull czw).mul (cxy.mull zy)
theorem fq_neg {a b : Int} (p : 0 < b) (c : Cop a b) : Fq (-a) b (-a) b := ⟨rfl, p, by unfold Cop at c; rw [Int.natAbs_neg]; exact c⟩
/-- two pairs in lowest terms of the same number -/
theorem Fq.same {n d a b n' d' a' b' : Int} (f : Fq n d a b) (f' : Fq n' d' a' b') (hd : d ≠ 0) (hd' : d' ≠ 0) (h : n * d' = n' * d) : a = a' ∧ b = b' :=
  (f.conv hd h).uniq f' hd'
theorem Fq.back {n d a b n' d' a' b' : Int} (f : Fq n d a b) (f' : Fq n' d' a' b') (h : a = a' ∧ b = b') : n * d' = n' * d := by
  obtain ⟨rfl, rfl⟩ := h
  have e1 := f.eq
  have e2 := f'.eq
  have p := f.pos
  have : (n * d') * b = (n' * d) * b := by grind
  exact Int.eq_of_mul_eq_mul_right (by omega) this
theorem Fq.zero_iff {n d a b : Int} (f : Fq n d a b) (hd : d ≠ 0) : a = 0 ↔ n = 0 := by
  have e := f.eq
  have p := f.pos
  constructor
  · rintro rfl
    rw [Int.zero_mul] at e
    rcases Int.mul_eq_zero.mp e.symm with z | z
    · exact z
    · omega
  · rintro rfl
    rw [Int.zero_mul] at e
    rcases Int.mul_eq_zero.mp e with z | z
    · exact z
    · exact absurd z hd
theorem pos_of_mul {a b : Int} (h : 0 < a * b) (hb : 0 < b) : 0 < a := Decidable.byContradiction fun c => by
  have z := Int.mul_nonneg (show 0 ≤ -a by omega) (show 0 ≤ b by omega)
  rw [Int.neg_mul] at z
  omega
theorem nonneg_of_mul {a b : Int} (h : 0 ≤ a * b) (hb : 0 < b) : 0 ≤ a := Decidable.byContradiction fun c => by
  have z := Int.mul_pos (show 0 < -a by omega) hb
  rw [Int.neg_mul] at z
  omega
/-- the floor, by the pair that was given -/
theorem Fq.low {n d a b : Int} (f : Fq n d a b) (hd : 0 < d) : a / b * d ≤ n ∧ n < (a / b + 1) * d := by
  have e := f.eq
  have p := f.pos
  have h1 := Int.ediv_mul_le a (show b ≠ 0 by omega)
  have h2 := Int.lt_ediv_add_one_mul_self a p
  generalize a / b = q at h1 h2 ⊢
  constructor
  · have z := nonneg_of_mul (a := n - q * d) (b := b) (by
      have z := Int.mul_nonneg (show 0 ≤ a - q * b by omega) (show 0 ≤ d by omega)
      have e2 : (n - q * d) * b = (a - q * b) * d := by grind
      omega) p
    omega
  · have z := pos_of_mul (a := (q + 1) * d - n) (b := b) (by
      have z := Int.mul_pos (show 0 < (q + 1) * b - a by omega) hd
      have e2 : ((q + 1) * d - n) * b = ((q + 1) * b - a) * d := by grind
      omega) p
    omega
theorem Cop.powl {a b : Int} (h : Cop a b) (n : Nat) : Cop (a ^ n) b := by
  induction n with
  | zero => rw [Int.pow_zero]; exact cop_one.symm
  | succ n ih => rw [Int.pow_succ]; exact ih.mull h
theorem Cop.pow {a b : Int} (h : Cop a b) (n : Nat) : Cop (a ^ n) (b ^ n) := ((h.powl n).symm.powl n).symm
theorem mul_pow_int (a b : Int) (n : Nat) : (a * b) ^ n = a ^ n * b ^ n := by
  induction n with
  | zero => rw [Int.pow_zero, Int.pow_zero, Int.pow_zero, Int.mul_one]
  | succ n ih => rw [Int.pow_succ, Int.pow_succ, Int.pow_succ, ih]; grind
/-- the same power of an equal pair -/
theorem Fq.pow {n d a b n' d' : Int} (f : Fq n d a b) (hd : d ≠ 0) (e : Nat) (h1 : n' = n ^ e) (h2 : d' = d ^ e) : Fq n' d' (a ^ e) (b ^ e) := by
  subst h1 h2
  refine ⟨?_, Int.pow_pos f.pos, Cop.pow f.cop e⟩
  rw [← mul_pow_int, ← mul_pow_int, f.eq]
theorem pow_ne {a : Int} (h : a ≠ 0) (n : Nat) : a ^ n ≠ 0 := by
  induction n with
  | zero => rw [Int.pow_zero]; decide
  | succ n ih => rw [Int.pow_succ]; exact Int.mul_ne_zero ih h
/-- the sum of two numbers, by other pairs of theirs -/
theorem Fq.add {a b n1 d1 x y n2 d2 n d : Int} (f1 : Fq a b n1 d1) (f2 : Fq x y n2 d2) (f : Fq (n1 * d2 + n2 * d1) (d1 * d2) n d) : Fq (a * y + x * b) (b * y) n d := by
  have p1 := f1.pos
  have p2 := f2.pos
  have e1 := f1.eq
  have e2 := f2.eq
  refine f.conv (Int.mul_ne_zero (by omega) (by omega)) ?_
  grind
theorem Fq.mul {a b n1 d1 x y n2 d2 n d : Int} (f1 : Fq a b n1 d1) (f2 : Fq x y n2 d2) (f : Fq (n1 * n2) (d1 * d2) n d) : Fq (a * x) (b * y) n d := by
  have p1 := f1.pos
  have p2 := f2.pos
  have e1 := f1.eq
  have e2 := f2.eq
  refine f.conv (Int.mul_ne_zero (by omega) (by omega)) ?_
  grind
end CB

namespace CB
open PySem PySem.Spec PyProof.Rows L2
def rComb : List V → Hp → VK → Prop := fun vs H Q => ∃ a b : Int, vs = [.int a, .int b] ∧ 0 ≤ a ∧ 0 ≤ b ∧ a < 2 ^ 64 ∧ (b ≤ 9000 ∨ a ≤ 18000) ∧ Q (.int (PySem.W.mcComb a b)) H
def rPerm : List V → Hp → VK → Prop := fun vs H Q => ∃ a b : Int, vs = [.int a, .int b] ∧ 0 ≤ a ∧ 0 ≤ b ∧ a < 2 ^ 64 ∧ b ≤ 20000 ∧ Q (.int (PySem.W.mcPerm a b)) H
def rLcm : List V → Hp → VK → Prop := fun vs H Q => ∃ a b : Int, vs = [.int a, .int b] ∧ a.natAbs < 2 ^ 64 ∧ b.natAbs < 2 ^ 64 ∧ Q (.int ((Nat.lcm a.natAbs b.natAbs : Nat) : Int)) H
/-- the triangle's entry -/
def chs : Nat → Nat → Nat
  | _, 0 => 1
  | 0, _ + 1 => 0
  | n + 1, k + 1 => chs n k + chs n (k + 1)
def fac : Nat → Nat
  | 0 => 1
  | n + 1 => (n + 1) * fac n
end CB

namespace CB.Z
open PySem
abbrev TZ : String := "itertools.zip_longest"
/-! ### it is made -/
abbrev ItO (l : Addr) : Obj := { cls := .type "list_iterator", data := .fields #[.ref l, .int 0 0] }
abbrev TuO (a b : Value) : Obj := { cls := .type "tuple", data := .seq #[a, b] }
abbrev ZlO (f0 fill : Value) (run : Int) (TI TO : Addr) : Obj := { cls := .type "itertools.zip_longest", dict := none, data := .fields #[f0, .bool false, fill, rawInt run, .ref TI, .ref TO], slots := #[] }
abbrev zA (h : Heap) (l1 : Addr) : Heap := h.push (ItO l1)
abbrev zB (h : Heap) (l1 l2 : Addr) : Heap := (zA h l1).push (ItO l2)
abbrev zC (h : Heap) (l1 l2 : Addr) : Heap := (zB h l1 l2).push (TuO (.ref h.objs.size) (.ref (zA h l1).objs.size))
abbrev zD (h : Heap) (l1 l2 : Addr) : Heap := (zC h l1 l2).push (TuO .none .none)
abbrev zH (h : Heap) (l1 l2 : Addr) (c : Value) : Heap := (zD h l1 l2).push (ZlO .none c 2 (zB h l1 l2).objs.size (zC h l1 l2).objs.size)
end CB.Z

namespace CB.Z
open PySem
abbrev IsZl (h : Heap) (z TI TO : Addr) (f0 c : Value) (run : Int) : Prop := h.get? z = some (ZlO f0 c run TI TO)
abbrev IsTu (h : Heap) (T : Addr) (a b : Value) : Prop := h.get? T = some (TuO a b)
section
variable {prog : Program} {w : World} {A : Around} {E : Value → Shared → Prop} {s : Shared}
def Gone (h : Heap) (it : Addr) : Prop := ∃ o vs, h.get? it = some o ∧ o.data = .fields vs
/-- a column: its entry, live or not -/
def Col (h : Heap) (e : Value) (it l : Addr) (n i : Nat) : Prop := (e = .ref it ∧ h.IsListIter it l i ∧ i ≤ n) ∨ (e = .none ∧ n < i ∧ Gone h it)
theorem Col.ext {h h' : Heap} {e : Value} {it l : Addr} {n i : Nat} (c : Col h e it l n i) (k : ∀ o, h.get? it = some o → h'.get? it = some o) : Col h' e it l n i := by
  rcases c with ⟨e, q, le⟩ | ⟨e, lt, o, vs, g, d⟩
  · exact .inl ⟨e, q.at k, le⟩
  · exact .inr ⟨e, lt, o, vs, k _ g, d⟩
def lives (n i : Nat) : Int := if i ≤ n then 1 else 0
structure ZA (z TI TO i1 i2 l1 l2 : Addr) : Prop extends ZipApart z TI TO i1 i2 l1 l2 where
  l1TI : l1 ≠ TI
  l2TI : l2 ≠ TI
structure ZCol (h : Heap) (TI i1 i2 l1 l2 : Addr) (n1 j1 n2 j2 : Nat) : Prop where
  ex : ∃ a b, IsTu h TI a b ∧ Col h a i1 l1 n1 j1 ∧ Col h b i2 l2 n2 j2
/-- all but z, the tuples and the iterators stays -/
def Kp (z TI TO i1 i2 : Addr) (h h' : Heap) : Prop := ∀ b o, b ≠ z → b ≠ TI → b ≠ TO → b ≠ i1 → b ≠ i2 → h.get? b = some o → h'.get? b = some o
end
end CB.Z

namespace CB.Z
open PySem PySem.Spec PyProof.Rows L2
section
variable {prog : Program} {w : World} {A : Around} {E : Value → Shared → Prop} {s : Shared}
end
end CB.Z

namespace CB.Z
open PySem PySem.Spec PyProof.Rows L2
/-- the lists xs at a and ys at b in step, the shorter one filled up -/
def ItZl (K : PySem.W.Frag) (a b : Addr) (xs ys : List V) (n : Int) : It :=
  ⟨fun i H => SqL K H a xs ∧ SqL K H b ys ∧ (i < xs.length ∨ i < ys.length),
    fun i H v H' => ∃ T, v = .ref T ∧ H T = none ∧ H' = upd H T (.tup [xs.getD i (.int n), ys.getD i (.int n)]),
    fun i H => SqL K H a xs ∧ SqL K H b ys ∧ xs.length ≤ i ∧ ys.length ≤ i⟩
def iZipL (K : PySem.W.Frag) (ta tk : TA) : TI := fun σ H R => ta σ H fun vs H1 => tk σ H1 fun ks H2 => ∃ a b xs ys n, vs = [.ref a, .ref b] ∧ ks = [.int n] ∧ SqL K H2 a xs ∧ SqL K H2 b ys ∧ R (ItZl K a b xs ys n) H2
end CB.Z

namespace CB.Z
open PySem PySem.Spec PyProof.Rows L2
end CB.Z

namespace CB
open PySem PySem.Spec PyProof.Rows L2
/-- n is where xs ends without its last zeros -/
structure Trim (xs : List Int) (n : Nat) : Prop where
  le : n ≤ xs.length
  up : ∀ k, n ≤ k → xs.getD k 0 = 0
  at_ : n = 0 ∨ xs.getD (n - 1) 0 ≠ 0
theorem getD_take {xs : List Int} {n k : Nat} : (xs.take n).getD k 0 = if k < n then xs.getD k 0 else 0 := by
  rw [List.getD_eq_getElem?_getD, List.getD_eq_getElem?_getD, List.getElem?_take]
  split <;> rfl
theorem Trim.take {xs : List Int} {n : Nat} (t : Trim xs n) (k : Nat) : (xs.take n).getD k 0 = xs.getD k 0 := by
  rw [getD_take]
  split
  · rfl
  · exact (t.up k (by omega)).symm
theorem getD_map {f : Int → Int} (h : f 0 = 0) (xs : List Int) (k : Nat) : (xs.map f).getD k 0 = f (xs.getD k 0) := by
  rw [List.getD_eq_getElem?_getD, List.getD_eq_getElem?_getD, List.getElem?_map]
  cases xs[k]? with
  | none => exact h.symm
  | some x => rfl
theorem getD_mem {xs : List Int} {k : Nat} (h : k < xs.length) : xs.getD k 0 ∈ xs := by
  rw [List.getD_eq_getElem?_getD, List.getElem?_eq_getElem h]
  exact List.getElem_mem h
theorem getD_of {xs : List Int} {k : Nat} {x : Int} (h : xs[k]? = some x) : xs.getD k 0 = x := by rw [List.getD_eq_getElem?_getD, h]; rfl
theorem getD_end {xs : List Int} {k : Nat} (h : xs.length ≤ k) : xs.getD k 0 = 0 := by rw [List.getD_eq_getElem?_getD, List.getElem?_eq_none h]; rfl
theorem get_of_lt {xs : List Int} {k : Nat} (h : k < xs.length) : xs[k]? = some (xs.getD k 0) := by rw [List.getD_eq_getElem?_getD, List.getElem?_eq_getElem h]; rfl
theorem list_ext {xs ys : List Int} (h : xs.length = ys.length) (e : ∀ k, xs.getD k 0 = ys.getD k 0) : xs = ys := by
  refine List.ext_getElem? fun k => ?_
  by_cases c : k < xs.length
  · rw [get_of_lt c, get_of_lt (by omega), e]
  · rw [List.getElem?_eq_none (by omega), List.getElem?_eq_none (by omega)]
/-! ### the greatest common divisor of a list -/
def gcdL (xs : List Int) : Nat := xs.foldl (fun g x => Nat.gcd g x.natAbs) 0
theorem foldg_dvd (xs : List Int) : ∀ g : Nat, xs.foldl (fun g x => Nat.gcd g x.natAbs) g ∣ g ∧ ∀ x ∈ xs, xs.foldl (fun g x => Nat.gcd g x.natAbs) g ∣ x.natAbs := by
  induction xs with
  | nil => intro g; exact ⟨Nat.dvd_refl _, fun x h => absurd h (by simp)⟩
  | cons y r ih =>
    intro g
    obtain ⟨h1, h2⟩ := ih (Nat.gcd g y.natAbs)
    refine ⟨Nat.dvd_trans h1 (Nat.gcd_dvd_left _ _), fun x hx => ?_⟩
    rcases List.mem_cons.mp hx with rfl | hx
    · exact Nat.dvd_trans h1 (Nat.gcd_dvd_right _ _)
    · exact h2 x hx
theorem foldg_great (xs : List Int) {d : Nat} : ∀ g : Nat, d ∣ g → (∀ x ∈ xs, d ∣ x.natAbs) → d ∣ xs.foldl (fun g x => Nat.gcd g x.natAbs) g := by
  induction xs with
  | nil => intro g h _; exact h
  | cons y r ih => intro g h h2; exact ih _ (Nat.dvd_gcd h (h2 y (by simp))) fun x hx => h2 x (by simp [hx])
theorem gcdL_dvd {xs : List Int} {x : Int} (h : x ∈ xs) : gcdL xs ∣ x.natAbs := (foldg_dvd xs 0).2 x h
theorem gcdL_great {xs : List Int} {d : Nat} (h : ∀ x ∈ xs, d ∣ x.natAbs) : d ∣ gcdL xs := foldg_great xs 0 (Nat.dvd_zero d) h
theorem gcdL_more {xs : List Int} {i : Nat} {x : Int} (h : xs[i]? = some x) : gcdL (xs.take (i + 1)) = Nat.gcd (gcdL (xs.take i)) x.natAbs := by
  unfold gcdL
  rw [List.take_succ, h, List.foldl_append]
  rfl
theorem gcdL_one {xs : List Int} {i : Nat} (h : gcdL (xs.take i) = 1) : gcdL xs = 1 := by
  have z : gcdL xs ∣ gcdL (xs.take i) := gcdL_great fun x hx => gcdL_dvd (List.mem_of_mem_take hx)
  rw [h] at z
  exact Nat.eq_one_of_dvd_one z
/-! ### the one form -/
/-- ks / e is the one form of cs / d -/
structure Pq (cs : List Int) (d : Int) (ks : List Int) (e : Int) : Prop where
  eq : ∀ i, ks.getD i 0 * d = cs.getD i 0 * e
  pos : 0 < e
  last : ks = [] ∨ ks.getD (ks.length - 1) 0 ≠ 0
  cop : ∀ g : Int, g ∣ e → (∀ i, g ∣ ks.getD i 0) → g ∣ 1
theorem Pq.len {cs : List Int} {d : Int} {ks : List Int} {e : Int} (p : Pq cs d ks e) (hd : d ≠ 0) : ks.length ≤ cs.length := Decidable.byContradiction fun c => by
  rcases p.last with h | h
  · rw [h] at c; simp at c
  · have z := p.eq (ks.length - 1)
    rw [getD_end (xs := cs) (by omega), Int.zero_mul] at z
    rcases Int.mul_eq_zero.mp z with z | z
    · exact h z
    · exact hd z
/-- the same polynomial by another pair -/
theorem Pq.conv {cs cs' : List Int} {d d' : Int} {ks : List Int} {e : Int} (p : Pq cs d ks e) (hd : d ≠ 0) (h : ∀ i, cs.getD i 0 * d' = cs'.getD i 0 * d) : Pq cs' d' ks e := by
  refine ⟨fun i => ?_, p.pos, p.last, p.cop⟩
  have z := p.eq i
  have z2 := h i
  have : (ks.getD i 0 * d') * d = (cs'.getD i 0 * e) * d := by grind
  exact Int.eq_of_mul_eq_mul_right hd this
theorem Pq.den_dvd {cs : List Int} {d : Int} {ks ks' : List Int} {e e' : Int} (p : Pq cs d ks e) (p' : Pq cs d ks' e') (hd : d ≠ 0) : e ∣ e' := by
  have cross : ∀ i, ks.getD i 0 * e' = ks'.getD i 0 * e := fun i => by
    have z := p.eq i
    have z2 := p'.eq i
    have : (ks.getD i 0 * e') * d = (ks'.getD i 0 * e) * d := by grind
    exact Int.eq_of_mul_eq_mul_right hd this
  have pe := p.pos
  obtain ⟨g, x, y, _, g0, ex, ey, cxy, _, _⟩ := gcd_parts (n := e) (d := e') (.inl (by omega))
  have hx : ∀ i, x ∣ ks.getD i 0 := fun i => by
    have z := cross i
    rw [ex, ey] at z
    have z2 : ks.getD i 0 * y = ks'.getD i 0 * x := by
      have : (ks.getD i 0 * y) * g = (ks'.getD i 0 * x) * g := by grind
      exact Int.eq_of_mul_eq_mul_right (by omega) this
    exact dvd_of_cop (a := y) ⟨ks'.getD i 0, by grind⟩ cxy.symm
  have h1 := p.cop x ⟨g, by rw [ex]; grind⟩ hx
  obtain ⟨u, hu⟩ := h1
  refine ⟨y * u, ?_⟩
  rw [ey, ex]
  grind
theorem Pq.uniq {cs : List Int} {d : Int} {ks ks' : List Int} {e e' : Int} (p : Pq cs d ks e) (p' : Pq cs d ks' e') (hd : d ≠ 0) : ks = ks' ∧ e = e' := by
  have h1 := p.den_dvd p' hd
  have h2 := p'.den_dvd p hd
  have q1 := p.pos
  have q2 := p'.pos
  have ee : e = e' := by
    have z1 := natAbs_le_of_dvd h1 (by omega)
    have z2 := natAbs_le_of_dvd h2 (by omega)
    omega
  subst ee
  have same : ∀ i, ks.getD i 0 = ks'.getD i 0 := fun i => by
    have z1 := p.eq i
    have z2 := p'.eq i
    exact Int.eq_of_mul_eq_mul_right hd (z1.trans z2.symm)
  refine ⟨list_ext ?_ same, rfl⟩
  have le : ∀ {as bs : List Int}, (∀ i, as.getD i 0 = bs.getD i 0) → (as = [] ∨ as.getD (as.length - 1) 0 ≠ 0) → as.length ≤ bs.length := fun {as bs} h l => Decidable.byContradiction fun c => by
    rcases l with l | l
    · rw [l] at c; simp at c
    · rw [h, getD_end (by omega)] at l
      exact l rfl
  exact Nat.le_antisymm (le same p.last) (le (fun i => (same i).symm) p'.last)
theorem fdiv_dvd {c x : Int} (hc : c ≠ 0) (h : c ∣ x) : x.fdiv c * c = x := by
  obtain ⟨y, rfl⟩ := h
  rw [Int.mul_fdiv_cancel_left _ hc]
  grind
/-- what __init__ stores -/
theorem pq_init {cs : List Int} {d c : Int} {n : Nat} (hd : d ≠ 0) (t : Trim cs n) (hc : c = if d < 0 then -((gcdL (d :: cs.take n) : Nat) : Int) else ((gcdL (d :: cs.take n) : Nat) : Int)) :
    c ≠ 0 ∧ c.natAbs ≤ d.natAbs ∧ Pq cs d ((cs.take n).map fun x => x.fdiv c) (d.fdiv c) := by
  have dv : ∀ x ∈ d :: cs.take n, gcdL (d :: cs.take n) ∣ x.natAbs := fun x hx => gcdL_dvd hx
  have gd := dv d (by simp)
  have g0 : 0 < gcdL (d :: cs.take n) := Nat.pos_of_dvd_of_pos gd (by omega)
  have ca : c.natAbs = gcdL (d :: cs.take n) := by rw [hc]; split <;> omega
  have c0 : c ≠ 0 := by omega
  have cd : ∀ x ∈ d :: cs.take n, c ∣ x := fun x hx => Int.natAbs_dvd_natAbs.mp (by rw [ca]; exact dv x hx)
  have e1 := fdiv_dvd c0 (cd d (by simp))
  have f0 : (0 : Int).fdiv c = 0 := Int.zero_fdiv c
  have e2 : ∀ i, ((cs.take n).map fun x => x.fdiv c).getD i 0 * c = cs.getD i 0 := fun i => by
    rw [getD_map f0, t.take]
    by_cases h : i < n
    · refine fdiv_dvd c0 (cd _ (List.mem_cons_of_mem _ ?_))
      rw [← t.take i]
      refine getD_mem ?_
      rw [List.length_take]
      have := t.le
      omega
    · rw [t.up i (by omega), f0, Int.zero_mul]
  have sgn : 0 < d.fdiv c := Decidable.byContradiction fun hn => by
    have hn : d.fdiv c ≤ 0 := by omega
    generalize d.fdiv c = u at *
    by_cases h : d < 0
    · have : c < 0 := by rw [hc, if_pos h]; omega
      have z := Int.mul_nonneg (show 0 ≤ -u by omega) (show 0 ≤ -c by omega)
      rw [Int.neg_mul_neg] at z
      omega
    · have : 0 < c := by rw [hc, if_neg h]; omega
      have z := Int.mul_nonneg (show 0 ≤ -u by omega) (show 0 ≤ c by omega)
      rw [Int.neg_mul] at z
      omega
  refine ⟨c0, by rw [ca]; exact Nat.le_of_dvd (by omega) gd, fun i => ?_, sgn, ?_, fun g h1 h2 => ?_⟩
  · have z := e2 i
    generalize ((cs.take n).map fun x => x.fdiv c).getD i 0 = u at *
    rw [← z]
    generalize d.fdiv c = v at *
    rw [← e1]
    grind
  · have ln : ((cs.take n).map fun x => x.fdiv c).length = n := by
      rw [List.length_map, List.length_take]
      have := t.le
      omega
    rcases t.at_ with h | h
    · left
      exact List.eq_nil_of_length_eq_zero (by omega)
    · right
      rw [ln]
      intro z
      have z2 := e2 (n - 1)
      rw [z, Int.zero_mul] at z2
      exact h z2.symm
  · -- g c divides all
    have k1 : (g * c).natAbs ∣ gcdL (d :: cs.take n) := gcdL_great fun x hx => Int.natAbs_dvd_natAbs.mpr (by
      rcases List.mem_cons.mp hx with rfl | hx
      · obtain ⟨u, hu⟩ := h1
        exact ⟨u, by rw [← e1, hu]; grind⟩
      · obtain ⟨i, hi, rfl⟩ := List.mem_iff_getElem.mp hx
        have z := e2 i
        rw [← t.take i] at z
        obtain ⟨u, hu⟩ := h2 i
        refine ⟨u, ?_⟩
        have z3 : (cs.take n)[i] = (cs.take n).getD i 0 := by rw [List.getD_eq_getElem?_getD, List.getElem?_eq_getElem hi]; rfl
        rw [z3, ← z, hu]
        grind)
    rw [← ca, Int.natAbs_mul] at k1
    have k2 : g.natAbs * c.natAbs ≤ 1 * c.natAbs := by
      rw [Nat.one_mul]
      exact Nat.le_of_dvd (by omega) k1
    have k3 : g.natAbs ≤ 1 := Nat.le_of_mul_le_mul_right k2 (by omega)
    have k4 : g ≠ 0 := fun z => by
      rw [z] at h1
      obtain ⟨u, hu⟩ := h1
      rw [Int.zero_mul] at hu
      omega
    have : g.natAbs = 1 := by omega
    exact Int.natAbs_dvd_natAbs.mp (by rw [this]; exact Nat.one_dvd _)
/-! ### == of tuples of whole numbers -/
/-! ### sums -/
def addL (xs ys : List Int) : List Int := (List.range (max xs.length ys.length)).map fun i => xs.getD i 0 + ys.getD i 0
theorem addL_at (xs ys : List Int) (i : Nat) : (addL xs ys).getD i 0 = xs.getD i 0 + ys.getD i 0 := by
  unfold addL
  by_cases h : i < max xs.length ys.length
  · rw [List.getD_eq_getElem?_getD, List.getElem?_map, List.getElem?_range h]
    rfl
  · rw [getD_end (by rw [List.length_map, List.length_range]; omega), getD_end (xs := xs) (by omega), getD_end (xs := ys) (by omega)]
    rfl
theorem mul_at (xs : List Int) (c : Int) (i : Nat) : (xs.map fun x => x * c).getD i 0 = xs.getD i 0 * c := getD_map (f := fun x => x * c) (Int.zero_mul c) xs i
theorem neg_at (xs : List Int) (i : Nat) : (xs.map fun x => -x).getD i 0 = -(xs.getD i 0) := getD_map (f := fun x => -x) rfl xs i
/-- cs / d + cs' / d' -/
abbrev sumP (cs : List Int) (d : Int) (cs' : List Int) (d' : Int) : List Int := addL (cs.map fun x => x * d') (cs'.map fun x => x * d)
theorem sumP_at (cs : List Int) (d : Int) (cs' : List Int) (d' : Int) (i : Nat) : (sumP cs d cs' d').getD i 0 = cs.getD i 0 * d' + cs'.getD i 0 * d := by rw [addL_at, mul_at, mul_at]
/-- sums by other pairs -/
theorem Pq.add {a b : Int} {as bs ks js ms : List Int} {e f g : Int} (p1 : Pq as a ks e) (p2 : Pq bs b js f) (p : Pq (sumP ks e js f) (e * f) ms g) : Pq (sumP as a bs b) (a * b) ms g := by
  have q1 := p1.pos
  have q2 := p2.pos
  refine p.conv (Int.mul_ne_zero (by omega) (by omega)) fun i => ?_
  rw [sumP_at, sumP_at]
  have e1 := p1.eq i
  have e2 := p2.eq i
  grind
theorem Pq.neg {as ks ms : List Int} {a e g : Int} (p1 : Pq as a ks e) (p : Pq (ks.map fun x => -x) e ms g) : Pq (as.map fun x => -x) a ms g := by
  refine p.conv (by have := p1.pos; omega) fun i => ?_
  rw [neg_at, neg_at]
  have e1 := p1.eq i
  grind
theorem Pq.self {cs : List Int} {d : Int} {ks : List Int} {e : Int} (p : Pq cs d ks e) : Pq ks e ks e := ⟨fun i => rfl, p.pos, p.last, p.cop⟩
/-- the denominator of the one form divides the one that was given -/
theorem Pq.den_dvd1 {cs ks : List Int} {d e : Int} (p : Pq cs d ks e) (hd : d ≠ 0) : e ∣ d := by
  have pe := p.pos
  obtain ⟨g, x, y, _, g0, ex, ey, cxy, _, _⟩ := gcd_parts (n := e) (d := d) (.inl (by omega))
  have hx : ∀ i, x ∣ ks.getD i 0 := fun i => by
    have z := p.eq i
    rw [ex, ey] at z
    have z2 : ks.getD i 0 * y = cs.getD i 0 * x := by
      have : (ks.getD i 0 * y) * g = (cs.getD i 0 * x) * g := by grind
      exact Int.eq_of_mul_eq_mul_right (by omega) this
    exact dvd_of_cop (a := y) ⟨cs.getD i 0, by grind⟩ cxy.symm
  obtain ⟨u, hu⟩ := p.cop x ⟨g, by rw [ex]; grind⟩ hx
  refine ⟨y * u, ?_⟩
  rw [ey, ex]
  grind
theorem Pq.den_le {cs ks : List Int} {d e : Int} (p : Pq cs d ks e) (hd : d ≠ 0) : e.natAbs ≤ d.natAbs := natAbs_le_of_dvd (p.den_dvd1 hd) hd
theorem at_last {xs : List V} {v : V} (h : xs[xs.length - 1]? = some v) : atI xs (-1) = some v := by
  have hj : xs.length - 1 < xs.length := (List.getElem?_eq_some_iff.mp h).1
  have e : ixN xs.length (-1) = some (xs.length - 1) := by
    unfold ixN
    rw [if_neg (by decide), if_pos (by omega)]
    congr 1
    omega
  unfold atI
  rw [e]
  exact h
end CB

namespace CB
open PySem PySem.Spec PyProof.Rows L2
/-- the def of a staticmethod of a class -/
def stAd (K : PySem.W.Frag) (C : Addr) (m : Str) : Addr := He5.wf K C "staticmethod" m
def statB (K : PySem.W.Frag) (C : Addr) (m : Str) : Bool := He5.wrapB K C "staticmethod" "staticmethod.__get__" m && (PySem.W.readsIn K C (.type "type") && He.eqO (PySem.W.specialIn K (.ref C) "__getattribute__") (some (some (.builtin "type.__getattribute__"))))
structure Stat (K : PySem.W.Frag) (C : Addr) (m : Str) : Prop where
  at_ : PySem.W.findCls K (.ref C) (.type "type") m = some (.get (.builtin "staticmethod.__get__") (.ref (He.ma K C m)) .none (.ref C))
  rc : ∃ rest, PySem.W.recIn K (He.ma K C m) "staticmethod" = some (.ref (stAd K C m) :: rest)
  rd : ClX.CRead K C (.type "type")
def tSta (C : Addr) (sp : Sp) (E : XK) (ta : TE) (t : TA) : TE := fun σ H Q => ta σ H fun x H1 => x = .ref C ∧ t σ H1 fun vs H2 => sp vs H2 Q E
section
variable {X : Cx} {CX : CXT} {k : Nat} {C : Addr} {fd : FuncData} {ps : List Str} {sp : Sp} {E : XK} {m : Str} {p pos apos : Pos} {e o : Expr} {es : List Expr} {ta : TE} {t : TA}
end
end CB

namespace CB.Z
open PySem PySem.Spec PyProof.Rows L2
/-! ### enumerate(a tuple): own work -/
abbrev TuIt (t : Addr) : Obj := { cls := .type "tuple_iterator", data := .fields #[.ref t, .int 0 0] }
abbrev EnOb (it : Addr) : Obj := { cls := .type "enumerate", data := .fields #[.none, .bool false, .ref it, rawInt 0, .none, .none] }
set_option maxHeartbeats 8000000 in
theorem enNewT (t : Addr) (us : Array Value) :
    Meets (Builtin.«enumerate.__new__» ⟨[.type "enumerate", .ref t], []⟩) (fun _ R s => s.heap.IsTuple t us ∧ R (.ok (.ret (.ref (s.heap.push (TuIt t)).objs.size))) { s with heap := (s.heap.push (TuIt t)).push (EnOb s.heap.objs.size) }) :=
  .of_wp fun pr wo A R s hyp => by
    obtain ⟨hp, gl, dr, tk, os⟩ := s
    obtain ⟨ht, hyp⟩ := hyp
    have hs1 := sub_enumerate
    have go : ∀ {A' : Around} {E : Value → Shared → Prop} {Q : Value → Shared → Prop}, Q (.ref hp.objs.size) ⟨hp.push (TuIt t), gl, dr, tk, os⟩ → wpAny (model pr wo) A' (pyIter (.ref t)) Q E ⟨hp, gl, dr, tk, os⟩ := fun q => (begins_tuple t us).iter pr wo _ _ ⟨hp, gl, dr, tk, os⟩ _ ht q
    wp_walk using go
    refine wpAny_stack_any fun st => wpAny_pure ?_
    split
    · rename_i c _ _ _ _ _
      cases (c == Value.type "enumerate") <;> (wp_walk using go; exact ⟨_, rfl, hyp⟩)
    · wp_walk using go
      exact ⟨_, rfl, hyp⟩
theorem callEnT {pr : Program} {wo : World} {A : Around} {E : Value → Shared → Prop} {s : Shared} {t : Addr} {us : Array Value} {Q : Value → Shared → Prop} (ht : s.heap.IsTuple t us)
    (q : ∀ h2, IsEnum h2 (s.heap.objs.size + 1) s.heap.objs.size 0 .none → h2.IsTupleIter s.heap.objs.size t 0 → (∀ b o, s.heap.get? b = some o → h2.get? b = some o) → Q (.ref (s.heap.objs.size + 1)) { s with heap := h2 }) :
    wpAny (model pr wo) A (call (.type "enumerate") [.ref t]) Q E s := by
  refine callType_new F.called_enumerate (by decide) (F.typeCall_enumerate_1 _) (F.newCall_enumerate_1 _) (fun obj => F.args_object_init_2 obj _) F.entry_enumerate_new (enNewT t us) ⟨ht, ?_⟩
  have z1 : (s.heap.push (TuIt t)).objs.size = s.heap.objs.size + 1 := Heap.size_push ..
  show _ ∧ _
  rw [z1]
  have gE : IsEnum ((s.heap.push (TuIt t)).push (EnOb s.heap.objs.size)) (s.heap.objs.size + 1) s.heap.objs.size 0 .none := by
    have := Heap.get?_push_size (s.heap.push (TuIt t)) (o := EnOb s.heap.objs.size) rfl
    rw [z1] at this
    exact this
  exact ⟨⟨_, gE, rfl⟩, q _ gE ⟨_, Heap.get?_push_of_some _ (Heap.get?_push_size _ rfl), rfl, rfl⟩ fun b o x => Heap.get?_push_of_some _ (Heap.get?_push_of_some _ x)⟩
/-- the tuple xs at a, each item in a new pair with its number -/
def IteT (K : PySem.W.Frag) (a : Addr) (xs : List V) : It :=
  ⟨fun i H => SqT K H a xs ∧ i < xs.length, fun i H v H' => ∃ T x, xs[i]? = some x ∧ v = .ref T ∧ H T = none ∧ H' = upd H T (.tup [.int (i : Nat), x]), fun i H => SqT K H a xs ∧ xs.length ≤ i⟩
theorem turnEnT {P : Program} {w : World} {K : PySem.W.Frag} {elts : List Expr} {kk : Nat} {tpos : Pos} {a e it : Addr} {xs : List V} (ea : e ≠ it) (ta : a ≠ it) :
    Turn P w K (.Tuple elts kk tpos) (IteT K a xs) [e, it] e (fun i h => (∃ old, IsEnum h e it ((i : Nat) : Int) old) ∧ h.IsTupleIter it a i) where
  mem := by simp
  obj := fun i h st b hb => by
    obtain ⟨⟨old, he⟩, o, ho, hc, hd⟩ := st
    simp only [List.mem_cons, List.not_mem_nil, or_false] at hb
    rcases hb with rfl | rfl
    · exact ⟨_, he, fun v q => nomatch q⟩
    · exact ⟨o, ho, fun v q => by rw [hd] at q; cases q⟩
  keep := fun i h h' st k => by
    obtain ⟨⟨old, he⟩, hi⟩ := st
    exact ⟨⟨old, k e (by simp) _ he⟩, hi.at fun o q => k it (by simp) o q⟩
  item := by
    intro X hP hw hK hc i pins s σ H E I hf st hg
    subst hP hw hK
    obtain ⟨⟨old, he⟩, hit⟩ := st
    obtain ⟨hq, hlt⟩ := hg
    obtain ⟨us, rv, p, hz⟩ := I.tuple hq
    have n1 : us.toArray.size = xs.length := by rw [List.size_toArray, rv.length]
    have ne : e ≠ a := fun z => by
      obtain ⟨o, ho, hcl, _⟩ := p
      rw [← z] at ho
      have g := ho.symm.trans he
      obtain rfl := Option.some.inj g
      exact absurd (Value.type.inj hcl) (by decide)
    have D := Draws.tuple (prog := X.prog) (w := X.w) (A := X.A.in1) (show X.A.in1.handled = none from I.ok.hd hc) it a ta us.toArray
    refine wpAny_pyNext_enum_itemD D he ⟨hit, p⟩ (by rw [n1]; exact hlt) ea (by simp [ea, ne]) fun u h2 tk hu ho hit2 hT hsz hk => ?_
    have elt : e < s.heap.objs.size := Heap.lt_size he
    have ilt : it < s.heap.objs.size := by obtain ⟨_, q, _⟩ := hit; exact Heap.lt_size q
    have hx : xs[i]? = some xs[i] := List.getElem?_eq_getElem hlt
    obtain ⟨u', hu', ru⟩ := rv.get hx
    have eu : u' = u := by
      rw [List.getElem?_toArray] at hu
      rw [hu] at hu'
      exact (Option.some.inj hu').symm
    subst eu
    refine ⟨_, rfl, wpAny_letOwnedTupleGo_enum (s := { s with heap := h2, toks := tk + 1 }) ho fun h3 he3 sb => ?_⟩
    have hT3 : h3.get? s.heap.objs.size = some { cls := .type "tuple", data := .seq #[.int i tk, u'] } := (sb.2 _ (Nat.ne_of_gt elt)).trans hT
    have new : ObjOk X.prog X.w (upd H s.heap.objs.size (.tup [.int (i : Nat), xs[i]])) h3 s.heap.objs.size (.tup [.int (i : Nat), xs[i]]) :=
      ⟨by show 2 ≤ sizeLine; decide, [.int i tk, u'], .cons ⟨_, rfl⟩ (.cons ru .nil), ⟨_, hT3, rfl, _, rfl⟩⟩
    have I1 : Inv X pins σ (upd H s.heap.objs.size (.tup [.int (i : Nat), xs[i]])) { s with heap := h3, toks := tk + 1 } :=
      I.turnedNew (ch := [e, it]) (fun b ob hb q => (sb.2 b fun z => hb (by simp [z])).trans (hk b ob (fun z => hb (by simp [z])) (fun z => hb (by simp [z])) q)) hf (Nat.le_refl _) new
    refine ⟨.ref s.heap.objs.size, _, I1, rfl, ⟨_, _, hx, rfl, I.hok.fresh (Nat.le_refl _), rfl⟩, ⟨⟨u', ?_⟩, hit2.1.at fun o q => (sb.2 it (Ne.symm ea)).trans q⟩, fun b hb => ?_⟩
    · have e1 : ((i + 1 : Nat) : Int) = (i : Int) + 1 := by omega
      rw [e1]
      exact he3
    · have hb2 : b < s.heap.objs.size := by
        simp only [List.mem_cons, List.not_mem_nil, or_false] at hb
        rcases hb with rfl | rfl
        · exact elt
        · exact ilt
      rw [upd_ne (Nat.ne_of_lt hb2)]
      exact (hf b hb).1
  done := by
    intro X hP hw hK hc i pins s σ H E I hf st hg
    subst hP hw hK
    obtain ⟨⟨old, he⟩, hit⟩ := st
    obtain ⟨hq, hle⟩ := hg
    obtain ⟨us, rv, p, hz⟩ := I.tuple hq
    have n1 : us.toArray.size = xs.length := by rw [List.size_toArray, rv.length]
    obtain ⟨f0, f1, f2, f3, f4, f5⟩ := hf it (by simp)
    have hT : s.TypeIs (.ref e) "enumerate" := ⟨_, he, rfl⟩
    unfold pyNext
    refine wpAny_bind (wpAny_attempt (wpAny_callSpecial?_slot (name := Str.ofString "__next__") hT F.slot_enumerate_next (wpAny_call_entry F.slot_enumerate_next hT F.entry_enumerate_next ?_ (F.args_enumerate_next_1 _))))
    show wpAny _ _ (field (.ref e) 2 >>= _) _ _ _
    refine wpAny_bind (wpAny_field he rfl (x := .ref it) rfl ?_)
    refine wpAny_bind (PySem.wpAny_nextOf_tuple_end (I.ok.hd hc) hit p (by rw [List.getElem?_toArray]; exact List.getElem?_eq_none (by rw [← rv.length]; exact hle)) fun h2 x eb ⟨o, ho, hcl⟩ => ?_)
    refine wpAny_bind (wpAny_isInstance (T := "StopIteration") (b := true) ⟨o, ho, hcl⟩ isSubtype_stop ?_)
    exact wpAny_pure ⟨rfl, I.turned (t' := s.toks) (fun b o hb q => eb b o hb q) f0 f1 f3 f4 f5⟩
  self := fun A i s Q E st h => let ⟨⟨_, he⟩, _⟩ := st; wpAny_pyIter_enum he h
def iEnumT (K : PySem.W.Frag) (ta : TA) : TI := fun σ H R => ta σ H fun vs H1 => ∃ a xs, vs = [.ref a] ∧ SqT K H1 a xs ∧ R (IteT K a xs) H1
theorem pi_enumT {X : Cx} {e : Expr} {ta : TA} {p pos tpos : Pos} {elts : List Expr} {kk : Nat} (hg : Gl X "enumerate") (hm : X.mg "enumerate" = none) (ha : PA X [e] ta) (hs : starEach [e] X.env = [(false, eval e X.env)] := by rfl) : PI X (.Tuple elts kk tpos) (.Call (.Name "enumerate" p) [e] [] pos) (iEnumT X.K ta) := by
  refine ⟨fun pins s σ H R I h => ?_⟩
  refine Call_ (ld_blt I hg hm boot_enumerate (PyProof.Rows.callWith_type1 (thn (ha.run pos pins s σ H _ I h) fun us s1 ⟨vs, H1, I1, r1, q1⟩ => ?_) hs rfl))
  obtain ⟨a, xs, rfl, hq, q⟩ := q1
  cases r1 with
  | cons r rr =>
    cases rr
    cases r
    obtain ⟨its, rv, p', hz⟩ := I1.tuple hq
    have alt : a < s1.heap.objs.size := by obtain ⟨_, g, _⟩ := id p'; exact Heap.lt_size g
    refine callEnT p' fun h2 he hit hk => wpAny_pyIter_enum he ?_
    have I2 : Inv X pins σ H1 { s1 with heap := h2 } := I1.kept (t' := s1.toks) hk
    refine ⟨s1.heap.objs.size + 1, [s1.heap.objs.size + 1, s1.heap.objs.size], _, _, H1, rfl, I2, turnEnT (e := s1.heap.objs.size + 1) (it := s1.heap.objs.size) (Nat.succ_ne_self _) (Nat.ne_of_lt alt), ⟨⟨.none, he⟩, hit⟩, fun b hb => ?_, q⟩
    have hle : s1.heap.objs.size ≤ b := by
      simp only [List.mem_cons, List.not_mem_nil, or_false] at hb
      rcases hb with rfl | rfl <;> omega
    exact I1.fpOk hle (I1.hok.fresh hle)
/-- a loop over enumerate of a tuple -/
theorem for_enT {K : PySem.W.Frag} {a : Addr} {xs : List V} {g : TG} {tb : TS} {D : Ends} {σ : L2.St} {H : Hp} (Pv : Nat → L2.St → Hp → Prop) (h0 : Pv 0 σ H) (hq : ∀ i σ H, Pv i σ H → SqT K H a xs)
    (hs : ∀ (i : Nat) (x : V) (T : Addr) (σ : L2.St) (H : Hp), xs[i]? = some x → Pv i σ H → H T = none → g (.ref T) σ (upd H T (.tup [.int (i : Nat), x])) fun σ2 H2 => tb { D with nx := Pv (i + 1), ct := Pv (i + 1), bk := D.nx } σ2 H2) (hd : ∀ σ H, Pv xs.length σ H → D.nx σ H) :
    ∃ W : Nat → Nat → L2.St → Hp → Prop, (∃ m, W 0 m σ H) ∧ ∀ i m σ H, W i m σ H →
      ((IteT K a xs).stop i H ∧ D.nx σ H) ∨ ((IteT K a xs).go i H ∧ ∃ N : L2.St → Hp → Prop, (∀ σ' H', N σ' H' → ∃ m', m' < m ∧ W (i + 1) m' σ' H') ∧ ∀ v H', (IteT K a xs).yld i H v H' → g v σ H' fun σ2 H2 => tb { D with nx := N, ct := N, bk := D.nx } σ2 H2) := by
  refine ⟨fun i m σ H => m = xs.length - i ∧ i ≤ xs.length ∧ Pv i σ H, ⟨_, rfl, Nat.zero_le _, h0⟩, fun i m σ H hw => ?_⟩
  obtain ⟨rfl, hi, p⟩ := hw
  by_cases lt : i < xs.length
  · refine .inr ⟨⟨hq i σ H p, lt⟩, Pv (i + 1), fun σ' H' p' => ⟨_, by omega, rfl, lt, p'⟩, fun v H' y => ?_⟩
    obtain ⟨T, x, hx, rfl, hT, rfl⟩ := y
    exact hs i x T σ H hx p hT
  · have e : i = xs.length := by omega
    subst e
    exact .inl ⟨⟨hq _ σ H p, Nat.le_refl _⟩, hd σ H p⟩
end CB.Z

namespace CB
open PySem PySem.Spec PyProof.Rows L2
/-! ### products of polynomials -/
/-- what the first i coefficients of xs give to the coefficient k of the product -/
def cvS (xs ys : List Int) : Nat → Nat → Int
  | 0, _ => 0
  | i + 1, k => cvS xs ys i k + if i ≤ k then xs.getD i 0 * ys.getD (k - i) 0 else 0
/-- the coefficient k of the product -/
def cv (xs ys : List Int) (k : Nat) : Int := cvS xs ys xs.length k
theorem cvS_end {xs ys : List Int} (k n : Nat) : cvS xs ys (xs.length + n) k = cv xs ys k := by
  induction n with
  | zero => rfl
  | succ n ih =>
    show cvS xs ys (xs.length + n) k + _ = _
    rw [ih, getD_end (xs := xs) (by show xs.length ≤ xs.length + n; omega)]
    simp
theorem cvS_ge {xs ys : List Int} {k n : Nat} (h : xs.length ≤ n) : cvS xs ys n k = cv xs ys k := by
  obtain ⟨m, rfl⟩ : ∃ m, n = xs.length + m := ⟨n - xs.length, by omega⟩
  exact cvS_end k m
/-- the product of other pairs -/
theorem cvS_conv {as bs xs ys : List Int} {a b e f : Int} (h1 : ∀ i, as.getD i 0 * e = xs.getD i 0 * a) (h2 : ∀ i, bs.getD i 0 * f = ys.getD i 0 * b) (k : Nat) : ∀ n, cvS as bs n k * (e * f) = cvS xs ys n k * (a * b)
  | 0 => by simp [cvS]
  | n + 1 => by
    have ih := cvS_conv h1 h2 k n
    rw [cvS, cvS, Int.add_mul, Int.add_mul, ih]
    congr 1
    split
    · have e1 := h1 n
      have e2 := h2 (k - n)
      grind
    · simp
theorem cv_conv {as bs xs ys : List Int} {a b e f : Int} (h1 : ∀ i, as.getD i 0 * e = xs.getD i 0 * a) (h2 : ∀ i, bs.getD i 0 * f = ys.getD i 0 * b) (k : Nat) : cv as bs k * (e * f) = cv xs ys k * (a * b) := by
  have z := cvS_conv h1 h2 k (max as.length xs.length)
  rwa [cvS_ge (by omega), cvS_ge (by omega)] at z
/-- zs is the product of xs and ys -/
structure IsMul (zs xs ys : List Int) : Prop where
  at_ : ∀ k, zs.getD k 0 = cv xs ys k
  len : zs.length ≤ xs.length + ys.length
theorem Pq.mul {a b : Int} {as bs ks js ms zs ws : List Int} {e f g : Int} (p1 : Pq as a ks e) (p2 : Pq bs b js f) (z : IsMul zs ks js) (w : IsMul ws as bs) (p : Pq zs (e * f) ms g) : Pq ws (a * b) ms g := by
  have q1 := p1.pos
  have q2 := p2.pos
  refine p.conv (Int.mul_ne_zero (by omega) (by omega)) fun i => ?_
  rw [z.at_, w.at_]
  exact cv_conv p1.eq p2.eq i
/-- the list while it is made: i rows are added, and j items of the next one -/
structure MulAt (fs xs ys : List Int) (N i j : Nat) : Prop where
  len : fs.length = N
  at_ : ∀ k, fs.getD k 0 = cvS xs ys i k + if i ≤ k ∧ k - i < j then xs.getD i 0 * ys.getD (k - i) 0 else 0
theorem MulAt.start {xs ys : List Int} {N : Nat} : MulAt (List.replicate N 0) xs ys N 0 0 := ⟨List.length_replicate, fun k => by
  have z : (List.replicate N (0 : Int)).getD k 0 = 0 := by
    rw [List.getD_eq_getElem?_getD, List.getElem?_replicate]
    split <;> rfl
  rw [z]
  simp [cvS]⟩
theorem MulAt.row {fs xs ys : List Int} {N i j : Nat} (m : MulAt fs xs ys N i j) (h : ys.length ≤ j) : MulAt fs xs ys N (i + 1) 0 := ⟨m.len, fun k => by
  rw [m.at_ k, cvS]
  simp only [Nat.not_lt_zero, and_false, if_false, Int.add_zero]
  congr 1
  by_cases c : i ≤ k
  · by_cases c2 : k - i < j
    · rw [if_pos ⟨c, c2⟩, if_pos c]
    · rw [if_neg (fun z => c2 z.2), if_pos c, getD_end (xs := ys) (by omega), Int.mul_zero]
  · rw [if_neg (fun z => c z.1), if_neg c]⟩
theorem MulAt.skip {fs xs ys : List Int} {N i : Nat} (m : MulAt fs xs ys N i 0) (h : xs.getD i 0 = 0) : MulAt fs xs ys N (i + 1) 0 := ⟨m.len, fun k => by
  rw [m.at_ k, cvS, h]
  simp⟩
theorem getD_set {fs : List Int} {n k : Nat} {v : Int} (h : n < fs.length) : (fs.set n v).getD k 0 = if k = n then v else fs.getD k 0 := by
  rw [List.getD_eq_getElem?_getD, List.getD_eq_getElem?_getD, List.getElem?_set]
  by_cases c : n = k
  · subst c
    rw [if_pos rfl, if_pos h, if_pos rfl]
    rfl
  · rw [if_neg c, if_neg (fun z => c z.symm)]
theorem MulAt.step {fs xs ys : List Int} {N i j : Nat} {v : Int} (m : MulAt fs xs ys N i j) (h : i + j < N) (hv : v = fs.getD (i + j) 0 + xs.getD i 0 * ys.getD j 0) : MulAt (fs.set (i + j) v) xs ys N i (j + 1) := ⟨by rw [List.length_set, m.len], fun k => by
  rw [getD_set (by rw [m.len]; exact h)]
  by_cases c : k = i + j
  · subst c
    rw [if_pos rfl, hv, m.at_, if_neg (by omega), if_pos (by omega)]
    have e : i + j - i = j := by omega
    rw [e, Int.add_zero]
  · rw [if_neg c, m.at_]
    congr 1
    by_cases c2 : i ≤ k ∧ k - i < j
    · rw [if_pos c2, if_pos (by omega)]
    · rw [if_neg c2, if_neg (by omega)]⟩
theorem MulAt.fin {fs xs ys : List Int} {N i : Nat} (m : MulAt fs xs ys N i 0) (h : xs.length ≤ i) (hN : N ≤ xs.length + ys.length) : IsMul fs xs ys := ⟨fun k => by
  rw [m.at_, cvS_ge h]
  simp, by rw [m.len]; exact hN⟩
theorem get_map_int {xs : List Int} {i : Nat} {x : V} (h : (xs.map V.int)[i]? = some x) : ∃ c, xs[i]? = some c ∧ x = .int c := by
  rw [List.getElem?_map] at h
  cases e : xs[i]? with
  | none => rw [e] at h; cases h
  | some u => rw [e] at h; cases h; exact ⟨u, rfl, rfl⟩
/-- a name of the module that holds a number -/
theorem pe_globI {X : Cx} {x : Str} {n : Int} {p : Pos} (hg : Gl X x) (h : ∃ t, X.mg x = some (.int n t)) (hd : (x == ("__debug__" : Str)) = false := by decide) : PE X (.Name x p) (tC (.int n)) := by
  obtain ⟨t, h⟩ := h
  exact pe_glob (v := .int n) hg h ⟨_, rfl⟩ hd
theorem map_set_V {xs : List Int} {n : Nat} {x : Int} : (xs.map V.int).set n (.int x) = (xs.set n x).map V.int := by rw [List.map_set]
theorem ixN_at {n j : Nat} {i : Int} (h : i = j) (l : j < n) : ixN n i = some j := by
  subst h
  unfold ixN
  rw [if_pos (by omega), if_pos (by omega)]
  rfl
end CB

namespace CB
open PySem PySem.Spec PyProof.Rows L2
/-! ### finite sums -/
def sumTo (f : Nat → Int) : Nat → Int
  | 0 => 0
  | n + 1 => sumTo f n + f n
theorem sumTo_congr {f g : Nat → Int} : ∀ n, (∀ i, i < n → f i = g i) → sumTo f n = sumTo g n
  | 0, _ => rfl
  | n + 1, h => by rw [sumTo, sumTo, sumTo_congr n fun i hi => h i (by omega), h n (by omega)]
theorem sumTo_add (f g : Nat → Int) : ∀ n, sumTo (fun i => f i + g i) n = sumTo f n + sumTo g n
  | 0 => rfl
  | n + 1 => by rw [sumTo, sumTo, sumTo, sumTo_add f g n]; omega
theorem sumTo_mul (c : Int) (f : Nat → Int) : ∀ n, sumTo (fun i => c * f i) n = c * sumTo f n
  | 0 => by simp [sumTo]
  | n + 1 => by rw [sumTo, sumTo, sumTo_mul c f n, Int.mul_add]
theorem sumTo_zero {f : Nat → Int} : ∀ n, (∀ i, i < n → f i = 0) → sumTo f n = 0
  | 0, _ => rfl
  | n + 1, h => by rw [sumTo, sumTo_zero n fun i hi => h i (by omega), h n (by omega)]; rfl
theorem sumTo_first (f : Nat → Int) : ∀ n, sumTo f (n + 1) = f 0 + sumTo (fun i => f (i + 1)) n
  | 0 => by simp [sumTo]
  | n + 1 => by rw [sumTo, sumTo_first f n, sumTo]; omega
theorem sumTo_swap (f : Nat → Nat → Int) (m : Nat) : ∀ n, sumTo (fun i => sumTo (fun j => f i j) m) n = sumTo (fun j => sumTo (fun i => f i j) n) m
  | 0 => (sumTo_zero m fun _ _ => rfl).symm
  | n + 1 => by
    rw [sumTo, sumTo_swap f m n, ← sumTo_add]
    exact sumTo_congr m fun i _ => rfl
theorem sumTo_one {f : Nat → Int} {k : Nat} : ∀ n, k < n → (∀ i, i < n → i ≠ k → f i = 0) → sumTo f n = f k
  | 0, h, _ => absurd h (Nat.not_lt_zero _)
  | n + 1, h, z => by
    rw [sumTo]
    by_cases c : k = n
    · subst c
      rw [sumTo_zero k fun i hi => z i (by omega) (by omega)]
      omega
    · rw [sumTo_one n (by omega) fun i hi ne => z i (by omega) ne, z n (by omega) (fun e => c e.symm)]
      omega
/-! ### the powers of x + s -/
def pw (s : Int) : Nat → Nat → Int
  | 0, 0 => 1
  | 0, _ + 1 => 0
  | i + 1, 0 => s * pw s i 0
  | i + 1, k + 1 => s * pw s i (k + 1) + pw s i k
theorem pw_high (s : Int) : ∀ i k, i < k → pw s i k = 0
  | 0, k + 1, _ => rfl
  | i + 1, k + 1, h => by
    rw [pw, pw_high s i (k + 1) (by omega), pw_high s i k (by omega)]
    simp
theorem pw_zero : ∀ i k, pw 0 i k = if i = k then 1 else 0
  | 0, 0 => rfl
  | 0, k + 1 => rfl
  | i + 1, 0 => by rw [pw, Int.zero_mul, if_neg (by omega)]
  | i + 1, k + 1 => by
    rw [pw, Int.zero_mul, pw_zero i k, Int.zero_add]
    by_cases c : i = k
    · rw [if_pos c, if_pos (by omega)]
    · rw [if_neg c, if_neg (by omega)]
/-- the coefficient k of f(x + s), f with n coefficients -/
def shV (s : Int) (f : Nat → Int) (n k : Nat) : Int := sumTo (fun i => f i * pw s i k) n
theorem shV_more {s : Int} {f : Nat → Int} {n : Nat} (k m : Nat) (h : ∀ i, n ≤ i → f i = 0) : shV s f (n + m) k = shV s f n k := by
  induction m with
  | zero => rfl
  | succ m ih =>
    show sumTo _ (n + m) + f (n + m) * _ = _
    rw [h (n + m) (by omega), Int.zero_mul, Int.add_zero]
    exact ih
theorem shV_ge {s : Int} {f : Nat → Int} {n m : Nat} (k : Nat) (h : ∀ i, n ≤ i → f i = 0) (l : n ≤ m) : shV s f m k = shV s f n k := by
  obtain ⟨j, rfl⟩ : ∃ j, m = n + j := ⟨m - n, by omega⟩
  exact shV_more k j h
theorem shV_mul {s c : Int} {f : Nat → Int} {n : Nat} (k : Nat) : shV s (fun i => c * f i) n k = c * shV s f n k := by
  unfold shV
  rw [← sumTo_mul]
  exact sumTo_congr n fun i _ => by grind
theorem shV_congr {s : Int} {f g : Nat → Int} {n : Nat} (k : Nat) (h : ∀ i, i < n → f i = g i) : shV s f n k = shV s g n k := sumTo_congr n fun i hi => by rw [h i hi]
/-! ### by the first coefficient -/
def shC (s : Int) : List Int → Nat → Int
  | [], _ => 0
  | c :: r, 0 => c + s * shC s r 0
  | c :: r, k + 1 => shC s r k + s * shC s r (k + 1)
theorem shC_eq (s : Int) : ∀ (cs : List Int) (k : Nat), shC s cs k = shV s (fun i => cs.getD i 0) cs.length k
  | [], _ => rfl
  | c :: r, k => by
    unfold shV
    rw [List.length_cons, sumTo_first]
    cases k with
    | zero =>
      show c + s * shC s r 0 = c * 1 + sumTo (fun i => r.getD i 0 * (s * pw s i 0)) r.length
      rw [shC_eq s r 0, Int.mul_one]
      congr 1
      unfold shV
      rw [← sumTo_mul]
      exact sumTo_congr _ fun i _ => by grind
    | succ k =>
      show shC s r k + s * shC s r (k + 1) = c * 0 + sumTo (fun i => r.getD i 0 * (s * pw s i (k + 1) + pw s i k)) r.length
      rw [shC_eq s r k, shC_eq s r (k + 1), Int.mul_zero, Int.zero_add]
      unfold shV
      rw [← sumTo_mul, ← sumTo_add]
      exact sumTo_congr _ fun i _ => by grind
/-- one pass of the division by x - s -/
def hornL (s : Int) : List Int → List Int
  | [] => []
  | c :: r => (c + s * shC s r 0) :: hornL s r
theorem hornL_len (s : Int) : ∀ r, (hornL s r).length = r.length
  | [] => rfl
  | c :: r => by rw [hornL, List.length_cons, List.length_cons, hornL_len s r]
theorem hornL_at (s : Int) : ∀ (r : List Int) (k : Nat), (hornL s r).getD k 0 = shC s (r.drop k) 0
  | [], k => by cases k <;> rfl
  | c :: r, 0 => rfl
  | c :: r, k + 1 => hornL_at s r k
theorem shC_step (s : Int) : ∀ (r : List Int) (c : Int) (k : Nat), shC s (c :: r) (k + 1) = shC s (hornL s r) k
  | [], c, k => by cases k <;> simp [shC, hornL]
  | d :: r, c, 0 => by
    have e := shC_step s r d 0
    show shC s (d :: r) 0 + s * shC s (d :: r) (0 + 1) = (d + s * shC s r 0) + s * shC s (hornL s r) 0
    rw [e]
    rfl
  | d :: r, c, k + 1 => by
    have e1 := shC_step s r d k
    have e2 := shC_step s r d (k + 1)
    show shC s (d :: r) (k + 1) + s * shC s (d :: r) (k + 1 + 1) = shC s (hornL s r) k + s * shC s (hornL s r) (k + 1)
    rw [e1, e2]
theorem drop_one {fs : List Int} {i : Nat} (h : i < fs.length) : fs.drop i = fs.getD i 0 :: fs.drop (i + 1) := by
  rw [List.drop_eq_getElem_cons h]
  congr 1
  rw [List.getD_eq_getElem?_getD, List.getElem?_eq_getElem h]
  rfl
/-- i passes are done -/
structure ShAt (s : Int) (cs fs : List Int) (i : Nat) : Prop where
  len : fs.length = cs.length
  lo : ∀ k, k < i → fs.getD k 0 = shC s cs k
  hi : ∀ k, shC s cs (i + k) = shC s (fs.drop i) k
/-- within a pass: the places from j on are done -/
structure ShIn (s : Int) (fs gs : List Int) (j : Nat) : Prop where
  len : gs.length = fs.length
  lo : ∀ k, k < j → gs.getD k 0 = fs.getD k 0
  hi : ∀ k, j ≤ k → gs.getD k 0 = shC s (fs.drop k) 0
theorem ShAt.start {s : Int} {cs : List Int} : ShAt s cs cs 0 := ⟨rfl, fun k h => absurd h (Nat.not_lt_zero _), fun k => by rw [Nat.zero_add, List.drop_zero]⟩
theorem ShIn.start {s : Int} {fs : List Int} : ShIn s fs fs (fs.length - 1) := ⟨rfl, fun _ _ => rfl, fun k h => by
  by_cases c : k < fs.length
  · rw [drop_one c, show fs.drop (k + 1) = [] from List.drop_of_length_le (by omega)]
    simp [shC]
  · rw [getD_end (by omega), List.drop_of_length_le (by omega)]
    rfl⟩
theorem ShIn.step {s v : Int} {fs gs : List Int} {j : Nat} (m : ShIn s fs gs (j + 1)) (h : j + 1 < fs.length) (hv : v = gs.getD j 0 + s * gs.getD (j + 1) 0) : ShIn s fs (gs.set j v) j := by
  have hj : j < gs.length := by rw [m.len]; omega
  refine ⟨by rw [List.length_set, m.len], fun k hk => ?_, fun k hk => ?_⟩
  · rw [getD_set hj, if_neg (by omega)]
    exact m.lo k (by omega)
  · rw [getD_set hj]
    by_cases c : k = j
    · subst c
      rw [if_pos rfl, hv, m.lo k (by omega), m.hi (k + 1) (Nat.le_refl _), drop_one (i := k) (by omega)]
      rfl
    · rw [if_neg c]
      exact m.hi k (by omega)
theorem ShAt.pass {s : Int} {cs fs gs : List Int} {i : Nat} (a : ShAt s cs fs i) (m : ShIn s fs gs i) (h : i < fs.length) : ShAt s cs gs (i + 1) := by
  refine ⟨by rw [m.len, a.len], fun k hk => ?_, fun k => ?_⟩
  · by_cases c : k = i
    · subst c
      rw [m.hi k (Nat.le_refl _)]
      exact (a.hi 0).symm
    · rw [m.lo k (by omega)]
      exact a.lo k (by omega)
  · have e : gs.drop (i + 1) = hornL s (fs.drop (i + 1)) := by
      refine list_ext (by rw [hornL_len, List.length_drop, List.length_drop, m.len]) fun k => ?_
      rw [hornL_at, List.drop_drop, List.getD_eq_getElem?_getD, List.getElem?_drop, ← List.getD_eq_getElem?_getD]
      exact m.hi _ (by omega)
    rw [e, ← shC_step s (fs.drop (i + 1)) (fs.getD i 0) k, ← drop_one h, ← a.hi (k + 1)]
    congr 1
    omega
theorem ShAt.fin {s : Int} {cs fs : List Int} {i : Nat} (a : ShAt s cs fs i) (h : cs.length ≤ i + 1) (k : Nat) : fs.getD k 0 = shC s cs k := by
  by_cases c : k < i
  · exact a.lo k c
  · have e := a.hi (k - i)
    rw [show i + (k - i) = k by omega] at e
    rw [e]
    by_cases c2 : i < fs.length
    · rw [drop_one c2, show fs.drop (i + 1) = [] from List.drop_of_length_le (by rw [a.len]; omega)]
      obtain ⟨m, hm⟩ : ∃ m, k - i = m := ⟨_, rfl⟩
      rw [hm]
      cases m with
      | zero => rw [show k = i by omega]; simp [shC]
      | succ m => rw [getD_end (by rw [a.len]; omega)]; simp [shC]
    · rw [List.drop_of_length_le (by omega), getD_end (by omega)]
      rfl
/-- zs is cs moved by s -/
structure IsSh (s : Int) (zs cs : List Int) : Prop where
  at_ : ∀ k, zs.getD k 0 = shV s (fun i => cs.getD i 0) cs.length k
  len : zs.length = cs.length
theorem shV_list {s : Int} {cs : List Int} {n : Nat} (h : cs.length ≤ n) (k : Nat) : shV s (fun i => cs.getD i 0) n k = shV s (fun i => cs.getD i 0) cs.length k := shV_ge k (fun i hi => getD_end hi) h
theorem shV_pair {s : Int} {as xs : List Int} {a e : Int} (h : ∀ i, as.getD i 0 * e = xs.getD i 0 * a) (k : Nat) :
    shV s (fun i => as.getD i 0) as.length k * e = shV s (fun i => xs.getD i 0) xs.length k * a := by
  rw [← shV_list (n := max as.length xs.length) (by omega), ← shV_list (cs := xs) (n := max as.length xs.length) (by omega), Int.mul_comm, Int.mul_comm _ a, ← shV_mul, ← shV_mul]
  exact shV_congr k fun i _ => by
    have := h i
    grind
theorem Pq.shift {s a e g : Int} {as ks zs ws ms : List Int} (p : Pq as a ks e) (z : IsSh s zs ks) (w : ∀ k, ws.getD k 0 = shV s (fun i => as.getD i 0) as.length k) (q : Pq zs e ms g) : Pq ws a ms g := by
  refine q.conv (by have := p.pos; omega) fun i => ?_
  rw [z.at_, w]
  exact shV_pair p.eq i
theorem IsSh.zero {zs cs : List Int} (z : IsSh 0 zs cs) (k : Nat) : zs.getD k 0 = cs.getD k 0 := by
  rw [z.at_]
  by_cases c : k < cs.length
  · unfold shV
    rw [sumTo_one (k := k) _ c fun i hi ne => by rw [pw_zero, if_neg ne, Int.mul_zero], pw_zero, if_pos rfl, Int.mul_one]
  · rw [getD_end (xs := cs) (by omega)]
    exact sumTo_zero _ fun i hi => by rw [pw_zero, if_neg (by omega), Int.mul_zero]
/-! ### the powers of x + s as products -/
end CB

namespace CB
open PySem PySem.Spec PyProof.Rows L2
/-! ### division with remainder -/
theorem cvS_set {xs ys : List Int} {a : Nat} {v : Int} (h : a < xs.length) (k : Nat) : ∀ n, cvS (xs.set a v) ys n k = cvS xs ys n k + if a < n ∧ a ≤ k then (v - xs.getD a 0) * ys.getD (k - a) 0 else 0
  | 0 => by rw [if_neg (by omega)]; rfl
  | n + 1 => by
    rw [cvS, cvS, cvS_set h k n, getD_set h]
    by_cases c : n = a
    · subst c
      rw [if_pos rfl, if_neg (show ¬ (n < n ∧ n ≤ k) by omega)]
      by_cases c2 : n ≤ k
      · rw [if_pos c2, if_pos c2, if_pos (show n < n + 1 ∧ n ≤ k by omega), Int.sub_mul]
        omega
      · rw [if_neg c2, if_neg c2, if_neg (show ¬ (n < n + 1 ∧ n ≤ k) by omega)]
    · rw [if_neg c]
      by_cases c2 : a < n ∧ a ≤ k
      · rw [if_pos c2, if_pos (show a < n + 1 ∧ a ≤ k by omega)]
        omega
      · rw [if_neg c2, if_neg (show ¬ (a < n + 1 ∧ a ≤ k) by omega)]
        omega
theorem cv_set {xs ys : List Int} {a : Nat} {v : Int} (h : a < xs.length) (k : Nat) : cv (xs.set a v) ys k = cv xs ys k + if a ≤ k then (v - xs.getD a 0) * ys.getD (k - a) 0 else 0 := by
  unfold cv
  rw [List.length_set, cvS_set h]
  congr 1
  by_cases c : a ≤ k
  · rw [if_pos ⟨h, c⟩, if_pos c]
  · rw [if_neg (fun z => c z.2), if_neg c]
theorem cv_scale {xs ys : List Int} {s : Int} (k : Nat) : cv (xs.map fun x => x * s) ys k = cv xs ys k * s := by
  have z := cv_conv (as := xs.map fun x => x * s) (bs := ys) (xs := xs) (ys := ys) (a := s) (b := 1) (e := 1) (f := 1) (fun i => by rw [mul_at, Int.mul_one]) (fun i => rfl) k
  rwa [Int.mul_one, Int.mul_one, Int.mul_one] at z
theorem cv_rep {ys : List Int} {n : Nat} (k : Nat) : cv (List.replicate n 0) ys k = 0 := by
  have z : ∀ m, cvS (List.replicate n (0 : Int)) ys m k = 0 := by
    intro m
    induction m with
    | zero => rfl
    | succ m ih =>
      rw [cvS, ih]
      have e : (List.replicate n (0 : Int)).getD m 0 = 0 := by
        rw [List.getD_eq_getElem?_getD, List.getElem?_replicate]
        split <;> rfl
      rw [e, Int.zero_mul]
      split <;> rfl
  exact z _
/-- the quotient and the rest while they are made: the places below n are still to do -/
structure DivAt (f : Int) (xs qs rs ys : List Int) (n : Nat) : Prop where
  f0 : f ≠ 0
  rl : rs.length = xs.length
  eq : ∀ k, f * xs.getD k 0 = cv qs ys k + rs.getD k 0
  lo : ∀ i, i < n → qs.getD i 0 = 0
  hi : ∀ k, n + ys.length ≤ k + 1 → rs.getD k 0 = 0
theorem DivAt.start {xs ys : List Int} {n : Nat} (h : (n : Int) = xs.length - ys.length + 1 ∨ (n = 0 ∧ xs.length + 1 ≤ ys.length)) : DivAt 1 xs (List.replicate n 0) xs ys n :=
  ⟨by decide, rfl, fun k => by rw [cv_rep]; omega, fun i _ => by
    rw [List.getD_eq_getElem?_getD, List.getElem?_replicate]
    split <;> rfl, fun k hk => getD_end (by omega)⟩
theorem DivAt.scale {f s : Int} {xs qs rs ys : List Int} {n : Nat} (m : DivAt f xs qs rs ys n) (h : s ≠ 0) : DivAt (f * s) xs (qs.map fun x => x * s) (rs.map fun x => x * s) ys n :=
  ⟨Int.mul_ne_zero m.f0 h, by rw [List.length_map, m.rl], fun k => by
    rw [cv_scale, mul_at]
    have := m.eq k
    grind, fun i hi => by rw [mul_at, m.lo i hi, Int.zero_mul], fun k hk => by rw [mul_at, m.hi k hk, Int.zero_mul]⟩
/-- the rest while a multiple is taken from it -/
structure SubAt (zs rs ys : List Int) (v : Int) (a j : Nat) : Prop where
  len : zs.length = rs.length
  at_ : ∀ k, zs.getD k 0 = rs.getD k 0 - if a ≤ k ∧ k - a < j then v * ys.getD (k - a) 0 else 0
theorem SubAt.start {rs ys : List Int} {v : Int} {a : Nat} : SubAt rs rs ys v a 0 := ⟨rfl, fun k => by rw [if_neg (by omega), Int.sub_zero]⟩
theorem SubAt.step {zs rs ys : List Int} {v u : Int} {a j : Nat} (m : SubAt zs rs ys v a j) (h : a + j < rs.length) (hu : u = zs.getD (a + j) 0 - v * ys.getD j 0) : SubAt (zs.set (a + j) u) rs ys v a (j + 1) := ⟨by rw [List.length_set, m.len], fun k => by
  rw [getD_set (by rw [m.len]; exact h)]
  by_cases c : k = a + j
  · subst c
    rw [if_pos rfl, hu, m.at_, if_neg (by omega), if_pos (by omega), show a + j - a = j by omega, Int.sub_zero]
  · rw [if_neg c, m.at_]
    congr 1
    by_cases c2 : a ≤ k ∧ k - a < j
    · rw [if_pos c2, if_pos (by omega)]
    · rw [if_neg c2, if_neg (by omega)]⟩
theorem SubAt.fin {zs rs ys : List Int} {v : Int} {a : Nat} (m : SubAt zs rs ys v a ys.length) (k : Nat) : zs.getD k 0 = rs.getD k 0 - if a ≤ k then v * ys.getD (k - a) 0 else 0 := by
  rw [m.at_]
  congr 1
  by_cases c : a ≤ k
  · by_cases c2 : k - a < ys.length
    · rw [if_pos ⟨c, c2⟩, if_pos c]
    · rw [if_neg (fun z => c2 z.2), if_pos c, getD_end (xs := ys) (by omega), Int.mul_zero]
  · rw [if_neg (fun z => c z.1), if_neg c]
theorem DivAt.step {f v : Int} {xs qs rs zs ys : List Int} {n : Nat} (m : DivAt f xs qs rs ys (n + 1)) (h : n < qs.length) (hy : 0 < ys.length) (hv : v * ys.getD (ys.length - 1) 0 = rs.getD (n + ys.length - 1) 0) (zl : zs.length = rs.length)
    (hz : ∀ k, zs.getD k 0 = rs.getD k 0 - if n ≤ k then v * ys.getD (k - n) 0 else 0) : DivAt f xs (qs.set n v) zs ys n :=
  ⟨m.f0, by rw [zl, m.rl], fun k => by
    rw [cv_set h, hz, m.eq k, m.lo n (by omega), Int.sub_zero]
    split <;> omega, fun i hi => by
    rw [getD_set h, if_neg (by omega)]
    exact m.lo i (by omega), fun k hk => by
    rw [hz, if_pos (show n ≤ k by omega)]
    by_cases c : k = n + ys.length - 1
    · subst c
      rw [show n + ys.length - 1 - n = ys.length - 1 by omega, hv]
      omega
    · rw [m.hi k (by omega), getD_end (xs := ys) (by omega), Int.mul_zero]
      rfl⟩
theorem dvd_scale {t l g s : Int} (hg : g = ((Nat.gcd t.natAbs l.natAbs : Nat) : Int)) (hl : l ≠ 0) (hs : s = l.fdiv g) : g ≠ 0 ∧ g.natAbs ≤ l.natAbs ∧ s ≠ 0 ∧ s.natAbs ≤ l.natAbs ∧ l ∣ t * s := by
  have d1 : g ∣ l := by rw [hg]; exact Int.natAbs_dvd_natAbs.mp (by rw [Int.natAbs_natCast]; exact Nat.gcd_dvd_right _ _)
  have d2 : g ∣ t := by rw [hg]; exact Int.natAbs_dvd_natAbs.mp (by rw [Int.natAbs_natCast]; exact Nat.gcd_dvd_left _ _)
  have g0 : g ≠ 0 := fun z => by rw [z] at d1; exact hl (Int.zero_dvd.mp d1)
  have e := fdiv_dvd g0 d1
  rw [← hs] at e
  have s0 : s ≠ 0 := fun z => by rw [z, Int.zero_mul] at e; exact hl e.symm
  refine ⟨g0, natAbs_le_of_dvd d1 hl, s0, natAbs_le_of_dvd ⟨g, e.symm⟩ hl, ?_⟩
  obtain ⟨u, rfl⟩ := d2
  exact ⟨u, by rw [← e]; grind⟩
theorem dvd_of_fmod {a b : Int} (h : a.fmod b = 0) : b ∣ a := Int.dvd_of_fmod_eq_zero h
theorem bits_mulE {k : Nat} {xs : List Int} {s : Int} {j : Nat} (h : ∀ x ∈ xs, x.natAbs < 2 ^ k) (hs : s.natAbs < 2 ^ j) : ∀ x ∈ (xs.map fun x => x * s), x.natAbs < 2 ^ (k + j) := fun x hx => by
  obtain ⟨y, hy, rfl⟩ := List.mem_map.mp hx
  exact abs_lt_mul (h y hy) hs
theorem SubAt.bits {zs rs ys : List Int} {v : Int} {a j p q : Nat} (m : SubAt zs rs ys v a j) (h1 : ∀ i, (rs.getD i 0).natAbs < 2 ^ (p + q)) (h2 : v.natAbs < 2 ^ p) (h3 : ∀ i, (ys.getD i 0).natAbs < 2 ^ q) (k : Nat) : (zs.getD k 0).natAbs < 2 ^ (p + q + 1) := by
  rw [m.at_]
  have t : (if a ≤ k ∧ k - a < j then v * ys.getD (k - a) 0 else 0).natAbs < 2 ^ (p + q) := by
    split
    · exact abs_lt_mul h2 (h3 _)
    · exact Nat.pow_pos (by decide)
  have z := sz_sub (h1 k) t
  rwa [Nat.max_self] at z
end CB
namespace CB
open PySem PySem.Spec PyProof.Rows L2
/-! ### a quotient is the only one -/
def linL (xs ys : List Int) (A B : Int) : List Int := (List.range (max xs.length ys.length)).map fun i => xs.getD i 0 * A - ys.getD i 0 * B
end CB

namespace CB
open PySem PySem.Spec PyProof.Rows L2
/-! ### products and powers of coefficient functions -/
def cf (f g : Nat → Int) (k : Nat) : Int := sumTo (fun i => f i * g (k - i)) (k + 1)
theorem sumTo_rev (F : Nat → Int) : ∀ n, sumTo F n = sumTo (fun i => F (n - 1 - i)) n
  | 0 => rfl
  | n + 1 => by
    rw [sumTo_first (fun i => F (n + 1 - 1 - i)) n]
    show sumTo F n + F n = F (n + 1 - 1 - 0) + sumTo (fun i => F (n + 1 - 1 - (i + 1))) n
    rw [sumTo_rev F n, Int.add_comm]
    have e : n + 1 - 1 - 0 = n := by omega
    rw [e]
    congr 1
    exact sumTo_congr n fun i hi => by
      have : n + 1 - 1 - (i + 1) = n - 1 - i := by omega
      rw [this]
theorem cf_comm (f g : Nat → Int) (k : Nat) : cf f g k = cf g f k := by
  unfold cf
  rw [sumTo_rev]
  exact sumTo_congr _ fun i hi => by
    have e1 : k + 1 - 1 - i = k - i := by omega
    have e2 : k - (k - i) = i := by omega
    rw [e1, e2, Int.mul_comm]
theorem sumTo_tri (F : Nat → Nat → Int) : ∀ n, sumTo (fun i => sumTo (fun j => F i j) (i + 1)) n = sumTo (fun j => sumTo (fun m => F (j + m) j) (n - j)) n
  | 0 => rfl
  | n + 1 => by
    show sumTo (fun i => sumTo (fun j => F i j) (i + 1)) n + sumTo (fun j => F n j) (n + 1) = _
    rw [sumTo_tri F n]
    have e : sumTo (fun j => sumTo (fun m => F (j + m) j) (n + 1 - j)) (n + 1) = sumTo (fun j => sumTo (fun m => F (j + m) j) (n - j) + F n j) (n + 1) := sumTo_congr _ fun j hj => by
      have z : n + 1 - j = (n - j) + 1 := by omega
      rw [z]
      show _ + F (j + (n - j)) j = _
      rw [show j + (n - j) = n by omega]
    rw [e, sumTo_add]
    congr 1
    show _ = sumTo (fun j => sumTo (fun m => F (j + m) j) (n - j)) n + sumTo (fun m => F (n + m) n) (n - n)
    rw [Nat.sub_self]
    exact (Int.add_zero _).symm
theorem sumTo_mulr (c : Int) (f : Nat → Int) (n : Nat) : sumTo (fun i => f i * c) n = sumTo f n * c := by
  rw [Int.mul_comm, ← sumTo_mul]
  exact sumTo_congr n fun i _ => Int.mul_comm _ _
theorem cf_assoc (f g h : Nat → Int) (k : Nat) : cf (cf f g) h k = cf f (cf g h) k := by
  unfold cf
  have e1 : sumTo (fun i => sumTo (fun i_1 => f i_1 * g (i - i_1)) (i + 1) * h (k - i)) (k + 1) = sumTo (fun i => sumTo (fun j => f j * g (i - j) * h (k - i)) (i + 1)) (k + 1) := sumTo_congr _ fun i _ => (sumTo_mulr _ _ _).symm
  rw [e1, sumTo_tri (fun i j => f j * g (i - j) * h (k - i)) (k + 1)]
  exact sumTo_congr _ fun j hj => by
    rw [← sumTo_mul, show k + 1 - j = k - j + 1 by omega]
    exact sumTo_congr _ fun m hm => by
      rw [show j + m - j = m by omega, show k - (j + m) = k - j - m by omega, Int.mul_assoc]
theorem cf_congr {f f' g g' : Nat → Int} (h1 : ∀ i, f i = f' i) (h2 : ∀ i, g i = g' i) (k : Nat) : cf f g k = cf f' g' k := by
  have e1 : f = f' := funext h1
  have e2 : g = g' := funext h2
  rw [e1, e2]
theorem cf_add (f g h : Nat → Int) (k : Nat) : cf f (fun i => g i + h i) k = cf f g k + cf f h k := by
  unfold cf
  rw [← sumTo_add]
  exact sumTo_congr _ fun i _ => Int.mul_add _ _ _
theorem cf_scale (f g : Nat → Int) (c : Int) (k : Nat) : cf f (fun i => c * g i) k = c * cf f g k := by
  unfold cf
  rw [← sumTo_mul]
  exact sumTo_congr _ fun i _ => by rw [Int.mul_left_comm]
/-- the derivative -/
def dv (f : Nat → Int) (k : Nat) : Int := ((k : Int) + 1) * f (k + 1)
theorem dv_cf (f g : Nat → Int) (k : Nat) : dv (cf f g) k = cf (dv f) g k + cf f (dv g) k := by
  -- (k+1) sum_{i<k+2} f i g (k+1-i) = sum i f i g(k+1-i) + sum (k+1-i) f i g (k+1-i)
  have e1 : dv (cf f g) k = sumTo (fun i => (i : Int) * f i * g (k + 1 - i) + (((k + 1 - i : Nat)) : Int) * f i * g (k + 1 - i)) (k + 2) := by
    unfold dv cf
    rw [← sumTo_mul]
    exact sumTo_congr _ fun i hi => by
      have : ((k + 1 - i : Nat) : Int) = (k : Int) + 1 - i := by omega
      rw [this]
      grind
  rw [e1, sumTo_add]
  congr 1
  · rw [sumTo_first]
    rw [show ((0 : Nat) : Int) * f 0 * g (k + 1 - 0) = 0 by simp, Int.zero_add]
    unfold cf dv
    exact sumTo_congr _ fun i hi => by
      rw [show k + 1 - (i + 1) = k - i by omega]
      push_cast
      rfl
  · show sumTo _ (k + 1) + ((k + 1 - (k + 1) : Nat) : Int) * f (k + 1) * g (k + 1 - (k + 1)) = _
    rw [show ((k + 1 - (k + 1) : Nat) : Int) * f (k + 1) * g (k + 1 - (k + 1)) = 0 by rw [Nat.sub_self]; simp, Int.add_zero]
    unfold cf dv
    exact sumTo_congr _ fun i hi => by
      rw [show k + 1 - i = k - i + 1 by omega]
      push_cast
      grind
/-- powers -/
def pwf (f : Nat → Int) : Nat → Nat → Int
  | 0, k => if k = 0 then 1 else 0
  | e + 1, k => cf (pwf f e) f k
/-- moved up by z places -/
def up (z : Nat) (f : Nat → Int) (k : Nat) : Int := if k < z then 0 else f (k - z)
theorem sumTo_app (F : Nat → Int) (p : Nat) : ∀ q, sumTo F (p + q) = sumTo F p + sumTo (fun i => F (p + i)) q
  | 0 => (Int.add_zero _).symm
  | q + 1 => by show sumTo F (p + q) + F (p + q) = _ + (_ + _); rw [sumTo_app F p q, Int.add_assoc]
/-- lists -/
abbrev ff (xs : List Int) : Nat → Int := fun i => xs.getD i 0
theorem cvS_sum (xs ys : List Int) (k : Nat) : ∀ n, cvS xs ys n k = sumTo (fun i => if i ≤ k then xs.getD i 0 * ys.getD (k - i) 0 else 0) n
  | 0 => rfl
  | n + 1 => by rw [cvS, cvS_sum xs ys k n]; rfl
theorem sumTo_more {F : Nat → Int} {n : Nat} (h : ∀ i, n ≤ i → F i = 0) : ∀ m, sumTo F (n + m) = sumTo F n
  | 0 => rfl
  | m + 1 => by
    show sumTo F (n + m) + F (n + m) = _
    rw [sumTo_more h m, h _ (by omega), Int.add_zero]
theorem cv_cf (xs ys : List Int) (k : Nat) : cv xs ys k = cf (ff xs) (ff ys) k := by
  have z : cv xs ys k = cvS xs ys (xs.length + (k + 1)) k := (cvS_end k (k + 1)).symm
  rw [z, cvS_sum, Nat.add_comm, sumTo_more fun i hi => if_neg (by omega)]
  unfold cf
  exact sumTo_congr _ fun i hi => if_pos (by omega)
/-- zs is the power e of cs -/
structure IsPow (zs cs : List Int) (e : Nat) : Prop where
  at_ : ∀ k, zs.getD k 0 = pwf (ff cs) e k
theorem IsPow.one {cs : List Int} : IsPow [1] cs 0 := ⟨fun k => by
  unfold pwf
  cases k with
  | zero => rfl
  | succ k => rw [if_neg (by omega), getD_end (by simp)]⟩
theorem IsPow.more {zs ps cs : List Int} {e : Nat} (p : IsPow ps cs e) (m : IsMul zs ps cs) : IsPow zs cs (e + 1) := ⟨fun k => by
  rw [m.at_, cv_cf]
  exact cf_congr p.at_ (fun _ => rfl) k⟩
/-- the power of another pair -/
theorem pwf_conv {f g : Nat → Int} {a b : Int} (h : ∀ i, f i * a = g i * b) : ∀ e k, pwf f e k * a ^ e = pwf g e k * b ^ e
  | 0, k => by rw [Int.pow_zero, Int.pow_zero]; rfl
  | e + 1, k => by
    have ih := pwf_conv h e
    show cf (pwf f e) f k * _ = cf (pwf g e) g k * _
    unfold cf
    rw [← sumTo_mulr, ← sumTo_mulr]
    exact sumTo_congr _ fun i _ => by
      have z1 := ih i
      have z2 := h (k - i)
      rw [Int.pow_succ, Int.pow_succ]
      grind
theorem Pq.power {as ks zs ws ms : List Int} {a b g : Int} {e : Nat} (p : Pq as a ks b) (z : IsPow zs ks e) (w : IsPow ws as e) (q : Pq zs (b ^ e) ms g) : Pq ws (a ^ e) ms g := by
  have b0 := p.pos
  refine q.conv (pow_ne (by omega) e) fun i => ?_
  rw [z.at_, w.at_]
  exact pwf_conv (f := ff ks) (g := ff as) p.eq e i
end CB

namespace CB.Z
open PySem PySem.Spec PyProof.Rows L2
/-- the reading of a comprehension over enumerate of a tuple -/
theorem lc_enT {K : PySem.W.Frag} {a : Addr} {xs : List V} {g : TG} {tt : TT} {te : TE} {vs : List Nat} {σ : L2.St} {H1 : Hp} {D : Addr} {Qd : Hp → Prop} (Pv : Nat → Hp → Prop) (h0 : Pv 0 (upd H1 D (.lst [])))
    (hq : ∀ i H, Pv i H → SqT K H a xs)
    (hs : ∀ i x T H, xs[i]? = some x → Pv i H → H T = none → g (.ref T) (wipe σ vs) (upd H T (.tup [.int (i : Nat), x])) fun σ2 H2 => wipe σ2 vs = wipe σ vs ∧ tt σ2 H2 fun k H3 =>
      if k = true then te σ2 H3 fun y H4 => ∃ acc, H4 D = some (.lst acc) ∧ acc.length < sizeLine ∧ Pv (i + 1) (upd H4 D (.lst (acc ++ [y]))) else Pv (i + 1) H3)
    (hd : ∀ H, Pv xs.length H → Qd H) :
    ∃ W : Nat → Nat → Hp → Prop, (∃ m, W 0 m (upd H1 D (.lst []))) ∧ ∀ i m H, W i m H →
      ((IteT K a xs).stop i H ∧ Qd H) ∨ ((IteT K a xs).go i H ∧ ∃ Nx : Hp → Prop, (∀ H', Nx H' → ∃ m', m' < m ∧ W (i + 1) m' H') ∧
        ∀ x H', (IteT K a xs).yld i H x H' → g x (wipe σ vs) H' fun σ2 H2 => wipe σ2 vs = wipe σ vs ∧ tt σ2 H2 fun k H3 =>
          if k = true then te σ2 H3 fun y H4 => ∃ acc, H4 D = some (.lst acc) ∧ acc.length < sizeLine ∧ Nx (upd H4 D (.lst (acc ++ [y]))) else Nx H3) := by
  refine ⟨fun i m H => m = xs.length - i ∧ i ≤ xs.length ∧ Pv i H, ⟨_, rfl, Nat.zero_le _, h0⟩, fun i m H hw => ?_⟩
  obtain ⟨rfl, hi, p⟩ := hw
  have qa := hq i H p
  by_cases lt : i < xs.length
  · refine .inr ⟨⟨qa, lt⟩, Pv (i + 1), fun H' p' => ⟨_, by omega, rfl, lt, p'⟩, fun x H' y => ?_⟩
    obtain ⟨T, z, hz, rfl, nT, rfl⟩ := y
    exact hs i z T H hz p nT
  · have e : i = xs.length := by omega
    subst e
    exact .inl ⟨⟨qa, Nat.le_refl _⟩, hd H p⟩
end CB.Z
namespace CB
open PySem PySem.Spec PyProof.Rows L2 CB.Z
/-! ### the power's terms -/
def tS (g : Int → Int) : List (Addr × Int × Int) → Int
  | [] => 0
  | t :: r => g t.2.1 * t.2.2 + tS g r
theorem sumTo_bits {F : Nat → Int} {b : Nat} : ∀ n, (∀ i, i < n → (F i).natAbs < 2 ^ b) → (sumTo F n).natAbs < 2 ^ (b + n)
  | 0, _ => Nat.pow_pos (by decide)
  | n + 1, h => by
    have ih := sumTo_bits n fun i hi => h i (by omega)
    refine abs_mono (sz_add ih (h n (by omega))) ?_
    omega
end CB

namespace CB
open PySem PySem.Spec PyProof.Rows L2
/-! ### values of polynomials -/
/-- the value of a polynomial, from the highest power -/
def evL (x : Int) : List Int → Int
  | [] => 0
  | c :: r => evL x r * x + c
theorem evL_bits {x : Int} {k j : Nat} (hx : x.natAbs < 2 ^ j) : ∀ {cs : List Int}, (∀ c ∈ cs, c.natAbs < 2 ^ k) → (evL x cs).natAbs < 2 ^ (k + (j + 1) * cs.length + 1)
  | [], _ => by simp [evL]; exact Nat.pow_pos (by decide)
  | c :: r, h => by
    have ih := evL_bits hx (cs := r) fun y hy => h y (by simp [hy])
    have z := sz_add (abs_lt_mul ih hx) (h c (by simp))
    rw [evL]
    refine abs_mono z ?_
    rw [List.length_cons]
    have : (j + 1) * (r.length + 1) = (j + 1) * r.length + (j + 1) := by rw [Nat.mul_add, Nat.mul_one]
    omega
theorem drop_rev {cs : List Int} {i : Nat} {c : Int} (h : cs[cs.length - 1 - i]? = some c) (hi : i < cs.length) : cs.drop (cs.length - (i + 1)) = c :: cs.drop (cs.length - i) := by
  have e : cs.length - (i + 1) = cs.length - 1 - i := by omega
  have lt : cs.length - 1 - i < cs.length := by omega
  rw [e, List.drop_eq_getElem_cons lt]
  rw [List.getElem?_eq_getElem lt] at h
  rw [Option.some.inj h]
  congr 2
  omega
/-- the value at num / den, times den to the length -/
def vaL (num den : Int) : List Int → Int
  | [] => 0
  | c :: r => vaL num den r * num + c * den ^ (r.length + 1)
def vaT (num den : Int) (cs : List Int) (N : Nat) (j : Nat) : Int := cs.getD j 0 * num ^ j * den ^ (N - j)
theorem vaL_sum (num den : Int) : ∀ cs : List Int, vaL num den cs = sumTo (vaT num den cs cs.length) cs.length
  | [] => rfl
  | c :: r => by
    show vaL num den r * num + c * den ^ (r.length + 1) = sumTo _ (r.length + 1)
    rw [sumTo_first, vaL_sum num den r, ← sumTo_mulr, Int.add_comm]
    congr 1
    · show _ = c * num ^ 0 * den ^ (r.length + 1 - 0)
      rw [Int.pow_zero, Int.mul_one, Nat.sub_zero]
    · exact sumTo_congr _ fun i hi => by
        show r.getD i 0 * num ^ i * den ^ (r.length - i) * num = r.getD i 0 * num ^ (i + 1) * den ^ (r.length + 1 - (i + 1))
        rw [Int.pow_succ, show r.length + 1 - (i + 1) = r.length - i by omega]
        grind
/-- values of equal polynomials at equal numbers -/
theorem va_conv {ks cs : List Int} {n f u b d e : Int} (hc : ∀ i, ks.getD i 0 * d = cs.getD i 0 * e) (hx : n * b = u * f) (d0 : d ≠ 0) (e0 : e ≠ 0) :
    vaL n f ks * (d * b ^ cs.length) = vaL u b cs * (e * f ^ ks.length) := by
  have pw_ : ∀ j, n ^ j * b ^ j = u ^ j * f ^ j := fun j => by rw [← mul_pow_int, ← mul_pow_int, hx]
  have e1 : vaL n f ks = sumTo (vaT n f ks ks.length) (ks.length + cs.length) := by rw [vaL_sum, sumTo_more fun i hi => by unfold vaT; rw [getD_end hi]; simp]
  have e2 : vaL u b cs = sumTo (vaT u b cs cs.length) (ks.length + cs.length) := by rw [vaL_sum, Nat.add_comm, sumTo_more fun i hi => by unfold vaT; rw [getD_end hi]; simp]
  rw [e1, e2, ← sumTo_mulr, ← sumTo_mulr]
  refine sumTo_congr _ fun j _ => ?_
  unfold vaT
  have h := hc j
  by_cases c1 : j < ks.length
  · by_cases c2 : j < cs.length
    · have a1 : b ^ cs.length = b ^ j * b ^ (cs.length - j) := by rw [← Int.pow_add]; congr 1; omega
      have a2 : f ^ ks.length = f ^ j * f ^ (ks.length - j) := by rw [← Int.pow_add]; congr 1; omega
      rw [a1, a2]
      have a3 := pw_ j
      calc _ = (ks.getD j 0 * d) * (n ^ j * b ^ j) * (f ^ (ks.length - j) * b ^ (cs.length - j)) := by grind
        _ = (cs.getD j 0 * e) * (u ^ j * f ^ j) * (f ^ (ks.length - j) * b ^ (cs.length - j)) := by rw [h, a3]
        _ = _ := by grind
    · rw [getD_end (xs := cs) (by omega), Int.zero_mul] at h
      have z : ks.getD j 0 = 0 := by rcases Int.mul_eq_zero.mp h with z | z; exact z; exact absurd z d0
      rw [z, getD_end (xs := cs) (by omega)]
      simp
  · rw [getD_end (xs := ks) (by omega), Int.zero_mul] at h
    have z : cs.getD j 0 = 0 := by rcases Int.mul_eq_zero.mp h.symm with z | z; exact z; exact absurd z e0
    rw [z, getD_end (xs := ks) (by omega)]
    simp
/-- what the law's sum says -/
structure DuAt (num den : Int) (cs : List Int) (top bl : Int) : Prop where
  eq : top * den ^ cs.length = bl * vaL num den cs
  b0 : 0 < bl
  tb : top.natAbs < 2 ^ 4000
  bb : bl.natAbs < 2 ^ 2000
theorem DuAt.fq {n f u b d e top bl : Int} {ks cs : List Int} (m : DuAt u b cs top bl) (hc : ∀ i, ks.getD i 0 * d = cs.getD i 0 * e) (hx : n * b = u * f) (d0 : d ≠ 0) (e0 : e ≠ 0) (b0 : b ≠ 0) :
    vaL n f ks * (bl * d) = top * (e * f ^ ks.length) := by
  have h := va_conv hc hx d0 e0
  have h2 := m.eq
  apply Int.eq_of_mul_eq_mul_right (pow_ne b0 cs.length)
  calc _ = bl * (vaL n f ks * (d * b ^ cs.length)) := by grind
    _ = (bl * vaL u b cs) * (e * f ^ ks.length) := by rw [h]; grind
    _ = _ := by rw [← h2]; grind
end CB

namespace CB
open PySem PySem.Spec PyProof.Rows L2 PySem.W
/-! ### max(.., default=d) -/
theorem maxOf_spec : ∀ (xs : List Int) (x : Int), maxOf x xs ∈ x :: xs ∧ ∀ y ∈ x :: xs, y ≤ maxOf x xs
  | [], x => ⟨by simp [maxOf], fun y hy => by rw [List.mem_singleton.mp hy]; exact Int.le_refl _⟩
  | z :: r, x => by
    have e : maxOf x (z :: r) = maxOf (if DatumOrd.lt x z = true then z else x) r := rfl
    rw [e]
    have d : DatumOrd.lt x z = decide (x < z) := rfl
    rw [d]
    by_cases c : x < z
    · rw [decide_eq_true c, if_pos rfl]
      obtain ⟨h1, h2⟩ := maxOf_spec r z
      refine ⟨List.mem_cons_of_mem _ h1, fun y hy => ?_⟩
      rcases List.mem_cons.mp hy with rfl | hy
      · exact Int.le_trans (Int.le_of_lt c) (h2 z (List.mem_cons_self ..))
      · exact h2 y hy
    · rw [decide_eq_false c, if_neg (by decide)]
      obtain ⟨h1, h2⟩ := maxOf_spec r x
      refine ⟨?_, fun y hy => ?_⟩
      · rcases List.mem_cons.mp h1 with h | h
        · rw [h]; exact List.mem_cons_self ..
        · exact List.mem_cons_of_mem _ (List.mem_cons_of_mem _ h)
      · rcases List.mem_cons.mp hy with rfl | hy
        · exact h2 y (List.mem_cons_self ..)
        · rcases List.mem_cons.mp hy with rfl | hy
          · exact Int.le_trans (by omega) (h2 x (List.mem_cons_self ..))
          · exact h2 y (List.mem_cons_of_mem _ hy)
theorem holds_int_is {h : Heap} {v : Value} {n : Int} (H : Holds h v n) : ∃ t, v = .int n t := by
  obtain ⟨as, r⟩ := H
  cases r
  exact ⟨_, rfl⟩
section
variable {X : Cx}
def rMaxD (K : PySem.W.Frag) : List V → List V → Hp → VK → Prop := fun vs zs H Q => ∃ (a : Addr) (ns : List Int) (d : Int), vs = [V.ref a] ∧ zs = [V.int d] ∧ SqL K H a (ns.map V.int) ∧ (ns = [] → Q (.int d) H) ∧ ∀ m, m ∈ ns → (∀ y, y ∈ ns → y ≤ m) → Q (.int m) H
theorem cr_maxD (hc : X.calm = true) (hu : X.A.units + 64 < cLine) : CallRK X (.builtin "max") [Str.ofString "default"] (rMaxD X.K) := by
  intro pins s σ H vs zs us ws Q I r rz h
  obtain ⟨a, ns, d, rfl, rfl, hs, h0, q⟩ := h
  obtain ⟨its, rv, hl, _⟩ := I.list hs
  rw [Vals.ref1 r]
  cases rz with
  | cons r1 r2 =>
    cases r2
    obtain ⟨t, rfl⟩ := r1
    refine max_list_datum_default (α := Int) (xs := ns) (I.ok.hd hc) hl.isList (by rw [List.toList_toArray]; exact HoldAll.of_ints rv.ints) (by show X.A.units + 1 + 0 < cLine; omega) (fun e h' tk hk => ?_) (fun y ys i v h' tk e hi hv hk => ?_)
    · exact ⟨.int _, H, I.kept hk, ⟨_, rfl⟩, h0 e⟩
    · obtain ⟨t, rfl⟩ := holds_int_is hv
      subst e
      obtain ⟨h1, h2⟩ := maxOf_spec ys y
      exact ⟨.int _, H, I.kept hk, ⟨_, rfl⟩, q _ h1 h2⟩
end
end CB

namespace CB
open PySem PySem.Spec PyProof.Rows L2
/-! ### a def with keyword-only parameters without defaults -/
def OkK (P : Program) (w : World) (K : PySem.W.Frag) (mg : Str → Option Value) (base : Heap) (k : Nat) (a : Addr) (ps : List Str) (n : Nat) (ks : List Str) (sp : Sp) : Prop :=
  ∃ fd : FuncData, FnOk P w K mg base (L2.CX P w) k a fd ps sp ∧ KBn K fd ps n ks (fun us ws => us ++ ws) (fun vs zs => vs ++ zs) ∧ PySem.W.keepIn K (.ref a) = true
theorem okK_of {P : Program} {w : World} {K : PySem.W.Frag} {mg : Str → Option Value} {base : Heap} {k : Nat} {d : DefG} {N ps : List Str} {n : Nat} {ks : List Str} {sp : Sp} (D : Dn K d) (hd : d.dfl = []) (S : FnScope N ps d.scope)
    (hb : ∀ (kV doc pm : Value) (an : Option Addr) (cdv ct : Value) (us ws : List Value), us.length = n → ws.length = ks.length → bindArgs (PySem.W.fnOf d.name d.qual d.params d.body d.scope .none kV doc pm an cdv ct) ⟨us, ks.zip ws⟩ = pure (ps.zip (us ++ ws)))
    (len : ∀ vs H Q E, sp vs H Q E → vs.length = ps.length)
    (hbody : ∀ (cdv : Value) (A : Around) (outer : List Env) (s : Shared) (H : Hp) (vs : List V) (Q : VK) (E : XK), Room k (A.deeper (envOfC d.qual d.scope s.heap.objs.size (d.at_ K) cdv)) → sp vs H Q E →
      ∃ t, PSs (cxOf (L2.CX P w) P w K mg base N d.qual d.scope (d.at_ K) cdv A outer s H E) d.body t ∧ t { nx := fun _ H' => Q .non H', rt := Q } (start N vs) H) :
    OkK P w K mg base (k + 1) (d.at_ K) ps n ks sp := by
  obtain ⟨fd, F⟩ := D
  have e1 : d.dvs K = [] := by unfold DefG.dvs; rw [hd]; rfl
  rw [e1] at F
  refine ⟨fd, F.ok S len hbody, ?_, F.kp⟩
  obtain ⟨oc, od, dV, kV, doc, pm, an, cdv, ct, osl, rfl, lk, hcd, hD, hK⟩ := F.ex
  rcases hD with ⟨_, rfl⟩ | ⟨e, _⟩
  · exact ⟨fun s us ws X l1 l2 => BindsTo.of_looks fun M => KwChain.looks (D := 0) X (l := []) (fun q hq => absurd hq (by simp)) (hb kV doc pm an cdv ct us ws l1 l2), fun r1 r2 => r1.append r2⟩
  · exact absurd rfl e
section
variable {X : Cx} {CX : CXT} {k n : Nat} {f : Addr} {fd : FuncData} {ps ks : List Str} {sp : Sp} {E : L2.St → XK} {x : Str} {p pos : Pos} {e : Expr} {es : List Expr} {kws : List Keyword} {t tk : TA} {g : List Value → List Value → List Value} {gV : List V → List V → List V}
def tCallNS (n m : Nat) (sp : Sp) (gV : List V → List V → List V) (E : L2.St → XK) (t tk : TA) : TE := fun σ H Q => t σ H fun vs H1 => tk σ H1 fun zs H2 => vs.length = n ∧ zs.length = m ∧ sp (gV vs zs) H2 Q (E σ)
end
end CB

namespace CB
open PySem PySem.Spec PyProof.Rows L2
/-! ### settled signs -/
theorem pw_nn {s : Int} (h : 0 ≤ s) : ∀ i k, 0 ≤ pw s i k
  | 0, 0 => by show (0 : Int) ≤ 1; decide
  | 0, _ + 1 => by simp [pw]
  | i + 1, 0 => by rw [pw]; exact Int.mul_nonneg h (pw_nn h i 0)
  | i + 1, k + 1 => by rw [pw]; exact Int.add_nonneg (Int.mul_nonneg h (pw_nn h i (k + 1))) (pw_nn h i k)
/-- no two coefficients have opposite signs, and the value at 0 is not 0 -/
def StF (g : Nat → Int) : Prop := g 0 ≠ 0 ∧ ((∀ k, 0 ≤ g k) ∨ ∀ k, g k ≤ 0)
theorem StF.congr {f g : Nat → Int} (h : ∀ k, f k = g k) (s : StF f) : StF g := by
  have : f = g := funext h
  rwa [← this]
theorem StF.neg {g : Nat → Int} (h : StF g) : StF fun k => -g k := ⟨fun z => h.1 (by have : -g 0 = 0 := z; omega), by
  rcases h.2 with p | p
  · exact .inr fun k => by have := p k; show -g k ≤ 0; omega
  · exact .inl fun k => by have := p k; show 0 ≤ -g k; omega⟩
theorem shV_neg {s : Int} {f : Nat → Int} {n k : Nat} : shV s (fun i => -f i) n k = -shV s f n k := by
  have e := shV_mul (s := s) (c := -1) (f := f) (n := n) k
  rw [show (fun i => -1 * f i) = (fun i => -f i) from funext fun i => by omega] at e
  omega
theorem sumTo_nn {F : Nat → Int} : ∀ n, (∀ i, i < n → 0 ≤ F i) → 0 ≤ sumTo F n
  | 0, _ => Int.le_refl _
  | n + 1, h => Int.add_nonneg (sumTo_nn n fun i hi => h i (by omega)) (h n (by omega))
theorem st_pos {t : Int} {g : Nat → Int} {n : Nat} (ht : 0 ≤ t) (hz : ∀ i, n ≤ i → g i = 0) (g0 : g 0 ≠ 0) (p : ∀ k, 0 ≤ g k) : StF fun k => shV t g n k := by
  refine ⟨?_, .inl fun k => sumTo_nn n fun i _ => Int.mul_nonneg (p i) (pw_nn ht i k)⟩
  show shV t g n 0 ≠ 0
  cases n with
  | zero => exact absurd (hz 0 (Nat.le_refl _)) g0
  | succ n =>
    unfold shV
    rw [sumTo_first]
    have a := sumTo_nn (F := fun i => g (i + 1) * pw t (i + 1) 0) n fun i _ => Int.mul_nonneg (p _) (pw_nn ht _ 0)
    have b := p 0
    have c : g 0 * pw t 0 0 = g 0 := by show g 0 * 1 = g 0; omega
    rw [c]
    omega
/-- settled from further numbers too -/
theorem StF.more {t : Int} {g : Nat → Int} {n : Nat} (s : StF g) (ht : 0 ≤ t) (hz : ∀ i, n ≤ i → g i = 0) : StF fun k => shV t g n k := by
  rcases s.2 with p | p
  · exact st_pos ht hz s.1 p
  · have z := (st_pos (t := t) (g := fun k => -g k) (n := n) ht (fun i hi => by rw [hz i hi]; rfl) (fun w => s.1 (by omega)) (fun k => by have := p k; omega)).neg
    exact z.congr fun k => by rw [shV_neg]; omega
/-- sizes -/
theorem pw_bits {s : Int} {b : Nat} (h : s.natAbs < 2 ^ b) : ∀ i k, (pw s i k).natAbs < 2 ^ ((b + 1) * i + 1)
  | 0, 0 => by show 1 < 2 ^ ((b + 1) * 0 + 1); rw [Nat.mul_zero]; decide
  | 0, _ + 1 => Nat.pow_pos (by decide)
  | i + 1, 0 => by
    rw [pw, Nat.mul_add (b + 1), Nat.mul_one]
    exact abs_mono (abs_lt_mul h (pw_bits h i 0)) (by omega)
  | i + 1, k + 1 => by
    rw [pw, Nat.mul_add (b + 1), Nat.mul_one]
    exact abs_mono (sz_add (abs_lt_mul h (pw_bits h i (k + 1))) (pw_bits h i k)) (by omega)
theorem shV_bits {s : Int} {f : Nat → Int} {kb b n : Nat} (h : s.natAbs < 2 ^ b) (hf : ∀ i, (f i).natAbs < 2 ^ kb) (k : Nat) : (shV s f n k).natAbs < 2 ^ (kb + ((b + 1) * n + 1) + n) := by
  unfold shV
  exact sumTo_bits n fun i hi => abs_lt_mul (hf i) (abs_mono (pw_bits h i k) (by have := Nat.mul_le_mul_left (b + 1) (show i ≤ n by omega); omega))
end CB

namespace CB.Z
open PySem PySem.Spec PyProof.Rows L2
end CB.Z

namespace CB
open PySem PySem.Spec PyProof.Rows L2
/-- a hook that looks its facts up in a tree of the objects -/
def hkT (H : PySem.W.Hook) (ob : PySem.W.SharedT → H.α) (he : ∀ s : PySem.W.SharedT, ob s = H.obs s.abs) : PySem.W.Hook where
  α := Option H.α
  obs := fun s => match HandSHeadRun.treeOf s with
    | some x => HandSHeadRun.frS x fun x => some (ob x)
    | none => none
  val := fun w => some (H.val w)
  says := H.says
  of := fun w s e => by
    have e1 : (match HandSHeadRun.treeOf s with
      | some x => HandSHeadRun.frS x fun x => some (ob x)
      | none => none) = some (H.val w) := e
    cases h : HandSHeadRun.treeOf s with
    | none => rw [h] at e1; cases e1
    | some x =>
      rw [h] at e1
      have e2 : (HandSHeadRun.frS x fun x => some (ob x)) = some (H.val w) := e1
      rw [HandSHeadRun.frS_eq] at e2
      have e3 := Option.some.inj e2
      rw [he, (HandSHeadRun.treeOf_eq h).1] at e3
      exact H.of w s e3
  keeps := H.keeps
end CB

namespace CB
open PySem PySem.Spec PyProof.Rows L2
/-- a list without zeros at its end, with these coefficients -/
structure Tf (zs : List Int) (f : Nat → Int) : Prop where
  at_ : ∀ k, zs.getD k 0 = f k
  tr : zs.length = 0 ∨ zs.getD (zs.length - 1) 0 ≠ 0
theorem Tf.nil {f : Nat → Int} (h : ∀ k, f k = 0) : Tf [] f := ⟨fun k => by rw [h]; rfl, .inl rfl⟩
theorem Tf.self {zs : List Int} {f : Nat → Int} (t : Tf zs f) : Tf zs (ff zs) := ⟨fun _ => rfl, t.tr⟩
theorem Tf.congr {zs : List Int} {f g : Nat → Int} (t : Tf zs f) (h : ∀ k, f k = g k) : Tf zs g := ⟨fun k => by rw [t.at_, h], t.tr⟩
theorem Tf.len {zs : List Int} {f : Nat → Int} {n : Nat} (t : Tf zs f) (h : ∀ k, n ≤ k → f k = 0) : zs.length ≤ n := Decidable.byContradiction fun c => by
  rcases t.tr with z | z
  · omega
  · exact z (by rw [t.at_]; exact h _ (by omega))
theorem Tf.lenE {zs ws : List Int} {f g : Nat → Int} (a : Tf zs f) (b : Tf ws g) (h : ∀ k, f k = 0 ↔ g k = 0) : zs.length = ws.length := by
  have h1 : zs.length ≤ ws.length := a.len fun k hk => by rw [h, ← b.at_]; exact getD_end hk
  have h2 : ws.length ≤ zs.length := b.len fun k hk => by rw [← h, ← a.at_]; exact getD_end hk
  omega
theorem Tf.uniq {zs ws : List Int} {f g : Nat → Int} (a : Tf zs f) (b : Tf ws g) (h : ∀ k, f k = g k) : zs = ws :=
  list_ext (a.lenE b fun k => by rw [h]) fun k => by rw [a.at_, b.at_, h]
theorem Trim.tf {xs : List Int} {n : Nat} (t : Trim xs n) : Tf (xs.take n) (ff xs) := by
  have hl : (xs.take n).length = n := by rw [List.length_take]; have := t.le; omega
  refine ⟨t.take, ?_⟩
  rw [hl, t.take]
  exact t.at_
theorem Pq.tf {cs ks : List Int} {d e : Int} (p : Pq cs d ks e) : Tf ks (ff ks) := ⟨fun _ => rfl, p.last.elim (fun h => .inl (by rw [h]; rfl)) .inr⟩
/-- the size that is found so far -/
structure TrA (xs : List Int) (i n : Nat) : Prop where
  le : n ≤ i
  up : ∀ k, n ≤ k → k < i → xs.getD k 0 = 0
  at_ : n = 0 ∨ xs.getD (n - 1) 0 ≠ 0
theorem TrA.fin {xs : List Int} {n : Nat} (t : TrA xs xs.length n) : Trim xs n := ⟨t.le, fun k hk => if c : k < xs.length then t.up k hk c else getD_end (by omega), t.at_⟩
theorem TrA.yes {xs : List Int} {i n : Nat} (t : TrA xs i n) (h : xs.getD i 0 ≠ 0) : TrA xs (i + 1) (i + 1) := ⟨Nat.le_refl _, fun k h1 h2 => by omega, .inr h⟩
theorem TrA.no {xs : List Int} {i n : Nat} (t : TrA xs i n) (h : xs.getD i 0 = 0) : TrA xs (i + 1) n := ⟨by have := t.le; omega, fun k h1 h2 => by
  by_cases c : k = i
  · rw [c]; exact h
  · exact t.up k h1 (by omega), t.at_⟩
/-- a sum in the making -/
structure SuA (fs xs ys : List Int) (N i j : Nat) : Prop where
  len : fs.length = N
  at_ : ∀ k, fs.getD k 0 = (if k < i then xs.getD k 0 else 0) + if k < j then ys.getD k 0 else 0
theorem SuA.start {xs ys : List Int} {N : Nat} : SuA (List.replicate N 0) xs ys N 0 0 := ⟨List.length_replicate, fun k => by
  rw [List.getD_eq_getElem?_getD, List.getElem?_replicate]
  split <;> rfl⟩
theorem SuA.one {fs xs ys : List Int} {N i : Nat} (m : SuA fs xs ys N i 0) (h : i < N) : SuA (fs.set i (xs.getD i 0)) xs ys N (i + 1) 0 := ⟨by rw [List.length_set, m.len], fun k => by
  rw [getD_set (by rw [m.len]; exact h)]
  by_cases c : k = i
  · subst c
    rw [if_pos rfl, if_pos (show k < k + 1 by omega), if_neg (show ¬ k < 0 by omega)]
    omega
  · rw [if_neg c, m.at_]
    congr 1
    by_cases c2 : k < i
    · rw [if_pos c2, if_pos (by omega)]
    · rw [if_neg c2, if_neg (by omega)]⟩
theorem SuA.two {fs xs ys : List Int} {v : Int} {N i j : Nat} (m : SuA fs xs ys N i j) (h : j < N) (hv : v = fs.getD j 0 + ys.getD j 0) : SuA (fs.set j v) xs ys N i (j + 1) := ⟨by rw [List.length_set, m.len], fun k => by
  rw [getD_set (by rw [m.len]; exact h)]
  by_cases c : k = j
  · subst c
    rw [if_pos rfl, hv, m.at_, if_neg (show ¬ k < k by omega), if_pos (show k < k + 1 by omega)]
    omega
  · rw [if_neg c, m.at_]
    congr 1
    by_cases c2 : k < j
    · rw [if_pos c2, if_pos (by omega)]
    · rw [if_neg c2, if_neg (by omega)]⟩
theorem SuA.fin {fs xs ys : List Int} {N : Nat} (m : SuA fs xs ys N xs.length ys.length) (k : Nat) : fs.getD k 0 = xs.getD k 0 + ys.getD k 0 := by
  rw [m.at_]
  congr 1
  · split
    · rfl
    · rw [getD_end (by omega)]
  · split
    · rfl
    · rw [getD_end (by omega)]
/-! ### coefficients as rational numbers -/
def rv (cs : List Int) (d : Int) (i : Nat) : Rat := ((cs.getD i 0 : Int) : Rat) / ((d : Int) : Rat)
theorem ratc_ne {d : Int} (h : d ≠ 0) : ((d : Int) : Rat) ≠ 0 := by exact_mod_cast h
theorem rv_eq {cs ks : List Int} {d e : Int} {i : Nat} (hd : d ≠ 0) (he : e ≠ 0) : rv cs d i = rv ks e i ↔ cs.getD i 0 * e = ks.getD i 0 * d := by
  have h1 := ratc_ne hd
  have h2 := ratc_ne he
  have key : cs.getD i 0 * e = ks.getD i 0 * d ↔ ((cs.getD i 0 : Int) : Rat) * (e : Rat) = ((ks.getD i 0 : Int) : Rat) * (d : Rat) := by
    rw [← Rat.intCast_mul, ← Rat.intCast_mul, Rat.intCast_inj]
  rw [key]
  unfold rv
  constructor
  · intro h; grind
  · intro h; grind
theorem rv_zero {cs : List Int} {d : Int} {i : Nat} (hd : d ≠ 0) : rv cs d i = 0 ↔ cs.getD i 0 = 0 := by
  have h1 := ratc_ne hd
  have key : cs.getD i 0 = 0 ↔ ((cs.getD i 0 : Int) : Rat) = 0 := by
    rw [← Rat.intCast_zero, Rat.intCast_inj]
  rw [key]
  unfold rv
  constructor
  · intro h; grind
  · intro h; grind
theorem Pq.rv {cs ks : List Int} {d e : Int} (p : Pq cs d ks e) (hd : d ≠ 0) (i : Nat) : rv ks e i = CB.rv cs d i :=
  (rv_eq (by have := p.pos; omega) hd).mpr (p.eq i)
end CB

namespace CB
open PySem PySem.Spec PyProof.Rows L2
def sR (f : Nat → Rat) : Nat → Rat
  | 0 => 0
  | n + 1 => sR f n + f n
theorem sR_congr {f g : Nat → Rat} : ∀ n, (∀ i, i < n → f i = g i) → sR f n = sR g n
  | 0, _ => rfl
  | n + 1, h => by rw [sR, sR, sR_congr n fun i hi => h i (by omega), h n (by omega)]
theorem sR_zero {f : Nat → Rat} : ∀ n, (∀ i, i < n → f i = 0) → sR f n = 0
  | 0, _ => rfl
  | n + 1, h => by rw [sR, sR_zero n fun i hi => h i (by omega), h n (by omega)]; grind
theorem sR_add (f g : Nat → Rat) : ∀ n, sR (fun i => f i + g i) n = sR f n + sR g n
  | 0 => by show (0 : Rat) = 0 + 0; grind
  | n + 1 => by rw [sR, sR, sR, sR_add f g n]; grind
theorem sR_mul (c : Rat) (f : Nat → Rat) : ∀ n, sR (fun i => c * f i) n = c * sR f n
  | 0 => by show (0 : Rat) = c * 0; grind
  | n + 1 => by rw [sR, sR, sR_mul c f n]; grind
theorem sR_one {f : Nat → Rat} {k : Nat} : ∀ n, k < n → (∀ i, i < n → i ≠ k → f i = 0) → sR f n = f k
  | 0, h, _ => absurd h (Nat.not_lt_zero _)
  | n + 1, h, z => by
    rw [sR]
    by_cases c : k = n
    · subst c
      rw [sR_zero k fun i hi => z i (by omega) (by omega)]
      grind
    · rw [sR_one n (by omega) fun i hi ne => z i (by omega) ne, z n (by omega) (by omega)]
      grind
theorem sR_more {f : Nat → Rat} {n : Nat} (h : ∀ i, n ≤ i → f i = 0) : ∀ m, sR f (n + m) = sR f n
  | 0 => rfl
  | m + 1 => by rw [← Nat.add_assoc, sR, sR_more h m, h _ (by omega)]; grind
theorem sR_cast (f : Nat → Int) : ∀ n, ((sumTo f n : Int) : Rat) = sR (fun i => ((f i : Int) : Rat)) n
  | 0 => rfl
  | n + 1 => by rw [sumTo, sR, Rat.intCast_add, sR_cast f n]
/-- the product's coefficient -/
def cR (f g : Nat → Rat) (k : Nat) : Rat := sR (fun i => f i * g (k - i)) (k + 1)
theorem cR_congr {f f' g g' : Nat → Rat} (h1 : ∀ i, f i = f' i) (h2 : ∀ i, g i = g' i) (k : Nat) : cR f g k = cR f' g' k :=
  sR_congr _ fun i _ => by rw [h1, h2]
theorem cR_addl (f f' g : Nat → Rat) (k : Nat) : cR (fun i => f i + f' i) g k = cR f g k + cR f' g k := by
  unfold cR
  rw [← sR_add]
  exact sR_congr _ fun i _ => by grind
theorem cR_addr (f g g' : Nat → Rat) (k : Nat) : cR f (fun i => g i + g' i) k = cR f g k + cR f g' k := by
  unfold cR
  rw [← sR_add]
  exact sR_congr _ fun i _ => by grind
theorem cR_mull (c : Rat) (f g : Nat → Rat) (k : Nat) : cR (fun i => c * f i) g k = c * cR f g k := by
  unfold cR
  rw [← sR_mul]
  exact sR_congr _ fun i _ => by grind
theorem cR_mulr (c : Rat) (f g : Nat → Rat) (k : Nat) : cR f (fun i => c * g i) k = c * cR f g k := by
  unfold cR
  rw [← sR_mul]
  exact sR_congr _ fun i _ => by grind
theorem cR_zero {f g : Nat → Rat} {n m k : Nat} (hf : ∀ i, n ≤ i → f i = 0) (hg : ∀ i, m ≤ i → g i = 0) (h : n + m ≤ k + 1) : cR f g k = 0 :=
  sR_zero _ fun i hi => by
    by_cases c : n ≤ i
    · rw [hf i c]; grind
    · rw [hg (k - i) (by omega)]; grind
theorem cR_zl {f g : Nat → Rat} {k : Nat} (hf : ∀ i, f i = 0) : cR f g k = 0 := sR_zero _ fun i _ => by rw [hf i]; grind
theorem cR_zr {f g : Nat → Rat} {k : Nat} (hg : ∀ i, g i = 0) : cR f g k = 0 := sR_zero _ fun i _ => by rw [hg]; grind
theorem cR_top {f g : Nat → Rat} {n m : Nat} (hf : ∀ i, n < i → f i = 0) (hg : ∀ i, m < i → g i = 0) : cR f g (n + m) = f n * g m := by
  unfold cR
  rw [sR_one (k := n) _ (by omega) fun i hi ne => by
    by_cases c : n < i
    · rw [hf i c]; grind
    · rw [hg (n + m - i) (by omega)]; grind]
  rw [show n + m - n = m by omega]
/-- n is the degree plus 1 -/
structure Ln (P : Nat → Rat) (n : Nat) : Prop where
  up : ∀ i, n ≤ i → P i = 0
  at_ : n = 0 ∨ P (n - 1) ≠ 0
theorem Ln.congr {P Q : Nat → Rat} {n : Nat} (l : Ln P n) (h : ∀ i, P i = Q i) : Ln Q n := ⟨fun i hi => by rw [← h]; exact l.up i hi, l.at_.imp id fun z w => z (by rw [h]; exact w)⟩
theorem Ln.le {P : Nat → Rat} {n m : Nat} (l : Ln P n) (h : ∀ i, m ≤ i → P i = 0) : n ≤ m := Decidable.byContradiction fun c => by
  rcases l.at_ with z | z
  · omega
  · exact z (h _ (by omega))
theorem Ln.uniq {P : Nat → Rat} {n m : Nat} (a : Ln P n) (b : Ln P m) : n = m := Nat.le_antisymm (a.le b.up) (b.le a.up)
theorem Tf.ln {zs : List Int} {f : Nat → Int} {d : Int} (t : Tf zs f) (hd : d ≠ 0) : Ln (rv zs d) zs.length :=
  ⟨fun i hi => (rv_zero hd).mpr (getD_end hi), t.tr.imp id fun z w => z ((rv_zero hd).mp w)⟩
/-- v is the degree bound for c and for p = a - b and s = a + b -/
def DB (C p s : Nat → Rat) (v : Int) : Prop := ∃ mc mm mt : Nat, Ln C mc ∧ Ln p mm ∧ Ln s mt ∧
  ((mt ≤ mm ∧ v = max (-1) ((mc : Int) - mm)) ∨
   (mm < mt ∧ ((∃ w : Int, (w : Rat) * s (mt - 1) = -2 * (if 2 ≤ mt then p (mt - 2) else 0) ∧ v = max (-1) (max ((mc : Int) - mt + 1) w)) ∨
     ((∀ w : Int, (w : Rat) * s (mt - 1) ≠ -2 * (if 2 ≤ mt then p (mt - 2) else 0)) ∧ v = max (-1) ((mc : Int) - mt + 1)))))
theorem DB.uniq {C p s : Nat → Rat} {v v' : Int} (a : DB C p s v) (b : DB C p s v') : v = v' := by
  obtain ⟨mc, mm, mt, l1, l2, l3, h⟩ := a
  obtain ⟨mc', mm', mt', l1', l2', l3', h'⟩ := b
  cases l1.uniq l1'
  cases l2.uniq l2'
  cases l3.uniq l3'
  rcases h with ⟨h, e⟩ | ⟨h, e⟩ <;> rcases h' with ⟨h', e'⟩ | ⟨h', e'⟩
  · rw [e, e']
  · omega
  · omega
  · have s0 : s (mt - 1) ≠ 0 := l3.at_.resolve_left (by omega)
    rcases e with ⟨w, hw, e⟩ | ⟨hw, e⟩ <;> rcases e' with ⟨w', hw', e'⟩ | ⟨hw', e'⟩
    · have : (w : Rat) = (w' : Rat) := by grind
      rw [Rat.intCast_inj] at this
      rw [e, e', this]
    · exact absurd hw (hw' w)
    · exact absurd hw' (hw w')
    · rw [e, e']
theorem DB.congr {C p s C' p' s' : Nat → Rat} {v : Int} (a : DB C p s v) (h1 : ∀ i, C i = C' i) (h2 : ∀ i, p i = p' i) (h3 : ∀ i, s i = s' i) : DB C' p' s' v := by
  obtain ⟨mc, mm, mt, l1, l2, l3, h⟩ := a
  refine ⟨mc, mm, mt, l1.congr h1, l2.congr h2, l3.congr h3, ?_⟩
  rw [← h2, ← h3]
  exact h
theorem DB.least {A B C x y : Nat → Rat} {v : Int} {m nA nB : Nat} (hA : ∀ i, nA ≤ i → A i = 0) (hB : ∀ i, nB ≤ i → B i = 0) (lx : Ln x (m + 1)) (y0 : ∀ i, m < i → y i = 0) (y1 : y m = x m) (y2 : ∀ j, m = j + 1 → y j = x j + (m : Rat) * x m)
    (hC : ∀ i, C i = cR A y i - cR B x i) (nz : ∃ i, C i ≠ 0) (h : DB C (fun i => A i - B i) (fun i => A i + B i) v) : (m : Int) ≤ v := by
  obtain ⟨mc, mm, mt, l1, l2, l3, h⟩ := h
  have xm : x m ≠ 0 := lx.at_.resolve_left (by omega)
  have x0 : ∀ i, m < i → x i = 0 := fun i hi => lx.up i (by omega)
  have z0 : ∀ i, m ≤ i → y i - x i = 0 := fun i hi => by
    by_cases c : i = m
    · rw [c, y1]; grind
    · rw [y0 i (by omega), x0 i (by omega)]; grind
  have w0 : ∀ i, m < i → y i + x i = 0 := fun i hi => by rw [y0 i hi, x0 i hi]; grind
  have two : ∀ k, 2 * C k = cR (fun i => A i - B i) (fun i => y i + x i) k + cR (fun i => A i + B i) (fun i => y i - x i) k := fun k => by
    rw [hC]
    have e1 : cR (fun i => A i - B i) (fun i => y i + x i) k = cR A y k + cR A x k - cR B y k - cR B x k := by
      have z1 : ∀ i, (fun i => A i - B i) i = (fun i => A i + (-1) * B i) i := fun i => by show A i - B i = A i + (-1) * B i; grind
      rw [cR_congr z1 (fun _ => rfl), cR_addl, cR_addr, cR_addr, cR_mull, cR_mull]
      grind
    have e2 : cR (fun i => A i + B i) (fun i => y i - x i) k = cR A y k - cR A x k + cR B y k - cR B x k := by
      have z1 : ∀ i, (fun i => y i - x i) i = (fun i => y i + (-1) * x i) i := fun i => by show y i - x i = y i + (-1) * x i; grind
      rw [cR_congr (fun _ => rfl) z1, cR_addl, cR_addr, cR_addr, cR_mulr, cR_mulr]
      grind
    rw [e1, e2]
    grind
  generalize hp : (fun i => A i - B i) = p at *
  generalize hs : (fun i => A i + B i) = s at *
  have half : ∀ k, cR p (fun i => y i + x i) k + cR s (fun i => y i - x i) k = 0 → C k = 0 := fun k e => by
    have := two k
    grind
  have halfn : ∀ k, cR p (fun i => y i + x i) k + cR s (fun i => y i - x i) k ≠ 0 → C k ≠ 0 := fun k e w => e (by rw [← two, w]; grind)
  rcases h with ⟨h, e⟩ | ⟨h, e⟩
  · -- the degree of p is the greater one
    by_cases c : mm = 0
    · obtain ⟨i, hi⟩ := nz
      refine absurd (half i ?_) hi
      rw [cR_zl fun j => l2.up j (by omega), cR_zl fun j => l3.up j (by omega)]
      grind
    · obtain ⟨a, rfl⟩ : ∃ a, mm = a + 1 := ⟨mm - 1, by omega⟩
      have pa : p a ≠ 0 := l2.at_.resolve_left (by omega)
      have lc : Ln C (a + m + 1) := by
        refine ⟨fun i hi => half i ?_, .inr (halfn _ ?_)⟩
        · rw [cR_zero (n := a + 1) (m := m + 1) l2.up (fun j hj => w0 j (by omega)) (by omega), cR_zero (n := a + 1) (m := m) (fun j hj => l3.up j (by omega)) z0 (by omega)]
          grind
        · rw [show a + m + 1 - 1 = a + m by omega, cR_top (n := a) (m := m) (fun j hj => l2.up j (by omega)) w0, cR_zero (n := a + 1) (m := m) (fun j hj => l3.up j (by omega)) z0 (by omega), y1]
          intro z
          have : p a * x m = 0 := by grind
          grind
      cases l1.uniq lc
      omega
  · obtain ⟨t, rfl⟩ : ∃ t, mt = t + 1 := ⟨mt - 1, by omega⟩
    have st : s t ≠ 0 := l3.at_.resolve_left (by omega)
    have s0 : ∀ i, t < i → s i = 0 := fun i hi => l3.up i (by omega)
    have pt : ∀ i, t ≤ i → p i = 0 := fun i hi => l2.up i (by omega)
    have bound : (mc : Int) - ((t + 1 : Nat) : Int) + 1 ≤ v := by
      rcases e with ⟨w, _, e⟩ | ⟨_, e⟩ <;> omega
    -- the coefficient at t + m - 1
    have zm : ∀ j, m = j + 1 → y j - x j = (m : Rat) * x m := fun j hj => by rw [y2 j hj]; grind
    have zz : ∀ j, m = j + 1 → ∀ i, j < i → y i - x i = 0 := fun j hj i hi => z0 i (by omega)
    have above : ∀ i, t + m ≤ i → C i = 0 := fun i hi => half i (by
      rw [cR_zero (n := t) (m := m + 1) pt (fun j hj => w0 j (by omega)) (by omega), cR_zero (n := t + 1) (m := m) (fun j hj => s0 j (by omega)) z0 (by omega)]
      grind)
    by_cases c : t + m = 0
    · obtain ⟨i, hi⟩ := nz
      exact absurd (above i (by omega)) hi
    have key : cR p (fun i => y i + x i) (t + m - 1) + cR s (fun i => y i - x i) (t + m - 1) = x m * (2 * (if 2 ≤ t + 1 then p (t + 1 - 2) else 0) + (m : Rat) * s t) := by
      have k1 : cR p (fun i => y i + x i) (t + m - 1) = x m * (2 * (if 2 ≤ t + 1 then p (t + 1 - 2) else 0)) := by
        by_cases c1 : t = 0
        · subst c1
          rw [cR_zl fun j => pt j (by omega), if_neg (by omega)]
          grind
        · obtain ⟨u, rfl⟩ : ∃ u, t = u + 1 := ⟨t - 1, by omega⟩
          rw [show u + 1 + m - 1 = u + m by omega, cR_top (n := u) (m := m) (fun j hj => pt j (by omega)) w0, if_pos (by omega), show u + 1 + 1 - 2 = u by omega, y1]
          grind
      have k2 : cR s (fun i => y i - x i) (t + m - 1) = x m * ((m : Rat) * s t) := by
        by_cases c1 : m = 0
        · subst c1
          rw [cR_zr fun j => z0 j (by omega)]
          have : ((0 : Nat) : Rat) = 0 := rfl
          grind
        · obtain ⟨u, hu⟩ : ∃ u, m = u + 1 := ⟨m - 1, by omega⟩
          rw [show t + m - 1 = t + u by omega, cR_top (n := t) (m := u) s0 (zz u hu), zm u hu]
          grind
      rw [k1, k2]
      grind
    by_cases c2 : 2 * (if 2 ≤ t + 1 then p (t + 1 - 2) else 0) + (m : Rat) * s t = 0
    · rcases e with ⟨w, hw, e⟩ | ⟨hw, e⟩
      · rw [show t + 1 - 1 = t by omega] at hw
        have : (w : Rat) = (((m : Nat) : Int) : Rat) := by
          have h2 : (((m : Nat) : Int) : Rat) = (m : Rat) := rfl
          rw [h2]
          have : ((w : Rat) - (m : Rat)) * s t = 0 := by grind
          grind
        rw [Rat.intCast_inj] at this
        omega
      · refine absurd ?_ (hw (m : Int))
        rw [show t + 1 - 1 = t by omega]
        have h2 : (((m : Nat) : Int) : Rat) = (m : Rat) := rfl
        rw [h2]
        grind
    · have lc : Ln C (t + m) := by
        refine ⟨above, .inr (halfn _ ?_)⟩
        rw [key]
        intro z
        grind
      cases l1.uniq lc
      omega
theorem pw_diag (s : Int) : ∀ i, pw s i i = 1
  | 0 => rfl
  | i + 1 => by
    show s * pw s i (i + 1) + pw s i i = 1
    rw [pw_diag s i, pw_high s i (i + 1) (by omega)]
    omega
theorem pw_near (s : Int) : ∀ i, pw s (i + 1) i = ((i : Int) + 1) * s
  | 0 => by show s * 1 = _; simp
  | i + 1 => by
    show s * pw s (i + 1) (i + 1) + pw s (i + 1) i = _
    rw [pw_near s i, pw_diag s (i + 1)]
    push_cast
    grind
theorem IsSh.top {s : Int} {zs cs : List Int} (h : IsSh s zs cs) {m : Nat} (hl : cs.length = m + 1) : zs.getD m 0 = cs.getD m 0 ∧ ∀ j, m = j + 1 → zs.getD j 0 = cs.getD j 0 + (m : Int) * s * cs.getD m 0 := by
  constructor
  · rw [h.at_, hl]
    unfold shV
    rw [sumTo_one (k := m) _ (by omega) fun i hi ne => by rw [pw_high s i m (by omega), Int.mul_zero], pw_diag, Int.mul_one]
  · intro j hj
    subst hj
    rw [h.at_, hl]
    unfold shV
    rw [sumTo, sumTo_one (k := j) _ (by omega) fun i hi ne => by rw [pw_high s i j (by omega), Int.mul_zero], pw_diag, pw_near]
    push_cast
    grind
end CB

namespace CB
open PySem PySem.Spec PyProof.Rows L2
theorem sR_mulr (c : Rat) (f : Nat → Rat) (n : Nat) : sR (fun i => f i * c) n = sR f n * c := by
  rw [sR_congr (g := fun i => c * f i) n fun i _ => by grind, sR_mul]
  grind
theorem sR_le {f : Nat → Rat} {n m : Nat} (h : ∀ i, n ≤ i → f i = 0) (l : n ≤ m) : sR f m = sR f n := by
  obtain ⟨d, rfl⟩ : ∃ d, m = n + d := ⟨m - n, by omega⟩
  exact sR_more h d
/-- powers -/
def rp (x : Rat) : Nat → Rat
  | 0 => 1
  | n + 1 => rp x n * x
/-- no coefficient from n on -/
def Sup (f : Nat → Rat) (n : Nat) : Prop := ∀ i, n ≤ i → f i = 0
theorem Sup.le {f : Nat → Rat} {n m : Nat} (h : Sup f n) (l : n ≤ m) : Sup f m := fun i hi => h i (by omega)
theorem rv_sup {cs : List Int} {d : Int} {n : Nat} (hd : d ≠ 0) (h : cs.length ≤ n) : Sup (rv cs d) n := fun i hi => (rv_zero hd).mpr (getD_end (by omega))
/-- the value; never more than 400 coefficients -/
def ev (f : Nat → Rat) (x : Rat) : Rat := sR (fun i => f i * rp x i) 400
/-- moved by s -/
def sh (s : Int) (f : Nat → Rat) (k : Nat) : Rat := sR (fun i => f i * ((pw s i k : Int) : Rat)) 400
theorem sh_n {s : Int} {f : Nat → Rat} {n : Nat} (h : Sup f n) (l : n ≤ 400) (k : Nat) : sh s f k = sR (fun i => f i * ((pw s i k : Int) : Rat)) n :=
  sR_le (fun i hi => by rw [h i hi]; grind) l
theorem IsSh.sh {s : Int} {zs cs : List Int} {e : Int} (h : IsSh s zs cs) (he : e ≠ 0) (l : cs.length ≤ 400) (k : Nat) : rv zs e k = CB.sh s (rv cs e) k := by
  rw [sh_n (rv_sup he (Nat.le_refl _)) l]
  unfold rv
  rw [h.at_]
  unfold shV
  rw [sR_cast]
  have := ratc_ne he
  have e1 : sR (fun i => ((cs.getD i 0 * pw s i k : Int) : Rat)) cs.length / ((e : Int) : Rat) = sR (fun i => ((cs.getD i 0 * pw s i k : Int) : Rat)) cs.length * (1 / ((e : Int) : Rat)) := by grind
  rw [e1, ← sR_mulr]
  exact sR_congr _ fun i _ => by rw [Rat.intCast_mul]; grind
/-! ### operators: coefficients by the power of the shift -/
/-- the coefficient k of the composition -/
def opC (A B : Nat → Nat → Rat) (k : Nat) (e : Nat) : Rat := sR (fun i => cR (A i) (sh (i : Int) (B (k - i))) e) (k + 1)
theorem opC_zero {A B : Nat → Nat → Rat} {p q k : Nat} (hA : ∀ i e, p ≤ i → A i e = 0) (hB : ∀ i e, q ≤ i → B i e = 0) (h : p + q ≤ k + 1) (e : Nat) : opC A B k e = 0 :=
  sR_zero _ fun i hi => by
    by_cases c : p ≤ i
    · exact cR_zl fun j => hA i j c
    · exact cR_zr fun j => sR_zero _ fun m _ => by rw [hB (k - i) m (by omega)]; grind
/-- what an operator gives on values u 0, u 1, .. from x on -/
def opV (A : Nat → Nat → Rat) (x : Rat) (u : Nat → Rat) (n : Nat) : Rat := sR (fun j => ev (A j) x * u j) n
end CB

namespace CB
open PySem PySem.Spec PyProof.Rows L2
abbrev Prt := List Int × Int
abbrev p0 : Prt := ([], 1)
/-- the part at i as a polynomial -/
def pA (L : List Prt) (i : Nat) : Nat → Rat := rv (L.getD i p0).1 (L.getD i p0).2
theorem getDp_end {α : Type} {L : List α} {i : Nat} {d : α} (h : L.length ≤ i) : L.getD i d = d := by rw [List.getD_eq_getElem?_getD, List.getElem?_eq_none h]; rfl
theorem getDp_set {α : Type} {L : List α} {i k : Nat} {v d : α} (h : i < L.length) : (L.set i v).getD k d = if k = i then v else L.getD k d := by
  rw [List.getD_eq_getElem?_getD, List.getD_eq_getElem?_getD, List.getElem?_set]
  by_cases c : i = k
  · subst c
    rw [if_pos rfl, if_pos h, if_pos rfl]
    rfl
  · rw [if_neg c, if_neg fun z => c z.symm]
theorem rv_nil (d : Int) (e : Nat) : rv [] d e = 0 := by
  unfold rv
  show ((0 : Int) : Rat) / _ = 0
  rw [Rat.intCast_zero]
  grind
theorem pA_end {L : List Prt} {i : Nat} (h : L.length ≤ i) (e : Nat) : pA L i e = 0 := by unfold pA; rw [getDp_end h]; exact rv_nil _ _
/-- a part of these sizes, without zeros at its end -/
structure PB (kb db n : Nat) (c : Prt) : Prop where
  bits : ∀ x ∈ c.1, x.natAbs < 2 ^ kb
  pos : 1 ≤ c.2
  den : c.2.natAbs ≤ 2 ^ db
  len : c.1.length ≤ n
  tf : Tf c.1 (ff c.1)
theorem PB.at_ {kb db n : Nat} {c : Prt} (h : PB kb db n c) (i : Nat) : (c.1.getD i 0).natAbs < 2 ^ kb := by
  by_cases z : i < c.1.length
  · exact h.bits _ (getD_mem z)
  · rw [getD_end (by omega)]; exact Nat.pow_pos (by decide)
theorem pb0 {kb db n : Nat} : PB kb db n p0 := ⟨fun x h => absurd h (by simp), by decide, by show 1 ≤ 2 ^ db; exact Nat.pow_pos (by decide), Nat.zero_le _, ⟨fun _ => rfl, .inl rfl⟩⟩
theorem PB.mono {kb db n kb' db' n' : Nat} {c : Prt} (h : PB kb db n c) (h1 : kb ≤ kb') (h2 : db ≤ db') (h3 : n ≤ n') : PB kb' db' n' c :=
  ⟨fun x hx => abs_mono (h.bits x hx) h1, h.pos, Nat.le_trans h.den (Nat.pow_le_pow_right (by decide) h2), Nat.le_trans h.len h3, h.tf⟩
theorem PB.lt {kb db n : Nat} {c : Prt} (h : PB kb db n c) : c.2.natAbs < 2 ^ (db + 1) := Nat.lt_of_le_of_lt h.den (Nat.pow_lt_pow_right (by decide) (by omega))
theorem PB.ne {kb db n : Nat} {c : Prt} (h : PB kb db n c) : c.2 ≠ 0 := by have := h.pos; omega
theorem PB.sup {kb db n : Nat} {c : Prt} (h : PB kb db n c) : Sup (rv c.1 c.2) n := rv_sup h.ne h.len
/-- all of a list -/
def PBs (kb db n : Nat) (L : List Prt) : Prop := ∀ c ∈ L, PB kb db n c
theorem PBs.at_ {kb db n : Nat} {L : List Prt} (h : PBs kb db n L) (i : Nat) : PB kb db n (L.getD i p0) := by
  by_cases c : i < L.length
  · rw [List.getD_eq_getElem?_getD, List.getElem?_eq_getElem c]
    exact h _ (List.getElem_mem c)
  · rw [getDp_end (by omega)]; exact pb0
theorem PBs.sup {kb db n : Nat} {L : List Prt} (h : PBs kb db n L) (i : Nat) : Sup (pA L i) n := (h.at_ i).sup
theorem PBs.mono {kb db n kb' db' n' : Nat} {L : List Prt} (h : PBs kb db n L) (h1 : kb ≤ kb') (h2 : db ≤ db') (h3 : n ≤ n') : PBs kb' db' n' L := fun c hc => (h c hc).mono h1 h2 h3
theorem PBs.take {kb db n m : Nat} {L : List Prt} (h : PBs kb db n L) : PBs kb db n (L.take m) := fun c hc => h c (List.mem_of_mem_take hc)
theorem PBs.snoc {kb db n : Nat} {L : List Prt} {c : Prt} (h : PBs kb db n L) (hc : PB kb db n c) : PBs kb db n (L ++ [c]) := fun x hx => by
  rcases List.mem_append.mp hx with hx | hx
  · exact h x hx
  · rw [List.mem_singleton.mp hx]; exact hc
theorem PBs.set {kb db n i : Nat} {L : List Prt} {c : Prt} (h : PBs kb db n L) (hc : PB kb db n c) : PBs kb db n (L.set i c) := fun x hx => by
  rcases List.mem_or_eq_of_mem_set hx with hx | hx
  · exact h x hx
  · rw [hx]; exact hc
/-- n is where the parts end without the last zero ones -/
structure TrimL (L : List Prt) (n : Nat) : Prop where
  le : n ≤ L.length
  up : ∀ k, n ≤ k → (L.getD k p0).1 = []
  at_ : n = 0 ∨ (L.getD (n - 1) p0).1 ≠ []
structure TrL (L : List Prt) (i n : Nat) : Prop where
  le : n ≤ i
  up : ∀ k, n ≤ k → k < i → (L.getD k p0).1 = []
  at_ : n = 0 ∨ (L.getD (n - 1) p0).1 ≠ []
theorem TrL.fin {L : List Prt} {n : Nat} (t : TrL L L.length n) : TrimL L n := ⟨t.le, fun k hk => if c : k < L.length then t.up k hk c else by rw [getDp_end (by omega)], t.at_⟩
theorem TrL.yes {L : List Prt} {i n : Nat} (t : TrL L i n) (h : (L.getD i p0).1 ≠ []) : TrL L (i + 1) (i + 1) := ⟨Nat.le_refl _, fun k h1 h2 => by omega, .inr h⟩
theorem TrL.no {L : List Prt} {i n : Nat} (t : TrL L i n) (h : (L.getD i p0).1 = []) : TrL L (i + 1) n := ⟨by have := t.le; omega, fun k h1 h2 => by
  by_cases c : k = i
  · rw [c]; exact h
  · exact t.up k h1 (by omega), t.at_⟩
/-- the sequence of polynomials ends at n -/
structure LnF (A : Nat → Nat → Rat) (n : Nat) : Prop where
  up : ∀ i, n ≤ i → ∀ e, A i e = 0
  at_ : n = 0 ∨ ∃ e, A (n - 1) e ≠ 0
theorem LnF.congr {A B : Nat → Nat → Rat} {n : Nat} (l : LnF A n) (h : ∀ i e, A i e = B i e) : LnF B n := ⟨fun i hi e => by rw [← h]; exact l.up i hi e, l.at_.imp id fun ⟨e, z⟩ => ⟨e, by rw [← h]; exact z⟩⟩
theorem LnF.uniq {A : Nat → Nat → Rat} {n m : Nat} (a : LnF A n) (b : LnF A m) : n = m := by
  have le : ∀ {n m}, LnF A n → LnF A m → n ≤ m := fun {n m} a b => Decidable.byContradiction fun c => by
    rcases a.at_ with z | ⟨e, z⟩
    · omega
    · exact z (b.up _ (by omega) e)
  exact Nat.le_antisymm (le a b) (le b a)
/-! ### the composition in the making -/
structure AfA (F : List Prt) (A B : Nat → Nat → Rat) (q N E pb n2 i j : Nat) : Prop where
  len : F.length = N
  val : ∀ k e, k < N → pA F k e = sR (fun t => if t ≤ k ∧ k - t < q then cR (A t) (sh (t : Int) (B (k - t))) e else 0) i + (if i ≤ k ∧ k - i < j then cR (A i) (sh (i : Int) (B (k - i))) e else 0)
  ok : ∀ k, k < N → PB (E * (i + if i ≤ k ∧ k - i < j then 1 else 0) + 1) (pb * (i + if i ≤ k ∧ k - i < j then 1 else 0)) n2 (F.getD k p0)
theorem AfA.start {A B : Nat → Nat → Rat} {q N E pb n2 : Nat} : AfA (List.replicate N p0) A B q N E pb n2 0 0 := by
  have z : ∀ k, (List.replicate N p0).getD k p0 = p0 := fun k => by
    rw [List.getD_eq_getElem?_getD, List.getElem?_replicate]
    split <;> rfl
  refine ⟨List.length_replicate, fun k e _ => ?_, fun k _ => ?_⟩
  · unfold pA
    rw [z, if_neg (by omega), rv_nil]
    show (0 : Rat) = 0 + 0
    grind
  · rw [z]; exact pb0
theorem AfA.row {F : List Prt} {A B : Nat → Nat → Rat} {q N E pb n2 i : Nat} (m : AfA F A B q N E pb n2 i q) : AfA F A B q N E pb n2 (i + 1) 0 := by
  refine ⟨m.len, fun k e hk => ?_, fun k hk => ?_⟩
  · rw [m.val k e hk, sR, if_neg (show ¬ (i + 1 ≤ k ∧ k - (i + 1) < 0) by omega)]
    grind
  · rw [if_neg (by omega)]
    refine (m.ok k hk).mono ?_ ?_ (Nat.le_refl _)
    · have : E * (i + if i ≤ k ∧ k - i < q then 1 else 0) ≤ E * (i + 1 + 0) := Nat.mul_le_mul_left _ (by split <;> omega)
      omega
    · exact Nat.mul_le_mul_left _ (by split <;> omega)
theorem AfA.step {F : List Prt} {A B : Nat → Nat → Rat} {q N E pb n2 i j : Nat} {c : Prt} (m : AfA F A B q N E pb n2 i j) (h : i + j < N)
    (hv : ∀ e, rv c.1 c.2 e = pA F (i + j) e + cR (A i) (sh (i : Int) (B j)) e) (hc : PB (E * (i + 1) + 1) (pb * (i + 1)) n2 c) : AfA (F.set (i + j) c) A B q N E pb n2 i (j + 1) := by
  have fl := m.len
  refine ⟨by rw [List.length_set, fl], fun k e hk => ?_, fun k hk => ?_⟩
  · unfold pA
    rw [getDp_set (by omega)]
    by_cases c1 : k = i + j
    · rw [if_pos c1, hv, c1, m.val (i + j) e (by omega), if_neg (by omega), if_pos (by omega), show i + j - i = j by omega]
      grind
    · rw [if_neg c1]
      show pA F k e = _
      rw [m.val k e hk]
      congr 1
      by_cases c2 : i ≤ k ∧ k - i < j
      · rw [if_pos c2, if_pos (by omega)]
      · rw [if_neg c2, if_neg (by omega)]
  · rw [getDp_set (by omega)]
    by_cases c1 : k = i + j
    · rw [if_pos c1, if_pos (by omega)]
      exact hc
    · rw [if_neg c1]
      by_cases c2 : i ≤ k ∧ k - i < j
      · have z := m.ok k hk
        rw [if_pos c2] at z
        rw [if_pos (by omega)]
        exact z
      · have z := m.ok k hk
        rw [if_neg c2] at z
        rw [if_neg (by omega)]
        exact z
theorem AfA.fin {F : List Prt} {A B : Nat → Nat → Rat} {p q N E pb n2 : Nat} (m : AfA F A B q N E pb n2 p 0) (hN : N = p + q) (hA : ∀ i e, p ≤ i → A i e = 0) (hB : ∀ i e, q ≤ i → B i e = 0) (k e : Nat) : pA F k e = opC A B k e := by
  by_cases hk : k < N
  · rw [m.val k e hk, if_neg (show ¬ (p ≤ k ∧ k - p < 0) by omega)]
    have e1 : sR (fun t => if t ≤ k ∧ k - t < q then cR (A t) (sh (t : Int) (B (k - t))) e else 0) p = sR (fun t => if t ≤ k ∧ k - t < q then cR (A t) (sh (t : Int) (B (k - t))) e else 0) (max p (k + 1)) :=
      (sR_le (fun t ht => by
        split
        · exact cR_zl fun x => hA t x ht
        · rfl) (by omega)).symm
    have e2 : opC A B k e = sR (fun t => if t ≤ k ∧ k - t < q then cR (A t) (sh (t : Int) (B (k - t))) e else 0) (k + 1) := sR_congr _ fun t ht => by
      by_cases c : k - t < q
      · rw [if_pos ⟨by omega, c⟩]
      · rw [if_neg fun z => c z.2]
        exact cR_zr fun x => sR_zero _ fun y _ => by rw [hB (k - t) y (by omega)]; grind
    rw [e1, e2, sR_le (n := k + 1) (fun t ht => by rw [if_neg (by omega)]) (by omega)]
    grind
  · rw [pA_end (by rw [m.len]; omega), opC_zero hA hB (by omega)]
/-! ### values as data -/
def prD (c : Prt) : PyData := .tuple [.list (c.1.map PyData.int), .int c.2]
end CB

namespace CB.EQ
open PySem PySem.SeqAt PySem.Spec PyProof.Rows
open AutoSeq1 (wpAny_loadPart')
open MeetsSeq MeetsSeq2 MeetsSeq3 SeqRoads2
section
variable {prog : Program} {w : World} {A : Around} {R : Result → Shared → Prop}
end
section
variable {prog : Program} {w : World} {A : Around} {E : Value → Shared → Prop} {s : Shared}
end
end CB.EQ
namespace CB
open PySem PySem.Spec PyProof.Rows L2
/-- == of two things, with its answer -/
abbrev EqvB := V → V → Hp → Bool → Prop
def MonB (D : EqvB) : Prop := ∀ x y H H' r, Ext H H' → D x y H r → D x y H' r
def EqB (X : Cx) (n : Nat) (D : EqvB) : Prop :=
  ∀ (A : Around) (pins : List (Addr × Obj)) (s : Shared) (σ : L2.St) (H : Hp) (x y : V) (u v : Value) (r : Bool), Sub X n A → Inv X pins σ H s → RelV x u → RelV y v → D x y H r →
    wpAny (model X.prog X.w) A (eqBool u v) (fun r' s' => r' = r ∧ ∃ H', Inv X pins σ H' s' ∧ Ext H H') X.xe s
def RcB (X : Cx) (n : Nat) (D : EqvB) : Prop :=
  ∀ (A : Around) (pins : List (Addr × Obj)) (s : Shared) (σ : L2.St) (H : Hp) (x y : V) (u v : Value) (r : Bool), Sub X n A → Inv X pins σ H s → RelV x u → RelV y v → D x y H r →
    wpAny (model X.prog X.w) A (richCompare .Eq u v) (fun r' s' => r' = .bool r ∧ ∃ H', Inv X pins σ H' s' ∧ Ext H H') X.xe s
section
variable {X : Cx} {n : Nat} {D : EqvB}
/-- tuples: the answer is rt -/
def DTupB (K : PySem.W.Frag) (D : EqvB) : EqvB := fun x y H rt => ∃ a b xs ys, ∃ rs : Nat → Bool, x = .ref a ∧ y = .ref b ∧ SqT K H a xs ∧ SqT K H b ys ∧ (∀ (i : Nat) u v, xs[i]? = some u → ys[i]? = some v → D u v H (rs i)) ∧
  (rt = true ↔ xs.length = ys.length ∧ ∀ i, i < xs.length → i < ys.length → rs i = true)
/-- instances with the text's own == -/
def DInsB (C : Addr) (R : Addr → Addr → Hp → Bool → Prop) : EqvB := fun x y H r => ∃ a b dx dy fs gs, x = .ref a ∧ y = .ref b ∧ H a = some (.ins C dx fs) ∧ H b = some (.ins C dy gs) ∧ R a b H r
/-- what the own == promises -/
def spEqB (R : Addr → Addr → Hp → Bool → Prop) : Sp := fun vs H Q _ => ∃ a b, ∃ r : Bool, vs = [.ref a, .ref b] ∧ R a b H r ∧ ∀ H', Ext H H' → Q (.bl r) H'
/-- x == y as an expression -/
def rEqB (D : EqvB) : R2 := fun x y H Q => ∃ r, D x y H r ∧ ∀ H', Ext H H' → Q (.bl r) H'
end
end CB

namespace CB
open PySem PySem.Spec PyProof.Rows L2
/-! ### many whole numbers in one -/
/-- the value at B, the power 0 first -/
def pkv (B : Int) : List Int → Int
  | [] => 0
  | x :: t => x + B * pkv B t
/-- two and two in one -/
def prs (B : Int) : List Int → List Int
  | [] => []
  | [x] => [x]
  | x :: y :: t => (x + y * B) :: prs B t
theorem pkv_prs {B : Int} : ∀ xs : List Int, pkv (B * B) (prs B xs) = pkv B xs
  | [] => rfl
  | [x] => by simp [prs, pkv]
  | x :: y :: t => by
    have ih := pkv_prs (B := B) t
    show (x + y * B) + B * B * pkv (B * B) (prs B t) = x + B * (y + B * pkv B t)
    rw [ih]
    grind
theorem prs_len {B : Int} : ∀ xs : List Int, (prs B xs).length = (xs.length + 1) / 2
  | [] => rfl
  | [x] => by simp [prs]
  | x :: y :: t => by
    have ih := prs_len (B := B) t
    show (prs B t).length + 1 = (t.length + 1 + 1 + 1) / 2
    rw [ih]
    omega
theorem prs_bound {B k : Nat} (b0 : 1 ≤ B) : ∀ xs : List Int, (∀ x ∈ xs, x.natAbs < 2 ^ (k + 2 * B)) → ∀ z ∈ prs (2 ^ B) xs, z.natAbs < 2 ^ (k + 2 * (2 * B))
  | [], _, z, hz => by simp [prs] at hz
  | [x], h, z, hz => by
    have e : z = x := by simpa [prs] using hz
    rw [e]
    exact Nat.lt_of_lt_of_le (h x (by simp)) (Nat.pow_le_pow_right (by decide) (by omega))
  | x :: y :: t, h, z, hz => by
    rcases List.mem_cons.mp hz with e | hz
    · have hx := h x (by simp)
      have hy := h y (by simp)
      have e4 : (2 : Nat) ^ (k + 2 * (2 * B)) = 2 ^ (k + 2 * B) * (2 ^ B * 2 ^ B) := by rw [← Nat.pow_add, ← Nat.pow_add]; congr 1; omega
      have eb : ((2 : Int) ^ B).natAbs = 2 ^ B := by
        rw [Int.natAbs_pow]; rfl
      have hp : 1 ≤ 2 ^ B := Nat.one_le_two_pow
      have hp2 : 2 ≤ 2 ^ B := by
        obtain ⟨c, rfl⟩ : ∃ c, B = c + 1 := ⟨B - 1, by omega⟩
        have := Nat.one_le_two_pow (n := c)
        rw [Nat.pow_succ]; omega
      rw [e4, e]
      have t1 : (x + y * 2 ^ B).natAbs ≤ x.natAbs + y.natAbs * 2 ^ B := by
        have := Int.natAbs_add_le x (y * 2 ^ B)
        rw [Int.natAbs_mul, eb] at this
        exact this
      generalize 2 ^ (k + 2 * B) = M at hx hy ⊢
      generalize 2 ^ B = P at hp2 t1 ⊢
      have t2 : y.natAbs * P < M * P := Nat.mul_lt_mul_of_pos_right hy (by omega)
      have t3 : M * 2 ≤ M * P := Nat.mul_le_mul_left M hp2
      have t4 : M * P * 2 ≤ M * P * P := Nat.mul_le_mul_left (M * P) hp2
      rw [← Nat.mul_assoc]
      omega
    · exact prs_bound b0 t (fun x hx => h x (by simp [hx])) z hz
/-- within half of 2 ^ B -/
def Hf (B : Nat) (x : Int) : Prop := 2 * x.natAbs < 2 ^ B
/-- t times two and two in one -/
def lay (b : Nat) : Nat → List Int → List Int
  | 0, xs => xs
  | t + 1, xs => prs (2 ^ (b * 2 ^ t)) (lay b t xs)
theorem pkv_sum {B : Int} : ∀ (xs : List Int) (N : Nat), xs.length ≤ N → pkv B xs = sumTo (fun k => xs.getD k 0 * B ^ k) N
  | [], N, _ => by
    rw [show (fun k => ([] : List Int).getD k 0 * B ^ k) = fun _ => 0 from funext fun k => by simp]
    induction N with
    | zero => rfl
    | succ n ih => rw [sumTo, ← ih (by simp)]; rfl
  | x :: t, N, h => by
    obtain ⟨M, rfl⟩ : ∃ M, N = 1 + M := ⟨N - 1, by simp only [List.length_cons] at h; omega⟩
    rw [sumTo_app, pkv, pkv_sum t M (by simp only [List.length_cons] at h; omega), Int.mul_comm B, ← sumTo_mulr]
    congr 1
    · simp [sumTo]
    · congr 1
      funext k
      rw [Nat.add_comm 1 k, Int.pow_succ, Int.mul_assoc]
      rfl
theorem cvS_val {B : Int} {xs ys : List Int} : ∀ n N, n + ys.length ≤ N → sumTo (fun k => cvS xs ys n k * B ^ k) N = sumTo (fun k => xs.getD k 0 * B ^ k) n * pkv B ys
  | 0, N, _ => by
    rw [sumTo_zero N fun k _ => by simp [cvS]]
    simp [sumTo]
  | n + 1, N, h => by
    have ih := cvS_val (B := B) (xs := xs) (ys := ys) n N (by omega)
    rw [sumTo, Int.add_mul, ← ih]
    rw [show (fun k => cvS xs ys (n + 1) k * B ^ k) = fun k => cvS xs ys n k * B ^ k + (if n ≤ k then xs.getD n 0 * ys.getD (k - n) 0 else 0) * B ^ k from funext fun k => by rw [cvS, Int.add_mul]]
    rw [sumTo_add]
    congr 1
    obtain ⟨M, rfl⟩ : ∃ M, N = n + M := ⟨N - n, by omega⟩
    rw [sumTo_app, pkv_sum ys M (by omega), Int.mul_comm (xs.getD n 0 * B ^ n), ← sumTo_mulr]
    have z : sumTo (fun k => (if n ≤ k then xs.getD n 0 * ys.getD (k - n) 0 else 0) * B ^ k) n = 0 := by
      have : ∀ m, m ≤ n → sumTo (fun k => (if n ≤ k then xs.getD n 0 * ys.getD (k - n) 0 else 0) * B ^ k) m = 0 := fun m => by
        induction m with
        | zero => intro _; rfl
        | succ m ihm =>
          intro hm
          rw [sumTo, ihm (by omega), if_neg (by omega)]
          simp
      exact this n (Nat.le_refl _)
    rw [z, Int.zero_add]
    congr 1
    funext k
    rw [if_pos (by omega), Nat.add_sub_cancel_left, Int.pow_add]
    grind
theorem IsMul.val {B : Int} {zs xs ys : List Int} (m : IsMul zs xs ys) : pkv B zs = pkv B xs * pkv B ys := by
  rw [pkv_sum zs _ m.len, pkv_sum xs _ (Nat.le_refl _), ← cvS_val xs.length (xs.length + ys.length) (Nat.le_refl _)]
  congr 1
  funext k
  rw [m.at_ k]
  rfl
/-- the product as a list -/
def mulL (xs ys : List Int) : List Int := (List.range (xs.length + ys.length - 1)).map (cv xs ys)
structure PkI (xs : List Int) (b k : Nat) (zs : List Int) (B : Nat) : Prop where
  val : pkv (2 ^ B) zs = pkv (2 ^ b) xs
  ne : 1 ≤ zs.length
  bd : ∀ z ∈ zs, z.natAbs < 2 ^ (k + 2 * B)
  lim : B * (zs.length - 1) ≤ b * (xs.length - 1)
  b1 : 1 ≤ B
  len : zs.length ≤ xs.length
theorem PkI.start {xs : List Int} {b k : Nat} (h : ∀ x ∈ xs, x.natAbs < 2 ^ k) (l : 1 ≤ xs.length) (b1 : 1 ≤ b) : PkI xs b k xs b := ⟨rfl, l, fun z hz => Nat.lt_of_lt_of_le (h z hz) (Nat.pow_le_pow_right (by decide) (by omega)), Nat.le_refl _, b1, Nat.le_refl _⟩
theorem PkI.next {xs zs : List Int} {b k B : Nat} (p : PkI xs b k zs B) (h : 2 ≤ zs.length) : PkI xs b k (prs (2 ^ B) zs) (2 * B) := by
  have e : (2 : Int) ^ (2 * B) = 2 ^ B * 2 ^ B := by rw [← Int.pow_add]; congr 1; omega
  refine ⟨by rw [e, pkv_prs]; exact p.val, by rw [prs_len]; omega, fun z hz => prs_bound p.b1 zs p.bd z hz, ?_, by have := p.b1; omega, by rw [prs_len]; have := p.len; omega⟩
  refine Nat.le_trans ?_ p.lim
  rw [prs_len, Nat.mul_comm 2, Nat.mul_assoc]
  exact Nat.mul_le_mul_left B (by omega)
theorem PkI.fin {xs zs : List Int} {b k B : Nat} (p : PkI xs b k zs B) (h : ¬ 2 ≤ zs.length) : zs.length = 1 ∧ zs.getD 0 0 = pkv (2 ^ b) xs := by
  have := p.ne
  rw [← p.val]
  match zs, this, h with
  | [z], _, _ => exact ⟨rfl, by simp [pkv]⟩
  | _ :: _ :: _, _, h => simp at h
/-- a walk over a list, whatever is done at each item -/
theorem walkL {K : PySem.W.Frag} {a : Addr} {xs : List V} {H0 : Hp} {Qd : Hp → Prop} {BODY : (Hp → Prop) → V → Hp → Prop} (Pv : Nat → Hp → Prop) (h0 : Pv 0 H0) (hl : ∀ i H, i ≤ xs.length → Pv i H → SqL K H a xs)
    (hs : ∀ i x H, xs[i]? = some x → Pv i H → BODY (Pv (i + 1)) x H) (hd : ∀ H, Pv xs.length H → Qd H) :
    ∃ W : Nat → Nat → Hp → Prop, (∃ m, W 0 m H0) ∧ ∀ i m H, W i m H → ((Itl K a).stop i H ∧ Qd H) ∨ ((Itl K a).go i H ∧ ∃ Nx : Hp → Prop, (∀ H', Nx H' → ∃ m', m' < m ∧ W (i + 1) m' H') ∧ ∀ x H', (Itl K a).yld i H x H' → BODY Nx x H') := by
  refine ⟨fun i m H => m = xs.length - i ∧ i ≤ xs.length ∧ Pv i H, ⟨xs.length, by simp, Nat.zero_le _, h0⟩, ?_⟩
  rintro i m H ⟨rfl, hi, p⟩
  have q := hl i H hi p
  by_cases hlt : i < xs.length
  · refine .inr ⟨⟨xs, xs[i], q, by simp [hlt]⟩, Pv (i + 1), fun H' p' => ⟨xs.length - (i + 1), by omega, rfl, hlt, p'⟩, fun x H' y => ?_⟩
    obtain ⟨e, y⟩ := y
    subst e
    exact hs i x _ (y xs q) p
  · have e : i = xs.length := by omega
    subst e
    exact .inl ⟨⟨xs, q, Nat.le_refl _⟩, hd H p⟩
theorem walkT {K : PySem.W.Frag} {a : Addr} {xs : List V} {H0 : Hp} {Qd : Hp → Prop} {BODY : (Hp → Prop) → V → Hp → Prop} (Pv : Nat → Hp → Prop) (h0 : Pv 0 H0) (hl : ∀ i H, i ≤ xs.length → Pv i H → SqT K H a xs)
    (hs : ∀ i x H, xs[i]? = some x → Pv i H → BODY (Pv (i + 1)) x H) (hd : ∀ H, Pv xs.length H → Qd H) :
    ∃ W : Nat → Nat → Hp → Prop, (∃ m, W 0 m H0) ∧ ∀ i m H, W i m H → ((Itt K a).stop i H ∧ Qd H) ∨ ((Itt K a).go i H ∧ ∃ Nx : Hp → Prop, (∀ H', Nx H' → ∃ m', m' < m ∧ W (i + 1) m' H') ∧ ∀ x H', (Itt K a).yld i H x H' → BODY Nx x H') := by
  refine ⟨fun i m H => m = xs.length - i ∧ i ≤ xs.length ∧ Pv i H, ⟨xs.length, by simp, Nat.zero_le _, h0⟩, ?_⟩
  rintro i m H ⟨rfl, hi, p⟩
  have q := hl i H hi p
  by_cases hlt : i < xs.length
  · refine .inr ⟨⟨xs, xs[i], q, by simp [hlt]⟩, Pv (i + 1), fun H' p' => ⟨xs.length - (i + 1), by omega, rfl, hlt, p'⟩, fun x H' y => ?_⟩
    obtain ⟨e, y⟩ := y
    subst e
    exact hs i x _ (y xs q) p
  · have e : i = xs.length := by omega
    subst e
    exact .inl ⟨⟨xs, q, Nat.le_refl _⟩, hd H p⟩
/-- a loop over enumerate of a list -/
theorem for_enL {K : PySem.W.Frag} {a : Addr} {xs : List V} {g : TG} {tb : TS} {D : Ends} {σ : L2.St} {H : Hp} (Pv : Nat → L2.St → Hp → Prop) (h0 : Pv 0 σ H) (hq : ∀ i σ H, Pv i σ H → SqL K H a xs)
    (hs : ∀ (i : Nat) (x : V) (T : Addr) (σ : L2.St) (H : Hp), xs[i]? = some x → Pv i σ H → H T = none → g (.ref T) σ (upd H T (.tup [.int (i : Nat), x])) fun σ2 H2 => tb { D with nx := Pv (i + 1), ct := Pv (i + 1), bk := D.nx } σ2 H2) (hd : ∀ σ H, Pv xs.length σ H → D.nx σ H) :
    ∃ W : Nat → Nat → L2.St → Hp → Prop, (∃ m, W 0 m σ H) ∧ ∀ i m σ H, W i m σ H →
      ((Ite K a).stop i H ∧ D.nx σ H) ∨ ((Ite K a).go i H ∧ ∃ N : L2.St → Hp → Prop, (∀ σ' H', N σ' H' → ∃ m', m' < m ∧ W (i + 1) m' σ' H') ∧ ∀ v H', (Ite K a).yld i H v H' → g v σ H' fun σ2 H2 => tb { D with nx := N, ct := N, bk := D.nx } σ2 H2) := by
  refine ⟨fun i m σ H => m = xs.length - i ∧ i ≤ xs.length ∧ Pv i σ H, ⟨_, rfl, Nat.zero_le _, h0⟩, fun i m σ H hw => ?_⟩
  obtain ⟨rfl, hi, p⟩ := hw
  have qa := hq i σ H p
  by_cases lt : i < xs.length
  · refine .inr ⟨⟨xs, xs[i], qa, List.getElem?_eq_getElem lt⟩, Pv (i + 1), fun σ' H' p' => ⟨_, by omega, rfl, lt, p'⟩, fun v H' y => ?_⟩
    obtain ⟨T, x, rfl, hT, rfl, hx⟩ := y
    exact hs i x T σ H (hx xs qa) p hT
  · have e : i = xs.length := by omega
    subst e
    exact .inl ⟨⟨xs, qa, Nat.le_refl _⟩, hd σ H p⟩
end CB

namespace CB
open PySem PySem.Spec PyProof.Rows L2
/-! ### rows in one list: the product, place by place -/
/-- list(x) within a comprehension -/
abbrev rLstOf (K : PySem.W.Frag) : List V → Hp → VK → Prop := fun xs H Q => ∃ (p : Addr) (ys : List V), xs = [.ref p] ∧ (SqL K H p ys ∨ SqT K H p ys) ∧ ∀ l, H l = none → Q (.ref l) (upd H l (.lst ys))
end CB

namespace CB
open PySem PySem.Spec PyProof.Rows L2
/-! ### tables of whole numbers as functions: values, products, powers -/
abbrev TF := Nat → Nat → Int
/-- the value of the first N coefficients -/
def e1 (f : Nat → Int) (x : Int) (N : Nat) : Int := sumTo (fun i => f i * x ^ i) N
theorem e1_more {f : Nat → Int} {x : Int} {N M : Nat} (h : ∀ i, N ≤ i → f i = 0) (l : N ≤ M) : e1 f x M = e1 f x N := by
  obtain ⟨m, rfl⟩ : ∃ m, M = N + m := ⟨M - N, by omega⟩
  exact sumTo_more (fun i hi => by rw [h i hi, Int.zero_mul]) m
theorem e1_congr {f g : Nat → Int} {x : Int} {N : Nat} (h : ∀ i, i < N → f i = g i) : e1 f x N = e1 g x N := sumTo_congr N fun i hi => by rw [h i hi]
theorem e1_cf {f g : Nat → Int} {x : Int} {N M : Nat} (hf : ∀ i, N ≤ i → f i = 0) (hg : ∀ i, M ≤ i → g i = 0) : e1 (cf f g) x (N + M) = e1 f x N * e1 g x M := by
  have key : ∀ n, sumTo (fun k => cf f g k * x ^ k) n = sumTo (fun i => f i * x ^ i * sumTo (fun m => g m * x ^ m) (n - i)) n := fun n => by
    have e : sumTo (fun k => cf f g k * x ^ k) n = sumTo (fun k => sumTo (fun i => f i * g (k - i) * x ^ k) (k + 1)) n := sumTo_congr n fun k _ => by
      unfold cf
      rw [← sumTo_mulr]
    rw [e, sumTo_tri (fun k i => f i * g (k - i) * x ^ k)]
    refine sumTo_congr n fun i hi => ?_
    rw [← sumTo_mul]
    refine sumTo_congr _ fun m hm => ?_
    rw [show i + m - i = m by omega, Int.pow_add]
    grind
  unfold e1
  rw [key (N + M), sumTo_more (n := N) (fun i hi => by rw [hf i hi]; simp) M, ← sumTo_mulr]
  refine sumTo_congr N fun i hi => ?_
  congr 1
  obtain ⟨d, hd⟩ : ∃ d, N + M - i = M + d := ⟨N - i, by omega⟩
  rw [hd]
  exact sumTo_more (fun m hm => by rw [hg m hm, Int.zero_mul]) d
theorem e1_scale (c : Int) (f : Nat → Int) (x : Int) (N : Nat) : e1 (fun i => c * f i) x N = c * e1 f x N := by
  unfold e1
  rw [← sumTo_mul]
  exact sumTo_congr N fun i _ => by grind
structure Sup2 (F : TF) (R W : Nat) : Prop where
  row : ∀ j i, R ≤ j → F j i = 0
  col : ∀ j i, W ≤ i → F j i = 0
theorem Sup2.mono {F : TF} {R W R' W' : Nat} (s : Sup2 F R W) (h1 : R ≤ R') (h2 : W ≤ W') : Sup2 F R' W' := ⟨fun j i h => s.row j i (by omega), fun j i h => s.col j i (by omega)⟩
def tbl (F : TF) (R W : Nat) : List (List Int) := (List.range R).map fun j => (List.range W).map fun i => F j i
def B2 (B : Nat) (F : TF) : Prop := ∀ j i, (F j i).natAbs < 2 ^ B
theorem B2.mono {B C : Nat} {F : TF} (h : B2 B F) (l : B ≤ C) : B2 C F := fun j i => Nat.lt_of_lt_of_le (h j i) (Nat.pow_le_pow_right (by decide) l)
/-- the value at two numbers -/
def e2 (F : TF) (n k : Int) (R W : Nat) : Int := e1 (fun j => e1 (F j) n W) k R
/-- the product -/
def c2 (F G : TF) : TF := fun j i => sumTo (fun a => cf (F a) (G (j - a)) i) (j + 1)
theorem cf_zero_l {f g : Nat → Int} (h : ∀ i, f i = 0) (k : Nat) : cf f g k = 0 := sumTo_zero _ fun i _ => by rw [h i, Int.zero_mul]
theorem cf_zero_r {f g : Nat → Int} (h : ∀ i, g i = 0) (k : Nat) : cf f g k = 0 := sumTo_zero _ fun i _ => by rw [h (k - i), Int.mul_zero]
theorem cf_endT {f g : Nat → Int} {al be k : Nat} (hf : ∀ s, al ≤ s → f s = 0) (hg : ∀ s, be ≤ s → g s = 0) (h : al + be ≤ k + 1) : cf f g k = 0 := by
  refine sumTo_zero _ fun i hi => ?_
  by_cases c : al ≤ i
  · rw [hf i c, Int.zero_mul]
  · rw [hg (k - i) (by omega), Int.mul_zero]
theorem Sup2.c2 {F G : TF} {R W S V : Nat} (a : Sup2 F R W) (b : Sup2 G S V) : Sup2 (c2 F G) (R + S - 1) (W + V - 1) :=
  ⟨fun j i h => sumTo_zero _ fun t ht => by
    by_cases c : R ≤ t
    · exact cf_zero_l (fun s => a.row t s c) i
    · exact cf_zero_r (fun s => b.row (j - t) s (by omega)) i,
  fun j i h => sumTo_zero _ fun t ht => cf_endT (a.col t) (b.col (j - t)) (by omega)⟩
theorem cf_bits {f g : Nat → Int} {B C : Nat} (hf : ∀ i, (f i).natAbs < 2 ^ B) (hg : ∀ i, (g i).natAbs < 2 ^ C) (k : Nat) : (cf f g k).natAbs < 2 ^ (B + C + (k + 1)) :=
  sumTo_bits _ fun i _ => by
    rw [Int.natAbs_mul, Nat.pow_add]
    exact Nat.mul_lt_mul'' (hf i) (hg (k - i))
theorem B2.c2 {F G : TF} {R W S V B C : Nat} (a : Sup2 F R W) (b : Sup2 G S V) (x : B2 B F) (y : B2 C G) : B2 (B + C + (W + V) + (R + S)) (c2 F G) := fun j i => by
  have s := a.c2 b
  by_cases h1 : R + S - 1 ≤ j
  · rw [s.row j i h1]; exact Nat.two_pow_pos _
  by_cases h2 : W + V - 1 ≤ i
  · rw [s.col j i h2]; exact Nat.two_pow_pos _
  have z := sumTo_bits (F := fun t => cf (F t) (G (j - t)) i) (b := B + C + (W + V)) (j + 1) fun t _ => Nat.lt_of_lt_of_le (cf_bits (x t) (y (j - t)) i) (Nat.pow_le_pow_right (by decide) (by omega))
  exact Nat.lt_of_lt_of_le z (Nat.pow_le_pow_right (by decide) (by omega))
/-- powers -/
def p2 (F : TF) : Nat → TF
  | 0 => fun j i => if j = 0 ∧ i = 0 then 1 else 0
  | e + 1 => c2 (p2 F e) F
theorem Sup2.p2 {F : TF} {R W : Nat} (s : Sup2 F (R + 1) (W + 1)) : ∀ e, Sup2 (p2 F e) (R * e + 1) (W * e + 1)
  | 0 => ⟨fun j i h => if_neg (by omega), fun j i h => if_neg (by omega)⟩
  | e + 1 => by
    have z := (Sup2.p2 s e).c2 s
    exact z.mono (by rw [Nat.mul_add]; omega) (by rw [Nat.mul_add]; omega)
/-- in one list -/
def fl2 (w : Nat) (F : TF) : Nat → Int := fun n => F (n / w) (n % w)
/-! ### moves -/
theorem pw_e1 (s x : Int) : ∀ (i N : Nat), i < N → e1 (pw s i) x N = (x + s) ^ i
  | 0, N, h => by
    obtain ⟨M, rfl⟩ : ∃ M, N = M + 1 := ⟨N - 1, by omega⟩
    unfold e1
    rw [sumTo_first, sumTo_zero M fun k _ => by show (0 : Int) * _ = 0; rw [Int.zero_mul]]
    show (1 : Int) * x ^ 0 + 0 = _
    rw [Int.pow_zero, Int.pow_zero]
    rfl
  | i + 1, N, h => by
    obtain ⟨M, rfl⟩ : ∃ M, N = M + 1 := ⟨N - 1, by omega⟩
    have i1 := pw_e1 s x i (M + 1) (by omega)
    have i2 := pw_e1 s x i M (by omega)
    have z1 : e1 (pw s i) x (M + 1) = pw s i 0 + sumTo (fun k => pw s i (k + 1) * x ^ (k + 1)) M := by
      unfold e1
      rw [sumTo_first, Int.pow_zero, Int.mul_one]
    have z2 : e1 (pw s (i + 1)) x (M + 1) = s * pw s i 0 + sumTo (fun k => s * (pw s i (k + 1) * x ^ (k + 1)) + x * (pw s i k * x ^ k)) M := by
      unfold e1
      rw [sumTo_first, Int.pow_zero, Int.mul_one]
      show s * pw s i 0 + _ = _
      congr 1
      refine sumTo_congr M fun k _ => ?_
      show (s * pw s i (k + 1) + pw s i k) * x ^ (k + 1) = _
      rw [Int.pow_succ]
      grind
    rw [z2, sumTo_add, sumTo_mul, sumTo_mul, Int.pow_succ]
    rw [i1] at z1
    have z3 : sumTo (fun k => pw s i k * x ^ k) M = (x + s) ^ i := i2
    rw [z3]
    have z4 : sumTo (fun k => pw s i (k + 1) * x ^ (k + 1)) M = (x + s) ^ i - pw s i 0 := by omega
    rw [z4]
    grind
theorem shV_high {s : Int} {f : Nat → Int} {n k : Nat} (h : n ≤ k) : shV s f n k = 0 := sumTo_zero n fun i hi => by rw [pw_high s i k (by omega), Int.mul_zero]
theorem e1_shV (s x : Int) (f : Nat → Int) (N : Nat) : e1 (shV s f N) x N = e1 f (x + s) N := by
  show sumTo (fun k => sumTo (fun i => f i * pw s i k) N * x ^ k) N = _
  have e : sumTo (fun k => sumTo (fun i => f i * pw s i k) N * x ^ k) N = sumTo (fun k => sumTo (fun i => f i * (pw s i k * x ^ k)) N) N := sumTo_congr N fun k _ => by
    rw [← sumTo_mulr]
    exact sumTo_congr N fun i _ => by grind
  rw [e, sumTo_swap (fun k i => f i * (pw s i k * x ^ k)) N N]
  refine sumTo_congr N fun i hi => ?_
  rw [sumTo_mul]
  congr 1
  exact pw_e1 s x i N hi
/-- the table of the moved one -/
def m2 (F : TF) (a b : Int) (R W : Nat) : TF := fun j i => shV b (fun t => shV a (F t) W i) R j
theorem Sup2.m2 {F : TF} {R W : Nat} (s : Sup2 F R W) (a b : Int) : Sup2 (m2 F a b R W) R W :=
  ⟨fun j i h => shV_high h, fun j i h => sumTo_zero R fun t _ => by
    show shV a (F t) W i * _ = 0
    rw [shV_high h, Int.zero_mul]⟩
/-- the bits of a move of n places -/
def mvB (b n : Nat) : Nat := (b + 1) * n + 1 + n
theorem B2.m2 {F : TF} {a b : Int} {R W B c : Nat} (h : B2 B F) (ha : a.natAbs < 2 ^ c) (hb : b.natAbs < 2 ^ c) : B2 (B + mvB c W + mvB c R) (m2 F a b R W) := fun j i => by
  have z : ∀ t, (shV a (F t) W i).natAbs < 2 ^ (B + mvB c W) := fun t => Nat.lt_of_lt_of_le (shV_bits ha (h t) i) (Nat.pow_le_pow_right (by decide) (by unfold mvB; omega))
  exact Nat.lt_of_lt_of_le (shV_bits (n := R) hb z j) (Nat.pow_le_pow_right (by decide) (by unfold mvB; omega))
/-! ### p(n + k) -/
/-- the table of f(n + k) -/
def sF (f : Nat → Int) : TF := fun i t => (chs (i + t) i : Int) * f (i + t)
theorem Sup2.sF {f : Nat → Int} {N : Nat} (h : ∀ i, N ≤ i → f i = 0) : Sup2 (sF f) N N :=
  ⟨fun j i hj => by show _ * f (j + i) = 0; rw [h _ (by omega), Int.mul_zero], fun j i hi => by show _ * f (j + i) = 0; rw [h _ (by omega), Int.mul_zero]⟩
/-! ### tables given as lists -/
theorem evL_e1 (x : Int) : ∀ (cs : List Int) (N : Nat), cs.length ≤ N → evL x cs = e1 (ff cs) x N
  | [], N, _ => (sumTo_zero N fun i _ => by simp [ff]).symm
  | c :: r, 0, h => absurd h (by simp)
  | c :: r, N + 1, h => by
    show evL x r * x + c = _
    rw [evL_e1 x r N (by simpa using h)]
    unfold e1
    rw [sumTo_first, Int.pow_zero, Int.mul_one, ← sumTo_mulr]
    show _ = c + _
    rw [Int.add_comm]
    congr 1
    refine sumTo_congr N fun i _ => ?_
    show r.getD i 0 * x ^ i * x = r.getD i 0 * x ^ (i + 1)
    rw [Int.pow_succ]
    grind
def tF (rs : List (List Int)) : TF := fun j i => (rs.getD j []).getD i 0
theorem Sup2.tF {rs : List (List Int)} {R W : Nat} (h1 : rs.length ≤ R) (h2 : ∀ r ∈ rs, r.length ≤ W) : Sup2 (tF rs) R W :=
  ⟨fun j i h => by unfold CB.tF; rw [List.getD_eq_getElem?_getD (l := rs), List.getElem?_eq_none (by omega)]; rfl, fun j i h => by
    unfold CB.tF
    by_cases c : j < rs.length
    · rw [List.getD_eq_getElem?_getD (l := rs), List.getElem?_eq_getElem c]
      exact getD_end (Nat.le_trans (h2 _ (List.getElem_mem c)) h)
    · rw [List.getD_eq_getElem?_getD (l := rs), List.getElem?_eq_none (by omega)]; rfl⟩
/-! ### the outermost places of products and powers -/
theorem cf_top {f g : Nat → Int} {a b : Nat} (hf : ∀ i, a < i → f i = 0) (hg : ∀ i, b < i → g i = 0) : cf f g (a + b) = f a * g b := by
  unfold cf
  rw [sumTo_one (k := a) (a + b + 1) (by omega) fun i _ ne => ?_, show a + b - a = b by omega]
  by_cases c : a < i
  · rw [hf i c, Int.zero_mul]
  · rw [hg (a + b - i) (by omega), Int.mul_zero]
/-- the bits of a power -/
def p2B (B R W : Nat) : Nat → Nat
  | 0 => 1
  | e + 1 => p2B B R W e + B + (W * e + 1 + (W + 1)) + (R * e + 1 + (R + 1))
theorem B2.p2 {F : TF} {R W B : Nat} (s : Sup2 F (R + 1) (W + 1)) (b : B2 B F) : ∀ e, B2 (p2B B R W e) (p2 F e)
  | 0 => fun j i => by
    show (if j = 0 ∧ i = 0 then (1 : Int) else 0).natAbs < 2 ^ 1
    split <;> decide
  | e + 1 => (B2.p2 s b e).c2 (Sup2.p2 s e) s b
end CB

namespace CB
open PySem PySem.Spec PyProof.Rows L2
/-! ### binomials, factorials and products that grow by 1 -/
/-- (z + lo) (z + lo + 1) .. : m factors -/
def rsP (z : Int) (lo : Nat) : Nat → Int
  | 0 => 1
  | m + 1 => rsP z lo m * (z + ((lo + m : Nat) : Int))
/-! ### the numbers of a binomial sum's summands, and their weighted sum -/
/-- the sum of c_i x ^ i y ^ (last - i) -/
def wtV (x y : Int) : List Int → Int
  | [] => 0
  | c :: r => c * y ^ r.length + x * wtV x y r
end CB

namespace CB
open PySem PySem.Spec PyProof.Rows L2
/-! ### C(.., k = v, ..) in a try's body -/
def tMakeKS (C : Addr) (n m : Nat) (sp : Sp) (gV : List V → List V → List V) (E : L2.St → XK) (t tk : TA) : TE := fun σ H Q => t σ H fun vs H1 => tk σ H1 fun zs H2 => vs.length = n ∧ zs.length = m ∧ ∀ x dx, H2 x = none → H2 dx = none → dx ≠ x →
  sp (gV (.ref x :: vs) zs) (upd (upd H2 dx (.own x)) x (.ins C dx [])) (fun v H3 => v = .non ∧ Q (.ref x) H3) (E σ)
section
variable {X : Cx} {CX : CXT} {k n : Nat} {f C : Addr} {fd : FuncData} {ps ks : List Str} {sp : Sp} {E : L2.St → XK} {x : Str} {p pos : Pos} {e : Expr} {es : List Expr} {kws : List Keyword} {t tk : TA} {g : List Value → List Value → List Value} {gV : List V → List V → List V}
end
end CB

namespace CB
open PySem PySem.Spec PyProof.Rows L2
/-! ### polynomials with whole coefficients, as functions -/
/-- nothing from n on -/
def Fz (f : Nat → Int) (n : Nat) : Prop := ∀ i, n ≤ i → f i = 0
theorem Fz.mono {f : Nat → Int} {n m : Nat} (h : Fz f n) (l : n ≤ m) : Fz f m := fun i hi => h i (by omega)
/-- the degree is n -/
structure Dg (f : Nat → Int) (n : Nat) : Prop where
  top : f n ≠ 0
  up : Fz f (n + 1)
theorem Dg.uniq {f : Nat → Int} {n m : Nat} (h : Dg f n) (k : Dg f m) : n = m := by
  rcases Nat.lt_trichotomy n m with c | c | c
  · exact absurd (h.up m (by omega)) k.top
  · exact c
  · exact absurd (k.up n (by omega)) h.top
theorem Dg.cf {f g : Nat → Int} {a b : Nat} (h : Dg f a) (k : Dg g b) : Dg (CB.cf f g) (a + b) := by
  refine ⟨?_, fun i hi => cf_endT (al := a + 1) (be := b + 1) (fun s hs => h.up s hs) (fun s hs => k.up s hs) (by omega)⟩
  rw [cf_top (fun i hi => h.up i hi) (fun i hi => k.up i hi)]
  exact Int.mul_ne_zero h.top k.top
/-- a polynomial is zero or has a degree -/
theorem zero_or_dg {f : Nat → Int} : ∀ n, Fz f n → (∀ i, f i = 0) ∨ ∃ m, m < n ∧ Dg f m
  | 0, h => .inl fun i => h i (Nat.zero_le _)
  | n + 1, h => by
    by_cases c : f n = 0
    · have h' : Fz f n := fun i hi => by
        by_cases e : i = n
        · rw [e, c]
        · exact h i (by omega)
      rcases zero_or_dg n h' with z | ⟨m, hm, d⟩
      · exact .inl z
      · exact .inr ⟨m, by omega, d⟩
    · exact .inr ⟨n, by omega, c, h⟩
theorem Fz.cf {f g : Nat → Int} {a b : Nat} (h : Fz f a) (k : Fz g b) : Fz (CB.cf f g) (a + b) := fun i hi => cf_endT (al := a) (be := b) (fun s hs => h s hs) (fun s hs => k s hs) (by omega)
theorem Fz.add {f g : Nat → Int} {a : Nat} (h : Fz f a) (k : Fz g a) : Fz (fun i => f i + g i) a := fun i hi => by show f i + g i = 0; rw [h i hi, k i hi]; rfl
theorem Fz.scale {f : Nat → Int} {a : Nat} (c : Int) (h : Fz f a) : Fz (fun i => c * f i) a := fun i hi => by show c * f i = 0; rw [h i hi, Int.mul_zero]
theorem cf_add_l (f g h : Nat → Int) (k : Nat) : cf (fun i => f i + g i) h k = cf f h k + cf g h k := by
  rw [cf_comm, cf_add, cf_comm h f, cf_comm h g]
theorem cf_scale_l (f g : Nat → Int) (c : Int) (k : Nat) : cf (fun i => c * f i) g k = c * cf f g k := by
  rw [cf_comm, cf_scale, cf_comm g f]
/-- 1 and the powers of x -/
def xp (n : Nat) : Nat → Int := fun i => if i = n then 1 else 0
theorem xp_fz (n : Nat) : Fz (xp n) (n + 1) := fun i hi => if_neg (by omega)
theorem cf_one (f : Nat → Int) (k : Nat) : cf (xp 0) f k = f k := by
  unfold cf
  rw [sumTo_one (k := 0) (k + 1) (by omega) fun i _ ne => by unfold xp; rw [if_neg ne, Int.zero_mul], Nat.sub_zero]
  show (if 0 = 0 then (1 : Int) else 0) * f k = f k
  rw [if_pos rfl, Int.one_mul]
theorem cf_xp (f : Nat → Int) (n k : Nat) : cf (xp n) f k = if n ≤ k then f (k - n) else 0 := by
  unfold cf
  by_cases c : n ≤ k
  · rw [if_pos c, sumTo_one (k := n) (k + 1) (by omega) fun i _ ne => by unfold xp; rw [if_neg ne, Int.zero_mul]]
    unfold xp
    rw [if_pos rfl, Int.one_mul]
  · rw [if_neg c]
    exact sumTo_zero _ fun i hi => by unfold xp; rw [if_neg (by omega), Int.zero_mul]
/-- no zero divisors -/
theorem cf_cancel {f g h : Nat → Int} {a n : Nat} (df : Dg f a) (hg : Fz g n) (hh : Fz h n) (e : ∀ k, cf f g k = cf f h k) (i : Nat) : g i = h i := by
  have hz : Fz (fun i => g i + -1 * h i) n := hg.add (hh.scale (-1))
  have z : ∀ k, cf f (fun i => g i + -1 * h i) k = 0 := fun k => by
    rw [cf_add, cf_scale, e k]
    omega
  rcases zero_or_dg n hz with zz | ⟨m, _, d⟩
  · have : g i + -1 * h i = 0 := zz i
    omega
  · exact absurd (z _) (df.cf d).top
/-! ### divisibility over the fractions -/
def Dv (d p : Nat → Int) : Prop := ∃ (m : Int) (s : Nat → Int) (N : Nat), m ≠ 0 ∧ Fz s N ∧ ∀ i, m * p i = cf s d i
theorem Dv.refl (d : Nat → Int) : Dv d d := ⟨1, xp 0, 1, by decide, xp_fz 0, fun i => by rw [cf_one, Int.one_mul]⟩
theorem Dv.zero {d p : Nat → Int} (h : ∀ i, p i = 0) : Dv d p := ⟨1, fun _ => 0, 0, by decide, fun i _ => rfl, fun i => by rw [h i, cf_zero_l fun _ => rfl, Int.mul_zero]⟩
theorem Dv.trans {a b c : Nat → Int} (h : Dv a b) (k : Dv b c) : Dv a c := by
  obtain ⟨m, s, N, m0, hs, e⟩ := h
  obtain ⟨m', s', N', m0', hs', e'⟩ := k
  refine ⟨m * m', cf s' s, N' + N, Int.mul_ne_zero m0 m0', hs'.cf hs, fun i => ?_⟩
  rw [Int.mul_assoc, e', ← cf_scale, cf_assoc]
  exact cf_congr (fun _ => rfl) e i
/-- of a combination -/
theorem Dv.comb {d a b x y : Nat → Int} {N M : Nat} (h : Dv d a) (k : Dv d b) (hx : Fz x N) (hy : Fz y M) : Dv d (fun i => cf x a i + cf y b i) := by
  obtain ⟨m, s, A, m0, hs, e⟩ := h
  obtain ⟨m', s', A', m0', hs', e'⟩ := k
  refine ⟨m * m', fun i => m' * cf x s i + m * cf y s' i, max (N + A) (M + A'), Int.mul_ne_zero m0 m0', Fz.add (Fz.scale _ ((hx.cf hs).mono (by omega))) (Fz.scale _ ((hy.cf hs').mono (by omega))), fun i => ?_⟩
  rw [cf_add_l (fun i => m' * cf x s i) (fun i => m * cf y s' i), cf_scale_l, cf_scale_l, cf_assoc, cf_assoc]
  rw [show cf x (cf s d) i = m * cf x a i by rw [← cf_scale]; exact cf_congr (fun _ => rfl) (fun j => (e j).symm) i]
  rw [show cf y (cf s' d) i = m' * cf y b i by rw [← cf_scale]; exact cf_congr (fun _ => rfl) (fun j => (e' j).symm) i]
  show m * m' * (cf x a i + cf y b i) = _
  grind
theorem Dv.scale {d a : Nat → Int} {c : Int} (c0 : c ≠ 0) (h : Dv d (fun i => c * a i)) : Dv d a := by
  obtain ⟨m, s, N, m0, hs, e⟩ := h
  exact ⟨m * c, s, N, Int.mul_ne_zero m0 c0, hs, fun i => by rw [← e, Int.mul_assoc]⟩
theorem Dv.scale' {d a : Nat → Int} (c : Int) (h : Dv d a) : Dv d (fun i => c * a i) := by
  obtain ⟨m, s, N, m0, hs, e⟩ := h
  exact ⟨m, fun i => c * s i, N, m0, hs.scale c, fun i => by rw [cf_scale_l, ← e]; grind⟩
theorem Dv.scale_l {d a : Nat → Int} {c : Int} (c0 : c ≠ 0) (h : Dv d a) : Dv (fun i => c * d i) a := by
  obtain ⟨m, s, N, m0, hs, e⟩ := h
  exact ⟨c * m, s, N, Int.mul_ne_zero c0 m0, hs, fun i => by rw [cf_scale, ← e, Int.mul_assoc]⟩
theorem Dv.congr {d d' a a' : Nat → Int} (h : Dv d a) (e : ∀ i, d' i = d i) (f : ∀ i, a' i = a i) : Dv d' a' := by
  have e1 : d' = d := funext e
  have e2 : a' = a := funext f
  rw [e1, e2]
  exact h
theorem Dv.deg {d a : Nat → Int} {n m : Nat} (h : Dv d a) (dd : Dg d n) (da : Dg a m) : n ≤ m := by
  obtain ⟨c, s, N, c0, hs, e⟩ := h
  have dc : Dg (fun i => c * a i) m := ⟨Int.mul_ne_zero c0 da.top, da.up.scale c⟩
  rcases zero_or_dg N hs with z | ⟨k, _, dk⟩
  · exact absurd ((e m).trans (cf_zero_l z m)) dc.top
  · have x := dk.cf dd
    have y : Dg (CB.cf s d) m := ⟨by rw [← e]; exact dc.top, fun i hi => by rw [← e]; exact dc.up i hi⟩
    have := x.uniq y
    omega
/-! ### the greatest common divisor, with its combination -/
/-- bits of all coefficients -/
def Bt (k : Nat) (f : Nat → Int) : Prop := ∀ i, (f i).natAbs < 2 ^ k
theorem Bt.mono {k j : Nat} {f : Nat → Int} (h : Bt k f) (l : k ≤ j) : Bt j f := fun i => Nat.lt_of_lt_of_le (h i) (Nat.pow_le_pow_right (by decide) l)
def fibb : Nat → Nat
  | 0 => 0
  | 1 => 1
  | n + 2 => fibb (n + 1) + fibb n
/-- what Euclid's way gives: a divisor of both that is a combination of them -/
structure Euc (A B : Nat → Int) (e : Nat → Int) : Prop where
  da : Dv e A
  db : Dv e B
  comb : ∃ (u v : Nat → Int) (N : Nat), Fz u N ∧ Fz v N ∧ ∀ i, e i = cf u A i + cf v B i
theorem Euc.symm {A B e : Nat → Int} (h : Euc A B e) : Euc B A e := by
  obtain ⟨u, v, N, hu, hv, c⟩ := h.comb
  exact ⟨h.db, h.da, v, u, N, hv, hu, fun i => by rw [c i, Int.add_comm]⟩
theorem Euc.max {A B e d : Nat → Int} (h : Euc A B e) (a : Dv d A) (b : Dv d B) : Dv d e := by
  obtain ⟨u, v, N, hu, hv, c⟩ := h.comb
  exact (Dv.comb a b hu hv).congr (fun _ => rfl) c
/-- one step: the greater one made shorter -/
theorem step_dg {A B : Nat → Int} {a b : Nat} (da : Dg A a) (db : Dg B b) (h : b ≤ a) : Fz (fun i => B b * A i + -A a * cf (xp (a - b)) B i) a := fun i hi => by
  show B b * A i + -A a * cf (xp (a - b)) B i = 0
  rw [cf_xp, if_pos (by omega)]
  by_cases c : i = a
  · subst c
    rw [show i - (i - b) = b by omega]
    grind
  · rw [da.up i (by omega), db.up (i - (a - b)) (by omega)]
    simp
theorem Euc.step {A B e : Nat → Int} {a b : Nat} (B0 : B b ≠ 0) (h : Euc (fun i => B b * A i + -A a * cf (xp (a - b)) B i) B e) : Euc A B e := by
  obtain ⟨u, v, N, hu, hv, c⟩ := h.comb
  refine ⟨?_, h.db, fun i => B b * u i, fun i => v i + -A a * cf u (xp (a - b)) i, N + (a - b + 1), (hu.scale _).mono (by omega), Fz.add (hv.mono (by omega)) (Fz.scale _ (hu.cf (xp_fz _))), fun i => ?_⟩
  · refine Dv.scale B0 ?_
    have z := Dv.comb (x := xp 0) (y := fun i => A a * xp (a - b) i) h.da h.db (xp_fz 0) ((xp_fz (a - b)).scale _)
    refine z.congr (fun _ => rfl) fun i => ?_
    rw [cf_one, cf_scale_l]
    grind
  · rw [c i, cf_scale_l, cf_add_l v (fun i => -A a * cf u (xp (a - b)) i) B, cf_scale_l, cf_assoc]
    have z : cf u (fun i => B b * A i + -A a * cf (xp (a - b)) B i) i = B b * cf u A i + -A a * cf u (cf (xp (a - b)) B) i := by
      rw [cf_add u (fun i => B b * A i) (fun i => -A a * cf (xp (a - b)) B i), cf_scale, cf_scale u (cf (xp (a - b)) B)]
    rw [z]
    omega
theorem fibb_pos : ∀ n, 0 < fibb (n + 1)
  | 0 => by decide
  | n + 1 => Nat.add_pos_left (fibb_pos n) _
/-- Euclid's way ends: with the bits of what it gives -/
theorem euclid : ∀ (n : Nat) {A B : Nat → Int} {a b x y : Nat}, Dg A a → Dg B b → a + b ≤ n → Bt x A → Bt y B → ∃ e k, Euc A B e ∧ (∃ m, m ≤ min a b ∧ Dg e m) ∧ Bt k e ∧ k + 1 ≤ fibb (n + 2) * (max x y + 1) + fibb (n + 1) * (min x y + 1) := by
  intro n
  induction n with
  | zero =>
    intro A B a b x y da db h bx by_
    obtain rfl : a = 0 := by omega
    obtain rfl : b = 0 := by omega
    refine ⟨A, x, ⟨Dv.refl A, ?_, xp 0, fun _ => 0, 1, xp_fz 0, fun i _ => rfl, fun i => by rw [cf_one, cf_zero_l fun _ => rfl]; omega⟩, ⟨0, by omega, da⟩, bx, ?_⟩
    · refine ⟨A 0, fun i => B 0 * xp 0 i, 1, da.top, (xp_fz 0).scale _, fun i => ?_⟩
      rw [cf_scale_l, cf_one]
      by_cases c : i = 0
      · rw [c, Int.mul_comm]
      · rw [db.up i (by omega), da.up i (by omega)]; simp
    · show x + 1 ≤ 1 * (max x y + 1) + 1 * (min x y + 1)
      omega
  | succ n ih =>
    have main : ∀ {A B : Nat → Int} {a b x y : Nat}, Dg A a → Dg B b → a + b ≤ n + 1 → b ≤ a → Bt x A → Bt y B → ∃ e k, Euc A B e ∧ (∃ m, m ≤ min a b ∧ Dg e m) ∧ Bt k e ∧ k + 1 ≤ fibb (n + 3) * (max x y + 1) + fibb (n + 2) * (min x y + 1) := by
      intro A B a b x y da db h hba bx by_
      have f1 : fibb (n + 3) = fibb (n + 2) + fibb (n + 1) := rfl
      have p1 := fibb_pos (n + 1)
      have bC : Bt (x + y + 1) (fun i => B b * A i + -A a * cf (xp (a - b)) B i) := fun i => by
        show (B b * A i + -A a * cf (xp (a - b)) B i).natAbs < _
        have z1 : (B b * A i).natAbs < 2 ^ (x + y) := by
          rw [Int.natAbs_mul, Nat.add_comm x y, Nat.pow_add]
          exact Nat.mul_lt_mul'' (by_ b) (bx i)
        have z2 : (-A a * cf (xp (a - b)) B i).natAbs < 2 ^ (x + y) := by
          rw [Int.natAbs_mul, Int.natAbs_neg, cf_xp, Nat.pow_add]
          split
          · exact Nat.mul_lt_mul'' (bx a) (by_ _)
          · rw [Int.natAbs_zero, Nat.mul_zero]
            exact Nat.mul_pos (Nat.two_pow_pos _) (Nat.two_pow_pos _)
        have := Int.natAbs_add_le (B b * A i) (-A a * cf (xp (a - b)) B i)
        rw [Nat.pow_succ]
        omega
      rcases zero_or_dg a (step_dg da db hba) with z | ⟨m, hm, dm⟩
      · refine ⟨B, y, Euc.step (a := a) (b := b) db.top ⟨Dv.zero z, Dv.refl B, fun _ => 0, xp 0, 1, fun i _ => rfl, xp_fz 0, fun i => by rw [cf_one, cf_zero_l fun _ => rfl]; omega⟩, ⟨b, by omega, db⟩, by_, ?_⟩
        have q1 : y + 1 ≤ max x y + 1 := by omega
        have q2 : 1 * (max x y + 1) ≤ fibb (n + 3) * (max x y + 1) := Nat.mul_le_mul_right _ (show 1 ≤ fibb (n + 3) from fibb_pos (n + 2))
        omega
      · obtain ⟨e, k, eu, ⟨m', hm', de⟩, bk, hk⟩ := ih dm db (by omega) bC by_
        refine ⟨e, k, Euc.step (a := a) (b := b) db.top eu, ⟨m', by omega, de⟩, bk, ?_⟩
        have e1 : max (x + y + 1) y + 1 = (max x y + 1) + (min x y + 1) := by omega
        have e2 : min (x + y + 1) y + 1 ≤ max x y + 1 := by omega
        have q1 := Nat.mul_le_mul_left (fibb (n + 1)) e2
        rw [e1, Nat.mul_add] at hk
        rw [f1, Nat.add_mul]
        omega
    intro A B a b x y da db h bx by_
    by_cases c : b ≤ a
    · exact main da db h c bx by_
    · obtain ⟨e, k, eu, ⟨m, hm, de⟩, bk, hk⟩ := main db da (by omega) (by omega) by_ bx
      refine ⟨e, k, eu.symm, ⟨m, by omega, de⟩, bk, ?_⟩
      rw [Nat.max_comm x y, Nat.min_comm x y]
      exact hk
/-! ### Gauss -/
/-- a number from 2 on has a prime divisor -/
structure Pr (p : Nat) : Prop where
  two : 2 ≤ p
  mul : ∀ a b : Int, (p : Int) ∣ a * b → (p : Int) ∣ a ∨ (p : Int) ∣ b
theorem pr_of_min {p : Nat} (h2 : 2 ≤ p) (h : ∀ q, 2 ≤ q → q ∣ p → q = p) : Pr p := ⟨h2, fun a b hab => by
  have g : Nat.gcd p a.natAbs ∣ p := Nat.gcd_dvd_left ..
  have gp : 0 < Nat.gcd p a.natAbs := Nat.gcd_pos_of_pos_left _ (by omega)
  by_cases c : Nat.gcd p a.natAbs = 1
  · right
    have d : p ∣ a.natAbs * b.natAbs := by
      rw [← Int.natAbs_mul]
      exact Int.ofNat_dvd_left.mp hab
    exact Int.ofNat_dvd_left.mpr (Nat.Coprime.dvd_of_dvd_mul_left c d)
  · left
    have e := h _ (by omega) g
    exact Int.ofNat_dvd_left.mpr (e ▸ Nat.gcd_dvd_right p a.natAbs)⟩
theorem pr_ex : ∀ n : Nat, 2 ≤ n → ∃ p, Pr p ∧ p ∣ n := fun n => by
  induction n using Nat.strongRecOn with
  | ind n ih =>
    intro h2
    by_cases c : ∃ q, 2 ≤ q ∧ q ∣ n ∧ q ≠ n
    · obtain ⟨q, q2, qd, qn⟩ := c
      have := Nat.le_of_dvd (by omega) qd
      obtain ⟨p, hp, pd⟩ := ih q (by omega) q2
      exact ⟨p, hp, Nat.dvd_trans pd qd⟩
    · exact ⟨n, pr_of_min h2 fun q q2 qd => Decidable.byContradiction fun qn => c ⟨q, q2, qd, qn⟩, Nat.dvd_refl _⟩
/-- the least place that p doesn't divide -/
theorem least_not {p : Int} {f : Nat → Int} (h : ∃ i, ¬ p ∣ f i) : ∃ i, ¬ p ∣ f i ∧ ∀ j, j < i → p ∣ f j := by
  obtain ⟨n, hn⟩ := h
  induction n using Nat.strongRecOn with
  | ind n ih =>
    by_cases c : ∃ j, j < n ∧ ¬ p ∣ f j
    · obtain ⟨j, hj, nj⟩ := c
      exact ih j hj nj
    · exact ⟨n, hn, fun j hj => Decidable.byContradiction fun z => c ⟨j, hj, z⟩⟩
theorem sumTo_dvd {p : Int} {F : Nat → Int} : ∀ n, (∀ i, i < n → p ∣ F i) → p ∣ sumTo F n
  | 0, _ => Int.dvd_zero _
  | n + 1, h => Int.dvd_add (sumTo_dvd n fun i hi => h i (by omega)) (h n (by omega))
theorem gauss_p {p : Nat} (hp : Pr p) {f g : Nat → Int} (h : ∀ k, (p : Int) ∣ cf f g k) (ng : ∃ i, ¬ (p : Int) ∣ g i) : ∀ i, (p : Int) ∣ f i := by
  refine fun i => Decidable.byContradiction fun c => ?_
  obtain ⟨a, na, la⟩ := least_not ⟨i, c⟩
  obtain ⟨b, nb, lb⟩ := least_not ng
  have z := h (a + b)
  unfold cf at z
  rw [show a + b + 1 = a + (1 + b) by omega, sumTo_app, sumTo_app] at z
  have z1 : (p : Int) ∣ sumTo (fun i => f i * g (a + b - i)) a := sumTo_dvd a fun i hi => Int.dvd_trans (la i hi) (Int.dvd_mul_right _ _)
  have z2 : (p : Int) ∣ sumTo (fun i => f (a + (1 + i)) * g (a + b - (a + (1 + i)))) b := sumTo_dvd b fun i hi => Int.dvd_trans (lb _ (by omega)) (Int.dvd_mul_left _ _)
  have z3 : (p : Int) ∣ sumTo (fun i => f (a + i) * g (a + b - (a + i))) 1 := by
    have y := Int.dvd_sub (Int.dvd_sub z z1) z2
    have e : sumTo (fun i => f i * g (a + b - i)) a + (sumTo (fun i => f (a + i) * g (a + b - (a + i))) 1 + sumTo (fun i => f (a + (1 + i)) * g (a + b - (a + (1 + i)))) b) - sumTo (fun i => f i * g (a + b - i)) a - sumTo (fun i => f (a + (1 + i)) * g (a + b - (a + (1 + i)))) b = sumTo (fun i => f (a + i) * g (a + b - (a + i))) 1 := by omega
    rwa [e] at y
  have z4 : (p : Int) ∣ f a * g b := by
    have e : sumTo (fun i => f (a + i) * g (a + b - (a + i))) 1 = f a * g b := by
      show 0 + f (a + 0) * g (a + b - (a + 0)) = _
      rw [Nat.add_zero, show a + b - a = b by omega, Int.zero_add]
    rwa [e] at z3
  rcases hp.mul _ _ z4 with y | y
  · exact na y
  · exact nb y
/-- no prime divides all coefficients -/
def Prim (f : Nat → Int) : Prop := ∀ p : Nat, Pr p → ∃ i, ¬ (p : Int) ∣ f i
theorem gauss : ∀ (n : Nat) {m : Int} {A s g : Nat → Int} {N : Nat}, m.natAbs = n → m ≠ 0 → Prim g → Fz s N → (∀ i, m * A i = cf s g i) → ∃ s', Fz s' N ∧ (∀ i, s i = m * s' i) ∧ ∀ i, A i = cf s' g i := fun n => by
  induction n using Nat.strongRecOn with
  | ind n ih =>
    intro m A s g N hn m0 pg hs e
    by_cases c : n = 1
    · rcases (show m = 1 ∨ m = -1 by omega) with rfl | rfl
      · exact ⟨s, hs, fun i => (Int.one_mul _).symm, fun i => by rw [← e, Int.one_mul]⟩
      · refine ⟨fun i => -1 * s i, hs.scale _, fun i => by show s i = -1 * (-1 * s i); omega, fun i => ?_⟩
        rw [cf_scale_l, ← e]
        omega
    · obtain ⟨p, hp, pd⟩ := pr_ex n (by omega)
      have pm : (p : Int) ∣ m := Int.ofNat_dvd_left.mpr (hn ▸ pd)
      obtain ⟨m', rfl⟩ := pm
      have p2 := hp.two
      have ps : ∀ i, (p : Int) ∣ s i := gauss_p hp (fun k => by rw [← e]; exact ⟨m' * A k, by rw [Int.mul_assoc]⟩) (pg p hp)
      obtain ⟨t, ht⟩ : ∃ t : Nat → Int, ∀ i, s i = (p : Int) * t i := Classical.axiomOfChoice fun i => ps i
      have p0 : (p : Int) ≠ 0 := by omega
      have hts : Fz t N := fun i hi => by
        have := hs i hi
        rw [ht i] at this
        rcases Int.mul_eq_zero.mp this with z | z
        · exact absurd z p0
        · exact z
      have m0' : m' ≠ 0 := fun z => m0 (by rw [z, Int.mul_zero])
      have e' : ∀ i, m' * A i = cf t g i := fun i => by
        apply Int.eq_of_mul_eq_mul_left p0
        rw [← Int.mul_assoc, e i, ← cf_scale_l]
        exact cf_congr ht (fun _ => rfl) i
      have lt : m'.natAbs < n := by
        rw [← hn, Int.natAbs_mul, Int.natAbs_natCast]
        have : 0 < m'.natAbs := by omega
        calc m'.natAbs = 1 * m'.natAbs := (Nat.one_mul _).symm
          _ < p * m'.natAbs := Nat.mul_lt_mul_of_pos_right (by omega) this
      obtain ⟨s', h1, h2, h3⟩ := ih m'.natAbs lt rfl m0' pg hts e'
      exact ⟨s', h1, fun i => by rw [ht, h2, Int.mul_assoc], h3⟩
/-- a primitive divisor divides over the whole numbers -/
theorem Dv.whole {g A : Nat → Int} (h : Dv g A) (pg : Prim g) : ∃ (s : Nat → Int) (N : Nat), Fz s N ∧ ∀ i, A i = cf s g i := by
  obtain ⟨m, s, N, m0, hs, e⟩ := h
  obtain ⟨s', h1, _, h3⟩ := gauss _ rfl m0 pg hs e
  exact ⟨s', N, h1, h3⟩
/-- the primitive part -/
theorem prim_part {f : Nat → Int} {n : Nat} (d : Dg f n) : ∃ (c : Int) (g : Nat → Int), c ≠ 0 ∧ Prim g ∧ Dg g n ∧ ∀ i, f i = c * g i := by
  have key : ∀ (k : Nat) (f : Nat → Int), (f n).natAbs = k → Dg f n → ∃ (c : Int) (g : Nat → Int), c ≠ 0 ∧ Prim g ∧ Dg g n ∧ ∀ i, f i = c * g i := fun k => by
    induction k using Nat.strongRecOn with
    | ind k ih =>
      intro f hk d
      by_cases c : Prim f
      · exact ⟨1, f, by decide, c, d, fun i => (Int.one_mul _).symm⟩
      · obtain ⟨p, hc⟩ := Classical.not_forall.mp c
        obtain ⟨hp, hc⟩ := Classical.not_imp.mp hc
        have pd : ∀ i, (p : Int) ∣ f i := fun i => Decidable.byContradiction fun z => hc ⟨i, z⟩
        obtain ⟨t, ht⟩ : ∃ t : Nat → Int, ∀ i, f i = (p : Int) * t i := Classical.axiomOfChoice fun i => pd i
        have p2 := hp.two
        have p0 : (p : Int) ≠ 0 := by omega
        have dt : Dg t n := ⟨fun z => d.top (by rw [ht, z, Int.mul_zero]), fun i hi => by
          have := d.up i hi
          rw [ht i] at this
          rcases Int.mul_eq_zero.mp this with z | z
          · exact absurd z p0
          · exact z⟩
        have lt : (t n).natAbs < k := by
          rw [← hk, ht n, Int.natAbs_mul, Int.natAbs_natCast]
          have h0 := dt.top
          have : 0 < (t n).natAbs := by omega
          calc (t n).natAbs = 1 * (t n).natAbs := (Nat.one_mul _).symm
            _ < p * (t n).natAbs := Nat.mul_lt_mul_of_pos_right (by omega) this
        obtain ⟨c', g, c0, pg, dg, e⟩ := ih _ lt t rfl dt
        exact ⟨p * c', g, Int.mul_ne_zero p0 c0, pg, dg, fun i => by rw [ht, e, Int.mul_assoc]⟩
  exact key _ f rfl d
end CB

namespace CB
open PySem PySem.Spec PyProof.Rows L2
/-! ### values, and how great a divisor's value is -/
theorem e1_first (f : Nat → Int) (x : Int) (N : Nat) : e1 f x (N + 1) = f 0 + x * e1 (fun i => f (i + 1)) x N := by
  unfold e1
  rw [sumTo_first, Int.pow_zero, Int.mul_one, ← sumTo_mul]
  congr 1
  exact sumTo_congr N fun i _ => by rw [Int.pow_succ]; grind
def cB : Nat → Nat
  | 0 => 1
  | s + 1 => 2 * cB s + 1
/-- sums of powers -/
def sg (x : Nat) : Nat → Nat
  | 0 => 0
  | n + 1 => sg x n + x ^ n
theorem sg_eq {x : Nat} (h : 1 ≤ x) : ∀ n, (x - 1) * sg x n + 1 = x ^ n
  | 0 => by simp [sg]
  | n + 1 => by
    have ih := sg_eq h n
    obtain ⟨y, rfl⟩ : ∃ y, x = y + 1 := ⟨x - 1, by omega⟩
    rw [Nat.add_sub_cancel] at ih ⊢
    show y * (sg (y + 1) n + (y + 1) ^ n) + 1 = (y + 1) ^ n * (y + 1)
    generalize (y + 1) ^ n = P at ih ⊢
    rw [Nat.mul_add, Nat.mul_succ]
    have : P * y = y * P := Nat.mul_comm _ _
    omega
theorem e1_le {f : Nat → Int} {H x : Nat} {h : Int} (hf : ∀ i, (f i).natAbs ≤ H) (hx : h.natAbs ≤ x) : ∀ N, (e1 f h N).natAbs ≤ H * sg x N
  | 0 => by simp [e1, sumTo]
  | N + 1 => by
    have ih := e1_le hf hx N
    show (e1 f h N + f N * h ^ N).natAbs ≤ H * (sg x N + x ^ N)
    have z := Int.natAbs_add_le (e1 f h N) (f N * h ^ N)
    have y : (f N * h ^ N).natAbs ≤ H * x ^ N := by
      rw [Int.natAbs_mul, Int.natAbs_pow]
      exact Nat.mul_le_mul (hf N) (Nat.pow_le_pow_left hx N)
    rw [Nat.mul_add]
    omega
/-- a value at a great number -/
theorem e1_big {A : Nat → Int} {n H X : Nat} (d : Dg A n) (hH : ∀ i, (A i).natAbs ≤ H) (hX : 2 ^ 24 * H + 29 ≤ X) : (2 ^ 24 - 1) * X ^ n < 2 ^ 24 * (e1 A (X : Int) (n + 1)).natAbs := by
  have l := e1_le (f := A) (h := (X : Int)) (x := X) hH (by omega) n
  have g := sg_eq (x := X) (by omega) n
  have t0 := d.top
  have top : X ^ n ≤ (A n * (X : Int) ^ n).natAbs := by
    rw [Int.natAbs_mul, Int.natAbs_pow, Int.natAbs_natCast]
    calc X ^ n = 1 * X ^ n := (Nat.one_mul _).symm
      _ ≤ _ := Nat.mul_le_mul_right _ (by omega)
  have e : e1 A (X : Int) (n + 1) = e1 A (X : Int) n + A n * (X : Int) ^ n := rfl
  have z := Int.natAbs_sub_le (e1 A (X : Int) (n + 1)) (e1 A (X : Int) n)
  rw [show e1 A (X : Int) (n + 1) - e1 A (X : Int) n = A n * (X : Int) ^ n by rw [e]; omega] at z
  have m1 : 2 ^ 24 * (H * sg X n) ≤ (X - 1) * sg X n := by
    rw [← Nat.mul_assoc]
    exact Nat.mul_le_mul_right _ (by omega)
  have m2 : 2 ^ 24 * (e1 A (X : Int) n).natAbs ≤ 2 ^ 24 * (H * sg X n) := Nat.mul_le_mul_left _ l
  generalize (e1 A (X : Int) n).natAbs = a at *
  generalize (e1 A (X : Int) (n + 1)).natAbs = b at *
  generalize (A n * (X : Int) ^ n).natAbs = c at *
  generalize X ^ n = p at *
  generalize (X - 1) * sg X n = q at *
  generalize 2 ^ 24 * (H * sg X n) = r at *
  omega
def pts : List Int := [-6, -5, -4, -3, -2, -1, 0, 1, 2, 3, 4, 5, 6]
theorem pts_pw : pts.Pairwise (· ≠ ·) := by decide
theorem pts_le : ∀ h ∈ pts, h.natAbs ≤ 6 := by decide
end CB

namespace CB
open PySem PySem.Spec PyProof.Rows L2
/-! ### the greatest common divisor by values -/
theorem e1_fz {f g h : Nat → Int} {x : Int} {N M L : Nat} (hf : Fz f N) (hg : Fz g M) (hh : Fz h L) (e : ∀ i, h i = cf f g i) : e1 h x L = e1 f x N * e1 g x M := by
  rw [← e1_cf hf hg, ← e1_more (N := L) (M := L + (N + M)) (fun i hi => hh i hi) (by omega), ← e1_more (N := N + M) (M := L + (N + M)) (fun i hi => (hf.cf hg) i hi) (by omega)]
  exact e1_congr fun i _ => e i
theorem e1_scale' (c : Int) (f : Nat → Int) (x : Int) (N : Nat) : e1 (fun i => c * f i) x N = c * e1 f x N := e1_scale c f x N
/-- one of the two is small, and of few coefficients -/
def SmO (A B : Nat → Int) (a b H : Nat) : Prop := (a ≤ 7 ∧ ∀ i, (A i).natAbs ≤ H) ∨ (b ≤ 7 ∧ ∀ i, (B i).natAbs ≤ H)
/-- digits on both sides of zero are one -/
theorem dig_uniq {X : Nat} (hX : 0 < X) : ∀ (N : Nat) {f g : Nat → Int}, (∀ i, 2 * (f i).natAbs ≤ X) → (∀ i, 2 * (g i).natAbs < X) → e1 f (X : Int) N = e1 g (X : Int) N → ∀ i, i < N → f i = g i
  | 0, f, g, _, _, _, i, hi => absurd hi (by omega)
  | N + 1, f, g, hf, hg, e, i, hi => by
    rw [e1_first, e1_first] at e
    have f0 := hf 0
    have g0 := hg 0
    have d : (X : Int) ∣ f 0 - g 0 := ⟨e1 (fun i => g (i + 1)) (X : Int) N - e1 (fun i => f (i + 1)) (X : Int) N, by rw [Int.mul_sub]; omega⟩
    have z : f 0 - g 0 = 0 := by
      have n := Int.ofNat_dvd_left.mp d
      refine Decidable.byContradiction fun c => ?_
      have := Nat.le_of_dvd (by omega) n
      omega
    match i, hi with
    | 0, _ => omega
    | i + 1, hi =>
      have e' : e1 (fun i => f (i + 1)) (X : Int) N = e1 (fun i => g (i + 1)) (X : Int) N := by
        apply Int.eq_of_mul_eq_mul_left (show (X : Int) ≠ 0 by omega)
        omega
      exact dig_uniq hX N (fun i => hf (i + 1)) (fun i => hg (i + 1)) e' i (by omega)
/-- from some number on the digits are the greatest common divisor, times a number -/
theorem heu_ok {A B e0 : Nat → Int} {a b m k X N : Nat} {D : Nat → Int} (dA : Dg A a) (dB : Dg B b) (eu : Euc A B e0) (de0 : Dg e0 m) (bk : Bt k e0) (hX : 2 ^ (k + 2) ≤ X)
    (fD : Fz D N) (hD : ∀ i, 2 * (D i).natAbs ≤ X) (ev : e1 D (X : Int) N = ((Nat.gcd (e1 A (X : Int) (a + 1)).natAbs (e1 B (X : Int) (b + 1)).natAbs : Nat) : Int)) : Dv D A ∧ Dv D B := by
  obtain ⟨κ, e, k0, pe, de, ee⟩ := prim_part de0
  have eD : ∀ {P : Nat → Int}, Dv e0 P → Dv e P := fun {P} z => by
    obtain ⟨c1, s, N, c0, hs, h⟩ := z
    exact ⟨c1, fun i => κ * s i, N, c0, hs.scale κ, fun i => by rw [h i, cf_scale_l, ← cf_scale]; exact cf_congr (fun _ => rfl) ee i⟩
  have eA := eD eu.da
  have eB := eD eu.db
  obtain ⟨S, NS, fS, hS⟩ := eA.whole pe
  obtain ⟨T, NT, fT, hT⟩ := eB.whole pe
  have vA : e1 A (X : Int) (a + 1) = e1 S (X : Int) NS * e1 e (X : Int) (m + 1) := e1_fz fS de.up dA.up hS
  have vB : e1 B (X : Int) (b + 1) = e1 T (X : Int) NT * e1 e (X : Int) (m + 1) := e1_fz fT de.up dB.up hT
  obtain ⟨u, v, M, hu, hv, cm⟩ := eu.comb
  -- u S + v T is the number
  have fW : Fz (fun i => cf u S i + cf v T i) (M + NS + NT) := Fz.add ((hu.cf fS).mono (by omega)) ((hv.cf fT).mono (by omega))
  have one : ∀ i, cf u S i + cf v T i = κ * xp 0 i := fun i => by
    refine cf_cancel (f := e) (n := M + NS + NT + 1) de (fW.mono (by omega)) (((xp_fz 0).scale κ).mono (by omega)) (fun j => ?_) i
    rw [cf_comm e (fun i => cf u S i + cf v T i), cf_add_l (cf u S) (cf v T), cf_scale, cf_assoc, cf_assoc, cf_comm e (xp 0), cf_one, ← ee, cm]
    rw [show cf u (cf S e) j = cf u A j from cf_congr (fun _ => rfl) (fun i => (hS i).symm) j, show cf v (cf T e) j = cf v B j from cf_congr (fun _ => rfl) (fun i => (hT i).symm) j]
  have val : e1 u (X : Int) M * e1 S (X : Int) NS + e1 v (X : Int) M * e1 T (X : Int) NT = κ := by
    have z1 : e1 (fun i => cf u S i + cf v T i) (X : Int) (M + NS + NT) = e1 u (X : Int) M * e1 S (X : Int) NS + e1 v (X : Int) M * e1 T (X : Int) NT := by
      rw [← e1_cf hu fS, ← e1_cf hv fT, ← e1_more (N := M + NS) (M := M + NS + NT) (fun i hi => (hu.cf fS) i hi) (by omega), ← e1_more (N := M + NT) (M := M + NS + NT) (fun i hi => (hv.cf fT) i hi) (by omega)]
      unfold e1
      rw [← sumTo_add]
      exact sumTo_congr _ fun i _ => Int.add_mul _ _ _
    rw [← z1]
    have z2 : e1 (fun i => cf u S i + cf v T i) (X : Int) (M + NS + NT + 1) = κ := by
      have : e1 (fun i => cf u S i + cf v T i) (X : Int) (M + NS + NT + 1) = e1 (fun i => κ * xp 0 i) (X : Int) (M + NS + NT + 1) := e1_congr fun i _ => one i
      rw [this]
      unfold e1
      rw [sumTo_one (k := 0) _ (by omega) fun i _ ne => by show κ * (if i = 0 then (1 : Int) else 0) * _ = 0; rw [if_neg ne]; simp]
      show κ * (if 0 = 0 then (1 : Int) else 0) * (X : Int) ^ 0 = κ
      simp
    rw [← z2]
    exact (e1_more (fun i hi => fW i hi) (by omega)).symm
  obtain ⟨δ, hδ⟩ : ∃ δ : Nat, δ = Nat.gcd (e1 S (X : Int) NS).natAbs (e1 T (X : Int) NT).natAbs := ⟨_, rfl⟩
  have dk : (δ : Int) ∣ κ := by
    rw [← val]
    refine Int.dvd_add (Int.dvd_trans ?_ (Int.dvd_mul_left _ _)) (Int.dvd_trans ?_ (Int.dvd_mul_left _ _))
    · exact Int.ofNat_dvd_left.mpr (hδ ▸ Nat.gcd_dvd_left _ _)
    · exact Int.ofNat_dvd_left.mpr (hδ ▸ Nat.gcd_dvd_right _ _)
  have δ0 : δ ≠ 0 := fun z => by
    rw [z] at dk
    obtain ⟨y, hy⟩ := dk
    exact k0 (by rw [hy]; simp)
  have δk : δ ≤ κ.natAbs := Nat.le_of_dvd (by omega) (Int.ofNat_dvd_left.mp dk)
  have gv : Nat.gcd (e1 A (X : Int) (a + 1)).natAbs (e1 B (X : Int) (b + 1)).natAbs = δ * (e1 e (X : Int) (m + 1)).natAbs := by
    rw [vA, vB, Int.natAbs_mul, Int.natAbs_mul, Nat.gcd_mul_right, hδ]
  rw [gv] at ev
  -- the sign
  obtain ⟨σ, s1, es⟩ : ∃ σ : Int, (σ = 1 ∨ σ = -1) ∧ ((e1 e (X : Int) (m + 1)).natAbs : Int) = σ * e1 e (X : Int) (m + 1) := by
    rcases Int.natAbs_eq (e1 e (X : Int) (m + 1)) with h | h
    · exact ⟨1, .inl rfl, by omega⟩
    · exact ⟨-1, .inr rfl, by omega⟩
  have sd : ((σ * δ : Int)) ≠ 0 := by
    rcases s1 with h | h <;> rw [h] <;> omega
  have small : ∀ i, 2 * (σ * δ * e i).natAbs < X := fun i => by
    have b := bk i
    rw [ee i, Int.natAbs_mul] at b
    have : (σ * δ * e i).natAbs ≤ κ.natAbs * (e i).natAbs := by
      rw [Int.natAbs_mul]
      refine Nat.mul_le_mul_right _ ?_
      rcases s1 with h | h <;> rw [h] <;> omega
    have p : 2 ^ (k + 2) = 4 * 2 ^ k := by rw [Nat.pow_add]; omega
    have := Nat.two_pow_pos k
    omega
  have evs : e1 (fun i => σ * δ * e i) (X : Int) (N + (m + 1)) = e1 D (X : Int) (N + (m + 1)) := by
    rw [e1_scale', e1_more (N := N) (M := N + (m + 1)) (fun i hi => fD i hi) (by omega), ev, e1_more (N := m + 1) (M := N + (m + 1)) (fun i hi => de.up i hi) (by omega), Int.natCast_mul, es]
    grind
  have p0 : 0 < X := Nat.lt_of_lt_of_le (Nat.two_pow_pos _) hX
  have eq : ∀ i, D i = σ * δ * e i := fun i => by
    by_cases c : i < N + (m + 1)
    · exact dig_uniq p0 (N + (m + 1)) hD small evs.symm i c
    · rw [fD i (by omega), de.up i (by omega), Int.mul_zero]
  exact ⟨(eA.scale_l sd).congr eq (fun _ => rfl), (eB.scale_l sd).congr eq (fun _ => rfl)⟩
end CB

namespace CB
open PySem PySem.Spec PyProof.Rows L2
/-! ### a great prime -/
/-- x ^ k modulo n, by halves (f: enough turns) -/
def pwm (n : Nat) : Nat → Nat → Nat → Nat → Nat
  | 0, _, _, acc => acc
  | f + 1, x, k, acc => if k = 0 then acc else pwm n f (x * x % n) (k / 2) (if k % 2 = 1 then acc * x % n else acc)
theorem pwm_eq (n : Nat) : ∀ (f x k acc : Nat), k < 2 ^ f → pwm n f x k acc % n = acc * x ^ k % n
  | 0, x, k, acc, h => by
    obtain rfl : k = 0 := by
      have : k < 1 := h
      omega
    rw [Nat.pow_zero, Nat.mul_one]
    rfl
  | f + 1, x, k, acc, h => by
    unfold pwm
    by_cases c : k = 0
    · rw [if_pos c, c, Nat.pow_zero, Nat.mul_one]
    · rw [if_neg c, pwm_eq n f _ _ _ (by rw [Nat.pow_succ] at h; omega)]
      have e : x ^ k = (x * x) ^ (k / 2) * x ^ (k % 2) := by
        have : k = 2 * (k / 2) + k % 2 := by omega
        calc x ^ k = x ^ (2 * (k / 2) + k % 2) := by rw [← this]
          _ = _ := by rw [Nat.pow_add, Nat.pow_mul, Nat.pow_two]
      rw [e]
      rcases (show k % 2 = 0 ∨ k % 2 = 1 by omega) with z | z
      · rw [if_neg (by omega), z, Nat.pow_zero, Nat.mul_one, Nat.mul_mod, ← Nat.pow_mod, ← Nat.mul_mod]
      · rw [if_pos z, z, Nat.pow_one, Nat.mul_mod, Nat.mod_mod, ← Nat.pow_mod, ← Nat.mul_mod]
        congr 1
        rw [Nat.mul_assoc, Nat.mul_comm x]
/-- Pascal's numbers -/
def pas : Nat → Nat → Nat
  | _, 0 => 1
  | 0, _ + 1 => 0
  | n + 1, k + 1 => pas n k + pas n (k + 1)
theorem pas_big : ∀ {n k : Nat}, n < k → pas n k = 0
  | 0, k + 1, _ => rfl
  | n + 1, k + 1, h => by
    show pas n k + pas n (k + 1) = 0
    rw [pas_big (by omega), pas_big (by omega)]
theorem pas_up : ∀ n k : Nat, (k + 1) * pas (n + 1) (k + 1) = (n + 1) * pas n k
  | 0, 0 => rfl
  | 0, k + 1 => by
    show (k + 1 + 1) * (pas 0 (k + 1) + pas 0 (k + 1 + 1)) = _
    rw [pas_big (by omega), pas_big (by omega)]
    simp
  | n + 1, 0 => by
    have ih := pas_up n 0
    have e : pas (n + 1) 1 = 1 + pas n 1 := by
      show pas n 0 + pas n 1 = _
      cases n <;> rfl
    have e2 : pas (n + 1 + 1) 1 = 1 + pas (n + 1) 1 := by
      show pas (n + 1) 0 + pas (n + 1) 1 = _
      rfl
    have e3 : pas (n + 1) 0 = 1 := rfl
    have e4 : pas n 0 = 1 := by cases n <;> rfl
    rw [e4] at ih
    have ih' : 1 * pas (n + 1) 1 = (n + 1) * 1 := ih
    show 1 * pas (n + 1 + 1) 1 = (n + 1 + 1) * 1
    rw [e2]
    omega
  | n + 1, k + 1 => by
    have i1 := pas_up n k
    have i2 := pas_up n (k + 1)
    have e1 : pas (n + 1 + 1) (k + 1 + 1) = pas (n + 1) (k + 1) + pas (n + 1) (k + 1 + 1) := rfl
    have e2 : pas (n + 1) (k + 1) = pas n k + pas n (k + 1) := rfl
    rw [e1, Nat.mul_add, i2, Nat.add_mul (k + 1) 1, i1, e2]
    generalize pas n k = A
    generalize pas n (k + 1) = B
    grind
def smN (f : Nat → Nat) : Nat → Nat
  | 0 => 0
  | n + 1 => smN f n + f n
theorem smN_congr {f g : Nat → Nat} : ∀ n, (∀ i, i < n → f i = g i) → smN f n = smN g n
  | 0, _ => rfl
  | n + 1, h => by show smN f n + f n = smN g n + g n; rw [smN_congr n fun i hi => h i (by omega), h n (by omega)]
theorem smN_first (f : Nat → Nat) : ∀ n, smN f (n + 1) = f 0 + smN (fun i => f (i + 1)) n
  | 0 => by show 0 + f 0 = f 0 + 0; omega
  | n + 1 => by
    show smN f (n + 1) + f (n + 1) = f 0 + (smN (fun i => f (i + 1)) n + f (n + 1))
    rw [smN_first f n]
    omega
theorem smN_add (f g : Nat → Nat) : ∀ n, smN (fun i => f i + g i) n = smN f n + smN g n
  | 0 => rfl
  | n + 1 => by show smN _ n + (f n + g n) = smN f n + f n + (smN g n + g n); rw [smN_add f g n]; omega
theorem smN_mul (c : Nat) (f : Nat → Nat) : ∀ n, smN (fun i => f i * c) n = smN f n * c
  | 0 => (Nat.zero_mul _).symm
  | n + 1 => by show smN _ n + f n * c = (smN f n + f n) * c; rw [smN_mul c f n, Nat.add_mul]
theorem binom (a : Nat) : ∀ n, (a + 1) ^ n = smN (fun k => pas n k * a ^ k) (n + 1)
  | 0 => rfl
  | n + 1 => by
    rw [Nat.pow_succ, binom a n, smN_first (fun k => pas (n + 1) k * a ^ k) (n + 1)]
    have e : smN (fun i => pas (n + 1) (i + 1) * a ^ (i + 1)) (n + 1) = smN (fun k => pas n k * a ^ k * a) (n + 1) + smN (fun k => pas n (k + 1) * a ^ (k + 1)) (n + 1) := by
      rw [← smN_add]
      exact smN_congr _ fun i _ => by
        show (pas n i + pas n (i + 1)) * a ^ (i + 1) = _
        rw [Nat.add_mul, Nat.pow_succ, Nat.mul_assoc]
    have e2 : smN (fun k => pas n (k + 1) * a ^ (k + 1)) (n + 1) + 1 = smN (fun k => pas n k * a ^ k) (n + 1) := by
      have z := smN_first (fun k => pas n k * a ^ k) (n + 1)
      have t : smN (fun k => pas n k * a ^ k) (n + 1 + 1) = smN (fun k => pas n k * a ^ k) (n + 1) := by
        show smN _ (n + 1) + pas n (n + 1) * a ^ (n + 1) = _
        rw [pas_big (by omega)]
        omega
      have o : pas n 0 * a ^ 0 = 1 := by cases n <;> rfl
      omega
    rw [e, smN_mul]
    have o : pas (n + 1) 0 * a ^ 0 = 1 := rfl
    rw [o, Nat.mul_add, Nat.mul_one]
    omega
theorem pas_self : ∀ n, pas n n = 1
  | 0 => rfl
  | n + 1 => by show pas n n + pas n (n + 1) = 1; rw [pas_self n, pas_big (by omega)]
/-- p divides the inner ones -/
theorem pas_pr {p : Nat} (hp : Pr p) {k : Nat} (h1 : 1 ≤ k) (h2 : k < p) : p ∣ pas p k := by
  obtain ⟨q, rfl⟩ : ∃ q, p = q + 1 := ⟨p - 1, by omega⟩
  obtain ⟨j, rfl⟩ : ∃ j, k = j + 1 := ⟨k - 1, by omega⟩
  have e := pas_up q j
  have d : ((q + 1 : Nat) : Int) ∣ ((j + 1 : Nat) : Int) * (pas (q + 1) (j + 1) : Int) := by
    rw [← Int.natCast_mul, e]
    exact Int.natCast_dvd_natCast.mpr ⟨_, rfl⟩
  rcases hp.mul _ _ d with z | z
  · have := Nat.le_of_dvd (by omega) (Int.natCast_dvd_natCast.mp z)
    omega
  · exact Int.natCast_dvd_natCast.mp z
theorem smN_dvd {p : Nat} {f : Nat → Nat} : ∀ n, (∀ i, i < n → p ∣ f i) → p ∣ smN f n
  | 0, _ => Nat.dvd_zero _
  | n + 1, h => Nat.dvd_add (smN_dvd n fun i hi => h i (by omega)) (h n (by omega))
/-- Fermat's little theorem -/
theorem fermat {p : Nat} (hp : Pr p) : ∀ a : Nat, a ^ p % p = a % p
  | 0 => by
    have := hp.two
    rw [Nat.zero_pow (by omega)]
  | a + 1 => by
    have ih := fermat hp a
    have p2 := hp.two
    obtain ⟨q, hq⟩ : ∃ q, p = q + 1 := ⟨p - 1, by omega⟩
    have e : (a + 1) ^ p = 1 + smN (fun i => pas p (i + 1) * a ^ (i + 1)) q + a ^ p := by
      rw [binom a p, smN_first]
      have o : pas p 0 * a ^ 0 = 1 := by cases p <;> rfl
      rw [o, hq]
      show 1 + (smN _ q + pas (q + 1) (q + 1) * a ^ (q + 1)) = _
      rw [pas_self, Nat.one_mul]
      omega
    have d : p ∣ smN (fun i => pas p (i + 1) * a ^ (i + 1)) q := smN_dvd q fun i hi => Nat.dvd_mul_right_of_dvd (pas_pr hp (by omega) (by omega)) _
    obtain ⟨t, ht⟩ := d
    rw [e, ht, show 1 + p * t + a ^ p = 1 + a ^ p + p * t by omega, Nat.add_mul_mod_self_left, Nat.add_mod, ih, ← Nat.add_mod, Nat.add_comm]
theorem fermat1 {p a : Nat} (hp : Pr p) (h : ¬ p ∣ a) : a ^ (p - 1) % p = 1 := by
  have f := fermat hp a
  have p2 := hp.two
  obtain ⟨q, hq⟩ : ∃ q, p = q + 1 := ⟨p - 1, by omega⟩
  have d : (p : Int) ∣ (a : Int) * ((a ^ (p - 1) : Nat) - 1 : Int) := by
    have e : (a : Int) * ((a ^ (p - 1) : Nat) - 1 : Int) = ((a ^ p : Nat) : Int) - (a : Int) := by
      rw [show a ^ p = a * a ^ (p - 1) by rw [hq, Nat.add_sub_cancel, Nat.pow_succ, Nat.mul_comm], Int.mul_sub, Int.mul_one, Int.natCast_mul]
    rw [e]
    exact Int.dvd_of_emod_eq_zero (by
      rw [Int.sub_emod, ← Int.natCast_emod, ← Int.natCast_emod, f, Int.sub_self]
      rfl)
  rcases hp.mul _ _ d with z | z
  · exact absurd (Int.natCast_dvd_natCast.mp z) h
  · have := Int.emod_emod_of_dvd ((a ^ (p - 1) : Nat) : Int) (Int.dvd_refl (p : Int))
    obtain ⟨t, ht⟩ := z
    have e : ((a ^ (p - 1) : Nat) : Int) = 1 + (p : Int) * t := by omega
    have : (((a ^ (p - 1) : Nat) : Int)) % (p : Int) = 1 := by
      rw [e, Int.add_mul_emod_self_left]
      exact Int.emod_eq_of_lt (by decide) (by omega)
    rw [← Int.natCast_emod] at this
    exact Int.ofNat.inj (show Int.ofNat _ = Int.ofNat 1 from this)
/-- powers that are 1: of the greatest common divisor too -/
theorem pow_gcd {r g : Nat} (r2 : 2 ≤ r) : ∀ (n a b : Nat), a + b ≤ n → g ^ a % r = 1 → g ^ b % r = 1 → g ^ Nat.gcd a b % r = 1 := fun n => by
  induction n with
  | zero =>
    intro a b h ha hb
    obtain rfl : a = 0 := by omega
    obtain rfl : b = 0 := by omega
    exact ha
  | succ n ih =>
    intro a b h ha hb
    have sub : ∀ a b : Nat, b ≤ a → g ^ a % r = 1 → g ^ b % r = 1 → g ^ (a - b) % r = 1 := fun a b hab ha hb => by
      have e : g ^ a = g ^ (a - b) * g ^ b := by rw [← Nat.pow_add]; congr 1; omega
      rw [e, Nat.mul_mod, hb, Nat.mul_one, Nat.mod_mod] at ha
      exact ha
    by_cases a0 : a = 0
    · rw [a0, Nat.gcd_zero_left]; exact hb
    by_cases b0 : b = 0
    · rw [b0, Nat.gcd_zero_right]; exact ha
    by_cases c : b ≤ a
    · have z := ih (a - b) b (by omega) (sub a b c ha hb) hb
      rwa [Nat.gcd_sub_self_left c] at z
    · have z := ih a (b - a) (by omega) ha (sub b a (by omega) hb ha)
      rwa [Nat.gcd_sub_self_right (by omega)] at z
/-- Pocklington, for one prime factor q of n - 1 -/
theorem pock {n q k g r : Nat} (hq : Pr q) (hr : Pr r) (rn : r ∣ n) (nk : n - 1 = q * k) (qk : ¬ q ∣ k) (h1 : g ^ (n - 1) % n = 1) (h2 : Nat.gcd (g ^ k % n + (n - 1)) n = 1) (n2 : 2 ≤ n) : q ∣ r - 1 := by
  refine Decidable.byContradiction fun c => ?_
  have r2 := hr.two
  have rle := Nat.le_of_dvd (by omega) rn
  have g1 : g ^ (n - 1) % r = 1 := by
    have : g ^ (n - 1) % n % r = 1 % r := by rw [h1]
    rw [Nat.mod_mod_of_dvd _ rn] at this
    rw [this, Nat.mod_eq_of_lt (by omega)]
  have rg : ¬ r ∣ g := fun d => by
    have : g ^ (n - 1) % r = 0 := by
      obtain ⟨m, hm⟩ : ∃ m, n - 1 = m + 1 := ⟨n - 2, by omega⟩
      rw [hm, Nat.pow_succ]
      exact Nat.mod_eq_zero_of_dvd (Nat.dvd_trans d (Nat.dvd_mul_left _ _))
    omega
  have g2 := fermat1 hr rg
  have g3 := pow_gcd r2 _ (n - 1) (r - 1) (Nat.le_refl _) g1 g2
  -- the greatest common divisor divides k
  have tk : Nat.gcd (n - 1) (r - 1) ∣ k := by
    have t1 : Nat.gcd (n - 1) (r - 1) ∣ q * k := nk ▸ Nat.gcd_dvd_left _ _
    have co : Nat.gcd (Nat.gcd (n - 1) (r - 1)) q = 1 := by
      obtain ⟨s, hs⟩ : ∃ s, s = Nat.gcd (Nat.gcd (n - 1) (r - 1)) q := ⟨_, rfl⟩
      have s1 : s ∣ q := hs ▸ Nat.gcd_dvd_right _ _
      have s2 : s ∣ r - 1 := Nat.dvd_trans (hs ▸ Nat.gcd_dvd_left _ _) (Nat.gcd_dvd_right _ _)
      obtain ⟨u, hu⟩ := s1
      have d : (q : Int) ∣ (s : Int) * (u : Int) := by rw [← Int.natCast_mul, ← hu]; exact Int.dvd_refl _
      rw [← hs]
      rcases hq.mul _ _ d with z | z
      · exact absurd (Nat.dvd_trans (Int.natCast_dvd_natCast.mp z) s2) c
      · obtain ⟨v, hv⟩ := Int.natCast_dvd_natCast.mp z
        have q2 := hq.two
        rw [hv] at hu
        have e : q * 1 = q * (s * v) := by
          calc q * 1 = q := Nat.mul_one _
            _ = s * (q * v) := hu
            _ = _ := by grind
        have := Nat.eq_of_mul_eq_mul_left (by omega) e
        exact Nat.eq_one_of_mul_eq_one_right this.symm
    exact Nat.Coprime.dvd_of_dvd_mul_left co t1
  obtain ⟨u, hu⟩ := tk
  have g4 : g ^ k % r = 1 := by
    rw [hu, Nat.pow_mul, Nat.pow_mod, g3, Nat.one_pow, Nat.mod_eq_of_lt (by omega)]
  have d1 : r ∣ g ^ k % n + (n - 1) := by
    apply Nat.dvd_of_mod_eq_zero
    have e1 : g ^ k % n % r = 1 := by rw [Nat.mod_mod_of_dvd _ rn, g4]
    obtain ⟨w, hw⟩ := rn
    have e2 : (n - 1) % r = r - 1 := by
      obtain ⟨w', rfl⟩ : ∃ w', w = w' + 1 := ⟨w - 1, by
        have : w ≠ 0 := fun z => by rw [z] at hw; omega
        omega⟩
      have e3 : n - 1 = r - 1 + r * w' := by rw [hw, Nat.mul_succ]; omega
      rw [e3, Nat.add_mul_mod_self_left, Nat.mod_eq_of_lt (by omega)]
    rw [Nat.add_mod, e1, e2, show 1 + (r - 1) = r by omega, Nat.mod_self]
  have d2 : r ∣ 1 := h2 ▸ Nat.dvd_gcd d1 rn
  have := Nat.le_of_dvd (by decide) d2
  omega
/-- small primes by trial -/
theorem pr_small {p : Nat} (h : (decide (2 ≤ p) && (List.range p).all fun q => decide (q < 2) || decide (p % q ≠ 0)) = true) : Pr p := by
  rw [Bool.and_eq_true] at h
  refine pr_of_min (of_decide_eq_true h.1) fun q q2 qd => Decidable.byContradiction fun ne => ?_
  have p2 := of_decide_eq_true h.1
  have := Nat.le_of_dvd (by omega) qd
  have z := List.all_eq_true.mp h.2 q (List.mem_range.mpr (by omega))
  rw [Bool.or_eq_true] at z
  rcases z with z | z
  · have := of_decide_eq_true z; omega
  · exact of_decide_eq_true z (Nat.mod_eq_zero_of_dvd qd)
theorem cop_dvd {a b r : Nat} (c : Nat.gcd a b = 1) (ha : a ∣ r) (hb : b ∣ r) : a * b ∣ r := Nat.Coprime.mul_dvd_of_dvd_of_dvd c ha hb
/-- the data for one prime factor -/
structure PkD (n f g q k : Nat) : Prop where
  pr : Pr q
  nk : n - 1 = q * k
  qk : ¬ q ∣ k
  k62 : k < 2 ^ f
  co : Nat.gcd (pwm n f g k 1 % n + (n - 1)) n = 1
theorem PkD.dvd {n f g q k r : Nat} (d : PkD n f g q k) (n2 : 2 ≤ n) (nf : n < 2 ^ f) (w1 : pwm n f g (n - 1) 1 % n = 1) (hr : Pr r) (rn : r ∣ n) : q ∣ r - 1 := by
  have pw : ∀ k, k < 2 ^ f → g ^ k % n = pwm n f g k 1 % n := fun k hk => by rw [pwm_eq n f g k 1 hk, Nat.one_mul]
  refine pock (g := g) d.pr hr rn d.nk d.qk ?_ ?_ n2
  · rw [pw (n - 1) (by omega)]; exact w1
  · rw [pw k d.k62]; exact d.co
theorem big_prime {n f g q1 q2 q3 q4 k1 k2 k3 k4 : Nat} (n2 : 2 ≤ n) (nf : n < 2 ^ f) (w1 : pwm n f g (n - 1) 1 % n = 1) (d1 : PkD n f g q1 k1) (d2 : PkD n f g q2 k2) (d3 : PkD n f g q3 k3) (d4 : PkD n f g q4 k4)
    (c1 : Nat.gcd q1 q2 = 1) (c2 : Nat.gcd (q1 * q2) q3 = 1) (c3 : Nat.gcd (q1 * q2 * q3) q4 = 1) (big : n < (q1 * q2 * q3 * q4) * (q1 * q2 * q3 * q4)) : Pr n := by
  have key : ∀ r, Pr r → r ∣ n → q1 * q2 * q3 * q4 < r := fun r hr rn => by
    have d : q1 * q2 * q3 * q4 ∣ r - 1 := cop_dvd c3 (cop_dvd c2 (cop_dvd c1 (d1.dvd n2 nf w1 hr rn) (d2.dvd n2 nf w1 hr rn)) (d3.dvd n2 nf w1 hr rn)) (d4.dvd n2 nf w1 hr rn)
    have r2 := hr.two
    have := Nat.le_of_dvd (by omega) d
    omega
  obtain ⟨r, hr, rn⟩ := pr_ex n n2
  obtain ⟨w, hw⟩ := id rn
  by_cases w1_ : w = 1
  · rw [w1_, Nat.mul_one] at hw
    rw [hw]; exact hr
  · exfalso
    have w0 : w ≠ 0 := fun z => by rw [z] at hw; omega
    obtain ⟨p, hp, pw_⟩ := pr_ex w (by omega)
    have pn : p ∣ n := hw ▸ Nat.dvd_trans pw_ (Nat.dvd_mul_left _ _)
    have a := key r hr rn
    have b := key p hp pn
    have pw2 := Nat.le_of_dvd (by omega) pw_
    have m : (q1 * q2 * q3 * q4) * (q1 * q2 * q3 * q4) ≤ r * w := Nat.mul_le_mul (by omega) (by omega)
    rw [← hw] at m
    omega
def M61 : Nat := 2305843009213693951
theorem m61_prime : Pr M61 :=
  big_prime (n := M61) (f := 62) (g := 37) (q1 := 1321) (q2 := 331) (q3 := 151) (q4 := 61) (k1 := 1745528394559950) (k2 := 6966293079195450) (k3 := 15270483504726450) (k4 := 37800705069076950)
    (by decide +kernel) (by decide +kernel) (by decide +kernel)
    ⟨pr_small (by decide +kernel), by decide +kernel, by decide +kernel, by decide +kernel, by decide +kernel⟩
    ⟨pr_small (by decide +kernel), by decide +kernel, by decide +kernel, by decide +kernel, by decide +kernel⟩
    ⟨pr_small (by decide +kernel), by decide +kernel, by decide +kernel, by decide +kernel, by decide +kernel⟩
    ⟨pr_small (by decide +kernel), by decide +kernel, by decide +kernel, by decide +kernel, by decide +kernel⟩
    (by decide +kernel) (by decide +kernel) (by decide +kernel) (by decide +kernel)
end CB

namespace CB
open PySem PySem.Spec PyProof.Rows L2
/-! ### modulo a prime -/
/-- G divides f modulo p -/
def MDv (p : Nat) (G f : Nat → Int) : Prop := ∃ (s : Nat → Int) (N : Nat), Fz s N ∧ ∀ k, (p : Int) ∣ f k - cf s G k
theorem MDv.eqv {p : Nat} {G f g : Nat → Int} (h : MDv p G f) (e : ∀ k, (p : Int) ∣ f k - g k) : MDv p G g := by
  obtain ⟨s, N, hs, d⟩ := h
  refine ⟨s, N, hs, fun k => ?_⟩
  have z := Int.dvd_sub (d k) (e k)
  have e1 : f k - cf s G k - (f k - g k) = g k - cf s G k := by omega
  rwa [e1] at z
theorem MDv.rest {p : Nat} {G f g r s : Nat → Int} {N : Nat} (h : MDv p G f) (k : MDv p G g) (hs : Fz s N) (e : ∀ i, (p : Int) ∣ f i - cf s g i - r i) : MDv p G r := by
  obtain ⟨u, A, hu, du⟩ := h
  obtain ⟨v, B, hv, dv⟩ := k
  refine ⟨fun i => u i + -1 * cf s v i, A + (N + B), Fz.add (hu.mono (by omega)) (Fz.scale _ ((hs.cf hv).mono (by omega))), fun i => ?_⟩
  rw [cf_add_l u (fun i => -1 * cf s v i), cf_scale_l, cf_assoc]
  have z1 : (p : Int) ∣ cf s g i - cf s (cf v G) i := by
    have e1 : cf s g i - cf s (cf v G) i = cf s (fun k => g k + -1 * cf v G k) i := by
      rw [cf_add s g (fun k => -1 * cf v G k), cf_scale]
      omega
    rw [e1]
    exact sumTo_dvd _ fun j _ => Int.dvd_trans (by
      have := dv (i - j)
      have e2 : g (i - j) + -1 * cf v G (i - j) = g (i - j) - cf v G (i - j) := by omega
      show (p : Int) ∣ g (i - j) + -1 * cf v G (i - j)
      rw [e2]
      exact this) (Int.dvd_mul_left _ _)
  have z := Int.dvd_sub (Int.dvd_sub (du i) (e i)) z1
  have e3 : f i - cf u G i - (f i - cf s g i - r i) - (cf s g i - cf s (cf v G) i) = r i - (cf u G i + -1 * cf s (cf v G) i) := by omega
  rwa [e3] at z
theorem Dv.mod {e A : Nat → Int} {p : Nat} (h : Dv e A) (pe : Prim e) : MDv p e A := by
  obtain ⟨s, N, hs, e1⟩ := h.whole pe
  exact ⟨s, N, hs, fun k => by rw [e1, Int.sub_self]; exact Int.dvd_zero _⟩
/-- the greatest place that p doesn't divide -/
theorem most_not {p : Int} {f : Nat → Int} : ∀ {N : Nat}, Fz f N → (∃ i, ¬ p ∣ f i) → ∃ i, ¬ p ∣ f i ∧ ∀ j, i < j → p ∣ f j
  | 0, hf, ⟨i, hi⟩ => absurd (by rw [hf i (Nat.zero_le _)]; exact Int.dvd_zero _) hi
  | N + 1, hf, h => by
    by_cases c : p ∣ f N
    · obtain ⟨i, hi⟩ := h
      have hg : Fz (fun i => if i = N then 0 else f i) N := fun j hj => by
        show (if j = N then 0 else f j) = 0
        split
        · rfl
        · exact hf j (by omega)
      have iN : i ≠ N := fun z => hi (z ▸ c)
      obtain ⟨a, ha, la⟩ := most_not (p := p) hg ⟨i, by show ¬ p ∣ (if i = N then 0 else f i); rw [if_neg iN]; exact hi⟩
      have aN : a ≠ N := fun z => ha (by show p ∣ (if a = N then 0 else f a); rw [if_pos z]; exact Int.dvd_zero _)
      refine ⟨a, fun z => ha (by show p ∣ (if a = N then 0 else f a); rw [if_neg aN]; exact z), fun j hj => ?_⟩
      by_cases z : j = N
      · rw [z]; exact c
      · have := la j hj
        rwa [if_neg z] at this
    · exact ⟨N, c, fun j hj => by rw [hf j (by omega)]; exact Int.dvd_zero _⟩
/-- without a common divisor modulo p: without one -/
theorem mod_coprime {p : Nat} (hp : Pr p) {A B : Nat → Int} {a b : Nat} {c : Int} (dA : Dg A a) (dB : Dg B b) (hl : ¬ (p : Int) ∣ A a ∨ ¬ (p : Int) ∣ B b) (hc : ¬ (p : Int) ∣ c)
    (h : ∀ G, MDv p G A → MDv p G B → MDv p G (fun i => if i = 0 then c else 0)) {d : Nat → Int} {m : Nat} (dd : Dg d m) (h1 : Dv d A) (h2 : Dv d B) : m = 0 := by
  obtain ⟨κ, e, k0, pe, de, ee⟩ := prim_part dd
  have eD : ∀ {P : Nat → Int}, Dv d P → Dv e P := fun {P} z => by
    obtain ⟨c1, s, N, c0, hs, h⟩ := z
    exact ⟨c1, fun i => κ * s i, N, c0, hs.scale κ, fun i => by rw [h i, cf_scale_l, ← cf_scale]; exact cf_congr (fun _ => rfl) ee i⟩
  have lead : ∀ {P : Nat → Int} {n : Nat}, Dg P n → Dv e P → ¬ (p : Int) ∣ P n → ¬ (p : Int) ∣ e m := fun {P n} dP hv ne hd => by
    obtain ⟨s, N, hs, e1⟩ := hv.whole pe
    rcases zero_or_dg N hs with z | ⟨t, _, dt⟩
    · exact dP.top (by rw [e1, cf_zero_l z])
    · have d3 : Dg (CB.cf s e) n := ⟨by rw [← e1]; exact dP.top, fun i hi => by rw [← e1]; exact dP.up i hi⟩
      obtain rfl := d3.uniq (dt.cf de)
      apply ne
      rw [e1, cf_top (fun i hi => dt.up i hi) (fun i hi => de.up i hi)]
      exact Int.dvd_trans hd (Int.dvd_mul_left _ _)
  have le : ¬ (p : Int) ∣ e m := by
    rcases hl with z | z
    · exact lead dA (eD h1) z
    · exact lead dB (eD h2) z
  obtain ⟨s, N, hs, ds⟩ := h e ((eD h1).mod pe) ((eD h2).mod pe)
  have ns : ∃ i, ¬ (p : Int) ∣ s i := Classical.byContradiction fun z => by
    have all : ∀ i, (p : Int) ∣ s i := fun i => Decidable.byContradiction fun w => z ⟨i, w⟩
    have d0 : (p : Int) ∣ c - cf s e 0 := ds 0
    have d1 : (p : Int) ∣ cf s e 0 := sumTo_dvd _ fun i _ => Int.dvd_trans (all i) (Int.dvd_mul_right _ _)
    have d2 := Int.dvd_add d0 d1
    rw [Int.sub_add_cancel] at d2
    exact hc d2
  obtain ⟨t, nt, lt⟩ := most_not hs ns
  refine Decidable.byContradiction fun m0 => ?_
  have d0 : (p : Int) ∣ (if t + m = 0 then c else 0) - cf s e (t + m) := ds (t + m)
  rw [if_neg (by omega)] at d0
  have top : (p : Int) ∣ s t * e m := by
    unfold cf at d0
    rw [show t + m + 1 = t + (1 + m) by omega, sumTo_app, sumTo_app] at d0
    have z1 : sumTo (fun i => s i * e (t + m - i)) t = 0 := sumTo_zero t fun i hi => by rw [de.up (t + m - i) (by omega), Int.mul_zero]
    have z2 : (p : Int) ∣ sumTo (fun i => s (t + (1 + i)) * e (t + m - (t + (1 + i)))) m := sumTo_dvd m fun i _ => Int.dvd_trans (lt _ (by omega)) (Int.dvd_mul_right _ _)
    have z3 : sumTo (fun i => s (t + i) * e (t + m - (t + i))) 1 = s t * e m := by
      show 0 + s (t + 0) * e (t + m - (t + 0)) = _
      rw [Nat.add_zero, show t + m - t = m by omega, Int.zero_add]
    rw [z1, z3] at d0
    have y := Int.dvd_add d0 z2
    have e4 : 0 - (0 + (s t * e m + sumTo (fun i => s (t + (1 + i)) * e (t + m - (t + (1 + i)))) m)) + sumTo (fun i => s (t + (1 + i)) * e (t + m - (t + (1 + i)))) m = -(s t * e m) := by omega
    rw [e4] at y
    exact Int.dvd_neg.mp y
  rcases hp.mul _ _ top with z | z
  · exact nt z
  · exact le z
/-- a number divides everything, and 1 -/
theorem Dv.const {d : Nat → Int} (dd : Dg d 0) : Dv d (xp 0) :=
  ⟨d 0, xp 0, 1, dd.top, xp_fz 0, fun i => by
    rw [cf_one]
    unfold xp
    by_cases c : i = 0
    · rw [if_pos c, c, Int.mul_one]
    · rw [if_neg c, dd.up i (by omega), Int.mul_zero]⟩
theorem Dv.one (A : Nat → Int) {N : Nat} (h : Fz A N) : Dv (xp 0) A := ⟨1, A, N, by decide, h, fun i => by rw [cf_comm, cf_one, Int.one_mul]⟩
/-! ### a division's steps modulo p -/
structure RsP (p : Nat) (zs : List Int) : Prop where
  rng : ∀ z ∈ zs, 0 ≤ z ∧ z < p
  last : zs = [] ∨ zs.getD (zs.length - 1) 0 ≠ 0
structure DmAt (p : Nat) (xs rs ys : List Int) (n : Nat) : Prop where
  rl : rs.length = xs.length
  rng : ∀ z ∈ rs, 0 ≤ z ∧ z < p
  eq : ∃ (s : Nat → Int) (N : Nat), Fz s N ∧ ∀ k, (p : Int) ∣ ff xs k - cf s (ff ys) k - ff rs k
  hi : ∀ k, n + ys.length ≤ k + 1 → ff rs k = 0
theorem DmAt.start {p : Nat} {xs ys : List Int} {n : Nat} (r : ∀ z ∈ xs, 0 ≤ z ∧ z < p) (h : xs.length ≤ n + ys.length - 1) : DmAt p xs xs ys n :=
  ⟨rfl, r, ⟨fun _ => 0, 0, fun _ _ => rfl, fun k => by rw [cf_zero_l fun _ => rfl, Int.sub_zero, Int.sub_self]; exact Int.dvd_zero _⟩, fun k hk => getD_end (by omega)⟩
structure SubM (p : Nat) (zs rs ys : List Int) (sh : Int) (n i : Nat) : Prop where
  len : zs.length = rs.length
  at_ : ∀ k, zs.getD k 0 = if n ≤ k ∧ k < n + i then (rs.getD k 0 - sh * ys.getD (k - n) 0) % (p : Int) else rs.getD k 0
theorem SubM.start {p : Nat} {rs ys : List Int} {sh : Int} {n : Nat} : SubM p rs rs ys sh n 0 := ⟨rfl, fun k => by rw [if_neg (by omega)]⟩
theorem SubM.step {p : Nat} {zs rs ys : List Int} {sh c : Int} {n i : Nat} (h : SubM p zs rs ys sh n i) (l : n + i < rs.length) (e : c = ys.getD i 0) : SubM p (zs.set (n + i) ((zs.getD (n + i) 0 - sh * c) % (p : Int))) rs ys sh n (i + 1) := ⟨by rw [List.length_set, h.len], fun k => by
  have l2 := h.len
  by_cases z : k = n + i
  · subst z
    rw [if_pos (by omega), List.getD_eq_getElem?_getD, List.getElem?_set_self (by omega)]
    show (zs.getD (n + i) 0 - sh * c) % (p : Int) = _
    rw [h.at_, if_neg (by omega), e, Nat.add_sub_cancel_left]
  · rw [List.getD_eq_getElem?_getD, List.getElem?_set_ne (by omega), ← List.getD_eq_getElem?_getD, h.at_]
    by_cases c1 : n ≤ k ∧ k < n + i
    · rw [if_pos c1, if_pos (by omega)]
    · rw [if_neg c1, if_neg (by omega)]⟩
theorem mod_sub_dvd (p : Nat) (x : Int) : (p : Int) ∣ x - x % (p : Int) := ⟨x / (p : Int), by have := Int.emod_add_mul_ediv x (p : Int); omega⟩
theorem DmAt.step {p : Nat} (p0 : 0 < p) {xs rs zs ys : List Int} {n : Nat} {inv sh : Int} (h : DmAt p xs rs ys (n + 1)) (y0 : 0 < ys.length) (hv : (p : Int) ∣ inv * ys.getD (ys.length - 1) 0 - 1) (es : sh = rs.getD (n + ys.length - 1) 0 * inv % (p : Int)) (m : SubM p zs rs ys sh n ys.length) : DmAt p xs zs ys n := by
  have topz : (p : Int) ∣ rs.getD (n + ys.length - 1) 0 - sh * ys.getD (ys.length - 1) 0 := by
    generalize rs.getD (n + ys.length - 1) 0 = r at es ⊢
    generalize ys.getD (ys.length - 1) 0 = y at hv ⊢
    obtain ⟨t, ht⟩ := hv
    obtain ⟨u, hu⟩ := mod_sub_dvd p (r * inv)
    rw [← es] at hu
    refine ⟨u * y - r * t, ?_⟩
    have e1 : inv * y = 1 + (p : Int) * t := by omega
    have e2 : sh = r * inv - (p : Int) * u := by omega
    rw [e2]
    grind
  refine ⟨by rw [m.len, h.rl], fun z hz => ?_, ?_, fun k hk => ?_⟩
  · obtain ⟨k, hk⟩ := List.mem_iff_getElem?.mp hz
    have e := m.at_ k
    rw [List.getD_eq_getElem?_getD, hk] at e
    have e' : z = if n ≤ k ∧ k < n + ys.length then (rs.getD k 0 - sh * ys.getD (k - n) 0) % (p : Int) else rs.getD k 0 := e
    rw [e']
    split
    · exact ⟨Int.emod_nonneg _ (by omega), Int.emod_lt_of_pos _ (by omega)⟩
    · have kl : k < rs.length := by rw [← m.len]; exact (List.getElem?_eq_some_iff.mp hk).1
      exact h.rng _ (getD_mem kl)
  · obtain ⟨s, N, hs, d⟩ := h.eq
    refine ⟨fun i => s i + sh * xp n i, N + (n + 1), Fz.add (hs.mono (by omega)) (Fz.scale _ ((xp_fz n).mono (by omega))), fun k => ?_⟩
    rw [cf_add_l s (fun i => sh * xp n i), cf_scale_l, cf_xp]
    show (p : Int) ∣ ff xs k - (cf s (ff ys) k + sh * (if n ≤ k then ff ys (k - n) else 0)) - zs.getD k 0
    rw [m.at_]
    have dk := d k
    by_cases c1 : n ≤ k ∧ k < n + ys.length
    · rw [if_pos c1, if_pos c1.1]
      have z := Int.dvd_add dk (mod_sub_dvd p (rs.getD k 0 - sh * ys.getD (k - n) 0))
      have e : ff xs k - cf s (ff ys) k - ff rs k + (rs.getD k 0 - sh * ys.getD (k - n) 0 - (rs.getD k 0 - sh * ys.getD (k - n) 0) % (p : Int)) = ff xs k - (cf s (ff ys) k + sh * ff ys (k - n)) - (rs.getD k 0 - sh * ys.getD (k - n) 0) % (p : Int) := by
        show xs.getD k 0 - cf s (ff ys) k - rs.getD k 0 + (rs.getD k 0 - sh * ys.getD (k - n) 0 - (rs.getD k 0 - sh * ys.getD (k - n) 0) % (p : Int)) = xs.getD k 0 - (cf s (ff ys) k + sh * ys.getD (k - n) 0) - (rs.getD k 0 - sh * ys.getD (k - n) 0) % (p : Int)
        omega
      rwa [e] at z
    · rw [if_neg c1]
      have yz : (if n ≤ k then ff ys (k - n) else 0) = 0 := by
        split
        · exact getD_end (by omega)
        · rfl
      rw [yz, Int.mul_zero, Int.add_zero]
      exact dk
  · show zs.getD k 0 = 0
    rw [m.at_]
    by_cases c1 : n ≤ k ∧ k < n + ys.length
    · rw [if_pos c1]
      have e : k = n + ys.length - 1 := by omega
      subst e
      rw [show n + ys.length - 1 - n = ys.length - 1 by omega]
      exact Int.emod_eq_zero_of_dvd topz
    · rw [if_neg c1]
      by_cases c2 : n + ys.length ≤ k
      · exact h.hi k (by omega)
      · omega
theorem DmAt.skip {p : Nat} (p0 : 0 < p) {xs rs ys : List Int} {n : Nat} {inv sh : Int} (h : DmAt p xs rs ys (n + 1)) (y0 : 0 < ys.length) (nl : n + ys.length - 1 < rs.length) (hv : (p : Int) ∣ inv * ys.getD (ys.length - 1) 0 - 1) (es : sh = rs.getD (n + ys.length - 1) 0 * inv % (p : Int)) (s0 : sh = 0) : DmAt p xs rs ys n := by
  refine ⟨h.rl, h.rng, h.eq, fun k hk => ?_⟩
  by_cases c : k = n + ys.length - 1
  · subst c
    have r := h.rng _ (getD_mem nl)
    show rs.getD (n + ys.length - 1) 0 = 0
    generalize rs.getD (n + ys.length - 1) 0 = x at es r ⊢
    generalize ys.getD (ys.length - 1) 0 = y at hv
    rw [s0] at es
    have d : (p : Int) ∣ x * inv := Int.dvd_of_emod_eq_zero es.symm
    have d2 : (p : Int) ∣ x := by
      obtain ⟨t, ht⟩ := hv
      obtain ⟨u, hu⟩ := d
      refine ⟨u * y - x * t, ?_⟩
      have e1 : inv * y = 1 + (p : Int) * t := by omega
      grind
    obtain ⟨t, ht⟩ := d2
    have e := Int.emod_eq_of_lt r.1 r.2
    rw [ht, Int.mul_emod_right] at e
    omega
  · exact h.hi k (by omega)
end CB

namespace CB.EQ
open PySem PySem.SeqAt PySem.Spec PyProof.Rows
open AutoSeq1 (wpAny_loadPart')
open MeetsSeq MeetsSeq2 MeetsSeq3 SeqRoads2
section
variable {prog : Program} {w : World} {A : Around} {R : Result → Shared → Prop}
end
section
variable {prog : Program} {w : World} {A : Around} {E : Value → Shared → Prop} {s : Shared}
end
end CB.EQ
namespace CB
open PySem PySem.Spec PyProof.Rows L2
section
variable {X : Cx} {n : Nat} {D : EqvB}
/-- lists of own objects, equal one by one: != says no -/
def rNeL (K : PySem.W.Frag) (D : EqvB) : R2 := fun x y H Q => ∃ (a b : Addr) (as bs : List Addr), x = .ref a ∧ y = .ref b ∧ H a = some (.lst (as.map V.ref)) ∧ H b = some (.lst (bs.map V.ref)) ∧ as.length = bs.length ∧
  (∀ (i : Nat) u v, as[i]? = some u → bs[i]? = some v → D (.ref u) (.ref v) H true) ∧ ∀ H', Ext H H' → Q (.bl false) H'
end
end CB

namespace CB
open PySem PySem.Spec PyProof.Rows L2
/-! ### a divisor's coefficients, by its values at small numbers -/
/-- division by x - h, with its coefficients -/
theorem syn2 (h : Int) : ∀ (N : Nat) (f : Nat → Int), Fz f (N + 1) → ∃ T, Fz T N ∧ (∀ x, e1 f x (N + 1) = e1 f h (N + 1) + (x - h) * e1 T x N) ∧ (∀ i, f i = (if i = 0 then e1 f h (N + 1) else T (i - 1)) - h * T i)
  | 0, f, hf => ⟨fun _ => 0, fun i _ => rfl, fun x => by
    show 0 + f 0 * x ^ 0 = 0 + f 0 * h ^ 0 + (x - h) * 0
    simp, fun i => by
    by_cases c : i = 0
    · subst c
      show f 0 = (0 + f 0 * h ^ 0) - h * 0
      simp
    · rw [if_neg c, hf i (by omega)]
      simp⟩
  | M + 1, f, hf => by
    obtain ⟨T', hT, e, ec⟩ := syn2 h M (fun i => f (i + 1)) (fun i hi => hf (i + 1) (by omega))
    refine ⟨fun i => if i = 0 then e1 (fun i => f (i + 1)) h (M + 1) else T' (i - 1), fun i hi => by
      show (if i = 0 then _ else T' (i - 1)) = 0
      rw [if_neg (by omega), hT (i - 1) (by omega)], fun x => ?_, fun i => ?_⟩
    · have e2 : e1 (fun i => if i = 0 then e1 (fun i => f (i + 1)) h (M + 1) else T' (i - 1)) x (M + 1) = e1 (fun i => f (i + 1)) h (M + 1) + x * e1 T' x M := by
        rw [e1_first]
        rfl
      rw [e1_first f x (M + 1), e1_first f h (M + 1), e2, e x]
      generalize e1 (fun i => f (i + 1)) h (M + 1) = A
      generalize e1 T' x M = B
      grind
    · match i with
      | 0 =>
        show f 0 = e1 f h (M + 1 + 1) - h * e1 (fun i => f (i + 1)) h (M + 1)
        rw [e1_first f h (M + 1)]
        omega
      | i + 1 => exact ec i
/-- the coefficients from values at enough places -/
theorem coef_le {K : Nat} : ∀ (n : Nat) {M : Nat} {f : Nat → Int} {l : List Int}, Fz f (n + 1) → l.Pairwise (· ≠ ·) → n + 1 ≤ l.length → (∀ h ∈ l, h.natAbs ≤ K ∧ (e1 f h (n + 1)).natAbs ≤ M) → ∀ i, (f i).natAbs ≤ M * (2 * K + 2) ^ n
  | 0, M, f, l, hf, _, ll, hl, i => by
    obtain ⟨h, r, rfl⟩ : ∃ h r, l = h :: r := by
      cases l with
      | nil => simp at ll
      | cons h r => exact ⟨h, r, rfl⟩
    have z : (e1 f h 1).natAbs ≤ M := (hl h (List.mem_cons_self ..)).2
    rw [Nat.pow_zero, Nat.mul_one]
    by_cases c : i = 0
    · subst c
      have e : e1 f h 1 = f 0 := by
        show 0 + f 0 * h ^ 0 = f 0
        simp
      rw [← e]
      exact z
    · rw [hf i (by omega)]
      exact Nat.zero_le _
  | n + 1, M, f, l, hf, pw, ll, hl, i => by
    obtain ⟨h, r, rfl⟩ : ∃ h r, l = h :: r := by
      cases l with
      | nil => simp at ll
      | cons h r => exact ⟨h, r, rfl⟩
    obtain ⟨T, hT, e, ec⟩ := syn2 h (n + 1) f hf
    have hh := hl h (List.mem_cons_self ..)
    have pw' := List.pairwise_cons.mp pw
    have ih := coef_le (K := K) n (M := 2 * M) (f := T) (l := r) hT pw'.2 (by simpa using ll) (fun g hg => by
      have hg2 := hl g (List.mem_cons_of_mem _ hg)
      refine ⟨hg2.1, ?_⟩
      have ne := pw'.1 g hg
      have eg := e g
      have d1 : 1 ≤ (g - h).natAbs := by omega
      have z : ((g - h) * e1 T g (n + 1)).natAbs ≤ 2 * M := by
        have : (g - h) * e1 T g (n + 1) = e1 f g (n + 1 + 1) - e1 f h (n + 1 + 1) := by omega
        rw [this]
        have := hg2.2
        have := hh.2
        omega
      rw [Int.natAbs_mul] at z
      calc (e1 T g (n + 1)).natAbs = 1 * (e1 T g (n + 1)).natAbs := (Nat.one_mul _).symm
        _ ≤ (g - h).natAbs * (e1 T g (n + 1)).natAbs := Nat.mul_le_mul_right _ d1
        _ ≤ 2 * M := z)
    have fi := ec i
    have p0 : (if i = 0 then e1 f h (n + 1 + 1) else T (i - 1)).natAbs ≤ 2 * M * (2 * K + 2) ^ n := by
      split
      · have q1 : 1 ≤ (2 * K + 2) ^ n := Nat.pow_pos (by omega)
        have q2 : 2 * M * 1 ≤ 2 * M * (2 * K + 2) ^ n := Nat.mul_le_mul_left _ q1
        have := hh.2
        omega
      · exact ih _
    have p1 : (h * T i).natAbs ≤ K * (2 * M * (2 * K + 2) ^ n) := by
      rw [Int.natAbs_mul]
      exact Nat.mul_le_mul hh.1 (ih i)
    have p2 := Int.natAbs_sub_le (if i = 0 then e1 f h (n + 1 + 1) else T (i - 1)) (h * T i)
    rw [← fi] at p2
    have e3 : M * (2 * K + 2) ^ (n + 1) = 2 * M * (2 * K + 2) ^ n + K * (2 * M * (2 * K + 2) ^ n) := by
      rw [Nat.pow_succ]
      generalize (2 * K + 2) ^ n = P
      grind
    rw [e3]
    omega
/-- a divisor's coefficients: A = Q S -/
theorem div_coef {A Q S : Nat → Int} {n m H : Nat} (dA : Dg A n) (hH : ∀ i, (A i).natAbs ≤ H) (dQ : Dg Q m) (nm : n + m ≤ 12) {N : Nat} (fS : Fz S N) (e : ∀ i, A i = cf Q S i) (i : Nat) : (Q i).natAbs ≤ H * sg 6 (n + 1) * 14 ^ m := by
  obtain ⟨s, dS⟩ : ∃ s, Dg S s := by
    rcases zero_or_dg N fS with z | ⟨s, _, d⟩
    · exact absurd (by rw [e, cf_zero_r z]) dA.top
    · exact ⟨s, d⟩
  have nms : n = m + s := by
    have d2 := dQ.cf dS
    have d3 : Dg (CB.cf Q S) n := ⟨by rw [← e]; exact dA.top, fun i hi => by rw [← e]; exact dA.up i hi⟩
    exact d3.uniq d2
  have sm : ∀ h ∈ pts, (e1 A h (n + 1)).natAbs ≤ H * sg 6 (n + 1) := fun h hh => e1_le (f := A) (h := h) (x := 6) hH (pts_le h hh) (n + 1)
  have few : (pts.filter fun h => decide (e1 A h (n + 1) = 0)).length ≤ n := by
    refine Decidable.byContradiction fun z => dA.top ?_
    have y := coef_le (K := 6) n (M := 0) (f := A) (l := pts.filter fun h => decide (e1 A h (n + 1) = 0)) dA.up (pts_pw.filter _) (by omega) (fun h hh => by
      obtain ⟨h1, h2⟩ := List.mem_filter.mp hh
      exact ⟨pts_le h h1, by rw [of_decide_eq_true h2]; decide⟩) n
    rw [Nat.zero_mul] at y
    omega
  have many : 13 - n ≤ (pts.filter fun h => !decide (e1 A h (n + 1) = 0)).length := by
    have z := List.length_eq_countP_add_countP (fun h => decide (e1 A h (n + 1) = 0)) (l := pts)
    rw [List.countP_eq_length_filter, List.countP_eq_length_filter] at z
    have e1_ : (pts.filter fun a => decide ¬ (fun h => decide (e1 A h (n + 1) = 0)) a = true) = pts.filter fun h => !decide (e1 A h (n + 1) = 0) := by
      congr 1
      funext a
      simp
    rw [e1_] at z
    have lp : pts.length = 13 := rfl
    omega
  have ev : ∀ x : Int, e1 A x (n + 1) = e1 Q x (m + 1) * e1 S x (s + 1) := fun x => by
    rw [← e1_cf (N := m + 1) (M := s + 1) dQ.up dS.up]
    have z : e1 A x (m + 1 + (s + 1)) = e1 A x (n + 1) := e1_more (fun i hi => dA.up i hi) (by omega)
    rw [← z]
    exact e1_congr fun i _ => e i
  refine coef_le (K := 6) m (M := H * sg 6 (n + 1)) (f := Q) (l := pts.filter fun h => !decide (e1 A h (n + 1) = 0)) dQ.up (pts_pw.filter _) (by omega) (fun h hh => ?_) i
  obtain ⟨h1, h2⟩ := List.mem_filter.mp hh
  refine ⟨pts_le h h1, ?_⟩
  have ne : e1 A h (n + 1) ≠ 0 := by simpa using h2
  have z := sm h h1
  rw [ev h, Int.natAbs_mul] at z
  have s0 : 1 ≤ (e1 S h (s + 1)).natAbs := by
    have : e1 S h (s + 1) ≠ 0 := fun w => ne (by rw [ev h, w, Int.mul_zero])
    omega
  calc (e1 Q h (m + 1)).natAbs = (e1 Q h (m + 1)).natAbs * 1 := (Nat.mul_one _).symm
    _ ≤ (e1 Q h (m + 1)).natAbs * (e1 S h (s + 1)).natAbs := Nat.mul_le_mul_left _ s0
    _ ≤ _ := z
end CB

namespace CB
open PySem PySem.Spec PyProof.Rows L2
/-! ### the sizes of a divisor in its one form -/
/-- the primitive part of a divisor is small -/
theorem prim_bits {f A : Nat → Int} {m n H : Nat} (df : Dg f m) (dA : Dg A n) (hH : ∀ i, (A i).natAbs ≤ H) (nm : n + m ≤ 12) (h : Dv f A) : ∃ (c : Int) (g : Nat → Int), c ≠ 0 ∧ Prim g ∧ Dg g m ∧ (∀ i, f i = c * g i) ∧ ∀ i, (g i).natAbs ≤ H * sg 6 (n + 1) * 14 ^ m := by
  obtain ⟨c, g, c0, pg, dg, e⟩ := prim_part df
  have hg : Dv g A := by
    have gf : Dv g f := ⟨1, fun i => c * xp 0 i, 1, by decide, (xp_fz 0).scale c, fun i => by rw [cf_scale_l, cf_one, Int.one_mul]; exact e i⟩
    exact gf.trans h
  obtain ⟨s, N, fs, ea⟩ := hg.whole pg
  exact ⟨c, g, c0, pg, dg, e, div_coef dA hH dg nm fs fun i => by rw [ea i, cf_comm]⟩
/-- a monic one: its numbers are small -/
theorem monic_bits {bs : List Int} {β : Int} {A : Nat → Int} {n H : Nat} (sb : Pq bs β bs β) (bne : bs ≠ []) (mon : bs.getD (bs.length - 1) 0 = β) (dA : Dg A n) (hH : ∀ i, (A i).natAbs ≤ H) (nm : n + (bs.length - 1) ≤ 12) (h : Dv (fun i => bs.getD i 0) A) (i : Nat) : (bs.getD i 0).natAbs ≤ H * sg 6 (n + 1) * 14 ^ (bs.length - 1) := by
  have bt : bs.getD (bs.length - 1) 0 ≠ 0 := sb.last.resolve_left bne
  have bl : 0 < bs.length := List.length_pos_iff.mpr bne
  have df : Dg (fun i => bs.getD i 0) (bs.length - 1) := ⟨bt, fun j hj => getD_end (by omega)⟩
  obtain ⟨c, g, c0, pg, dg, e, hb⟩ := prim_bits df dA hH nm h
  have c1 : c ∣ 1 := sb.cop c ⟨g (bs.length - 1), by rw [← mon]; exact e _⟩ fun j => ⟨g j, e j⟩
  have ca : c.natAbs = 1 := by
    have := Int.natAbs_dvd_natAbs.mpr c1
    exact Nat.dvd_one.mp this
  have e1 : bs.getD i 0 = c * g i := e i
  rw [e1, Int.natAbs_mul, ca, Nat.one_mul]
  exact hb i
/-- the numerator's numbers are small: as / a with its leading coefficients' equation -/
theorem num_bits {as : List Int} {a J L : Int} {A : Nat → Int} {n H : Nat} (sa : Pq as a as a) (ane : as ≠ []) (dA : Dg A n) (hH : ∀ i, (A i).natAbs ≤ H) (nm : n + (as.length - 1) ≤ 12) (h : Dv (fun i => as.getD i 0) A) (J0 : J ≠ 0) (L0 : L ≠ 0)
    (eq : as.getD (as.length - 1) 0 * J = L * a) : (∀ i, (as.getD i 0).natAbs ≤ L.natAbs * (H * sg 6 (n + 1) * 14 ^ (as.length - 1))) ∧ a.natAbs ≤ H * sg 6 (n + 1) * 14 ^ (as.length - 1) * J.natAbs := by
  have bt : as.getD (as.length - 1) 0 ≠ 0 := sa.last.resolve_left ane
  have bl : 0 < as.length := List.length_pos_iff.mpr ane
  have df : Dg (fun i => as.getD i 0) (as.length - 1) := ⟨bt, fun j hj => getD_end (by omega)⟩
  obtain ⟨c, g, c0, pg, dg, e, hb⟩ := prim_bits df dA hH nm h
  have a0 : a ≠ 0 := by have := sa.pos; omega
  have cp : Nat.gcd c.natAbs a.natAbs = 1 := by
    have d1 : ((Nat.gcd c.natAbs a.natAbs : Nat) : Int) ∣ a := Int.dvd_natAbs.mp (Int.natCast_dvd_natCast.mpr (Nat.gcd_dvd_right _ _))
    have d2 : ((Nat.gcd c.natAbs a.natAbs : Nat) : Int) ∣ c := Int.dvd_natAbs.mp (Int.natCast_dvd_natCast.mpr (Nat.gcd_dvd_left _ _))
    have d3 := sa.cop _ d1 fun j => by
      have : as.getD j 0 = c * g j := e j
      rw [this]
      exact Int.dvd_trans d2 ⟨g j, rfl⟩
    have := Int.natAbs_dvd_natAbs.mpr d3
    exact Nat.dvd_one.mp this
  have el : as.getD (as.length - 1) 0 = c * g (as.length - 1) := e _
  rw [el] at eq
  have cL : c ∣ L := by
    refine dvd_of_cop (a := a) (b := c) (c := L) ⟨g (as.length - 1) * J, ?_⟩ (by rw [Nat.gcd_comm]; exact cp)
    rw [Int.mul_comm a L, ← eq, Int.mul_assoc]
  have aJ : a ∣ g (as.length - 1) * J := by
    refine dvd_of_cop (a := c) (b := a) ⟨L, ?_⟩ cp
    rw [← Int.mul_assoc, eq, Int.mul_comm]
  have cl : c.natAbs ≤ L.natAbs := natAbs_le_of_dvd cL L0
  refine ⟨fun i => ?_, ?_⟩
  · have ei : as.getD i 0 = c * g i := e i
    rw [ei, Int.natAbs_mul]
    exact Nat.mul_le_mul cl (hb i)
  · have z := natAbs_le_of_dvd aJ (Int.mul_ne_zero dg.top J0)
    rw [Int.natAbs_mul] at z
    exact Nat.le_trans z (Nat.mul_le_mul_right _ (hb _))
end CB

namespace CB
open PySem PySem.Spec PyProof.Rows L2
/-! ### quotients: the one form is one -/
theorem bt_ex : ∀ xs : List Int, ∃ k, Bt k (ff xs)
  | [] => ⟨0, fun i => by show (0 : Int).natAbs < 2 ^ 0; decide⟩
  | x :: r => by
    obtain ⟨k, hk⟩ := bt_ex r
    refine ⟨max x.natAbs k, fun i => ?_⟩
    match i with
    | 0 => exact Nat.lt_of_lt_of_le (Nat.lt_two_pow_self (n := x.natAbs)) (Nat.pow_le_pow_right (by decide) (Nat.le_max_left _ _))
    | i + 1 => exact Nat.lt_of_lt_of_le (hk i) (Nat.pow_le_pow_right (by decide) (Nat.le_max_right _ _))
theorem dgl {js : List Int} (h : js.getD (js.length - 1) 0 ≠ 0) : Dg (ff js) (js.length - 1) := ⟨h, fun i hi => getD_end (by
  have : js ≠ [] := fun z => h (by rw [z]; rfl)
  have := List.length_pos_iff.mpr this
  omega)⟩
/-- coprime to as, a divisor of as bs' divides bs' -/
theorem cop_dv {as bs : List Int} {X : Nat → Int} (la : as = [] ∨ as.getD (as.length - 1) 0 ≠ 0) (lb : bs.getD (bs.length - 1) 0 ≠ 0) (cop : ∀ D m, Dg D m → Dv D (ff as) → Dv D (ff bs) → m = 0) {N : Nat} (fX : Fz X N) (h : Dv (ff bs) (cf (ff as) X)) : Dv (ff bs) X := by
  rcases la with z | la
  · have m0 := cop (ff bs) _ (dgl lb) (by rw [z]; exact Dv.zero fun _ => rfl) (Dv.refl _)
    have d := dgl lb
    rw [m0] at d
    exact (Dv.const d).trans (Dv.one X fX)
  · obtain ⟨k, hk⟩ := bt_ex as
    obtain ⟨l, hl⟩ := bt_ex bs
    obtain ⟨e0, _, E, ⟨m, _, D⟩, _, _⟩ := euclid _ (dgl la) (dgl lb) (Nat.le_refl _) hk hl
    have m0 := cop e0 m D E.da E.db
    rw [m0] at D
    obtain ⟨u, v, M, hu, hv, c⟩ := E.comb
    have c0 := D.top
    have ec : ∀ i, cf e0 X i = e0 0 * X i := fun i => by
      have : ∀ j, e0 j = e0 0 * xp 0 j := fun j => by
        by_cases z : j = 0
        · subst z
          show e0 0 = e0 0 * 1
          omega
        · rw [D.up j (by omega)]
          show 0 = e0 0 * (if j = 0 then 1 else 0)
          rw [if_neg z]; omega
      rw [cf_congr this (fun _ => rfl) i, cf_scale_l, cf_one]
    refine Dv.scale c0 ?_
    refine Dv.congr (Dv.comb h (Dv.refl (ff bs)) hu (hv.cf fX)) (fun _ => rfl) (fun i => ?_)
    rw [← ec i, cf_congr c (fun _ => rfl) i, cf_add_l, cf_assoc, cf_assoc]
    congr 1
    rw [cf_assoc]
    exact cf_congr (fun _ => rfl) (fun j => cf_comm _ _ j) i
/-- two that divide one another are proportional -/
theorem prop_dv2 {ms ks : List Int} (h1 : Dv (ff ms) (ff ks)) (h2 : Dv (ff ks) (ff ms)) (tm : ms.getD (ms.length - 1) 0 ≠ 0) (tk : ks.getD (ks.length - 1) 0 ≠ 0) (i : Nat) : ms.getD i 0 * ks.getD (ks.length - 1) 0 = ks.getD i 0 * ms.getD (ms.length - 1) 0 := by
  have dm := dgl tm
  have dk := dgl tk
  have a := h1.deg dm dk
  have b := h2.deg dk dm
  have ab : ms.length - 1 = ks.length - 1 := by omega
  obtain ⟨f, ef⟩ : ∃ f : Nat → Int, f = fun i => ks.getD (ks.length - 1) 0 * ff ms i + -(ms.getD (ms.length - 1) 0) * ff ks i := ⟨_, rfl⟩
  have fd : Dv (ff ms) f := (Dv.comb (Dv.refl (ff ms)) h1 ((xp_fz 0).scale (ks.getD (ks.length - 1) 0)) ((xp_fz 0).scale (-(ms.getD (ms.length - 1) 0)))).congr (fun _ => rfl) (fun i => by rw [ef, cf_scale_l, cf_one, cf_scale_l, cf_one])
  have fz : Fz f (ms.length - 1) := fun i hi => by
    rw [ef]
    show ks.getD (ks.length - 1) 0 * ff ms i + -(ms.getD (ms.length - 1) 0) * ff ks i = 0
    by_cases c : i = ms.length - 1
    · rw [c]
      show ks.getD (ks.length - 1) 0 * ms.getD (ms.length - 1) 0 + -(ms.getD (ms.length - 1) 0) * ks.getD (ms.length - 1) 0 = 0
      rw [← ab]
      grind
    · rw [dm.up i (by omega), dk.up i (by omega)]
      simp
  have f0 : ∀ i, f i = 0 := by
    rcases zero_or_dg _ fz with z | ⟨m, ml, dg⟩
    · exact z
    · have := fd.deg dm dg
      omega
  have w := f0 i
  rw [ef] at w
  have w2 : ks.getD (ks.length - 1) 0 * ms.getD i 0 + -(ms.getD (ms.length - 1) 0) * ks.getD i 0 = 0 := w
  grind
theorem quo_uniq {as bs cs ds : List Int} {a b c d : Int} (sa : Pq as a as a) (sb : Pq bs b bs b) (sc : Pq cs c cs c) (sd : Pq ds d ds d) (bne : bs ≠ []) (dne : ds ≠ []) (mb : bs.getD (bs.length - 1) 0 = b) (md : ds.getD (ds.length - 1) 0 = d)
    (cop : ∀ D m, Dg D m → Dv D (ff as) → Dv D (ff bs) → m = 0) (cop2 : ∀ D m, Dg D m → Dv D (ff cs) → Dv D (ff ds) → m = 0) (eq : ∀ i, cf (ff as) (ff ds) i * (c * b) = cf (ff cs) (ff bs) i * (a * d)) : (as = cs ∧ a = c) ∧ bs = ds ∧ b = d := by
  have bt := sb.last.resolve_left bne
  have dt := sd.last.resolve_left dne
  have a0 : a ≠ 0 := by have := sa.pos; omega
  have b0 : b ≠ 0 := by have := sb.pos; omega
  have c0 : c ≠ 0 := by have := sc.pos; omega
  have d0 : d ≠ 0 := by have := sd.pos; omega
  have h1 : Dv (ff bs) (cf (ff as) (ff ds)) := ⟨c * b, fun i => a * d * ff cs i, cs.length, Int.mul_ne_zero c0 b0, fun i hi => by show a * d * cs.getD i 0 = 0; rw [getD_end hi, Int.mul_zero], fun i => by rw [cf_scale_l, Int.mul_comm, eq i, Int.mul_comm]⟩
  have h2 : Dv (ff ds) (cf (ff cs) (ff bs)) := ⟨a * d, fun i => c * b * ff as i, as.length, Int.mul_ne_zero a0 d0, fun i hi => by show c * b * as.getD i 0 = 0; rw [getD_end hi, Int.mul_zero], fun i => by rw [cf_scale_l, Int.mul_comm, ← eq i, Int.mul_comm]⟩
  have v1 := cop_dv sa.last bt cop (N := ds.length) (fun i hi => getD_end hi) h1
  have v2 := cop_dv sc.last dt cop2 (N := bs.length) (fun i hi => getD_end hi) h2
  have pr := prop_dv2 v1 v2 bt dt
  obtain ⟨eb, ebd⟩ := sb.uniq (ks' := ds) (e' := d) ⟨fun i => by
    have := pr i
    rw [md, mb] at this
    exact this.symm, sd.pos, sd.last, sd.cop⟩ b0
  subst eb ebd
  refine ⟨?_, rfl, rfl⟩
  have e2 : ∀ i, ff as i * c = ff cs i * a := by
    have z := cf_cancel (f := ff bs) (g := fun i => c * ff as i) (h := fun i => a * ff cs i) (a := bs.length - 1) (n := max as.length cs.length) (dgl bt) (fun i hi => by show c * as.getD i 0 = 0; rw [getD_end (by omega), Int.mul_zero]) (fun i hi => by show a * cs.getD i 0 = 0; rw [getD_end (by omega), Int.mul_zero]) (fun k => by
      rw [cf_comm (ff bs), cf_comm (ff bs), cf_scale_l, cf_scale_l]
      apply Int.eq_of_mul_eq_mul_right b0
      have := eq k
      grind)
    exact fun i => by rw [Int.mul_comm, z i, Int.mul_comm]
  exact sa.uniq (ks' := cs) (e' := c) ⟨fun i => (e2 i).symm, sc.pos, sc.last, sc.cop⟩ a0
end CB

namespace CB
open PySem PySem.Spec PyProof.Rows L2
/-! ### quotients by a cross product -/
theorem cfC (f g : Nat → Int) : cf f g = cf g f := funext (cf_comm f g)
theorem cfA (f g h : Nat → Int) : cf (cf f g) h = cf f (cf g h) := funext (cf_assoc f g h)
instance cfComm : Std.Commutative cf := ⟨cfC⟩
instance cfAssoc : Std.Associative cf := ⟨cfA⟩
/-- a number as a polynomial -/
def cst (c : Int) : Nat → Int := fun i => c * xp 0 i
theorem cst_cf (c : Int) (f : Nat → Int) : cf (cst c) f = fun i => c * f i := funext fun i => by
  show cf (fun i => c * xp 0 i) f i = _
  rw [cf_scale_l, cf_one]
theorem cst_mul (a b : Int) : cf (cst a) (cst b) = cst (a * b) := by
  rw [cst_cf]
  funext i
  show a * (b * xp 0 i) = a * b * xp 0 i
  rw [Int.mul_assoc]
theorem cst_fz (c : Int) : Fz (cst c) 1 := (xp_fz 0).scale c
theorem ff_fz (xs : List Int) : Fz (ff xs) xs.length := fun i hi => getD_end hi
theorem sg_le {x : Nat} {n m : Nat} (h : n ≤ m) : sg x n ≤ sg x m := by
  induction h with
  | refl => exact Nat.le_refl _
  | step _ ih => exact Nat.le_trans ih (Nat.le_add_right _ _)
/-- (as / a) / (bs / b) is the one form of X / Y -/
structure Qn (X Y : Nat → Int) (as : List Int) (a : Int) (bs : List Int) (b : Int) : Prop where
  sa : Pq as a as a
  sb : Pq bs b bs b
  bne : bs ≠ []
  mon : bs.getD (bs.length - 1) 0 = b
  cop : ∀ D m, Dg D m → Dv D (ff as) → Dv D (ff bs) → m = 0
  eq : cf (cst b) (cf (ff as) Y) = cf (cst a) (cf X (ff bs))
theorem Qn.bt {X Y : Nat → Int} {as bs : List Int} {a b : Int} (q : Qn X Y as a bs b) : bs.getD (bs.length - 1) 0 ≠ 0 := q.sb.last.resolve_left q.bne
theorem Qn.a0 {X Y : Nat → Int} {as bs : List Int} {a b : Int} (q : Qn X Y as a bs b) : a ≠ 0 := by have := q.sa.pos; omega
theorem Qn.b0 {X Y : Nat → Int} {as bs : List Int} {a b : Int} (q : Qn X Y as a bs b) : b ≠ 0 := by have := q.sb.pos; omega
theorem Qn.at_ {X Y : Nat → Int} {as bs : List Int} {a b : Int} (q : Qn X Y as a bs b) (i : Nat) : cf (ff as) Y i * b = cf X (ff bs) i * a := by
  have e := congrFun q.eq i
  rw [cst_cf, cst_cf] at e
  have e2 : b * cf (ff as) Y i = a * cf X (ff bs) i := e
  rw [Int.mul_comm, e2, Int.mul_comm]
theorem Qn.of_at {X Y : Nat → Int} {as bs : List Int} {a b : Int} (sa : Pq as a as a) (sb : Pq bs b bs b) (bne : bs ≠ []) (mon : bs.getD (bs.length - 1) 0 = b) (cop : ∀ D m, Dg D m → Dv D (ff as) → Dv D (ff bs) → m = 0) (e : ∀ i, cf (ff as) Y i * b = cf X (ff bs) i * a) : Qn X Y as a bs b := ⟨sa, sb, bne, mon, cop, funext fun i => by
  rw [cst_cf, cst_cf]
  show b * cf (ff as) Y i = a * cf X (ff bs) i
  rw [Int.mul_comm, e i, Int.mul_comm]⟩
/-- equal values are equal forms -/
theorem Qn.same {X Y X' Y' : Nat → Int} {as bs cs ds : List Int} {a b c d : Int} {n n' : Nat} (q : Qn X Y as a bs b) (r : Qn X' Y' cs c ds d) (dY : Dg Y n) (dY' : Dg Y' n') (e : cf X Y' = cf X' Y) : (as = cs ∧ a = c) ∧ bs = ds ∧ b = d := by
  refine quo_uniq q.sa q.sb r.sa r.sb q.bne r.bne q.mon r.mon q.cop r.cop fun i => ?_
  have key : cf (cf Y Y') (cf (cst (c * b)) (cf (ff as) (ff ds))) = cf (cf Y Y') (cf (cst (a * d)) (cf (ff cs) (ff bs))) := by
    rw [← cst_mul, ← cst_mul]
    calc cf (cf Y Y') (cf (cf (cst c) (cst b)) (cf (ff as) (ff ds))) = cf (cf (cst b) (cf (ff as) Y)) (cf (cst c) (cf Y' (ff ds))) := by ac_rfl
      _ = cf (cf (cst a) (cf X (ff bs))) (cf (cst c) (cf Y' (ff ds))) := by rw [q.eq]
      _ = cf (cf X Y') (cf (cst a) (cf (cst c) (cf (ff bs) (ff ds)))) := by ac_rfl
      _ = cf (cf X' Y) (cf (cst a) (cf (cst c) (cf (ff bs) (ff ds)))) := by rw [e]
      _ = cf (cf (cst c) (cf X' (ff ds))) (cf (cst a) (cf Y (ff bs))) := by ac_rfl
      _ = cf (cf (cst d) (cf (ff cs) Y')) (cf (cst a) (cf Y (ff bs))) := by rw [r.eq]
      _ = cf (cf Y Y') (cf (cf (cst a) (cst d)) (cf (ff cs) (ff bs))) := by ac_rfl
  have z := cf_cancel (dY.cf dY') (n := 1 + (max (as.length + ds.length) (cs.length + bs.length))) (g := cf (cst (c * b)) (cf (ff as) (ff ds))) (h := cf (cst (a * d)) (cf (ff cs) (ff bs)))
    (((cst_fz _).cf ((ff_fz as).cf (ff_fz ds))).mono (by omega)) (((cst_fz _).cf ((ff_fz cs).cf (ff_fz bs))).mono (by omega)) (fun k => congrFun key k) i
  rw [cst_cf, cst_cf] at z
  have z2 : c * b * cf (ff as) (ff ds) i = a * d * cf (ff cs) (ff bs) i := z
  rw [Int.mul_comm, z2, Int.mul_comm]
theorem Qn.bs_dv {X Y : Nat → Int} {as bs : List Int} {a b : Int} {N M : Nat} (q : Qn X Y as a bs b) (fX : Fz X N) (fY : Fz Y M) : Dv (ff bs) Y :=
  cop_dv q.sa.last q.bt q.cop fY ⟨b, cf (cst a) X, 1 + N, q.b0, (cst_fz a).cf fX, fun i => by
    have z := congrFun q.eq i
    rw [cst_cf b] at z
    have z2 : b * cf (ff as) Y i = cf (cst a) (cf X (ff bs)) i := z
    rw [z2]
    exact congrFun (show cf (cst a) (cf X (ff bs)) = cf (cf (cst a) X) (ff bs) by ac_rfl) i⟩
theorem Qn.x_zero {X Y : Nat → Int} {as bs : List Int} {a b : Int} {N : Nat} (q : Qn X Y as a bs b) (fX : Fz X N) (z : as = []) (i : Nat) : X i = 0 := by
  rcases zero_or_dg N fX with w | ⟨m, _, d⟩
  · exact w i
  · exfalso
    have e := congrFun q.eq (m + (bs.length - 1))
    rw [cst_cf, cst_cf, z] at e
    have e2 : b * cf (ff []) Y (m + (bs.length - 1)) = a * cf X (ff bs) (m + (bs.length - 1)) := e
    rw [cf_zero_l (f := ff []) (fun _ => rfl), Int.mul_zero] at e2
    rcases Int.mul_eq_zero.mp e2.symm with y | y
    · exact q.a0 y
    · exact (d.cf (dgl q.bt)).top y
theorem Qn.as_zero {X Y : Nat → Int} {as bs : List Int} {a b : Int} {n : Nat} (q : Qn X Y as a bs b) (dY : Dg Y n) (z : ∀ i, X i = 0) : as = [] := by
  rcases q.sa.last with w | w
  · exact w
  · exfalso
    have e := congrFun q.eq (as.length - 1 + n)
    rw [cst_cf, cst_cf] at e
    have e2 : b * cf (ff as) Y (as.length - 1 + n) = a * cf X (ff bs) (as.length - 1 + n) := e
    rw [cf_zero_l z, Int.mul_zero] at e2
    rcases Int.mul_eq_zero.mp e2 with y | y
    · exact q.b0 y
    · exact ((dgl w).cf dY).top y
theorem Qn.as_dv {X Y : Nat → Int} {as bs : List Int} {a b : Int} {N M : Nat} (q : Qn X Y as a bs b) (fX : Fz X N) (fY : Fz Y M) : Dv (ff as) X := by
  rcases q.sa.last with w | w
  · exact Dv.zero (q.x_zero fX w)
  · refine cop_dv q.sb.last w (fun D m d h1 h2 => q.cop D m d h2 h1) fX ⟨a, cf (cst b) Y, 1 + M, q.a0, (cst_fz b).cf fY, fun i => ?_⟩
    have z := congrFun q.eq i
    rw [cst_cf (a)] at z
    have z2 : cf (cst b) (cf (ff as) Y) i = a * cf X (ff bs) i := z
    rw [cf_comm (ff bs) X, ← z2]
    exact congrFun (show cf (cst b) (cf (ff as) Y) = cf (cf (cst b) Y) (ff as) by ac_rfl) i
/-- the same form: two numerators that differ -/
theorem Qn.no {X X' Y : Nat → Int} {as bs : List Int} {a b : Int} {m : Nat} (q : Qn X Y as a bs b) (r : Qn X' Y as a bs b) (D : Dg (fun i => X' i + -1 * X i) m) : False := by
  have e : cf (cst a) (cf X (ff bs)) = cf (cst a) (cf X' (ff bs)) := q.eq.symm.trans r.eq
  have e2 := congrFun e (m + (bs.length - 1))
  rw [cst_cf, cst_cf] at e2
  have e3 : cf X (ff bs) (m + (bs.length - 1)) = cf X' (ff bs) (m + (bs.length - 1)) := Int.eq_of_mul_eq_mul_left q.a0 e2
  refine (D.cf (dgl q.bt)).top ?_
  rw [cf_add_l, cf_scale_l, ← e3]
  omega
theorem small_one {as : List Int} {a : Int} (s : Pq as a as a) (z : as = []) : a = 1 := by
  have c := s.cop a (Int.dvd_refl a) fun i => by rw [z]; exact Int.dvd_zero a
  have := Int.natAbs_dvd_natAbs.mpr c
  have := Nat.dvd_one.mp this
  have := s.pos
  omega
theorem le_mono3 {H n m N M t : Nat} (h : n ≤ N) (k : m ≤ M) : H * sg 6 (n + 1) * 14 ^ m ≤ H * sg 6 (N + 1) * 14 ^ M :=
  Nat.mul_le_mul (Nat.mul_le_mul_left _ (sg_le (by omega))) (Nat.pow_le_pow_right (by decide) k)
/-- the sizes of the one form -/
structure Qs (N M HX HY : Nat) (as : List Int) (a : Int) (bs : List Int) (b : Int) : Prop where
  la : as.length ≤ N + 1
  lb : bs.length ≤ M + 1
  ba : ∀ i, (as.getD i 0).natAbs ≤ HX * (HX * sg 6 (N + 1) * 14 ^ N)
  bb : ∀ i, (bs.getD i 0).natAbs ≤ HY * sg 6 (M + 1) * 14 ^ M
  ga : a.natAbs ≤ max 1 (HX * sg 6 (N + 1) * 14 ^ N * HY)
  gb : b.natAbs ≤ HY * sg 6 (M + 1) * 14 ^ M
theorem Qn.sizes {X Y : Nat → Int} {as bs : List Int} {a b : Int} {N M HX HY : Nat} {n : Nat} (q : Qn X Y as a bs b) (fX : Fz X (N + 1)) (dY : Dg Y n) (nM : n ≤ M) (hX : ∀ i, (X i).natAbs ≤ HX) (hY : ∀ i, (Y i).natAbs ≤ HY) (n6 : N ≤ 6) (m6 : M ≤ 6) : Qs N M HX HY as a bs b := by
  have db := q.bs_dv fX dY.up
  have lb := db.deg (dgl q.bt) dY
  have bl : 0 < bs.length := List.length_pos_iff.mpr q.bne
  have bb := fun i => Nat.le_trans (monic_bits q.sb q.bne q.mon dY hY (by omega) db i) (le_mono3 (t := 0) nM (show bs.length - 1 ≤ M by omega))
  have gb : b.natAbs ≤ HY * sg 6 (M + 1) * 14 ^ M := by rw [← q.mon]; exact bb _
  rcases zero_or_dg (N + 1) fX with z | ⟨m, mN, d⟩
  · have an := q.as_zero dY z
    have a1 := small_one q.sa an
    refine ⟨by rw [an]; exact Nat.zero_le _, by omega, fun i => by rw [an]; exact Nat.zero_le _, bb, ?_, gb⟩
    rw [a1]; exact Nat.le_max_left _ _
  · have ane : as ≠ [] := fun z => d.top (q.x_zero fX z m)
    have at_ : as.getD (as.length - 1) 0 ≠ 0 := q.sa.last.resolve_left ane
    have da := q.as_dv fX dY.up
    have la := da.deg (dgl at_) d
    have al : 0 < as.length := List.length_pos_iff.mpr ane
    have lead : as.getD (as.length - 1) 0 * Y n = X m * a := by
      have eqd : as.length - 1 + n = m + (bs.length - 1) := by
        have d1 := (dgl at_).cf dY
        have d2 := d.cf (dgl q.bt)
        have d3 : Dg (cf (cst b) (cf (ff as) Y)) (as.length - 1 + n) := by
          rw [cst_cf]
          exact ⟨Int.mul_ne_zero q.b0 d1.top, fun i hi => by show b * _ = 0; rw [d1.up i hi, Int.mul_zero]⟩
        have d4 : Dg (cf (cst a) (cf X (ff bs))) (m + (bs.length - 1)) := by
          rw [cst_cf]
          exact ⟨Int.mul_ne_zero q.a0 d2.top, fun i hi => by show a * _ = 0; rw [d2.up i hi, Int.mul_zero]⟩
        rw [q.eq] at d3
        exact d3.uniq d4
      have e := congrFun q.eq (as.length - 1 + n)
      rw [cst_cf, cst_cf] at e
      have e2 : b * cf (ff as) Y (as.length - 1 + n) = a * cf X (ff bs) (as.length - 1 + n) := e
      rw [cf_top (fun i hi => (dgl at_).up i hi) (fun i hi => dY.up i hi), eqd, cf_top (fun i hi => d.up i hi) (fun i hi => (dgl q.bt).up i hi)] at e2
      have e3 : ff bs (bs.length - 1) = b := q.mon
      rw [e3] at e2
      apply Int.eq_of_mul_eq_mul_left q.b0
      have : b * (as.getD (as.length - 1) 0 * Y n) = a * (X m * b) := e2
      rw [this]
      grind
    obtain ⟨h1, h2⟩ := num_bits q.sa ane d hX (by omega) da dY.top d.top lead
    have mm := le_mono3 (H := HX) (t := 0) (show m ≤ N by omega) (show as.length - 1 ≤ N by omega)
    refine ⟨by omega, by omega, fun i => Nat.le_trans (h1 i) (Nat.mul_le_mul (hX m) mm), bb, ?_, gb⟩
    exact Nat.le_trans h2 (Nat.le_trans (Nat.mul_le_mul mm (hY n)) (Nat.le_max_right _ _))
/-- a common factor goes -/
theorem Qn.cancel {X Y G X' Y' : Nat → Int} {as bs : List Int} {a b : Int} {g N M : Nat} (q : Qn X Y as a bs b) (dG : Dg G g) (hX : X = cf G X') (hY : Y = cf G Y') (fX : Fz X' N) (fY : Fz Y' M) : Qn X' Y' as a bs b := by
  refine ⟨q.sa, q.sb, q.bne, q.mon, q.cop, funext fun i => ?_⟩
  refine cf_cancel dG (n := 1 + max (as.length + M) (N + bs.length)) (((cst_fz b).cf ((ff_fz as).cf fY)).mono (by omega)) (((cst_fz a).cf (fX.cf (ff_fz bs))).mono (by omega)) (fun k => ?_) i
  have e := q.eq
  rw [hX, hY] at e
  have e1 : cf G (cf (cst b) (cf (ff as) Y')) = cf (cst b) (cf (ff as) (cf G Y')) := by ac_rfl
  have e2 : cf G (cf (cst a) (cf X' (ff bs))) = cf (cst a) (cf (cf G X') (ff bs)) := by ac_rfl
  rw [e1, e2, e]
end CB

namespace CB
open PySem PySem.Spec PyProof.Rows L2
/-! ### coefficient functions as a ring, so that grind can do their algebra -/
structure PS where
  f : Nat → Int
def pc (c : Int) : PS := ⟨cst c⟩
theorem PS.ext {a b : PS} (h : a.f = b.f) : a = b := by cases a; cases b; cases h; rfl
instance : Add PS := ⟨fun a b => ⟨fun i => a.f i + b.f i⟩⟩
instance : Mul PS := ⟨fun a b => ⟨cf a.f b.f⟩⟩
instance : Neg PS := ⟨fun a => ⟨fun i => -a.f i⟩⟩
instance : Sub PS := ⟨fun a b => ⟨fun i => a.f i + -b.f i⟩⟩
instance : NatCast PS := ⟨fun n => pc n⟩
instance : IntCast PS := ⟨pc⟩
instance (n : Nat) : OfNat PS n := ⟨pc n⟩
def PS.pw (a : PS) : Nat → PS
  | 0 => 1
  | n + 1 => PS.pw a n * a
instance : HPow PS Nat PS := ⟨PS.pw⟩
instance : SMul Nat PS := ⟨fun n a => (n : PS) * a⟩
instance : SMul Int PS := ⟨fun n a => (n : PS) * a⟩
theorem PS.mul_f (a b : PS) : (a * b).f = cf a.f b.f := rfl
theorem pc_add (a b : Int) : pc (a + b) = pc a + pc b := PS.ext (funext fun i => Int.add_mul a b _)
theorem pc_mul (a b : Int) : pc (a * b) = pc a * pc b := PS.ext (by rw [PS.mul_f]; exact (cst_mul a b).symm)
theorem pc_neg (a : Int) : pc (-a) = -pc a := PS.ext (funext fun i => Int.neg_mul a _)
theorem ps_one_mul (a : PS) : 1 * a = a := PS.ext (funext fun i => by
  show cf (cst 1) a.f i = a.f i
  rw [cst_cf]
  exact Int.one_mul _)
theorem ps_mul_comm (a b : PS) : a * b = b * a := PS.ext (cfC _ _)
theorem ps_zero_f (i : Nat) : (0 : PS).f i = 0 := Int.zero_mul _
theorem ps_zero_mul (a : PS) : 0 * a = 0 := PS.ext (funext fun i => by
  rw [ps_zero_f]
  show cf (0 : PS).f a.f i = 0
  exact cf_zero_l ps_zero_f i)
theorem ps_neg_smul (i : Int) (a : PS) : (-i) • a = -(i • a) := PS.ext (funext fun k => by
  show cf (cst (-i)) a.f k = -cf (cst i) a.f k
  rw [cst_cf, cst_cf]
  exact Int.neg_mul _ _)
instance psRing : Lean.Grind.CommRing PS where
  add_zero a := PS.ext (funext fun i => by show a.f i + (0 : PS).f i = a.f i; rw [ps_zero_f, Int.add_zero])
  add_comm a b := PS.ext (funext fun i => Int.add_comm _ _)
  add_assoc a b c := PS.ext (funext fun i => Int.add_assoc _ _ _)
  mul_assoc a b c := PS.ext (cfA _ _ _)
  mul_one a := by rw [ps_mul_comm, ps_one_mul]
  one_mul := ps_one_mul
  left_distrib a b c := PS.ext (funext fun i => cf_add _ _ _ i)
  right_distrib a b c := PS.ext (funext fun i => cf_add_l _ _ _ i)
  zero_mul := ps_zero_mul
  mul_zero a := by rw [ps_mul_comm, ps_zero_mul]
  pow_zero a := rfl
  pow_succ a n := rfl
  ofNat_succ a := pc_add a 1
  neg_add_cancel a := PS.ext (funext fun i => by show -a.f i + a.f i = (0 : PS).f i; rw [ps_zero_f]; omega)
  sub_eq_add_neg a b := rfl
  neg_zsmul := ps_neg_smul
  intCast_neg i := pc_neg i
  mul_comm := ps_mul_comm
/-- a degree allows cancelling -/
theorem PS.cancel {a b c : PS} {n N M : Nat} (d : Dg a.f n) (hb : Fz b.f N) (hc : Fz c.f M) (e : a * b = a * c) : b = c :=
  PS.ext (funext fun i => cf_cancel d (n := max N M) (hb.mono (Nat.le_max_left _ _)) (hc.mono (Nat.le_max_right _ _)) (fun k => congrFun (congrArg PS.f e) k) i)
theorem pc_dg {c : Int} (h : c ≠ 0) : Dg (pc c).f 0 := ⟨by show c * xp 0 0 ≠ 0; rw [show xp 0 0 = 1 from rfl, Int.mul_one]; exact h, (cst_fz c)⟩
abbrev pl (xs : List Int) : PS := ⟨ff xs⟩
example (a b c : PS) (h : a * b = c) : (a + b) * (a - b) * a = a ^ 3 - c * b := by grind
/-- two ways to say it -/
theorem Qn.ps {X Y : PS} {as bs : List Int} {a b : Int} (q : Qn X.f Y.f as a bs b) : pc b * (pl as * Y) = pc a * (X * pl bs) := PS.ext q.eq
/-- the same value by other polynomials -/
theorem Qn.move {X Y X' Y' : PS} {as bs : List Int} {a b : Int} {n N M : Nat} (q : Qn X.f Y.f as a bs b) (dY : Dg Y.f n) (fY : Fz Y'.f N) (fX : Fz X'.f M) (e : X * Y' = X' * Y) : Qn X'.f Y'.f as a bs b := by
  refine ⟨q.sa, q.sb, q.bne, q.mon, q.cop, ?_⟩
  have z := q.ps
  have k : Y * (pc b * (pl as * Y')) = Y * (pc a * (X' * pl bs)) := by grind
  exact congrArg PS.f (PS.cancel dY (((cst_fz b).cf ((ff_fz as).cf fY))) (((cst_fz a).cf (fX.cf (ff_fz bs)))) k)
end CB

namespace CB
open PySem PySem.Spec PyProof.Rows L2
/-! ### small solutions of linear equations, by the pigeonhole principle -/
theorem pig_class {α : Type} (f : α → Nat) (T : Nat) : ∀ (K : Nat) (L : List α), (∀ a ∈ L, f a < K) → K * T < L.length → ∃ c, c < K ∧ T < (L.filter fun a => decide (f a = c)).length
  | 0, L, h, hl => by
    match L, hl with
    | a :: r, _ => exact absurd (h a (List.mem_cons_self ..)) (Nat.not_lt_zero _)
  | K + 1, L, h, hl => by
    by_cases c : T < (L.filter fun a => decide (f a = K)).length
    · exact ⟨K, Nat.lt_succ_self _, c⟩
    · have z : (L.filter fun a => decide (f a = K)).length + (L.filter fun a => !decide (f a = K)).length = L.length := by
        have y := List.length_eq_countP_add_countP (fun a => decide (f a = K)) (l := L)
        rw [List.countP_eq_length_filter, List.countP_eq_length_filter] at y
        have e1_ : (L.filter fun a => decide ¬ (fun a => decide (f a = K)) a = true) = L.filter fun a => !decide (f a = K) := by
          congr 1
          funext a
          simp
        rw [e1_] at y
        omega
      rw [Nat.succ_mul] at hl
      obtain ⟨c2, h2, h3⟩ := pig_class f T K (L.filter fun a => !decide (f a = K)) (fun a ha => by
        obtain ⟨h1, h2⟩ := List.mem_filter.mp ha
        have := h a h1
        have : f a ≠ K := by simpa using h2
        omega) (by omega)
      refine ⟨c2, by omega, Nat.lt_of_lt_of_le h3 ?_⟩
      rw [List.filter_filter]
      rw [← List.countP_eq_length_filter, ← List.countP_eq_length_filter]
      exact List.countP_mono_left fun a _ ha => (Bool.and_eq_true _ _ ▸ ha).1
theorem pig_all {α : Type} (f : Nat → α → Nat) (K : Nat) : ∀ (M : Nat) (L : List α), (∀ e, e < M → ∀ a ∈ L, f e a < K) → K ^ M < L.length → ∃ L', List.Sublist L' L ∧ 1 < L'.length ∧ ∀ e, e < M → ∀ a ∈ L', ∀ b ∈ L', f e a = f e b
  | 0, L, _, hl => ⟨L, List.Sublist.refl _, by simpa using hl, fun e he => absurd he (Nat.not_lt_zero _)⟩
  | M + 1, L, h, hl => by
    obtain ⟨c, hc, h2⟩ := pig_class (f M) (K ^ M) K L (h M (Nat.lt_succ_self _)) (by rw [Nat.pow_succ, Nat.mul_comm] at hl; exact hl)
    obtain ⟨L', s, l1, eq⟩ := pig_all f K M (L.filter fun a => decide (f M a = c)) (fun e he a ha => h e (by omega) a (List.mem_filter.mp ha).1) h2
    refine ⟨L', s.trans List.filter_sublist, l1, fun e he a ha b hb => ?_⟩
    by_cases z : e = M
    · subst z
      have ea := of_decide_eq_true (List.mem_filter.mp (s.subset ha)).2
      have eb := of_decide_eq_true (List.mem_filter.mp (s.subset hb)).2
      rw [ea, eb]
    · exact eq e (by omega) a ha b hb
/-- the digits to the base B + 1 -/
def dgt (B t j : Nat) : Nat := t / (B + 1) ^ j % (B + 1)
theorem dgt_le (B t j : Nat) : dgt B t j ≤ B := by
  have := Nat.mod_lt (t / (B + 1) ^ j) (show 0 < B + 1 from Nat.succ_pos B)
  unfold dgt
  omega
theorem dgt_uniq (B : Nat) : ∀ (N t t' : Nat), t < (B + 1) ^ N → t' < (B + 1) ^ N → (∀ j, j < N → dgt B t j = dgt B t' j) → t = t'
  | 0, t, t', h, h', _ => by
    rw [Nat.pow_zero] at h h'
    omega
  | N + 1, t, t', h, h', e => by
    have z := e 0 (by omega)
    unfold dgt at z
    rw [Nat.pow_zero, Nat.div_one, Nat.div_one] at z
    rw [Nat.pow_succ] at h h'
    have ih := dgt_uniq B N (t / (B + 1)) (t' / (B + 1)) (Nat.div_lt_of_lt_mul (by rw [Nat.mul_comm]; exact h)) (Nat.div_lt_of_lt_mul (by rw [Nat.mul_comm]; exact h')) (fun j hj => by
      have y := e (j + 1) (by omega)
      unfold dgt at y ⊢
      rw [Nat.pow_succ, Nat.mul_comm, ← Nat.div_div_eq_div_mul, ← Nat.div_div_eq_div_mul] at y
      exact y)
    rw [← Nat.div_add_mod t (B + 1), ← Nat.div_add_mod t' (B + 1), ih, z]
theorem sum_sub (F G : Nat → Int) : ∀ n, sumTo (fun i => F i - G i) n = sumTo F n - sumTo G n
  | 0 => rfl
  | n + 1 => by
    show sumTo (fun i => F i - G i) n + (F n - G n) = sumTo F n + F n - (sumTo G n + G n)
    rw [sum_sub F G n]
    omega
theorem sum_le {F : Nat → Int} {C : Nat} : ∀ n, (∀ i, i < n → (F i).natAbs ≤ C) → (sumTo F n).natAbs ≤ n * C
  | 0, _ => by simp [sumTo]
  | n + 1, h => by
    have ih := sum_le n fun i hi => h i (by omega)
    have := h n (by omega)
    have z := Int.natAbs_add_le (sumTo F n) (F n)
    show (sumTo F n + F n).natAbs ≤ _
    rw [Nat.succ_mul]
    omega
theorem pow_le_mul {a b c : Nat} (h : a ≤ b * c) : ∀ n, a ^ n ≤ b ^ n * c ^ n := fun n => by
  rw [← Nat.mul_pow]
  exact Nat.pow_le_pow_left h n
/-- Siegel: fewer equations than unknowns have a small solution -/
theorem siegel (A : Nat → Nat → Int) {N M H : Nat} (hM : M < N) (H1 : 1 ≤ H) (hA : ∀ e j, (A e j).natAbs ≤ H) : ∃ x : Nat → Int, (∃ j, j < N ∧ x j ≠ 0) ∧ (∀ j, (x j).natAbs ≤ (2 * N * H) ^ M) ∧ (∀ e, e < M → sumTo (fun j => A e j * x j) N = 0) ∧ Fz x N := by
  obtain ⟨B, eB⟩ : ∃ B, B = (2 * N * H) ^ M := ⟨_, rfl⟩
  obtain ⟨V, eV⟩ : ∃ V : Nat → Nat → Int, V = fun e t => sumTo (fun j => A e j * (dgt B t j : Int)) N := ⟨_, rfl⟩
  have vb : ∀ e t, (V e t).natAbs ≤ N * (H * B) := fun e t => by
    rw [eV]
    refine sum_le N fun j _ => ?_
    rw [Int.natAbs_mul]
    exact Nat.mul_le_mul (hA e j) (by rw [Int.natAbs_natCast]; exact dgt_le B t j)
  have nh : 1 ≤ 2 * N * H := Nat.mul_pos (by omega) (by omega)
  obtain ⟨L', s, l1, eq⟩ := pig_all (fun e t => (V e t + ((N * (H * B) : Nat) : Int)).toNat) (2 * (N * (H * B)) + 1) M (List.range ((B + 1) ^ N)) (fun e _ t _ => by have := vb e t; omega) (by
    rw [List.length_range]
    have a1 : 2 * (N * (H * B)) + 1 ≤ 2 * N * H * (B + 1) := by
      have : 2 * (N * (H * B)) = 2 * N * H * B := by rw [Nat.mul_assoc, Nat.mul_assoc]
      rw [this, Nat.mul_add]
      omega
    have a2 := pow_le_mul a1 M
    rw [← eB] at a2
    have a3 : B * (B + 1) ^ M < (B + 1) * (B + 1) ^ M := Nat.mul_lt_mul_of_pos_right (Nat.lt_succ_self B) (Nat.pow_pos (Nat.succ_pos B))
    have a4 : (B + 1) * (B + 1) ^ M ≤ (B + 1) ^ N := by
      rw [Nat.mul_comm, ← Nat.pow_succ]
      exact Nat.pow_le_pow_right (Nat.succ_pos B) hM
    omega)
  obtain ⟨t, t', r, hr⟩ : ∃ t t' r, L' = t :: t' :: r := by
    match L', l1 with
    | t :: t' :: r, _ => exact ⟨t, t', r, rfl⟩
  have nd := s.nodup List.nodup_range
  rw [hr] at nd
  have ne : t ≠ t' := fun z => by
    rw [z] at nd
    simp at nd
  have m1 : t ∈ L' := by rw [hr]; simp
  have m2 : t' ∈ L' := by rw [hr]; simp
  have b1 := List.mem_range.mp (s.subset m1)
  have b2 := List.mem_range.mp (s.subset m2)
  have dif : ∃ j, j < N ∧ dgt B t j ≠ dgt B t' j := Classical.byContradiction fun c => ne (dgt_uniq B N t t' b1 b2 fun j hj => Classical.byContradiction fun d => c ⟨j, hj, d⟩)
  refine ⟨fun j => if j < N then (dgt B t j : Int) - dgt B t' j else 0, ?_, fun j => ?_, fun e he => ?_, fun j hj => if_neg (by omega)⟩
  · obtain ⟨j, hj, d⟩ := dif
    refine ⟨j, hj, ?_⟩
    show (if j < N then (dgt B t j : Int) - dgt B t' j else 0) ≠ 0
    rw [if_pos hj]
    omega
  · rw [← eB]
    show (if j < N then (dgt B t j : Int) - dgt B t' j else 0).natAbs ≤ B
    have := dgt_le B t j
    have := dgt_le B t' j
    split <;> omega
  · have z := eq e he t m1 t' m2
    have v1 := vb e t
    have v2 := vb e t'
    have z2 : V e t = V e t' := by
      have : (V e t + ((N * (H * B) : Nat) : Int)).toNat = (V e t' + ((N * (H * B) : Nat) : Int)).toNat := z
      omega
    rw [eV] at z2
    have z3 : sumTo (fun j => A e j * (if j < N then (dgt B t j : Int) - dgt B t' j else 0)) N = sumTo (fun j => A e j * (dgt B t j : Int) - A e j * (dgt B t' j : Int)) N := sumTo_congr N fun j hj => by rw [if_pos hj, Int.mul_sub]
    rw [z3, sum_sub]
    have z4 : sumTo (fun j => A e j * (dgt B t j : Int)) N = sumTo (fun j => A e j * (dgt B t' j : Int)) N := z2
    omega
/-- a product's coefficient as a sum over the left factor -/
theorem cf_left {u : Nat → Int} {p : Nat} (hu : Fz u p) (A : Nat → Int) (k : Nat) : cf u A k = sumTo (fun j => (if j ≤ k then A (k - j) else 0) * u j) p := by
  unfold cf
  have h1 : sumTo (fun i => u i * A (k - i)) (k + 1) = sumTo (fun j => (if j ≤ k then A (k - j) else 0) * u j) (k + 1) := sumTo_congr _ fun i hi => by rw [if_pos (by omega), Int.mul_comm]
  rw [h1]
  have a := sumTo_more (F := fun j => (if j ≤ k then A (k - j) else 0) * u j) (n := k + 1) (fun i hi => by show (if i ≤ k then A (k - i) else 0) * u i = 0; rw [if_neg (by omega), Int.zero_mul]) p
  have b := sumTo_more (F := fun j => (if j ≤ k then A (k - j) else 0) * u j) (n := p) (fun i hi => by show (if i ≤ k then A (k - i) else 0) * u i = 0; rw [hu i hi, Int.mul_zero]) (k + 1)
  rw [← a, ← b, Nat.add_comm]
/-- Euclid's end with sizes like a determinant's -/
theorem euclid_small {A B : Nat → Int} {a b k : Nat} (dA : Dg A a) (dB : Dg B b) (hA : Bt k A) (hB : Bt k B) (ab : a + b ≤ 16) : ∃ e m, Euc A B e ∧ Dg e m ∧ Bt ((k + 5) * (a + b) + k) e := by
  obtain ⟨kA, hkA⟩ : ∃ kA, kA = k := ⟨k, rfl⟩
  obtain ⟨g, _, E, ⟨d, dm, D⟩, _, _⟩ := euclid (a + b) dA dB (Nat.le_refl _) hA hB
  have da : d ≤ a := by omega
  have db : d ≤ b := by omega
  by_cases N0 : a + b - 2 * d = 0
  · -- A and the divisor are of one degree
    have e1 : Dv A g := by
      obtain ⟨m, s, M, m0, hs, e⟩ := E.da
      rcases zero_or_dg M hs with z | ⟨j, _, dj⟩
      · exfalso
        have y := e a
        rw [cf_zero_l z] at y
        rcases Int.mul_eq_zero.mp y with y | y
        · exact m0 y
        · exact dA.top y
      · have jd := dj.cf D
        have ja : Dg (cf s g) a := ⟨by rw [← e]; exact Int.mul_ne_zero m0 dA.top, fun i hi => by rw [← e, dA.up i hi, Int.mul_zero]⟩
        have := jd.uniq ja
        have j0 : j = 0 := by omega
        subst j0
        have sc : ∀ i, s i = s 0 * xp 0 i := fun i => by
          by_cases z : i = 0
          · subst z
            show s 0 = s 0 * 1
            omega
          · rw [dj.up i (by omega)]
            show 0 = s 0 * (if i = 0 then 1 else 0)
            rw [if_neg z]; omega
        refine ⟨s 0, fun i => m * xp 0 i, 1, dj.top, (xp_fz 0).scale m, fun i => ?_⟩
        rw [cf_scale_l, cf_one, e, cf_congr sc (fun _ => rfl) i, cf_scale_l, cf_one]
    have ab2 : a = b := by omega
    refine ⟨A, a, ⟨Dv.refl A, e1.trans E.db, xp 0, fun _ => 0, 1, xp_fz 0, fun _ _ => rfl, fun i => by rw [cf_one, cf_zero_l (fun _ => rfl)]; omega⟩, dA, hA.mono (by omega)⟩
  · obtain ⟨p, ep⟩ : ∃ p, p = b - d := ⟨_, rfl⟩
    obtain ⟨q, eq⟩ : ∃ q, q = a - d := ⟨_, rfl⟩
    obtain ⟨x, ⟨j0, j0N, xj0⟩, xb, xe, xz⟩ := siegel (fun e j => if j < p then (if j ≤ d + 1 + e then A (d + 1 + e - j) else 0) else (if j - p ≤ d + 1 + e then B (d + 1 + e - (j - p)) else 0)) (N := p + q) (M := p + q - 1) (H := 2 ^ k) (by omega) (Nat.pow_pos (by decide)) (fun e j => by
      have h0 : ∀ i, (A i).natAbs ≤ 2 ^ k := fun i => Nat.le_of_lt (hA i)
      have h1 : ∀ i, (B i).natAbs ≤ 2 ^ k := fun i => Nat.le_of_lt (hB i)
      show (if j < p then (if j ≤ d + 1 + e then A (d + 1 + e - j) else 0) else (if j - p ≤ d + 1 + e then B (d + 1 + e - (j - p)) else 0)).natAbs ≤ 2 ^ k
      split
      · split
        · exact h0 _
        · exact Nat.zero_le _
      · split
        · exact h1 _
        · exact Nat.zero_le _)
    obtain ⟨u, eu⟩ : ∃ u : Nat → Int, u = fun i => if i < p then x i else 0 := ⟨_, rfl⟩
    obtain ⟨v, ev⟩ : ∃ v : Nat → Int, v = fun i => x (p + i) := ⟨_, rfl⟩
    have fu : Fz u p := fun i hi => by rw [eu]; exact if_neg (by omega)
    have fv : Fz v q := fun i hi => by rw [ev]; exact xz _ (by omega)
    obtain ⟨e, ee⟩ : ∃ e : Nat → Int, e = fun i => cf u A i + cf v B i := ⟨_, rfl⟩
    -- its coefficients as one sum
    have one : ∀ i, e i = sumTo (fun j => (if j < p then (if j ≤ i then A (i - j) else 0) else (if j - p ≤ i then B (i - (j - p)) else 0)) * x j) (p + q) := fun i => by
      rw [ee, sumTo_app]
      show cf u A i + cf v B i = _
      rw [cf_left fu A i, cf_left fv B i]
      congr 1
      · exact sumTo_congr p fun j hj => by rw [if_pos hj, eu]; show _ * (if j < p then x j else 0) = _; rw [if_pos hj]
      · exact sumTo_congr q fun j hj => by
          rw [if_neg (show ¬ p + j < p by omega), ev, show p + j - p = j by omega]
    have ez : Fz e (d + 1) := fun i hi => by
      by_cases c : i < d + 1 + (p + q - 1)
      · rw [one]
        have := xe (i - (d + 1)) (by omega)
        rw [show d + 1 + (i - (d + 1)) = i by omega] at this
        exact this
      · rw [ee]
        show cf u A i + cf v B i = 0
        rw [cf_endT (al := p) (be := a + 1) (fun s hs => fu s hs) (fun s hs => dA.up s hs) (by omega), cf_endT (al := q) (be := b + 1) (fun s hs => fv s hs) (fun s hs => dB.up s hs) (by omega)]
        rfl
    -- it is not zero
    have dv : Dv g e := by
      have := Dv.comb E.da E.db fu fv
      rw [ee]
      exact this
    have nz : ¬ ∀ i, e i = 0 := fun z => by
      obtain ⟨U, W, M, hU, hW, cm⟩ := E.comb
      have ps : (⟨u⟩ : PS) * ⟨A⟩ + ⟨v⟩ * ⟨B⟩ = 0 := PS.ext (funext fun i => by rw [ps_zero_f]; have := z i; rw [ee] at this; exact this)
      have gs : (⟨g⟩ : PS) = ⟨U⟩ * ⟨A⟩ + ⟨W⟩ * ⟨B⟩ := PS.ext (funext fun i => cm i)
      have h1 : (⟨u⟩ : PS) * ⟨g⟩ = ⟨B⟩ * (⟨u⟩ * ⟨W⟩ - ⟨v⟩ * ⟨U⟩) := by grind
      have h2 : (⟨v⟩ : PS) * ⟨g⟩ = ⟨A⟩ * (⟨v⟩ * ⟨U⟩ - ⟨u⟩ * ⟨W⟩) := by grind
      have u0 : ∀ i, u i = 0 := by
        rcases zero_or_dg p fu with y | ⟨m, hm, du⟩
        · exact y
        · exfalso
          have k1 := du.cf D
          have k2 : Dv B (cf u g) := ⟨1, _, _, by decide, (Fz.add (a := max (p + M) (q + M)) ((fu.cf hW).mono (by omega)) (fun i hi => by show -(cf v U i) = 0; rw [(fv.cf hU) i (by omega)]; rfl) : Fz ((⟨u⟩ : PS) * ⟨W⟩ - ⟨v⟩ * ⟨U⟩).f _), fun i => by
            rw [Int.one_mul]
            exact (congrFun (congrArg PS.f h1) i).trans (cf_comm _ _ _)⟩
          have := k2.deg dB k1
          omega
      have v0 : ∀ i, v i = 0 := by
        rcases zero_or_dg q fv with y | ⟨m, hm, dv⟩
        · exact y
        · exfalso
          have k1 := dv.cf D
          have k2 : Dv A (cf v g) := ⟨1, _, _, by decide, (Fz.add (a := max (p + M) (q + M)) ((fv.cf hU).mono (by omega)) (fun i hi => by show -(cf u W i) = 0; rw [(fu.cf hW) i (by omega)]; rfl) : Fz ((⟨v⟩ : PS) * ⟨U⟩ - ⟨u⟩ * ⟨W⟩).f _), fun i => by
            rw [Int.one_mul]
            exact (congrFun (congrArg PS.f h2) i).trans (cf_comm _ _ _)⟩
          have := k2.deg dA k1
          omega
      by_cases c : j0 < p
      · have := u0 j0
        rw [eu] at this
        have y : (if j0 < p then x j0 else 0) = 0 := this
        rw [if_pos c] at y
        exact xj0 y
      · have := v0 (j0 - p)
        rw [ev] at this
        have y : x (p + (j0 - p)) = 0 := this
        rw [show p + (j0 - p) = j0 by omega] at y
        exact xj0 y
    rcases zero_or_dg (d + 1) ez with z | ⟨m, md, dme⟩
    · exact absurd z nz
    have mde := dv.deg D dme
    have mdd : m = d := by omega
    subst mdd
    -- it divides the divisor
    have eg : Dv e g := by
      obtain ⟨c, s, M, c0, hs, es⟩ := dv
      rcases zero_or_dg M hs with z | ⟨j, _, dj⟩
      · exfalso
        have y := es m
        rw [cf_zero_l z] at y
        rcases Int.mul_eq_zero.mp y with y | y
        · exact c0 y
        · exact dme.top y
      · have jd := dj.cf D
        have ja : Dg (cf s g) m := ⟨by rw [← es]; exact Int.mul_ne_zero c0 dme.top, fun i hi => by rw [← es, dme.up i hi, Int.mul_zero]⟩
        have := jd.uniq ja
        have j0 : j = 0 := by omega
        subst j0
        have sc : ∀ i, s i = s 0 * xp 0 i := fun i => by
          by_cases z : i = 0
          · subst z
            show s 0 = s 0 * 1
            omega
          · rw [dj.up i (by omega)]
            show 0 = s 0 * (if i = 0 then 1 else 0)
            rw [if_neg z]; omega
        refine ⟨s 0, fun i => c * xp 0 i, 1, dj.top, (xp_fz 0).scale c, fun i => ?_⟩
        rw [cf_scale_l, cf_one, es, cf_congr sc (fun _ => rfl) i, cf_scale_l, cf_one]
    refine ⟨e, m, ⟨eg.trans E.da, eg.trans E.db, u, v, p + q, fu.mono (by omega), fv.mono (by omega), fun i => by rw [ee]⟩, dme, fun i => ?_⟩
    have N1 : 1 ≤ p + q := by omega
    rw [one]
    have z := sum_le (F := fun j => (if j < p then (if j ≤ i then A (i - j) else 0) else (if j - p ≤ i then B (i - (j - p)) else 0)) * x j) (C := 2 ^ k * (2 * (p + q) * 2 ^ k) ^ (p + q - 1)) (p + q) (fun j hj => by
      rw [Int.natAbs_mul]
      refine Nat.mul_le_mul ?_ (xb j)
      have h0 : ∀ i, (A i).natAbs ≤ 2 ^ k := fun i => Nat.le_of_lt (hA i)
      have h1 : ∀ i, (B i).natAbs ≤ 2 ^ k := fun i => Nat.le_of_lt (hB i)
      split
      · split
        · exact h0 _
        · exact Nat.zero_le _
      · split
        · exact h1 _
        · exact Nat.zero_le _)
    refine Nat.lt_of_le_of_lt z ?_
    have f1 : (p + q) * (2 ^ k * (2 * (p + q) * 2 ^ k) ^ (p + q - 1)) < (2 * (p + q) * 2 ^ k) ^ (p + q - 1 + 1) := by
      rw [Nat.pow_succ]
      have pp : 0 < (2 * (p + q) * 2 ^ k) ^ (p + q - 1) := Nat.pow_pos (Nat.mul_pos (by omega) (Nat.pow_pos (by decide)))
      have k0 : 0 < (p + q) * 2 ^ k := Nat.mul_pos N1 (Nat.pow_pos (by decide))
      generalize (2 * (p + q) * 2 ^ k) ^ (p + q - 1) = Z at pp ⊢
      have : 2 * (p + q) * 2 ^ k = 2 * ((p + q) * 2 ^ k) := Nat.mul_assoc _ _ _
      rw [this]
      have e3 : (p + q) * (2 ^ k * Z) = Z * ((p + q) * 2 ^ k) := by
        rw [← Nat.mul_assoc, Nat.mul_comm]
      rw [e3]
      exact Nat.mul_lt_mul_of_pos_left (by omega) pp
    refine Nat.lt_of_lt_of_le f1 ?_
    have f2 : 2 * (p + q) * 2 ^ k ≤ 2 ^ (k + 5) := by
      rw [Nat.pow_add, Nat.mul_comm]
      exact Nat.mul_le_mul_left _ (by have : (2 : Nat) ^ 5 = 32 := rfl; omega)
    refine Nat.le_trans (Nat.pow_le_pow_left f2 _) ?_
    rw [← Nat.pow_mul]
    refine Nat.pow_le_pow_right (by decide) ?_
    have f3 : (k + 5) * (p + q - 1 + 1) ≤ (k + 5) * (a + b) := Nat.mul_le_mul_left _ (by omega)
    omega
end CB

namespace CB
open PySem PySem.Spec PyProof.Rows L2
/-! ### whole roots: values modulo, lifting, bounds -/
theorem pow_tay (x h : Int) : ∀ n : Nat, ∃ c, (x + h) ^ (n + 1) = x ^ (n + 1) + ((n : Int) + 1) * x ^ n * h + h * h * c
  | 0 => ⟨0, by rw [Int.pow_succ, Int.pow_succ, Int.pow_zero, Int.pow_zero]; simp⟩
  | n + 1 => by
    obtain ⟨c, e⟩ := pow_tay x h n
    refine ⟨((n : Int) + 1) * x ^ n + c * (x + h), ?_⟩
    rw [Int.pow_succ, e, Int.pow_succ x (n + 1), Int.pow_succ x n]
    push_cast
    generalize x ^ n = P
    grind
/-- the value at x + h up to h ^ 2 -/
theorem tay (f : Nat → Int) (x h : Int) : ∀ N, ∃ t, e1 f (x + h) (N + 1) = e1 f x (N + 1) + h * e1 (dv f) x N + h * h * t
  | 0 => ⟨0, by show 0 + f 0 * (x + h) ^ 0 = 0 + f 0 * x ^ 0 + h * 0 + h * h * 0; simp⟩
  | N + 1 => by
    obtain ⟨t, e⟩ := tay f x h N
    obtain ⟨c, ec⟩ := pow_tay x h N
    refine ⟨t + f (N + 1) * c, ?_⟩
    show e1 f (x + h) (N + 1) + f (N + 1) * (x + h) ^ (N + 1) = e1 f x (N + 1) + f (N + 1) * x ^ (N + 1) + h * (e1 (dv f) x N + dv f N * x ^ N) + h * h * (t + f (N + 1) * c)
    rw [e, ec]
    unfold dv
    generalize x ^ (N + 1) = P
    generalize x ^ N = R
    grind
theorem e1_mod (f : Nat → Int) {m x y : Int} (h : m ∣ x - y) : ∀ N, m ∣ e1 f x N - e1 f y N
  | 0 => by show m ∣ 0 - 0; simp
  | N + 1 => by
    have ih := e1_mod f h N
    have hp : ∀ n : Nat, m ∣ x ^ n - y ^ n := fun n => by
      induction n with
      | zero => simp
      | succ n ih =>
        have : x ^ (n + 1) - y ^ (n + 1) = x * (x ^ n - y ^ n) + y ^ n * (x - y) := by rw [Int.pow_succ, Int.pow_succ]; generalize x ^ n = P; generalize y ^ n = R; grind
        rw [this]
        exact Int.dvd_add (Int.dvd_trans ih ⟨x, Int.mul_comm _ _⟩) (Int.dvd_trans h ⟨y ^ n, Int.mul_comm _ _⟩)
    have : e1 f x (N + 1) - e1 f y (N + 1) = (e1 f x N - e1 f y N) + f N * (x ^ N - y ^ N) := by
      show e1 f x N + f N * x ^ N - (e1 f y N + f N * y ^ N) = _
      rw [Int.mul_sub]
      omega
    rw [this]
    exact Int.dvd_add ih (Int.dvd_trans (hp N) ⟨f N, Int.mul_comm _ _⟩)
theorem lift_a {m q w p v D t F : Int} (hF : F = m * q + m * m * p) (hD : v * D = 1 + m * w) : m * q + -(F * v) * D + -(F * v) * -(F * v) * t = m * m * (q * -w + -(p * v * D) + (q + m * p) * (q + m * p) * v * v * t) := by
  subst hF
  have : (m * q + m * m * p) * v * D = (m * q + m * m * p) * (v * D) := Int.mul_assoc _ _ _
  grind
theorem lift_b {m v D g G y w : Int} (h1 : v * D - 1 = m * w) (h3 : G = D + m * m * g) : (v * (2 - G * v) + m * m * y) * D - 1 = m * m * (y * D - v * v * g * D - w * w) := by
  subst h3
  grind
theorem lift_c {m k p v D w t s : Int} (h : v * D = 1 + m * w) : m * k + (-(m * k * D) - m * k * (m * k) * t + m * m * p) * v - m * m * s = m * m * (-s + p * v - k * w - k * k * t * v) := by
  grind
/-- the state of the lifting: m the modulus, r the root, v the inverse of the slope -/
structure Lft (f : Nat → Int) (N : Nat) (m r v : Int) : Prop where
  m2 : 2 ≤ m
  r0 : 0 ≤ r
  r1 : r < m
  a : m ∣ e1 f r (N + 1)
  b : m ∣ v * e1 (dv f) r N - 1
theorem Lft.step {f : Nat → Int} {N : Nat} {m r v F r2 G v2 : Int} (L : Lft f N m r v) (hF : m * m ∣ F - e1 f r (N + 1)) (e2 : r2 = (r - F * v) % (m * m)) (hG : m * m ∣ G - e1 (dv f) r2 N) (e3 : v2 = v * (2 - G * v) % (m * m)) : Lft f N (m * m) r2 v2 ∧ (m ∣ r2 - r) ∧ ∀ z : Int, e1 f z (N + 1) = 0 → m ∣ z - r → m * m ∣ z - r2 := by
  have m2 := L.m2
  have M0 : 0 < m * m := Int.mul_pos (by omega) (by omega)
  have M2 : 2 ≤ m * m := by
    have : 2 * 2 ≤ m * m := Int.mul_le_mul m2 m2 (by decide) (by omega)
    omega
  have mM : m ∣ m * m := ⟨m, rfl⟩
  obtain ⟨p, hp⟩ := hF
  obtain ⟨q, hq⟩ := L.a
  obtain ⟨w, hw⟩ := L.b
  have d2 : m * m ∣ r2 - (r - F * v) := by
    rw [e2]
    have := Int.emod_add_mul_ediv (r - F * v) (m * m)
    exact ⟨-((r - F * v) / (m * m)), by rw [Int.mul_neg]; omega⟩
  obtain ⟨s, hs⟩ := d2
  have mr : m ∣ r2 - r := ⟨m * s - (q + m * p) * v, by grind⟩
  -- the value at the new root
  obtain ⟨t, ht⟩ := tay f r (-(F * v)) N
  have a2 : m * m ∣ e1 f r2 (N + 1) := by
    have c := e1_mod f (m := m * m) (x := r2) (y := r + -(F * v)) ⟨s, by rw [← hs]; omega⟩ (N + 1)
    have k : m * m ∣ e1 f (r + -(F * v)) (N + 1) := by
      rw [ht, hq]
      exact ⟨_, lift_a (w := w) (p := p) (by omega) (by omega)⟩
    have := Int.dvd_add c k
    rwa [Int.sub_add_cancel] at this
  have dd := e1_mod (dv f) mr N
  obtain ⟨u, hu⟩ := dd
  obtain ⟨g, hg⟩ := hG
  have b2 : m * m ∣ v2 * e1 (dv f) r2 N - 1 := by
    have d3 : m * m ∣ v2 - v * (2 - G * v) := by
      rw [e3]
      have := Int.emod_add_mul_ediv (v * (2 - G * v)) (m * m)
      exact ⟨-(v * (2 - G * v) / (m * m)), by rw [Int.mul_neg]; omega⟩
    obtain ⟨y, hy⟩ := d3
    -- 1 - v F'2 = - m (w + v u)
    have h1 : v * e1 (dv f) r2 N - 1 = m * (w + v * u) := by
      have : e1 (dv f) r2 N = e1 (dv f) r N + m * u := by omega
      rw [this, Int.mul_add, Int.mul_add, ← hw]
      have : v * (m * u) = m * (v * u) := by rw [← Int.mul_assoc, Int.mul_comm v m, Int.mul_assoc]
      omega
    have h2 : v2 = v * (2 - G * v) + m * m * y := by omega
    rw [h2]
    exact ⟨_, lift_b (g := g) h1 (by omega)⟩
  refine ⟨⟨M2, by rw [e2]; exact Int.emod_nonneg _ (by omega), by rw [e2]; exact Int.emod_lt_of_pos _ M0, a2, b2⟩, mr, fun z hz hzr => ?_⟩
  obtain ⟨k, hk⟩ := hzr
  obtain ⟨t2, ht2⟩ := tay f r (z - r) N
  rw [show r + (z - r) = z by omega, hz] at ht2
  -- z - r2 = (z - r) + F v - m m s
  have e5 : z - r2 = (z - r) + F * v - m * m * s := by omega
  have e6 : F = e1 f r (N + 1) + m * m * p := by omega
  have e7 : e1 f r (N + 1) = -((z - r) * e1 (dv f) r N) - (z - r) * (z - r) * t2 := by omega
  rw [e5, e6, e7, hk]
  exact ⟨_, lift_c (w := w) (by omega)⟩
/-- Cauchy's bound -/
theorem cauchy {f : Nat → Int} {n H : Nat} (d : Dg f n) (hH : ∀ i, (f i).natAbs ≤ H) {z : Int} (hz : e1 f z (n + 1) = 0) : z.natAbs ≤ H / (f n).natAbs + 1 := by
  have f0 : 0 < (f n).natAbs := by have := d.top; omega
  by_cases c : z.natAbs ≤ 1
  · exact Nat.le_trans c (Nat.le_add_left 1 _)
  · have l := e1_le (f := f) (h := z) (x := z.natAbs) hH (Nat.le_refl _) n
    have e : e1 f z n = -(f n * z ^ n) := by
      have : e1 f z n + f n * z ^ n = 0 := hz
      omega
    rw [e, Int.natAbs_neg, Int.natAbs_mul, Int.natAbs_pow] at l
    have g := sg_eq (x := z.natAbs) (by omega) n
    obtain ⟨x, hx⟩ : ∃ x, z.natAbs = x + 1 := ⟨z.natAbs - 1, by omega⟩
    rw [hx] at l g ⊢
    rw [Nat.add_sub_cancel] at g
    have P0 : 0 < (x + 1) ^ n := Nat.pow_pos (by omega)
    generalize (x + 1) ^ n = P at l g P0
    -- x f P ≤ x H sg = H (P - 1) < H P
    have q1 : x * ((f n).natAbs * P) ≤ x * (H * sg (x + 1) n) := Nat.mul_le_mul_left _ l
    have q2 : x * (H * sg (x + 1) n) = H * (x * sg (x + 1) n) := by rw [← Nat.mul_assoc, Nat.mul_comm x H, Nat.mul_assoc]
    have q3 : H * (x * sg (x + 1) n) + H = H * P := by rw [← g, Nat.mul_add, Nat.mul_one]
    have q4 : x * (f n).natAbs * P ≤ H * P := by rw [Nat.mul_assoc]; omega
    have q5 : x * (f n).natAbs ≤ H := Nat.le_of_mul_le_mul_right q4 P0
    have q6 : x ≤ H / (f n).natAbs := (Nat.le_div_iff_mul_le f0).mpr q5
    omega
/-- the end of the lifting -/
theorem lift_end {m r z : Int} {B : Nat} (r0 : 0 ≤ r) (r1 : r < m) (h : m ∣ z - r) (hB : z.natAbs ≤ B) (hm : 2 * (B : Int) < m) : z = if 2 * r < m then r else r - m := by
  obtain ⟨k, hk⟩ := h
  have b1 : -(B : Int) ≤ z := by omega
  have b2 : z ≤ (B : Int) := by omega
  have m0 : 0 < m := by omega
  have k0 : k = 0 ∨ k = -1 := by
    by_cases c : k ≤ -2
    · exfalso
      have : m * k ≤ m * (-2) := Int.mul_le_mul_of_nonneg_left c (by omega)
      omega
    · by_cases c2 : 1 ≤ k
      · exfalso
        have : m * 1 ≤ m * k := Int.mul_le_mul_of_nonneg_left c2 (by omega)
        omega
      · omega
  rcases k0 with k0 | k0
  · rw [k0] at hk
    rw [if_pos (by omega)]
    omega
  · rw [k0] at hk
    rw [if_neg (by omega)]
    omega
/-! ### derivatives, roots of a product -/
def PS.d (a : PS) : PS := ⟨dv a.f⟩
theorem PS.d_mul (a b : PS) : (a * b).d = a.d * b + a * b.d := PS.ext (funext fun i => dv_cf a.f b.f i)
theorem PS.d_add (a b : PS) : (a + b).d = a.d + b.d := PS.ext (funext fun i => Int.mul_add _ _ _)
theorem PS.d_pc (c : Int) : (pc c).d = 0 := PS.ext (funext fun i => by
  rw [ps_zero_f]
  show ((i : Int) + 1) * (c * xp 0 (i + 1)) = 0
  rw [show xp 0 (i + 1) = 0 from if_neg (by omega)]
  simp)
theorem dv_fz {f : Nat → Int} {N : Nat} (h : Fz f (N + 1)) : Fz (dv f) N := fun i hi => by
  show ((i : Int) + 1) * f (i + 1) = 0
  rw [h _ (by omega), Int.mul_zero]
/-- x - z -/
def lin (z : Int) : PS := ⟨xp 1⟩ + pc (-z)
theorem lin_d (z : Int) : (lin z).d = 1 := by
  unfold lin
  rw [PS.d_add, PS.d_pc]
  refine PS.ext (funext fun i => ?_)
  show ((i : Int) + 1) * xp 1 (i + 1) + (0 : PS).f i = 1 * xp 0 i
  rw [ps_zero_f]
  unfold xp
  by_cases c : i = 0
  · subst c; rfl
  · rw [if_neg (by omega), if_neg c]; simp
theorem lin_mul (z : Int) (T : Nat → Int) (i : Nat) : (lin z * ⟨T⟩).f i = (if i = 0 then 0 else T (i - 1)) - z * T i := by
  show cf (fun i => xp 1 i + cst (-z) i) T i = _
  rw [cf_add_l, cf_xp, cst_cf]
  show (if 1 ≤ i then T (i - 1) else 0) + -z * T i = _
  rw [Int.neg_mul]
  by_cases c : i = 0
  · rw [if_neg (by omega), if_pos c]; omega
  · rw [if_pos (by omega), if_neg c]; omega
theorem lin_dg (z : Int) : Dg (lin z).f 1 := ⟨by show xp 1 1 + -z * xp 0 1 ≠ 0; unfold xp; simp, fun i hi => by
  show xp 1 i + -z * xp 0 i = 0
  unfold xp
  rw [if_neg (by omega), if_neg (by omega)]
  simp⟩
/-- the value at a number -/
def Ev (a : PS) (x v : Int) : Prop := ∃ N, Fz a.f N ∧ e1 a.f x N = v
theorem Ev.uniq {a : PS} {x v w : Int} (h : Ev a x v) (k : Ev a x w) : v = w := by
  obtain ⟨N, hN, e⟩ := h
  obtain ⟨M, hM, e2⟩ := k
  rw [← e, ← e2, ← e1_more hN (Nat.le_max_left N M), ← e1_more hM (Nat.le_max_right N M)]
theorem Ev.mul {a b : PS} {x v w : Int} (h : Ev a x v) (k : Ev b x w) : Ev (a * b) x (v * w) := by
  obtain ⟨N, hN, e⟩ := h
  obtain ⟨M, hM, e2⟩ := k
  exact ⟨N + M, hN.cf hM, by rw [← e, ← e2]; exact e1_cf hN hM⟩
theorem e1_plus (f g : Nat → Int) (x : Int) : ∀ N, e1 (fun i => f i + g i) x N = e1 f x N + e1 g x N
  | 0 => rfl
  | N + 1 => by
    show e1 (fun i => f i + g i) x N + (f N + g N) * x ^ N = e1 f x N + f N * x ^ N + (e1 g x N + g N * x ^ N)
    rw [e1_plus f g x N, Int.add_mul]
    omega
theorem Ev.add {a b : PS} {x v w : Int} (h : Ev a x v) (k : Ev b x w) : Ev (a + b) x (v + w) := by
  obtain ⟨N, hN, e⟩ := h
  obtain ⟨M, hM, e2⟩ := k
  refine ⟨max N M, (hN.mono (Nat.le_max_left _ _)).add (hM.mono (Nat.le_max_right _ _)), ?_⟩
  rw [← e, ← e2, ← e1_more hN (Nat.le_max_left N M), ← e1_more hM (Nat.le_max_right N M)]
  exact e1_plus _ _ _ _
theorem Ev.pc (c x : Int) : Ev (pc c) x c := ⟨1, cst_fz c, by show 0 + c * xp 0 0 * x ^ 0 = c; unfold xp; simp⟩
theorem Ev.lin (z : Int) : Ev (lin z) z 0 := ⟨2, (lin_dg z).up, by
  show 0 + (xp 1 0 + -z * xp 0 0) * z ^ 0 + (xp 1 1 + -z * xp 0 1) * z ^ 1 = 0
  unfold xp
  rw [Int.pow_zero, Int.pow_succ, Int.pow_zero]
  simp
  omega⟩
theorem Ev.ex {a : PS} {N : Nat} (h : Fz a.f N) (x : Int) : ∃ v, Ev a x v := ⟨_, N, h, rfl⟩
theorem Ev.of {a : PS} {N : Nat} (h : Fz a.f N) (x : Int) : Ev a x (e1 a.f x N) := ⟨N, h, rfl⟩
theorem pc_fz (c : Int) : Fz (CB.pc c).f 1 := cst_fz c
theorem ps_fz_mul {a b : PS} {N M : Nat} (h : Fz a.f N) (k : Fz b.f M) : Fz (a * b).f (N + M) := h.cf k
theorem ps_fz_add {a b : PS} {N M : Nat} (h : Fz a.f N) (k : Fz b.f M) : Fz (a + b).f (max N M) := (h.mono (Nat.le_max_left _ _)).add (k.mono (Nat.le_max_right _ _))
theorem ps_pw_succ (a : PS) (n : Nat) : a ^ (n + 1) = a ^ n * a := rfl
theorem ps_pw_zero (a : PS) : a ^ 0 = 1 := rfl
theorem ps_pw_dg {a : PS} {N : Nat} (h : Dg a.f N) : ∀ n : Nat, Dg (a ^ n).f (n * N)
  | 0 => by rw [Nat.zero_mul]; exact pc_dg (by decide)
  | n + 1 => by
    rw [Nat.succ_mul]
    exact (ps_pw_dg h n).cf h
theorem ps_d_pw (a : PS) : ∀ n : Nat, (a ^ (n + 1)).d = pc ((n : Int) + 1) * (a ^ n * a.d)
  | 0 => by
    rw [ps_pw_succ, ps_pw_zero]
    have : (1 : PS) * a = a := ps_one_mul a
    rw [this]
    have e : pc (((0 : Nat) : Int) + 1) = 1 := rfl
    rw [e]
    grind
  | n + 1 => by
    rw [ps_pw_succ, PS.d_mul, ps_d_pw a n, ps_pw_succ]
    have e : pc (((n + 1 : Nat) : Int) + 1) = pc ((n : Int) + 1) + 1 := by
      rw [show (((n + 1 : Nat) : Int) + 1) = ((n : Int) + 1) + 1 by omega, pc_add]
      rfl
    rw [e]
    grind
/-- the root's own powers taken out -/
theorem split_root (z : Int) : ∀ (N : Nat) (f : PS), Fz f.f N → (∃ i, f.f i ≠ 0) → ∃ (j : Nat) (h : PS) (M : Nat) (v : Int), f = lin z ^ j * h ∧ Fz h.f M ∧ Ev h z v ∧ v ≠ 0
  | 0, f, hf, ⟨i, hi⟩ => absurd (hf i (Nat.zero_le _)) hi
  | N + 1, f, hf, ne => by
    by_cases c : e1 f.f z (N + 1) = 0
    · obtain ⟨T, hT, _, e⟩ := syn2 z N f.f hf
      have ef : f = lin z * ⟨T⟩ := PS.ext (funext fun i => by rw [lin_mul, e i, c])
      have nT : ∃ i, T i ≠ 0 := Classical.byContradiction fun k => by
        obtain ⟨i, hi⟩ := ne
        apply hi
        rw [ef, lin_mul]
        have t0 : ∀ i, T i = 0 := fun i => Classical.byContradiction fun y => k ⟨i, y⟩
        rw [t0, t0]
        simp
      obtain ⟨j, h, M, v, e1_, h1, h2, h3⟩ := split_root z N ⟨T⟩ hT nT
      refine ⟨j + 1, h, M, v, ?_, h1, h2, h3⟩
      rw [ef, e1_, ps_pw_succ]
      grind
    · exact ⟨0, f, N + 1, _, by rw [ps_pw_zero]; exact (ps_one_mul f).symm, hf, Ev.of hf z, c⟩
/-- a root of p is one of p / gcd(p, p') -/
theorem root_kept {p g s q : PS} {c c' : Int} {Ng Ns Nq : Nat} (c0 : c ≠ 0) (c0' : c' ≠ 0) (fg : Fz g.f Ng) (fs : Fz s.f Ns) (fq : Fz q.f Nq) (gne : ∃ i, g.f i ≠ 0) (e : pc c * p = s * g) (e' : pc c' * p.d = q * g) {z : Int} (hz : Ev p z 0) : Ev s z 0 := by
  obtain ⟨sv, hs⟩ := Ev.ex fs z
  by_cases s0 : sv = 0
  · rw [← s0]; exact hs
  exfalso
  obtain ⟨j, h, M, v, eg, fh, hv, v0⟩ := split_root z Ng g fg gne
  match j with
  | 0 =>
    rw [ps_pw_zero, ps_one_mul] at eg
    have a := (Ev.pc c z).mul hz
    rw [e, eg] at a
    have b := a.uniq (hs.mul hv)
    rw [Int.mul_zero] at b
    rcases Int.mul_eq_zero.mp b.symm with y | y
    · exact s0 y
    · exact v0 y
  | j + 1 =>
    have d1 : (pc c * p).d = pc c * p.d := by rw [PS.d_mul, PS.d_pc]; grind
    rw [e, PS.d_mul] at d1
    have d2 := ps_d_pw (lin z) j
    rw [lin_d] at d2
    have d3 : g.d = pc ((j : Int) + 1) * (lin z ^ j * 1) * h + lin z ^ (j + 1) * h.d := by rw [eg, PS.d_mul, d2]
    have k : lin z ^ j * (pc c' * s * (pc ((j : Int) + 1) * h + lin z * h.d)) = lin z ^ j * (lin z * h * (pc c * q - pc c' * s.d)) := by
      have k1 : pc c' * (s * g.d) = g * (pc c * q - pc c' * s.d) := by grind
      rw [d3] at k1
      rw [eg, ps_pw_succ] at k1
      grind
    have fL := (lin_dg z).up
    have fhd : Fz h.d.f M := fun i hi => by
      show ((i : Int) + 1) * h.f (i + 1) = 0
      rw [fh _ (by omega), Int.mul_zero]
    have fsd : Fz s.d.f Ns := fun i hi => by
      show ((i : Int) + 1) * s.f (i + 1) = 0
      rw [fs _ (by omega), Int.mul_zero]
    have f1 := ps_fz_mul (ps_fz_mul (pc_fz c') fs) (ps_fz_add (ps_fz_mul (pc_fz ((j : Int) + 1)) fh) (ps_fz_mul fL fhd))
    have f2 : Fz (pc c * q - pc c' * s.d).f (max (1 + Nq) (1 + Ns)) := fun i hi => by
      show (pc c * q).f i + -(pc c' * s.d).f i = 0
      rw [(ps_fz_mul (pc_fz c) fq) i (by omega), (ps_fz_mul (pc_fz c') fsd) i (by omega)]
      rfl
    have f3 := ps_fz_mul (ps_fz_mul fL fh) f2
    have k2 := PS.cancel (ps_pw_dg (lin_dg z) j) f1 f3 k
    obtain ⟨w1, hw1⟩ := Ev.ex fhd z
    obtain ⟨w2, hw2⟩ := Ev.ex f2 z
    have a := (((Ev.pc c' z).mul hs).mul (((Ev.pc ((j : Int) + 1) z).mul hv).add ((Ev.lin z).mul hw1)))
    have b := (((Ev.lin z).mul hv).mul hw2)
    rw [k2] at a
    have u := a.uniq b
    rw [Int.zero_mul, Int.zero_mul, Int.zero_mul, Int.add_zero] at u
    rcases Int.mul_eq_zero.mp u with y | y
    · rcases Int.mul_eq_zero.mp y with y | y
      · exact c0' y
      · exact s0 y
    · rcases Int.mul_eq_zero.mp y with y | y
      · omega
      · exact v0 y
end CB

namespace CB
open PySem PySem.Spec PyProof.Rows L2
/-! ### p / gcd(p, p') has no factor twice -/
theorem least_nat {P : Nat → Prop} (h : ∃ n, P n) : ∃ n, P n ∧ ∀ m, P m → n ≤ m := by
  obtain ⟨n, hn⟩ := h
  induction n using Nat.strongRecOn with
  | ind n ih =>
    by_cases c : ∃ m, m < n ∧ P m
    · obtain ⟨m, hm, pm⟩ := c
      exact ih m hm pm
    · exact ⟨n, hn, fun m pm => Decidable.byContradiction fun k => c ⟨m, by omega, pm⟩⟩
/-- Dv in the ring -/
theorem Dv.ps {d p : PS} (h : Dv d.f p.f) : ∃ (c : Int) (s : PS) (N : Nat), c ≠ 0 ∧ Fz s.f N ∧ pc c * p = s * d := by
  obtain ⟨m, s, N, m0, hs, e⟩ := h
  refine ⟨m, ⟨s⟩, N, m0, hs, PS.ext (funext fun i => ?_)⟩
  show cf (cst m) p.f i = cf s d.f i
  rw [cst_cf]
  exact e i
theorem Dv.of_ps {d p s : PS} {c : Int} {N : Nat} (c0 : c ≠ 0) (fs : Fz s.f N) (e : pc c * p = s * d) : Dv d.f p.f := ⟨c, s.f, N, c0, fs, fun i => by
  have z := congrFun (congrArg PS.f e) i
  have z2 : cf (cst c) p.f i = cf s.f d.f i := z
  rw [cst_cf] at z2
  exact z2⟩
/-- a divisor of one degree: both divide each other -/
theorem Dv.back {d p : Nat → Int} {n : Nat} (h : Dv d p) (dd : Dg d n) (dp : Dg p n) : Dv p d := by
  obtain ⟨c, s, M, c0, hs, es⟩ := h
  rcases zero_or_dg M hs with z | ⟨j, _, dj⟩
  · exfalso
    have y := es n
    rw [cf_zero_l z] at y
    rcases Int.mul_eq_zero.mp y with y | y
    · exact c0 y
    · exact dp.top y
  · have jd := dj.cf dd
    have ja : Dg (cf s d) n := ⟨by rw [← es]; exact Int.mul_ne_zero c0 dp.top, fun i hi => by rw [← es, dp.up i hi, Int.mul_zero]⟩
    have := jd.uniq ja
    have j0 : j = 0 := by omega
    subst j0
    have sc : ∀ i, s i = s 0 * xp 0 i := fun i => by
      by_cases z : i = 0
      · subst z
        show s 0 = s 0 * 1
        omega
      · rw [dj.up i (by omega)]
        show 0 = s 0 * (if i = 0 then 1 else 0)
        rw [if_neg z]; omega
    refine ⟨s 0, fun i => c * xp 0 i, 1, dj.top, (xp_fz 0).scale c, fun i => ?_⟩
    rw [cf_scale_l, cf_one, es, cf_congr sc (fun _ => rfl) i, cf_scale_l, cf_one]
theorem bt_fz {f : Nat → Int} : ∀ N, Fz f N → ∃ k, Bt k f
  | 0, h => ⟨0, fun i => by rw [h i (Nat.zero_le _)]; decide⟩
  | N + 1, h => by
    obtain ⟨k, hk⟩ := bt_fz (f := fun i => if i < N then f i else 0) N (fun i hi => if_neg (by omega))
    refine ⟨max k (f N).natAbs, fun i => ?_⟩
    by_cases c : i < N
    · have : (if i < N then f i else 0).natAbs < 2 ^ k := hk i
      rw [if_pos c] at this
      exact Nat.lt_of_lt_of_le this (Nat.pow_le_pow_right (by decide) (Nat.le_max_left _ _))
    · by_cases c2 : i = N
      · subst c2
        exact Nat.lt_of_lt_of_le Nat.lt_two_pow_self (Nat.pow_le_pow_right (by decide) (Nat.le_max_right _ _))
      · rw [h i (by omega)]
        exact Nat.pow_pos (by decide)
/-- any two have a greatest common divisor -/
theorem euc_ex {A B : Nat → Int} {a b : Nat} (dA : Dg A a) (dB : Dg B b) : ∃ e m, Euc A B e ∧ Dg e m := by
  obtain ⟨k, hk⟩ := bt_fz _ dA.up
  obtain ⟨l, hl⟩ := bt_fz _ dB.up
  obtain ⟨e, _, E, ⟨m, _, D⟩, _, _⟩ := euclid _ dA dB (Nat.le_refl _) hk hl
  exact ⟨e, m, E, D⟩
/-- of least degree: it divides a polynomial or has nothing in common with it -/
structure Irr (d : PS) (m : Nat) : Prop where
  dg : Dg d.f m
  m1 : 1 ≤ m
  min : ∀ e k, Dg e k → Dv e d.f → 1 ≤ k → m ≤ k
theorem Irr.two {d : PS} {m : Nat} (h : Irr d m) {a : PS} {N : Nat} (fa : Fz a.f N) : Dv d.f a.f ∨ ∃ (c : Int) (u v : PS) (M : Nat), c ≠ 0 ∧ Fz u.f M ∧ Fz v.f M ∧ pc c = u * d + v * a := by
  rcases zero_or_dg N fa with z | ⟨k, _, da⟩
  · exact .inl (Dv.zero z)
  · obtain ⟨e, n, E, D⟩ := euc_ex h.dg da
    by_cases n0 : n = 0
    · subst n0
      right
      obtain ⟨u, v, M, hu, hv, c⟩ := E.comb
      refine ⟨e 0, ⟨u⟩, ⟨v⟩, M, D.top, hu, hv, PS.ext (funext fun i => ?_)⟩
      show e 0 * xp 0 i = cf u d.f i + cf v a.f i
      rw [← c]
      by_cases z : i = 0
      · subst z
        show e 0 * 1 = e 0
        omega
      · rw [D.up i (by omega)]
        show e 0 * (if i = 0 then 1 else 0) = 0
        rw [if_neg z]; omega
    · left
      have mn := h.min e n D E.da (by omega)
      have nm := E.da.deg D h.dg
      have : n = m := by omega
      subst this
      exact (E.da.back D h.dg).trans E.db
/-- and so it is prime -/
theorem Irr.prime {d : PS} {m : Nat} (h : Irr d m) {a b : PS} {N M : Nat} (fa : Fz a.f N) (fb : Fz b.f M) (hd : Dv d.f (a * b).f) : Dv d.f a.f ∨ Dv d.f b.f := by
  rcases h.two fa with z | ⟨c, u, v, L, c0, fu, fv, e⟩
  · exact .inl z
  · right
    obtain ⟨k, s, K, k0, fs, es⟩ := hd.ps
    refine Dv.of_ps (c := k * c) (s := pc k * (u * b) + v * s) (N := max (1 + (L + M)) (L + K)) (Int.mul_ne_zero k0 c0) (ps_fz_add (ps_fz_mul (pc_fz k) (ps_fz_mul fu fb)) (ps_fz_mul fv fs)) ?_
    rw [pc_mul]
    grind
theorem dv_dg {f : Nat → Int} {n : Nat} (h : Dg f (n + 1)) : Dg (dv f) n := ⟨by
  show ((n : Int) + 1) * f (n + 1) ≠ 0
  exact Int.mul_ne_zero (by omega) h.top, dv_fz h.up⟩
/-- it does not divide its derivative -/
theorem Irr.slope {d : PS} {m : Nat} (h : Irr d m) : ¬ Dv d.f d.d.f := fun z => by
  obtain ⟨n, rfl⟩ : ∃ n, m = n + 1 := ⟨m - 1, by have := h.m1; omega⟩
  have := z.deg h.dg (dv_dg h.dg)
  omega
theorem irr_ex {e : Nat → Int} {n : Nat} (D : Dg e n) (n1 : 1 ≤ n) : ∃ (d : PS) (m : Nat), Irr d m ∧ Dv d.f e := by
  obtain ⟨m, ⟨d, dd, de, m1⟩, mn⟩ := least_nat (P := fun m => ∃ d, Dg d m ∧ Dv d e ∧ 1 ≤ m) ⟨n, e, D, Dv.refl e, n1⟩
  exact ⟨⟨d⟩, m, ⟨dd, m1, fun e' k dk h k1 => mn k ⟨e', dk, h.trans de, k1⟩⟩, de⟩
/-- its powers taken out -/
theorem Irr.split {d : PS} {m : Nat} (h : Irr d m) : ∀ (N : Nat) (g : PS), Fz g.f N → (∃ i, g.f i ≠ 0) → ∃ (c : Int) (j : Nat) (r : PS) (M : Nat), c ≠ 0 ∧ Fz r.f M ∧ pc c * g = d ^ j * r ∧ ¬ Dv d.f r.f := fun N => by
  induction N using Nat.strongRecOn with
  | ind N ih =>
    intro g fg ne
    by_cases c : Dv d.f g.f
    · obtain ⟨k, s, K, k0, fs, es⟩ := c.ps
      have gd : ∃ n, n < N ∧ Dg g.f n := by
        rcases zero_or_dg N fg with z | ⟨n, hn, D⟩
        · obtain ⟨i, hi⟩ := ne
          exact absurd (z i) hi
        · exact ⟨n, hn, D⟩
      obtain ⟨n, nN, D⟩ := gd
      have sd : ∃ t, Dg s.f t := by
        rcases zero_or_dg K fs with z | ⟨t, _, D2⟩
        · exfalso
          have y := congrFun (congrArg PS.f es) n
          have y2 : cf (cst k) g.f n = cf s.f d.f n := y
          rw [cst_cf, cf_zero_l z] at y2
          rcases Int.mul_eq_zero.mp y2 with y | y
          · exact k0 y
          · exact D.top y
        · exact ⟨t, D2⟩
      obtain ⟨t, D2⟩ := sd
      have dk : Dg (pc k * g).f n := by
        have := (pc_dg k0).cf D
        rw [Nat.zero_add] at this
        exact this
      rw [es] at dk
      have := (D2.cf h.dg).uniq dk
      have m1 := h.m1
      obtain ⟨c2, j, r, M, c20, fr, er, nr⟩ := ih (t + 1) (by omega) s D2.up ⟨t, D2.top⟩
      refine ⟨c2 * k, j + 1, r, M, Int.mul_ne_zero c20 k0, fr, ?_, nr⟩
      rw [pc_mul, ps_pw_succ]
      grind
    · exact ⟨1, 0, g, N, by decide, fg, by rw [ps_pw_zero]; rfl, c⟩
theorem Irr.not_pow {d : PS} {m : Nat} (h : Irr d m) {c : Int} {j : Nat} {g r q : PS} {M K : Nat} {k : Int} (fr : Fz r.f M) (fq : Fz q.f K) (c0 : c ≠ 0) (k0 : k ≠ 0) (e : pc c * g = d ^ j * r) (e2 : pc k * g = q * d ^ (j + 1)) (nr : ¬ Dv d.f r.f) : False := by
  apply nr
  have e3 : d ^ j * (pc k * r) = d ^ j * (pc c * (q * d)) := by
    rw [ps_pw_succ] at e2
    grind
  have e4 := PS.cancel (ps_pw_dg h.dg j) (ps_fz_mul (pc_fz k) fr) (ps_fz_mul (pc_fz c) (ps_fz_mul fq h.dg.up)) e3
  exact Dv.of_ps (c := k) (s := pc c * q) k0 (ps_fz_mul (pc_fz c) fq) (by rw [e4]; grind)
/-- p / gcd(p, p') and its derivative have nothing in common -/
theorem sqf {p g s : PS} {c : Int} {n Ns Np : Nat} {E0 : Nat → Int} {m0 : Nat} (c0 : c ≠ 0) (dg : Dg g.f n) (fs : Fz s.f Ns) (fp : Fz p.f Np) (pne : ∃ i, p.f i ≠ 0) (e : pc c * p = s * g) (max : ∀ D, Dv D p.f → Dv D p.d.f → Dv D g.f) (hE : Euc s.f s.d.f E0) (hD : Dg E0 m0) : m0 = 0 := by
  refine Decidable.byContradiction fun m1 => ?_
  obtain ⟨d, m, I, de⟩ := irr_ex hD (by omega)
  have ds := de.trans hE.da
  have ds' := de.trans hE.db
  obtain ⟨k, s1, K, k0, f1, e1_⟩ := ds.ps
  -- d divides s1 too
  have fsd : Fz s.d.f Ns := fun i hi => by
    show ((i : Int) + 1) * s.f (i + 1) = 0
    rw [fs _ (by omega), Int.mul_zero]
  have f1d : Fz s1.d.f K := fun i hi => by
    show ((i : Int) + 1) * s1.f (i + 1) = 0
    rw [f1 _ (by omega), Int.mul_zero]
  have fdd : Fz d.d.f (m + 1) := fun i hi => by
    show ((i : Int) + 1) * d.f (i + 1) = 0
    rw [I.dg.up _ (by omega), Int.mul_zero]
  have der : pc k * s.d = s1.d * d + s1 * d.d := by
    have a : (pc k * s).d = pc k * s.d := by rw [PS.d_mul, PS.d_pc]; grind
    rw [← a, e1_, PS.d_mul]
  have d11 : Dv d.f (s1 * d.d).f := by
    obtain ⟨l, t, L, l0, ft, et⟩ := ds'.ps
    refine Dv.of_ps (c := l) (s := pc k * t - pc l * s1.d) (N := Nat.max (1 + L) (1 + K)) l0 (fun i hi => by
      show (pc k * t).f i + -(pc l * s1.d).f i = 0
      rw [(ps_fz_mul (pc_fz k) ft) i (Nat.le_trans (Nat.le_max_left _ _) hi), (ps_fz_mul (pc_fz l) f1d) i (Nat.le_trans (Nat.le_max_right _ _) hi)]
      rfl) ?_
    grind
  have d1 : Dv d.f s1.f := (I.prime f1 fdd d11).resolve_right I.slope
  obtain ⟨k2, s2, K2, k20, f2, e2_⟩ := d1.ps
  -- g's power of d
  obtain ⟨c2, j, r, M, c20, fr, er, nr⟩ := I.split _ g dg.up ⟨n, dg.top⟩
  -- d ^ (j + 1) divides p and p'
  have fpw := (ps_pw_dg I.dg (j + 1)).up
  have fpj := (ps_pw_dg I.dg j).up
  have ep : pc (c2 * (k2 * k) * c) * p = (s2 * r * d) * d ^ (j + 1) := by
    rw [pc_mul, pc_mul, pc_mul, ps_pw_succ]
    grind
  have fY : Fz (s2 * r * d).f (K2 + M + (m + 1)) := ps_fz_mul (ps_fz_mul f2 fr) I.dg.up
  have C0 : c2 * (k2 * k) * c ≠ 0 := Int.mul_ne_zero (Int.mul_ne_zero c20 (Int.mul_ne_zero k20 k0)) c0
  have dp : Dv (d ^ (j + 1)).f p.f := Dv.of_ps C0 fY ep
  have fYd : Fz (s2 * r * d).d.f (K2 + M + (m + 1)) := fun i hi => by
    show ((i : Int) + 1) * (s2 * r * d).f (i + 1) = 0
    rw [fY _ (by omega), Int.mul_zero]
  have fW : Fz (s2 * r).f (K2 + M) := ps_fz_mul f2 fr
  have dp' : Dv (d ^ (j + 1)).f p.d.f := by
    have a : (pc (c2 * (k2 * k) * c) * p).d = pc (c2 * (k2 * k) * c) * p.d := by rw [PS.d_mul, PS.d_pc]; grind
    rw [ep, PS.d_mul, ps_d_pw] at a
    refine Dv.of_ps (c := c2 * (k2 * k) * c) (s := (s2 * r * d).d + pc ((j : Int) + 1) * (s2 * r * d.d)) (N := Nat.max (K2 + M + (m + 1)) (1 + (K2 + M + (m + 1)))) C0 (ps_fz_add fYd (ps_fz_mul (pc_fz _) (ps_fz_mul fW fdd))) ?_
    rw [← a, ps_pw_succ]
    grind
  obtain ⟨k3, q, K3, k30, fq, eq⟩ := (max _ dp dp').ps
  exact I.not_pow fr fq c20 k30 er eq nr
end CB

namespace CB
open PySem PySem.Spec PyProof.Rows L2
/-! ### enough primes -/
def noSmall (n : Nat) : Bool := (List.range 60).all fun q => decide (q < 2) || decide (n < q * q) || decide (n % q ≠ 0)
theorem pr_noSmall {n : Nat} (h2 : 2 ≤ n) (h : n < 3600) (s : noSmall n = true) : Pr n := pr_of_min h2 fun q q2 ⟨r, hr⟩ => by
  have all := List.all_eq_true.mp s
  have bad : ∀ t, 2 ≤ t → t < 60 → t * t ≤ n → ¬ t ∣ n := fun t t2 t60 tt d => by
    have z := all t (List.mem_range.mpr t60)
    have m0 : n % t = 0 := Nat.mod_eq_zero_of_dvd d
    rw [decide_eq_false (show ¬ t < 2 by omega), decide_eq_false (show ¬ n < t * t by omega), decide_eq_false (show ¬ n % t ≠ 0 by omega)] at z
    exact Bool.noConfusion z
  refine Decidable.byContradiction fun ne => ?_
  have r0 : r ≠ 0 := fun z => by rw [z, Nat.mul_zero] at hr; omega
  have r1 : r ≠ 1 := fun z => by rw [z, Nat.mul_one] at hr; omega
  by_cases c : q ≤ r
  · have l : q * q ≤ n := by rw [hr]; exact Nat.mul_le_mul_left _ c
    refine bad q q2 (Decidable.byContradiction fun k => ?_) l ⟨r, hr⟩
    have : 60 * 60 ≤ q * q := Nat.mul_le_mul (by omega) (by omega)
    omega
  · have l : r * r ≤ n := by rw [hr]; exact Nat.mul_le_mul_right _ (by omega)
    refine bad r (by omega) (Decidable.byContradiction fun k => ?_) l ⟨q, by rw [hr, Nat.mul_comm]⟩
    have : 60 * 60 ≤ r * r := Nat.mul_le_mul (by omega) (by omega)
    omega
def prsL : List Nat := (List.range 3600).filter fun n => decide (53 ≤ n) && noSmall n
def prodL : List Nat → Nat
  | [] => 1
  | p :: r => p * prodL r
theorem prsL_big : 2 ^ 4700 < prodL prsL := by decide +kernel
theorem prsL_pr {p : Nat} (h : p ∈ prsL) : Pr p ∧ 53 ≤ p ∧ p < 3600 := by
  obtain ⟨h1, h2⟩ := List.mem_filter.mp h
  have l := List.mem_range.mp h1
  obtain ⟨h3, h4⟩ := Bool.and_eq_true_iff.mp h2
  have := of_decide_eq_true h3
  exact ⟨pr_noSmall (by omega) l h4, this, l⟩
theorem prsL_nodup : prsL.Nodup := List.nodup_range.filter _
theorem Pr.dvd {p : Nat} (h : Pr p) (a b : Nat) (d : p ∣ a * b) : p ∣ a ∨ p ∣ b := by
  have z := h.mul (a : Int) (b : Int) (by rw [← Int.natCast_mul]; exact Int.natCast_dvd_natCast.mpr d)
  rcases z with z | z
  · exact .inl (Int.natCast_dvd_natCast.mp z)
  · exact .inr (Int.natCast_dvd_natCast.mp z)
theorem pr_dvd {p q : Nat} (hp : Pr p) (hq : Pr q) (h : p ∣ q) : p = q := by
  obtain ⟨r, hr⟩ := h
  have z := hq.dvd p r (by rw [← hr]; exact Nat.dvd_refl q)
  have p2 := hp.two
  have q2 := hq.two
  rcases z with z | z
  · exact Nat.dvd_antisymm ⟨r, hr⟩ z
  · obtain ⟨t, ht⟩ := z
    exfalso
    have r0 : 0 < r := Nat.pos_of_ne_zero fun w => by rw [w, Nat.mul_zero] at hr; omega
    rw [ht, ← Nat.mul_assoc, Nat.mul_comm p q, Nat.mul_assoc] at hr
    have : q * (p * t) = q * 1 := by rw [Nat.mul_one]; exact hr.symm
    have e := Nat.eq_of_mul_eq_mul_left (by omega) this
    have : p ∣ 1 := ⟨t, e.symm⟩
    have := Nat.dvd_one.mp this
    omega
theorem pr_prod {p : Nat} (hp : Pr p) : ∀ L : List Nat, (∀ q ∈ L, Pr q) → p ∣ prodL L → p ∈ L
  | [], _, h => by
    have := Nat.dvd_one.mp h
    have := hp.two
    omega
  | q :: r, hl, h => by
    rcases hp.dvd q (prodL r) h with z | z
    · rw [pr_dvd hp (hl q (List.mem_cons_self ..)) z]
      exact List.mem_cons_self ..
    · exact List.mem_cons_of_mem _ (pr_prod hp r (fun q hq => hl q (List.mem_cons_of_mem _ hq)) z)
theorem prod_dvd {R : Nat} : ∀ L : List Nat, L.Nodup → (∀ q ∈ L, Pr q) → (∀ q ∈ L, q ∣ R) → prodL L ∣ R
  | [], _, _, _ => Nat.one_dvd R
  | q :: r, nd, hl, hd => by
    have nd2 := List.nodup_cons.mp nd
    obtain ⟨t, ht⟩ := prod_dvd r nd2.2 (fun q hq => hl q (List.mem_cons_of_mem _ hq)) (fun q hq => hd q (List.mem_cons_of_mem _ hq))
    have hq := hl q (List.mem_cons_self ..)
    have d := hd q (List.mem_cons_self ..)
    rw [ht] at d
    rcases hq.dvd _ _ d with z | ⟨s, hs⟩
    · exact absurd (pr_prod hq r (fun q hq => hl q (List.mem_cons_of_mem _ hq)) z) nd2.1
    · exact ⟨s, by rw [ht, hs]; show prodL r * (q * s) = q * prodL r * s; rw [← Nat.mul_assoc, Nat.mul_comm (prodL r) q]⟩
/-- not all of them are bad -/
theorem prsL_some {R : Nat} (R0 : 0 < R) (hR : R < 2 ^ 4700) : ∃ p ∈ prsL, ¬ p ∣ R := Classical.byContradiction fun c => by
  have d := prod_dvd prsL prsL_nodup (fun q hq => (prsL_pr hq).1) fun q hq => Classical.byContradiction fun k => c ⟨q, hq, k⟩
  have := Nat.le_of_dvd R0 d
  have := prsL_big
  omega
end CB

namespace CB
open PySem PySem.Spec PyProof.Rows L2 PySem.W
/-! ### min(.., default=d) -/
theorem minOf_spec : ∀ (xs : List Int) (x : Int), minOf x xs ∈ x :: xs ∧ ∀ y ∈ x :: xs, minOf x xs ≤ y
  | [], x => ⟨by simp [minOf], fun y hy => by rw [List.mem_singleton.mp hy]; exact Int.le_refl _⟩
  | z :: r, x => by
    have e : minOf x (z :: r) = minOf (if DatumOrd.lt z x = true then z else x) r := rfl
    rw [e]
    have d : DatumOrd.lt z x = decide (z < x) := rfl
    rw [d]
    by_cases c : z < x
    · rw [decide_eq_true c, if_pos rfl]
      obtain ⟨h1, h2⟩ := minOf_spec r z
      refine ⟨List.mem_cons_of_mem _ h1, fun y hy => ?_⟩
      rcases List.mem_cons.mp hy with rfl | hy
      · exact Int.le_trans (h2 z (List.mem_cons_self ..)) (Int.le_of_lt c)
      · exact h2 y hy
    · rw [decide_eq_false c, if_neg (by decide)]
      obtain ⟨h1, h2⟩ := minOf_spec r x
      refine ⟨?_, fun y hy => ?_⟩
      · rcases List.mem_cons.mp h1 with h | h
        · rw [h]; exact List.mem_cons_self ..
        · exact List.mem_cons_of_mem _ (List.mem_cons_of_mem _ h)
      · rcases List.mem_cons.mp hy with rfl | hy
        · exact h2 y (List.mem_cons_self ..)
        · rcases List.mem_cons.mp hy with rfl | hy
          · exact Int.le_trans (h2 x (List.mem_cons_self ..)) (by omega)
          · exact h2 y (List.mem_cons_of_mem _ hy)
section
variable {X : Cx}
def rMinD (K : PySem.W.Frag) : List V → List V → Hp → VK → Prop := fun vs zs H Q => ∃ (a : Addr) (ns : List Int) (d : Int), vs = [V.ref a] ∧ zs = [V.int d] ∧ SqL K H a (ns.map V.int) ∧ (ns = [] → Q (.int d) H) ∧ ∀ m, m ∈ ns → (∀ y, y ∈ ns → m ≤ y) → Q (.int m) H
theorem cr_minD (hc : X.calm = true) (hu : X.A.units + 64 < cLine) : CallRK X (.builtin "min") [Str.ofString "default"] (rMinD X.K) := by
  intro pins s σ H vs zs us ws Q I r rz h
  obtain ⟨a, ns, d, rfl, rfl, hs, h0, q⟩ := h
  obtain ⟨its, rv, hl, _⟩ := I.list hs
  rw [Vals.ref1 r]
  cases rz with
  | cons r1 r2 =>
    cases r2
    obtain ⟨t, rfl⟩ := r1
    refine min_list_datum_default (α := Int) (xs := ns) (I.ok.hd hc) hl.isList (by rw [List.toList_toArray]; exact HoldAll.of_ints rv.ints) (by show X.A.units + 1 + 0 < cLine; omega) (fun e h' tk hk => ?_) (fun y ys i v h' tk e hi hv hk => ?_)
    · exact ⟨.int _, H, I.kept hk, ⟨_, rfl⟩, h0 e⟩
    · obtain ⟨t, rfl⟩ := holds_int_is hv
      subst e
      obtain ⟨h1, h2⟩ := minOf_spec ys y
      exact ⟨.int _, H, I.kept hk, ⟨_, rfl⟩, q _ h1 h2⟩
end
end CB

namespace CB
open PySem PySem.Spec PyProof.Rows L2
/-! ### sizes of divisors by seventeen places -/
def pts8 : List Int := [-8, -7, -6, -5, -4, -3, -2, -1, 0, 1, 2, 3, 4, 5, 6, 7, 8]
theorem pts8_pw : pts8.Pairwise (· ≠ ·) := by decide
theorem pts8_le : ∀ h ∈ pts8, h.natAbs ≤ 8 := by decide
/-- a divisor's coefficients: A = Q S -/
theorem div_coef8 {A Q S : Nat → Int} {n m H : Nat} (dA : Dg A n) (hH : ∀ i, (A i).natAbs ≤ H) (dQ : Dg Q m) (nm : n + m ≤ 16) {N : Nat} (fS : Fz S N) (e : ∀ i, A i = cf Q S i) (i : Nat) : (Q i).natAbs ≤ H * sg 8 (n + 1) * 18 ^ m := by
  obtain ⟨s, dS⟩ : ∃ s, Dg S s := by
    rcases zero_or_dg N fS with z | ⟨s, _, d⟩
    · exact absurd (by rw [e, cf_zero_r z]) dA.top
    · exact ⟨s, d⟩
  have nms : n = m + s := by
    have d2 := dQ.cf dS
    have d3 : Dg (CB.cf Q S) n := ⟨by rw [← e]; exact dA.top, fun i hi => by rw [← e]; exact dA.up i hi⟩
    exact d3.uniq d2
  have sm : ∀ h ∈ pts8, (e1 A h (n + 1)).natAbs ≤ H * sg 8 (n + 1) := fun h hh => e1_le (f := A) (h := h) (x := 8) hH (pts8_le h hh) (n + 1)
  have few : (pts8.filter fun h => decide (e1 A h (n + 1) = 0)).length ≤ n := by
    refine Decidable.byContradiction fun z => dA.top ?_
    have y := coef_le (K := 8) n (M := 0) (f := A) (l := pts8.filter fun h => decide (e1 A h (n + 1) = 0)) dA.up (pts8_pw.filter _) (by omega) (fun h hh => by
      obtain ⟨h1, h2⟩ := List.mem_filter.mp hh
      exact ⟨pts8_le h h1, by rw [of_decide_eq_true h2]; decide⟩) n
    rw [Nat.zero_mul] at y
    omega
  have many : 17 - n ≤ (pts8.filter fun h => !decide (e1 A h (n + 1) = 0)).length := by
    have z := List.length_eq_countP_add_countP (fun h => decide (e1 A h (n + 1) = 0)) (l := pts8)
    rw [List.countP_eq_length_filter, List.countP_eq_length_filter] at z
    have e1_ : (pts8.filter fun a => decide ¬ (fun h => decide (e1 A h (n + 1) = 0)) a = true) = pts8.filter fun h => !decide (e1 A h (n + 1) = 0) := by
      congr 1
      funext a
      simp
    rw [e1_] at z
    have lp : pts8.length = 17 := rfl
    omega
  have ev : ∀ x : Int, e1 A x (n + 1) = e1 Q x (m + 1) * e1 S x (s + 1) := fun x => by
    rw [← e1_cf (N := m + 1) (M := s + 1) dQ.up dS.up]
    have z : e1 A x (m + 1 + (s + 1)) = e1 A x (n + 1) := e1_more (fun i hi => dA.up i hi) (by omega)
    rw [← z]
    exact e1_congr fun i _ => e i
  refine coef_le (K := 8) m (M := H * sg 8 (n + 1)) (f := Q) (l := pts8.filter fun h => !decide (e1 A h (n + 1) = 0)) dQ.up (pts8_pw.filter _) (by omega) (fun h hh => ?_) i
  obtain ⟨h1, h2⟩ := List.mem_filter.mp hh
  refine ⟨pts8_le h h1, ?_⟩
  have ne : e1 A h (n + 1) ≠ 0 := by simpa using h2
  have z := sm h h1
  rw [ev h, Int.natAbs_mul] at z
  have s0 : 1 ≤ (e1 S h (s + 1)).natAbs := by
    have : e1 S h (s + 1) ≠ 0 := fun w => ne (by rw [ev h, w, Int.mul_zero])
    omega
  calc (e1 Q h (m + 1)).natAbs = (e1 Q h (m + 1)).natAbs * 1 := (Nat.mul_one _).symm
    _ ≤ (e1 Q h (m + 1)).natAbs * (e1 S h (s + 1)).natAbs := Nat.mul_le_mul_left _ s0
    _ ≤ _ := z
/-- the primitive part of a divisor is small -/
theorem prim_bits8 {f A : Nat → Int} {m n H : Nat} (df : Dg f m) (dA : Dg A n) (hH : ∀ i, (A i).natAbs ≤ H) (nm : n + m ≤ 16) (h : Dv f A) : ∃ (c : Int) (g : Nat → Int), c ≠ 0 ∧ Prim g ∧ Dg g m ∧ (∀ i, f i = c * g i) ∧ ∀ i, (g i).natAbs ≤ H * sg 8 (n + 1) * 18 ^ m := by
  obtain ⟨c, g, c0, pg, dg, e⟩ := prim_part df
  have hg : Dv g A := by
    have gf : Dv g f := ⟨1, fun i => c * xp 0 i, 1, by decide, (xp_fz 0).scale c, fun i => by rw [cf_scale_l, cf_one, Int.one_mul]; exact e i⟩
    exact gf.trans h
  obtain ⟨s, N, fs, ea⟩ := hg.whole pg
  exact ⟨c, g, c0, pg, dg, e, div_coef8 dA hH dg nm fs fun i => by rw [ea i, cf_comm]⟩
/-- the numerator's numbers are small: as / a with its leading coefficients' equation -/
theorem num_bits8 {as : List Int} {a J L : Int} {A : Nat → Int} {n H : Nat} (sa : Pq as a as a) (ane : as ≠ []) (dA : Dg A n) (hH : ∀ i, (A i).natAbs ≤ H) (nm : n + (as.length - 1) ≤ 16) (h : Dv (fun i => as.getD i 0) A) (J0 : J ≠ 0) (L0 : L ≠ 0)
    (eq : as.getD (as.length - 1) 0 * J = L * a) : (∀ i, (as.getD i 0).natAbs ≤ L.natAbs * (H * sg 8 (n + 1) * 18 ^ (as.length - 1))) ∧ a.natAbs ≤ H * sg 8 (n + 1) * 18 ^ (as.length - 1) * J.natAbs := by
  have bt : as.getD (as.length - 1) 0 ≠ 0 := sa.last.resolve_left ane
  have bl : 0 < as.length := List.length_pos_iff.mpr ane
  have df : Dg (fun i => as.getD i 0) (as.length - 1) := ⟨bt, fun j hj => getD_end (by omega)⟩
  obtain ⟨c, g, c0, pg, dg, e, hb⟩ := prim_bits8 df dA hH nm h
  have a0 : a ≠ 0 := by have := sa.pos; omega
  have cp : Nat.gcd c.natAbs a.natAbs = 1 := by
    have d1 : ((Nat.gcd c.natAbs a.natAbs : Nat) : Int) ∣ a := Int.dvd_natAbs.mp (Int.natCast_dvd_natCast.mpr (Nat.gcd_dvd_right _ _))
    have d2 : ((Nat.gcd c.natAbs a.natAbs : Nat) : Int) ∣ c := Int.dvd_natAbs.mp (Int.natCast_dvd_natCast.mpr (Nat.gcd_dvd_left _ _))
    have d3 := sa.cop _ d1 fun j => by
      have : as.getD j 0 = c * g j := e j
      rw [this]
      exact Int.dvd_trans d2 ⟨g j, rfl⟩
    have := Int.natAbs_dvd_natAbs.mpr d3
    exact Nat.dvd_one.mp this
  have el : as.getD (as.length - 1) 0 = c * g (as.length - 1) := e _
  rw [el] at eq
  have cL : c ∣ L := by
    refine dvd_of_cop (a := a) (b := c) (c := L) ⟨g (as.length - 1) * J, ?_⟩ (by rw [Nat.gcd_comm]; exact cp)
    rw [Int.mul_comm a L, ← eq, Int.mul_assoc]
  have aJ : a ∣ g (as.length - 1) * J := by
    refine dvd_of_cop (a := c) (b := a) ⟨L, ?_⟩ cp
    rw [← Int.mul_assoc, eq, Int.mul_comm]
  have cl : c.natAbs ≤ L.natAbs := natAbs_le_of_dvd cL L0
  refine ⟨fun i => ?_, ?_⟩
  · have ei : as.getD i 0 = c * g i := e i
    rw [ei, Int.natAbs_mul]
    exact Nat.mul_le_mul cl (hb i)
  · have z := natAbs_le_of_dvd aJ (Int.mul_ne_zero dg.top J0)
    rw [Int.natAbs_mul] at z
    exact Nat.le_trans z (Nat.mul_le_mul_right _ (hb _))
end CB

namespace CB
open PySem PySem.Spec PyProof.Rows L2
/-! ### polynomials by their values; moved ones -/
theorem bounded (f : Nat → Int) : ∀ N, ∃ H : Nat, ∀ i, i < N → (f i).natAbs ≤ H
  | 0 => ⟨0, fun i hi => absurd hi (by omega)⟩
  | N + 1 => by
    obtain ⟨H, h⟩ := bounded f N
    refine ⟨max H (f N).natAbs, fun i hi => ?_⟩
    by_cases c : i = N
    · rw [c]; omega
    · have := h i (by omega); omega
theorem zero_of_values {f : Nat → Int} {N : Nat} (fz : Fz f N) (h : ∀ x : Int, e1 f x N = 0) : ∀ i, f i = 0 := by
  rcases zero_or_dg _ fz with z | ⟨m, ml, dg⟩
  · exact z
  · exfalso
    obtain ⟨H, hH⟩ := bounded f N
    have hH2 : ∀ i, (f i).natAbs ≤ H := fun i => by
      by_cases c : i < N
      · exact hH i c
      · rw [fz i (by omega)]; exact Nat.zero_le _
    have big := e1_big dg hH2 (X := 2 ^ 24 * H + 29) (Nat.le_refl _)
    have e : e1 f ((2 ^ 24 * H + 29 : Nat) : Int) (m + 1) = e1 f ((2 ^ 24 * H + 29 : Nat) : Int) N := (e1_more (fun i hi => dg.up i (by omega)) (by omega)).symm
    rw [e, h] at big
    have : (0 : Int).natAbs = 0 := rfl
    rw [this, Nat.mul_zero] at big
    exact absurd big (Nat.not_lt_zero _)
/-- two of finite length with the same values are the same -/
theorem ps_values {a b : PS} {N M : Nat} (fa : Fz a.f N) (fb : Fz b.f M) (h : ∀ x v, Ev a x v → Ev b x v) : a = b := by
  have z := zero_of_values (f := fun i => a.f i + (-1) * b.f i) (N := max N M) (fun i hi => by show a.f i + -1 * b.f i = 0; rw [fa i (by omega), fb i (by omega)]; rfl) fun x => by
    have e := e1_plus a.f (fun i => (-1) * b.f i) x (max N M)
    rw [e, e1_scale', e1_more (N := N) (fun i hi => fa i hi) (by omega), e1_more (N := M) (fun i hi => fb i hi) (by omega)]
    have := (h x _ (Ev.of fa x)).uniq (Ev.of fb x)
    omega
  refine PS.ext (funext fun i => ?_)
  have := z i
  omega
/-- b is a moved by s -/
def Mv (s : Int) (a b : PS) : Prop := ∀ x v, Ev a (x + s) v → Ev b x v
theorem Mv.mul {s : Int} {a b c d : PS} {N M : Nat} (fa : Fz a.f N) (fc : Fz c.f M) (h : Mv s a b) (k : Mv s c d) : Mv s (a * c) (b * d) := fun x v e => by
  have e1 := Ev.of fa (x + s)
  have e2 := Ev.of fc (x + s)
  rw [e.uniq (e1.mul e2)]
  exact (h x _ e1).mul (k x _ e2)
theorem Mv.pc {s : Int} (c : Int) : Mv s (pc c) (pc c) := fun x v e => by
  rw [e.uniq (Ev.pc c (x + s))]
  exact Ev.pc c x
theorem IsSh.mv {s : Int} {zs ks : List Int} (h : IsSh s zs ks) : Mv s (pl ks) (pl zs) := fun x v e => by
  rw [e.uniq (Ev.of (a := pl ks) (ff_fz ks) (x + s))]
  have z := Ev.of (a := pl zs) (ff_fz zs) x
  have w : e1 (pl zs).f x zs.length = e1 (pl ks).f (x + s) ks.length := by
    rw [h.len, ← e1_shV]
    exact e1_congr fun i _ => h.at_ i
  rw [w] at z
  exact z
/-- an equation of polynomials stays so when all are moved -/
theorem mv_eq {s : Int} {L R L' R' : PS} {N M K : Nat} (fL : Fz L.f N) (fL' : Fz L'.f M) (fR' : Fz R'.f K) (h : L = R) (mL : Mv s L L') (mR : Mv s R R') : L' = R' := ps_values fL' fR' fun x v e => by
  have z := Ev.of fL (x + s)
  rw [e.uniq (mL x _ z)]
  exact mR x _ (h ▸ z)
/-- the quotient of the moved parts is the moved quotient -/
theorem Qn.moved {s : Int} {X Y X' Y' : PS} {as bs zs ws es ts : List Int} {a b ε τ : Int} {n m : Nat} {N M K : Nat} (q : Qn X.f Y.f as a bs b) (mX : Mv s X X') (mY : Mv s Y Y') (hz : IsSh s zs as) (hw : IsSh s ws bs)
    (fX : Fz X.f n) (fY : Fz Y.f m) (fX' : Fz X'.f N) (fY' : Fz Y'.f M) (dw : Dg (pl ws).f K) (q0 : Qn (pc b * pl zs).f (pc a * pl ws).f es ε ts τ) : Qn X'.f Y'.f es ε ts τ := by
  have e : pc b * (pl zs * Y') = pc a * (X' * pl ws) := by
    refine mv_eq (s := s) (L := pc b * (pl as * Y)) (R := pc a * (X * pl bs)) ((cst_fz b).cf ((ff_fz as).cf fY)) ((cst_fz b).cf ((ff_fz zs).cf fY')) ((cst_fz a).cf (fX'.cf (ff_fz ws))) q.ps ?_ ?_
    · exact (Mv.pc b).mul (cst_fz b) ((ff_fz as).cf fY) (hz.mv.mul (ff_fz as) fY mY)
    · exact (Mv.pc a).mul (cst_fz a) (fX.cf (ff_fz bs)) (mX.mul fX (ff_fz bs) hw.mv)
  have dY : Dg (pc a * pl ws).f (0 + K) := (pc_dg q.a0).cf dw
  refine q0.move dY fY' fX' ?_
  grind
end CB

namespace CB
open PySem PySem.Spec PyProof.Rows L2
/-! ### super().__init__(..) in an own exception's __init__ -/
/-- the context of a def that closes over its class -/
def cxK (CX : CXT) (P : Program) (w : World) (K : PySem.W.Frag) (mg : Str → Option Value) (base : Heap) (N : List Str) (qual : Str) (scope : Scope) (f : Addr) (cd : Value) (cc : Addr) (A : Around) (outer : List Env) (s : Shared) (H : Hp) (E : XK) : Cx where
  prog := P
  w := w
  K := K
  mg := mg
  base := base
  A := A.deeper (PySem.W.ksEnv qual scope s.heap.objs.size f cd cc)
  N := N
  s_0 := s
  H_0 := H
  env := PySem.W.ksEnv qual scope s.heap.objs.size f cd cc
  outer := outer
  stack := PySem.W.ksEnv qual scope s.heap.objs.size f cd cc :: outer
  ex := []
  calm := true
  fn := fun _ => false
  pn := []
  xe := fun e s' => wpAny (model P w) (A.deeper (PySem.W.ksEnv qual scope s.heap.objs.size f cd cc)) (leaving (PySem.W.ksEnv qual scope s.heap.objs.size f cd cc) e) (fun _ s'' => CX outer H s E e s'') (fun e' s'' => CX outer H s E e' s'') s'
/-- what such a scope holds: self and one more -/
structure SupScope (x0 x1 : Str) (sc : Scope) : Prop where
  kind : sc.kind = .function
  co : sc.isCoroutine = false
  gen : sc.isGenerator = false
  ne : x0 ≠ x1
  l0 : sc.names.lookup x0 = some .local
  l1 : sc.names.lookup x1 = some .local
  nocell : ∀ y ∈ sc.names, y.2 ≠ .cell
  free : ∀ y ∈ sc.names, y.2 = .free → y.1 = "__class__"
  cls : sc.names.lookup ("__class__" : Str) = some .free
  sup : sc.names.lookup ("super" : Str) = some .globalImplicit
section
variable {CX : CXT} {P : Program} {w : World} {K : PySem.W.Frag} {mg : Str → Option Value} {base : Heap} {x0 x1 : Str} {qual : Str} {scope : Scope} {f : Addr} {cd : Value} {cc D : Addr} {A : Around} {outer : List Env} {s : Shared} {H : Hp} {E : XK} {us : List Value} {v0 v1 : V} {cl : Value} {cld : Option Addr} {csl : Array (Option Value)} {h0 : Heap} {tk : Nat}
theorem inv_startK (S : SupScope x0 x1 scope) (hd : A.handled = none) (e0 : Env0 P w K mg base A outer s H) (r : Vals [v0, v1] us) (hcell : K.lookup cc = some ⟨cl, cld, .cell (some (.ref D)), csl⟩)
    (hns : h0.Ns s.heap.objs.size (fun y => (([x0, x1] : List Str).zip us).reverse.lookup y)) (hk : ∀ b o, s.heap.get? b = some o → h0.get? b = some o) :
    Inv (cxK CX P w K mg base [x0, x1] qual scope f cd cc A outer s H E) [] [some v0, some v1] H { s with heap := h0, toks := tk } := by
  have noA : ∀ b : Addr, b ∉ (cxK CX P w K mg base [x0, x1] qual scope f cd cc A outer s H E).ex := fun b z => absurd (show b ∈ ([] : List Addr) from z) (by simp)
  have only : ∀ (y : Str) (c : Addr), ([("__class__", cc)] : List (Str × Addr)).lookup y = some c → y = "__class__" ∧ c = cc := fun y c h => by
    by_cases e : y = "__class__"
    · subst e
      exact ⟨rfl, (Option.some.inj (show some cc = some c from h)).symm⟩
    · have e2 : (y == ("__class__" : Str)) = false := by simpa using e
      simp [List.lookup, e2] at h
  have ccb : ∃ o, base.get? cc = some o ∧ o.data = .cell (some (.ref D)) := ⟨_, e0.mod.kin _ _ hcell, rfl⟩
  obtain ⟨oc, hoc, hod⟩ := ccb
  obtain ⟨hs1, hs2⟩ := e0.bs _ _ hoc
  obtain ⟨u0, u1, rfl, r0, r1⟩ : ∃ u0 u1, us = [u0, u1] ∧ RelV v0 u0 ∧ RelV v1 u1 := by
    cases r with
    | cons a b =>
      cases b with
      | cons c d =>
        cases d
        exact ⟨_, _, rfl, a, c⟩
  refine ⟨⟨e0.mod, S.kind, rfl, rfl, Nat.le_refl _, fun y z c h1 h2 => ?_, fun y hy => ?_, fun y c h _ => Bool.noConfusion h, fun _ => hd, Around.frames_deeper e0.frames, .inr ⟨rfl, rfl⟩, fun b z => absurd z (noA b), e0.bs, e0.bsz, fun b _ _ => noA b, fun b z => absurd z (noA b), e0.funs, e0.frf⟩,
    rfl, e0.bare, Un.kept hk, ⟨_, hns, fun i y v h1 h2 h3 => ?_⟩, fun y c h => ?_, e0.hok.fresh (Nat.le_refl _), fun y c h => ?_, fun p hp => absurd (show p ∈ ([] : List (Addr × Obj)) from hp) (by simp), e0.hok.kept hk, rfl⟩
  · rw [(only y c h1).1, (only z c h2).1]
  · have hy : scope.names.lookup y = some .cell ∨ scope.names.lookup y = some .free := hy
    rcases hy with hy | hy
    · exact absurd rfl (S.nocell _ (PySem.mem_of_lookup hy))
    · have := S.free _ (PySem.mem_of_lookup hy) rfl
      subst this
      exact ⟨cc, rfl⟩
  · have l01 : ∀ y : Str, ((([x0, x1] : List Str).zip [u0, u1]).reverse.lookup y) = if y = x1 then some u1 else if y = x0 then some u0 else none := fun y => by
      show ([(x1, u1), (x0, u0)] : List (Str × Value)).lookup y = _
      by_cases a : y = x1
      · rw [if_pos a]
        subst a
        simp [List.lookup]
      · have a2 : (y == x1) = false := by simpa using a
        rw [if_neg a]
        by_cases b : y = x0
        · rw [if_pos b]
          subst b
          simp [List.lookup, a2]
        · have b2 : (y == x0) = false := by simpa using b
          rw [if_neg b]
          simp [List.lookup, a2, b2]
    have h1' : ([x0, x1] : List Str)[i]? = some y := h1
    rcases i with _ | _ | i
    · cases h1'
      cases h2
      exact ⟨u0, r0, .inl ⟨S.l0, (l01 _).trans (by rw [if_neg S.ne, if_pos rfl])⟩⟩
    · cases h1'
      cases h2
      exact ⟨u1, r1, .inl ⟨S.l1, (l01 _).trans (by rw [if_pos rfl])⟩⟩
    · cases h1'
  · obtain ⟨_, rfl⟩ := only y c h
    exact ⟨_, _, hk _ _ hs1, hod⟩
  · obtain ⟨_, rfl⟩ := only y c h
    exact hs2
end
section
open PySem.W PySem.Calls
variable {P : Program} {w : World} {A : Around} {E : Value → Shared → Prop} {h : Heap} {g : Array GenState} {d : Drawn} {t : Nat} {os : OsState}
/-- the bound ValueError.__init__ called -/
theorem call_mw {nm q : Str} {C N e t0 u : Addr} {bs bm : List Value} {hdct : Bool} {sn : List Str} {sub : List Value} {ab : Bool} {col : Option Bool} {dd : Option Addr} {k0 k1 k2 k3 k5 : Option Value} {rest : List Value} {Q : Value → Shared → Prop}
    (hC : h.get? C = some (excClassObj nm q C N bs bm hdct sn sub ab col dd k0 k1 k2 k3 k5 "ValueError.__new__")) (he : h.get? e = some (PySem.HandSPX.excO C t0)) (hu : h.get? u = some (kxs_mw "ValueError.__init__" e)) (hrest : rest.length ≤ sizeLine)
    (hq : ∀ h' t1, (∀ b o, b ≠ e → h.get? b = some o → h'.get? b = some o) → h'.get? e = some (PySem.HandSPX.excO C t1) → Q .none ⟨h', g, d, t, os⟩) :
    wpAny (model P w) A (call (.ref u) rest) Q E ⟨h, g, d, t, os⟩ := by
  refine wpAny_call (codeAny_of_tree ?_)
  show wpAny _ A.in1 (callAny (.ref u) ⟨rest, []⟩) _ _ _
  simp only [callAny]
  refine wpAny_bind (wpAny_load hu ?_)
  simp only [kxs_mw, show (Value.type "method-wrapper" == Value.type "method" || Value.type "method-wrapper" == Value.type "builtin_function_or_method" || Value.type "method-wrapper" == Value.type "method-wrapper") = true by decide, if_true]
  refine KFB.if_so (by decide) ?_
  refine wpAny_bind (check_bound_init F.excBase_ValueError.toExcCallFacts hC he rfl ?_)
  refine wpAny_bind (wpAny_pure (wpAny_pure ?_))
  refine ⟨plainId_quiet F.excBase_ValueError.init.plain _, codeAny_builtin F.excBase_ValueError.initEntry ?_⟩
  exact exc_init_tree (cls := .ref C) (t0 := t0) (dv := none) (c2 := .none) (c3 := .none) (b4 := .bool false) he hrest fun h' k e' _ => hq h' _ k e'
end
section
open PySem.W PySem.Calls
variable {CX : CXT} {P : Program} {w : World} {K : PySem.W.Frag} {mg : Str → Option Value} {base : Heap} {x0 x1 : Str} {name qual : Str} {params : Arguments} {scope : Scope} {f cda : Addr} {cc C : Addr} {k : Nat} {sp : Sp}
  {dV kV doc pm ct oc ccl cl : Value} {an od cdd cld : Option Addr} {osl ccs csl : Array (Option Value)} {ar : Arg} {vs : Array Value} {file : Str} {tf : Tok} {cdC : ClassData} {msg : Expr} {rest : List Stmt} {p0 p1 p2 p4 p5 : Pos}
/-- THE RULE: a def super().__init__(msg); rest -/
theorem sup_fn (lk : K.lookup f = some ⟨oc, od, .func (ksFn name qual params (.Expr (.Call (.Attribute (.Call (.Name "super" p0) [] [] p1) "__init__" p2) [msg] [] p4) p5 :: rest) scope dV kV doc pm an (.ref cda) ct cc), osl⟩)
    (hcd : codeIn K (.ref cda) qual = true) (S : SupScope x0 x1 scope) (hp : (params.posonlyargs ++ params.args).head? = some ar) (har : ar.arg = x0)
    (hcode : K.lookup cda = some ⟨ccl, cdd, .fields vs, ccs⟩) (hvs : vs[2]? = some (.str file tf)) (hfile : ((P.main.file : Str) == file) = true)
    (hcell : K.lookup cc = some ⟨cl, cld, .cell (some (.ref C)), csl⟩) (hC : clsIn K C = some cdC) (hsub : mroIn K C (.ref C) = some true)
    (hsup : mg "super" = none) (htop : (P.main.scope.names.lookup ("super" : Str)).isSome = false) (hboot : bootBuiltins "super" = some (.type "super"))
    (hopq : nsIn K cStatics "thirdparty.any" = some none) (hm : ks_superIn K C C "__init__" = some (some (.builtin "ValueError.__init__"))) (hB : subIn K (.ref C) (.type "ValueError") = some true) (T : OexC K C)
    (hpl : ∀ env : Env, (backTo p4 (starEach ([] : List Expr) env)).any (·.1) = false := by intro _; rfl) (hms : ∀ env : Env, starEach [msg] env = (false, eval msg env) :: starEach [] env := by intro _; rfl)
    (hsw : ∀ env : Env, swapsWith (.Call (.Attribute (.Call (.Name "super" p0) [] [] p1) "__init__" p2) [msg] [] p4) none p5.line env = pure false := by intro _; rfl)
    (hev : ∀ env : Env, ∃ pl : Sem Bool, eval (.Call (.Attribute (.Call (.Name "super" p0) [] [] p1) "__init__" p2) [msg] [] p4) env = (do
      let ov ← attributeBase (.Call (.Name "super" p0) [] [] p1) "__init__" env (eval (.Call (.Name "super" p0) [] [] p1) env)
      standAt p2.atName
      let (f, first) ← holding [ov] (getMethod ov "__init__" pl)
      callWith p4 f first (backTo p4 (starEach [msg] env)) []))
    (len : ∀ vs H Q E, sp vs H Q E → vs.length = 2)
    (hbody : ∀ (A : Around) (outer : List Env) (s : Shared) (H : Hp) (vs : List V) (Q : VK) (E : XK), Room k (A.deeper (ksEnv qual scope s.heap.objs.size f (.ref cda) cc)) → sp vs H Q E →
      ∃ (a : Addr) (v1 : V) (ta : TA) (t : TS), vs = [.ref a, v1] ∧ H a = some (exo a C none) ∧ PA (cxK CX P w K mg base [x0, x1] qual scope f (.ref cda) cc A outer s H E) [msg] ta ∧ PSs (cxK CX P w K mg base [x0, x1] qual scope f (.ref cda) cc A outer s H E) rest t ∧
        ta [some (.ref a), some v1] H fun ws H1 => ws.length ≤ 1000 ∧ H1 a = some (exo a C none) ∧ t { nx := fun _ H' => Q .non H', rt := Q } [some (.ref a), some v1] H1) :
    FnOk P w K mg base CX (k + 1) f (ksFn name qual params (.Expr (.Call (.Attribute (.Call (.Name "super" p0) [] [] p1) "__init__" p2) [msg] [] p4) p5 :: rest) scope dV kV doc pm an (.ref cda) ct cc) [x0, x1] sp := by
  refine ⟨len, fun A outer s H args us vs' Q E hr e0 hb r hsp => ?_⟩
  have KX : K.In s.heap := e0.mod.kin.keeps fun b o e => (e0.bs b o e).1
  have lim : s.heap.NoLimit := e0.mod.nolimit.keeps fun b o e => (e0.bs b o e).1
  obtain ⟨a, v1, ta, t, rfl, ea, ha, hs, hq⟩ := hbody A outer s H vs' Q E (hr.deeper _) hsp
  have hloc : ∀ y ∈ ([x0, x1] : List Str).zip us, scope.names.lookup y.1 = some .local := fun ⟨n, v⟩ hy => by
    have hn := (List.of_mem_zip hy).1
    rcases List.mem_cons.mp hn with e | hn
    · rw [e]; exact S.l0
    · rw [List.mem_singleton.mp hn]; exact S.l1
  refine ks_codeAny_call_defAt hr.depth (KX _ _ lk) rfl lim (codeRec_of KX hcd) rfl hb S.nocell hloc (fun h0 hns hk => ?_) S.co S.gen S.kind
  have fin : ∀ {σ' : L2.St} {H' : Hp} {v : V} {u : Value} {s' : Shared}, Inv (cxK CX P w K mg base [x0, x1] qual scope f (.ref cda) cc A outer s H E) [] σ' H' s' → RelV v u → Q v H' → CE outer P w H s Q u s' :=
    fun {σ' H' v u s'} J rv q => ⟨v, H', J.os, J.bare, J.base, J.hok, rv, q⟩
  have I0 : Inv (cxK CX P w K mg base [x0, x1] qual scope f (.ref cda) cc A outer s H E) [] [some (.ref a), some v1] H { s with heap := h0, toks := s.toks + (([x0, x1] : List Str).zip us).length } := inv_startK S hr.hd e0 r hcell hns hk
  have X0 : K.In h0 := KX.keeps hk
  obtain ⟨nm, q, N, bs, bm, sn, sub, ab, col, dd, k0, k1, k2, k3, k5, hCo, hbm⟩ := T.cls
  obtain ⟨t1, ho⟩ := exo_at I0.hok ea
  have hcC : clsIn K C = some { name := nm, bases := bs, mro := .ref C :: bm, ns := N, qualname := q, hasDict := true, slotNames := sn, subclasses := sub, abstract := ab, collection := col, hasDel := false } := by unfold clsIn; rw [hCo] <;> rfl
  obtain ⟨mb, hmb1, hmb2⟩ := e0.mod.blt
  have bk : ∀ b o, base.get? b = some o → h0.get? b = some o := fun b o e => hk _ _ (e0.bs b o e).1
  have hx0 : ∃ u1, us = [.ref a, u1] := by
    cases r with
    | cons p1 p2 =>
      cases p2 with
      | cons p3 p4 =>
        cases p4
        exact ⟨_, by rw [show _ = Value.ref a from p1]⟩
  obtain ⟨u1, rfl⟩ := hx0
  have hn0 : (fun y => (([x0, x1] : List Str).zip [Value.ref a, u1]).reverse.lookup y) x0 = some (.ref a) := by
    show ([(x1, u1), (x0, Value.ref a)] : List (Str × Value)).lookup x0 = _
    have a2 : (x0 == x1) = false := by simpa using S.ne
    simp [List.lookup, a2]
  have hC2 := X0 _ _ hCo
  have hI : Looks (model P w) h0 (isInstance (.ref a) (.type "ValueError")) true := (InstAt.type (od := none) ⟨ho, rfl, rfl, trivial⟩).andThen (looks_subIn X0 hB)
  show _root_.PySem.wpAt (model P w) (A.deeper (ksEnv qual scope s.heap.objs.size f (.ref cda) cc)) (.func _ (ksEnv qual scope s.heap.objs.size f (.ref cda) cc)) (execs _ (ksEnv qual scope s.heap.objs.size f (.ref cda) cc)) _ _ _
  obtain ⟨pl, hev1⟩ := hev (ksEnv qual scope s.heap.objs.size f (.ref cda) cc)
  refine ks_wpAt_execs_cons (ks_wpAt_Expr_any (ks_wpAt_MethodCall (pl := pl) ?_ hev1) ?_ (hsw _))
  rotate_left
  · show (scope.kind == ScopeKind.module && _) = false
    rw [S.kind]
    rfl
  refine ks_wpAt_super_base (env := ksEnv qual scope s.heap.objs.size f (.ref cda) cc) S.sup S.cls (by decide) rfl (X0 _ _ lk) rfl hp rfl (X0 _ _ hcode) rfl hvs hfile htop ?_
  refine ks_loadName_global S.kind S.sup (loadGlobal_builtin (env := ksEnv qual scope s.heap.objs.size f (.ref cda) cc) (e0.mod.glob.keeps bk) hsup (hmb1.keeps bk) ((hmb2 _ (by decide)).trans hboot) ⟨rfl, ?_⟩)
  refine wpAny_loadName_free S.kind S.cls rfl ⟨_, X0 _ _ hcell, rfl⟩ ?_
  rw [har]
  refine wpAny_loadName_local S.kind S.l0 hns hn0 ?_
  refine ks_wpAny_isType_cls hC2 rfl ⟨rfl, ?_⟩
  refine ks_wpAny_call_super hC2 rfl ho rfl (fun c e => by cases e) (looks_mroIn X0 hsub) (fun h' eso kso => ?_)
  have X1 : K.In h' := X0.keeps kso
  have ho1 := kso _ _ ho
  have hI1 : Looks (model P w) h' (isInstance (.ref a) (.type "ValueError")) true := (InstAt.type (od := none) ⟨ho1, rfl, rfl, trivial⟩).andThen (looks_subIn X1 hB)
  have hm2 := hm
  unfold ks_superIn at hm2
  rw [hcC, Option.bind_some] at hm2
  refine kxs_getMethod kxs_ValueError eso (looks_opaque X1 hopq) (l₀ := .ref C :: bm) ?_ rfl X1 hm2 hI1 (ks_ne X1 (odx := none) ⟨ho1, rfl, rfl, trivial⟩ hcC) (by decide) ?_
  · exact fun A Q E s k q => wpAny_bind ((looks_clsIn X1 hcC) A _ E s k (wpAny_pure q))
  have kk : ∀ b o, h0.get? b = some o → (h'.push (kxs_mw "ValueError.__init__" a)).get? b = some o := fun b o e => Heap.get?_push_of_some _ (kso b o e)
  have I1 := I0.kept (t' := s.toks + (([x0, x1] : List Str).zip [Value.ref a, u1]).length + 1) kk
  have hu : (h'.push (kxs_mw "ValueError.__init__" a)).get? h'.objs.size = some (kxs_mw "ValueError.__init__" a) := Heap.get?_push_at rfl rfl
  have le : h0.objs.size ≤ h'.objs.size := Nat.le_of_lt (Heap.lt_size eso)
  have uF : H h'.objs.size = none := I0.hok.fresh le
  have I2 := I1.pins_of (pins' := [(h'.objs.size, kxs_mw "ValueError.__init__" a)]) fun p hp => by
    rw [List.mem_singleton.mp hp]
    refine ⟨hu, uF, ?_, I0.nofs le, fun v => by intro z; cases z⟩
    have l1 : s.heap.objs.size < h0.objs.size := I0.lt
    show h'.objs.size ≠ s.heap.objs.size
    omega
  have hrun := ha.run p4 _ _ _ H _ I2 hq
  rw [hms] at hrun
  refine kxs_callWith (i := "ValueError.__init__") (x := a) (by rw [hms]; show (false || (backTo p4 (starEach [] _)).any (·.1)) = false; rw [hpl]; rfl) ?_
  rw [hms]
  refine evalArgs_plain (thn hrun fun us s1 ⟨ws, H1, I3, r1, hwl, e1, q1⟩ => ?_)
  have hu1 := (I3.pin (h'.objs.size, kxs_mw "ValueError.__init__" a) (List.mem_append_right _ (List.mem_singleton.mpr rfl))).1
  obtain ⟨t3, ho3⟩ := exo_at I3.hok e1
  have hlen : us.length ≤ sizeLine := by
    rw [← Paired.length r1, sizeLine_eq]
    omega
  have hC3 := I3.kIn _ _ hCo
  obtain ⟨hp3, g3, d3, tk3, os3⟩ := s1
  refine ⟨hu1, call_mw hC3 ho3 hu1 hlen fun h5 t5 k5 e5 => ?_⟩
  have J := I3.write (t' := tk3) (x := a) (e := a) (o := exo a C none) (by rw [e1]; exact True.intro) (.inl rfl) k5 ⟨_, e5⟩ (exo_ok e5)
  have eu : upd H1 a (exo a C none) = H1 := by
    funext b
    by_cases hb : b = a
    · rw [hb, upd_same, e1]
    · rw [upd_ne hb]
  rw [eu] at J
  have J2 := J.pins_of (pins' := []) fun p hp => absurd hp (by simp)
  refine PyProof.Rows.wpAt_of_any (wpAny_mono (hs.run [] _ _ H1 _ J2 q1) (fun fl s' hs' => ?_) fun e s' hs' => hs')
  cases fl with
  | ret u =>
    obtain ⟨v, σ', H', J, rv, q⟩ := hs'
    exact fin J rv q
  | next =>
    obtain ⟨σ', H', J, q⟩ := hs'
    exact fin (v := V.non) (u := Value.none) J rfl q
  | brk =>
    obtain ⟨_, _, _, q⟩ := hs'
    exact False.elim q
  | cont =>
    obtain ⟨_, _, _, q⟩ := hs'
    exact False.elim q
end
section
open PySem.W
/-- the class at C is an own exception over ValueError whose objects have a dict -/
def oexB (K : Frag) (C : Addr) : Bool := (match K.lookup C with
  | some ⟨.type "type", _, .cls cd, sl⟩ => (match cd.mro, sl.toList with
    | .ref C' :: bm, [_, _, _, _, some (.builtin n), _] => C' == C && n == "ValueError.__new__" && !cd.hasDel && cd.hasDict && PySem.HandSPX.refsVE bm
    | _, _ => false)
  | _ => false) && He.eqO (findIn K (.ref C) "__setattr__") (some (some (.builtin "object.__setattr__"))) && decide (subIn K (.ref C) (.type "BaseException") = some true) && decide (typeIn K (.ref C) = some (.type "type")) && keepIn K (.ref C)
theorem oexB_ok {K : Frag} {C : Addr} (h : oexB K C = true) : OexC K C := by
  unfold oexB at h
  simp only [Bool.and_eq_true] at h
  obtain ⟨⟨⟨⟨h1, h2⟩, h3⟩, h4⟩, h5⟩ := h
  refine ⟨?_, He.eqO_ok h2, of_decide_eq_true h3, of_decide_eq_true h4, h5⟩
  split at h1
  · rename_i dd cd sl ho
    split at h1
    · rename_i C' bm k0 k1 k2 k3 n k5 hm hs
      simp only [Bool.and_eq_true, beq_iff_eq, Bool.not_eq_true'] at h1
      obtain ⟨⟨⟨⟨rfl, rfl⟩, hdel⟩, hdict⟩, ht⟩ := h1
      obtain ⟨nm, bs, mro, ns, qn, hd, sn, sub, ab, col, del⟩ := cd
      dsimp only at hm hdel hdict
      subst hm hdel hdict
      have hsl : sl = #[k0, k1, k2, k3, some (.builtin "ValueError.__new__"), k5] := by
        obtain ⟨l⟩ := sl
        simp only at hs
        rw [hs]
      subst hsl
      exact ⟨_, _, _, _, _, _, _, _, _, _, _, _, _, _, _, ho, ht⟩
    · cases h1
  · cases h1
abbrev FnS : Type := Option (Str × Str × Arguments × FuncBody × Scope × Addr × List Str × Addr)
/-- a def's datum without the addresses of its cells -/
def fnS (K : Frag) (a : Addr) : FnS := match K.lookup a with
  | some ⟨_, _, .func fd, _⟩ => some (fd.name, fd.qualname, fd.params, fd.body, fd.scope, fd.globals, fd.closure.map (·.1), fd.builtins)
  | _ => none
def _root_.CB.DefG.valS (d : DefG) : FnS := some (d.name, d.qual, d.params, FuncBody.stmts d.body, d.scope, mainGlobals, [("__class__" : Str)], builtinsNs)
def supB (K : Frag) (C f : Addr) (qual fl : Str) : Bool := oexB K C && keepIn K (.ref f) && He.eqO (findIn K (.ref C) "__init__") (some (some (.ref f))) && decide (typeIn K (.ref f) = some (.type "function")) &&
  decide (mroIn K C (.ref C) = some true) && He.eqO (nsIn K cStatics "thirdparty.any") (some none) && He.eqO (ks_superIn K C C "__init__") (some (some (.builtin "ValueError.__init__"))) && decide (subIn K (.ref C) (.type "ValueError") = some true) &&
  (match K.lookup f with
  | some ⟨_, _, .func fd, _⟩ => (match fd.closure, fd.code with
    | [(_, cc)], .ref cda => codeIn K (.ref cda) qual && decide (fd.defaults = .none) && (match K.lookup cc with | some ⟨_, _, .cell (some (.ref c)), _⟩ => c == C | _ => false) &&
      (match K.lookup cda with | some ⟨_, _, .fields vs, _⟩ => (match (vs[2]? : Option Value) with | some (.str file _) => fl == file | _ => false) | _ => false)
    | _, _ => false)
  | _ => false)
/-- what is known of such an __init__ -/
structure SupD (K : Frag) (C f : Addr) (name qual : Str) (params : Arguments) (body : List Stmt) (scope : Scope) (fl : Str) : Prop where
  T : OexC K C
  kp : keepIn K (.ref f) = true
  init : findIn K (.ref C) "__init__" = some (some (.ref f))
  ty : typeIn K (.ref f) = some (.type "function")
  mro : mroIn K C (.ref C) = some true
  opq : nsIn K cStatics "thirdparty.any" = some none
  sup : ks_superIn K C C "__init__" = some (some (.builtin "ValueError.__init__"))
  ve : subIn K (.ref C) (.type "ValueError") = some true
  ex : ∃ (oc : Value) (od : Option Addr) (kV doc pm : Value) (an : Option Addr) (cda : Addr) (ct : Value) (cc : Addr) (osl : Array (Option Value)), K.lookup f = some ⟨oc, od, .func (ksFn name qual params body scope .none kV doc pm an (.ref cda) ct cc), osl⟩ ∧ codeIn K (.ref cda) qual = true ∧
    (∃ cl cld csl, K.lookup cc = some ⟨cl, cld, .cell (some (.ref C)), csl⟩) ∧ ∃ ccl cdd vs ccs file tf, K.lookup cda = some ⟨ccl, cdd, .fields vs, ccs⟩ ∧ vs[2]? = some (.str file tf) ∧ fl = file
theorem supD {K : Frag} {C : Addr} {d : DefG} {fl : Str} (e : fnS K (d.at_ K) = d.valS) (h : supB K C (d.at_ K) d.qual fl = true) : SupD K C (d.at_ K) d.name d.qual d.params d.body d.scope fl := by
  unfold supB at h
  simp only [Bool.and_eq_true] at h
  obtain ⟨⟨⟨⟨⟨⟨⟨⟨h1, h2⟩, h3⟩, h4⟩, h5⟩, h6⟩, h7⟩, h8⟩, h9⟩ := h
  refine ⟨oexB_ok h1, h2, He.eqO_ok h3, of_decide_eq_true h4, of_decide_eq_true h5, He.eqO_ok h6, He.eqO_ok h7, of_decide_eq_true h8, ?_⟩
  unfold fnS at e
  cases q : K.lookup (d.at_ K) with
  | none => rw [q] at h9; cases h9
  | some o =>
    obtain ⟨oc, od, dt, osl⟩ := o
    rw [q] at h9 e
    cases dt with
    | func fd =>
      obtain ⟨n1, n2, n3, n4, n5, n6, n7, n8, n9, n10, n11, n12, n13, n14, n15⟩ := fd
      have e2 : (some (n1, n2, n3, n4, n5, n6, n7.map (·.1), n15) : FnS) = some (d.name, d.qual, d.params, FuncBody.stmts d.body, d.scope, mainGlobals, [("__class__" : Str)], builtinsNs) := e
      simp only [Option.some.injEq, Prod.mk.injEq] at e2
      obtain ⟨a1, a2, a3, a4, a5, a6, a7, a8⟩ := e2
      subst a1 a2 a3 a4 a5 a6 a8
      obtain ⟨cl, rfl⟩ : ∃ cl, n7 = cl := ⟨_, rfl⟩
      match n7, n13, a7, h9, q with
      | [(nm, cc)], .ref cda, a7, h9, q =>
        have h9' : (codeIn K (.ref cda) d.qual && decide (n8 = .none) && (match K.lookup cc with | some ⟨_, _, .cell (some (.ref c)), _⟩ => c == C | _ => false) &&
          (match K.lookup cda with | some ⟨_, _, .fields vs, _⟩ => (match (vs[2]? : Option Value) with | some (.str file _) => fl == file | _ => false) | _ => false)) = true := h9
        simp only [Bool.and_eq_true] at h9'
        obtain ⟨⟨⟨c1, c2⟩, c3⟩, c4⟩ := h9'
        have en : nm = "__class__" := by simpa using a7
        subst en
        have e8 : n8 = .none := of_decide_eq_true c2
        subst e8
        refine ⟨oc, od, n9, n10, n11, n12, cda, n14, cc, osl, rfl, c1, ?_, ?_⟩
        · split at c3
          · rename_i cl cld c csl hl
            have : c = C := by simpa using c3
            subst this
            exact ⟨_, _, _, hl⟩
          · cases c3
        · split at c4
          · rename_i ccl cdd vs ccs hl
            split at c4
            · rename_i file tf hv
              exact ⟨_, _, _, _, _, _, hl, hv, by simpa using c4⟩
            · cases c4
          · cases c4
    | _ => cases h9
end
/-- such an __init__(self, x): it keeps x as its field -/
def spExI (K : PySem.W.Frag) (C : Addr) (fld : Str) : Sp := fun vs H Q _ => ∃ (a : Addr) (v : V), vs = [.ref a, v] ∧ H a = some (exo a C none) ∧ ∀ dx, H dx = none → dx ≠ a → Q .non (upd (upd H dx (exd dx [(fld, v)])) a (exo a C (some dx)))
section
variable {P : Program} {w : World} {K : PySem.W.Frag} {mg : Str → Option Value} {base : Heap} {x0 x1 : Str} {name qual : Str} {params : Arguments} {scope : Scope} {body : List Stmt} {f C : Addr} {k : Nat} {ar : Arg} {fl fld text : Str} {j : Nat} {p0 p1 p2 p3 p4 p5 p6 p7 p8 p9 : Pos}
theorem sup_ok (D : SupD K C f name qual params body scope fl)
    (hb : body = [.Expr (.Call (.Attribute (.Call (.Name "super" p0) [] [] p1) "__init__" p2) [.Constant (.str text) j p3] [] p4) p5, .Assign [.Attribute (.Name x0 p6) fld p7] (.Name x1 p8) p9])
    (hfl : P.main.file = fl) (htop : (P.main.scope.names.lookup ("super" : Str)).isSome = false) (hsup : mg "super" = none) (S : SupScope x0 x1 scope) (hp : (params.posonlyargs ++ params.args).head? = some ar) (har : ar.arg = x0) (hfld : PySem.W.findIn K (.ref C) fld = some none)
    (hd : (x0 == ("__debug__" : Str)) = false ∧ (x0 == ("__classdict__" : Str)) = false ∧ (x1 == ("__debug__" : Str)) = false ∧ (x1 == ("__classdict__" : Str)) = false)
    (hsw : ∀ env : Env, swapsWith (.Name x1 p8) (some (.Attribute (.Name x0 p6) fld p7)) p9.line env = pure false)
    (hev : ∀ env : Env, ∃ pl : Sem Bool, eval (.Call (.Attribute (.Call (.Name "super" p0) [] [] p1) "__init__" p2) [.Constant (.str text) j p3] [] p4) env = (do
      let ov ← attributeBase (.Call (.Name "super" p0) [] [] p1) "__init__" env (eval (.Call (.Name "super" p0) [] [] p1) env)
      standAt p2.atName
      let (f, first) ← holding [ov] (getMethod ov "__init__" pl)
      callWith p4 f first (backTo p4 (starEach [.Constant (.str text) j p3] env)) []))
    (hbind : ∀ (kV doc pm : Value) (an : Option Addr) (cdv ct : Value) (cc : Addr) (us : List Value), us.length = 2 → bindArgs (PySem.W.ksFn name qual params body scope .none kV doc pm an cdv ct cc) ⟨us, []⟩ = pure (([x0, x1] : List Str).zip us)) :
    OkF P w K mg base (k + 1) f [x0, x1] (spExI K C fld) := by
  subst hb
  obtain ⟨oc, od, kV, doc, pm, an, cda, ct, cc, osl, lk, hcd, ⟨cl, cld, csl, hcell⟩, ccl, cdd, vs, ccs, file, tf, hcode, hvs, hf2⟩ := D.ex
  obtain ⟨nm, q, N, bs, bm, sn, sub, ab, col, dd, k0, k1, k2, k3, k5, hCo, hbm⟩ := D.T.cls
  have hcC : PySem.W.clsIn K C = some { name := nm, bases := bs, mro := .ref C :: bm, ns := N, qualname := q, hasDict := true, slotNames := sn, subclasses := sub, abstract := ab, collection := col, hasDel := false } := by unfold PySem.W.clsIn; rw [hCo] <;> rfl
  refine ⟨_, sup_fn lk hcd S hp har hcode hvs (by rw [hfl, hf2]; simp) hcell hcC D.mro hsup htop (by rfl) D.opq D.sup D.ve D.T (hev := hev) (len := fun vs H Q E h => ?_) (hbody := fun A outer s H vs Q E hr h => ?_), .all (hbind kV doc pm an (.ref cda) ct cc), D.kp⟩
  · obtain ⟨a, v, rfl, _⟩ := h
    rfl
  · obtain ⟨a, v, rfl, ea, hq⟩ := h
    refine ⟨a, v, _, _, rfl, ea, pa_cons pe_str pa_nil, pss_one (ps_ost (pe_var (i := 0) rfl (.inl S.l0) hd.1 hd.2.1) (pe_var (i := 1) rfl (.inl S.l1) hd.2.2.1 hd.2.2.2) (hsw _)), ?_⟩
    refine ⟨by show 1 ≤ 1000; decide, ea, ?_⟩
    exact ⟨v, rfl, _, rfl, a, C, rfl, D.T, hfld, .inl ⟨ea, fun dx n ne => hq dx n ne⟩⟩
end
/-- isinstance(e, c), e the exception that the suite holds, with a field -/
def rIsED (K : PySem.W.Frag) (D a : Addr) (cls : Value) (d : Option Addr) : List V → Hp → VK → Prop := fun xs H Q => ∃ (c : V) (cv : Value) (b : Bool) (dx : Addr) (fs : List (Str × V)), xs = [.ref a, c] ∧ (∀ u, RelV c u → u = cv) ∧ PySem.W.kitOne K (.ref D) cv = some b ∧ cls = .ref D ∧ d = some dx ∧ H dx = some (.xd fs) ∧ Q (.bl b) H
/-- what such an __init__ asks of the program -/
structure SupP (P : Program) : Prop where
  file : P.main.file = "/claim/cut.py"
  top : (P.main.scope.names.lookup ("super" : Str)).isSome = false
/-- the defs that close over their class, as they are seen -/
def SupSays (sup : List DefG) (K : PySem.W.Frag) : Prop := sup.map (fun d => fnS K (d.at_ K)) = sup.map DefG.valS
theorem SupSays.at_ {sup : List DefG} {K : PySem.W.Frag} (c : SupSays sup K) (i : Nat) {d : DefG} (h : sup[i]? = some d := by rfl) : fnS K (d.at_ K) = d.valS := by
  have e : (sup.map fun d => fnS K (d.at_ K))[i]? = (sup.map DefG.valS)[i]? := by rw [show sup.map (fun d => fnS K (d.at_ K)) = sup.map DefG.valS from c]
  rw [List.getElem?_map, List.getElem?_map, h] at e
  exact Option.some.inj e
end CB

namespace CB
open PySem PySem.Spec PyProof.Rows L2
/-! ### calls of own defs in an except suite -/
theorem passLN {X : Cx} : Passes (L2N.CX X.prog X.w) X E0 := fun _ _ _ _ _ _ _ ⟨_, _, _, _, _, _, _, _, _, _, _, _, z⟩ => z.elim
/-- what a def promises to a caller in an except suite -/
def OkH (P : Program) (w : World) (K : PySem.W.Frag) (mg : Str → Option Value) (base : Heap) (k : Nat) (a : Addr) (ps : List Str) (sp : Sp) : Prop :=
  ∃ fd : FuncData, L2H.FnH P w K mg base (L2.CX P w) k a fd ps sp ∧ Binds K fd ps [] ∧ PySem.W.keepIn K (.ref a) = true
/-- a def that raises, its exceptions without a context -/
def OkN (P : Program) (w : World) (K : PySem.W.Frag) (mg : Str → Option Value) (base : Heap) (k : Nat) (a : Addr) (ps : List Str) (sp : Sp) : Prop :=
  ∃ fd : FuncData, FnOk P w K mg base (L2N.CX P w) k a fd ps sp ∧ Binds K fd ps [] ∧ PySem.W.keepIn K (.ref a) = true
theorem okN_of {P : Program} {w : World} {K : PySem.W.Frag} {mg : Str → Option Value} {base : Heap} {k : Nat} {d : DefG} {N ps : List Str} {sp : Sp} (D : Dn K d) (hd : d.dfl = []) (S : FnScope N ps d.scope)
    (hb : ∀ (kV doc pm : Value) (an : Option Addr) (cdv ct : Value) (us : List Value), us.length = ps.length → bindArgs (PySem.W.fnOf d.name d.qual d.params d.body d.scope .none kV doc pm an cdv ct) ⟨us, []⟩ = pure (ps.zip us))
    (len : ∀ vs H Q E, sp vs H Q E → vs.length = ps.length)
    (hbody : ∀ (cdv : Value) (A : Around) (outer : List Env) (s : Shared) (H : Hp) (vs : List V) (Q : VK) (E : XK), Room k (A.deeper (envOfC d.qual d.scope s.heap.objs.size (d.at_ K) cdv)) → sp vs H Q E →
      ∃ t, PSs (cxOf (L2N.CX P w) P w K mg base N d.qual d.scope (d.at_ K) cdv A outer s H E) d.body t ∧ t { nx := fun _ H' => Q .non H', rt := Q } (start N vs) H) :
    OkN P w K mg base (k + 1) (d.at_ K) ps sp := by
  obtain ⟨fd, F⟩ := D
  have e1 : d.dvs K = [] := by unfold DefG.dvs; rw [hd]; rfl
  rw [e1] at F
  exact ⟨fd, F.ok S len hbody, F.bindsN hb, F.kp⟩
section
variable {X : Cx} {e : Expr} {es : List Expr} {ta : TA} {p pos : Pos}
/-- C(e, ..) of an own exception with an own __init__, made where no other is handled: it has no context -/
theorem pmkN {CX : CXT} {x : Str} {C fI : Addr} {k : Nat} {fd : FuncData} {ps : List Str} {sp : Sp} (T : OexC X.K C) (iC : PySem.W.findIn X.K (.ref C) "__init__" = some (some (.ref fI))) (tI : PySem.W.typeIn X.K (.ref fI) = some (.type "function"))
    (F1 : FnOk X.prog X.w X.K X.mg X.base CX k fI fd ps sp) (hr : Room (k + 1) X.A) (hb : Binds X.K fd ps []) (hx : Passes CX X (fun _ _ _ => False)) (hg : Gl X x) (hm : X.mg x = some (.ref C)) (ha : PA X (e :: es) ta)
    (hdb : (x == ("__debug__" : Str)) = false := by decide) (he : starEach (e :: es) X.env = (false, eval e X.env) :: starEach es X.env := by rfl) (hpl : (backTo pos (starEach es X.env)).any (·.1) = false := by rfl) :
    L2N.PMk X (.Call (.Name x p) (e :: es) [] pos) (tMkO C sp [] ta) := fun pins s σ H Q I h => by
  obtain ⟨_, _, _, _, bm, _, _, _, _, _, _, _, _, _, _, hC, hbm⟩ := T.cls
  refine wpAny_Call_Name_kw (ld_glob I hg hm ?_ hdb)
  refine PySem.W.callWith_K (h₀ := X.base) I.ok.mod.kin T.kC (thn (ha.run pos pins s σ H _ I h) fun us s1 ⟨vs, H1, I1, r1, hz, q1⟩ => ⟨I1.kIn, ?_⟩) he hpl
  show wpAny _ _ (call (.ref C) us) _ _ _
  obtain ⟨hp, g, dr, tk, os⟩ := s1
  obtain ⟨a, rfl⟩ : ∃ a, a = hp.objs.size + 1 := ⟨_, rfl⟩
  have le : hp.objs.size ≤ hp.objs.size + 1 := by omega
  have hq := q1 _ (I1.hok.fresh le)
  have kk : ∀ b o, hp.get? b = some o → ((hp.push (PySem.W.kdv_tup us)).push (PySem.HandSPX.excO C hp.objs.size)).get? b = some o := fun b o z => Heap.get?_push_of_some _ (Heap.get?_push_of_some _ z)
  have at_ : ((hp.push (PySem.W.kdv_tup us)).push (PySem.HandSPX.excO C hp.objs.size)).get? (hp.objs.size + 1) = some (PySem.HandSPX.excO C hp.objs.size) := by heap_get
  have I2 := I1.laid (t' := tk) (a := hp.objs.size + 1) (o := exo (hp.objs.size + 1) C none) kk le (exo_ok at_)
  have r2 : Vals (V.ref (hp.objs.size + 1) :: vs) (Value.ref (hp.objs.size + 1) :: us) := .cons rfl r1
  rw [List.append_nil] at hq
  have hl : (Value.ref (hp.objs.size + 1) :: us).length = ps.length := r2.length.symm.trans (F1.len _ _ _ _ hq)
  have hus : us.length ≤ sizeLine := by
    rw [← Paired.length r1, sizeLine_eq]
    omega
  have b2 := hb _ (Value.ref (hp.objs.size + 1) :: us) I2.kIn (by rw [List.append_nil]; exact hl)
  rw [List.append_nil] at b2
  refine wpAny_call (PySem.HandSPX.call_own F.excBase_ValueError (fun Y => PySem.HandSPX.refsVE_contains Y bm hbm) (I1.kIn _ _ hC) (PySem.W.looks_findIn I1.kIn iC) (fun self => PySem.W.bind_fn I1.kIn self tI) hus
    (codeAny_mono (F1.run _ X.stack _ _ _ _ _ _ (fun _ _ _ => False) (hr.make C us []) (I2.env0.make C us []) b2 r2 hq) fun r s' hq' => ?_))
  match r, hq' with
  | .error er, hq' => exact hx pins σ _ _ er s' I2 hq'
  | .ok (.ret u), ⟨v, H2, o2, bare2, un2, hok2, rv, ev, d, fs, ea, ed, hd1, q2⟩ =>
    subst ev
    obtain ⟨h2, g2, d2, t2, os'⟩ := s'
    obtain ⟨t0, G, J, kG, ge, hoe, na⟩ := mk_end0 (d2 := d2) (t2 := t2) I1 le kk un2 hok2 o2 bare2 ea ed hd1
    exact ⟨rv, hp.objs.size + 1, _, _, ⟨G, g2, d2, t2, os'⟩, _, .ref C, some d, rfl, J, kG, ge, hoe, ⟨rfl, rfl, fun vs hv => by cases hv; rfl⟩, rfl, rfl, na, rfl, bare2, raises_own T.exC T.tyC, q2⟩
end
end CB

namespace CB
open PySem PySem.Spec PyProof.Rows L2
/-! ### terms: products of the ratio's values -/
theorem evLp (z : Int) (us : List Int) : Ev (pl us) z (evL z us) := by
  rw [evL_e1 z us us.length (Nat.le_refl _)]
  exact Ev.of (a := pl us) (ff_fz us) z
/-- the one form of a quotient, by values -/
theorem Qn.ev {xs ys as bs : List Int} {a b : Int} (q : Qn (ff xs) (ff ys) as a bs b) (z : Int) : b * (evL z as * evL z ys) = a * (evL z xs * evL z bs) := by
  have e : pc b * (pl as * pl ys) = pc a * (pl xs * pl bs) := PS.ext q.eq
  have h1 := (Ev.pc b z).mul ((evLp z as).mul (evLp z ys))
  rw [e] at h1
  exact h1.uniq ((Ev.pc a z).mul ((evLp z xs).mul (evLp z bs)))
theorem dv_root {as xs : List Int} {z : Int} (h : Dv (ff as) (ff xs)) (r : evL z as = 0) : evL z xs = 0 := by
  obtain ⟨m, s, N, m0, fs, e⟩ := h
  have e2 : pc m * pl xs = (⟨s⟩ : PS) * pl as := PS.ext (funext fun i => by
    show cf (cst m) (ff xs) i = cf s (ff as) i
    rw [cst_cf]
    exact e i)
  have h1 := (Ev.pc m z).mul (evLp z xs)
  rw [e2] at h1
  have h2 := h1.uniq ((Ev.of (a := (⟨s⟩ : PS)) (N := N) fs z).mul (evLp z as))
  rw [r, Int.mul_zero] at h2
  exact (Int.mul_eq_zero.mp h2).resolve_left m0
theorem Qn.nz {xs ys as bs : List Int} {a b : Int} (q : Qn (ff xs) (ff ys) as a bs b) {z : Int} (hx : evL z xs ≠ 0) (hy : evL z ys ≠ 0) : evL z as ≠ 0 ∧ evL z bs ≠ 0 :=
  ⟨fun r => hx (dv_root (q.as_dv (ff_fz xs) (ff_fz ys)) r), fun r => hy (dv_root (q.bs_dv (ff_fz xs) (ff_fz ys)) r)⟩
/-- the pairs of a ratio at s, s + 1, .. -/
def stL (as : List Int) (a : Int) (bs : List Int) (b s : Int) : Nat → List (Int × Int)
  | 0 => []
  | n + 1 => stL as a bs b s n ++ [(evL (s + n) as * b, evL (s + n) bs * a)]
theorem stL_len (as : List Int) (a : Int) (bs : List Int) (b s : Int) : ∀ n, (stL as a bs b s n).length = n
  | 0 => rfl
  | n + 1 => by rw [stL, List.length_append, stL_len as a bs b s n]; rfl
theorem stL_mem {as bs : List Int} {a b s : Int} {p : Int × Int} : ∀ {n}, p ∈ stL as a bs b s n → ∃ i, i < n ∧ p = (evL (s + (i : Int)) as * b, evL (s + (i : Int)) bs * a)
  | 0, h => by cases h
  | n + 1, h => by
    rcases List.mem_append.mp h with h | h
    · obtain ⟨i, hi, e⟩ := stL_mem h
      exact ⟨i, by omega, e⟩
    · exact ⟨n, by omega, List.mem_singleton.mp h⟩
def prA : List (Int × Int) → Int
  | [] => 1
  | p :: r => p.1 * prA r
def prB : List (Int × Int) → Int
  | [] => 1
  | p :: r => p.2 * prB r
theorem prA_app : ∀ xs ys, prA (xs ++ ys) = prA xs * prA ys
  | [], ys => by show prA ys = 1 * prA ys; rw [Int.one_mul]
  | p :: r, ys => by show p.1 * prA (r ++ ys) = p.1 * prA r * prA ys; rw [prA_app r ys, Int.mul_assoc]
theorem prB_app : ∀ xs ys, prB (xs ++ ys) = prB xs * prB ys
  | [], ys => by show prB ys = 1 * prB ys; rw [Int.one_mul]
  | p :: r, ys => by show p.2 * prB (r ++ ys) = p.2 * prB r * prB ys; rw [prB_app r ys, Int.mul_assoc]
/-- the sizes of pairs -/
structure StB (S : Nat) (ps : List (Int × Int)) : Prop where
  a : ∀ p ∈ ps, p.1.natAbs < 2 ^ S
  b : ∀ p ∈ ps, p.2.natAbs < 2 ^ S
theorem StB.take {S n : Nat} {ps : List (Int × Int)} (h : StB S ps) : StB S (ps.take n) := ⟨fun p hp => h.a p (List.mem_of_mem_take hp), fun p hp => h.b p (List.mem_of_mem_take hp)⟩
theorem StB.drop {S n : Nat} {ps : List (Int × Int)} (h : StB S ps) : StB S (ps.drop n) := ⟨fun p hp => h.a p (List.mem_of_mem_drop hp), fun p hp => h.b p (List.mem_of_mem_drop hp)⟩
theorem prA_bits {S : Nat} : ∀ {ps : List (Int × Int)}, (∀ p ∈ ps, p.1.natAbs < 2 ^ S) → (prA ps).natAbs < 2 ^ (S * ps.length + 1)
  | [], _ => Nat.lt_of_lt_of_le (show 1 < 2 ^ 1 by decide) (Nat.pow_le_pow_right (by decide) (by omega))
  | p :: r, h => by
    have ih := prA_bits (ps := r) fun x hx => h x (List.mem_cons_of_mem _ hx)
    have z := abs_lt_mul (h p (List.mem_cons_self ..)) ih
    exact abs_mono z (by rw [List.length_cons, Nat.mul_succ]; omega)
theorem prB_bits {S : Nat} : ∀ {ps : List (Int × Int)}, (∀ p ∈ ps, p.2.natAbs < 2 ^ S) → (prB ps).natAbs < 2 ^ (S * ps.length + 1)
  | [], _ => Nat.lt_of_lt_of_le (show 1 < 2 ^ 1 by decide) (Nat.pow_le_pow_right (by decide) (by omega))
  | p :: r, h => by
    have ih := prB_bits (ps := r) fun x hx => h x (List.mem_cons_of_mem _ hx)
    have z := abs_lt_mul (h p (List.mem_cons_self ..)) ih
    exact abs_mono z (by rw [List.length_cons, Nat.mul_succ]; omega)
theorem prB_nz : ∀ {ps : List (Int × Int)}, (∀ p ∈ ps, p.2 ≠ 0) → prB ps ≠ 0
  | [], _ => by decide
  | p :: r, h => Int.mul_ne_zero (h p (List.mem_cons_self ..)) (prB_nz fun x hx => h x (List.mem_cons_of_mem _ hx))
/-- the product of the values at s, .., s + n - 1 -/
def prV (xs : List Int) (s : Int) : Nat → Int
  | 0 => 1
  | n + 1 => prV xs s n * evL (s + n) xs
theorem prV_nz {xs : List Int} {s : Int} (h : ∀ z, s ≤ z → evL z xs ≠ 0) : ∀ n, prV xs s n ≠ 0
  | 0 => show (1 : Int) ≠ 0 by decide
  | n + 1 => Int.mul_ne_zero (prV_nz h n) (h _ (by omega))
theorem prQ {xs ys as bs : List Int} {a b : Int} (q : Qn (ff xs) (ff ys) as a bs b) (s : Int) : ∀ n, prA (stL as a bs b s n) * prV ys s n = prV xs s n * prB (stL as a bs b s n)
  | 0 => rfl
  | n + 1 => by
    have ih := prQ q s n
    have e := q.ev (s + n)
    rw [stL, prA_app, prB_app, prV, prV]
    show prA (stL as a bs b s n) * (evL (s + n) as * b * 1) * (prV ys s n * evL (s + n) ys) = prV xs s n * evL (s + n) xs * (prB (stL as a bs b s n) * (evL (s + n) bs * a * 1))
    rw [Int.mul_one, Int.mul_one]
    generalize prA (stL as a bs b s n) = A at ih ⊢
    generalize prB (stL as a bs b s n) = B at ih ⊢
    generalize prV ys s n = Y at ih ⊢
    generalize prV xs s n = X at ih ⊢
    generalize evL (s + n) as = p at e ⊢
    generalize evL (s + n) bs = r at e ⊢
    generalize evL (s + n) ys = y at e ⊢
    generalize evL (s + n) xs = x at e ⊢
    calc A * (p * b) * (Y * y) = (A * Y) * (b * (p * y)) := by grind
      _ = (X * B) * (a * (x * r)) := by rw [ih, e]
      _ = X * x * (B * (r * a)) := by grind
/-- the sum of the first products, over the product of the second parts -/
def prT : List (Int × Int) → Int
  | [] => 0
  | p :: r => p.2 * prB r + p.1 * prT r
/-! ### lists of pairs -/
abbrev prS (p : Int × Int) : HO := .tup [.int p.1, .int p.2]
structure StL (H : Hp) (xs : List V) (ps : List (Int × Int)) : Prop where
  len : xs.length = ps.length
  at_ : ∀ (i : Nat) (p : Int × Int), ps[i]? = some p → ∃ a, xs[i]? = some (.ref a) ∧ H a = some (prS p)
theorem StL.mono {H H' : Hp} {xs : List V} {ps : List (Int × Int)} (f : StL H xs ps) (sm : Same H H') : StL H' xs ps :=
  ⟨f.len, fun i q h => by obtain ⟨a, e, h2⟩ := f.at_ i q h; exact ⟨a, e, sm _ _ h2⟩⟩
theorem StL.nil {H : Hp} : StL H [] [] := ⟨rfl, fun i q h => by simp at h⟩
theorem StL.snoc {H : Hp} {xs : List V} {ps : List (Int × Int)} {a : Addr} {p : Int × Int} (f : StL H xs ps) (h : H a = some (prS p)) : StL H (xs ++ [.ref a]) (ps ++ [p]) := by
  refine ⟨by simp [f.len], fun i q hq => ?_⟩
  by_cases c : i < ps.length
  · rw [List.getElem?_append_left c] at hq
    obtain ⟨b, e, h2⟩ := f.at_ i q hq
    exact ⟨b, by rw [List.getElem?_append_left (by rw [f.len]; exact c)]; exact e, h2⟩
  · rw [List.getElem?_append_right (by omega)] at hq
    have c0 : i - ps.length = 0 := by
      refine Decidable.byContradiction fun z => ?_
      rw [List.getElem?_eq_none (by simp; omega)] at hq
      cases hq
    rw [c0] at hq
    cases hq
    exact ⟨a, by rw [List.getElem?_append_right (by rw [f.len]; omega), f.len, c0]; rfl, h⟩
theorem StL.upd {H : Hp} {xs : List V} {ps : List (Int × Int)} {D : Addr} {ys : List V} {o : HO} (f : StL H xs ps) (h : H D = some (.lst ys)) : StL (upd H D o) xs ps :=
  ⟨f.len, fun i q e => by
    obtain ⟨a, e1, e2⟩ := f.at_ i q e
    have ne : a ≠ D := fun z => by rw [z, h] at e2; cases e2
    exact ⟨a, e1, by rw [upd_ne ne]; exact e2⟩⟩
theorem StL.take {H : Hp} {xs : List V} {ps : List (Int × Int)} {n : Nat} (f : StL H xs ps) : StL H (xs.take n) (ps.take n) := by
  refine ⟨by rw [List.length_take, List.length_take, f.len], fun i p h => ?_⟩
  rw [List.getElem?_take] at h ⊢
  split at h
  · rename_i c
    rw [if_pos c]
    exact f.at_ i p h
  · cases h
theorem StL.drop {H : Hp} {xs : List V} {ps : List (Int × Int)} {n : Nat} (f : StL H xs ps) : StL H (xs.drop n) (ps.drop n) := by
  refine ⟨by rw [List.length_drop, List.length_drop, f.len], fun i p h => ?_⟩
  rw [List.getElem?_drop] at h ⊢
  exact f.at_ _ p h
end CB

namespace CB
open PySem PySem.Spec PyProof.Rows L2
/-! ### sizes of the one form up to degree 8 -/
theorem monic_bits8 {bs : List Int} {β : Int} {A : Nat → Int} {n H : Nat} (sb : Pq bs β bs β) (bne : bs ≠ []) (mon : bs.getD (bs.length - 1) 0 = β) (dA : Dg A n) (hH : ∀ i, (A i).natAbs ≤ H) (nm : n + (bs.length - 1) ≤ 16) (h : Dv (fun i => bs.getD i 0) A) (i : Nat) : (bs.getD i 0).natAbs ≤ H * sg 8 (n + 1) * 18 ^ (bs.length - 1) := by
  have bt : bs.getD (bs.length - 1) 0 ≠ 0 := sb.last.resolve_left bne
  have bl : 0 < bs.length := List.length_pos_iff.mpr bne
  have df : Dg (fun i => bs.getD i 0) (bs.length - 1) := ⟨bt, fun j hj => getD_end (by omega)⟩
  obtain ⟨c, g, c0, pg, dg, e, hb⟩ := prim_bits8 df dA hH nm h
  have c1 : c ∣ 1 := sb.cop c ⟨g (bs.length - 1), by rw [← mon]; exact e _⟩ fun j => ⟨g j, e j⟩
  have ca : c.natAbs = 1 := by
    have := Int.natAbs_dvd_natAbs.mpr c1
    exact Nat.dvd_one.mp this
  have e1 : bs.getD i 0 = c * g i := e i
  rw [e1, Int.natAbs_mul, ca, Nat.one_mul]
  exact hb i
theorem le_mono8 {H n m N M t : Nat} (h : n ≤ N) (k : m ≤ M) : H * sg 8 (n + 1) * 18 ^ m ≤ H * sg 8 (N + 1) * 18 ^ M :=
  Nat.mul_le_mul (Nat.mul_le_mul_left _ (sg_le (by omega))) (Nat.pow_le_pow_right (by decide) k)
/-- the sizes of the one form; LX, LY: bounds of the leading coefficients -/
structure Qs8 (N M HX HY LX LY : Nat) (as : List Int) (a : Int) (bs : List Int) (b : Int) : Prop where
  la : as.length ≤ N + 1
  lb : bs.length ≤ M + 1
  ba : ∀ i, (as.getD i 0).natAbs ≤ LX * (HX * sg 8 (N + 1) * 18 ^ N)
  bb : ∀ i, (bs.getD i 0).natAbs ≤ HY * sg 8 (M + 1) * 18 ^ M
  ga : a.natAbs ≤ max 1 (HX * sg 8 (N + 1) * 18 ^ N * LY)
  gb : b.natAbs ≤ HY * sg 8 (M + 1) * 18 ^ M
end CB

namespace CB
open PySem PySem.Spec PyProof.Rows L2
/-! ### a divisor's coefficients, by the weighted squares: k! c_k ^ 2 -/
def xv : PS := ⟨xp 1⟩
theorem xv_at (f : PS) (k : Nat) : (xv * f).f k = if 1 ≤ k then f.f (k - 1) else 0 := cf_xp f.f 1 k
theorem xv_d : xv.d = 1 := PS.ext (funext fun i => by
  show ((i : Int) + 1) * xp 1 (i + 1) = 1 * xp 0 i
  unfold xp
  by_cases c : i = 0
  · subst c; rfl
  · rw [if_neg (by omega), if_neg c, Int.mul_zero, Int.mul_zero])
/-- the derivatives over a!, of the polynomial with these coefficients -/
def hE : List Int → Nat → PS
  | [], _ => 0
  | c :: r, 0 => pc c + xv * hE r 0
  | c :: r, a + 1 => xv * hE r (a + 1) + hE r a
/-- .. as operators, the derivative in the variable's place -/
def hD : List Int → Nat → PS → PS
  | [], _, _ => 0
  | c :: r, 0, f => pc c * f + (hD r 0 f).d
  | c :: r, a + 1, f => (hD r (a + 1) f).d + hD r a f
theorem zero_d : (0 : PS).d = 0 := PS.d_pc 0
theorem pc_succ (a : Nat) : pc ((a : Int) + 1) = pc a + 1 := pc_add _ _
theorem hE_d : ∀ (P : List Int) (a : Nat), (hE P a).d = pc ((a : Int) + 1) * hE P (a + 1)
  | [], a => by show (0 : PS).d = _ * 0; rw [zero_d]; grind
  | c :: r, 0 => by
    show (pc c + xv * hE r 0).d = pc (((0 : Nat) : Int) + 1) * (xv * hE r (0 + 1) + hE r 0)
    rw [PS.d_add, PS.d_pc, PS.d_mul, xv_d, hE_d r 0]
    have : pc (((0 : Nat) : Int) + 1) = 1 := rfl
    rw [this]
    grind
  | c :: r, a + 1 => by
    show (xv * hE r (a + 1) + hE r a).d = pc (((a + 1 : Nat) : Int) + 1) * (xv * hE r (a + 1 + 1) + hE r (a + 1))
    rw [PS.d_add, PS.d_mul, xv_d, hE_d r (a + 1), hE_d r a, pc_succ (a + 1)]
    have : pc ((a : Int) + 1) = pc ((a + 1 : Nat) : Int) := rfl
    rw [this]
    grind
theorem hD_d : ∀ (P : List Int) (a : Nat) (f : PS), (hD P a f).d = hD P a f.d
  | [], _, _ => zero_d
  | c :: r, 0, f => by
    show (pc c * f + (hD r 0 f).d).d = pc c * f.d + (hD r 0 f.d).d
    rw [PS.d_add, PS.d_mul, PS.d_pc, hD_d r 0 f]
    grind
  | c :: r, a + 1, f => by
    show ((hD r (a + 1) f).d + hD r a f).d = (hD r (a + 1) f.d).d + hD r a f.d
    rw [PS.d_add, hD_d r (a + 1) f, hD_d r a f]
theorem hD_big : ∀ (P : List Int) (a : Nat) (f : PS), P.length ≤ a → hD P a f = 0
  | [], _, _, _ => rfl
  | c :: r, 0, f, h => by cases h
  | c :: r, a + 1, f, h => by
    show (hD r (a + 1) f).d + hD r a f = 0
    have h2 : r.length ≤ a := Nat.le_of_succ_le_succ h
    rw [hD_big r (a + 1) f (by omega), hD_big r a f h2, zero_d]
    grind
theorem hD_top : ∀ (P : List Int) (m : Nat) (f : PS), P.length = m + 1 → hD P m f = pc (P.getD m 0) * f
  | [], _, _, h => by cases h
  | [c], 0, f, _ => by
    show pc c * f + (0 : PS).d = pc c * f
    rw [zero_d]
    grind
  | c :: x :: r, 0, f, h => by cases h
  | c :: r, m + 1, f, h => by
    have h2 : r.length = m + 1 := Nat.succ.inj h
    show (hD r (m + 1) f).d + hD r m f = pc (r.getD m 0) * f
    rw [hD_big r (m + 1) f (by omega), hD_top r m f h2, zero_d]
    grind
def fa : Nat → Int
  | 0 => 1
  | n + 1 => ((n : Int) + 1) * fa n
theorem fa_pos : ∀ n, 1 ≤ fa n
  | 0 => by decide
  | n + 1 => by
    have h := fa_pos n
    show 1 ≤ ((n : Int) + 1) * fa n
    have : 1 * fa n ≤ ((n : Int) + 1) * fa n := Int.mul_le_mul_of_nonneg_right (by omega) (by omega)
    omega
def psS (F : Nat → PS) : Nat → PS
  | 0 => 0
  | n + 1 => psS F n + F n
theorem psS_congr {F G : Nat → PS} : ∀ n, (∀ i, i < n → F i = G i) → psS F n = psS G n
  | 0, _ => rfl
  | n + 1, h => by
    show psS F n + F n = psS G n + G n
    rw [psS_congr n fun i hi => h i (by omega), h n (by omega)]
theorem psS_add (F G : Nat → PS) : ∀ n, psS (fun i => F i + G i) n = psS F n + psS G n
  | 0 => by show (0 : PS) = 0 + 0; grind
  | n + 1 => by
    show psS (fun i => F i + G i) n + (F n + G n) = psS F n + F n + (psS G n + G n)
    rw [psS_add F G n]
    grind
theorem psS_first (F : Nat → PS) : ∀ n, psS F (n + 1) = F 0 + psS (fun i => F (i + 1)) n
  | 0 => by show (0 : PS) + F 0 = F 0 + 0; grind
  | n + 1 => by
    show psS F (n + 1) + F (n + 1) = F 0 + (psS (fun i => F (i + 1)) n + F (n + 1))
    rw [psS_first F n]
    grind
theorem psS_d (F : Nat → PS) : ∀ n, (psS F n).d = psS (fun i => (F i).d) n
  | 0 => zero_d
  | n + 1 => by
    show (psS F n + F n).d = psS (fun i => (F i).d) n + (F n).d
    rw [PS.d_add, psS_d F n]
/-- the operator of a product -/
theorem hD_mul (R : List Int) (f : PS) : ∀ (P : List Int) (K : Nat), P.length ≤ K → hD P 0 (hE R 0 * f) = psS (fun a => pc (fa a) * (hE R a * hD P a f)) K
  | [], K, _ => by
    have z : ∀ n, psS (fun a => pc (fa a) * (hE R a * hD [] a f)) n = 0 := fun n => by
      induction n with
      | zero => rfl
      | succ n ih =>
        show psS (fun a => pc (fa a) * (hE R a * hD [] a f)) n + pc (fa n) * (hE R n * 0) = 0
        rw [ih]
        grind
    rw [z]
    rfl
  | c :: r, 0, h => by cases h
  | c :: r, K + 1, h => by
    have hr : r.length ≤ K := Nat.le_of_succ_le_succ h
    have ih := hD_mul R f r K hr
    show pc c * (hE R 0 * f) + (hD r 0 (hE R 0 * f)).d = _
    rw [ih, psS_d, psS_first]
    have e1 : psS (fun i => (pc (fa i) * (hE R i * hD r i f)).d) K = psS (fun i => pc (fa (i + 1)) * (hE R (i + 1) * hD r i f) + pc (fa i) * (hE R i * (hD r i f).d)) K := psS_congr K fun i _ => by
      rw [PS.d_mul, PS.d_pc, PS.d_mul, hE_d]
      have : pc (fa (i + 1)) = pc ((i : Int) + 1) * pc (fa i) := pc_mul _ _
      rw [this]
      grind
    have e2 : psS (fun i => pc (fa (i + 1)) * (hE R (i + 1) * hD (c :: r) (i + 1) f)) K = psS (fun i => pc (fa (i + 1)) * (hE R (i + 1) * hD r i f) + pc (fa (i + 1)) * (hE R (i + 1) * (hD r (i + 1) f).d)) K := psS_congr K fun i _ => by
      show pc (fa (i + 1)) * (hE R (i + 1) * ((hD r (i + 1) f).d + hD r i f)) = _
      grind
    rw [e1, e2, psS_add, psS_add]
    -- the shifted sums
    have e3 := psS_first (fun i => pc (fa i) * (hE R i * (hD r i f).d)) K
    have e4 : psS (fun i => pc (fa i) * (hE R i * (hD r i f).d)) (K + 1) = psS (fun i => pc (fa i) * (hE R i * (hD r i f).d)) K := by
      show psS (fun i => pc (fa i) * (hE R i * (hD r i f).d)) K + pc (fa K) * (hE R K * (hD r K f).d) = _
      rw [hD_big r K f hr, zero_d]
      grind
    rw [e4] at e3
    rw [e3]
    show _ = pc (fa 0) * (hE R 0 * (pc c * f + (hD r 0 f).d)) + _
    have f0 : pc (fa 0) = 1 := rfl
    rw [f0]
    grind
/-- the weighted product -/
def ip (f g : PS) (N : Nat) : Int := sumTo (fun k => fa k * (f.f k * g.f k)) N
theorem ip_comm (f g : PS) (N : Nat) : ip f g N = ip g f N := sumTo_congr N fun i _ => by rw [Int.mul_comm (f.f i)]
theorem ip_add (f g h : PS) (N : Nat) : ip f (g + h) N = ip f g N + ip f h N := by
  unfold ip
  rw [← sumTo_add]
  exact sumTo_congr N fun i _ => by
    show fa i * (f.f i * (g.f i + h.f i)) = _
    grind
theorem ip_pc (f g : PS) (c : Int) (N : Nat) : ip f (pc c * g) N = c * ip f g N := by
  unfold ip
  rw [← sumTo_mul]
  exact sumTo_congr N fun i _ => by
    show fa i * (f.f i * cf (cst c) g.f i) = _
    rw [cst_cf]
    grind
theorem ip_zero (f : PS) (N : Nat) : ip f 0 N = 0 := sumTo_zero N fun i _ => by rw [ps_zero_f, Int.mul_zero, Int.mul_zero]
theorem d_fz {f : PS} {N : Nat} (h : Fz f.f N) : Fz f.d.f N := fun i hi => by
  show ((i : Int) + 1) * f.f (i + 1) = 0
  rw [h (i + 1) (by omega), Int.mul_zero]
theorem ip_x {f : PS} (g : PS) {N : Nat} (h : Fz f.f N) : ip f (xv * g) N = ip f.d g N := by
  cases N with
  | zero => rfl
  | succ M =>
    unfold ip
    rw [sumTo_first]
    show fa 0 * (f.f 0 * (xv * g).f 0) + _ = sumTo (fun k => fa k * (f.d.f k * g.f k)) M + fa M * (f.d.f M * g.f M)
    have z : f.d.f M = 0 := by show ((M : Int) + 1) * f.f (M + 1) = 0; rw [h (M + 1) (Nat.le_refl _), Int.mul_zero]
    rw [z, xv_at, if_neg (by decide), Int.zero_mul, Int.mul_zero, Int.mul_zero, Int.mul_zero, Int.zero_add, Int.add_zero]
    refine sumTo_congr M fun i _ => ?_
    rw [xv_at, if_pos (by omega), Nat.add_sub_cancel]
    show ((i : Int) + 1) * fa i * (f.f (i + 1) * g.f i) = fa i * (((i : Int) + 1) * f.f (i + 1) * g.f i)
    grind
theorem ip_adj : ∀ (P : List Int) (a : Nat) (f g : PS) (N : Nat), Fz f.f N → ip f (hE P a * g) N = ip (hD P a f) g N
  | [], a, f, g, N, _ => by
    show ip f (0 * g) N = ip 0 g N
    rw [ps_zero_mul, ip_zero, ip_comm, ip_zero]
  | c :: r, 0, f, g, N, h => by
    show ip f ((pc c + xv * hE r 0) * g) N = ip (pc c * f + (hD r 0 f).d) g N
    have e : (pc c + xv * hE r 0) * g = pc c * g + xv * (hE r 0 * g) := by grind
    rw [e, ip_add, ip_pc, ip_x _ h, ip_adj r 0 f.d g N (d_fz h), ip_comm (pc c * f + (hD r 0 f).d), ip_add, ip_pc, ip_comm g f, hD_d, ip_comm g]
  | c :: r, a + 1, f, g, N, h => by
    show ip f ((xv * hE r (a + 1) + hE r a) * g) N = ip ((hD r (a + 1) f).d + hD r a f) g N
    have e : (xv * hE r (a + 1) + hE r a) * g = xv * (hE r (a + 1) * g) + hE r a * g := by grind
    rw [e, ip_add, ip_x _ h, ip_adj r (a + 1) f.d g N (d_fz h), ip_adj r a f g N h, ip_comm _ g, ip_comm (hD r a f) g, ip_comm (_ + _) g, ip_add, hD_d]
theorem ip_psS (f : PS) (F : Nat → PS) (N : Nat) : ∀ n, ip f (psS F n) N = sumTo (fun a => ip f (F a) N) n
  | 0 => ip_zero f N
  | n + 1 => by
    show ip f (psS F n + F n) N = sumTo (fun a => ip f (F a) N) n + ip f (F n) N
    rw [ip_add, ip_psS f F N n]
theorem ip_nn (f : PS) (N : Nat) : 0 ≤ ip f f N := sumTo_nn N fun i _ => by
  have h := fa_pos i
  have : 0 ≤ f.f i * f.f i := (Int.le_total 0 (f.f i)).elim (fun h => Int.mul_nonneg h h) (fun h => Int.mul_nonneg_of_nonpos_of_nonpos h h)
  exact Int.mul_nonneg (by omega) this
theorem sumTo_ge {F : Nat → Int} {k : Nat} : ∀ n, k < n → (∀ i, i < n → 0 ≤ F i) → F k ≤ sumTo F n
  | 0, h, _ => by cases h
  | n + 1, h, p => by
    show F k ≤ sumTo F n + F n
    have q := p n (by omega)
    by_cases c : k = n
    · subst c
      have := sumTo_nn (F := F) k fun i hi => p i (by omega)
      omega
    · have := sumTo_ge (F := F) (k := k) n (by omega) fun i hi => p i (by omega)
      omega
/-- the weighted square of a product -/
theorem ip_mul (P : List Int) (m : Nat) (hP : P.length = m + 1) (f : PS) {N : Nat} (hf : Fz f.f N) (hR : Fz (hE P 0 * f).f N) : fa m * (P.getD m 0 * P.getD m 0) * ip f f N ≤ ip (hE P 0 * f) (hE P 0 * f) N := by
  rw [ip_adj P 0 _ f N hR, hD_mul P f P (m + 1) (by omega), ip_comm (psS _ _) f, ip_psS]
  have e : ∀ a, ip f (pc (fa a) * (hE P a * hD P a f)) N = fa a * ip (hD P a f) (hD P a f) N := fun a => by rw [ip_pc, ip_adj P a f _ N hf]
  rw [sumTo_congr (m + 1) fun a _ => e a]
  refine Int.le_trans (Int.le_of_eq ?_) (sumTo_ge (k := m) (m + 1) (by omega) fun a _ => Int.mul_nonneg (by have := fa_pos a; omega) (ip_nn _ N))
  rw [hD_top P m f hP, ip_pc, ip_comm (pc _ * f) f, ip_pc]
  grind
theorem hE_pl : ∀ P : List Int, hE P 0 = pl P
  | [] => PS.ext (funext fun i => by show (0 : PS).f i = _; rw [ps_zero_f]; rfl)
  | c :: r => PS.ext (funext fun i => by
    show cst c i + (xv * hE r 0).f i = (c :: r).getD i 0
    rw [xv_at, hE_pl r]
    unfold cst
    cases i with
    | zero => rw [if_neg (by decide)]; show c * xp 0 0 + 0 = c; rw [show xp 0 0 = 1 from rfl]; omega
    | succ i =>
      rw [if_pos (by omega), Nat.add_sub_cancel]
      show c * xp 0 (i + 1) + r.getD i 0 = r.getD i 0
      rw [show xp 0 (i + 1) = 0 from if_neg (by omega), Int.mul_zero, Int.zero_add])
/-- the sum of the factorials -/
def sf (n : Nat) : Int := sumTo fa n
/-- a divisor's coefficient, the cofactor's degree m -/
theorem fis {F S A : Nat → Int} {m n H N : Nat} (dF : Dg F m) (fS : Fz S N) (dA : Fz A (n + 1)) (hH : ∀ i, (A i).natAbs ≤ H) (e : ∀ i, A i = cf F S i) (j : Nat) : fa m * fa j * (S j * S j) ≤ H * H * sf (n + 1) := by
  obtain ⟨P, hP⟩ : ∃ P : List Int, P = (List.range (m + 1)).map F := ⟨_, rfl⟩
  have Pl : P.length = m + 1 := by rw [hP, List.length_map, List.length_range]
  have Pf : pl P = ⟨F⟩ := PS.ext (funext fun i => by
    show P.getD i 0 = F i
    rw [hP, List.getD_eq_getElem?_getD, List.getElem?_map]
    by_cases c : i < m + 1
    · rw [List.getElem?_range c]; rfl
    · rw [List.getElem?_eq_none (by rw [List.length_range]; omega), dF.up i (by omega)]; rfl)
  obtain ⟨M, hM⟩ : ∃ M, M = max (max N (n + 1)) (j + 1) := ⟨_, rfl⟩
  have fm : P.getD m 0 = F m := congrFun (congrArg PS.f Pf) m
  have eA : hE P 0 * ⟨S⟩ = ⟨A⟩ := PS.ext (funext fun i => by
    rw [hE_pl, Pf]
    exact (e i).symm)
  have z := ip_mul P m Pl ⟨S⟩ (N := M) (fS.mono (by omega)) (by rw [eA]; exact dA.mono (by omega))
  rw [eA, fm] at z
  have t1 := dF.top
  have sq : 1 ≤ F m * F m := by
    have h := Int.natAbs_mul_self' (F m)
    have h1 : 1 * 1 ≤ (F m).natAbs * (F m).natAbs := Nat.mul_le_mul (by omega) (by omega)
    have h2 : (((F m).natAbs * (F m).natAbs : Nat) : Int) = ((F m).natAbs : Int) * (F m).natAbs := Int.natCast_mul _ _
    omega
  have up : ip ⟨A⟩ ⟨A⟩ M ≤ H * H * sf (n + 1) := by
    have e1 : ip ⟨A⟩ ⟨A⟩ M = ip ⟨A⟩ ⟨A⟩ (n + 1) := by
      obtain ⟨k, hk⟩ : ∃ k, M = n + 1 + k := ⟨M - (n + 1), by omega⟩
      rw [hk]
      exact sumTo_more (fun i hi => by show fa i * (A i * A i) = 0; rw [dA i hi, Int.mul_zero, Int.mul_zero]) k
    rw [e1]
    unfold ip sf
    rw [← sumTo_mul]
    have le : ∀ n, sumTo (fun k => fa k * (A k * A k)) n ≤ sumTo (fun k => (H : Int) * H * fa k) n := fun n => by
      induction n with
      | zero => exact Int.le_refl _
      | succ n ih =>
        have h1 := hH n
        have h2 : A n * A n ≤ (H : Int) * H := by
          have : (A n * A n).natAbs ≤ H * H := by rw [Int.natAbs_mul]; exact Nat.mul_le_mul h1 h1
          have e3 : ((H * H : Nat) : Int) = (H : Int) * H := Int.natCast_mul _ _
          omega
        have p := fa_pos n
        have h3 := Int.mul_le_mul_of_nonneg_left h2 (show 0 ≤ fa n by omega)
        show sumTo (fun k => fa k * (A k * A k)) n + fa n * (A n * A n) ≤ sumTo (fun k => (H : Int) * H * fa k) n + (H : Int) * H * fa n
        rw [Int.mul_comm _ (fa n)]
        omega
    exact le (n + 1)
  have low : fa j * (S j * S j) ≤ ip ⟨S⟩ ⟨S⟩ M := sumTo_ge (F := fun k => fa k * (S k * S k)) M (by omega) fun i _ => by
    have h := fa_pos i
    have : 0 ≤ S i * S i := (Int.le_total 0 (S i)).elim (fun h => Int.mul_nonneg h h) (fun h => Int.mul_nonneg_of_nonpos_of_nonpos h h)
    exact Int.mul_nonneg (by omega) this
  have fm1 := fa_pos m
  have nn := ip_nn ⟨S⟩ M
  have s1 : fa m * (fa j * (S j * S j)) ≤ fa m * ip ⟨S⟩ ⟨S⟩ M := Int.mul_le_mul_of_nonneg_left low (by omega)
  have s2 : fa m * 1 * ip ⟨S⟩ ⟨S⟩ M ≤ fa m * (F m * F m) * ip ⟨S⟩ ⟨S⟩ M := Int.mul_le_mul_of_nonneg_right (Int.mul_le_mul_of_nonneg_left sq (by omega)) nn
  rw [Int.mul_one] at s2
  rw [Int.mul_assoc (fa m)]
  omega
end CB

namespace CB
open PySem PySem.Spec PyProof.Rows L2
theorem sf_mono {n m : Nat} (h : n ≤ m) : sf n ≤ sf m := by
  induction h with
  | refl => exact Int.le_refl _
  | step _ ih => exact Int.le_trans ih (by show sf _ ≤ sf _ + fa _; have := fa_pos ‹_›; omega)
theorem sq_le {x : Int} {C : Nat} (h : x * x ≤ (C : Int) * C) : x.natAbs ≤ C := by
  refine Decidable.byContradiction fun z => ?_
  have h1 := Int.natAbs_mul_self' x
  have h2 : (C + 1) * (C + 1) ≤ x.natAbs * x.natAbs := Nat.mul_le_mul (by omega) (by omega)
  have h3 : ((x.natAbs * x.natAbs : Nat) : Int) = (x.natAbs : Int) * x.natAbs := Int.natCast_mul _ _
  have h4 : ((C * C : Nat) : Int) = (C : Int) * C := Int.natCast_mul _ _
  have h5 : (C + 1) * (C + 1) = C * C + 2 * C + 1 := by grind
  omega
/-- a factor's coefficients, by a number whose square passes the sum of the factorials -/
theorem facF_le {F S A : Nat → Int} {m n H N c : Nat} (dF : Dg F m) (fS : Fz S N) (dA : Fz A (n + 1)) (hH : ∀ i, (A i).natAbs ≤ H) (e : ∀ i, A i = cf F S i) (hc : sf (n + 1) ≤ (c : Int) * c) (j : Nat) : (S j).natAbs ≤ H * c := by
  have z := fis dF fS dA hH e j
  have f1 := fa_pos m
  have f2 := fa_pos j
  have sq : 0 ≤ S j * S j := (Int.le_total 0 (S j)).elim (fun h => Int.mul_nonneg h h) (fun h => Int.mul_nonneg_of_nonpos_of_nonpos h h)
  have g1 : 1 * 1 ≤ fa m * fa j := Int.le_trans (Int.mul_le_mul_of_nonneg_left f2 (by decide)) (Int.mul_le_mul_of_nonneg_right f1 (by omega))
  have g2 : 1 * (S j * S j) ≤ fa m * fa j * (S j * S j) := Int.mul_le_mul_of_nonneg_right (by omega) sq
  have hh : 0 ≤ (H : Int) * H := Int.mul_nonneg (by omega) (by omega)
  have g3 := Int.mul_le_mul_of_nonneg_left hc hh
  refine sq_le (C := H * c) ?_
  rw [Int.natCast_mul]
  have e3 : (H : Int) * c * ((H : Int) * c) = (H : Int) * H * ((c : Int) * c) := by grind
  omega
theorem facF_le16 {F S A : Nat → Int} {m n H N : Nat} (n16 : n ≤ 16) (dF : Dg F m) (fS : Fz S N) (dA : Fz A (n + 1)) (hH : ∀ i, (A i).natAbs ≤ H) (e : ∀ i, A i = cf F S i) (j : Nat) : (S j).natAbs ≤ H * 2 ^ 23 :=
  facF_le dF fS dA hH e (c := 2 ^ 23) (Int.le_trans (sf_mono (show n + 1 ≤ 17 by omega)) (by decide)) j
/-- a divisor's value at a great number is great: A = Q S -/
theorem val_big16 {A Q S : Nat → Int} {n m H X : Nat} (dA : Dg A n) (n16 : n ≤ 16) (hH : ∀ i, (A i).natAbs ≤ H) (hX : 2 ^ 24 * H + 29 ≤ X) (dQ : Dg Q m) (m1 : 1 ≤ m) {N : Nat} (fS : Fz S N) (e : ∀ i, A i = cf Q S i) : X < 2 * (e1 Q (X : Int) (m + 1)).natAbs := by
  obtain ⟨s, dS⟩ : ∃ s, Dg S s := by
    rcases zero_or_dg N fS with z | ⟨s, _, d⟩
    · exact absurd (by rw [e, cf_zero_r z]) dA.top
    · exact ⟨s, d⟩
  have hq : ∀ j, (Q j).natAbs ≤ H * 2 ^ 23 := facF_le16 n16 dS dQ.up dA.up hH fun i => by rw [e i, cf_comm]
  have l := e1_le (f := Q) (h := (X : Int)) (x := X) hq (by omega) m
  have g := sg_eq (x := X) (by omega) m
  have t0 := dQ.top
  have top : X ^ m ≤ (Q m * (X : Int) ^ m).natAbs := by
    rw [Int.natAbs_mul, Int.natAbs_pow, Int.natAbs_natCast]
    calc X ^ m = 1 * X ^ m := (Nat.one_mul _).symm
      _ ≤ _ := Nat.mul_le_mul_right _ (by omega)
  have ee : e1 Q (X : Int) (m + 1) = e1 Q (X : Int) m + Q m * (X : Int) ^ m := rfl
  have z := Int.natAbs_sub_le (e1 Q (X : Int) (m + 1)) (e1 Q (X : Int) m)
  rw [show e1 Q (X : Int) (m + 1) - e1 Q (X : Int) m = Q m * (X : Int) ^ m by rw [ee]; omega] at z
  have m1' : 2 * (H * 2 ^ 23 * sg X m) ≤ (X - 1) * sg X m := by
    rw [← Nat.mul_assoc]
    exact Nat.mul_le_mul_right _ (by omega)
  have xm : X ≤ X ^ m := by
    obtain ⟨k, rfl⟩ : ∃ k, m = k + 1 := ⟨m - 1, by omega⟩
    rw [Nat.pow_succ]
    exact Nat.le_mul_of_pos_left _ (Nat.pow_pos (by omega))
  generalize (e1 Q (X : Int) m).natAbs = a at *
  generalize (e1 Q (X : Int) (m + 1)).natAbs = b at *
  generalize (Q m * (X : Int) ^ m).natAbs = c at *
  generalize X ^ m = p at *
  generalize (X - 1) * sg X m = q at *
  generalize H * 2 ^ 23 * sg X m = r at *
  omega
/-- one of the two is small, and of few coefficients -/
def SmP (A B : Nat → Int) (a b H : Nat) : Prop := (a ≤ 16 ∧ ∀ i, (A i).natAbs ≤ H) ∨ (b ≤ 16 ∧ ∀ i, (B i).natAbs ≤ H)
/-- what divides both, and has the right value, is the greatest -/
theorem heu_maxP {A B G : Nat → Int} {a b g H X : Nat} {c : Int} (dA : Dg A a) (dB : Dg B b) (sm : SmP A B a b H) (hX : 2 ^ 24 * H + 29 ≤ X) (pG : Prim G) (dG : Dg G g) (ga : Dv G A) (gb : Dv G B)
    (cX : 2 * c.natAbs ≤ X) (ev : (c * e1 G (X : Int) (g + 1)).natAbs = Nat.gcd (e1 A (X : Int) (a + 1)).natAbs (e1 B (X : Int) (b + 1)).natAbs) : ∀ d, Dv d A → Dv d B → Dv d G := by
  -- a bound of all coefficients
  obtain ⟨x, bx⟩ : ∃ x, Bt x A := by
    have key : ∀ (f : Nat → Int) (n : Nat), ∃ x, ∀ i, i < n → (f i).natAbs < 2 ^ x := fun f n => by
      induction n with
      | zero => exact ⟨0, fun i hi => absurd hi (by omega)⟩
      | succ n ih =>
        obtain ⟨x, hx⟩ := ih
        refine ⟨x + (f n).natAbs, fun i hi => ?_⟩
        by_cases e : i = n
        · rw [e]
          exact Nat.lt_of_lt_of_le Nat.lt_two_pow_self (Nat.pow_le_pow_right (by decide) (by omega))
        · exact Nat.lt_of_lt_of_le (hx i (by omega)) (Nat.pow_le_pow_right (by decide) (by omega))
    obtain ⟨x, hx⟩ := key A (a + 1)
    refine ⟨x, fun i => ?_⟩
    by_cases h : i < a + 1
    · exact hx i h
    · rw [dA.up i (by omega)]; exact Nat.two_pow_pos _
  obtain ⟨y, by_⟩ : ∃ y, Bt y B := by
    have key : ∀ (f : Nat → Int) (n : Nat), ∃ x, ∀ i, i < n → (f i).natAbs < 2 ^ x := fun f n => by
      induction n with
      | zero => exact ⟨0, fun i hi => absurd hi (by omega)⟩
      | succ n ih =>
        obtain ⟨x, hx⟩ := ih
        refine ⟨x + (f n).natAbs, fun i hi => ?_⟩
        by_cases e : i = n
        · rw [e]
          exact Nat.lt_of_lt_of_le Nat.lt_two_pow_self (Nat.pow_le_pow_right (by decide) (by omega))
        · exact Nat.lt_of_lt_of_le (hx i (by omega)) (Nat.pow_le_pow_right (by decide) (by omega))
    obtain ⟨x, hx⟩ := key B (b + 1)
    refine ⟨x, fun i => ?_⟩
    by_cases h : i < b + 1
    · exact hx i h
    · rw [dB.up i (by omega)]; exact Nat.two_pow_pos _
  obtain ⟨e0, _, eu, ⟨m, _, de0⟩, _, _⟩ := euclid (a + b) dA dB (Nat.le_refl _) bx by_
  obtain ⟨κ, e, k0, pe, de, ee⟩ := prim_part de0
  have toE : ∀ d, Dv d A → Dv d B → Dv d e := fun d h1 h2 => ((eu.max h1 h2).congr (fun _ => rfl) (fun i => (ee i).symm)).scale k0
  have eA : Dv e A := by
    have z : Dv e0 A := eu.da
    obtain ⟨c1, s, N, c0, hs, h⟩ := z
    exact ⟨c1, fun i => κ * s i, N, c0, hs.scale κ, fun i => by rw [h i, cf_scale_l, ← cf_scale]; exact cf_congr (fun _ => rfl) ee i⟩
  have eB : Dv e B := by
    have z : Dv e0 B := eu.db
    obtain ⟨c1, s, N, c0, hs, h⟩ := z
    exact ⟨c1, fun i => κ * s i, N, c0, hs.scale κ, fun i => by rw [h i, cf_scale_l, ← cf_scale]; exact cf_congr (fun _ => rfl) ee i⟩
  obtain ⟨Q, NQ, fQ, hQ⟩ := (toE G ga gb).whole pG
  obtain ⟨q, dQ⟩ : ∃ q, Dg Q q := by
    rcases zero_or_dg NQ fQ with z | ⟨q, _, d⟩
    · exact absurd (by rw [hQ, cf_zero_l z]) de.top
    · exact ⟨q, d⟩
  have mq : m = q + g := by
    have d3 : Dg (CB.cf Q G) m := ⟨by rw [← hQ]; exact de.top, fun i hi => by rw [← hQ]; exact de.up i hi⟩
    exact d3.uniq (dQ.cf dG)
  by_cases q0 : q = 0
  · -- the same up to a number
    subst q0
    have eG : ∀ i, e i = Q 0 * G i := fun i => by
      rw [hQ]
      unfold cf
      rw [sumTo_one (k := 0) (i + 1) (by omega) fun j _ ne => by rw [dQ.up j (by omega), Int.zero_mul], Nat.sub_zero]
    intro d h1 h2
    exact ((toE d h1 h2).congr (fun _ => rfl) (fun i => (eG i).symm)).scale dQ.top
  · exfalso
    obtain ⟨S, NS, fS, hS⟩ := eA.whole pe
    obtain ⟨T, NT, fT, hT⟩ := eB.whole pe
    have vA : e1 A (X : Int) (a + 1) = e1 S (X : Int) NS * e1 e (X : Int) (m + 1) := e1_fz fS de.up dA.up hS
    have vB : e1 B (X : Int) (b + 1) = e1 T (X : Int) NT * e1 e (X : Int) (m + 1) := e1_fz fT de.up dB.up hT
    have vE : e1 e (X : Int) (m + 1) = e1 Q (X : Int) (q + 1) * e1 G (X : Int) (g + 1) := e1_fz dQ.up dG.up de.up hQ
    have dvd : (e1 e (X : Int) (m + 1)).natAbs ∣ (c * e1 G (X : Int) (g + 1)).natAbs := by
      rw [ev]
      refine Nat.dvd_gcd ?_ ?_
      · rw [vA, Int.natAbs_mul]; exact Nat.dvd_mul_left _ _
      · rw [vB, Int.natAbs_mul]; exact Nat.dvd_mul_left _ _
    have big : X < 2 * (e1 Q (X : Int) (q + 1)).natAbs ∧ (c * e1 G (X : Int) (g + 1)).natAbs ≠ 0 := by
      rw [ev]
      rcases sm with ⟨a7, hA⟩ | ⟨b7, hB⟩
      · refine ⟨val_big16 dA a7 hA hX dQ (by omega) (fS.cf dG.up) (fun i => ?_), ?_⟩
        · rw [hS, ← cf_assoc]
          rw [show cf (cf Q S) G i = cf (cf S Q) G i from cf_congr (fun j => cf_comm Q S j) (fun _ => rfl) i, cf_assoc]
          exact cf_congr (fun _ => rfl) hQ i
        · have z := e1_big dA hA hX
          have : 0 < (e1 A (X : Int) (a + 1)).natAbs := by omega
          have := Nat.gcd_pos_of_pos_left (e1 B (X : Int) (b + 1)).natAbs this
          omega
      · refine ⟨val_big16 dB b7 hB hX dQ (by omega) (fT.cf dG.up) (fun i => ?_), ?_⟩
        · rw [hT, ← cf_assoc]
          rw [show cf (cf Q T) G i = cf (cf T Q) G i from cf_congr (fun j => cf_comm Q T j) (fun _ => rfl) i, cf_assoc]
          exact cf_congr (fun _ => rfl) hQ i
        · have z := e1_big dB hB hX
          have : 0 < (e1 B (X : Int) (b + 1)).natAbs := by omega
          have := Nat.gcd_pos_of_pos_right (e1 A (X : Int) (a + 1)).natAbs this
          omega
    rw [vE, Int.natAbs_mul, Int.natAbs_mul] at dvd
    have nz := big.2
    rw [Int.natAbs_mul] at nz
    have G0 : 0 < (e1 G (X : Int) (g + 1)).natAbs := Nat.pos_of_ne_zero fun z => nz (by rw [z, Nat.mul_zero])
    have c0 : 0 < c.natAbs := Nat.pos_of_ne_zero fun z => nz (by rw [z, Nat.zero_mul])
    have := Nat.le_of_dvd c0 (Nat.dvd_of_mul_dvd_mul_right G0 dvd)
    have := big.1
    omega
end CB

namespace CB
open PySem PySem.Spec PyProof.Rows L2
/-! ### sizes of the one form, degrees up to 8, by weighted squares -/
/-- the primitive part of a divisor is small -/
theorem prim_bitsF {f A : Nat → Int} {m n H : Nat} (df : Dg f m) (dA : Dg A n) (hH : ∀ i, (A i).natAbs ≤ H) (nm : n ≤ 8) (h : Dv f A) : ∃ (c : Int) (g : Nat → Int), c ≠ 0 ∧ Prim g ∧ Dg g m ∧ (∀ i, f i = c * g i) ∧ ∀ i, (g i).natAbs ≤ H * 216 := by
  obtain ⟨c, g, c0, pg, dg, e⟩ := prim_part df
  have hg : Dv g A := by
    have gf : Dv g f := ⟨1, fun i => c * xp 0 i, 1, by decide, (xp_fz 0).scale c, fun i => by rw [cf_scale_l, cf_one, Int.one_mul]; exact e i⟩
    exact gf.trans h
  obtain ⟨s, N, fs, ea⟩ := hg.whole pg
  have hs : ∃ k, Dg s k := by
    rcases zero_or_dg N fs with z | ⟨k, _, d⟩
    · exact absurd (by rw [ea n, cf_zero_l z]) dA.top
    · exact ⟨k, d⟩
  obtain ⟨k, ds⟩ := hs
  exact ⟨c, g, c0, pg, dg, e, facF_le ds dg.up dA.up hH ea (Int.le_trans (sf_mono (show n + 1 ≤ 9 by omega)) (by decide))⟩
/-- the numerator's numbers are small: as / a with its leading coefficients' equation -/
theorem num_bitsF {as : List Int} {a J L : Int} {A : Nat → Int} {n H : Nat} (sa : Pq as a as a) (ane : as ≠ []) (dA : Dg A n) (hH : ∀ i, (A i).natAbs ≤ H) (nm : n ≤ 8) (h : Dv (fun i => as.getD i 0) A) (J0 : J ≠ 0) (L0 : L ≠ 0)
    (eq : as.getD (as.length - 1) 0 * J = L * a) : (∀ i, (as.getD i 0).natAbs ≤ L.natAbs * (H * 216)) ∧ a.natAbs ≤ H * 216 * J.natAbs := by
  have bt : as.getD (as.length - 1) 0 ≠ 0 := sa.last.resolve_left ane
  have bl : 0 < as.length := List.length_pos_iff.mpr ane
  have df : Dg (fun i => as.getD i 0) (as.length - 1) := ⟨bt, fun j hj => getD_end (by omega)⟩
  obtain ⟨c, g, c0, pg, dg, e, hb⟩ := prim_bitsF df dA hH nm h
  have a0 : a ≠ 0 := by have := sa.pos; omega
  have cp : Nat.gcd c.natAbs a.natAbs = 1 := by
    have d1 : ((Nat.gcd c.natAbs a.natAbs : Nat) : Int) ∣ a := Int.dvd_natAbs.mp (Int.natCast_dvd_natCast.mpr (Nat.gcd_dvd_right _ _))
    have d2 : ((Nat.gcd c.natAbs a.natAbs : Nat) : Int) ∣ c := Int.dvd_natAbs.mp (Int.natCast_dvd_natCast.mpr (Nat.gcd_dvd_left _ _))
    have d3 := sa.cop _ d1 fun j => by
      have : as.getD j 0 = c * g j := e j
      rw [this]
      exact Int.dvd_trans d2 ⟨g j, rfl⟩
    have := Int.natAbs_dvd_natAbs.mpr d3
    exact Nat.dvd_one.mp this
  have el : as.getD (as.length - 1) 0 = c * g (as.length - 1) := e _
  rw [el] at eq
  have cL : c ∣ L := by
    refine dvd_of_cop (a := a) (b := c) (c := L) ⟨g (as.length - 1) * J, ?_⟩ (by rw [Nat.gcd_comm]; exact cp)
    rw [Int.mul_comm a L, ← eq, Int.mul_assoc]
  have aJ : a ∣ g (as.length - 1) * J := by
    refine dvd_of_cop (a := c) (b := a) ⟨L, ?_⟩ cp
    rw [← Int.mul_assoc, eq, Int.mul_comm]
  have cl : c.natAbs ≤ L.natAbs := natAbs_le_of_dvd cL L0
  refine ⟨fun i => ?_, ?_⟩
  · have ei : as.getD i 0 = c * g i := e i
    rw [ei, Int.natAbs_mul]
    exact Nat.mul_le_mul cl (hb i)
  · have z := natAbs_le_of_dvd aJ (Int.mul_ne_zero dg.top J0)
    rw [Int.natAbs_mul] at z
    exact Nat.le_trans z (Nat.mul_le_mul_right _ (hb _))
theorem monic_bitsF {bs : List Int} {β : Int} {A : Nat → Int} {n H : Nat} (sb : Pq bs β bs β) (bne : bs ≠ []) (mon : bs.getD (bs.length - 1) 0 = β) (dA : Dg A n) (hH : ∀ i, (A i).natAbs ≤ H) (nm : n ≤ 8) (h : Dv (fun i => bs.getD i 0) A) (i : Nat) : (bs.getD i 0).natAbs ≤ H * 216 := by
  have bt : bs.getD (bs.length - 1) 0 ≠ 0 := sb.last.resolve_left bne
  have bl : 0 < bs.length := List.length_pos_iff.mpr bne
  have df : Dg (fun i => bs.getD i 0) (bs.length - 1) := ⟨bt, fun j hj => getD_end (by omega)⟩
  obtain ⟨c, g, c0, pg, dg, e, hb⟩ := prim_bitsF df dA hH nm h
  have c1 : c ∣ 1 := sb.cop c ⟨g (bs.length - 1), by rw [← mon]; exact e _⟩ fun j => ⟨g j, e j⟩
  have ca : c.natAbs = 1 := by
    have := Int.natAbs_dvd_natAbs.mpr c1
    exact Nat.dvd_one.mp this
  have e1 : bs.getD i 0 = c * g i := e i
  rw [e1, Int.natAbs_mul, ca, Nat.one_mul]
  exact hb i
/-- the sizes of the one form; LX, LY: bounds of the leading coefficients -/
structure QsF (N M HX HY LX LY : Nat) (as : List Int) (a : Int) (bs : List Int) (b : Int) : Prop where
  la : as.length ≤ N + 1
  lb : bs.length ≤ M + 1
  ba : ∀ i, (as.getD i 0).natAbs ≤ LX * (HX * 216)
  bb : ∀ i, (bs.getD i 0).natAbs ≤ HY * 216
  ga : a.natAbs ≤ max 1 (HX * 216 * LY)
  gb : b.natAbs ≤ HY * 216
theorem Qn.sizesF {X Y : Nat → Int} {as bs : List Int} {a b : Int} {N M HX HY LX LY : Nat} {n : Nat} (q : Qn X Y as a bs b) (fX : Fz X (N + 1)) (dY : Dg Y n) (nM : n ≤ M) (hX : ∀ i, (X i).natAbs ≤ HX) (hY : ∀ i, (Y i).natAbs ≤ HY) (hLX : ∀ m, Dg X m → (X m).natAbs ≤ LX) (hLY : (Y n).natAbs ≤ LY) (n6 : N ≤ 8) (m6 : M ≤ 8) : QsF N M HX HY LX LY as a bs b := by
  have db := q.bs_dv fX dY.up
  have lb := db.deg (dgl q.bt) dY
  have bl : 0 < bs.length := List.length_pos_iff.mpr q.bne
  have bb := fun i => monic_bitsF q.sb q.bne q.mon dY hY (by omega) db i
  have gb : b.natAbs ≤ HY * 216 := by rw [← q.mon]; exact bb _
  rcases zero_or_dg (N + 1) fX with z | ⟨m, mN, d⟩
  · have an := q.as_zero dY z
    have a1 := small_one q.sa an
    refine ⟨by rw [an]; exact Nat.zero_le _, by omega, fun i => by rw [an]; exact Nat.zero_le _, bb, ?_, gb⟩
    rw [a1]; exact Nat.le_max_left _ _
  · have ane : as ≠ [] := fun z => d.top (q.x_zero fX z m)
    have at_ : as.getD (as.length - 1) 0 ≠ 0 := q.sa.last.resolve_left ane
    have da := q.as_dv fX dY.up
    have la := da.deg (dgl at_) d
    have al : 0 < as.length := List.length_pos_iff.mpr ane
    have lead : as.getD (as.length - 1) 0 * Y n = X m * a := by
      have eqd : as.length - 1 + n = m + (bs.length - 1) := by
        have d1 := (dgl at_).cf dY
        have d2 := d.cf (dgl q.bt)
        have d3 : Dg (cf (cst b) (cf (ff as) Y)) (as.length - 1 + n) := by
          rw [cst_cf]
          exact ⟨Int.mul_ne_zero q.b0 d1.top, fun i hi => by show b * _ = 0; rw [d1.up i hi, Int.mul_zero]⟩
        have d4 : Dg (cf (cst a) (cf X (ff bs))) (m + (bs.length - 1)) := by
          rw [cst_cf]
          exact ⟨Int.mul_ne_zero q.a0 d2.top, fun i hi => by show a * _ = 0; rw [d2.up i hi, Int.mul_zero]⟩
        rw [q.eq] at d3
        exact d3.uniq d4
      have e := congrFun q.eq (as.length - 1 + n)
      rw [cst_cf, cst_cf] at e
      have e2 : b * cf (ff as) Y (as.length - 1 + n) = a * cf X (ff bs) (as.length - 1 + n) := e
      rw [cf_top (fun i hi => (dgl at_).up i hi) (fun i hi => dY.up i hi), eqd, cf_top (fun i hi => d.up i hi) (fun i hi => (dgl q.bt).up i hi)] at e2
      have e3 : ff bs (bs.length - 1) = b := q.mon
      rw [e3] at e2
      apply Int.eq_of_mul_eq_mul_left q.b0
      have : b * (as.getD (as.length - 1) 0 * Y n) = a * (X m * b) := e2
      rw [this]
      grind
    obtain ⟨h1, h2⟩ := num_bitsF q.sa ane d hX (by omega) da dY.top d.top lead
    refine ⟨by omega, by omega, fun i => Nat.le_trans (h1 i) (Nat.mul_le_mul_right _ (hLX m d)), bb, ?_, gb⟩
    exact Nat.le_trans h2 (Nat.le_trans (Nat.mul_le_mul_left _ hLY) (Nat.le_max_right _ _))
end CB

namespace CB
open PySem PySem.Spec PyProof.Rows L2
/-! ### products of values; moved polynomials -/
theorem evL_sh {s : Int} {zs xs : List Int} (h : IsSh s zs xs) (z : Int) : evL z zs = evL (z + s) xs := (evLp z zs).uniq (h.mv z _ (evLp (z + s) xs))
/-- the one form is a quotient of its own parts -/
theorem Qn.own {X Y : Nat → Int} {as bs : List Int} {a b : Int} (q : Qn X Y as a bs b) : Qn (pc b * pl as).f (pc a * pl bs).f as a bs b := by
  refine ⟨q.sa, q.sb, q.bne, q.mon, q.cop, ?_⟩
  have e : pc b * (pl as * (pc a * pl bs)) = pc a * (pc b * pl as * pl bs) := by grind
  exact congrArg PS.f e
end CB

namespace CB
open PySem PySem.Spec PyProof.Rows L2
/-! ### Euclid's end where the fraction is known to be short; divisors up to degree 16 -/
end CB

namespace CB
open PySem PySem.Spec PyProof.Rows L2 CB.Z
local macro_rules | `(tactic| walk_at "cb sz") => `(tactic| first
  | assumption
  | (apply abs_lt_mul <;> walk_at "cb sz")
  | (apply sz_add <;> walk_at "cb sz")
  | (apply sz_sub <;> walk_at "cb sz")
  | (apply sz_neg <;> walk_at "cb sz")
  | (show _ < 2 ^ 64; decide)
  | (show _ < 2 ^ 128; decide)
  | (show _ < 2 ^ 144; decide)
  | (show _ < 2 ^ 250; decide))
local macro_rules | `(tactic| walk_at "cb size") => `(tactic| (apply abs_mono <;> first | walk_at "cb sz" | decide))
local macro_rules | `(tactic| walk_at "cb mul") => `(tactic| (apply mulW <;> first | walk_at "cb sz" | decide))
local macro_rules | `(tactic| walk_at "cb ne") => `(tactic| first
  | omega
  | (apply Int.mul_ne_zero <;> walk_at "cb ne"))
def top (i : Nat) : Stmt := PySem.Challenge.pw_certsums_k43_closed_value.main.body.getD i (.Pass ⟨0, 0, 0, 0⟩)
abbrev mth (i j : Nat) : Stmt := inClass (top i) j
abbrev s__law_cell : Stmt := top 67
abbrev N__law_cell : List Str := ["script", "k"]
theorem sc__law_cell : FnScope N__law_cell ["script", "k"] (defScope s__law_cell) := ⟨rfl, rfl, rfl, by decide +kernel, rfl, by decide +kernel, by decide +kernel⟩
abbrev d__law_cell : DefG := ⟨fun K => He.fAd K ("_law_cell", none), "_law_cell", "_law_cell", defArgs s__law_cell, defBody s__law_cell, defScope s__law_cell, []⟩
abbrev s__law_digits : Stmt := top 68
abbrev N__law_digits : List Str := ["cell", "limit", "count", "rest", "whole", "found", "k", "mixed"]
theorem sc__law_digits : FnScope N__law_digits ["cell", "limit", "count"] (defScope s__law_digits) := ⟨rfl, rfl, rfl, by decide +kernel, rfl, by decide +kernel, by decide +kernel⟩
abbrev d__law_digits : DefG := ⟨fun K => He.fAd K ("_law_digits", none), "_law_digits", "_law_digits", defArgs s__law_digits, defBody s__law_digits, defScope s__law_digits, []⟩
abbrev s__law_factors : Stmt := top 74
abbrev N__law_factors : List Str := ["cell", "most", "ds", "found", "degree", "d"]
theorem sc__law_factors : FnScope N__law_factors ["cell", "most"] (defScope s__law_factors) := ⟨rfl, rfl, rfl, by decide +kernel, rfl, by decide +kernel, by decide +kernel⟩
abbrev d__law_factors : DefG := ⟨fun K => He.fAd K ("_law_factors", none), "_law_factors", "_law_factors", defArgs s__law_factors, defBody s__law_factors, defScope s__law_factors, []⟩
abbrev s__law_lead : Stmt := top 75
abbrev N__law_lead : List Str := ["cell", "d"]
theorem sc__law_lead : FnScope N__law_lead ["cell"] (defScope s__law_lead) := ⟨rfl, rfl, rfl, by decide +kernel, rfl, by decide +kernel, by decide +kernel⟩
abbrev d__law_lead : DefG := ⟨fun K => He.fAd K ("_law_lead", none), "_law_lead", "_law_lead", defArgs s__law_lead, defBody s__law_lead, defScope s__law_lead, []⟩
abbrev s__law_trim : Stmt := top 69
abbrev N__law_trim : List Str := ["xs", "size", "k"]
theorem sc__law_trim : FnScope N__law_trim ["xs"] (defScope s__law_trim) := ⟨rfl, rfl, rfl, by decide +kernel, rfl, by decide +kernel, by decide +kernel⟩
abbrev d__law_trim : DefG := ⟨fun K => He.fAd K ("_law_trim", none), "_law_trim", "_law_trim", defArgs s__law_trim, defBody s__law_trim, defScope s__law_trim, []⟩
abbrev s__law_mul : Stmt := top 70
abbrev N__law_mul : List Str := ["xs", "ys", "found", "i", "j", "k"]
theorem sc__law_mul : FnScope N__law_mul ["xs", "ys"] (defScope s__law_mul) := ⟨rfl, rfl, rfl, by decide +kernel, rfl, by decide +kernel, by decide +kernel⟩
abbrev d__law_mul : DefG := ⟨fun K => He.fAd K ("_law_mul", none), "_law_mul", "_law_mul", defArgs s__law_mul, defBody s__law_mul, defScope s__law_mul, []⟩
abbrev s__law_expand : Stmt := top 76
abbrev N__law_expand : List Str := ["factors", "lead", "found", "factor"]
theorem sc__law_expand : FnScope N__law_expand ["factors", "lead"] (defScope s__law_expand) := ⟨rfl, rfl, rfl, by decide +kernel, rfl, by decide +kernel, by decide +kernel⟩
abbrev d__law_expand : DefG := ⟨fun K => He.fAd K ("_law_expand", none), "_law_expand", "_law_expand", defArgs s__law_expand, defBody s__law_expand, defScope s__law_expand, []⟩
abbrev s__law_scale : Stmt := top 72
abbrev N__law_scale : List Str := ["xs", "factor", "x"]
theorem sc__law_scale : FnScope N__law_scale ["xs", "factor"] (defScope s__law_scale) := ⟨rfl, rfl, rfl, by decide +kernel, rfl, by decide +kernel, by decide +kernel⟩
abbrev d__law_scale : DefG := ⟨fun K => He.fAd K ("_law_scale", none), "_law_scale", "_law_scale", defArgs s__law_scale, defBody s__law_scale, defScope s__law_scale, []⟩
abbrev s__law_sum : Stmt := top 71
abbrev N__law_sum : List Str := ["xs", "ys", "found", "i", "j", "k"]
theorem sc__law_sum : FnScope N__law_sum ["xs", "ys"] (defScope s__law_sum) := ⟨rfl, rfl, rfl, by decide +kernel, rfl, by decide +kernel, by decide +kernel⟩
abbrev d__law_sum : DefG := ⟨fun K => He.fAd K ("_law_sum", none), "_law_sum", "_law_sum", defArgs s__law_sum, defBody s__law_sum, defScope s__law_sum, []⟩
abbrev s__law_plus : Stmt := top 80
abbrev N__law_plus : List Str := ["a", "b"]
theorem sc__law_plus : FnScope N__law_plus ["a", "b"] (defScope s__law_plus) := ⟨rfl, rfl, rfl, by decide +kernel, rfl, by decide +kernel, by decide +kernel⟩
abbrev d__law_plus : DefG := ⟨fun K => He.fAd K ("_law_plus", none), "_law_plus", "_law_plus", defArgs s__law_plus, defBody s__law_plus, defScope s__law_plus, []⟩
abbrev s__law_is_small : Stmt := top 84
abbrev N__law_is_small : List Str := ["xs", "x"]
theorem sc__law_is_small : FnScope N__law_is_small ["xs"] (defScope s__law_is_small) := ⟨rfl, rfl, rfl, by decide +kernel, rfl, by decide +kernel, by decide +kernel⟩
abbrev d__law_is_small : DefG := ⟨fun K => He.fAd K ("_law_is_small", none), "_law_is_small", "_law_is_small", defArgs s__law_is_small, defBody s__law_is_small, defScope s__law_is_small, []⟩
abbrev s__law_closed_form : Stmt := top 85
abbrev N__law_closed_form : List Str := ["script", "at", "most", "s", "q", "top", "bottom"]
theorem sc__law_closed_form : FnScope N__law_closed_form ["script", "at", "most"] (defScope s__law_closed_form) := ⟨rfl, rfl, rfl, by decide +kernel, rfl, by decide +kernel, by decide +kernel⟩
abbrev d__law_closed_form : DefG := ⟨fun K => He.fAd K ("_law_closed_form", none), "_law_closed_form", "_law_closed_form", defArgs s__law_closed_form, defBody s__law_closed_form, defScope s__law_closed_form, []⟩
abbrev s__law_shift : Stmt := top 77
abbrev N__law_shift : List Str := ["xs", "step", "found", "i", "j"]
theorem sc__law_shift : FnScope N__law_shift ["xs", "step"] (defScope s__law_shift) := ⟨rfl, rfl, rfl, by decide +kernel, rfl, by decide +kernel, by decide +kernel⟩
abbrev d__law_shift : DefG := ⟨fun K => He.fAd K ("_law_shift", none), "_law_shift", "_law_shift", defArgs s__law_shift, defBody s__law_shift, defScope s__law_shift, []⟩
abbrev s__law_move : Stmt := top 78
abbrev N__law_move : List Str := ["part", "step"]
theorem sc__law_move : FnScope N__law_move ["part", "step"] (defScope s__law_move) := ⟨rfl, rfl, rfl, by decide +kernel, rfl, by decide +kernel, by decide +kernel⟩
abbrev d__law_move : DefG := ⟨fun K => He.fAd K ("_law_move", none), "_law_move", "_law_move", defArgs s__law_move, defBody s__law_move, defScope s__law_move, []⟩
abbrev s__law_times : Stmt := top 79
abbrev N__law_times : List Str := ["a", "b"]
theorem sc__law_times : FnScope N__law_times ["a", "b"] (defScope s__law_times) := ⟨rfl, rfl, rfl, by decide +kernel, rfl, by decide +kernel, by decide +kernel⟩
abbrev d__law_times : DefG := ⟨fun K => He.fAd K ("_law_times", none), "_law_times", "_law_times", defArgs s__law_times, defBody s__law_times, defScope s__law_times, []⟩
abbrev s__law_ratio : Stmt := top 86
abbrev N__law_ratio : List Str := ["s", "q", "num", "den"]
theorem sc__law_ratio : FnScope N__law_ratio ["s", "q"] (defScope s__law_ratio) := ⟨rfl, rfl, rfl, by decide +kernel, rfl, by decide +kernel, by decide +kernel⟩
abbrev d__law_ratio : DefG := ⟨fun K => He.fAd K ("_law_ratio", none), "_law_ratio", "_law_ratio", defArgs s__law_ratio, defBody s__law_ratio, defScope s__law_ratio, []⟩
abbrev s_trimmed : Stmt := top 17
abbrev N_trimmed : List Str := ["coefs", "length"]
theorem sc_trimmed : FnScope N_trimmed ["coefs"] (defScope s_trimmed) := ⟨rfl, rfl, rfl, by decide +kernel, rfl, by decide +kernel, by decide +kernel⟩
abbrev d_trimmed : DefG := ⟨fun K => He.fAd K ("trimmed", none), "trimmed", "trimmed", defArgs s_trimmed, defBody s_trimmed, defScope s_trimmed, []⟩
abbrev s_common_factor : Stmt := top 16
abbrev N_common_factor : List Str := ["numbers", "found", "number"]
theorem sc_common_factor : FnScope N_common_factor ["numbers"] (defScope s_common_factor) := ⟨rfl, rfl, rfl, by decide +kernel, rfl, by decide +kernel, by decide +kernel⟩
abbrev d_common_factor : DefG := ⟨fun K => He.fAd K ("common_factor", none), "common_factor", "common_factor", defArgs s_common_factor, defBody s_common_factor, defScope s_common_factor, []⟩
abbrev s_Poly___init__ : Stmt := mth 38 0
abbrev N_Poly___init__ : List Str := ["self", "coefs", "den", "kept", "common", "c"]
theorem sc_Poly___init__ : FnScope N_Poly___init__ ["self", "coefs", "den"] (defScope s_Poly___init__) := ⟨rfl, rfl, rfl, by decide +kernel, rfl, by decide +kernel, by decide +kernel⟩
abbrev d_Poly___init__ : DefG := ⟨fun K => He.fAd K ("Poly", some "__init__"), "__init__", "Poly.__init__", defArgs s_Poly___init__, defBody s_Poly___init__, defScope s_Poly___init__, [.int 1]⟩
abbrev s__law_poly : Stmt := top 83
abbrev N__law_poly : List Str := ["part"]
theorem sc__law_poly : FnScope N__law_poly ["part"] (defScope s__law_poly) := ⟨rfl, rfl, rfl, by decide +kernel, rfl, by decide +kernel, by decide +kernel⟩
abbrev d__law_poly : DefG := ⟨fun K => He.fAd K ("_law_poly", none), "_law_poly", "_law_poly", defArgs s__law_poly, defBody s__law_poly, defScope s__law_poly, []⟩
abbrev s_Poly_is_zero : Stmt := mth 38 7
abbrev N_Poly_is_zero : List Str := ["self"]
theorem sc_Poly_is_zero : FnScope N_Poly_is_zero ["self"] (defScope s_Poly_is_zero) := ⟨rfl, rfl, rfl, by decide +kernel, rfl, by decide +kernel, by decide +kernel⟩
abbrev d_Poly_is_zero : DefG := ⟨fun K => gtAd K (He.ga K "Poly") "is_zero", "is_zero", "Poly.is_zero", defArgs s_Poly_is_zero, defBody s_Poly_is_zero, defScope s_Poly_is_zero, []⟩
abbrev s_monic : Stmt := top 45
abbrev N_monic : List Str := ["p"]
theorem sc_monic : FnScope N_monic ["p"] (defScope s_monic) := ⟨rfl, rfl, rfl, by decide +kernel, rfl, by decide +kernel, by decide +kernel⟩
abbrev d_monic : DefG := ⟨fun K => He.fAd K ("monic", none), "monic", "monic", defArgs s_monic, defBody s_monic, defScope s_monic, []⟩
abbrev s_primitive : Stmt := top 18
abbrev N_primitive : List Str := ["coefs", "factor", "c"]
theorem sc_primitive : FnScope N_primitive ["coefs"] (defScope s_primitive) := ⟨rfl, rfl, rfl, by decide +kernel, rfl, by decide +kernel, by decide +kernel⟩
abbrev d_primitive : DefG := ⟨fun K => He.fAd K ("primitive", none), "primitive", "primitive", defArgs s_primitive, defBody s_primitive, defScope s_primitive, []⟩
abbrev s_remainders : Stmt := top 32
abbrev N_remainders : List Str := ["coefs", "modulus", "c"]
theorem sc_remainders : FnScope N_remainders ["coefs", "modulus"] (defScope s_remainders) := ⟨rfl, rfl, rfl, by decide +kernel, rfl, by decide +kernel, by decide +kernel⟩
abbrev d_remainders : DefG := ⟨fun K => He.fAd K ("remainders", none), "remainders", "remainders", defArgs s_remainders, defBody s_remainders, defScope s_remainders, []⟩
abbrev s_inverse_modulo : Stmt := top 13
abbrev N_inverse_modulo : List Str := ["number", "modulus", "first", "second", "factor", "following", "share"]
theorem sc_inverse_modulo : FnScope N_inverse_modulo ["number", "modulus"] (defScope s_inverse_modulo) := ⟨rfl, rfl, rfl, by decide +kernel, rfl, by decide +kernel, by decide +kernel⟩
abbrev d_inverse_modulo : DefG := ⟨fun K => He.fAd K ("inverse_modulo", none), "inverse_modulo", "inverse_modulo", defArgs s_inverse_modulo, defBody s_inverse_modulo, defScope s_inverse_modulo, []⟩
abbrev s_divided_modulo : Stmt := top 33
abbrev N_divided_modulo : List Str := ["first", "second", "modulus", "inverse", "rest", "quotient", "at", "share", "i", "c", "_"]
theorem sc_divided_modulo : FnScope N_divided_modulo ["first", "second", "modulus"] (defScope s_divided_modulo) := ⟨rfl, rfl, rfl, by decide +kernel, rfl, by decide +kernel, by decide +kernel⟩
abbrev d_divided_modulo : DefG := ⟨fun K => He.fAd K ("divided_modulo", none), "divided_modulo", "divided_modulo", defArgs s_divided_modulo, defBody s_divided_modulo, defScope s_divided_modulo, []⟩
abbrev s_divisor_modulo : Stmt := top 31
abbrev N_divisor_modulo : List Str := ["first", "second", "prime", "high", "low", "_", "rest"]
theorem sc_divisor_modulo : FnScope N_divisor_modulo ["first", "second", "prime"] (defScope s_divisor_modulo) := ⟨rfl, rfl, rfl, by decide +kernel, rfl, by decide +kernel, by decide +kernel⟩
abbrev d_divisor_modulo : DefG := ⟨fun K => He.fAd K ("divisor_modulo", none), "divisor_modulo", "divisor_modulo", defArgs s_divisor_modulo, defBody s_divisor_modulo, defScope s_divisor_modulo, []⟩
abbrev s_coprime_modulo : Stmt := top 30
abbrev N_coprime_modulo : List Str := ["first", "second", "prime"]
theorem sc_coprime_modulo : FnScope N_coprime_modulo ["first", "second", "prime"] (defScope s_coprime_modulo) := ⟨rfl, rfl, rfl, by decide +kernel, rfl, by decide +kernel, by decide +kernel⟩
abbrev d_coprime_modulo : DefG := ⟨fun K => He.fAd K ("coprime_modulo", none), "coprime_modulo", "coprime_modulo", defArgs s_coprime_modulo, defBody s_coprime_modulo, defScope s_coprime_modulo, []⟩
abbrev s_height : Stmt := top 19
abbrev N_height : List Str := ["coefs", "c"]
theorem sc_height : FnScope N_height ["coefs"] (defScope s_height) := ⟨rfl, rfl, rfl, by decide +kernel, rfl, by decide +kernel, by decide +kernel⟩
abbrev d_height : DefG := ⟨fun K => He.fAd K ("height", none), "height", "height", defArgs s_height, defBody s_height, defScope s_height, []⟩
abbrev s_evaluated : Stmt := top 20
abbrev N_evaluated : List Str := ["coefs", "at", "total", "c"]
theorem sc_evaluated : FnScope N_evaluated ["coefs", "at"] (defScope s_evaluated) := ⟨rfl, rfl, rfl, by decide +kernel, rfl, by decide +kernel, by decide +kernel⟩
abbrev d_evaluated : DefG := ⟨fun K => He.fAd K ("evaluated", none), "evaluated", "evaluated", defArgs s_evaluated, defBody s_evaluated, defScope s_evaluated, []⟩
abbrev s__digits : Stmt := top 48
abbrev N__digits : List Str := ["number", "base", "digits", "digit"]
theorem sc__digits : FnScope N__digits ["number", "base"] (defScope s__digits) := ⟨rfl, rfl, rfl, by decide +kernel, rfl, by decide +kernel, by decide +kernel⟩
abbrev d__digits : DefG := ⟨fun K => He.fAd K ("_digits", none), "_digits", "_digits", defArgs s__digits, defBody s__digits, defScope s__digits, []⟩
abbrev s__divide_coefs : Stmt := top 43
abbrev N__divide_coefs : List Str := ["first", "second", "count", "quotient", "rest", "factor", "lead", "at", "top", "scale", "share", "i", "c", "_"]
theorem sc__divide_coefs : FnScope N__divide_coefs ["first", "second"] (defScope s__divide_coefs) := ⟨rfl, rfl, rfl, by decide +kernel, rfl, by decide +kernel, by decide +kernel⟩
abbrev d__divide_coefs : DefG := ⟨fun K => He.fAd K ("_divide_coefs", none), "_divide_coefs", "_divide_coefs", defArgs s__divide_coefs, defBody s__divide_coefs, defScope s__divide_coefs, []⟩
abbrev s_divide : Stmt := top 42
abbrev N_divide : List Str := ["p", "q", "quotient", "rest", "factor", "den", "c"]
theorem sc_divide : FnScope N_divide ["p", "q"] (defScope s_divide) := ⟨rfl, rfl, rfl, by decide +kernel, rfl, by decide +kernel, by decide +kernel⟩
abbrev d_divide : DefG := ⟨fun K => He.fAd K ("divide", none), "divide", "divide", defArgs s_divide, defBody s_divide, defScope s_divide, []⟩
abbrev s__divides : Stmt := top 49
abbrev N__divides : List Str := ["q", "coefs", "_", "remainder"]
theorem sc__divides : FnScope N__divides ["q", "coefs"] (defScope s__divides) := ⟨rfl, rfl, rfl, by decide +kernel, rfl, by decide +kernel, by decide +kernel⟩
abbrev d__divides : DefG := ⟨fun K => He.fAd K ("_divides", none), "_divides", "_divides", defArgs s__divides, defBody s__divides, defScope s__divides, []⟩
abbrev s__divisor_by_values : Stmt := top 47
abbrev N__divisor_by_values : List Str := ["first", "second", "at", "value", "candidate"]
theorem sc__divisor_by_values : FnScope N__divisor_by_values ["first", "second"] (defScope s__divisor_by_values) := ⟨rfl, rfl, rfl, by decide +kernel, rfl, by decide +kernel, by decide +kernel⟩
abbrev d__divisor_by_values : DefG := ⟨fun K => He.fAd K ("_divisor_by_values", none), "_divisor_by_values", "_divisor_by_values", defArgs s__divisor_by_values, defBody s__divisor_by_values, defScope s__divisor_by_values, []⟩
abbrev s_common_divisor : Stmt := top 46
abbrev N_common_divisor : List Str := ["p", "q", "first", "second"]
theorem sc_common_divisor : FnScope N_common_divisor ["p", "q"] (defScope s_common_divisor) := ⟨rfl, rfl, rfl, by decide +kernel, rfl, by decide +kernel, by decide +kernel⟩
abbrev d_common_divisor : DefG := ⟨fun K => He.fAd K ("common_divisor", none), "common_divisor", "common_divisor", defArgs s_common_divisor, defBody s_common_divisor, defScope s_common_divisor, []⟩
abbrev s_exact : Stmt := top 44
abbrev N_exact : List Str := ["p", "q", "quotient", "_"]
theorem sc_exact : FnScope N_exact ["p", "q"] (defScope s_exact) := ⟨rfl, rfl, rfl, by decide +kernel, rfl, by decide +kernel, by decide +kernel⟩
abbrev d_exact : DefG := ⟨fun K => He.fAd K ("exact", none), "exact", "exact", defArgs s_exact, defBody s_exact, defScope s_exact, []⟩
abbrev s_Fraction___init__ : Stmt := mth 35 0
abbrev N_Fraction___init__ : List Str := ["self", "num", "den", "common"]
theorem sc_Fraction___init__ : FnScope N_Fraction___init__ ["self", "num", "den"] (defScope s_Fraction___init__) := ⟨rfl, rfl, rfl, by decide +kernel, rfl, by decide +kernel, by decide +kernel⟩
abbrev d_Fraction___init__ : DefG := ⟨fun K => He.fAd K ("Fraction", some "__init__"), "__init__", "Fraction.__init__", defArgs s_Fraction___init__, defBody s_Fraction___init__, defScope s_Fraction___init__, [.int 1]⟩
abbrev s_Poly_degree : Stmt := mth 38 6
abbrev N_Poly_degree : List Str := ["self"]
theorem sc_Poly_degree : FnScope N_Poly_degree ["self"] (defScope s_Poly_degree) := ⟨rfl, rfl, rfl, by decide +kernel, rfl, by decide +kernel, by decide +kernel⟩
abbrev d_Poly_degree : DefG := ⟨fun K => gtAd K (He.ga K "Poly") "degree", "degree", "Poly.degree", defArgs s_Poly_degree, defBody s_Poly_degree, defScope s_Poly_degree, []⟩
abbrev s_Poly_coefficient : Stmt := mth 38 9
abbrev N_Poly_coefficient : List Str := ["self", "index"]
theorem sc_Poly_coefficient : FnScope N_Poly_coefficient ["self", "index"] (defScope s_Poly_coefficient) := ⟨rfl, rfl, rfl, by decide +kernel, rfl, by decide +kernel, by decide +kernel⟩
abbrev d_Poly_coefficient : DefG := ⟨fun K => He.fAd K ("Poly", some "coefficient"), "coefficient", "Poly.coefficient", defArgs s_Poly_coefficient, defBody s_Poly_coefficient, defScope s_Poly_coefficient, []⟩
abbrev s_Poly_lead : Stmt := mth 38 8
abbrev N_Poly_lead : List Str := ["self"]
theorem sc_Poly_lead : FnScope N_Poly_lead ["self"] (defScope s_Poly_lead) := ⟨rfl, rfl, rfl, by decide +kernel, rfl, by decide +kernel, by decide +kernel⟩
abbrev d_Poly_lead : DefG := ⟨fun K => gtAd K (He.ga K "Poly") "lead", "lead", "Poly.lead", defArgs s_Poly_lead, defBody s_Poly_lead, defScope s_Poly_lead, []⟩
abbrev s_Fraction_is_zero : Stmt := mth 35 6
abbrev N_Fraction_is_zero : List Str := ["self"]
theorem sc_Fraction_is_zero : FnScope N_Fraction_is_zero ["self"] (defScope s_Fraction_is_zero) := ⟨rfl, rfl, rfl, by decide +kernel, rfl, by decide +kernel, by decide +kernel⟩
abbrev d_Fraction_is_zero : DefG := ⟨fun K => gtAd K (He.ga K "Fraction") "is_zero", "is_zero", "Fraction.is_zero", defArgs s_Fraction_is_zero, defBody s_Fraction_is_zero, defScope s_Fraction_is_zero, []⟩
abbrev s__in_lowest_terms : Stmt := top 36
abbrev N__in_lowest_terms : List Str := ["num", "den", "made"]
theorem sc__in_lowest_terms : FnScope N__in_lowest_terms ["num", "den"] (defScope s__in_lowest_terms) := ⟨rfl, rfl, rfl, by decide +kernel, rfl, by decide +kernel, by decide +kernel⟩
abbrev d__in_lowest_terms : DefG := ⟨fun K => He.fAd K ("_in_lowest_terms", none), "_in_lowest_terms", "_in_lowest_terms", defArgs s__in_lowest_terms, defBody s__in_lowest_terms, defScope s__in_lowest_terms, []⟩
abbrev s_Fraction___mul__ : Stmt := mth 35 4
abbrev N_Fraction___mul__ : List Str := ["self", "other", "left", "right", "num"]
theorem sc_Fraction___mul__ : FnScope N_Fraction___mul__ ["self", "other"] (defScope s_Fraction___mul__) := ⟨rfl, rfl, rfl, by decide +kernel, rfl, by decide +kernel, by decide +kernel⟩
abbrev d_Fraction___mul__ : DefG := ⟨fun K => He.fAd K ("Fraction", some "__mul__"), "__mul__", "Fraction.__mul__", defArgs s_Fraction___mul__, defBody s_Fraction___mul__, defScope s_Fraction___mul__, []⟩
abbrev s_Fraction_over : Stmt := mth 35 8
abbrev N_Fraction_over : List Str := ["self", "other"]
theorem sc_Fraction_over : FnScope N_Fraction_over ["self", "other"] (defScope s_Fraction_over) := ⟨rfl, rfl, rfl, by decide +kernel, rfl, by decide +kernel, by decide +kernel⟩
abbrev d_Fraction_over : DefG := ⟨fun K => He.fAd K ("Fraction", some "over"), "over", "Fraction.over", defArgs s_Fraction_over, defBody s_Fraction_over, defScope s_Fraction_over, []⟩
abbrev s_Poly_scaled : Stmt := mth 38 12
abbrev N_Poly_scaled : List Str := ["self", "factor", "c"]
theorem sc_Poly_scaled : FnScope N_Poly_scaled ["self", "factor"] (defScope s_Poly_scaled) := ⟨rfl, rfl, rfl, by decide +kernel, rfl, by decide +kernel, by decide +kernel⟩
abbrev d_Poly_scaled : DefG := ⟨fun K => He.fAd K ("Poly", some "scaled"), "scaled", "Poly.scaled", defArgs s_Poly_scaled, defBody s_Poly_scaled, defScope s_Poly_scaled, []⟩
abbrev s_Quotient___init__ : Stmt := mth 59 0
abbrev N_Quotient___init__ : List Str := ["self", "num", "den", "common", "lower"]
theorem sc_Quotient___init__ : FnScope N_Quotient___init__ ["self", "num", "den"] (defScope s_Quotient___init__) := ⟨rfl, rfl, rfl, by decide +kernel, rfl, by decide +kernel, by decide +kernel⟩
abbrev d_Quotient___init__ : DefG := ⟨fun K => He.fAd K ("Quotient", some "__init__"), "__init__", "Quotient.__init__", defArgs s_Quotient___init__, defBody s_Quotient___init__, defScope s_Quotient___init__, []⟩
abbrev s_Quotient_is_zero : Stmt := mth 59 6
abbrev N_Quotient_is_zero : List Str := ["self"]
theorem sc_Quotient_is_zero : FnScope N_Quotient_is_zero ["self"] (defScope s_Quotient_is_zero) := ⟨rfl, rfl, rfl, by decide +kernel, rfl, by decide +kernel, by decide +kernel⟩
abbrev d_Quotient_is_zero : DefG := ⟨fun K => gtAd K (He.ga K "Quotient") "is_zero", "is_zero", "Quotient.is_zero", defArgs s_Quotient_is_zero, defBody s_Quotient_is_zero, defScope s_Quotient_is_zero, []⟩
abbrev s__refuse_zero : Stmt := top 51
abbrev N__refuse_zero : List Str := ["p"]
theorem sc__refuse_zero : FnScope N__refuse_zero ["p"] (defScope s__refuse_zero) := ⟨rfl, rfl, rfl, by decide +kernel, rfl, by decide +kernel, by decide +kernel⟩
abbrev d__refuse_zero : DefG := ⟨fun K => He.fAd K ("_refuse_zero", none), "_refuse_zero", "_refuse_zero", defArgs s__refuse_zero, defBody s__refuse_zero, defScope s__refuse_zero, []⟩
abbrev s_derivative : Stmt := top 22
abbrev N_derivative : List Str := ["coefs", "i", "c"]
theorem sc_derivative : FnScope N_derivative ["coefs"] (defScope s_derivative) := ⟨rfl, rfl, rfl, by decide +kernel, rfl, by decide +kernel, by decide +kernel⟩
abbrev d_derivative : DefG := ⟨fun K => He.fAd K ("derivative", none), "derivative", "derivative", defArgs s_derivative, defBody s_derivative, defScope s_derivative, []⟩
abbrev s_without_multiple_roots : Stmt := top 54
abbrev N_without_multiple_roots : List Str := ["p"]
theorem sc_without_multiple_roots : FnScope N_without_multiple_roots ["p"] (defScope s_without_multiple_roots) := ⟨rfl, rfl, rfl, by decide +kernel, rfl, by decide +kernel, by decide +kernel⟩
abbrev d_without_multiple_roots : DefG := ⟨fun K => He.fAd K ("without_multiple_roots", none), "without_multiple_roots", "without_multiple_roots", defArgs s_without_multiple_roots, defBody s_without_multiple_roots, defScope s_without_multiple_roots, []⟩
abbrev s__is_prime : Stmt := top 15
abbrev N__is_prime : List Str := ["number", "divisor"]
theorem sc__is_prime : FnScope N__is_prime ["number"] (defScope s__is_prime) := ⟨rfl, rfl, rfl, by decide +kernel, rfl, by decide +kernel, by decide +kernel⟩
abbrev d__is_prime : DefG := ⟨fun K => He.fAd K ("_is_prime", none), "_is_prime", "_is_prime", defArgs s__is_prime, defBody s__is_prime, defScope s__is_prime, []⟩
abbrev s_next_prime : Stmt := top 14
abbrev N_next_prime : List Str := ["number", "candidate"]
theorem sc_next_prime : FnScope N_next_prime ["number"] (defScope s_next_prime) := ⟨rfl, rfl, rfl, by decide +kernel, rfl, by decide +kernel, by decide +kernel⟩
abbrev d_next_prime : DefG := ⟨fun K => He.fAd K ("next_prime", none), "next_prime", "next_prime", defArgs s_next_prime, defBody s_next_prime, defScope s_next_prime, []⟩
abbrev s__roots_modulo : Stmt := top 56
abbrev N__roots_modulo : List Str := ["coefs", "prime", "small", "c", "residue"]
theorem sc__roots_modulo : FnScope N__roots_modulo ["coefs", "prime"] (defScope s__roots_modulo) := ⟨rfl, rfl, rfl, by decide +kernel, rfl, by decide +kernel, by decide +kernel⟩
abbrev d__roots_modulo : DefG := ⟨fun K => He.fAd K ("_roots_modulo", none), "_roots_modulo", "_roots_modulo", defArgs s__roots_modulo, defBody s__roots_modulo, defScope s__roots_modulo, []⟩
abbrev s__prime_with_simple_roots : Stmt := top 55
abbrev N__prime_with_simple_roots : List Str := ["coefs", "slopes", "degree", "prime", "residues", "residue"]
theorem sc__prime_with_simple_roots : FnScope N__prime_with_simple_roots ["coefs"] (defScope s__prime_with_simple_roots) := ⟨rfl, rfl, rfl, by decide +kernel, rfl, by decide +kernel, by decide +kernel⟩
abbrev d__prime_with_simple_roots : DefG := ⟨fun K => He.fAd K ("_prime_with_simple_roots", none), "_prime_with_simple_roots", "_prime_with_simple_roots", defArgs s__prime_with_simple_roots, defBody s__prime_with_simple_roots, defScope s__prime_with_simple_roots, []⟩
abbrev s_value_modulo : Stmt := top 21
abbrev N_value_modulo : List Str := ["coefs", "at", "modulus", "total", "c"]
theorem sc_value_modulo : FnScope N_value_modulo ["coefs", "at", "modulus"] (defScope s_value_modulo) := ⟨rfl, rfl, rfl, by decide +kernel, rfl, by decide +kernel, by decide +kernel⟩
abbrev d_value_modulo : DefG := ⟨fun K => He.fAd K ("value_modulo", none), "value_modulo", "value_modulo", defArgs s_value_modulo, defBody s_value_modulo, defScope s_value_modulo, []⟩
abbrev s__lifted : Stmt := top 57
abbrev N__lifted : List Str := ["coefs", "residue", "prime", "bound", "slopes", "root", "modulus", "inverse"]
theorem sc__lifted : FnScope N__lifted ["coefs", "residue", "prime"] (defScope s__lifted) := ⟨rfl, rfl, rfl, by decide +kernel, rfl, by decide +kernel, by decide +kernel⟩
abbrev d__lifted : DefG := ⟨fun K => He.fAd K ("_lifted", none), "_lifted", "_lifted", defArgs s__lifted, defBody s__lifted, defScope s__lifted, []⟩
abbrev s__whole_roots : Stmt := top 53
abbrev N__whole_roots : List Str := ["p", "simple", "prime", "residues", "lifts", "residue", "root"]
theorem sc__whole_roots : FnScope N__whole_roots ["p"] (defScope s__whole_roots) := ⟨rfl, rfl, rfl, by decide +kernel, rfl, by decide +kernel, by decide +kernel⟩
abbrev d__whole_roots : DefG := ⟨fun K => He.fAd K ("_whole_roots", none), "_whole_roots", "_whole_roots", defArgs s__whole_roots, defBody s__whole_roots, defScope s__whole_roots, []⟩
abbrev s_roots_from : Stmt := top 52
abbrev N_roots_from : List Str := ["p", "start", "root"]
theorem sc_roots_from : FnScope N_roots_from ["p", "start"] (defScope s_roots_from) := ⟨rfl, rfl, rfl, by decide +kernel, rfl, by decide +kernel, by decide +kernel⟩
abbrev d_roots_from : DefG := ⟨fun K => He.fAd K ("roots_from", none), "roots_from", "roots_from", defArgs s_roots_from, defBody s_roots_from, defScope s_roots_from, []⟩
abbrev s_Term___init__ : Stmt := mth 63 0
abbrev N_Term___init__ : List Str := ["self", "start", "first", "ratio"]
theorem sc_Term___init__ : FnScope N_Term___init__ ["self", "start", "first", "ratio"] (defScope s_Term___init__) := ⟨rfl, rfl, rfl, by decide +kernel, rfl, by decide +kernel, by decide +kernel⟩
abbrev d_Term___init__ : DefG := ⟨fun K => He.fAd K ("Term", some "__init__"), "__init__", "Term.__init__", defArgs s_Term___init__, defBody s_Term___init__, defScope s_Term___init__, []⟩
abbrev s_Poly_at : Stmt := mth 38 10
abbrev N_Poly_at : List Str := ["self", "k"]
theorem sc_Poly_at : FnScope N_Poly_at ["self", "k"] (defScope s_Poly_at) := ⟨rfl, rfl, rfl, by decide +kernel, rfl, by decide +kernel, by decide +kernel⟩
abbrev d_Poly_at : DefG := ⟨fun K => He.fAd K ("Poly", some "at"), "at", "Poly.at", defArgs s_Poly_at, defBody s_Poly_at, defScope s_Poly_at, []⟩
abbrev s_Pole___init__ : Stmt := mth 8 0
theorem sc_Pole___init__ : SupScope "self" "where" (defScope s_Pole___init__) := ⟨rfl, rfl, rfl, by decide, rfl, rfl, by decide +kernel, by decide +kernel, rfl, rfl⟩
abbrev d_Pole___init__ : DefG := ⟨fun K => He.fAd K ("Pole", some "__init__"), "__init__", "Pole.__init__", defArgs s_Pole___init__, defBody s_Pole___init__, defScope s_Pole___init__, []⟩
abbrev s_Quotient_at : Stmt := mth 59 9
abbrev N_Quotient_at : List Str := ["self", "k", "below"]
theorem sc_Quotient_at : FnScope N_Quotient_at ["self", "k"] (defScope s_Quotient_at) := ⟨rfl, rfl, rfl, by decide +kernel, rfl, by decide +kernel, by decide +kernel⟩
abbrev d_Quotient_at : DefG := ⟨fun K => He.fAd K ("Quotient", some "at"), "at", "Quotient.at", defArgs s_Quotient_at, defBody s_Quotient_at, defScope s_Quotient_at, []⟩
abbrev s_BeforeStart___init__ : Stmt := mth 9 0
theorem sc_BeforeStart___init__ : SupScope "self" "index" (defScope s_BeforeStart___init__) := ⟨rfl, rfl, rfl, by decide, rfl, rfl, by decide +kernel, by decide +kernel, rfl, rfl⟩
abbrev d_BeforeStart___init__ : DefG := ⟨fun K => He.fAd K ("BeforeStart", some "__init__"), "__init__", "BeforeStart.__init__", defArgs s_BeforeStart___init__, defBody s_BeforeStart___init__, defScope s_BeforeStart___init__, []⟩
abbrev s__steps : Stmt := top 64
abbrev N__steps : List Str := ["ratio", "low", "high", "k"]
theorem sc__steps : FnScope N__steps ["ratio", "low", "high"] (defScope s__steps) := ⟨rfl, rfl, rfl, by decide +kernel, rfl, by decide +kernel, by decide +kernel⟩
abbrev d__steps : DefG := ⟨fun K => He.fAd K ("_steps", none), "_steps", "_steps", defArgs s__steps, defBody s__steps, defScope s__steps, []⟩
abbrev s__product : Stmt := top 65
abbrev N__product : List Str := ["steps", "middle", "above", "below", "next_above", "next_below"]
theorem sc__product : FnScope N__product ["steps"] (defScope s__product) := ⟨rfl, rfl, rfl, by decide +kernel, rfl, by decide +kernel, by decide +kernel⟩
abbrev d__product : DefG := ⟨fun K => He.fAd K ("_product", none), "_product", "_product", defArgs s__product, defBody s__product, defScope s__product, []⟩
abbrev s_Term_value : Stmt := mth 63 2
abbrev N_Term_value : List Str := ["self", "k", "above", "below"]
theorem sc_Term_value : FnScope N_Term_value ["self", "k"] (defScope s_Term_value) := ⟨rfl, rfl, rfl, by decide +kernel, rfl, by decide +kernel, by decide +kernel⟩
abbrev d_Term_value : DefG := ⟨fun K => He.fAd K ("Term", some "value"), "value", "Term.value", defArgs s_Term_value, defBody s_Term_value, defScope s_Term_value, []⟩
abbrev s_Fraction___neg__ : Stmt := mth 35 5
abbrev N_Fraction___neg__ : List Str := ["self"]
theorem sc_Fraction___neg__ : FnScope N_Fraction___neg__ ["self"] (defScope s_Fraction___neg__) := ⟨rfl, rfl, rfl, by decide +kernel, rfl, by decide +kernel, by decide +kernel⟩
abbrev d_Fraction___neg__ : DefG := ⟨fun K => He.fAd K ("Fraction", some "__neg__"), "__neg__", "Fraction.__neg__", defArgs s_Fraction___neg__, defBody s_Fraction___neg__, defScope s_Fraction___neg__, []⟩
abbrev s_Fraction___add__ : Stmt := mth 35 2
abbrev N_Fraction___add__ : List Str := ["self", "other", "common", "scale", "num", "shared"]
theorem sc_Fraction___add__ : FnScope N_Fraction___add__ ["self", "other"] (defScope s_Fraction___add__) := ⟨rfl, rfl, rfl, by decide +kernel, rfl, by decide +kernel, by decide +kernel⟩
abbrev d_Fraction___add__ : DefG := ⟨fun K => He.fAd K ("Fraction", some "__add__"), "__add__", "Fraction.__add__", defArgs s_Fraction___add__, defBody s_Fraction___add__, defScope s_Fraction___add__, []⟩
abbrev s_Fraction___sub__ : Stmt := mth 35 3
abbrev N_Fraction___sub__ : List Str := ["self", "other"]
theorem sc_Fraction___sub__ : FnScope N_Fraction___sub__ ["self", "other"] (defScope s_Fraction___sub__) := ⟨rfl, rfl, rfl, by decide +kernel, rfl, by decide +kernel, by decide +kernel⟩
abbrev d_Fraction___sub__ : DefG := ⟨fun K => He.fAd K ("Fraction", some "__sub__"), "__sub__", "Fraction.__sub__", defArgs s_Fraction___sub__, defBody s_Fraction___sub__, defScope s_Fraction___sub__, []⟩
abbrev s_closed_value : Stmt := top 61
abbrev N_closed_value : List Str := ["term", "y", "last"]
theorem sc_closed_value : FnScope N_closed_value ["term", "y", "last"] (defScope s_closed_value) := ⟨rfl, rfl, rfl, by decide +kernel, rfl, by decide +kernel, by decide +kernel⟩
abbrev d_closed_value : DefG := ⟨fun K => He.fAd K ("closed_value", none), "closed_value", "closed_value", defArgs s_closed_value, defBody s_closed_value, defScope s_closed_value, []⟩
abbrev s__law_at : Stmt := top 73
abbrev N__law_at : List Str := ["xs", "k", "total", "x"]
theorem sc__law_at : FnScope N__law_at ["xs", "k"] (defScope s__law_at) := ⟨rfl, rfl, rfl, by decide +kernel, rfl, by decide +kernel, by decide +kernel⟩
abbrev d__law_at : DefG := ⟨fun K => He.fAd K ("_law_at", none), "_law_at", "_law_at", defArgs s__law_at, defBody s__law_at, defScope s__law_at, []⟩
abbrev s__law_total : Stmt := top 87
abbrev N__law_total : List Str := ["first", "parts", "start", "last", "num", "den", "total_num", "total_den", "k"]
theorem sc__law_total : FnScope N__law_total ["first", "parts", "start", "last"] (defScope s__law_total) := ⟨rfl, rfl, rfl, by decide +kernel, rfl, by decide +kernel, by decide +kernel⟩
abbrev d__law_total : DefG := ⟨fun K => He.fAd K ("_law_total", none), "_law_total", "_law_total", defArgs s__law_total, defBody s__law_total, defScope s__law_total, []⟩
abbrev s_law : Stmt := top 88
abbrev N_law : List Str := ["script", "choices", "form", "parts", "start", "last", "first", "ratio", "term", "y", "actual", "expected"]
theorem sc_law : FnScope N_law ["script"] (defScope s_law) := ⟨rfl, rfl, rfl, by decide +kernel, rfl, by decide +kernel, by decide +kernel⟩
abbrev d_law : DefG := ⟨fun K => He.fAd K ("law", none), "law", "law", defArgs s_law, defBody s_law, defScope s_law, []⟩
/-! ### the head -/
abbrev DN__law_cell : Nat := 0
abbrev DN__law_digits : Nat := 1
abbrev DN__law_factors : Nat := 2
abbrev DN__law_lead : Nat := 3
abbrev DN__law_trim : Nat := 4
abbrev DN__law_mul : Nat := 5
abbrev DN__law_expand : Nat := 6
abbrev DN__law_scale : Nat := 7
abbrev DN__law_sum : Nat := 8
abbrev DN__law_plus : Nat := 9
abbrev DN__law_is_small : Nat := 10
abbrev DN__law_closed_form : Nat := 11
abbrev DN__law_shift : Nat := 12
abbrev DN__law_move : Nat := 13
abbrev DN__law_times : Nat := 14
abbrev DN__law_ratio : Nat := 15
abbrev DN_trimmed : Nat := 16
abbrev DN_common_factor : Nat := 17
abbrev DN_Poly___init__ : Nat := 18
abbrev DN__law_poly : Nat := 19
abbrev DN_Poly_is_zero : Nat := 20
abbrev DN_monic : Nat := 21
abbrev DN_primitive : Nat := 22
abbrev DN_remainders : Nat := 23
abbrev DN_inverse_modulo : Nat := 24
abbrev DN_divided_modulo : Nat := 25
abbrev DN_divisor_modulo : Nat := 26
abbrev DN_coprime_modulo : Nat := 27
abbrev DN_height : Nat := 28
abbrev DN_evaluated : Nat := 29
abbrev DN__digits : Nat := 30
abbrev DN__divide_coefs : Nat := 31
abbrev DN_divide : Nat := 32
abbrev DN__divides : Nat := 33
abbrev DN__divisor_by_values : Nat := 34
abbrev DN_common_divisor : Nat := 35
abbrev DN_exact : Nat := 36
abbrev DN_Fraction___init__ : Nat := 37
abbrev DN_Poly_degree : Nat := 38
abbrev DN_Poly_coefficient : Nat := 39
abbrev DN_Poly_lead : Nat := 40
abbrev DN_Fraction_is_zero : Nat := 41
abbrev DN__in_lowest_terms : Nat := 42
abbrev DN_Fraction___mul__ : Nat := 43
abbrev DN_Fraction_over : Nat := 44
abbrev DN_Poly_scaled : Nat := 45
abbrev DN_Quotient___init__ : Nat := 46
abbrev DN_Quotient_is_zero : Nat := 47
abbrev DN__refuse_zero : Nat := 48
abbrev DN_derivative : Nat := 49
abbrev DN_without_multiple_roots : Nat := 50
abbrev DN__is_prime : Nat := 51
abbrev DN_next_prime : Nat := 52
abbrev DN__roots_modulo : Nat := 53
abbrev DN__prime_with_simple_roots : Nat := 54
abbrev DN_value_modulo : Nat := 55
abbrev DN__lifted : Nat := 56
abbrev DN__whole_roots : Nat := 57
abbrev DN_roots_from : Nat := 58
abbrev DN_Term___init__ : Nat := 59
abbrev DN_Poly_at : Nat := 60
abbrev DN_Quotient_at : Nat := 61
abbrev DN__steps : Nat := 62
abbrev DN__product : Nat := 63
abbrev DN_Term_value : Nat := 64
abbrev DN_Fraction___neg__ : Nat := 65
abbrev DN_Fraction___add__ : Nat := 66
abbrev DN_Fraction___sub__ : Nat := 67
abbrev DN_closed_value : Nat := 68
abbrev DN__law_at : Nat := 69
abbrev DN__law_total : Nat := 70
abbrev DN_law : Nat := 71
def fnL : List DefG := [d__law_cell, d__law_digits, d__law_factors, d__law_lead, d__law_trim, d__law_mul, d__law_expand, d__law_scale, d__law_sum, d__law_plus, d__law_is_small, d__law_closed_form, d__law_shift, d__law_move, d__law_times, d__law_ratio, d_trimmed, d_common_factor, d_Poly___init__, d__law_poly, d_Poly_is_zero, d_monic, d_primitive, d_remainders, d_inverse_modulo, d_divided_modulo, d_divisor_modulo, d_coprime_modulo, d_height, d_evaluated, d__digits, d__divide_coefs, d_divide, d__divides, d__divisor_by_values, d_common_divisor, d_exact, d_Fraction___init__, d_Poly_degree, d_Poly_coefficient, d_Poly_lead, d_Fraction_is_zero, d__in_lowest_terms, d_Fraction___mul__, d_Fraction_over, d_Poly_scaled, d_Quotient___init__, d_Quotient_is_zero, d__refuse_zero, d_derivative, d_without_multiple_roots, d__is_prime, d_next_prime, d__roots_modulo, d__prime_with_simple_roots, d_value_modulo, d__lifted, d__whole_roots, d_roots_from, d_Term___init__, d_Poly_at, d_Quotient_at, d__steps, d__product, d_Term_value, d_Fraction___neg__, d_Fraction___add__, d_Fraction___sub__, d_closed_value, d__law_at, d__law_total, d_law]
def faL : List He.Fa := [.cls "Fraction", .cls "Poly", .cls "Quotient", .cls "Term", .meth "Fraction" "__add__", .meth "Fraction" "__mul__", .meth "Fraction" "__neg__", .meth "Fraction" "__sub__", .glo "BeforeStart", .glo "DivisionByZero", .glo "Fraction", .glo "InvalidTerm", .int "PRIME" 2305843009213693951, .glo "Pole", .glo "Poly", .glo "Quotient", .glo "Term", .glo "ZeroPolynomial", .glo "_digits", .glo "_divide_coefs", .glo "_divides", .glo "_divisor_by_values", .glo "_in_lowest_terms", .glo "_is_prime", .glo "_law_at", .glo "_law_cell", .glo "_law_closed_form", .glo "_law_digits", .glo "_law_expand", .glo "_law_factors", .glo "_law_is_small", .glo "_law_lead", .glo "_law_move", .glo "_law_mul", .glo "_law_plus", .glo "_law_poly", .glo "_law_ratio", .glo "_law_scale", .glo "_law_shift", .glo "_law_sum", .glo "_law_times", .glo "_law_total", .glo "_law_trim", .glo "_lifted", .glo "_prime_with_simple_roots", .glo "_product", .glo "_refuse_zero", .glo "_roots_modulo", .glo "_steps", .glo "_whole_roots", .glo "closed_value", .glo "common_divisor", .glo "common_factor", .glo "coprime_modulo", .glo "derivative", .glo "divide", .glo "divided_modulo", .glo "divisor_modulo", .glo "evaluated", .glo "exact", .glo "height", .glo "inverse_modulo", .glo "law", .glo "monic", .glo "next_prime", .glo "primitive", .glo "remainders", .glo "roots_from", .glo "trimmed", .glo "value_modulo", .glo "without_multiple_roots", .exc "DivisionByZero", .exc "InvalidTerm", .exc "ZeroPolynomial", .meth "Fraction" "over", .meth "Poly" "at", .meth "Poly" "coefficient", .meth "Poly" "scaled", .meth "Quotient" "at", .meth "Term" "value", .mkr "Fraction", .mkr "Poly", .mkr "Quotient", .mkr "Term", .noat "Fraction" "den", .noat "Fraction" "num", .noat "Poly" "coefs", .noat "Poly" "den", .noat "Quotient" "den", .noat "Quotient" "num", .noat "Term" "first", .noat "Term" "ratio", .noat "Term" "start", .free "abs", .free "bool", .free "enumerate", .free "int", .free "isinstance", .free "len", .free "list", .free "max", .free "min", .free "range", .free "reversed", .free "sorted", .free "super", .free "tuple"]
def exL (K : PySem.W.Frag) : List Bool := [PySem.W.selfFirst K (He.ga K "Fraction"),
  He.eqO (PySem.W.nsIn K mainGlobals "gcd") (some (some (.builtin "math.gcd"))),
  He.eqO (PySem.W.findIn K (.ref (He.ga K "BeforeStart")) "index") (some none),
  He.eqO (PySem.W.findIn K (.ref (He.ga K "Pole")) "where") (some none),
  propB K (He.ga K "Fraction") "is_zero",
  propB K (He.ga K "Poly") "degree",
  propB K (He.ga K "Poly") "is_zero",
  propB K (He.ga K "Poly") "lead",
  propB K (He.ga K "Quotient") "is_zero",
  supB K (He.ga K "BeforeStart") (He.fAd K ("BeforeStart", some "__init__")) "BeforeStart.__init__" "/claim/cut.py",
  supB K (He.ga K "Pole") (He.fAd K ("Pole", some "__init__")) "Pole.__init__" "/claim/cut.py",
  He.eqO (PySem.W.findIn K (.ref (He.ga K "Fraction")) "__class__") (some (some (.builtin "object.__class__"))),
  He.eqO (PySem.W.specialIn K (.builtin "object.__class__") "__get__") (some (some (.builtin "getset_descriptor.__get__"))),
  decide (PySem.W.takesIn K (.builtin "object.__class__") = some true),
  decide (PySem.W.mroIn K (He.ga K "Fraction") (.type "object") = some true)]
def supL : List DefG := [d_BeforeStart___init__, d_Pole___init__]
abbrev R : PySem.W.OpenRow := PySem.W.OpenLaw.row PySem.Challenge.rw_certsums_k43_closed_value
abbrev AlS : Type := AlG × List FnS
def obsS (fa : List He.Fa) (fn sup : List DefG) (ex : PySem.W.Frag → List Bool) (K : PySem.W.Frag) : AlS := (obsG fa fn ex K, sup.map fun d => fnS K (d.at_ K))
def hookL (as : List Addr) (fa : List He.Fa) (fn sup : List DefG) (ex : PySem.W.Frag → List Bool) : PySem.W.Hook where
  α := AlS
  obs := fun s => obsS fa fn sup ex (He.frG s.heap.get? as)
  val := fun _ => (valG fn, sup.map DefG.valS)
  says := fun _ h => ∃ K : PySem.W.Frag, K.In h ∧ SaysG fa fn ex K ∧ SupSays sup K
  of := fun _ _ e => ⟨_, He.frG_in, congrArg Prod.fst e, congrArg Prod.snd e⟩
  keeps := fun _ _ _ ⟨K, hK, c⟩ k => ⟨K, PySem.W.Frag.In.keeps hK k, c⟩
def asL : List Addr := [6, 0, 1, 2, 3, 4, 5, 7, 8, 9, 10, 11, 12, 13, 14, 15, 16, 17, 18, 19, 20, 21, 22, 23, 24, 25, 26, 27, 28, 29, 30, 31, 32, 33, 34, 35, 36, 37, 38, 39, 40, 41, 42, 43, 44, 45, 46, 47, 48, 49, 50, 51, 52, 53, 54, 55, 56, 57, 58, 59, 60, 61, 62, 63, 64, 65, 66, 67, 68, 69, 70, 71, 72, 73, 74, 75, 76, 77, 78, 79, 80, 81, 82, 83, 84, 85, 86, 87, 88, 89, 90, 91, 92, 93, 94, 95, 96, 97, 98, 99, 100, 101, 102, 103, 104, 105, 106, 107, 108, 109, 110, 111, 112, 113, 114, 115, 116, 117, 118, 119, 120, 121, 122, 123, 124, 125, 126, 127, 128, 129, 130, 131, 132, 133, 134, 135, 136, 137, 138, 139, 140, 141, 142, 143, 144, 145, 146, 147, 148, 149, 150, 151, 152, 153, 154, 155, 156, 157, 158, 159, 160, 161, 162, 163, 164, 165, 166, 167, 168, 169, 170, 171, 172, 173, 174, 175, 176, 177, 178, 179, 180, 181, 182, 183, 184, 185, 186, 187, 188, 189, 190, 191, 192, 193, 194, 195, 196, 197, 198, 199, 200, 201, 202, 203, 204, 205, 206, 207, 208, 209, 210, 211, 212, 213, 214, 215, 216, 217, 218, 219, 220, 221, 222, 223, 224, 225, 226, 227, 228, 229, 230, 231, 232, 233, 234, 235, 236, 237, 238, 239, 240, 241, 242, 243, 244, 245, 246, 247, 248, 249, 250, 251, 252, 253, 254, 255, 256, 257, 258, 259, 260, 261, 262, 263, 264, 265, 266, 267, 268, 269, 270, 271, 272, 273, 274, 275, 276, 277, 278, 279, 280, 281, 282, 283, 284, 285, 286, 287, 288, 289, 290, 291, 292, 293, 294, 295, 296, 297, 298, 299, 300, 301, 302, 303, 304, 305, 306, 307, 308, 309, 310, 311, 312, 313, 314, 315, 316, 317, 318, 319, 320, 321, 322, 323, 324, 325, 326, 327, 328, 329, 330, 331, 332, 333, 334, 335, 336, 337, 338, 339, 340, 341, 342, 343, 344, 345, 346, 347, 348, 349, 350, 351, 352, 353, 354, 355, 356, 357, 358, 359, 360, 361, 362, 363, 364, 365, 366, 367, 368, 369, 370, 371, 372, 373, 374, 375, 376, 377, 378, 379, 380, 381, 382, 383, 384, 385, 386, 387, 388, 389, 390, 391, 392, 393, 394, 395, 396, 397, 398, 399, 400, 401, 402, 403, 404, 405, 406, 407, 408, 409, 410, 411, 412, 413, 414, 415, 416, 417, 418, 419, 420, 421, 422, 423, 424, 425, 426, 427, 428, 429, 430, 431, 432, 433, 434, 435, 436, 437, 438, 439, 440, 441, 442, 443, 444, 445, 446, 447, 448, 449, 450, 451, 452, 453, 454, 455, 456, 457, 458, 459, 460, 461, 462, 463, 464, 465, 466, 467, 468, 469, 470, 471, 472, 473, 474, 475, 476, 477, 478, 479, 480, 481, 482, 483, 484, 485, 486, 487, 488, 489, 490, 491, 492, 493, 494, 495, 496, 497, 498, 499, 500, 501, 502, 503, 504, 505, 506, 507, 508, 509, 510, 511, 512, 513, 514, 515, 516, 517, 518, 519, 520, 521, 522, 523, 524, 525, 526, 527, 528, 529, 530, 531, 532, 533, 534, 535, 536, 537, 538, 539, 540, 541, 542, 543, 544, 545, 546, 547, 548, 549, 550, 551, 552, 553, 554, 555, 556, 557, 558, 559, 560, 561, 562, 563, 564, 565, 566, 567, 568, 569, 570, 571, 572, 573, 574, 575, 576, 577, 578, 579, 580, 581, 582, 583, 584, 585, 586, 587, 588, 589, 590, 591, 592, 593, 594, 595, 596, 597, 598, 599, 600, 601, 602, 603, 604, 605, 606, 607, 608, 609, 610, 611, 612, 613, 614, 615, 616, 617, 618, 619, 620, 621, 622, 623, 624, 625, 626, 627, 628, 629, 630, 631, 632, 633, 634, 635, 636, 637, 638, 639, 640, 641, 642, 643, 644, 645, 646, 647, 648, 649, 650, 651, 652, 653, 654, 655, 656, 657, 658, 659, 660, 661, 662, 663, 664, 665, 666, 667, 668, 669, 670, 671, 672, 673, 674, 675, 676, 677, 678, 679, 680, 681, 682, 683, 684, 685, 686, 687, 688, 689, 690, 691, 692, 693, 694, 695, 696, 697, 698, 699, 700, 701, 702, 703, 704, 705, 706, 707, 708, 709, 710, 711, 712, 713, 714, 715, 716, 717, 718, 719, 720, 721, 722, 723, 724, 725, 726, 727, 728, 729, 730, 731, 732, 733, 734, 735, 736, 737, 738, 739, 740, 741, 742, 743, 744, 745, 746, 747, 748, 749, 750, 751, 752, 753, 754, 755, 756, 757, 758, 759, 760, 761, 762, 763, 764, 765, 766, 767, 768, 769, 770, 771, 772, 773, 774, 775, 776, 777, 778, 779, 780, 781, 782, 783, 784, 785, 786, 787, 788, 789, 790, 791, 792, 793, 794, 795, 796, 797, 798, 799, 800, 801, 802, 803, 804, 805, 806, 807, 808, 809, 810, 811, 812, 813, 814, 815, 816, 817, 818, 819, 820, 821, 822, 823, 824, 825, 826, 827, 828, 829, 830, 831, 832, 833, 834, 835, 836, 837, 838, 839, 840, 841, 842, 843, 844, 845, 846, 847, 848, 849, 850, 851, 852, 853, 854, 855, 856, 857, 858, 859, 860, 861, 862, 863, 864, 865, 866, 867, 868, 869, 870, 871, 872, 873, 874, 875, 876, 877, 878, 879, 880, 881, 882, 883, 884, 885, 886, 887, 888, 889, 890, 891, 892, 893, 894, 895, 896, 897, 898, 899, 900, 901, 902, 903, 904, 905, 906, 907, 908, 909, 910, 911, 912, 913, 914, 915, 916, 917, 918, 919, 920, 921, 922, 923, 924, 925, 926, 927, 928, 929, 930, 931, 932, 933, 934, 935, 936, 937, 938, 939, 940, 941, 942, 943, 944, 945, 946, 947, 948, 949, 950, 951, 952, 953, 954, 955, 956, 957, 958, 959, 960, 961, 962, 963, 964, 965, 966, 967, 968, 969, 970, 971, 972, 973, 974, 975, 976, 977, 978, 979, 980, 981, 982, 983, 984, 985, 986, 987, 988, 989, 990, 991, 992, 993, 994, 995, 996, 997, 998, 999]
abbrev hk : PySem.W.Hook := hookL asL faL fnL supL exL
def ob (s : PySem.W.SharedT) : AlS := obsS faL fnL supL exL (He.frG (HandSHeadRun.getT s) asL)
theorem ob_eq (s : PySem.W.SharedT) : ob s = hk.obs s.abs := by
  have e : HandSHeadRun.getT s = s.abs.heap.get? := funext (HandSHeadRun.getT_eq s)
  show obsS faL fnL supL exL (He.frG (HandSHeadRun.getT s) asL) = obsS faL fnL supL exL (He.frG s.abs.heap.get? asL)
  rw [e]
def names : List Str := (["_wall", "SummationError", "DivisionByZero", "ZeroPolynomial", "InvalidTerm", "Pole", "BeforeStart", "SHORT", "power_of", "inverse_modulo", "next_prime", "_is_prime", "common_factor", "trimmed", "primitive", "height", "evaluated", "value_modulo", "derivative", "added", "multiplied", "_plain_product", "_packed", "_unpacked", "_halves", "powered", "coprime_modulo", "divisor_modulo", "remainders", "divided_modulo"] : List Str) ++ (["Fraction", "_in_lowest_terms", "Poly", "_coefs_over", "PRIME", "divide", "_divide_coefs", "exact", "monic", "common_divisor", "_divisor_by_values", "_digits", "_divides", "_refuse_zero", "roots_from", "_whole_roots", "without_multiple_roots", "_prime_with_simple_roots", "_roots_modulo", "_lifted", "Quotient", "closed_value", "Term", "_steps", "_product", "_law_cell", "_law_digits", "_law_trim", "_law_mul", "_law_sum"] : List Str) ++ (["_law_scale", "_law_at", "_law_factors", "_law_lead", "_law_expand", "_law_shift", "_law_move", "_law_times", "_law_plus", "_law_minus", "_law_alike", "_law_poly", "_law_is_small", "_law_closed_form", "_law_ratio", "_law_total"] : List Str)
abbrev vw : Program := PySem.W.view R.prog [0, 1, 88]
theorem map3 {α β γ δ : Type} {o : Option α} {f : α → β} {g : α → γ} {h : α → δ} {a : β} {b : γ} {c : δ} (h1 : o.map f = some a) (h2 : o.map g = some b) (h3 : o.map h = some c) : o.map (fun x => (f x, g x, h x)) = some (a, b, c) := by
  cases o with
  | none => cases h1
  | some x =>
    have e1 : f x = a := Option.some.inj h1
    have e2 : g x = b := Option.some.inj h2
    have e3 : h x = c := Option.some.inj h3
    show some (f x, g x, h x) = _
    rw [e1, e2, e3]
set_option maxHeartbeats 0 in
theorem run1 (w : World) : (HandSHeadRun.wholeF (fun p => HandSHeadRun.stepQ (HandSHeadRun.denQ HandSHeadRun.tabQ) p w) HandSHeadRun.fenceQ 20000 R.prog).map (fun x => HandSHeadRun.looksF R.prog x.1.heap x.2.abs) = some true := by
  kernel_rfl
set_option maxHeartbeats 0 in
theorem run2 (w : World) : (HandSHeadRun.wholeF (fun p => HandSHeadRun.stepQ (HandSHeadRun.denQ HandSHeadRun.tabQ) p w) HandSHeadRun.fenceQ 20000 R.prog).map (fun x => HandSHeadRun.seenQ vw names (importedModules R.prog.main.body) (fun s => PySem.W.xlAt vw [] s && PySem.W.recOk R.toRowW.records s) x.2.abs) = some (PySem.W.openGood vw names) := by
  kernel_rfl
def obA (s : PySem.W.SharedT) : Bool := faL.all fun f => f.ok (He.frG (HandSHeadRun.getT s) asL)
def obB (s : PySem.W.SharedT) : Bool := (fnL.all fun d => d.ok (He.frG (HandSHeadRun.getT s) asL)) && (exL (He.frG (HandSHeadRun.getT s) asL)).all id
def obD (s : PySem.W.SharedT) : List FnW := fnL.map fun d => fnG (He.frG (HandSHeadRun.getT s) asL) (d.at_ (He.frG (HandSHeadRun.getT s) asL))
def obE (s : PySem.W.SharedT) : List FnS := supL.map fun d => fnS (He.frG (HandSHeadRun.getT s) asL) (d.at_ (He.frG (HandSHeadRun.getT s) asL))
theorem ob_parts (s : PySem.W.SharedT) : ob s = ((obA s && obB s, obD s), obE s) := rfl
theorem map4 {α δ ε : Type} {o : Option α} {f : α → (Bool × δ) × ε} {A B : α → Bool} {D : α → δ} {E : α → ε} {d : δ} {e : ε} (hf : ∀ x, f x = ((A x && B x, D x), E x)) (h1 : o.map A = some true) (h2 : o.map B = some true) (h3 : o.map (fun x => (D x, E x)) = some (d, e)) : o.map f = some ((true, d), e) := by
  cases o with
  | none => cases h1
  | some x =>
    have e1 : A x = true := Option.some.inj h1
    have e2 : B x = true := Option.some.inj h2
    have e3 : (D x, E x) = (d, e) := Option.some.inj h3
    have e4 : D x = d := congrArg Prod.fst e3
    have e5 : E x = e := congrArg Prod.snd e3
    show some (f x) = _
    rw [hf, e1, e2, e4, e5]
    rfl
set_option maxHeartbeats 0 in
theorem run3a (w : World) : (HandSHeadRun.wholeF (fun p => HandSHeadRun.stepQ (HandSHeadRun.denQ HandSHeadRun.tabQ) p w) HandSHeadRun.fenceQ 20000 R.prog).map (fun x => obA x.2) = some true := by
  kernel_rfl
set_option maxHeartbeats 0 in
theorem run3b (w : World) : (HandSHeadRun.wholeF (fun p => HandSHeadRun.stepQ (HandSHeadRun.denQ HandSHeadRun.tabQ) p w) HandSHeadRun.fenceQ 20000 R.prog).map (fun x => obB x.2) = some true := by
  kernel_rfl
set_option maxHeartbeats 0 in
theorem run3d (w : World) : (HandSHeadRun.wholeF (fun p => HandSHeadRun.stepQ (HandSHeadRun.denQ HandSHeadRun.tabQ) p w) HandSHeadRun.fenceQ 20000 R.prog).map (fun x => (obD x.2, obE x.2)) = some (fnL.map DefG.val, supL.map DefG.valS) := by
  kernel_rfl
set_option maxHeartbeats 0 in
theorem run (w : World) : HandSHeadRun.RunEqI R vw hk ob 20000 names w := by
  have h1 := run1 w
  have h2 := run2 w
  have ha := run3a w
  have hb := run3b w
  have hd := run3d w
  unfold HandSHeadRun.RunEqI
  generalize (HandSHeadRun.wholeF (fun p => HandSHeadRun.stepQ (HandSHeadRun.denQ HandSHeadRun.tabQ) p w) HandSHeadRun.fenceQ 20000 R.prog) = o at h1 h2 ha hb hd ⊢
  exact map3 h1 h2 (map4 (fun x => ob_parts x.2) ha hb hd)
set_option maxHeartbeats 0 in
theorem head0 (hc : PySem.W.WalkO vw names (PySem.W.XL vw []) hk.says R.toRowW (HandSHeadRun.topDef R.prog 88) [] (fun f vs => PySem.call f vs)) : PySem.Challenge.rw_certsums_k43_closed_value.Holds := by
  w_on; o_law
  refine HandSHeadRun.head_imp (r := CB.R) (q := vw) (H := CB.hk) (ob := CB.ob) (M := 20000) (loose := CB.names) (d := HandSHeadRun.topDef CB.R.prog 88) (kwd := []) CB.ob_eq
    CB.run (by kernel_rfl) (by kernel_rfl) (by kernel_rfl) (by rfl) (by first | assumption | decide +kernel) (by decide +kernel) ⟨rfl, rfl, rfl, rfl, rfl, by decide +kernel⟩ ?hw hc
  case hw => w_witness2
/-- what the written part says of this text -/
structure Tx (K : PySem.W.Frag) (mg : Str → Option Value) : Prop where
  cls_Fraction : Cls K (He.ga K "Fraction")
  cls_Poly : Cls K (He.ga K "Poly")
  cls_Quotient : Cls K (He.ga K "Quotient")
  cls_Term : Cls K (He.ga K "Term")
  d_Fraction___add__ : Dn K d_Fraction___add__
  d_Fraction___init__ : Dn K d_Fraction___init__
  d_Fraction___mul__ : Dn K d_Fraction___mul__
  d_Fraction___neg__ : Dn K d_Fraction___neg__
  d_Fraction___sub__ : Dn K d_Fraction___sub__
  d_Fraction_is_zero : Dn K d_Fraction_is_zero
  d_Fraction_over : Dn K d_Fraction_over
  d_Poly___init__ : Dn K d_Poly___init__
  d_Poly_at : Dn K d_Poly_at
  d_Poly_coefficient : Dn K d_Poly_coefficient
  d_Poly_degree : Dn K d_Poly_degree
  d_Poly_is_zero : Dn K d_Poly_is_zero
  d_Poly_lead : Dn K d_Poly_lead
  d_Poly_scaled : Dn K d_Poly_scaled
  d_Quotient___init__ : Dn K d_Quotient___init__
  d_Quotient_at : Dn K d_Quotient_at
  d_Quotient_is_zero : Dn K d_Quotient_is_zero
  d_Term___init__ : Dn K d_Term___init__
  d_Term_value : Dn K d_Term_value
  d__digits : Dn K d__digits
  d__divide_coefs : Dn K d__divide_coefs
  d__divides : Dn K d__divides
  d__divisor_by_values : Dn K d__divisor_by_values
  d__in_lowest_terms : Dn K d__in_lowest_terms
  d__is_prime : Dn K d__is_prime
  d__law_at : Dn K d__law_at
  d__law_cell : Dn K d__law_cell
  d__law_closed_form : Dn K d__law_closed_form
  d__law_digits : Dn K d__law_digits
  d__law_expand : Dn K d__law_expand
  d__law_factors : Dn K d__law_factors
  d__law_is_small : Dn K d__law_is_small
  d__law_lead : Dn K d__law_lead
  d__law_move : Dn K d__law_move
  d__law_mul : Dn K d__law_mul
  d__law_plus : Dn K d__law_plus
  d__law_poly : Dn K d__law_poly
  d__law_ratio : Dn K d__law_ratio
  d__law_scale : Dn K d__law_scale
  d__law_shift : Dn K d__law_shift
  d__law_sum : Dn K d__law_sum
  d__law_times : Dn K d__law_times
  d__law_total : Dn K d__law_total
  d__law_trim : Dn K d__law_trim
  d__lifted : Dn K d__lifted
  d__prime_with_simple_roots : Dn K d__prime_with_simple_roots
  d__product : Dn K d__product
  d__refuse_zero : Dn K d__refuse_zero
  d__roots_modulo : Dn K d__roots_modulo
  d__steps : Dn K d__steps
  d__whole_roots : Dn K d__whole_roots
  d_closed_value : Dn K d_closed_value
  d_common_divisor : Dn K d_common_divisor
  d_common_factor : Dn K d_common_factor
  d_coprime_modulo : Dn K d_coprime_modulo
  d_derivative : Dn K d_derivative
  d_divide : Dn K d_divide
  d_divided_modulo : Dn K d_divided_modulo
  d_divisor_modulo : Dn K d_divisor_modulo
  d_evaluated : Dn K d_evaluated
  d_exact : Dn K d_exact
  d_height : Dn K d_height
  d_inverse_modulo : Dn K d_inverse_modulo
  d_law : Dn K d_law
  d_monic : Dn K d_monic
  d_next_prime : Dn K d_next_prime
  d_primitive : Dn K d_primitive
  d_remainders : Dn K d_remainders
  d_roots_from : Dn K d_roots_from
  d_trimmed : Dn K d_trimmed
  d_value_modulo : Dn K d_value_modulo
  d_without_multiple_roots : Dn K d_without_multiple_roots
  f_Fraction___add__ : PySem.W.isFn K (.ref (He.fAd K ("Fraction", some "__add__"))) = true
  f_Fraction___mul__ : PySem.W.isFn K (.ref (He.fAd K ("Fraction", some "__mul__"))) = true
  f_Fraction___neg__ : PySem.W.isFn K (.ref (He.fAd K ("Fraction", some "__neg__"))) = true
  f_Fraction___sub__ : PySem.W.isFn K (.ref (He.fAd K ("Fraction", some "__sub__"))) = true
  first_Fraction : PySem.W.selfFirst K (He.ga K "Fraction") = true
  g_BeforeStart : mg "BeforeStart" = some (.ref (He.ga K "BeforeStart"))
  g_DivisionByZero : mg "DivisionByZero" = some (.ref (He.ga K "DivisionByZero"))
  g_Fraction : mg "Fraction" = some (.ref (He.ga K "Fraction"))
  g_InvalidTerm : mg "InvalidTerm" = some (.ref (He.ga K "InvalidTerm"))
  g_PRIME : ∃ t, mg "PRIME" = some (.int 2305843009213693951 t)
  g_Pole : mg "Pole" = some (.ref (He.ga K "Pole"))
  g_Poly : mg "Poly" = some (.ref (He.ga K "Poly"))
  g_Quotient : mg "Quotient" = some (.ref (He.ga K "Quotient"))
  g_Term : mg "Term" = some (.ref (He.ga K "Term"))
  g_ZeroPolynomial : mg "ZeroPolynomial" = some (.ref (He.ga K "ZeroPolynomial"))
  g__digits : mg "_digits" = some (.ref (He.fAd K ("_digits", none)))
  g__divide_coefs : mg "_divide_coefs" = some (.ref (He.fAd K ("_divide_coefs", none)))
  g__divides : mg "_divides" = some (.ref (He.fAd K ("_divides", none)))
  g__divisor_by_values : mg "_divisor_by_values" = some (.ref (He.fAd K ("_divisor_by_values", none)))
  g__in_lowest_terms : mg "_in_lowest_terms" = some (.ref (He.fAd K ("_in_lowest_terms", none)))
  g__is_prime : mg "_is_prime" = some (.ref (He.fAd K ("_is_prime", none)))
  g__law_at : mg "_law_at" = some (.ref (He.fAd K ("_law_at", none)))
  g__law_cell : mg "_law_cell" = some (.ref (He.fAd K ("_law_cell", none)))
  g__law_closed_form : mg "_law_closed_form" = some (.ref (He.fAd K ("_law_closed_form", none)))
  g__law_digits : mg "_law_digits" = some (.ref (He.fAd K ("_law_digits", none)))
  g__law_expand : mg "_law_expand" = some (.ref (He.fAd K ("_law_expand", none)))
  g__law_factors : mg "_law_factors" = some (.ref (He.fAd K ("_law_factors", none)))
  g__law_is_small : mg "_law_is_small" = some (.ref (He.fAd K ("_law_is_small", none)))
  g__law_lead : mg "_law_lead" = some (.ref (He.fAd K ("_law_lead", none)))
  g__law_move : mg "_law_move" = some (.ref (He.fAd K ("_law_move", none)))
  g__law_mul : mg "_law_mul" = some (.ref (He.fAd K ("_law_mul", none)))
  g__law_plus : mg "_law_plus" = some (.ref (He.fAd K ("_law_plus", none)))
  g__law_poly : mg "_law_poly" = some (.ref (He.fAd K ("_law_poly", none)))
  g__law_ratio : mg "_law_ratio" = some (.ref (He.fAd K ("_law_ratio", none)))
  g__law_scale : mg "_law_scale" = some (.ref (He.fAd K ("_law_scale", none)))
  g__law_shift : mg "_law_shift" = some (.ref (He.fAd K ("_law_shift", none)))
  g__law_sum : mg "_law_sum" = some (.ref (He.fAd K ("_law_sum", none)))
  g__law_times : mg "_law_times" = some (.ref (He.fAd K ("_law_times", none)))
  g__law_total : mg "_law_total" = some (.ref (He.fAd K ("_law_total", none)))
  g__law_trim : mg "_law_trim" = some (.ref (He.fAd K ("_law_trim", none)))
  g__lifted : mg "_lifted" = some (.ref (He.fAd K ("_lifted", none)))
  g__prime_with_simple_roots : mg "_prime_with_simple_roots" = some (.ref (He.fAd K ("_prime_with_simple_roots", none)))
  g__product : mg "_product" = some (.ref (He.fAd K ("_product", none)))
  g__refuse_zero : mg "_refuse_zero" = some (.ref (He.fAd K ("_refuse_zero", none)))
  g__roots_modulo : mg "_roots_modulo" = some (.ref (He.fAd K ("_roots_modulo", none)))
  g__steps : mg "_steps" = some (.ref (He.fAd K ("_steps", none)))
  g__whole_roots : mg "_whole_roots" = some (.ref (He.fAd K ("_whole_roots", none)))
  g_closed_value : mg "closed_value" = some (.ref (He.fAd K ("closed_value", none)))
  g_common_divisor : mg "common_divisor" = some (.ref (He.fAd K ("common_divisor", none)))
  g_common_factor : mg "common_factor" = some (.ref (He.fAd K ("common_factor", none)))
  g_coprime_modulo : mg "coprime_modulo" = some (.ref (He.fAd K ("coprime_modulo", none)))
  g_derivative : mg "derivative" = some (.ref (He.fAd K ("derivative", none)))
  g_divide : mg "divide" = some (.ref (He.fAd K ("divide", none)))
  g_divided_modulo : mg "divided_modulo" = some (.ref (He.fAd K ("divided_modulo", none)))
  g_divisor_modulo : mg "divisor_modulo" = some (.ref (He.fAd K ("divisor_modulo", none)))
  g_evaluated : mg "evaluated" = some (.ref (He.fAd K ("evaluated", none)))
  g_exact : mg "exact" = some (.ref (He.fAd K ("exact", none)))
  g_gcd : mg "gcd" = some (.builtin "math.gcd")
  g_height : mg "height" = some (.ref (He.fAd K ("height", none)))
  g_inverse_modulo : mg "inverse_modulo" = some (.ref (He.fAd K ("inverse_modulo", none)))
  g_law : mg "law" = some (.ref (He.fAd K ("law", none)))
  g_monic : mg "monic" = some (.ref (He.fAd K ("monic", none)))
  g_next_prime : mg "next_prime" = some (.ref (He.fAd K ("next_prime", none)))
  g_primitive : mg "primitive" = some (.ref (He.fAd K ("primitive", none)))
  g_remainders : mg "remainders" = some (.ref (He.fAd K ("remainders", none)))
  g_roots_from : mg "roots_from" = some (.ref (He.fAd K ("roots_from", none)))
  g_trimmed : mg "trimmed" = some (.ref (He.fAd K ("trimmed", none)))
  g_value_modulo : mg "value_modulo" = some (.ref (He.fAd K ("value_modulo", none)))
  g_without_multiple_roots : mg "without_multiple_roots" = some (.ref (He.fAd K ("without_multiple_roots", none)))
  k_DivisionByZero : PySem.W.keepIn K (.ref (He.ga K "DivisionByZero")) = true
  k_InvalidTerm : PySem.W.keepIn K (.ref (He.ga K "InvalidTerm")) = true
  k_ZeroPolynomial : PySem.W.keepIn K (.ref (He.ga K "ZeroPolynomial")) = true
  m_Fraction_over : Meth K (He.ga K "Fraction") "over" (He.fAd K ("Fraction", some "over"))
  m_Poly_at : Meth K (He.ga K "Poly") "at" (He.fAd K ("Poly", some "at"))
  m_Poly_coefficient : Meth K (He.ga K "Poly") "coefficient" (He.fAd K ("Poly", some "coefficient"))
  m_Poly_scaled : Meth K (He.ga K "Poly") "scaled" (He.fAd K ("Poly", some "scaled"))
  m_Quotient_at : Meth K (He.ga K "Quotient") "at" (He.fAd K ("Quotient", some "at"))
  m_Term_value : Meth K (He.ga K "Term") "value" (He.fAd K ("Term", some "value"))
  mk_Fraction : Mk K (He.ga K "Fraction") (He.fAd K ("Fraction", some "__init__"))
  mk_Poly : Mk K (He.ga K "Poly") (He.fAd K ("Poly", some "__init__"))
  mk_Quotient : Mk K (He.ga K "Quotient") (He.fAd K ("Quotient", some "__init__"))
  mk_Term : Mk K (He.ga K "Term") (He.fAd K ("Term", some "__init__"))
  n_Fraction_den : NoAttr K (He.ga K "Fraction") "den"
  n_Fraction_num : NoAttr K (He.ga K "Fraction") "num"
  n_Poly_coefs : NoAttr K (He.ga K "Poly") "coefs"
  n_Poly_den : NoAttr K (He.ga K "Poly") "den"
  n_Quotient_den : NoAttr K (He.ga K "Quotient") "den"
  n_Quotient_num : NoAttr K (He.ga K "Quotient") "num"
  n_Term_first : NoAttr K (He.ga K "Term") "first"
  n_Term_ratio : NoAttr K (He.ga K "Term") "ratio"
  n_Term_start : NoAttr K (He.ga K "Term") "start"
  nfld_BeforeStart_index : PySem.W.findIn K (.ref (He.ga K "BeforeStart")) "index" = some none
  nfld_Pole_where : PySem.W.findIn K (.ref (He.ga K "Pole")) "where" = some none
  p_Fraction_is_zero : PropOf K (He.ga K "Fraction") "is_zero" (prAd K (He.ga K "Fraction") "is_zero") (gtAd K (He.ga K "Fraction") "is_zero")
  p_Poly_degree : PropOf K (He.ga K "Poly") "degree" (prAd K (He.ga K "Poly") "degree") (gtAd K (He.ga K "Poly") "degree")
  p_Poly_is_zero : PropOf K (He.ga K "Poly") "is_zero" (prAd K (He.ga K "Poly") "is_zero") (gtAd K (He.ga K "Poly") "is_zero")
  p_Poly_lead : PropOf K (He.ga K "Poly") "lead" (prAd K (He.ga K "Poly") "lead") (gtAd K (He.ga K "Poly") "lead")
  p_Quotient_is_zero : PropOf K (He.ga K "Quotient") "is_zero" (prAd K (He.ga K "Quotient") "is_zero") (gtAd K (He.ga K "Quotient") "is_zero")
  r_DivisionByZero : ∀ {X : Cx}, X.K = K → Raises X (.ref (He.ga K "DivisionByZero"))
  r_InvalidTerm : ∀ {X : Cx}, X.K = K → Raises X (.ref (He.ga K "InvalidTerm"))
  r_ZeroPolynomial : ∀ {X : Cx}, X.K = K → Raises X (.ref (He.ga K "ZeroPolynomial"))
  s_Fraction___add__ : PySem.W.findIn K (.ref (He.ga K "Fraction")) "__add__" = some (some (.ref (He.fAd K ("Fraction", some "__add__"))))
  s_Fraction___mul__ : PySem.W.findIn K (.ref (He.ga K "Fraction")) "__mul__" = some (some (.ref (He.fAd K ("Fraction", some "__mul__"))))
  s_Fraction___neg__ : PySem.W.findIn K (.ref (He.ga K "Fraction")) "__neg__" = some (some (.ref (He.fAd K ("Fraction", some "__neg__"))))
  s_Fraction___sub__ : PySem.W.findIn K (.ref (He.ga K "Fraction")) "__sub__" = some (some (.ref (He.fAd K ("Fraction", some "__sub__"))))
  sd_BeforeStart___init__ : SupD K (He.ga K "BeforeStart") (d_BeforeStart___init__.at_ K) d_BeforeStart___init__.name d_BeforeStart___init__.qual d_BeforeStart___init__.params d_BeforeStart___init__.body d_BeforeStart___init__.scope "/claim/cut.py"
  sd_Pole___init__ : SupD K (He.ga K "Pole") (d_Pole___init__.at_ K) d_Pole___init__.name d_Pole___init__.qual d_Pole___init__.params d_Pole___init__.body d_Pole___init__.scope "/claim/cut.py"
  ty_Fraction : ∀ {H : Hp} {a dx : Addr} {fs : List (Str × V)}, H a = some (.ins (He.ga K "Fraction") dx fs) → TyX K H (.ref a) (.ref (He.ga K "Fraction"))
  x_DivisionByZero : PySem.W.excIn K (He.ga K "DivisionByZero") He.veBase "ValueError.__new__" = true
  x_InvalidTerm : PySem.W.excIn K (He.ga K "InvalidTerm") He.veBase "ValueError.__new__" = true
  x_ZeroPolynomial : PySem.W.excIn K (He.ga K "ZeroPolynomial") He.veBase "ValueError.__new__" = true
  z_abs : mg "abs" = none
  z_bool : mg "bool" = none
  z_enumerate : mg "enumerate" = none
  z_int : mg "int" = none
  z_isinstance : mg "isinstance" = none
  z_len : mg "len" = none
  z_list : mg "list" = none
  z_max : mg "max" = none
  z_min : mg "min" = none
  z_range : mg "range" = none
  z_reversed : mg "reversed" = none
  z_sorted : mg "sorted" = none
  z_super : mg "super" = none
  z_tuple : mg "tuple" = none

/-! ### what the defs promise -/
abbrev CF (K : PySem.W.Frag) : Addr := He.ga K "Fraction"
abbrev CD (K : PySem.W.Frag) : Value := .ref (He.ga K "DivisionByZero")
/-- a Fraction at a: its numerator and denominator -/
abbrev fsF (n d : Int) : List (Str × V) := [("num", .int n), ("den", .int d)]
/-- in lowest terms and of at most k bits -/
structure Lw (k : Nat) (n d : Int) : Prop where
  pos : 0 < d
  cop : Cop n d
  bn : n.natAbs < 2 ^ k
  bd : d.natAbs < 2 ^ k
theorem Lw.fq {k : Nat} {n d : Int} (l : Lw k n d) : Fq n d n d := ⟨rfl, l.pos, l.cop⟩
theorem Lw.ne {k : Nat} {n d : Int} (l : Lw k n d) : d ≠ 0 := by have := l.pos; omega
theorem Lw.mono {k j : Nat} {n d : Int} (l : Lw k n d) (h : k ≤ j) : Lw j n d := ⟨l.pos, l.cop, abs_mono l.bn h, abs_mono l.bd h⟩
theorem lw_of {k : Nat} {n d a b : Int} (f : Fq n d a b) (hd : d ≠ 0) (hn : n.natAbs < 2 ^ k) (hk : d.natAbs < 2 ^ k) : Lw k a b :=
  ⟨f.pos, f.cop, Nat.lt_of_le_of_lt (f.num_le hd) hn, Nat.lt_of_le_of_lt (f.den_le hd) hk⟩
/-- the value is a new Fraction n / d -/
theorem same_mut {H H2 : Hp} {p : Addr} {o : HO} (sm : Same H H2) (np : H p = none) : Same H (upd H2 p o) := fun b x e => by
  rw [upd_ne (ne_of_none e np)]
  exact sm _ _ e
theorem same_made0 {H : Hp} {p dp C : Addr} (np : H p = none) (nd : H dp = none) : Same H (upd (upd H dp (.own p)) p (.ins C dp [])) := fun b x e => by
  rw [upd_ne (ne_of_none e np), upd_ne (ne_of_none e nd)]
  exact e
/-- Fraction(..), its values all written or with the default; nothing is raised -/
def mkFr (K : PySem.W.Frag) (dvs : List V) : List V → Hp → VK → Prop := fun vs H1 Q => ∃ (n d : Int) (k : Nat), vs ++ dvs = [.int n, .int d] ∧ d.natAbs < 2 ^ k ∧ k ≤ 8000 ∧ d ≠ 0 ∧
  ∀ p dp H2 a b, Same H1 H2 → H1 p = none → H2 p = some (.ins (CF K) dp (fsF a b)) → Fq n d a b → Q (.ref p) H2
/-- .. in a try's body: W is wished of an exception, with the slots -/
def mkFrS (K : PySem.W.Frag) (dvs : List V) (W : WX) : L2.St → List V → Hp → VK → Prop := fun σ vs H1 Q => ∃ (n d : Int) (k : Nat), vs ++ dvs = [.int n, .int d] ∧ d.natAbs < 2 ^ k ∧ k ≤ 8000 ∧ (d = 0 → ∀ H2, Same H1 H2 → W (CD K) none σ H2) ∧
  (d ≠ 0 → ∀ p dp H2 a b, Same H1 H2 → H1 p = none → H2 p = some (.ins (CF K) dp (fsF a b)) → Fq n d a b → Q (.ref p) H2)
def RF (K : PySem.W.Frag) (H : Hp) (Q : VK) (R : Int → Int → Prop) : Prop := ∀ p dp H' n d, Same H H' → H p = none → H' p = some (.ins (CF K) dp (fsF n d)) → R n d → Q (.ref p) H'


/-! ### lists of fractions -/
/-- the list's items are the fractions qs -/
structure FrL (K : PySem.W.Frag) (H : Hp) (xs : List V) (qs : List (Int × Int)) : Prop where
  len : xs.length = qs.length
  at_ : ∀ (i : Nat) (q : Int × Int), qs[i]? = some q → ∃ a dx, xs[i]? = some (.ref a) ∧ H a = some (.ins (CF K) dx (fsF q.1 q.2))
theorem FrL.mono {K : PySem.W.Frag} {H H' : Hp} {xs : List V} {qs : List (Int × Int)} (f : FrL K H xs qs) (sm : Same H H') : FrL K H' xs qs :=
  ⟨f.len, fun i q h => by obtain ⟨a, dx, e, h2⟩ := f.at_ i q h; exact ⟨a, dx, e, sm _ _ h2⟩⟩
theorem FrL.nil {K : PySem.W.Frag} {H : Hp} : FrL K H [] [] := ⟨rfl, fun i q h => by simp at h⟩
theorem FrL.snoc {K : PySem.W.Frag} {H : Hp} {xs : List V} {qs : List (Int × Int)} {a dx : Addr} {n d : Int} (f : FrL K H xs qs) (h : H a = some (.ins (CF K) dx (fsF n d))) : FrL K H (xs ++ [.ref a]) (qs ++ [(n, d)]) := by
  refine ⟨by simp [f.len], fun i q hq => ?_⟩
  by_cases c : i < qs.length
  · rw [List.getElem?_append_left c] at hq
    obtain ⟨b, dy, e, h2⟩ := f.at_ i q hq
    exact ⟨b, dy, by rw [List.getElem?_append_left (by rw [f.len]; exact c)]; exact e, h2⟩
  · rw [List.getElem?_append_right (by omega)] at hq
    have c0 : i - qs.length = 0 := by
      refine Decidable.byContradiction fun z => ?_
      rw [List.getElem?_eq_none (by simp; omega)] at hq
      cases hq
    rw [c0] at hq
    cases hq
    exact ⟨a, dx, by rw [List.getElem?_append_right (by rw [f.len]; omega), f.len, c0]; rfl, h⟩
theorem FrL.upd {K : PySem.W.Frag} {H : Hp} {xs : List V} {qs : List (Int × Int)} {D : Addr} {ys : List V} {o : HO} (f : FrL K H xs qs) (h : H D = some (.lst ys)) : FrL K (upd H D o) xs qs :=
  ⟨f.len, fun i q e => by
    obtain ⟨a, dx, e1, e2⟩ := f.at_ i q e
    have ne : a ≠ D := fun z => by rw [z, h] at e2; cases e2
    exact ⟨a, dx, e1, by rw [upd_ne ne]; exact e2⟩⟩
theorem FrL.take {K : PySem.W.Frag} {H : Hp} {xs : List V} {qs : List (Int × Int)} (f : FrL K H xs qs) (m : Nat) : FrL K H (xs.take m) (qs.take m) := by
  refine ⟨by simp [f.len], fun i q h => ?_⟩
  rw [List.getElem?_take] at h
  by_cases c : i < m
  · rw [if_pos c] at h
    obtain ⟨a, dx, e, h2⟩ := f.at_ i q h
    exact ⟨a, dx, by rw [List.getElem?_take, if_pos c]; exact e, h2⟩
  · rw [if_neg c] at h
    cases h
theorem FrL.drop {K : PySem.W.Frag} {H : Hp} {xs : List V} {qs : List (Int × Int)} (f : FrL K H xs qs) (m : Nat) : FrL K H (xs.drop m) (qs.drop m) := by
  refine ⟨by simp [f.len], fun i q h => ?_⟩
  rw [List.getElem?_drop] at h
  obtain ⟨a, dx, e, h2⟩ := f.at_ _ q h
  exact ⟨a, dx, by rw [List.getElem?_drop]; exact e, h2⟩
/-- the sum of pairs, not in lowest terms -/
def sumQ : List (Int × Int) → Int × Int
  | [] => (0, 1)
  | q :: r => (q.1 * (sumQ r).2 + (sumQ r).1 * q.2, q.2 * (sumQ r).2)
def prodQ : List (Int × Int) → Int × Int
  | [] => (1, 1)
  | q :: r => (q.1 * (prodQ r).1, q.2 * (prodQ r).2)
abbrev AllLw (k : Nat) (qs : List (Int × Int)) : Prop := ∀ q ∈ qs, Lw k q.1 q.2
theorem AllLw.take {k : Nat} {qs : List (Int × Int)} (h : AllLw k qs) (m : Nat) : AllLw k (qs.take m) := fun q hq => h q (List.mem_of_mem_take hq)
theorem AllLw.drop {k : Nat} {qs : List (Int × Int)} (h : AllLw k qs) (m : Nat) : AllLw k (qs.drop m) := fun q hq => h q (List.mem_of_mem_drop hq)
/-- the answer is a fraction, new or not -/
def RS (K : PySem.W.Frag) (H : Hp) (Q : VK) (R : Int → Int → Prop) : Prop := ∀ p dp H' n d, Same H H' → H' p = some (.ins (CF K) dp (fsF n d)) → R n d → Q (.ref p) H'


def DenAt (K : PySem.W.Frag) (H : Hp) (v : V) (d : Int) : Prop := ∃ (b : Addr) (C : Addr) (dx : Addr) (fs : List (Str × V)), v = .ref b ∧ H b = some (.ins C dx fs) ∧ Cls K C ∧ NoAttr K C "den" ∧ fs.lookup ("den" : Str) = some (V.int d)


/-! ### polynomials -/
abbrev CP (K : PySem.W.Frag) : Addr := He.ga K "Poly"
abbrev fsP (t : Addr) (e : Int) : List (Str × V) := [("coefs", .ref t), ("den", .int e)]
/-- a Poly at p: its coefficients and denominator -/
def PoA (K : PySem.W.Frag) (H : Hp) (p : Addr) (ks : List Int) (e : Int) : Prop := ∃ dp t, H p = some (.ins (CP K) dp (fsP t e)) ∧ H t = some (.tup (ks.map V.int))
theorem PoA.mono {K : PySem.W.Frag} {H H' : Hp} {p : Addr} {ks : List Int} {e : Int} (h : PoA K H p ks e) (sm : Same H H') : PoA K H' p ks e := by
  obtain ⟨dp, t, h1, h2⟩ := h
  exact ⟨dp, t, sm _ _ h1, sm _ _ h2⟩
/-- a list or a tuple of whole numbers -/
def Sq (K : PySem.W.Frag) (H : Hp) (a : Addr) (xs : List Int) : Prop := SqL K H a (xs.map V.int) ∨ SqT K H a (xs.map V.int)
structure Bits (k : Nat) (xs : List Int) : Prop where
  all : ∀ x ∈ xs, x.natAbs < 2 ^ k
theorem Bits.getD {k : Nat} {xs : List Int} (h : Bits k xs) (i : Nat) : (xs.getD i 0).natAbs < 2 ^ k := by
  by_cases c : i < xs.length
  · exact h.all _ (getD_mem c)
  · rw [getD_end (by omega)]
    exact Nat.pow_pos (by decide)
theorem bits_of_at {k : Nat} {xs : List Int} (h : ∀ i, (xs.getD i 0).natAbs < 2 ^ k) : Bits k xs := ⟨fun x hx => by
  obtain ⟨i, hi, rfl⟩ := List.mem_iff_getElem.mp hx
  have z := h i
  rwa [List.getD_eq_getElem?_getD, List.getElem?_eq_getElem hi] at z⟩
theorem bits_put {k : Nat} {xs : List Int} {n : Nat} {x : Int} (h1 : Bits k xs) (h : x.natAbs < 2 ^ k) : Bits k (xs.set n x) := ⟨fun y hy => by
  rcases List.mem_or_eq_of_mem_set hy with hy | hy
  · exact h1.all y hy
  · rw [hy]; exact h⟩
theorem Bits.mono {k j : Nat} {xs : List Int} (h : Bits k xs) (c : k ≤ j) : Bits j xs := ⟨fun x hx => abs_mono (h.all x hx) c⟩
theorem Bits.neg {k : Nat} {xs : List Int} (h : Bits k xs) : Bits k (xs.map fun x => -x) := ⟨fun x hx => by
  obtain ⟨y, hy, rfl⟩ := List.mem_map.mp hx
  rw [Int.natAbs_neg]
  exact h.all y hy⟩
theorem Bits.mul {k j : Nat} {xs : List Int} {c : Int} (h : Bits k xs) (hc : c.natAbs < 2 ^ j) : Bits (k + j) (xs.map fun x => x * c) := ⟨fun x hx => by
  obtain ⟨y, hy, rfl⟩ := List.mem_map.mp hx
  exact abs_lt_mul (h.all y hy) hc⟩
theorem Bits.add {k : Nat} {xs ys : List Int} (h : Bits k xs) (h2 : Bits k ys) : Bits (k + 1) (addL xs ys) := ⟨fun x hx => by
  unfold addL at hx
  obtain ⟨i, _, rfl⟩ := List.mem_map.mp hx
  have z := sz_add (h.getD i) (h2.getD i)
  rw [Nat.max_self] at z
  exact z⟩
theorem Pq.bits {cs ks : List Int} {d e : Int} {k : Nat} (p : Pq cs d ks e) (hd : d ≠ 0) (h : Bits k cs) : Bits k ks := ⟨fun x hx => by
  obtain ⟨i, hi, rfl⟩ := List.mem_iff_getElem.mp hx
  have z : ks[i] = ks.getD i 0 := by rw [List.getD_eq_getElem?_getD, List.getElem?_eq_getElem hi]; rfl
  have c := h.getD i
  have q := p.eq i
  rw [z]
  have p0 := p.pos
  -- e divides d
  have dv := p.den_dvd1 hd
  obtain ⟨u, hu⟩ := dv
  have u0 : u ≠ 0 := fun w => by rw [w] at hu; omega
  have e1 : cs.getD i 0 = ks.getD i 0 * u := by
    rw [hu] at q
    have : cs.getD i 0 * e = (ks.getD i 0 * u) * e := by grind
    exact Int.eq_of_mul_eq_mul_right (by omega) this
  rw [e1, Int.natAbs_mul] at c
  exact Nat.lt_of_le_of_lt (Nat.le_mul_of_pos_right _ (by omega)) c⟩
/-- all that a check of a polynomial asks -/
structure POk (k : Nat) (cs : List Int) (den : Int) (ks : List Int) (e : Int) : Prop where
  pq : Pq cs den ks e
  l1 : ks.length ≤ 400
  l2 : cs.length ≤ 400
  b1 : ∀ x ∈ ks, x.natAbs < 2 ^ k
  b2 : ∀ x ∈ cs, x.natAbs < 2 ^ k
  b3 : e.natAbs < 2 ^ k
  b4 : den.natAbs < 2 ^ k
theorem PoA.upd {K : PySem.W.Frag} {H : Hp} {p D : Addr} {ks : List Int} {e : Int} {ys : List V} {o : HO} (h : PoA K H p ks e) (hD : H D = some (.lst ys)) : PoA K (upd H D o) p ks e := by
  obtain ⟨dp, t, h1, h2⟩ := h
  have n1 : p ≠ D := fun z => by rw [z, hD] at h1; cases h1
  have n2 : t ≠ D := fun z => by rw [z, hD] at h2; cases h2
  exact ⟨dp, t, by rw [upd_ne n1]; exact h1, by rw [upd_ne n2]; exact h2⟩
def mkPo (K : PySem.W.Frag) (dvs : List V) : List V → Hp → VK → Prop := fun vs H1 Q => ∃ (a : Addr) (cs : List Int) (d : Int) (k : Nat), vs ++ dvs = [.ref a, .int d] ∧ Sq K H1 a cs ∧ cs.length ≤ 900 ∧ d.natAbs < 2 ^ k ∧ k ≤ 8000 ∧ d ≠ 0 ∧
  ∀ p H2 ks e, Same H1 H2 → H1 p = none → PoA K H2 p ks e → Pq cs d ks e → Q (.ref p) H2
/-- .. in a try's body -/
def mkPoS (K : PySem.W.Frag) (dvs : List V) (W : WX) : L2.St → List V → Hp → VK → Prop := fun σ vs H1 Q => ∃ (a : Addr) (cs : List Int) (d : Int) (k : Nat), vs ++ dvs = [.ref a, .int d] ∧ Sq K H1 a cs ∧ cs.length ≤ 900 ∧ d.natAbs < 2 ^ k ∧ k ≤ 8000 ∧ (d = 0 → ∀ H2, Same H1 H2 → W (CD K) none σ H2) ∧
  (d ≠ 0 → ∀ p H2 ks e, Same H1 H2 → H1 p = none → PoA K H2 p ks e → Pq cs d ks e → Q (.ref p) H2)
/-- the answer is a new polynomial -/
def RP (K : PySem.W.Frag) (H : Hp) (Q : VK) (R : List Int → Int → Prop) : Prop := ∀ p H' ks e, Same H H' → H p = none → PoA K H' p ks e → R ks e → Q (.ref p) H'


theorem yes_ok {σ : L2.St} {H : Hp} {Q : Bool → Hp → Prop} (h : Q true H) : tYes σ H Q := h
/-- a pair (list, number) -/
def PtA (H : Hp) (p : Addr) (cs : List Int) (d : Int) : Prop := ∃ l, H p = some (.tup [.ref l, .int d]) ∧ H l = some (.lst (cs.map V.int))
theorem PtA.mono {H H' : Hp} {p : Addr} {cs : List Int} {d : Int} (h : PtA H p cs d) (sm : Same H H') : PtA H' p cs d := by
  obtain ⟨l, h1, h2⟩ := h
  exact ⟨l, sm _ _ h1, sm _ _ h2⟩
/-- .. with a new list -/
def PtN (H0 H : Hp) (p : Addr) (cs : List Int) (d : Int) : Prop := ∃ l, H0 l = none ∧ H p = some (.tup [.ref l, .int d]) ∧ H l = some (.lst (cs.map V.int))
theorem PtN.a {H0 H : Hp} {p : Addr} {cs : List Int} {d : Int} (h : PtN H0 H p cs d) : PtA H p cs d := by
  obtain ⟨l, _, h1, h2⟩ := h
  exact ⟨l, h1, h2⟩
theorem PtN.mono {H0 H H' : Hp} {p : Addr} {cs : List Int} {d : Int} (h : PtN H0 H p cs d) (sm : Same H H') : PtA H' p cs d := h.a.mono sm
theorem PtN.back {H0 H1 H : Hp} {p : Addr} {cs : List Int} {d : Int} (h : PtN H1 H p cs d) (sm : Same H0 H1) : PtN H0 H p cs d := by
  obtain ⟨l, h0, h1, h2⟩ := h
  exact ⟨l, sm.free h0, h1, h2⟩
/-- what a def that makes a pair promises -/
def RPt (H : Hp) (Q : VK) (P : List Int → Int → Prop) : Prop := ∀ p H' zs d, Same H H' → H p = none → PtN H H' p zs d → P zs d → Q (.ref p) H'
theorem bits_tf {zs : List Int} {f : Nat → Int} {k : Nat} (t : Tf zs f) (h : ∀ i, (f i).natAbs < 2 ^ k) : Bits k zs := bits_of_at fun i => by rw [t.at_]; exact h i


theorem Bits.set {k : Nat} {xs : List Int} {n : Nat} {x : Int} (h1 : Bits k xs) (h : x.natAbs < 2 ^ k) : Bits k (xs.set n x) := ⟨fun y hy => by
  rcases List.mem_or_eq_of_mem_set hy with hy | hy
  · exact h1.all y hy
  · rw [hy]; exact h⟩
/-- the bits that a move gives -/
def shB (kb sb n : Nat) : Nat := kb + (sb + 1) * ((n + 1) * (n + 1))


/-! ### polynomials in two variables -/
abbrev CP2 (K : PySem.W.Frag) : Addr := He.ga K "Poly2"
abbrev Pt := Addr × List Int × Int
abbrev rf (q : Addr × List Int × Int) : V := V.ref q.1
abbrev fsP2 (t : Addr) : List (Str × V) := [("rows", .ref t)]
def PolG (K : PySem.W.Frag) (H : Hp) (ps : List Pt) : Prop := ∀ q ∈ ps, PoA K H q.1 q.2.1 q.2.2
theorem PolG.mono {K : PySem.W.Frag} {H H' : Hp} {ps : List Pt} (h : PolG K H ps) (sm : Same H H') : PolG K H' ps := fun q hq => (h q hq).mono sm
theorem PolG.take {K : PySem.W.Frag} {H : Hp} {ps : List Pt} {n : Nat} (h : PolG K H ps) : PolG K H (ps.take n) := fun q hq => h q (List.mem_of_mem_take hq)
/-- a Poly2 at p: its rows -/
def P2A (K : PySem.W.Frag) (H : Hp) (p : Addr) (ps : List Pt) : Prop := ∃ dp t, H p = some (.ins (CP2 K) dp (fsP2 t)) ∧ H t = some (.tup (ps.map rf)) ∧ PolG K H ps
theorem P2A.mono {K : PySem.W.Frag} {H H' : Hp} {p : Addr} {ps : List Pt} (h : P2A K H p ps) (sm : Same H H') : P2A K H' p ps := by
  obtain ⟨dp, t, h1, h2, h3⟩ := h
  exact ⟨dp, t, sm _ _ h1, sm _ _ h2, h3.mono sm⟩
/-- n is where the rows end without the last zero ones -/
structure TrimP (ps : List Pt) (n : Nat) : Prop where
  le : n ≤ ps.length
  up : ∀ i q, n ≤ i → ps[i]? = some q → q.2.1 = []
  at_ : n = 0 ∨ ∃ q, ps[n - 1]? = some q ∧ q.2.1 ≠ []
/-- the coefficient of a power of k -/
def rw2 (ps : List Pt) (i : Nat) : List Int × Int := ((ps[i]?).map (·.2)).getD ([], 1)
/-- a table: rows of whole numbers -/
abbrev Rt := Addr × List Int
abbrev rr (r : Addr × List Int) : V := V.ref r.1
def TabG (H : Hp) (tb : List Rt) : Prop := ∀ r ∈ tb, H r.1 = some (.lst (r.2.map V.int))
theorem TabG.mono {H H' : Hp} {tb : List Rt} (h : TabG H tb) (sm : Same H H') : TabG H' tb := fun r hr => sm _ _ (h r hr)
theorem PolG.upd {K : PySem.W.Frag} {H : Hp} {ps : List Pt} {D : Addr} {ys : List V} {o : HO} (h : PolG K H ps) (hD : H D = some (.lst ys)) : PolG K (upd H D o) ps := fun q hq => (h q hq).upd hD
theorem PolG.snoc {K : PySem.W.Frag} {H : Hp} {ps : List Pt} {p : Addr} {ks : List Int} {e : Int} (h : PolG K H ps) (hp : PoA K H p ks e) : PolG K H (ps ++ [(p, ks, e)]) := fun q hq => by
  rcases List.mem_append.mp hq with hq | hq
  · exact h q hq
  · rw [List.mem_singleton.mp hq]; exact hp
/-- the rows are table / d in their one form -/
structure P2q (tb : List (List Int)) (d : Int) (ps : List Pt) : Prop where
  at_ : ∀ i q, ps[i]? = some q → Pq (tb.getD i []) d q.2.1 q.2.2
  up : ∀ i, ps.length ≤ i → ∀ j, (tb.getD i []).getD j 0 = 0
  top : ps = [] ∨ ∃ q, ps[ps.length - 1]? = some q ∧ q.2.1 ≠ []
abbrev CZ (K : PySem.W.Frag) : Value := .ref (He.ga K "ZeroPolynomial")

/-- a quotient's parts, by their sizes -/
structure QSz (k : Nat) (as : List Int) (a : Int) (bs : List Int) (b : Int) : Prop where
  sa : Pq as a as a
  sb : Pq bs b bs b
  bne : bs ≠ []
  ba : Bits k as
  bb : Bits k bs
  ea : a.natAbs < 2 ^ 60
  eb : b.natAbs < 2 ^ 60
  la : as.length ≤ 7
  lb : bs.length ≤ 7
/-- a longer quotient's parts, by their sizes -/
structure QSz9 (k : Nat) (as : List Int) (a : Int) (bs : List Int) (b : Int) : Prop where
  sa : Pq as a as a
  sb : Pq bs b bs b
  bne : bs ≠ []
  ba : Bits k as
  bb : Bits k bs
  ea : a.natAbs < 2 ^ 100
  eb : b.natAbs < 2 ^ 100
  la : as.length ≤ 9
  lb : bs.length ≤ 9

/-- some number -/
def spCell (K : PySem.W.Frag) : Sp := fun vs H Q _ => ∃ (a : Addr) (ns : List Int) (k : Int), vs = [.ref a, .int k] ∧ SqL K H a (ns.map V.int) ∧ 0 ≤ k ∧ ∀ c : Int, Q (.int c) H
def spDigL (K : PySem.W.Frag) : Sp := fun vs H Q _ => ∃ c l n : Int, vs = [.int c, .int l, .int n] ∧ 0 < l ∧ l ≤ 100000 ∧ 0 ≤ n ∧ n ≤ 100 ∧
  ∀ p H' (ms : List Int), Same H H' → H p = none → H' p = some (.lst (ms.map V.int)) → ms.length = n.toNat → (∀ m ∈ ms, 0 ≤ m ∧ m < l) → Q (.ref p) H'
theorem cutV_map (ms : List Int) (lo hi : Option Int) : cutV (ms.map V.int) lo hi = ((ms.drop (HT.sIx ms.length 0 lo)).take (HT.sIx ms.length ms.length hi - HT.sIx ms.length 0 lo)).map V.int := by
  unfold cutV
  rw [len_map, ← List.map_drop, ← List.map_take]
/-! lists of triples -/
abbrev F3 : Type := Int × Int × Int
abbrev f3O (p : F3) : HO := .tup [.int p.1, .int p.2.1, .int p.2.2]
structure F3L (H : Hp) (xs : List V) (ps : List F3) : Prop where
  len : xs.length = ps.length
  at_ : ∀ (i : Nat) (p : F3), ps[i]? = some p → ∃ a, xs[i]? = some (.ref a) ∧ H a = some (f3O p)
theorem F3L.mono {H H' : Hp} {xs : List V} {ps : List F3} (f : F3L H xs ps) (sm : Same H H') : F3L H' xs ps :=
  ⟨f.len, fun i q h => by obtain ⟨a, e, h2⟩ := f.at_ i q h; exact ⟨a, e, sm _ _ h2⟩⟩
theorem F3L.nil {H : Hp} : F3L H [] [] := ⟨rfl, fun i q h => by simp at h⟩
theorem F3L.snoc {H : Hp} {xs : List V} {ps : List F3} {a : Addr} {p : F3} (f : F3L H xs ps) (h : H a = some (f3O p)) : F3L H (xs ++ [.ref a]) (ps ++ [p]) := by
  refine ⟨by simp [f.len], fun i q hq => ?_⟩
  by_cases c : i < ps.length
  · rw [List.getElem?_append_left c] at hq
    obtain ⟨b, e, h2⟩ := f.at_ i q hq
    exact ⟨b, by rw [List.getElem?_append_left (by rw [f.len]; exact c)]; exact e, h2⟩
  · rw [List.getElem?_append_right (by omega)] at hq
    have c0 : i - ps.length = 0 := by
      refine Decidable.byContradiction fun z => ?_
      rw [List.getElem?_eq_none (by simp; omega)] at hq
      cases hq
    rw [c0] at hq
    cases hq
    exact ⟨a, by rw [List.getElem?_append_right (by rw [f.len]; omega), f.len, c0]; rfl, h⟩
theorem F3L.upd {H : Hp} {xs : List V} {ps : List F3} {D : Addr} {ys : List V} {o : HO} (f : F3L H xs ps) (h : H D = some (.lst ys)) : F3L (upd H D o) xs ps :=
  ⟨f.len, fun i q e => by
    obtain ⟨a, e1, e2⟩ := f.at_ i q e
    have ne : a ≠ D := fun z => by rw [z, h] at e2; cases e2
    exact ⟨a, e1, by rw [upd_ne ne]; exact e2⟩⟩
/-- 2 k - p, or (k - j) ** 2 + c -/
def FkOk (f : F3) : Prop := (f.1 = 1 ∧ -6 ≤ f.2.1 ∧ f.2.1 ≤ 6) ∨ (f.1 = 2 ∧ -2 ≤ f.2.1 ∧ f.2.1 ≤ 2 ∧ 1 ≤ f.2.2 ∧ f.2.2 ≤ 2)
def dgS : List F3 → Int
  | [] => 0
  | f :: r => f.1 + dgS r
theorem dgS_app (a b : List F3) : dgS (a ++ b) = dgS a + dgS b := by
  induction a with
  | nil => show dgS b = 0 + dgS b; omega
  | cons f r ih => show f.1 + dgS (r ++ b) = f.1 + dgS r + dgS b; rw [ih]; omega
structure FsOk (fs : List F3) : Prop where
  ok : ∀ f ∈ fs, FkOk f
  dg : dgS fs ≤ 2
theorem FsOk.snoc {fs : List F3} {f : F3} (h : FsOk fs) (k : FkOk f) (d : dgS fs + f.1 ≤ 2) : FsOk (fs ++ [f]) := ⟨fun g hg => by
  rcases List.mem_append.mp hg with hg | hg
  · exact h.ok g hg
  · rw [List.mem_singleton.mp hg]; exact k, by rw [dgS_app]; show dgS fs + (f.1 + 0) ≤ 2; omega⟩
def spLFs (K : PySem.W.Frag) : Sp := fun vs H Q _ => ∃ c : Int, vs = [.int c, .int 2] ∧
  ∀ p H' xs fs, Same H H' → H p = none → H' p = some (.lst xs) → F3L H' xs fs → FsOk fs → fs.length ≤ 2 → Q (.ref p) H'
def spLLd (K : PySem.W.Frag) : Sp := fun vs H Q _ => ∃ c : Int, vs = [.int c] ∧
  ∀ p H' (a b : Int), Same H H' → H p = none → H' p = some (.tup [.int a, .int b]) → a ≠ 0 → a.natAbs ≤ 3 → 1 ≤ b → b ≤ 3 → Q (.ref p) H'
def spTri (K : PySem.W.Frag) : Sp := fun vs H Q _ => ∃ (a : Addr) (xs : List Int), vs = [.ref a] ∧ SqL K H a (xs.map V.int) ∧ xs.length ≤ 900 ∧
  ∀ p H' zs, Same H H' → H p = none → H' p = some (.lst (zs.map V.int)) → Tf zs (ff xs) → zs.length ≤ xs.length → Q (.ref p) H'
def spLMl (K : PySem.W.Frag) : Sp := fun vs H Q _ => ∃ (a b : Addr) (xs ys : List Int) (k : Nat), vs = [.ref a, .ref b] ∧ SqL K H a (xs.map V.int) ∧ SqL K H b (ys.map V.int) ∧ Bits k xs ∧ Bits k ys ∧ xs.length ≤ 400 ∧ ys.length ≤ 400 ∧ k ≤ 400000 ∧
  ∀ p H' zs, Same H H' → H p = none → H' p = some (.lst (zs.map V.int)) → Tf zs (cv xs ys) → zs.length ≤ xs.length + ys.length → Q (.ref p) H'
theorem dgS_nn : ∀ {fs : List F3}, (∀ f ∈ fs, FkOk f) → 0 ≤ dgS fs
  | [], _ => Int.le_refl _
  | f :: r, h => by
    have a := dgS_nn (fs := r) fun g hg => h g (List.mem_cons_of_mem _ hg)
    have b := h f (List.mem_cons_self ..)
    show 0 ≤ f.1 + dgS r
    rcases b with ⟨e, _⟩ | ⟨e, _⟩ <;> omega
/-- a factor, its value, its leading coefficient -/
def pl3 (f : F3) : List Int := if f.1 = 1 then [-f.2.1, 2] else [f.2.1 * f.2.1 + f.2.2, -2 * f.2.1, 1]
def fv3 (f : F3) (z : Int) : Int := if f.1 = 1 then 2 * z - f.2.1 else (z - f.2.1) * (z - f.2.1) + f.2.2
def ld3 (f : F3) : Int := if f.1 = 1 then 2 else 1
def fvP (z : Int) : List F3 → Int
  | [] => 1
  | f :: r => fv3 f z * fvP z r
def ldP : List F3 → Int
  | [] => 1
  | f :: r => ld3 f * ldP r
theorem fvP_app (z : Int) : ∀ a b, fvP z (a ++ b) = fvP z a * fvP z b
  | [], b => (Int.one_mul _).symm
  | f :: r, b => by show fv3 f z * fvP z (r ++ b) = fv3 f z * fvP z r * fvP z b; rw [fvP_app z r b, Int.mul_assoc]
theorem ldP_app : ∀ a b, ldP (a ++ b) = ldP a * ldP b
  | [], b => (Int.one_mul _).symm
  | f :: r, b => by show ld3 f * ldP (r ++ b) = ld3 f * ldP r * ldP b; rw [ldP_app r b, Int.mul_assoc]
theorem ev3 {f : F3} (h : FkOk f) (z : Int) : evL z (pl3 f) = fv3 f z := by
  unfold pl3 fv3
  rcases h with ⟨h, _⟩ | ⟨h, _⟩
  · rw [if_pos h, if_pos h]
    show (0 * z + 2) * z + -f.2.1 = _
    omega
  · rw [if_neg (by omega), if_neg (by omega)]
    show ((0 * z + 1) * z + -2 * f.2.1) * z + (f.2.1 * f.2.1 + f.2.2) = _
    grind
def l1s (fs : List Int) : Nat → Nat
  | 0 => 0
  | n + 1 => l1s fs n + (fs.getD n 0).natAbs
theorem sum3 {f : F3} (h : FkOk f) : l1s (pl3 f) (pl3 f).length ≤ 8 ^ f.1.toNat := by
  unfold pl3
  rcases h with ⟨h, h1, h2⟩ | ⟨h, h1, h2, h3, h4⟩
  · rw [if_pos h, h]
    show 0 + (-f.2.1).natAbs + 2 ≤ 8
    omega
  · rw [if_neg (by omega), h]
    have sq : f.2.1 * f.2.1 ≤ 4 ∧ 0 ≤ f.2.1 * f.2.1 := by
      rcases (by omega : f.2.1 = -2 ∨ f.2.1 = -1 ∨ f.2.1 = 0 ∨ f.2.1 = 1 ∨ f.2.1 = 2) with e | e | e | e | e <;> rw [e] <;> decide
    show 0 + (f.2.1 * f.2.1 + f.2.2).natAbs + (-2 * f.2.1).natAbs + 1 ≤ 64
    omega
theorem cv_l1 {xs ys : List Int} {B : Nat} (hy : ∀ i, (ys.getD i 0).natAbs ≤ B) (i : Nat) : ∀ n, (cvS xs ys n i).natAbs ≤ l1s xs n * B
  | 0 => Nat.le_of_eq (by rw [show l1s xs 0 = 0 from rfl, Nat.zero_mul]; rfl)
  | n + 1 => by
    have ih := cv_l1 (xs := xs) hy i n
    have m : (xs.getD n 0 * ys.getD (i - n) 0).natAbs ≤ (xs.getD n 0).natAbs * B := by rw [Int.natAbs_mul]; exact Nat.mul_le_mul_left _ (hy _)
    show (cvS xs ys n i + _).natAbs ≤ (l1s xs n + (xs.getD n 0).natAbs) * B
    rw [Nat.add_mul]
    split <;> omega
theorem top3 {f : F3} (h : FkOk f) : Dg (ff (pl3 f)) f.1.toNat ∧ (pl3 f).getD f.1.toNat 0 = ld3 f ∧ (pl3 f).length ≤ 3 ∧ ∀ i, ((pl3 f).getD i 0).natAbs ≤ 6 := by
  unfold pl3 ld3
  rcases h with ⟨h, h1, h2⟩ | ⟨h, h1, h2, h3, h4⟩
  · rw [if_pos h, if_pos h, h]
    refine ⟨⟨by show (2 : Int) ≠ 0; decide, fun i hi => getD_end (by show 2 ≤ i; have : 1 < i := hi; omega)⟩, rfl, by show 2 ≤ 3; decide, fun i => ?_⟩
    rcases i with _ | _ | i
    · show (-f.2.1).natAbs ≤ 6; omega
    · show 2 ≤ 6; decide
    · exact Nat.zero_le _
  · rw [if_neg (by omega), if_neg (by omega), h]
    refine ⟨⟨by show (1 : Int) ≠ 0; decide, fun i hi => getD_end (by show 3 ≤ i; have : 2 < i := hi; omega)⟩, rfl, Nat.le_refl _, fun i => ?_⟩
    have sq : f.2.1 * f.2.1 ≤ 4 ∧ 0 ≤ f.2.1 * f.2.1 := by
      rcases (by omega : f.2.1 = -2 ∨ f.2.1 = -1 ∨ f.2.1 = 0 ∨ f.2.1 = 1 ∨ f.2.1 = 2) with e | e | e | e | e <;> rw [e] <;> decide
    rcases i with _ | _ | _ | i
    · show (f.2.1 * f.2.1 + f.2.2).natAbs ≤ 6; omega
    · show (-2 * f.2.1).natAbs ≤ 6; omega
    · show 1 ≤ 6; decide
    · exact Nat.zero_le _
/-- l times a product of factors -/
structure ExP (l : Int) (fs : List F3) (zs : List Int) : Prop where
  tf : Tf zs (ff zs)
  dg : Dg (ff zs) (dgS fs).toNat
  top : zs.getD (dgS fs).toNat 0 = l * ldP fs
  ev : ∀ z, evL z zs = l * fvP z fs
  sz : ∀ i, (zs.getD i 0).natAbs ≤ 3 * 8 ^ (dgS fs).toNat
  pos : 0 ≤ dgS fs
theorem ExP.len {l : Int} {fs : List F3} {zs : List Int} (h : ExP l fs zs) : zs.length = (dgS fs).toNat + 1 := by
  have a := h.tf.len (n := (dgS fs).toNat + 1) fun k hk => h.dg.up k (by omega)
  have b : (dgS fs).toNat < zs.length := Decidable.byContradiction fun c => h.dg.top (getD_end (by omega))
  omega
theorem ExP.one {l : Int} (l0 : l ≠ 0) (l3 : l.natAbs ≤ 3) : ExP l [] [l] := ⟨⟨fun _ => rfl, .inr l0⟩, ⟨l0, fun i hi => getD_end (by have : 0 < i := hi; show 1 ≤ i; omega)⟩, by show l = l * 1; omega, fun z => by show 0 * z + l = l * 1; omega, fun i => by
  rcases i with _ | i
  · show l.natAbs ≤ 3; exact l3
  · exact Nat.zero_le _, Int.le_refl _⟩
theorem ExP.more {l : Int} {fs : List F3} {f : F3} {zs ws : List Int} (h : ExP l fs zs) (k : FkOk f) (t : Tf ws (cv zs (pl3 f))) : ExP l (fs ++ [f]) ws := by
  obtain ⟨d3, t3, l3, s3⟩ := top3 k
  have f0 : 0 ≤ f.1 := by rcases k with ⟨e, _⟩ | ⟨e, _⟩ <;> omega
  have hp := h.pos
  have ew : ff ws = cf (ff zs) (ff (pl3 f)) := funext fun i => by rw [← cv_cf]; exact t.at_ i
  have eD : (dgS (fs ++ [f])).toNat = (dgS fs).toNat + f.1.toNat := by
    rw [dgS_app]
    show (dgS fs + (f.1 + 0)).toNat = _
    omega
  have D : Dg (ff ws) ((dgS fs).toNat + f.1.toNat) := by rw [ew]; exact h.dg.cf d3
  refine ⟨t.self, by rw [eD]; exact D, ?_, fun z => ?_, fun i => ?_, by rw [dgS_app]; show 0 ≤ dgS fs + (f.1 + 0); omega⟩
  · rw [eD, ldP_app]
    show ff ws ((dgS fs).toNat + f.1.toNat) = l * (ldP fs * (ld3 f * 1))
    rw [ew, cf_top (fun i hi => h.dg.up i hi) (fun i hi => d3.up i hi)]
    show zs.getD (dgS fs).toNat 0 * (pl3 f).getD f.1.toNat 0 = _
    rw [h.top, t3, Int.mul_one, Int.mul_assoc]
  · have a := evLp z ws
    rw [show pl ws = pl zs * pl (pl3 f) from PS.ext ew] at a
    rw [a.uniq ((evLp z zs).mul (evLp z (pl3 f))), h.ev, ev3 k, fvP_app]
    show l * fvP z fs * fv3 f z = l * (fvP z fs * (fv3 f z * 1))
    rw [Int.mul_one, Int.mul_assoc]
  · rw [t.at_, cv_cf, cf_comm, ← cv_cf, eD]
    refine Nat.le_trans (cv_l1 h.sz i (pl3 f).length) (Nat.le_trans (Nat.mul_le_mul_right _ (sum3 k)) (Nat.le_of_eq ?_))
    rw [Nat.pow_add]
    ac_rfl
def spLEx (K : PySem.W.Frag) : Sp := fun vs H Q _ => ∃ (a b : Addr) (vl : List V) (fs : List F3) (l0 l1 : Int), vs = [.ref a, .ref b] ∧ H a = some (.lst vl) ∧ F3L H vl fs ∧ FsOk fs ∧ fs.length ≤ 2 ∧ H b = some (.tup [.int l0, .int l1]) ∧ l0 ≠ 0 ∧ l0.natAbs ≤ 3 ∧
  RPt H Q fun zs d => d = l1 ∧ ExP l0 fs zs
def spLSc (K : PySem.W.Frag) : Sp := fun vs H Q _ => ∃ (a : Addr) (xs : List Int) (c : Int) (k : Nat), vs = [.ref a, .int c] ∧ SqL K H a (xs.map V.int) ∧ Bits k xs ∧ c.natAbs < 2 ^ k ∧ xs.length ≤ 900 ∧ k ≤ 400000 ∧
  ∀ p H' (zs : List Int), Same H H' → H p = none → H' p = some (.lst (zs.map V.int)) → Tf zs (fun k => c * xs.getD k 0) → zs.length ≤ xs.length → Q (.ref p) H'
def spLSm (K : PySem.W.Frag) : Sp := fun vs H Q _ => ∃ (a b : Addr) (xs ys : List Int), vs = [.ref a, .ref b] ∧ SqL K H a (xs.map V.int) ∧ SqL K H b (ys.map V.int) ∧ xs.length ≤ 900 ∧ ys.length ≤ 900 ∧
  ∀ p H' (zs : List Int), Same H H' → H p = none → H' p = some (.lst (zs.map V.int)) → Tf zs (fun k => xs.getD k 0 + ys.getD k 0) → zs.length ≤ max xs.length ys.length → Q (.ref p) H'
def spLPp (K : PySem.W.Frag) : Sp := fun vs H Q _ => ∃ (a b : Addr) (xs ys : List Int) (d e : Int) (k : Nat), vs = [.ref a, .ref b] ∧ PtA H a xs d ∧ PtA H b ys e ∧ Bits k xs ∧ Bits k ys ∧ d.natAbs < 2 ^ k ∧ e.natAbs < 2 ^ k ∧ xs.length ≤ 400 ∧ ys.length ≤ 400 ∧ k ≤ 4000 ∧
  RPt H Q fun zs g => g = d * e ∧ Tf zs (fun i => e * xs.getD i 0 + d * ys.getD i 0) ∧ zs.length ≤ max xs.length ys.length
def spLSml (K : PySem.W.Frag) : Sp := fun vs H Q _ => ∃ (a : Addr) (xs : List Int) (k : Nat), vs = [.ref a] ∧ SqL K H a (xs.map V.int) ∧ xs.length ≤ 400 ∧ Bits k xs ∧ k ≤ 4000 ∧
  ∀ (t : Bool) H', Same H H' → (t = true → xs ≠ [] ∧ ∀ i, (xs.getD i 0).natAbs ≤ 9 * (xs.getD (xs.length - 1) 0).natAbs) → Q (.bl t) H'
theorem ld3_pos (f : F3) : 0 < ld3 f := by unfold ld3; split <;> decide
theorem ldP_pos : ∀ fs, 0 < ldP fs
  | [] => by decide
  | f :: r => Int.mul_pos (ld3_pos f) (ldP_pos r)
/-- a factor's value behind 10, by its degree -/
theorem fv3_lo {f : F3} (h : FkOk f) {z : Int} (hz : 10 ≤ z) : ld3 f * (z - 3) ^ f.1.toNat ≤ fv3 f z := by
  unfold ld3 fv3
  rcases h with ⟨h, h1, h2⟩ | ⟨h, h1, h2, h3, h4⟩
  · rw [if_pos h, if_pos h, h]
    show 2 * (z - 3) ^ 1 ≤ _
    rw [Int.pow_succ, Int.pow_zero, Int.one_mul]
    omega
  · rw [if_neg (by omega), if_neg (by omega), h]
    show 1 * (z - 3) ^ 2 ≤ _
    rw [Int.pow_succ, Int.pow_succ, Int.pow_zero, Int.one_mul, Int.one_mul]
    have a : (z - 3) * (z - 3) ≤ (z - f.2.1) * (z - f.2.1) := Int.mul_le_mul (by omega) (by omega) (by omega) (by omega)
    omega
theorem fv3_hi {f : F3} (h : FkOk f) {z : Int} (hz : 10 ≤ z) : fv3 f z ≤ ld3 f * (z + 3) ^ f.1.toNat := by
  unfold ld3 fv3
  rcases h with ⟨h, h1, h2⟩ | ⟨h, h1, h2, h3, h4⟩
  · rw [if_pos h, if_pos h, h]
    show _ ≤ 2 * (z + 3) ^ 1
    rw [Int.pow_succ, Int.pow_zero, Int.one_mul]
    omega
  · rw [if_neg (by omega), if_neg (by omega), h]
    show _ ≤ 1 * (z + 3) ^ 2
    rw [Int.pow_succ, Int.pow_succ, Int.pow_zero, Int.one_mul, Int.one_mul]
    have a : (z - f.2.1) * (z - f.2.1) ≤ (z + 2) * (z + 2) := Int.mul_le_mul (by omega) (by omega) (by omega) (by omega)
    have b : (z + 3) * (z + 3) = (z + 2) * (z + 2) + 2 * z + 5 := by grind
    omega
theorem FkOk.nn {f : F3} (h : FkOk f) : 0 ≤ f.1 := by rcases h with ⟨e, _⟩ | ⟨e, _⟩ <;> omega
theorem fvP_lo {z : Int} (hz : 10 ≤ z) : ∀ {fs : List F3}, (∀ f ∈ fs, FkOk f) → ldP fs * (z - 3) ^ (dgS fs).toNat ≤ fvP z fs
  | [], _ => by show (1 : Int) * (z - 3) ^ 0 ≤ 1; rw [Int.pow_zero]; decide
  | f :: r, h => by
    have hf := h f (List.mem_cons_self ..)
    have a := fvP_lo hz (fs := r) fun g hg => h g (List.mem_cons_of_mem _ hg)
    have b := fv3_lo hf hz
    have n1 := hf.nn
    have n2 := dgS_nn (fs := r) fun g hg => h g (List.mem_cons_of_mem _ hg)
    show ld3 f * ldP r * (z - 3) ^ (f.1 + dgS r).toNat ≤ fv3 f z * fvP z r
    rw [show (f.1 + dgS r).toNat = f.1.toNat + (dgS r).toNat by omega, Int.pow_add]
    have p0 : 0 ≤ ldP r * (z - 3) ^ (dgS r).toNat := Int.mul_nonneg (Int.le_of_lt (ldP_pos r)) (Int.pow_nonneg (by omega))
    have p1 : 0 ≤ fv3 f z := Int.le_trans (Int.mul_nonneg (Int.le_of_lt (ld3_pos f)) (Int.pow_nonneg (by omega))) b
    refine Int.le_trans (Int.le_of_eq ?_) (Int.mul_le_mul b a p0 p1)
    ac_rfl
theorem fvP_pos {z : Int} (hz : 10 ≤ z) {fs : List F3} (h : ∀ f ∈ fs, FkOk f) : 0 < fvP z fs := Int.lt_of_lt_of_le (Int.mul_pos (ldP_pos fs) (Int.pow_pos (by omega))) (fvP_lo hz h)
theorem fvP_hi {z : Int} (hz : 10 ≤ z) : ∀ {fs : List F3}, (∀ f ∈ fs, FkOk f) → fvP z fs ≤ ldP fs * (z + 3) ^ (dgS fs).toNat
  | [], _ => by show (1 : Int) ≤ 1 * (z + 3) ^ 0; rw [Int.pow_zero]; decide
  | f :: r, h => by
    have hf := h f (List.mem_cons_self ..)
    have hr := fun g hg => h g (List.mem_cons_of_mem f hg)
    have a := fvP_hi hz (fs := r) hr
    have b := fv3_hi hf hz
    have n1 := hf.nn
    have n2 := dgS_nn (fs := r) hr
    show fv3 f z * fvP z r ≤ ld3 f * ldP r * (z + 3) ^ (f.1 + dgS r).toNat
    rw [show (f.1 + dgS r).toNat = f.1.toNat + (dgS r).toNat by omega, Int.pow_add]
    refine Int.le_trans (Int.mul_le_mul b a (Int.le_of_lt (fvP_pos hz hr)) (Int.mul_nonneg (Int.le_of_lt (ld3_pos f)) (Int.pow_nonneg (by omega)))) (Int.le_of_eq ?_)
    ac_rfl
/-- seven times the longer one is more -/
theorem seven {z : Int} (hz : 10 ≤ z) : ∀ a b : Nat, b ≤ a → a ≤ 2 → (z + 3) ^ b < 7 * (z - 3) ^ a := fun a b h1 h2 => by
  have p1 : (z + 3) ^ 1 = z + 3 := by rw [Int.pow_succ, Int.pow_zero, Int.one_mul]
  have q1 : (z - 3) ^ 1 = z - 3 := by rw [Int.pow_succ, Int.pow_zero, Int.one_mul]
  have p2 : (z + 3) ^ 2 = (z + 3) * (z + 3) := by rw [Int.pow_succ, p1]
  have q2 : (z - 3) ^ 2 = (z - 3) * (z - 3) := by rw [Int.pow_succ, q1]
  have sq : 10 * z ≤ z * z := Int.mul_le_mul_of_nonneg_right hz (by omega)
  have e1 : (z + 3) * (z + 3) = z * z + 6 * z + 9 := by grind
  have e2 : (z - 3) * (z - 3) = z * z - 6 * z + 9 := by grind
  rcases (by omega : (a = 0 ∧ b = 0) ∨ (a = 1 ∧ b = 0) ∨ (a = 1 ∧ b = 1) ∨ (a = 2 ∧ b = 0) ∨ (a = 2 ∧ b = 1) ∨ (a = 2 ∧ b = 2)) with ⟨rfl, rfl⟩ | ⟨rfl, rfl⟩ | ⟨rfl, rfl⟩ | ⟨rfl, rfl⟩ | ⟨rfl, rfl⟩ | ⟨rfl, rfl⟩
  · rw [Int.pow_zero, Int.pow_zero]; decide
  · rw [Int.pow_zero, q1]; omega
  · rw [p1, q1]; omega
  · rw [Int.pow_zero, q2, e2]; omega
  · rw [p1, q2, e2]; omega
  · rw [p2, q2, e1, e2]; omega
/-- what makes the sum of both have no root behind 10 -/
theorem seven_lt {z : Int} (hz : 10 ≤ z) {fs gs : List F3} (hf : ∀ f ∈ fs, FkOk f) (hg : ∀ f ∈ gs, FkOk f) (d : dgS gs ≤ dgS fs) (d2 : dgS fs ≤ 2) : ldP fs * fvP z gs < 7 * (ldP gs * fvP z fs) := by
  have n1 := dgS_nn hf
  have n2 := dgS_nn hg
  have a := fvP_lo hz hf
  have b := fvP_hi hz hg
  have s := seven hz (dgS fs).toNat (dgS gs).toNat (by omega) (by omega)
  have lf := ldP_pos fs
  have lg := ldP_pos gs
  have l2 := Int.mul_pos lf lg
  have x1 := Int.mul_le_mul_of_nonneg_left b (Int.le_of_lt lf)
  have x2 := Int.mul_le_mul_of_nonneg_left a (Int.le_of_lt lg)
  have x3 := Int.mul_lt_mul_of_pos_left s l2
  generalize (z + 3) ^ (dgS gs).toNat = P at *
  generalize (z - 3) ^ (dgS fs).toNat = R at *
  have y1 : ldP fs * (ldP gs * P) = ldP fs * ldP gs * P := by ac_rfl
  have y2 : ldP fs * ldP gs * (7 * R) = 7 * (ldP gs * (ldP fs * R)) := by ac_rfl
  rw [y1] at x1
  rw [y2] at x3
  omega
/-- Cauchy's bound: no root from 10 on -/
theorem horner9 {M z : Int} (hz : 10 ≤ z) (M0 : 0 ≤ M) : ∀ (cs : List Int), cs ≠ [] → (∀ i, ((cs.getD i 0).natAbs : Int) ≤ 9 * M) → M ≤ (cs.getD (cs.length - 1) 0).natAbs → M ≤ (evL z cs).natAbs
  | [], h, _, _ => absurd rfl h
  | [c], _, _, t => by
    have e : evL z [c] = c := by show 0 * z + c = c; omega
    rw [e]; exact t
  | c :: d :: r, _, hs, t => by
    have ih := horner9 hz M0 (d :: r) (by simp) (fun i => hs (i + 1)) t
    have h0 := hs 0
    show M ≤ ((evL z (d :: r) * z + c).natAbs : Int)
    have h1 : ((c.natAbs : Nat) : Int) ≤ 9 * M := h0
    have m1 : ((evL z (d :: r) * z).natAbs : Int) = ((evL z (d :: r)).natAbs : Int) * z := by rw [Int.natAbs_mul, Int.natCast_mul]; congr 1; omega
    have m2 : M * 10 ≤ ((evL z (d :: r)).natAbs : Int) * z := Int.mul_le_mul ih hz (by decide) (by omega)
    omega
theorem cauchy9 {us : List Int} {z : Int} (ne : us ≠ []) (top : us.getD (us.length - 1) 0 ≠ 0) (h : ∀ i, (us.getD i 0).natAbs ≤ 9 * (us.getD (us.length - 1) 0).natAbs) (hz : 10 ≤ z) : evL z us ≠ 0 := fun w => by
  have a := horner9 (M := ((us.getD (us.length - 1) 0).natAbs : Int)) hz (by omega) us ne (fun i => by have := h i; omega) (Int.le_refl _)
  rw [w] at a
  have : ((0 : Int).natAbs : Int) = 0 := rfl
  omega
theorem evL_sc {zs xs : List Int} {c : Int} (t : Tf zs (fun k => c * xs.getD k 0)) (z : Int) : evL z zs = c * evL z xs := by
  have a1 := evLp z zs
  rw [show pl zs = pc c * pl xs from PS.ext (funext fun i => by
    show zs.getD i 0 = cf (cst c) (ff xs) i
    rw [cst_cf]
    exact t.at_ i)] at a1
  exact a1.uniq ((Ev.pc c z).mul (evLp z xs))
theorem ldP_le : ∀ fs : List F3, (ldP fs).natAbs ≤ 2 ^ fs.length
  | [] => Nat.le_refl _
  | f :: r => by
    have a : (ld3 f).natAbs ≤ 2 := by unfold ld3; split <;> decide
    show (ld3 f * ldP r).natAbs ≤ 2 ^ (r.length + 1)
    rw [Int.natAbs_mul, Nat.pow_succ, Nat.mul_comm]
    exact Nat.mul_le_mul (ldP_le r) a
theorem ldP_le4 {fs : List F3} (h : fs.length ≤ 2) : (ldP fs).natAbs ≤ 4 := Nat.le_trans (ldP_le fs) (Nat.pow_le_pow_right (by decide) h)
theorem sum_nz {l m F G p q v : Int} (l0 : l ≠ 0) (m0 : m ≠ 0) (F0 : 0 < F) (hv : v = if l * F < 0 then -(l * F) else l * F) (hp : 0 < F * q) (h : F * q < 7 * (G * p)) : 7 * (m * G) * (l * p) + v * (m * q) ≠ 0 := fun w => by
  have e : v = l * F ∨ v = -(l * F) := by rw [hv]; split <;> omega
  rcases e with e | e
  · have k : m * l * (7 * (G * p) + F * q) = 0 := by rw [← w, e]; grind
    rcases Int.mul_eq_zero.mp k with k | k
    · exact Int.mul_ne_zero m0 l0 k
    · omega
  · have k : m * l * (7 * (G * p) - F * q) = 0 := by rw [← w, e]; grind
    rcases Int.mul_eq_zero.mp k with k | k
    · exact Int.mul_ne_zero m0 l0 k
    · omega
theorem sum_nz2 {l m F G p q v : Int} (l0 : l ≠ 0) (m0 : m ≠ 0) (F0 : 0 < F) (hv : v = if l * F < 0 then -(l * F) else l * F) (hp : 0 < G * p) (h : G * p < 7 * (F * q)) : m * G * (l * p) + 7 * v * (m * q) ≠ 0 := fun w => by
  have e : v = l * F ∨ v = -(l * F) := by rw [hv]; split <;> omega
  rcases e with e | e
  · have k : m * l * (G * p + 7 * (F * q)) = 0 := by rw [← w, e]; grind
    rcases Int.mul_eq_zero.mp k with k | k
    · exact Int.mul_ne_zero m0 l0 k
    · omega
  · have k : m * l * (G * p - 7 * (F * q)) = 0 := by rw [← w, e]; grind
    rcases Int.mul_eq_zero.mp k with k | k
    · exact Int.mul_ne_zero m0 l0 k
    · omega
/-- a drawn closed form -/
structure CfP (xs : List Int) (d : Int) (ys : List Int) (e : Int) : Prop where
  tx : Tf xs (ff xs)
  ty : Tf ys (ff ys)
  lx : xs.length ≤ 3
  ly : ys.length ≤ 3
  xz : ∀ i, (xs.getD i 0).natAbs ≤ 16128
  yz : ∀ i, (ys.getD i 0).natAbs ≤ 192
  d0 : 0 < d
  e0 : 0 < e
  dz : d ≤ 252
  ez : e ≤ 3
  nx : ∀ z, 10 ≤ z → evL z xs ≠ 0
  ny : ∀ z, 10 ≤ z → evL z ys ≠ 0
  ns : ∀ z, 10 ≤ z → e * evL z xs + d * evL z ys ≠ 0
def spLCF (K : PySem.W.Frag) : Sp := fun vs H Q _ => ∃ (a : Addr) (ns : List Int), vs = [.ref a, .int 1, .int 2] ∧ SqL K H a (ns.map V.int) ∧
  ∀ p H' p0 p1 xs d ys e, Same H H' → H p = none → H' p = some (.lst [.ref p0, .ref p1]) → PtA H' p0 xs d → PtA H' p1 ys e → CfP xs d ys e → Q (.ref p) H'
def spLSh (K : PySem.W.Frag) : Sp := fun vs H Q _ => ∃ (a : Addr) (cs : List Int) (s : Int) (kb sb : Nat), vs = [.ref a, .int s] ∧ SqL K H a (cs.map V.int) ∧ Bits kb cs ∧ s.natAbs < 2 ^ sb ∧ cs.length ≤ 400 ∧ sb ≤ 100000 ∧ shB kb sb cs.length ≤ 400000 ∧
  ∀ p H' zs, Same H H' → H p = none → H' p = some (.lst (zs.map V.int)) → IsSh s zs cs → Bits (shB kb sb cs.length) zs → Q (.ref p) H'
def spLMv (K : PySem.W.Frag) : Sp := fun vs H Q _ => ∃ (a : Addr) (cs : List Int) (d s : Int) (kb sb : Nat), vs = [.ref a, .int s] ∧ PtA H a cs d ∧ Bits kb cs ∧ s.natAbs < 2 ^ sb ∧ cs.length ≤ 400 ∧ sb ≤ 100000 ∧ shB kb sb cs.length ≤ 400000 ∧
  RPt H Q fun zs e => e = d ∧ IsSh s zs cs ∧ Bits (shB kb sb cs.length) zs
def spLTm (K : PySem.W.Frag) : Sp := fun vs H Q _ => ∃ (a b : Addr) (xs ys : List Int) (d e : Int) (k : Nat), vs = [.ref a, .ref b] ∧ PtA H a xs d ∧ PtA H b ys e ∧ Bits k xs ∧ Bits k ys ∧ d.natAbs < 2 ^ k ∧ e.natAbs < 2 ^ k ∧ xs.length ≤ 400 ∧ ys.length ≤ 400 ∧ k ≤ 4000 ∧
  RPt H Q fun zs g => g = d * e ∧ Tf zs (cv xs ys) ∧ zs.length ≤ xs.length + ys.length
/-- num / den is (s + q)(k) q(k + 1) over q(k) s(k + 1) -/
structure RtP (xs : List Int) (d : Int) (ys : List Int) (e : Int) (zs : List Int) (g : Int) (ws : List Int) (h : Int) (us xs1 ys1 : List Int) : Prop where
  u : Tf us (fun i => e * xs.getD i 0 + d * ys.getD i 0)
  ix : IsSh 1 xs1 xs
  iy : IsSh 1 ys1 ys
  z : Tf zs (cv us ys1)
  w : Tf ws (cv ys xs1)
  g : g = d * e * e
  h : h = e * d
  lz : zs.length ≤ 16
  lw : ws.length ≤ 16
def spLRat (K : PySem.W.Frag) : Sp := fun vs H Q _ => ∃ (a b : Addr) (xs ys : List Int) (d e : Int) (k : Nat), vs = [.ref a, .ref b] ∧ PtA H a xs d ∧ PtA H b ys e ∧ Bits k xs ∧ Bits k ys ∧ d.natAbs < 2 ^ k ∧ e.natAbs < 2 ^ k ∧ xs.length ≤ 8 ∧ ys.length ≤ 8 ∧ k ≤ 100 ∧
  ∀ p H' p0 p1 zs g ws h us xs1 ys1, Same H H' → H p = none → H' p = some (.lst [.ref p0, .ref p1]) → PtA H' p0 zs g → PtA H' p1 ws h → RtP xs d ys e zs g ws h us xs1 ys1 → Q (.ref p) H'
def spTrim (K : PySem.W.Frag) : Sp := fun vs H Q _ => ∃ (a : Addr) (xs : List Int), vs = [.ref a] ∧ (SqL K H a (xs.map V.int) ∨ SqT K H a (xs.map V.int)) ∧
  ∀ p H' n, Same H H' → H p = none → H' p = some (.lst ((xs.take n).map V.int)) → Trim xs n → Q (.ref p) H'
def spCom (K : PySem.W.Frag) : Sp := fun vs H Q _ => ∃ (a : Addr) (xs : List Int), vs = [.ref a] ∧ (SqL K H a (xs.map V.int) ∨ SqT K H a (xs.map V.int)) ∧ Q (.int ((gcdL xs : Nat) : Int)) H
def spPInit (K : PySem.W.Frag) : Sp := fun vs H Q E => ∃ (x dx a : Addr) (cs : List Int) (d : Int) (k : Nat), vs = [.ref x, .ref a, .int d] ∧ H x = some (.ins (CP K) dx []) ∧ Sq K H a cs ∧ cs.length ≤ 900 ∧ (d ≠ 0 → ∀ g : Int, g ∣ d → (∀ i, g ∣ cs.getD i 0) → g.natAbs < 2 ^ k) ∧ k ≤ 8000 ∧
  (d = 0 → E (CD K) none H) ∧ (d ≠ 0 → ∀ H' t ks e, Same H H' → H' t = some (.tup (ks.map V.int)) → t ≠ x → Pq cs d ks e → Q .non (upd H' x (.ins (CP K) dx (fsP t e))))
/-- a new polynomial, its common factor bounded -/
def mkPoG (K : PySem.W.Frag) (dvs : List V) : List V → Hp → VK → Prop := fun vs H1 Q => ∃ (a : Addr) (cs : List Int) (d : Int) (k : Nat), vs ++ dvs = [.ref a, .int d] ∧ Sq K H1 a cs ∧ cs.length ≤ 900 ∧ (∀ g : Int, g ∣ d → (∀ i, g ∣ cs.getD i 0) → g.natAbs < 2 ^ k) ∧ k ≤ 8000 ∧ d ≠ 0 ∧
  ∀ p H2 ks e, Same H1 H2 → H1 p = none → PoA K H2 p ks e → Pq cs d ks e → Q (.ref p) H2
theorem mkPoG_conv (K : PySem.W.Frag) (dvs : List V) (vs : List V) (H1 : Hp) (Q : VK) (h : mkPoG K dvs vs H1 Q) (x dx : Addr) (nx : H1 x = none) (nd : H1 dx = none) (ne : dx ≠ x) :
    spPInit K (.ref x :: (vs ++ dvs)) (upd (upd H1 dx (.own x)) x (.ins (CP K) dx [])) (fun v H2 => v = .non ∧ Q (.ref x) H2) E0 := by
  obtain ⟨a, cs, d, k, e, hS, hl, hb, hk, hd, q⟩ := h
  have s0 : Same H1 (upd (upd H1 dx (.own x)) x (.ins (CP K) dx [])) := same_made0 nx nd
  rw [e]
  refine ⟨x, dx, a, cs, d, k, rfl, upd_same, ?_, hl, fun _ => hb, hk, fun z => absurd z hd, fun _ H' t ks e sm ht tx pq => ⟨rfl, ?_⟩⟩
  · rcases hS with h | h
    · exact .inl (s0.seq h)
    · exact .inr (sm_tup s0 h)
  · exact q x _ ks e (same_mut (s0.trans sm) nx) nx ⟨dx, t, upd_same, by rw [upd_ne tx]; exact ht⟩ pq
theorem com_lt {d : Int} {cs : List Int} {k : Nat} (hb : d.natAbs < 2 ^ k) (hd : d ≠ 0) : ∀ g : Int, g ∣ d → (∀ i, g ∣ cs.getD i 0) → g.natAbs < 2 ^ k := fun g hg _ => Nat.lt_of_le_of_lt (natAbs_le_of_dvd hg hd) hb
theorem com_dvd {cs : List Int} {d c : Int} {n : Nat} (t : Trim cs n) (hc : c = if d < 0 then -((gcdL (d :: cs.take n) : Nat) : Int) else ((gcdL (d :: cs.take n) : Nat) : Int)) : c ∣ d ∧ ∀ i, c ∣ cs.getD i 0 := by
  have key : ∀ x : Int, ((gcdL (d :: cs.take n) : Nat) : Int) ∣ x → c ∣ x := fun x h => by
    rw [hc]
    split
    · exact Int.neg_dvd.mpr h
    · exact h
  refine ⟨key _ (Int.dvd_natAbs.mp (Int.natCast_dvd_natCast.mpr (gcdL_dvd (List.mem_cons_self ..)))), fun i => key _ ?_⟩
  by_cases h : i < n
  · have e : (cs.take n).getD i 0 = cs.getD i 0 := by rw [getD_take, if_pos h]
    have l : i < (cs.take n).length := by rw [List.length_take, Nat.min_eq_left t.le]; exact h
    rw [← e]
    exact Int.dvd_natAbs.mp (Int.natCast_dvd_natCast.mpr (gcdL_dvd (List.mem_cons_of_mem _ (getD_mem l))))
  · rw [t.up i (by omega)]
    exact Int.dvd_zero _
theorem mkPo_conv (K : PySem.W.Frag) (dvs : List V) (vs : List V) (H1 : Hp) (Q : VK) (h : mkPo K dvs vs H1 Q) (x dx : Addr) (nx : H1 x = none) (nd : H1 dx = none) (ne : dx ≠ x) :
    spPInit K (.ref x :: (vs ++ dvs)) (upd (upd H1 dx (.own x)) x (.ins (CP K) dx [])) (fun v H2 => v = .non ∧ Q (.ref x) H2) E0 := by
  obtain ⟨a, cs, d, k, e, hS, hl, hb, hk, hd, q⟩ := h
  have s0 : Same H1 (upd (upd H1 dx (.own x)) x (.ins (CP K) dx [])) := same_made0 nx nd
  rw [e]
  refine ⟨x, dx, a, cs, d, k, rfl, upd_same, ?_, hl, fun hd => com_lt hb hd, hk, fun z => absurd z hd, fun _ H' t ks e sm ht tx pq => ⟨rfl, ?_⟩⟩
  · rcases hS with h | h
    · exact .inl (s0.seq h)
    · exact .inr (sm_tup s0 h)
  · exact q x _ ks e (same_mut (s0.trans sm) nx) nx ⟨dx, t, upd_same, by rw [upd_ne tx]; exact ht⟩ pq
def spLPo (K : PySem.W.Frag) : Sp := fun vs H Q _ => ∃ (a : Addr) (xs : List Int) (d : Int) (k : Nat), vs = [.ref a] ∧ PtA H a xs d ∧ xs.length ≤ 400 ∧ d.natAbs < 2 ^ k ∧ k ≤ 8000 ∧ d ≠ 0 ∧ RP K H Q fun ks e => Pq xs d ks e
def spPZer (K : PySem.W.Frag) : Sp := fun vs H Q _ => ∃ (a : Addr) (ks : List Int) (e : Int), vs = [.ref a] ∧ PoA K H a ks e ∧ Q (.bl (decide (V.int (ks.length : Int) = V.int 0))) H
def MonR (ks ms : List Int) (g : Int) : Prop := (ks = [] ∧ ms = []) ∨ (ks ≠ [] ∧ Pq ks (ks.getD (ks.length - 1) 0) ms g)
def spMon (K : PySem.W.Frag) : Sp := fun vs H Q _ => ∃ (a : Addr) (ks : List Int) (e : Int) (k : Nat), vs = [.ref a] ∧ PoA K H a ks e ∧ Pq ks e ks e ∧ Bits k ks ∧ k ≤ 7000 ∧ ks.length ≤ 100 ∧
  ∀ p H' ms g, Same H H' → PoA K H' p ms g → Pq ms g ms g → MonR ks ms g → Q (.ref p) H'
/-- the coefficients without their common factor -/
structure PrL (xs zs : List Int) : Prop where
  len : zs.length = xs.length
  mul : ∃ c : Nat, (xs ≠ [] → 0 < c) ∧ ∀ i, xs.getD i 0 = (c : Int) * zs.getD i 0
  prim : xs ≠ [] → Prim (ff zs)
theorem prl (xs : List Int) (h : xs ≠ [] → 0 < gcdL xs) : PrL xs (xs.map fun x => x / ((gcdL xs : Nat) : Int)) := by
  have e : ∀ i, xs.getD i 0 = ((gcdL xs : Nat) : Int) * (xs.map fun x => x / ((gcdL xs : Nat) : Int)).getD i 0 := fun i => by
    rw [List.getD_eq_getElem?_getD, List.getD_eq_getElem?_getD, List.getElem?_map]
    cases hx : xs[i]? with
    | none => show (0 : Int) = _ * 0; rw [Int.mul_zero]
    | some x =>
      have d : ((gcdL xs : Nat) : Int) ∣ x := Int.ofNat_dvd_left.mpr (gcdL_dvd (List.mem_of_getElem? hx))
      exact (Int.mul_ediv_cancel' d).symm
  refine ⟨by rw [List.length_map], ⟨gcdL xs, h, e⟩, fun ne p hp => Classical.byContradiction fun c => ?_⟩
  have all : ∀ i, (p : Int) ∣ ff (xs.map fun x => x / ((gcdL xs : Nat) : Int)) i := fun i => Decidable.byContradiction fun z => c ⟨i, z⟩
  have g0 := h ne
  have d : gcdL xs * p ∣ gcdL xs := gcdL_great fun x hx => by
    obtain ⟨i, hi⟩ := List.mem_iff_getElem?.mp hx
    have ei := e i
    rw [List.getD_eq_getElem?_getD, hi] at ei
    have ei' : x = ((gcdL xs : Nat) : Int) * (xs.map fun x => x / ((gcdL xs : Nat) : Int)).getD i 0 := ei
    obtain ⟨t, ht⟩ := all i
    have ht' : (xs.map fun x => x / ((gcdL xs : Nat) : Int)).getD i 0 = (p : Int) * t := ht
    rw [ht', ← Int.mul_assoc, ← Int.natCast_mul] at ei'
    exact Int.ofNat_dvd_left.mp ⟨t, ei'⟩
  have := Nat.le_of_dvd g0 d
  have p2 := hp.two
  have : gcdL xs * 2 ≤ gcdL xs * p := Nat.mul_le_mul_left _ p2
  omega
def spPrm (K : PySem.W.Frag) : Sp := fun vs H Q _ => ∃ (a : Addr) (xs : List Int) (k : Nat), vs = [.ref a] ∧ (SqL K H a (xs.map V.int) ∨ SqT K H a (xs.map V.int)) ∧ Bits k xs ∧ k ≤ 8000 ∧ xs.length ≤ 400 ∧ (xs ≠ [] → ∃ x ∈ xs, x ≠ 0) ∧
  ∀ p H' zs, Same H H' → H p = none → H' p = some (.lst (zs.map V.int)) → PrL xs zs → Q (.ref p) H'
def spRems (K : PySem.W.Frag) : Sp := fun vs H Q _ => ∃ (a : Addr) (xs : List Int) (p : Nat), vs = [.ref a, .int (p : Int)] ∧ SqL K H a (xs.map V.int) ∧ 0 < p ∧ xs.length ≤ 400 ∧
  ∀ q H' zs, Same H H' → H q = none → H' q = some (.lst (zs.map V.int)) → RsP p zs → zs.length ≤ xs.length → (∀ k, (p : Int) ∣ ff xs k - ff zs k) → Q (.ref q) H'
theorem rsp_of {p : Nat} {xs : List Int} {n : Nat} (p0 : 0 < p) (r : ∀ z ∈ xs, 0 ≤ z ∧ z < p) (t : Trim xs n) : RsP p (xs.take n) := ⟨fun z hz => r z (List.mem_of_mem_take hz), by
  rcases t.at_ with h | h
  · exact .inl (by rw [h]; rfl)
  · by_cases c : n = 0
    · exact .inl (by rw [c]; rfl)
    · right
      have l := t.le
      rw [List.length_take, Nat.min_eq_left l, List.getD_eq_getElem?_getD, List.getElem?_take, if_pos (by omega), ← List.getD_eq_getElem?_getD]
      exact h⟩
theorem take_ff {xs : List Int} {n : Nat} (t : Trim xs n) (k : Nat) : ff (xs.take n) k = ff xs k := by
  show (xs.take n).getD k 0 = xs.getD k 0
  by_cases c : k < n
  · rw [List.getD_eq_getElem?_getD, List.getElem?_take, if_pos c, ← List.getD_eq_getElem?_getD]
  · rw [t.up k (by omega)]
    exact getD_end (by rw [List.length_take]; omega)
def spInv (K : PySem.W.Frag) : Sp := fun vs H Q _ => ∃ (n : Int) (p : Nat), vs = [.int n, .int (p : Int)] ∧ Pr p ∧ p < 2 ^ 62 ∧ ¬ (p : Int) ∣ n ∧ ∀ (r : Int) H', Same H H' → 0 ≤ r → r < p → (p : Int) ∣ r * n - 1 → Q (.int r) H'
def spDMd (K : PySem.W.Frag) : Sp := fun vs H Q _ => ∃ (a b : Addr) (xs ys : List Int) (p z : Nat), vs = [.ref a, .ref b, .int (p : Int)] ∧ SqL K H a (xs.map V.int) ∧ SqL K H b (ys.map V.int) ∧ Pr p ∧ p < 2 ^ 62 ∧ RsP p xs ∧ RsP p ys ∧ 0 < ys.length ∧ xs.length ≤ 100 ∧ ys.length ≤ 100 ∧
  ∀ t H' pq pr (qs : List V) rs, Same H H' → H' t = some (.tup [.ref pq, .ref pr]) → H pr = none → H' pr = some (.lst (rs.map V.int)) → RsP p rs → rs.length < ys.length → (∃ (s : Nat → Int) (N : Nat), Fz s N ∧ ∀ k, (p : Int) ∣ ff xs k - cf s (ff ys) k - ff rs k) → Q (.ref t) H'
def spDvM (K : PySem.W.Frag) : Sp := fun vs H Q _ => ∃ (a b : Addr) (xs ys : List Int) (p z : Nat), vs = [.ref a, .ref b, .int (p : Int)] ∧ SqL K H a (xs.map V.int) ∧ SqL K H b (ys.map V.int) ∧ Pr p ∧ p < 2 ^ 62 ∧ xs.length ≤ 100 ∧ ys.length ≤ 100 ∧
  ∀ t H' zs, Same H H' → H' t = some (.lst (zs.map V.int)) → RsP p zs → (∀ G, MDv p G (ff xs) → MDv p G (ff ys) → MDv p G (ff zs)) → Q (.ref t) H'
def spCpM (K : PySem.W.Frag) : Sp := fun vs H Q _ => ∃ (a b : Addr) (xs ys : List Int) (p z : Nat), vs = [.ref a, .ref b, .int (p : Int)] ∧ SqL K H a (xs.map V.int) ∧ SqL K H b (ys.map V.int) ∧ Pr p ∧ p < 2 ^ 62 ∧ 0 < xs.length ∧ 0 < ys.length ∧ xs.length ≤ 100 ∧ ys.length ≤ 100 ∧
  ∀ (r : Bool) H', Same H H' → (r = true → (¬ (p : Int) ∣ ff xs (xs.length - 1) ∨ ¬ (p : Int) ∣ ff ys (ys.length - 1)) ∧ ∃ c : Int, ¬ (p : Int) ∣ c ∧ ∀ G, MDv p G (ff xs) → MDv p G (ff ys) → MDv p G (fun i => if i = 0 then c else 0)) → Q (.bl r) H'
def spHeiB (K : PySem.W.Frag) : Sp := fun vs H Q _ => ∃ (a : Addr) (xs : List Int), vs = [.ref a] ∧ (SqL K H a (xs.map V.int) ∨ SqT K H a (xs.map V.int)) ∧ xs.length ≤ 400 ∧
  ∀ (h : Nat) H', Same H H' → (∀ i, (xs.getD i 0).natAbs ≤ h) → (∀ k, (∀ x ∈ xs, x.natAbs < 2 ^ k) → h < 2 ^ k) → Q (.int (h : Int)) H'
def spEvaB (K : PySem.W.Frag) : Sp := fun vs H Q _ => ∃ (a : Addr) (cs : List Int) (x : Int) (k j : Nat), vs = [.ref a, .int x] ∧ (SqL K H a (cs.map V.int) ∨ SqT K H a (cs.map V.int)) ∧ (∀ c ∈ cs, c.natAbs < 2 ^ k) ∧ x.natAbs < 2 ^ j ∧ k + (j + 1) * (cs.length + 1) ≤ 900000 ∧ Q (.int (evL x cs)) H
/-- the digits on both sides of zero -/
structure DigR (X : Nat) (n : Int) (ds : List Int) : Prop where
  val : e1 (ff ds) (X : Int) ds.length = n
  sm : ∀ d ∈ ds, 2 * d.natAbs ≤ X
  last : ds = [] ∨ ds.getD (ds.length - 1) 0 ≠ 0
def spDig (K : PySem.W.Frag) : Sp := fun vs H Q _ => ∃ (n : Int) (X L : Nat), vs = [.int n, .int (X : Int)] ∧ 3 ≤ X ∧ X < 2 ^ 8000 ∧ n.natAbs ≤ X ^ L ∧ L ≤ 100 ∧
  ∀ p H' ds, Same H H' → H p = none → H' p = some (.lst (ds.map V.int)) → DigR X n ds → ds.length ≤ L + 1 → Q (.ref p) H'
theorem e1_snoc (ds : List Int) (d x : Int) : e1 (ff (ds ++ [d])) x (ds.length + 1) = e1 (ff ds) x ds.length + d * x ^ ds.length := by
  show e1 (ff (ds ++ [d])) x ds.length + ff (ds ++ [d]) ds.length * x ^ ds.length = _
  have a : ff (ds ++ [d]) ds.length = d := by
    show (ds ++ [d]).getD ds.length 0 = d
    rw [List.getD_eq_getElem?_getD, List.getElem?_append_right (Nat.le_refl _), Nat.sub_self]
    rfl
  rw [a]
  congr 1
  refine e1_congr fun i hi => ?_
  show (ds ++ [d]).getD i 0 = ds.getD i 0
  rw [List.getD_eq_getElem?_getD, List.getElem?_append_left hi, List.getD_eq_getElem?_getD]
/-- the bits after t turns -/
def dvB (k t : Nat) : Nat := k + 1 + (k + 1) * t
theorem dvB_more (k t : Nat) : dvB k (t + 1) = dvB k t + (k + 1) := by unfold dvB; rw [Nat.mul_add, Nat.mul_one]; omega
theorem dvB_le {k s t : Nat} (h : s ≤ t) : dvB k s ≤ dvB k t := Nat.add_le_add_left (Nat.mul_le_mul_left _ h) _
/-- f xs = qs ys + rs, and rs is shorter than ys -/
structure DivR (f : Int) (xs qs rs ys : List Int) : Prop where
  f0 : f ≠ 0
  rl : rs.length = xs.length
  ql : qs.length ≤ xs.length
  eq : ∀ k, f * xs.getD k 0 = cv qs ys k + rs.getD k 0
  hi : ∀ k, ys.length ≤ k + 1 → rs.getD k 0 = 0
/-- no prime divides the factor and all of the quotient -/
def FqC (f : Int) (qs : List Int) : Prop := ∀ p : Nat, Pr p → (p : Int) ∣ f → ∃ i, ¬ (p : Int) ∣ qs.getD i 0
def FqH (f : Int) (qs : List Int) (tp ld : Int) : Prop := ∀ p : Nat, Pr p → (p : Int) ∣ f → (∃ i, ¬ (p : Int) ∣ qs.getD i 0) ∨ ∀ sh, sh * ld = tp → ¬ (p : Int) ∣ sh
theorem FqC.weak {f tp ld : Int} {qs : List Int} (h : FqC f qs) : FqH f qs tp ld := fun p hp d => .inl (h p hp d)
theorem FqC.start {qs : List Int} : FqC 1 qs := fun p hp d => by
  exfalso
  have := Int.natAbs_dvd_natAbs.mpr d
  rw [Int.natAbs_natCast] at this
  have := Nat.dvd_one.mp this
  have := hp.two
  omega
theorem cop_scale {t l g s sh : Int} {p : Nat} (hp : Pr p) (hg : g = ((Nat.gcd t.natAbs l.natAbs : Nat) : Int)) (hl : l ≠ 0) (hs : s = l.fdiv g) (h : sh * l = t * s) (d1 : (p : Int) ∣ s) (d2 : (p : Int) ∣ sh) : False := by
  have e1 : g ∣ l := by rw [hg]; exact Int.natAbs_dvd_natAbs.mp (by rw [Int.natAbs_natCast]; exact Nat.gcd_dvd_right _ _)
  have g0 : g ≠ 0 := fun z => by rw [z] at e1; exact hl (Int.zero_dvd.mp e1)
  have e := fdiv_dvd g0 e1
  rw [← hs] at e
  have s0 : s ≠ 0 := fun z => by rw [z, Int.zero_mul] at e; exact hl e.symm
  have et : sh * g = t := by
    apply Int.eq_of_mul_eq_mul_right s0
    rw [← h, ← e, Int.mul_assoc, Int.mul_comm g s]
  have pl : (p : Int) * g ∣ l := by
    obtain ⟨u, hu⟩ := d1
    exact ⟨u, by rw [← e, hu]; grind⟩
  have pt : (p : Int) * g ∣ t := by
    obtain ⟨u, hu⟩ := d2
    exact ⟨u, by rw [← et, hu]; grind⟩
  have n1 := Int.natAbs_dvd_natAbs.mpr pl
  have n2 := Int.natAbs_dvd_natAbs.mpr pt
  have n3 := Nat.dvd_gcd n2 n1
  have ge : g.natAbs = Nat.gcd t.natAbs l.natAbs := by rw [hg, Int.natAbs_natCast]
  rw [← ge, Int.natAbs_mul, Int.natAbs_natCast] at n3
  have gp : 0 < g.natAbs := by omega
  have le := Nat.le_of_dvd gp n3
  have := hp.two
  have : 2 * g.natAbs ≤ p * g.natAbs := Nat.mul_le_mul_right _ this
  omega
theorem FqC.scale {f sc tp ld g : Int} {qs : List Int} (h : FqC f qs) (hg : g = ((Nat.gcd tp.natAbs ld.natAbs : Nat) : Int)) (hl : ld ≠ 0) (hs : sc = ld.fdiv g) : FqH (f * sc) (qs.map fun x => x * sc) (tp * sc) ld := fun p hp d => by
  by_cases c : (p : Int) ∣ sc
  · exact .inr fun sh e d2 => cop_scale hp hg hl hs e c d2
  · rcases hp.mul _ _ d with z | z
    · obtain ⟨i, hi⟩ := h p hp z
      refine .inl ⟨i, fun y => ?_⟩
      rw [mul_at] at y
      rcases hp.mul _ _ y with y | y
      · exact hi y
      · exact c y
    · exact absurd z c
theorem FqH.put {f tp ld sh : Int} {qs : List Int} {n : Nat} (h : FqH f qs tp ld) (e : sh * ld = tp) (z : qs.getD n 0 = 0) (l : n < qs.length) : FqC f (qs.set n sh) := fun p hp d => by
  rcases h p hp d with ⟨i, hi⟩ | k
  · have ne : i ≠ n := fun y => hi (by rw [y, z]; exact Int.dvd_zero _)
    exact ⟨i, by rw [getD_set l, if_neg ne]; exact hi⟩
  · exact ⟨n, by rw [getD_set l, if_pos rfl]; exact k sh e⟩
/-- what divides both is a unit -/
theorem FqC.unit {f : Int} {qs : List Int} (h : FqC f qs) (f0 : f ≠ 0) {g : Int} (d : g ∣ f) (k : ∀ i, g ∣ qs.getD i 0) : g.natAbs < 2 ^ 8000 := by
  refine Decidable.byContradiction fun c => ?_
  have g2 : 2 ≤ g.natAbs := Decidable.byContradiction fun y => c (Nat.lt_of_lt_of_le (show g.natAbs < 2 ^ 1 by omega) (Nat.pow_le_pow_right (by decide) (by decide)))
  obtain ⟨p, hp, pg⟩ := pr_ex g.natAbs g2
  have pg2 : (p : Int) ∣ g := Int.dvd_natAbs.mp (Int.natCast_dvd_natCast.mpr pg)
  obtain ⟨i, hi⟩ := h p hp (Int.dvd_trans pg2 d)
  exact hi (Int.dvd_trans pg2 (k i))
def spDivC (K : PySem.W.Frag) : Sp := fun vs H Q _ => ∃ (a b : Addr) (xs ys : List Int) (k : Nat), vs = [.ref a, .ref b] ∧ SqT K H a (xs.map V.int) ∧ SqT K H b (ys.map V.int) ∧ Bits k xs ∧ Bits k ys ∧ 0 < ys.length ∧ ys.getD (ys.length - 1) 0 ≠ 0 ∧ xs.length ≤ 100 ∧ ys.length ≤ 100 ∧ k ≤ 2000 ∧
  ∀ t H' pq pr qs rs f, Same H H' → H' t = some (.tup [.ref pq, .ref pr, .int f]) → H' pq = some (.lst (qs.map V.int)) → H' pr = some (.lst (rs.map V.int)) → DivR f xs qs rs ys → FqC f qs → Bits (dvB k xs.length) qs → Bits (dvB k xs.length) rs → f.natAbs < 2 ^ (dvB k xs.length) → Q (.ref t) H'
/-- a pair of polynomials: ks / e = (ms / g) (js / f) + ns / h -/
structure DivP (ks : List Int) (e : Int) (js : List Int) (f : Int) (ms : List Int) (g : Int) (ns : List Int) (h : Int) : Prop where
  ex : ∃ qs rs F, DivR F ks qs rs js ∧ Pq (qs.map fun x => x * f) (F * e) ms g ∧ Pq rs (F * e) ns h ∧ F ≠ 0
  lm : ms.length ≤ ks.length
  ln : ns.length < js.length
/-- the sizes of what a division gives -/
structure NearD (k : Nat) (ks ms : List Int) (g : Int) : Prop where
  b : Bits (dvB k ks.length + k) ms
  g : g.natAbs < 2 ^ (dvB k ks.length + k)
/-- what divides the denominator and all of a division's quotient is small -/
theorem gq_small {F e f : Int} {ks js qs rs : List Int} {k : Nat} (hk : dvB k ks.length + k ≤ 7990 ∨ (e = 1 ∧ f = 1 ∧ Prim (ff js))) (d0 : F * e ≠ 0) (db : (F * e).natAbs < 2 ^ (dvB k ks.length + k)) (fc : FqC F qs) : ∀ g : Int, g ∣ F * e → (∀ i, g ∣ (qs.map fun x => x * f).getD i 0) → g.natAbs < 2 ^ 8000 := fun g hg hi => by
  rcases hk with h | ⟨rfl, rfl, _⟩
  · exact Nat.lt_of_lt_of_le (com_lt (cs := qs.map fun x => x * f) db d0 g hg hi) (Nat.pow_le_pow_right (by decide) (by omega))
  · rw [Int.mul_one] at hg d0
    exact fc.unit d0 hg fun i => by have := hi i; rw [mul_at, Int.mul_one] at this; exact this
theorem gr_small {F e f : Int} {ks js qs rs : List Int} {k : Nat} (hk : dvB k ks.length + k ≤ 7990 ∨ (e = 1 ∧ f = 1 ∧ Prim (ff js))) (d0 : F * e ≠ 0) (db : (F * e).natAbs < 2 ^ (dvB k ks.length + k)) (fc : FqC F qs) (dv : DivR F ks qs rs js) : ∀ g : Int, g ∣ F * e → (∀ i, g ∣ rs.getD i 0) → g.natAbs < 2 ^ 8000 := fun g hg hi => by
  rcases hk with h | ⟨rfl, rfl, pj⟩
  · exact Nat.lt_of_lt_of_le (com_lt (cs := rs) db d0 g hg hi) (Nat.pow_le_pow_right (by decide) (by omega))
  · rw [Int.mul_one] at hg d0
    refine Decidable.byContradiction fun c => ?_
    have g2 : 2 ≤ g.natAbs := Decidable.byContradiction fun y => c (Nat.lt_of_lt_of_le (show g.natAbs < 2 ^ 1 by omega) (Nat.pow_le_pow_right (by decide) (by decide)))
    obtain ⟨p, hp, pg⟩ := pr_ex g.natAbs g2
    have pg2 : (p : Int) ∣ g := Int.dvd_natAbs.mp (Int.natCast_dvd_natCast.mpr pg)
    obtain ⟨i, hi2⟩ := fc p hp (Int.dvd_trans pg2 hg)
    refine hi2 (gauss_p hp (f := ff qs) (g := ff js) (fun k => ?_) (pj p hp) i)
    have e := dv.eq k
    rw [cv_cf] at e
    have a : (p : Int) ∣ F * ks.getD k 0 := Int.dvd_trans (Int.dvd_trans pg2 hg) ⟨_, rfl⟩
    rw [e] at a
    exact (Int.dvd_add_left (Int.dvd_trans pg2 (hi k))).mp a
def spDivide (K : PySem.W.Frag) : Sp := fun vs H Q E => ∃ (a b : Addr) (ks js : List Int) (e f : Int) (k : Nat), vs = [.ref a, .ref b] ∧ PoA K H a ks e ∧ PoA K H b js f ∧ (js = [] → E (CZ K) none H) ∧
  (js ≠ [] → 0 < e ∧ 0 < f ∧ js.getD (js.length - 1) 0 ≠ 0 ∧ Bits k ks ∧ Bits k js ∧ e.natAbs < 2 ^ k ∧ f.natAbs < 2 ^ k ∧ ks.length ≤ 100 ∧ js.length ≤ 100 ∧ k ≤ 2000 ∧ (dvB k ks.length + k ≤ 7990 ∨ (e = 1 ∧ f = 1 ∧ Prim (ff js))) ∧
   ∀ t H' pq pr ms g ns h, Same H H' → H' t = some (.tup [.ref pq, .ref pr]) → PoA K H' pq ms g → PoA K H' pr ns h → DivP ks e js f ms g ns h → NearD k ks ms g → Q (.ref t) H')
theorem lpos {xs : List Int} (h : xs ≠ []) : 0 < xs.length := by
  cases xs with
  | nil => exact absurd rfl h
  | cons _ _ => exact Nat.succ_pos _
theorem dg_list {js : List Int} (h : js.getD (js.length - 1) 0 ≠ 0) : Dg (ff js) (js.length - 1) := ⟨h, fun i hi => getD_end (by
  have : js ≠ [] := fun z => h (by rw [z]; rfl)
  have := lpos this
  omega)⟩
theorem pq_one {zs ks : List Int} {e : Int} (p : Pq zs 1 ks e) : e = 1 ∧ ∀ i, ff ks i = ff zs i := by
  have d := p.den_dvd1 (by decide)
  have p0 := p.pos
  have le := Int.le_of_dvd (by decide) d
  have e1 : e = 1 := by omega
  refine ⟨e1, fun i => ?_⟩
  have := p.eq i
  rw [e1, Int.mul_one, Int.mul_one] at this
  exact this
/-- the remainder is nothing: a divisor -/
theorem div_iff {ks js qs rs ns : List Int} {F e h : Int} (dv : DivR F ks qs rs js) (pn : Pq rs (F * e) ns h) (e0 : e ≠ 0) (lj : js.getD (js.length - 1) 0 ≠ 0) : ns = [] ↔ Dv (ff js) (ff ks) := by
  have F0 := dv.f0
  have h0 := pn.pos
  have fe : F * e ≠ 0 := Int.mul_ne_zero F0 e0
  have eq : ∀ k, F * ff ks k = cf (ff qs) (ff js) k + ff rs k := fun k => by rw [← cv_cf]; exact dv.eq k
  have fq : Fz (ff qs) qs.length := fun i hi => getD_end hi
  constructor
  · intro z
    have rz : ∀ k, ff rs k = 0 := fun k => by
      have := pn.eq k
      rw [z, List.getD_nil, Int.zero_mul] at this
      rcases Int.mul_eq_zero.mp this.symm with w | w
      · exact w
      · omega
    exact ⟨F, ff qs, qs.length, F0, fq, fun k => by rw [eq, rz, Int.add_zero]⟩
  · intro d
    have dr : Dv (ff js) (ff rs) := by
      have c := Dv.comb (x := fun i => F * xp 0 i) (y := fun i => -1 * ff qs i) d (Dv.refl (ff js)) ((xp_fz 0).scale F) (fq.scale (-1))
      refine c.congr (fun _ => rfl) fun k => ?_
      rw [cf_scale_l, cf_one, cf_scale_l, eq]
      omega
    have fr : Fz (ff rs) (js.length - 1) := fun i hi => dv.hi i (by omega)
    have rz : ∀ k, ff rs k = 0 := by
      rcases zero_or_dg _ fr with z | ⟨m, hm, dm⟩
      · exact z
      · have := dr.deg (dg_list lj) dm
        omega
    rcases pn.last with z | z
    · exact z
    · exfalso
      have := pn.eq (ns.length - 1)
      have r0 : rs.getD (ns.length - 1) 0 = 0 := rz _
      rw [r0, Int.zero_mul] at this
      rcases Int.mul_eq_zero.mp this with w | w
      · exact z w
      · exact fe w
def spDvs (K : PySem.W.Frag) : Sp := fun vs H Q _ => ∃ (a b : Addr) (js xs : List Int) (k : Nat), vs = [.ref a, .ref b] ∧ PoA K H a js 1 ∧ SqL K H b (xs.map V.int) ∧ Prim (ff js) ∧ js.getD (js.length - 1) 0 ≠ 0 ∧ Bits k js ∧ Bits k xs ∧ xs.length ≤ 100 ∧ js.length ≤ 100 ∧ 1 ≤ k ∧ k ≤ 2000 ∧
  ∀ (r : Bool) H', Same H H' → (r = true ↔ Dv (ff js) (ff xs)) → Q (.bl r) H'
def spDBV (K : PySem.W.Frag) : Sp := fun vs H Q _ => ∃ (a b : Addr) (xs ys : List Int) (k KK : Nat), vs = [.ref a, .ref b] ∧ SqL K H a (xs.map V.int) ∧ SqL K H b (ys.map V.int) ∧ xs.getD (xs.length - 1) 0 ≠ 0 ∧ ys.getD (ys.length - 1) 0 ≠ 0 ∧ xs.length ≤ 13 ∧ ys.length ≤ 13 ∧ Bits k xs ∧ Bits k ys ∧
  (∃ (e0 : Nat → Int) (ke me : Nat), Euc (ff xs) (ff ys) e0 ∧ Dg e0 me ∧ Bt ke e0 ∧ ke + 30 ≤ KK) ∧ k + 30 ≤ KK ∧ KK ≤ 2000 ∧
  ∀ p H' js, Same H H' → PoA K H' p js 1 → js.getD (js.length - 1) 0 ≠ 0 → Bits KK js → js.length ≤ 13 → Dv (ff js) (ff xs) → Dv (ff js) (ff ys) → (∀ d, Dv d (ff xs) → Dv d (ff ys) → Dv d (ff js)) → Q (.ref p) H'
theorem e1_up {A : Nat → Int} {n H X : Nat} (dA : Dg A n) (hH : ∀ i, (A i).natAbs ≤ H) (hX : 2 ^ 24 * H + 29 ≤ X) : (e1 A (X : Int) (n + 1)).natAbs ≤ X ^ (n + 1) := by
  have l := e1_le (f := A) (h := (X : Int)) (x := X) hH (by omega) (n + 1)
  have g := sg_eq (x := X) (by omega) (n + 1)
  have m : H * sg X (n + 1) ≤ (X - 1) * sg X (n + 1) := Nat.mul_le_mul_right _ (by omega)
  omega
/-- what the greatest common divisor may be asked for -/
structure CDok (ks js : List Int) (k KK : Nat) : Prop where
  bk : Bits k ks
  bj : Bits k js
  lk : ks.length ≤ 13
  lj : js.length ≤ 13
  ex : ks ≠ [] → js ≠ [] → ∃ (e0 : Nat → Int) (ke me : Nat), Euc (ff ks) (ff js) e0 ∧ Dg e0 me ∧ Bt ke e0 ∧ ke + 30 ≤ KK
  kk : k + 30 ≤ KK
  KK2 : KK ≤ 2000
structure GcdR (ks js ms : List Int) (g : Int) (KK : Nat) : Prop where
  zero : ks = [] → js = [] → ms = []
  mon : ks ≠ [] ∨ js ≠ [] → ms ≠ [] ∧ ms.getD (ms.length - 1) 0 = g
  dk : Dv (ff ms) (ff ks)
  dj : Dv (ff ms) (ff js)
  max : ∀ d, Dv d (ff ks) → Dv d (ff js) → Dv d (ff ms)
  bits : Bits KK ms
  len : ms.length ≤ 13
  self : Pq ms g ms g
theorem ff_nil (i : Nat) : ff ([] : List Int) i = 0 := rfl
/-- a multiple in its one form -/
theorem mon_dv {ks ms : List Int} {g : Int} (ne : ks ≠ []) (lead : ks.getD (ks.length - 1) 0 ≠ 0) (pq : Pq ks (ks.getD (ks.length - 1) 0) ms g) : Dv (ff ms) (ff ks) ∧ Dv (ff ks) (ff ms) ∧ ms ≠ [] ∧ ms.getD (ms.length - 1) 0 = g ∧ ms.length = ks.length := by
  have g0 := pq.pos
  have e1 : ∀ i, ff ms i * ks.getD (ks.length - 1) 0 = ff ks i * g := pq.eq
  have d1 : Dv (ff ms) (ff ks) := ⟨g, fun i => ks.getD (ks.length - 1) 0 * xp 0 i, 1, by omega, (xp_fz 0).scale _, fun i => by rw [cf_scale_l, cf_one, Int.mul_comm g, ← e1, Int.mul_comm]⟩
  have d2 : Dv (ff ks) (ff ms) := ⟨ks.getD (ks.length - 1) 0, fun i => g * xp 0 i, 1, lead, (xp_fz 0).scale _, fun i => by rw [cf_scale_l, cf_one, Int.mul_comm, e1, Int.mul_comm]⟩
  have kp := lpos ne
  have top : ff ms (ks.length - 1) = g := by
    have := e1 (ks.length - 1)
    rw [Int.mul_comm (ff ks (ks.length - 1))] at this
    exact Int.eq_of_mul_eq_mul_right lead this
  have mne : ms ≠ [] := fun z => by
    rw [z] at top
    have : (0 : Int) = g := top
    omega
  have ml : ms.getD (ms.length - 1) 0 ≠ 0 := by
    rcases pq.last with z | z
    · exact absurd z mne
    · exact z
  have lm : ms.length - 1 = ks.length - 1 := by
    have a := d1.deg (dg_list ml) (dg_list lead)
    have b := d2.deg (dg_list lead) (dg_list ml)
    omega
  have mp := lpos mne
  exact ⟨d1, d2, mne, by rw [lm]; exact top, by omega⟩
def spCDv (K : PySem.W.Frag) : Sp := fun vs H Q _ => ∃ (a b : Addr) (ks js : List Int) (e f : Int) (k KK : Nat), vs = [.ref a, .ref b] ∧ PoA K H a ks e ∧ PoA K H b js f ∧ Pq ks e ks e ∧ Pq js f js f ∧ CDok ks js k KK ∧
  ∀ p H' ms g, Same H H' → PoA K H' p ms g → GcdR ks js ms g KK → Q (.ref p) H'
theorem Euc.prims {A B A' B' e0 : Nat → Int} {c d : Int} (c0 : c ≠ 0) (d0 : d ≠ 0) (hA : ∀ i, A i = c * A' i) (hB : ∀ i, B i = d * B' i) (h : Euc A B e0) : Euc A' B' e0 := by
  obtain ⟨u, v, N, hu, hv, cm⟩ := h.comb
  refine ⟨(h.da.congr (fun _ => rfl) (fun i => (hA i).symm)).scale c0, (h.db.congr (fun _ => rfl) (fun i => (hB i).symm)).scale d0, fun i => c * u i, fun i => d * v i, N, hu.scale c, hv.scale d, fun i => ?_⟩
  rw [cm, cf_scale_l, cf_scale_l, show cf u A i = c * cf u A' i by rw [← cf_scale]; exact cf_congr (fun _ => rfl) hA i, show cf v B i = d * cf v B' i by rw [← cf_scale]; exact cf_congr (fun _ => rfl) hB i]
def spExact (K : PySem.W.Frag) : Sp := fun vs H Q _ => ∃ (a b : Addr) (ks js : List Int) (e f : Int) (k : Nat), vs = [.ref a, .ref b] ∧ PoA K H a ks e ∧ PoA K H b js f ∧ js ≠ [] ∧
  0 < e ∧ 0 < f ∧ js.getD (js.length - 1) 0 ≠ 0 ∧ Bits k ks ∧ Bits k js ∧ e.natAbs < 2 ^ k ∧ f.natAbs < 2 ^ k ∧ ks.length ≤ 100 ∧ js.length ≤ 100 ∧ k ≤ 2000 ∧ dvB k ks.length + k ≤ 7990 ∧
  ∀ p H' ms g, Same H H' → PoA K H' p ms g → (∃ ns h, DivP ks e js f ms g ns h) → NearD k ks ms g → Q (.ref p) H'
def spInit (K : PySem.W.Frag) : Sp := fun vs H Q E => ∃ (x dx : Addr) (n d : Int) (k : Nat), vs = [.ref x, .int n, .int d] ∧ H x = some (.ins (CF K) dx []) ∧ d.natAbs < 2 ^ k ∧ k ≤ 8000 ∧
  (d = 0 → E (CD K) none H) ∧ (d ≠ 0 → ∀ a b, Fq n d a b → Q .non (upd H x (.ins (CF K) dx (fsF a b))))
theorem mkFr_conv (K : PySem.W.Frag) (dvs : List V) (vs : List V) (H1 : Hp) (Q : VK) (h : mkFr K dvs vs H1 Q) (x dx : Addr) (nx : H1 x = none) (nd : H1 dx = none) (ne : dx ≠ x) :
    spInit K (.ref x :: (vs ++ dvs)) (upd (upd H1 dx (.own x)) x (.ins (CF K) dx [])) (fun v H2 => v = .non ∧ Q (.ref x) H2) E0 := by
  obtain ⟨n, d, k, e, hb, hk, hd, q⟩ := h
  rw [e]
  exact ⟨x, dx, n, d, k, rfl, upd_same, hb, hk, fun z => absurd z hd, fun _ a b f => ⟨rfl, q x dx _ a b (same_made nx nd ne) nx upd_same f⟩⟩
def spPDeg (K : PySem.W.Frag) : Sp := fun vs H Q _ => ∃ (a : Addr) (ks : List Int) (e : Int), vs = [.ref a] ∧ PoA K H a ks e ∧ Q (.int ((ks.length : Int) - 1)) H
def coI (ks : List Int) (i : Int) : Int := if i < 0 then 0 else ks.getD i.toNat 0
def spPCo (K : PySem.W.Frag) : Sp := fun vs H Q _ => ∃ (a : Addr) (ks : List Int) (e i : Int) (k : Nat), vs = [.ref a, .int i] ∧ PoA K H a ks e ∧ 0 < e ∧ e.natAbs < 2 ^ k ∧ k ≤ 8000 ∧ RF K H Q (Fq (coI ks i) e)
def spPLe (K : PySem.W.Frag) : Sp := fun vs H Q _ => ∃ (a : Addr) (ks : List Int) (e : Int) (k : Nat), vs = [.ref a] ∧ PoA K H a ks e ∧ 0 < e ∧ e.natAbs < 2 ^ k ∧ k ≤ 8000 ∧ RF K H Q (Fq (coI ks ((ks.length : Int) - 1)) e)
def spZero (K : PySem.W.Frag) : Sp := fun vs H Q _ => ∃ (a da : Addr) (n1 d1 : Int), vs = [.ref a] ∧ H a = some (.ins (CF K) da (fsF n1 d1)) ∧ Q (.bl (decide (V.int n1 = V.int 0))) H
def spLow (K : PySem.W.Frag) : Sp := fun vs H Q _ => ∃ n d : Int, vs = [.int n, .int d] ∧ RF K H Q (fun a b => a = n ∧ b = d)
def spMul (K : PySem.W.Frag) : Sp := fun vs H Q _ => ∃ (a b da db : Addr) (n1 d1 n2 d2 : Int) (k : Nat), vs = [.ref a, .ref b] ∧ H a = some (.ins (CF K) da (fsF n1 d1)) ∧ H b = some (.ins (CF K) db (fsF n2 d2)) ∧ Lw k n1 d1 ∧ Lw k n2 d2 ∧ k ≤ 8000 ∧
  RF K H Q (Fq (n1 * n2) (d1 * d2))
def spOver (K : PySem.W.Frag) : Sp := fun vs H Q E => ∃ (a b da db : Addr) (n1 d1 n2 d2 : Int) (k : Nat), vs = [.ref a, .ref b] ∧ H a = some (.ins (CF K) da (fsF n1 d1)) ∧ H b = some (.ins (CF K) db (fsF n2 d2)) ∧ Lw k n1 d1 ∧ Lw k n2 d2 ∧ k ≤ 8000 ∧
  (n2 = 0 → E (CD K) none H) ∧ (n2 ≠ 0 → RF K H Q (Fq (n1 * d2) (d1 * n2)))
def spPSca (K : PySem.W.Frag) : Sp := fun vs H Q _ => ∃ (a b db : Addr) (ks : List Int) (e n d : Int) (k : Nat), vs = [.ref a, .ref b] ∧ PoA K H a ks e ∧ H b = some (.ins (CF K) db (fsF n d)) ∧ 0 < e ∧ e.natAbs < 2 ^ k ∧ d ≠ 0 ∧ Bits k ks ∧ n.natAbs < 2 ^ k ∧ d.natAbs < 2 ^ k ∧ ks.length ≤ 400 ∧ k ≤ 4000 ∧ RP K H Q (fun ms g => Pq (ks.map fun x => x * n) (e * d) ms g)
abbrev CQ (K : PySem.W.Frag) : Addr := He.ga K "Quotient"
abbrev fsQ (u v : Addr) : List (Str × L2.V) := [("num", .ref u), ("den", .ref v)]
/-- all but x is kept -/
def SameB (x : Addr) (H H' : Hp) : Prop := ∀ a o, a ≠ x → H a = some o → H' a = some o
/-- as / a over bs / b is (ks / e) / (js / f) in its one form -/
structure QtR (ks : List Int) (e : Int) (js : List Int) (f : Int) (as : List Int) (a : Int) (bs : List Int) (b : Int) : Prop where
  sa : Pq as a as a
  sb : Pq bs b bs b
  bne : bs ≠ []
  mon : bs.getD (bs.length - 1) 0 = b
  eq : ∀ i, cv as js i * (e * b) = cv ks bs i * (a * f)
  cop : ∀ D m, Dg D m → Dv D (ff as) → Dv D (ff bs) → m = 0
  da : Dv (ff as) (ff ks)
  db : Dv (ff bs) (ff js)
def spQuI (K : PySem.W.Frag) : Sp := fun vs H Q E => ∃ (x dx p r : Addr) (ks js : List Int) (e f : Int) (k KK kc : Nat), vs = [.ref x, .ref p, .ref r] ∧ H x = some (.ins (CQ K) dx []) ∧ PoA K H p ks e ∧ PoA K H r js f ∧ Pq ks e ks e ∧ Pq js f js f ∧
  (js = [] → E (CD K) none H) ∧
  (js ≠ [] → CDok ks js k KK ∧ (∀ ms g, GcdR ks js ms g KK → Bits kc ms) ∧ k ≤ kc ∧ e.natAbs < 2 ^ kc ∧ f.natAbs < 2 ^ kc ∧ dvB kc ks.length + kc ≤ 3990 ∧ dvB kc js.length + kc ≤ 3990 ∧
   ∀ H' u v as a bs b, SameB x H H' → PoA K H' u as a → PoA K H' v bs b → QtR ks e js f as a bs b → H' x = some (.ins (CQ K) dx (fsQ u v)) → Q .non H')
/-- a quotient -/
def QuA (K : PySem.W.Frag) (H : Hp) (q : Addr) (as : List Int) (a : Int) (bs : List Int) (b : Int) : Prop := ∃ dq u v, H q = some (.ins (CQ K) dq (fsQ u v)) ∧ PoA K H u as a ∧ PoA K H v bs b
theorem QuA.mono {K : PySem.W.Frag} {H H' : Hp} {q : Addr} {as bs : List Int} {a b : Int} (h : QuA K H q as a bs b) (s : Same H H') : QuA K H' q as a bs b := by
  obtain ⟨dq, u, v, h1, h2, h3⟩ := h
  exact ⟨dq, u, v, s _ _ h1, h2.mono s, h3.mono s⟩
structure QuOk (ks : List Int) (e : Int) (js : List Int) (f : Int) (k KK kc : Nat) : Prop where
  ok : CDok ks js k KK
  cb : ∀ ms g, GcdR ks js ms g KK → Bits kc ms
  kk : k ≤ kc
  eb : e.natAbs < 2 ^ kc
  fb : f.natAbs < 2 ^ kc
  d1 : dvB kc ks.length + kc ≤ 3990
  d2 : dvB kc js.length + kc ≤ 3990
def mkQu (K : PySem.W.Frag) (dvs : List V) : List V → Hp → VK → Prop := fun vs H1 Q => ∃ (p r : Addr) (ks js : List Int) (e f : Int) (k KK kc : Nat), vs ++ dvs = [.ref p, .ref r] ∧ PoA K H1 p ks e ∧ PoA K H1 r js f ∧ Pq ks e ks e ∧ Pq js f js f ∧ js ≠ [] ∧ QuOk ks e js f k KK kc ∧
  ∀ q H2 as a bs b, Same H1 H2 → H1 q = none → QuA K H2 q as a bs b → QtR ks e js f as a bs b → Q (.ref q) H2
theorem mkQu_conv (K : PySem.W.Frag) (dvs : List V) (vs : List V) (H1 : Hp) (Q : VK) (h : mkQu K dvs vs H1 Q) (x dx : Addr) (nx : H1 x = none) (nd : H1 dx = none) (ne : dx ≠ x) :
    spQuI K (.ref x :: (vs ++ dvs)) (upd (upd H1 dx (.own x)) x (.ins (CQ K) dx [])) (fun v H2 => v = .non ∧ Q (.ref x) H2) E0 := by
  obtain ⟨p, r, ks, js, e, f, k, KK, kc, ev, hp, hr, sk, sj, jne, o, q⟩ := h
  have s0 : Same H1 (upd (upd H1 dx (.own x)) x (.ins (CQ K) dx [])) := same_made0 nx nd
  rw [ev]
  refine ⟨x, dx, p, r, ks, js, e, f, k, KK, kc, rfl, upd_same, hp.mono s0, hr.mono s0, sk, sj, fun z => absurd z jne, fun _ => ⟨o.ok, o.cb, o.kk, o.eb, o.fb, o.d1, o.d2, fun H' u v as a bs b sb hu hv qt hx => ⟨rfl, ?_⟩⟩⟩
  exact q x H' as a bs b (fun y o hy => sb y o (fun z => by rw [z, nx] at hy; cases hy) (s0 _ _ hy)) nx ⟨dx, u, v, hx, hu, hv⟩ qt
theorem poA_updx {K : PySem.W.Frag} {H : Hp} {p x dx C : Addr} {ks : List Int} {e : Int} {fs : List (Str × L2.V)} {o : HO} (h : PoA K H p ks e) (hx : H x = some (.ins C dx fs)) (hf : fs.length ≤ 1) : PoA K (upd H x o) p ks e := by
  obtain ⟨dp, t, h1, h2⟩ := h
  refine ⟨dp, t, ?_, ?_⟩
  · rw [upd_ne (fun z => ?_)]
    · exact h1
    · subst z
      rw [hx] at h1
      cases h1
      exact absurd hf (by simp)
  · rw [upd_ne (fun z => ?_)]
    · exact h2
    · subst z
      rw [hx] at h2
      cases h2
theorem DivP.pm_self {ks js ms ns : List Int} {e f g h : Int} (d : DivP ks e js f ms g ns h) : Pq ms g ms g := by
  obtain ⟨_, _, _, _, p, _⟩ := d.ex
  exact p.self
theorem small1 (k : Nat) (h : 1 ≤ k) : (1 : Int).natAbs < 2 ^ k := Nat.lt_of_lt_of_le (show 1 < 2 ^ 1 by decide) (Nat.pow_le_pow_right (by decide) h)
theorem fq_11 {a b : Int} (f : Fq 1 1 a b) : a = 1 ∧ b = 1 := by
  have e := f.eq
  have p := f.pos
  have c := f.cop
  have ab : a = b := by omega
  rw [ab, Nat.gcd_self] at c
  omega
theorem prop_dv {x y : Nat → Int} {c d : Int} (c0 : c ≠ 0) (h : ∀ i, c * x i = d * y i) : Dv y x := ⟨c, fun i => d * xp 0 i, 1, c0, (xp_fz 0).scale d, fun i => by rw [cf_scale_l, cf_one]; exact h i⟩
/-- an exact division, crosswise -/
theorem exact_eq {ks ms vs ns : List Int} {e g w h : Int} (dn : DivP ks e ms g vs w ns h) (e0 : e ≠ 0) (ml : ms.getD (ms.length - 1) 0 ≠ 0) (dv : Dv (ff ms) (ff ks)) (i : Nat) : ff ks i * (w * g) = cf (ff vs) (ff ms) i * e := by
  obtain ⟨qs, rs, F, dr, pm, pn, F0⟩ := dn.ex
  have nz := (div_iff dr pn e0 ml).mpr dv
  have r0 : rs.getD i 0 = 0 := by
    have z := pn.eq i
    rw [nz] at z
    have z2 : (0 : Int) = rs.getD i 0 * h := by rw [← z]; show 0 = 0 * (F * e); omega
    have := pn.pos
    rcases Int.mul_eq_zero.mp z2.symm with y | y
    · exact y
    · omega
  have e1 := dr.eq i
  rw [r0, Int.add_zero, cv_cf] at e1
  have e2 : F * e * cf (ff vs) (ff ms) i = g * w * cf (ff qs) (ff ms) i := by
    rw [← cf_scale_l, ← cf_scale_l]
    refine cf_congr (fun j => ?_) (fun _ => rfl) i
    have y := pm.eq j
    rw [mul_at] at y
    show F * e * vs.getD j 0 = g * w * qs.getD j 0
    grind
  apply Int.eq_of_mul_eq_mul_left F0
  have e3 : F * (ff ks i * (w * g)) = (F * ks.getD i 0) * (w * g) := by rw [Int.mul_assoc]
  rw [e3, e1]
  grind
theorem low_ne {js ms us ns : List Int} {f g h h1 : Int} (jne : js ≠ []) (sj : Pq js f js f) (ml : ms.getD (ms.length - 1) 0 ≠ 0) (g0 : g ≠ 0) (dv : Dv (ff ms) (ff js)) (dl : DivP js f ms g us h ns h1) : us ≠ [] ∧ Pq us h us h := by
  have su := dl.pm_self
  refine ⟨fun z => ?_, su⟩
  have f0 : f ≠ 0 := by have := sj.pos; omega
  have e := exact_eq dl f0 ml dv (js.length - 1)
  rw [z, cf_zero_l ff_nil, Int.zero_mul] at e
  have h0 : h ≠ 0 := by have := su.pos; omega
  rcases Int.mul_eq_zero.mp e with y | y
  · exact (sj.last.resolve_left jne) y
  · rcases Int.mul_eq_zero.mp y with y | y
    · exact h0 y
    · exact g0 y
theorem Dv.mulr {d v m : Nat → Int} (h : Dv d v) : Dv (cf d m) (cf v m) := by
  obtain ⟨c, s, N, c0, hs, e⟩ := h
  refine ⟨c, s, N, c0, hs, fun i => ?_⟩
  rw [← cf_scale_l, cf_congr e (fun _ => rfl) i, cf_assoc]
theorem quo_math {ks js ms us vs as bs : List Int} {e f g h w n d n6 d6 a b : Int} {KK : Nat} {ns1 ns2 : List Int} {h1 h2 : Int} (sk : Pq ks e ks e) (sj : Pq js f js f) (jne : js ≠ []) (G : GcdR ks js ms g KK) (dl : DivP js f ms g us h ns1 h1) (dn : DivP ks e ms g vs w ns2 h2)
    (fq : Fq (coI us ((us.length : Int) - 1)) h n d) (fo : Fq (1 * d) (1 * n) n6 d6) (pq : Pq (vs.map fun x => x * n6) (w * d6) as a) (sb : Pq bs b bs b) (mr : MonR us bs b) : QtR ks e js f as a bs b := by
  obtain ⟨mne, gm⟩ := G.mon (.inr jne)
  have ml : ms.getD (ms.length - 1) 0 ≠ 0 := G.self.last.resolve_left mne
  have g0 : g ≠ 0 := by have := G.self.pos; omega
  have e0 : e ≠ 0 := by have := sk.pos; omega
  have f0 : f ≠ 0 := by have := sj.pos; omega
  obtain ⟨une, su⟩ := low_ne jne sj ml g0 G.dj dl
  have h0 : h ≠ 0 := by have := su.pos; omega
  have w0 : w ≠ 0 := by have := dn.pm_self.pos; omega
  have a0 : a ≠ 0 := by have := pq.pos; omega
  have b0 : b ≠ 0 := by have := sb.pos; omega
  have ul := lpos une
  have lu : coI us ((us.length : Int) - 1) = us.getD (us.length - 1) 0 := by
    unfold coI
    rw [if_neg (by omega), show ((us.length : Int) - 1).toNat = us.length - 1 by omega]
  rw [lu] at fq
  have lu0 : us.getD (us.length - 1) 0 ≠ 0 := su.last.resolve_left une
  obtain ⟨L, eL⟩ : ∃ L, L = us.getD (us.length - 1) 0 := ⟨_, rfl⟩
  rw [← eL] at fq lu0
  have d0 : d ≠ 0 := by have := fq.pos; omega
  have q1 := fq.eq
  have q2 := fo.eq
  rw [Int.one_mul, Int.one_mul] at q2
  have d60 : d6 ≠ 0 := by have := fo.pos; omega
  have n60 : n6 ≠ 0 := fun z => by
    rw [z, Int.zero_mul] at q2
    rcases Int.mul_eq_zero.mp q2.symm with y | y
    · exact d0 y
    · exact d60 y
  have key : n6 * L = d6 * h := by
    apply Int.eq_of_mul_eq_mul_left d0
    have : d * (n6 * L) = n6 * (L * d) := by grind
    rw [this, ← q1]
    have : d * (d6 * h) = (d * d6) * h := by grind
    rw [this, ← q2]
    grind
  have pb : Pq us L bs b := by
    rcases mr with ⟨z, _⟩ | ⟨_, p⟩
    · exact absurd z une
    · rw [eL]; exact p
  obtain ⟨bu, ub, bne, bm, _⟩ := mon_dv une (by rw [← eL]; exact lu0) (by rw [← eL]; exact pb)
  have E1 := exact_eq dl f0 ml G.dj
  have E2 := exact_eq dn e0 ml G.dk
  have A1 : ∀ i, w * d6 * ff as i = n6 * a * ff vs i := fun i => by
    have y := pq.eq i
    rw [mul_at] at y
    show w * d6 * as.getD i 0 = n6 * a * vs.getD i 0
    grind
  have B1 : ∀ i, L * ff bs i = b * ff us i := fun i => by
    have y := pb.eq i
    show L * bs.getD i 0 = b * us.getD i 0
    grind
  have na : n6 * a ≠ 0 := Int.mul_ne_zero n60 a0
  have wd : w * d6 ≠ 0 := Int.mul_ne_zero w0 d60
  have hg : h * g ≠ 0 := Int.mul_ne_zero h0 g0
  have wg : w * g ≠ 0 := Int.mul_ne_zero w0 g0
  have va : Dv (ff as) (ff vs) := prop_dv na fun i => (A1 i).symm
  have av : Dv (ff vs) (ff as) := prop_dv wd A1
  have vk : Dv (ff vs) (ff ks) := ⟨w * g, fun i => e * ff ms i, ms.length, wg, fun i hi => by show e * ms.getD i 0 = 0; rw [getD_end hi, Int.mul_zero], fun i => by rw [cf_scale_l, cf_comm, Int.mul_comm e, ← E2 i, Int.mul_comm]⟩
  have uj : Dv (ff us) (ff js) := ⟨h * g, fun i => f * ff ms i, ms.length, hg, fun i hi => by show f * ms.getD i 0 = 0; rw [getD_end hi, Int.mul_zero], fun i => by rw [cf_scale_l, cf_comm, Int.mul_comm f, ← E1 i, Int.mul_comm]⟩
  refine ⟨pq.self, sb, bne, bm, fun i => ?_, fun D m dg h1 h2 => ?_, va.trans vk, bu.trans uj⟩
  · rw [cv_cf, cv_cf]
    have T1 : w * d6 * (h * g) * cf (ff as) (ff js) i = n6 * a * f * cf (ff vs) (cf (ff us) (ff ms)) i := by
      have s1 : w * d6 * cf (ff as) (ff js) i = n6 * a * cf (ff vs) (ff js) i := by
        rw [← cf_scale_l, ← cf_scale_l]
        exact cf_congr A1 (fun _ => rfl) i
      have s2 : h * g * cf (ff vs) (ff js) i = f * cf (ff vs) (cf (ff us) (ff ms)) i := by
        rw [cf_comm (ff vs) (ff js), cf_comm (ff vs) (cf (ff us) (ff ms)), ← cf_scale_l, ← cf_scale_l]
        exact cf_congr (fun j => by rw [Int.mul_comm, E1 j, Int.mul_comm]) (fun _ => rfl) i
      grind
    have T2 : w * g * L * cf (ff ks) (ff bs) i = e * b * cf (ff vs) (cf (ff us) (ff ms)) i := by
      have s1 : w * g * cf (ff ks) (ff bs) i = e * cf (cf (ff vs) (ff ms)) (ff bs) i := by
        rw [← cf_scale_l, ← cf_scale_l]
        exact cf_congr (fun j => by rw [Int.mul_comm, E2 j, Int.mul_comm]) (fun _ => rfl) i
      have s2 : L * cf (cf (ff vs) (ff ms)) (ff bs) i = b * cf (cf (ff vs) (ff ms)) (ff us) i := by
        rw [cf_comm _ (ff bs), cf_comm _ (ff us), ← cf_scale_l, ← cf_scale_l]
        exact cf_congr B1 (fun _ => rfl) i
      have s3 : cf (cf (ff vs) (ff ms)) (ff us) i = cf (ff vs) (cf (ff us) (ff ms)) i := by
        rw [cf_assoc]
        exact cf_congr (fun _ => rfl) (fun j => cf_comm _ _ j) i
      grind
    generalize cf (ff vs) (cf (ff us) (ff ms)) i = P at T1 T2
    generalize cf (ff as) (ff js) i = X at T1 ⊢
    generalize cf (ff ks) (ff bs) i = Y at T2 ⊢
    have big : w * g * (L * (d6 * h)) ≠ 0 := Int.mul_ne_zero wg (Int.mul_ne_zero lu0 (Int.mul_ne_zero d60 h0))
    apply Int.eq_of_mul_eq_mul_left big
    have l1 : w * g * (L * (d6 * h)) * (X * (e * b)) = (w * d6 * (h * g) * X) * (L * e * b) := by grind
    have l2 : w * g * (L * (d6 * h)) * (Y * (a * f)) = (w * g * L * Y) * ((d6 * h) * a * f) := by grind
    rw [l1, l2, T1, T2, ← key]
    grind
  · have D1 : Dv (cf D (ff ms)) (ff ks) := Dv.scale wg (((h1.trans (prop_dv (c := 1) (d := 1) (by decide) (fun _ => rfl))).trans va).mulr (m := ff ms) |>.scale' e |>.congr (fun _ => rfl) (fun i => by rw [Int.mul_comm, E2 i, Int.mul_comm]))
    have D2 : Dv (cf D (ff ms)) (ff js) := Dv.scale hg ((h2.trans bu).mulr (m := ff ms) |>.scale' f |>.congr (fun _ => rfl) (fun i => by rw [Int.mul_comm, E1 i, Int.mul_comm]))
    have z := (G.max _ D1 D2).deg (dg.cf (dg_list ml)) (dg_list ml)
    omega
def spQuZ (K : PySem.W.Frag) : Sp := fun vs H Q _ => ∃ (q : Addr) (as : List Int) (a : Int) (bs : List Int) (b : Int), vs = [.ref q] ∧ QuA K H q as a bs b ∧ Q (.bl (decide (V.int (as.length : Int) = V.int 0))) H
def spRefZ (K : PySem.W.Frag) : Sp := fun vs H Q E => ∃ (a : Addr) (ks : List Int) (e : Int), vs = [.ref a] ∧ PoA K H a ks e ∧ (ks = [] → E (CZ K) none H) ∧ (ks ≠ [] → Q .non H)
/-- the derivative's coefficients -/
def derL (cs : List Int) : List Int := (List.range (cs.length - 1)).map fun i : Nat => ((i : Int) + 1) * cs.getD (i + 1) 0
theorem derL_len (cs : List Int) : (derL cs).length = cs.length - 1 := by unfold derL; rw [List.length_map, List.length_range]
theorem derL_ff (cs : List Int) : ff (derL cs) = dv (ff cs) := funext fun i => by
  show (derL cs).getD i 0 = ((i : Int) + 1) * cs.getD (i + 1) 0
  by_cases c : i < cs.length - 1
  · rw [List.getD_eq_getElem?_getD]
    unfold derL
    rw [List.getElem?_map, List.getElem?_range c]
    rfl
  · rw [getD_end (by rw [derL_len]; omega), getD_end (by omega), Int.mul_zero]
def spDer (K : PySem.W.Frag) : Sp := fun vs H Q _ => ∃ (a : Addr) (cs : List Int) (k : Nat), vs = [.ref a] ∧ SqT K H a (cs.map V.int) ∧ cs.length ≤ 400 ∧ Bits k cs ∧ k ≤ 400000 ∧
  ∀ p H', Same H H' → H p = none → H' p = some (.lst ((derL cs).map V.int)) → Q (.ref p) H'
theorem derL_take (cs : List Int) {i : Nat} (h : i < cs.length) : (derL cs).take (i + 1 - 1) = if i = 0 then [] else (derL cs).take (i - 1) ++ [(i : Int) * cs.getD i 0] := by
  by_cases c : i = 0
  · subst c; rfl
  · rw [if_neg c]
    obtain ⟨j, rfl⟩ : ∃ j, i = j + 1 := ⟨i - 1, by omega⟩
    show (derL cs).take (j + 1) = (derL cs).take j ++ _
    rw [List.take_succ]
    congr 1
    have e : (derL cs)[j]? = some (((j : Int) + 1) * cs.getD (j + 1) 0) := by
      unfold derL
      rw [List.getElem?_map, List.getElem?_range (by omega)]
      rfl
    rw [e]
    push_cast
    rfl
/-- a polynomial's part with simple roots -/
structure Smp (ks vs : List Int) (w : Int) : Prop where
  self : Pq vs w vs w
  l2 : 2 ≤ vs.length
  l8 : vs.length ≤ 9
  bits : Bits 300 vs
  roots : ∀ z, evL z vs = 0 ↔ evL z ks = 0
  res : ∃ R : Nat, 0 < R ∧ 190747 ∣ R ∧ R < 2 ^ 4700 ∧ ∀ (p : Nat) (r : Int), Pr p → (p : Int) ∣ evL r vs → (p : Int) ∣ evL r (derL vs) → p ∣ R
theorem ev_evL (xs : List Int) (z : Int) : Ev (pl xs) z (evL z xs) := ⟨xs.length, ff_fz xs, (evL_e1 z xs _ (Nat.le_refl _)).symm⟩
theorem dv_ff_dg {ks : List Int} (h : 2 ≤ ks.length) (lt : ks.getD (ks.length - 1) 0 ≠ 0) : Dg (dv (ff ks)) (ks.length - 2) := by
  have d := dgl lt
  obtain ⟨n, hn⟩ : ∃ n, ks.length = n + 2 := ⟨ks.length - 2, by omega⟩
  rw [hn] at d ⊢
  exact dv_dg d
theorem smp_of {ks js ms vs ns : List Int} {e g w h : Int} {KK : Nat} (sk : Pq ks e ks e) (l2 : 2 ≤ ks.length) (l8 : ks.length ≤ 9) (bk : Bits 90 ks) (ej : ff js = dv (ff ks)) (jne : js ≠ []) (G : GcdR ks js ms g KK) (dn : DivP ks e ms g vs w ns h) : Smp ks vs w := by
  have kne : ks ≠ [] := fun z => by rw [z] at l2; exact absurd l2 (by decide)
  have kt := sk.last.resolve_left kne
  have e0 : e ≠ 0 := by have := sk.pos; omega
  obtain ⟨mne, gm⟩ := G.mon (.inl kne)
  have mt : ms.getD (ms.length - 1) 0 ≠ 0 := G.self.last.resolve_left mne
  have g0 : g ≠ 0 := by have := G.self.pos; omega
  have sv := dn.pm_self
  have w0 : w ≠ 0 := by have := sv.pos; omega
  have E := exact_eq dn e0 mt G.dk
  have wg : w * g ≠ 0 := Int.mul_ne_zero w0 g0
  have ps : pc (w * g) * pl ks = pl vs * (pc e * pl ms) := PS.ext (funext fun i => by
    show cf (cst (w * g)) (ff ks) i = cf (ff vs) (cf (cst e) (ff ms)) i
    rw [cst_cf, cst_cf, cf_scale]
    have := E i
    show w * g * ff ks i = e * cf (ff vs) (ff ms) i
    rw [Int.mul_comm, this, Int.mul_comm])
  have dk := dgl kt
  have dm := dgl mt
  have ml : 1 ≤ ms.length := List.length_pos_iff.mpr mne
  have dd := dv_ff_dg l2 kt
  have dmj : Dv (ff ms) (dv (ff ks)) := by rw [← ej]; exact G.dj
  have mdeg := dmj.deg dm dd
  -- vs is not nothing, its degree
  have vne : vs ≠ [] := fun z => by
    have y := E (ks.length - 1)
    rw [z, cf_zero_l (f := ff []) (fun _ => rfl), Int.zero_mul] at y
    rcases Int.mul_eq_zero.mp y with y | y
    · exact kt y
    · exact wg y
  have vt := sv.last.resolve_left vne
  have vl : 1 ≤ vs.length := List.length_pos_iff.mpr vne
  have dvv := dgl vt
  have degs : ks.length - 1 = vs.length - 1 + (ms.length - 1) := by
    have d1 : Dg (pc (w * g) * pl ks).f (0 + (ks.length - 1)) := (pc_dg wg).cf dk
    have d2 : Dg (pl vs * (pc e * pl ms)).f (vs.length - 1 + (0 + (ms.length - 1))) := dvv.cf ((pc_dg e0).cf dm)
    rw [ps] at d1
    have := d1.uniq d2
    omega
  have lv2 : 2 ≤ vs.length := by omega
  have lv8 : vs.length ≤ 9 := by omega
  -- its sizes
  have lead : vs.getD (vs.length - 1) 0 * e = ks.getD (ks.length - 1) 0 * w := by
    have y := E (ks.length - 1)
    rw [degs, cf_top (fun i hi => dvv.up i hi) (fun i hi => dm.up i hi), ← degs] at y
    have e3 : ff ms (ms.length - 1) = g := gm
    rw [e3] at y
    apply Int.eq_of_mul_eq_mul_right g0
    have : ks.getD (ks.length - 1) 0 * (w * g) = vs.getD (vs.length - 1) 0 * g * e := y
    grind
  have dvk : Dv (ff vs) (ff ks) := ⟨w * g, fun i => e * ff ms i, ms.length, wg, fun i hi => by show e * ms.getD i 0 = 0; rw [getD_end hi, Int.mul_zero], fun i => by rw [cf_scale_l, cf_comm, Int.mul_comm e, ← E i, Int.mul_comm]⟩
  have bv : Bits 240 vs := bits_of_at fun i => by
    have z := (num_bits8 sv vne dk (H := 2 ^ 90) (fun i => Nat.le_of_lt (bk.getD i)) (by omega) dvk e0 kt lead).1 i
    have s1 : sg 8 (ks.length - 1 + 1) ≤ sg 8 9 := sg_le (by omega)
    have s2 : 18 ^ (vs.length - 1) ≤ 18 ^ 8 := Nat.pow_le_pow_right (by decide) (by omega)
    have s3 : 2 ^ 90 * sg 8 (ks.length - 1 + 1) * 18 ^ (vs.length - 1) ≤ 2 ^ 90 * sg 8 9 * 18 ^ 8 := Nat.mul_le_mul (Nat.mul_le_mul_left _ s1) s2
    have s4 := Nat.mul_le_mul (Nat.le_of_lt (bk.getD (ks.length - 1))) s3
    exact Nat.lt_of_le_of_lt z (Nat.lt_of_le_of_lt s4 (by decide +kernel))
  have dg' : Dg (pc e * pl ms).f (0 + (ms.length - 1)) := (pc_dg e0).cf dm
  obtain ⟨c', q, Nq, c0', fq, eq'⟩ := (show Dv (pl ms).f (pl ks).d.f from dmj).ps
  have eq2 : pc (c' * e) * (pl ks).d = q * (pc e * pl ms) := by
    rw [pc_mul]
    grind
  refine ⟨sv, lv2, lv8, bv.mono (by decide), fun z => ⟨fun hz => ?_, fun hz => ?_⟩, ?_⟩
  · have a := (Ev.pc (w * g) z).mul (ev_evL ks z)
    rw [ps] at a
    have b := (ev_evL vs z).mul ((Ev.pc e z).mul (ev_evL ms z))
    have u := a.uniq b
    rw [hz, Int.zero_mul] at u
    exact (Int.mul_eq_zero.mp u).resolve_left wg
  · have a := ev_evL ks z
    rw [hz] at a
    have r := root_kept (p := pl ks) (g := pc e * pl ms) (s := pl vs) (q := q) wg (Int.mul_ne_zero c0' e0) dg'.up (ff_fz vs) fq ⟨_, dg'.top⟩ ps eq2 a
    exact (ev_evL vs z).uniq r
  · have dv2 := dv_ff_dg lv2 vt
    have b303 : Bt 244 (ff vs) := (show Bt 240 (ff vs) from bv.getD).mono (by decide)
    have d303 : Bt 244 (dv (ff vs)) := fun i => by
      by_cases c : i < 8
      · show (((i : Int) + 1) * vs.getD (i + 1) 0).natAbs < 2 ^ 244
        exact abs_lt_mul (a := 4) (b := 240) (by omega) (bv.getD _)
      · rw [dv2.up i (by omega)]
        exact Nat.pow_pos (by decide)
    obtain ⟨E0, m0, Eu, D0, B0⟩ := euclid_small dvv dv2 b303 d303 (by omega)
    have m00 := sqf (p := pl ks) (g := pc e * pl ms) (s := pl vs) wg dg' (ff_fz vs) (ff_fz ks) ⟨_, dk.top⟩ ps (fun D h1 h2 => by
      have z := G.max D h1 (by rw [ej]; exact h2)
      have y := z.scale' e
      have e5 : (pc e * pl ms).f = fun i => e * ff ms i := cst_cf e (ff ms)
      rw [e5]
      exact y) Eu D0
    subst m00
    have e15 : (244 + 5) * (vs.length - 1 + (vs.length - 2)) ≤ (244 + 5) * 15 := Nat.mul_le_mul_left _ (by omega)
    refine ⟨(E0 0).natAbs * 190747, by have := D0.top; omega, Nat.dvd_mul_left _ _, Nat.lt_of_lt_of_le (show _ < 2 ^ ((244 + 5) * (vs.length - 1 + (vs.length - 2)) + 244) * 2 ^ 18 from Nat.mul_lt_mul_of_lt_of_le (B0 0) (by decide) (by decide)) (by rw [← Nat.pow_add]; exact Nat.pow_le_pow_right (by decide) (by omega)), fun p r hp h1 h2 => Nat.dvd_trans ?_ (Nat.dvd_mul_right _ _)⟩
    · obtain ⟨u, v, M, hu, hv, cm⟩ := Eu.comb
      have a := ((Ev.of (a := ⟨u⟩) hu r).mul (ev_evL vs r)).add ((Ev.of (a := ⟨v⟩) hv r).mul (ev_evL (derL vs) r))
      have e6 : (⟨u⟩ : PS) * pl vs + ⟨v⟩ * pl (derL vs) = ⟨E0⟩ := PS.ext (funext fun i => by
        show cf u (ff vs) i + cf v (ff (derL vs)) i = E0 i
        rw [derL_ff, cm])
      rw [e6] at a
      have b : Ev ⟨E0⟩ r (E0 0) := ⟨1, D0.up, by show 0 + E0 0 * r ^ 0 = E0 0; simp⟩
      have c := a.uniq b
      have d : (p : Int) ∣ E0 0 := by
        rw [← c]
        exact Int.dvd_add (Int.dvd_trans h1 ⟨_, Int.mul_comm _ _⟩) (Int.dvd_trans h2 ⟨_, Int.mul_comm _ _⟩)
      have := Int.natAbs_dvd_natAbs.mpr d
      rwa [Int.natAbs_natCast] at this
theorem gcd_bits {ks js ms : List Int} {g : Int} {KK : Nat} (G : GcdR ks js ms g KK) (kne : ks ≠ []) (jt : js.getD (js.length - 1) 0 ≠ 0) (bj : Bits 94 js) (l7 : js.length ≤ 8) : Bits 170 ms := bits_of_at fun i => by
  obtain ⟨mne, gm⟩ := G.mon (.inl kne)
  have mt : ms.getD (ms.length - 1) 0 ≠ 0 := G.self.last.resolve_left mne
  have le := G.dj.deg (dgl mt) (dgl jt)
  refine Nat.lt_of_le_of_lt (Nat.le_trans (monic_bits8 G.self mne gm (dgl jt) (H := 2 ^ 94) (fun i => Nat.le_of_lt (bj.getD i)) (by omega) G.dj i) (le_mono8 (t := 0) (show js.length - 1 ≤ 7 by omega) (show ms.length - 1 ≤ 7 by omega))) ?_
  decide +kernel
def spWMR (K : PySem.W.Frag) : Sp := fun vs H Q _ => ∃ (a : Addr) (ks : List Int) (e : Int) (k : Nat), vs = [.ref a] ∧ PoA K H a ks e ∧ Pq ks e ks e ∧ 2 ≤ ks.length ∧ ks.length ≤ 9 ∧ Bits 90 ks ∧ e.natAbs < 2 ^ 90 ∧
  ∀ p H' vs w, Same H H' → PoA K H' p vs w → Smp ks vs w → Q (.ref p) H'
theorem pr_sqrt {n d : Nat} (n2 : 2 ≤ n) (h : n < d * d) (hq : ∀ q, 2 ≤ q → q < d → ¬ q ∣ n) : Pr n := pr_of_min n2 fun q q2 ⟨r, hr⟩ => by
  have bad : ∀ t, 2 ≤ t → t * t ≤ n → ¬ t ∣ n := fun t t2 tt => hq t t2 (Decidable.byContradiction fun k => by
    have : d * d ≤ t * t := Nat.mul_le_mul (by omega) (by omega)
    omega)
  refine Decidable.byContradiction fun ne => ?_
  have r0 : r ≠ 0 := fun z => by rw [z, Nat.mul_zero] at hr; omega
  have r1 : r ≠ 1 := fun z => by rw [z, Nat.mul_one] at hr; omega
  by_cases c : q ≤ r
  · exact bad q q2 (by rw [hr]; exact Nat.mul_le_mul_left _ c) ⟨r, hr⟩
  · exact bad r (by omega) (by rw [hr]; exact Nat.mul_le_mul_right _ (by omega)) ⟨q, by rw [hr, Nat.mul_comm]⟩
theorem pr_self {n q : Nat} (h : Pr n) (q2 : 2 ≤ q) (d : q ∣ n) : q = n := by
  obtain ⟨p, hp, pq⟩ := pr_ex q q2
  have e := pr_dvd hp h (Nat.dvd_trans pq d)
  rw [e] at pq
  exact Nat.dvd_antisymm d pq
def spIsP (K : PySem.W.Frag) : Sp := fun vs H Q _ => ∃ (n : Nat), vs = [.int (n : Int)] ∧ n < 2 ^ 60 ∧ ∀ r : Bool, (r = true ↔ Pr n) → Q (.bl r) H
def spNxP (K : PySem.W.Frag) : Sp := fun vs H Q _ => ∃ (n : Nat), vs = [.int (n : Int)] ∧ (∃ P, Pr P ∧ n < P ∧ P < 2 ^ 50) ∧ ∀ p : Nat, Pr p → n < p → (∀ q, Pr q → n < q → p ≤ q) → Q (.int (p : Int)) H
/-- the residues at which a polynomial is 0 modulo p -/
def rsL (p : Nat) (cs : List Int) : List Int := ((List.range p).filter fun r : Nat => decide ((p : Int) ∣ evL (r : Int) cs)).map fun r : Nat => (r : Int)
theorem mem_rsL {p : Nat} {cs : List Int} {x : Int} : x ∈ rsL p cs ↔ 0 ≤ x ∧ x < p ∧ (p : Int) ∣ evL x cs := by
  unfold rsL
  rw [List.mem_map]
  constructor
  · rintro ⟨r, hr, rfl⟩
    obtain ⟨h1, h2⟩ := List.mem_filter.mp hr
    have := List.mem_range.mp h1
    exact ⟨by omega, by omega, of_decide_eq_true h2⟩
  · rintro ⟨h0, h1, h2⟩
    refine ⟨x.toNat, List.mem_filter.mpr ⟨List.mem_range.mpr (by omega), ?_⟩, by omega⟩
    rw [show ((x.toNat : Nat) : Int) = x by omega]
    exact decide_eq_true h2
theorem rsL_nodup (p : Nat) (cs : List Int) : (rsL p cs).Nodup := by
  unfold rsL
  refine List.Pairwise.map _ (fun a b h => ?_) (List.nodup_range.filter _)
  omega
theorem rsL_len (p : Nat) (cs : List Int) : (rsL p cs).length ≤ p := by
  unfold rsL
  rw [List.length_map]
  have := List.length_filter_le (fun r : Nat => decide ((p : Int) ∣ evL (r : Int) cs)) (List.range p)
  rw [List.length_range] at this
  exact this
theorem evL_mod {m x : Int} : ∀ {cs ds : List Int}, cs.length = ds.length → (∀ i, m ∣ cs.getD i 0 - ds.getD i 0) → m ∣ evL x cs - evL x ds
  | [], [], _, _ => by show m ∣ 0 - 0; simp
  | c :: cs, d :: ds, hl, h => by
    have ih := evL_mod (m := m) (x := x) (cs := cs) (ds := ds) (by simpa using hl) fun i => h (i + 1)
    have h0 := h 0
    have h0' : m ∣ c - d := h0
    have e : evL x (c :: cs) - evL x (d :: ds) = (evL x cs - evL x ds) * x + (c - d) := by
      show evL x cs * x + c - (evL x ds * x + d) = _
      rw [Int.sub_mul]
      omega
    rw [e]
    exact Int.dvd_add (Int.dvd_trans ih ⟨x, rfl⟩) h0'
theorem rs_line {n : Nat} (h : n ≤ 4000) : n < sizeLine := Nat.lt_of_le_of_lt h (by show 4000 < sizeLine; decide)
def spRtM (K : PySem.W.Frag) : Sp := fun vs H Q _ => ∃ (a : Addr) (cs : List Int) (p : Nat) (k : Nat), vs = [.ref a, .int (p : Int)] ∧ SqT K H a (cs.map V.int) ∧ cs.length ≤ 400 ∧ 2 ≤ p ∧ p ≤ 4000 ∧
  ∀ q H', Same H H' → H q = none → H' q = some (.lst ((rsL p cs).map V.int)) → Q (.ref q) H'
theorem pr3607 : Pr 3607 := pr_small (by decide +kernel)
theorem prsL_top {p : Nat} (h : p ∈ prsL) : p < 3600 := (prsL_pr h).2.2
theorem bits_derL {k : Nat} {cs : List Int} (h : Bits k cs) (l : cs.length ≤ 400) : Bits (k + 9) (derL cs) := bits_of_at fun i => by
  have e : (derL cs).getD i 0 = ((i : Int) + 1) * cs.getD (i + 1) 0 := congrFun (derL_ff cs) i
  rw [e]
  by_cases c : i + 1 < cs.length
  · exact abs_mono (abs_lt_mul (a := 9) (show ((i : Int) + 1).natAbs < 2 ^ 9 by omega) (h.getD _)) (by omega)
  · rw [getD_end (by omega), Int.mul_zero]
    exact Nat.pow_pos (by decide)
theorem pr67 : Pr 67 := pr_small (by decide +kernel)
theorem pr_low {q : Nat} (h : Pr q) (h1 : 53 ≤ q) (h2 : q < 67) : q ∣ 190747 := by
  have no : ∀ a b : Int, (q : Int) = a * b → 1 < a → 1 < b → a < q → b < q → False := fun a b e ha hb la lb => by
    rcases h.mul a b (e ▸ Int.dvd_refl _) with d | d
    · have := Int.le_of_dvd (by omega) d; omega
    · have := Int.le_of_dvd (by omega) d; omega
  rcases (by omega : q = 53 ∨ q = 54 ∨ q = 55 ∨ q = 56 ∨ q = 57 ∨ q = 58 ∨ q = 59 ∨ q = 60 ∨ q = 61 ∨ q = 62 ∨ q = 63 ∨ q = 64 ∨ q = 65 ∨ q = 66) with rfl | rfl | rfl | rfl | rfl | rfl | rfl | rfl | rfl | rfl | rfl | rfl | rfl | rfl
  · decide
  · exact (no 2 27 rfl (by decide) (by decide) (by decide) (by decide)).elim
  · exact (no 5 11 rfl (by decide) (by decide) (by decide) (by decide)).elim
  · exact (no 7 8 rfl (by decide) (by decide) (by decide) (by decide)).elim
  · exact (no 3 19 rfl (by decide) (by decide) (by decide) (by decide)).elim
  · exact (no 2 29 rfl (by decide) (by decide) (by decide) (by decide)).elim
  · decide
  · exact (no 6 10 rfl (by decide) (by decide) (by decide) (by decide)).elim
  · decide
  · exact (no 2 31 rfl (by decide) (by decide) (by decide) (by decide)).elim
  · exact (no 7 9 rfl (by decide) (by decide) (by decide) (by decide)).elim
  · exact (no 8 8 rfl (by decide) (by decide) (by decide) (by decide)).elim
  · exact (no 5 13 rfl (by decide) (by decide) (by decide) (by decide)).elim
  · exact (no 6 11 rfl (by decide) (by decide) (by decide) (by decide)).elim
def spPwS (K : PySem.W.Frag) : Sp := fun vs H Q _ => ∃ (a : Addr) (cs : List Int) (k R : Nat), vs = [.ref a] ∧ SqT K H a (cs.map V.int) ∧ 1 ≤ cs.length ∧ cs.length ≤ 9 ∧ Bits k cs ∧ k ≤ 8000 ∧ 0 < R ∧ 190747 ∣ R ∧ R < 2 ^ 4700 ∧ (∀ (p : Nat) (r : Int), Pr p → (p : Int) ∣ evL r cs → (p : Int) ∣ evL r (derL cs) → p ∣ R) ∧
  ∀ t H' (p : Nat) pr, Same H H' → H' t = some (.tup [.int (p : Int), .ref pr]) → H' pr = some (.lst ((rsL p cs).map V.int)) → Pr p → p < 3600 → (∀ r ∈ rsL p cs, ¬ (p : Int) ∣ evL r (derL cs)) → Q (.ref t) H'
def spVMo (K : PySem.W.Frag) : Sp := fun vs H Q _ => ∃ (a : Addr) (cs : List Int) (x m : Int) (j : Nat), vs = [.ref a, .int x, .int m] ∧ (SqL K H a (cs.map V.int) ∨ SqT K H a (cs.map V.int)) ∧ x.natAbs < 2 ^ j ∧ 0 < m ∧ m.natAbs < 2 ^ j ∧ j ≤ 400000 ∧ ∀ v : Int, 0 ≤ v → v < m → m ∣ v - evL x cs → Q (.int v) H
theorem evL_der (x : Int) (cs : List Int) : evL x (derL cs) = e1 (dv (ff cs)) x (cs.length - 1) := by
  rw [evL_e1 x (derL cs) (cs.length - 1) (by rw [derL_len]; exact Nat.le_refl _), derL_ff]
theorem evL_f (x : Int) {cs : List Int} (h : 1 ≤ cs.length) : evL x cs = e1 (ff cs) x (cs.length - 1 + 1) := evL_e1 x cs _ (by omega)
theorem abs_ite (x : Int) : (if x < 0 then -x else x) = (x.natAbs : Int) := by split <;> omega
structure LfI (cs : List Int) (p : Nat) (res : Int) (K : Nat) (m r v : Int) : Prop where
  L : Lft (ff cs) (cs.length - 1) m r v
  v0 : 0 ≤ v
  v1 : v < m
  mb : m.natAbs < 2 ^ K
  pm : (p : Int) ∣ m
  pr : (p : Int) ∣ r - res
  zs : ∀ z, evL z cs = 0 → (p : Int) ∣ z - res → m ∣ z - r
theorem LfI.step {cs : List Int} {p : Nat} {res m r v M F r2 G v2 : Int} {K : Nat} (l1 : 1 ≤ cs.length) (h : LfI cs p res K m r v) (eM : M = m * m) (Mb : M.natAbs < 2 ^ K) (hF : M ∣ F - evL r cs) (e2 : r2 = (r - F * v) % M) (hG : M ∣ G - evL r2 (derL cs)) (e3 : v2 = v * (2 - G * v) % M) : LfI cs p res K M r2 v2 := by
  subst eM
  rw [evL_f r l1] at hF
  rw [evL_der] at hG
  obtain ⟨L2, mr, zz⟩ := h.L.step hF e2 hG e3
  have M2 := L2.m2
  refine ⟨L2, by rw [e3]; exact Int.emod_nonneg _ (by omega), by rw [e3]; exact Int.emod_lt_of_pos _ (by omega), Mb, Int.dvd_trans h.pm ⟨m, rfl⟩, ?_, fun z hz hp => zz z (by rw [← evL_f z l1]; exact hz) (h.zs z hz hp)⟩
  have := Int.dvd_add (Int.dvd_trans h.pm mr) h.pr
  rwa [show r2 - r + (r - res) = r2 - res by omega] at this
def spLft (K : PySem.W.Frag) : Sp := fun vs H Q _ => ∃ (a : Addr) (cs : List Int) (res : Int) (p : Nat) (k : Nat) (l : Nat), vs = [.ref a, .int res, .int (p : Int)] ∧ SqT K H a (cs.map V.int) ∧ Bits k cs ∧ k ≤ 7000 ∧ 2 ≤ cs.length ∧ cs.length ≤ 400 ∧ cs.getD (cs.length - 1) 0 ≠ 0 ∧ Pr p ∧ p < 4000 ∧ 0 ≤ res ∧ res < p ∧ (p : Int) ∣ evL res cs ∧ ¬ (p : Int) ∣ evL res (derL cs) ∧
  ∀ (v : Int) H', Same H H' → (p : Int) ∣ v - res → (∀ z, evL z cs = 0 → (p : Int) ∣ z - res → z = v) → v.natAbs < 2 ^ (2 * k + 20) → Q (.int v) H'
/-- the lifted residues -/
structure LfL (vs : List Int) (p : Nat) (rs LL : List Int) : Prop where
  len : LL.length ≤ rs.length
  at_ : ∀ (i : Nat) (x r : Int), LL[i]? = some x → rs[i]? = some r → (p : Int) ∣ x - r ∧ (∀ z, evL z vs = 0 → (p : Int) ∣ z - r → z = x) ∧ x.natAbs < 2 ^ 620
theorem LfL.step {vs rs LL : List Int} {p : Nat} {v r : Int} (h : LfL vs p rs LL) (hr : rs[LL.length]? = some r) (h1 : (p : Int) ∣ v - r) (h2 : ∀ z, evL z vs = 0 → (p : Int) ∣ z - r → z = v) (h3 : v.natAbs < 2 ^ 620) : LfL vs p rs (LL ++ [v]) := by
  have l := (List.getElem?_eq_some_iff.mp hr).1
  refine ⟨by rw [List.length_append]; exact l, fun i x r' hx hr' => ?_⟩
  by_cases c : i < LL.length
  · rw [List.getElem?_append_left c] at hx
    exact h.at_ i x r' hx hr'
  · have il : i < (LL ++ [v]).length := (List.getElem?_eq_some_iff.mp hx).1
    rw [List.length_append] at il
    have e : i = LL.length := by
      have : ([v] : List Int).length = 1 := rfl
      omega
    subst e
    rw [List.getElem?_append_right (Nat.le_refl _), Nat.sub_self] at hx
    cases hx
    rw [hr] at hr'
    cases hr'
    exact ⟨h1, h2, h3⟩
theorem LfL.all {vs LL : List Int} {p : Nat} (p0 : 0 < p) (h : LfL vs p (rsL p vs) LL) (e : LL.length = (rsL p vs).length) : LL.Nodup ∧ ∀ z, evL z vs = 0 → z ∈ LL := by
  have nd := rsL_nodup p vs
  have get : ∀ i, i < LL.length → ∃ r, (rsL p vs)[i]? = some r := fun i hi => ⟨_, List.getElem?_eq_getElem (by omega)⟩
  constructor
  · refine List.pairwise_iff_getElem.mpr fun i j hi hj ij eq => ?_
    obtain ⟨r1, h1⟩ := get i hi
    obtain ⟨r2, h2⟩ := get j hj
    have hx1 : LL[i]? = some LL[i] := List.getElem?_eq_getElem hi
    have hx : LL[j]? = some LL[j] := List.getElem?_eq_getElem hj
    have a := (h.at_ i _ r1 hx1 h1).1
    have b := (h.at_ j _ r2 hx h2).1
    rw [← eq] at b
    have m1 := mem_rsL.mp (List.mem_of_getElem? h1)
    have m2 := mem_rsL.mp (List.mem_of_getElem? h2)
    have d := Int.dvd_sub b a
    rw [show LL[i] - r2 - (LL[i] - r1) = r1 - r2 by omega] at d
    have rr : r1 = r2 := by
      by_cases z : r1 - r2 = 0
      · omega
      · have := natAbs_le_of_dvd d z
        rw [Int.natAbs_natCast] at this
        omega
    obtain ⟨g1, e1_⟩ := List.getElem?_eq_some_iff.mp h1
    obtain ⟨g2, e2_⟩ := List.getElem?_eq_some_iff.mp h2
    exact List.pairwise_iff_getElem.mp nd i j g1 g2 ij (by rw [e1_, e2_, rr])
  · intro z hz
    have m0 := Int.emod_nonneg z (show (p : Int) ≠ 0 by omega)
    have m1 := Int.emod_lt_of_pos z (show (0 : Int) < p by omega)
    have md := mod_sub_dvd p z
    have inr : z % (p : Int) ∈ rsL p vs := mem_rsL.mpr ⟨m0, m1, by
      have d := e1_mod (ff vs) md vs.length
      rw [← evL_e1 z vs _ (Nat.le_refl _), ← evL_e1 (z % (p : Int)) vs _ (Nat.le_refl _), hz] at d
      have := Int.dvd_neg.mpr d
      rwa [show -(0 - evL (z % (p : Int)) vs) = evL (z % (p : Int)) vs by omega] at this⟩
    obtain ⟨i, hi⟩ := List.mem_iff_getElem?.mp inr
    have il := (List.getElem?_eq_some_iff.mp hi).1
    obtain ⟨x, hx⟩ : ∃ x, LL[i]? = some x := ⟨_, List.getElem?_eq_getElem (by omega)⟩
    rw [(h.at_ i x _ hx hi).2.1 z hz md]
    exact List.mem_of_getElem? hx
theorem LfL.sm {vs LL : List Int} {p : Nat} (h : LfL vs p (rsL p vs) LL) {x : Int} (hx : x ∈ LL) : x.natAbs < 2 ^ 620 := by
  obtain ⟨i, hi⟩ := List.mem_iff_getElem?.mp hx
  have il := (List.getElem?_eq_some_iff.mp hi).1
  have := h.len
  exact (h.at_ i x _ hi (List.getElem?_eq_getElem (by omega))).2.2
/-- the whole roots, ascending and each once -/
structure RtL (ks ws : List Int) : Prop where
  asc : ws.Pairwise (· < ·)
  mem : ∀ z, z ∈ ws ↔ evL z ks = 0
  len : ws.length < 3600
theorem rt_sorted {ks us ws : List Int} (nd : us.Nodup) (mem : ∀ z, z ∈ us ↔ evL z ks = 0) (len : us.length < 3600) (perm : ws.Perm us) (le : ws.Pairwise (· ≤ ·)) : RtL ks ws := by
  refine ⟨?_, fun z => by rw [perm.mem_iff]; exact mem z, by rw [perm.length_eq]; exact len⟩
  have nd2 : ws.Nodup := perm.nodup_iff.mpr nd
  exact (le.and nd2).imp fun h => by have := h.1; have := h.2; omega
theorem no_roots {ks : List Int} (l : ks.length ≤ 1) (t : ks.getD (ks.length - 1) 0 ≠ 0) : RtL ks [] := by
  refine ⟨List.Pairwise.nil, fun z => ⟨fun h => (List.not_mem_nil h).elim, fun h => ?_⟩, by decide⟩
  match ks, l, t with
  | [], _, t => exact absurd rfl t
  | [c], _, t =>
    exfalso
    have e : evL z [c] = 0 * z + c := rfl
    rw [e] at h
    apply t
    show c = 0
    omega
def spWhR (K : PySem.W.Frag) : Sp := fun vs H Q _ => ∃ (a : Addr) (ks : List Int) (e : Int) (k : Nat), vs = [.ref a] ∧ PoA K H a ks e ∧ Pq ks e ks e ∧ ks ≠ [] ∧ ks.length ≤ 9 ∧ Bits 90 ks ∧ e.natAbs < 2 ^ 90 ∧
  ∀ q H' ws, Same H H' → H q = none → H' q = some (.lst (ws.map V.int)) → RtL ks ws → Q (.ref q) H'
/-- a filtered list of the roots -/
structure RtF (ks us : List Int) (P : Int → Bool) : Prop where
  asc : us.Pairwise (· < ·)
  mem : ∀ z, z ∈ us ↔ P z = true ∧ evL z ks = 0
  len : us.length < 3600
theorem RtL.filt {ks ws : List Int} (R : RtL ks ws) (P : Int → Bool) : RtF ks (ws.filter P) P := ⟨R.asc.filter _, fun z => by rw [List.mem_filter, R.mem, And.comm], Nat.lt_of_le_of_lt (List.length_filter_le _ _) R.len⟩
def spRtS (K : PySem.W.Frag) : Sp := fun vs H Q E => ∃ (a : Addr) (ks : List Int) (e lo : Int), vs = [.ref a, .int lo] ∧ PoA K H a ks e ∧ (ks = [] → E (CZ K) none H) ∧ (ks ≠ [] → Pq ks e ks e ∧ ks.length ≤ 9 ∧ Bits 90 ks ∧ e.natAbs < 2 ^ 90 ∧
  ∀ q H' us, Same H H' → H q = none → H' q = some (.lst (us.map V.int)) → RtF ks us (fun x => decide (lo ≤ x)) → Q (.ref q) H')
abbrev CT (K : PySem.W.Frag) : Addr := He.ga K "Term"
abbrev CIT (K : PySem.W.Frag) : Value := .ref (He.ga K "InvalidTerm")
abbrev fsT (s : Int) (f q : Addr) : List (Str × L2.V) := [("start", .int s), ("first", .ref f), ("ratio", .ref q)]
/-- a term -/
def TmA (K : PySem.W.Frag) (H : Hp) (t : Addr) (s n d : Int) (as : List Int) (a : Int) (bs : List Int) (b : Int) : Prop := ∃ dt f df q, H t = some (.ins (CT K) dt (fsT s f q)) ∧ H f = some (.ins (CF K) df (fsF n d)) ∧ QuA K H q as a bs b
theorem TmA.mono {K : PySem.W.Frag} {H H' : Hp} {t : Addr} {s n d : Int} {as bs : List Int} {a b : Int} (h : TmA K H t s n d as a bs b) (m : Same H H') : TmA K H' t s n d as a bs b := by
  obtain ⟨dt, f, df, q, h1, h2, h3⟩ := h
  exact ⟨dt, f, df, q, m _ _ h1, m _ _ h2, h3.mono m⟩
/-- what the roots of a ratio ask -/
structure RtOk (as : List Int) (a : Int) (bs : List Int) (b : Int) : Prop where
  sa : Pq as a as a
  sb : Pq bs b bs b
  bne : bs ≠ []
  la : as.length ≤ 9
  lb : bs.length ≤ 9
  ba : Bits 90 as
  bb : Bits 90 bs
  ga : a.natAbs < 2 ^ 90
  gb : b.natAbs < 2 ^ 90
structure TmOk (s n : Int) (as bs : List Int) : Prop where
  n : n ≠ 0
  a : as ≠ []
  ra : ∀ z, s ≤ z → evL z as ≠ 0
  rb : ∀ z, s ≤ z → evL z bs ≠ 0
def spTmI (K : PySem.W.Frag) : Sp := fun vs H Q E => ∃ (x dx : Addr) (s : Int) (f df : Addr) (n d : Int) (q : Addr) (as : List Int) (a : Int) (bs : List Int) (b : Int), vs = [.ref x, .int s, .ref f, .ref q] ∧ H x = some (.ins (CT K) dx []) ∧ H f = some (.ins (CF K) df (fsF n d)) ∧ QuA K H q as a bs b ∧ RtOk as a bs b ∧
  (¬ TmOk s n as bs → ∀ H', Same H H' → E (CIT K) none H') ∧
  (TmOk s n as bs → ∀ H', SameB x H H' → H' x = some (.ins (CT K) dx (fsT s f q)) → Q .non H')
def mkTm (K : PySem.W.Frag) (dvs : List V) : List V → Hp → VK → Prop := fun vs H1 Q => ∃ (s : Int) (f df : Addr) (n d : Int) (q : Addr) (as : List Int) (a : Int) (bs : List Int) (b : Int), vs ++ dvs = [.int s, .ref f, .ref q] ∧ H1 f = some (.ins (CF K) df (fsF n d)) ∧ QuA K H1 q as a bs b ∧ RtOk as a bs b ∧ TmOk s n as bs ∧
  ∀ t H2, Same H1 H2 → H1 t = none → TmA K H2 t s n d as a bs b → Q (.ref t) H2
theorem tm_made {K : PySem.W.Frag} {H1 H' : Hp} {x dx f df q : Addr} {s n d : Int} {as bs : List Int} {a b : Int} (nx : H1 x = none) (nd : H1 dx = none) (hf : H1 f = some (.ins (CF K) df (fsF n d))) (hq : QuA K H1 q as a bs b)
    (sb : SameB x (upd (upd H1 dx (.own x)) x (.ins (CT K) dx [])) H') (hx : H' x = some (.ins (CT K) dx (fsT s f q))) : Same H1 H' ∧ TmA K H' x s n d as a bs b := by
  have s0 : Same H1 (upd (upd H1 dx (.own x)) x (.ins (CT K) dx [])) := same_made0 nx nd
  have sm : Same H1 H' := fun y o hy => sb y o (fun z => by rw [z, nx] at hy; cases hy) (s0 _ _ hy)
  exact ⟨sm, dx, f, df, q, hx, sm _ _ hf, hq.mono sm⟩
theorem mkTm_conv (K : PySem.W.Frag) (dvs : List V) (vs : List V) (H1 : Hp) (Q : VK) (h : mkTm K dvs vs H1 Q) (x dx : Addr) (nx : H1 x = none) (nd : H1 dx = none) (ne : dx ≠ x) :
    spTmI K (.ref x :: (vs ++ dvs)) (upd (upd H1 dx (.own x)) x (.ins (CT K) dx [])) (fun v H2 => v = .non ∧ Q (.ref x) H2) E0 := by
  obtain ⟨s, f, df, n, d, q, as, a, bs, b, ev, hf, hq, r, o, k⟩ := h
  have s0 : Same H1 (upd (upd H1 dx (.own x)) x (.ins (CT K) dx [])) := same_made0 nx nd
  rw [ev]
  refine ⟨x, dx, s, f, df, n, d, q, as, a, bs, b, rfl, upd_same, s0 _ _ hf, hq.mono s0, r, fun z => absurd o z, fun _ H' sb hx => ⟨rfl, ?_⟩⟩
  obtain ⟨sm, ht⟩ := tm_made nx nd hf hq sb hx
  exact k x H' sm nx ht
/-- .. in a try's body -/
def mkTmS (K : PySem.W.Frag) (dvs : List V) (W : WX) : L2.St → List V → Hp → VK → Prop := fun σ vs H1 Q => ∃ (s : Int) (f df : Addr) (n d : Int) (q : Addr) (as : List Int) (a : Int) (bs : List Int) (b : Int), vs ++ dvs = [.int s, .ref f, .ref q] ∧ H1 f = some (.ins (CF K) df (fsF n d)) ∧ QuA K H1 q as a bs b ∧ RtOk as a bs b ∧
  (¬ TmOk s n as bs → ∀ H2, Same H1 H2 → W (CIT K) none σ H2) ∧
  (TmOk s n as bs → ∀ t H2, Same H1 H2 → H1 t = none → TmA K H2 t s n d as a bs b → Q (.ref t) H2)
theorem rtF_none {ks us : List Int} {s : Int} (R : RtF ks us (fun x => decide (s ≤ x))) (z : ¬ (0 : Int) < ((us.map V.int).length : Int)) (x : Int) (hx : s ≤ x) : evL x ks ≠ 0 := fun e => by
  have m := (R.mem x).mpr ⟨decide_eq_true hx, e⟩
  rw [len_map] at z
  have := List.length_pos_iff.mpr (fun w : us = [] => by rw [w] at m; cases m)
  omega
theorem rtF_some {ks us : List Int} {s : Int} (R : RtF ks us (fun x => decide (s ≤ x))) (z : (0 : Int) < ((us.map V.int).length : Int)) : ∃ x, s ≤ x ∧ evL x ks = 0 := by
  rw [len_map] at z
  cases us with
  | nil => exact absurd z (by simp)
  | cons x r =>
    obtain ⟨h1, h2⟩ := (R.mem x).mp (List.mem_cons_self ..)
    exact ⟨x, of_decide_eq_true h1, h2⟩
/-- the sizes of a term whose values are asked up to n steps behind its start -/
structure TvOk (s n d : Int) (as : List Int) (a : Int) (bs : List Int) (b : Int) (kb xb L m : Nat) : Prop where
  lw : Lw kb n d
  ba : Bits kb as
  bb : Bits kb bs
  ga : a.natAbs < 2 ^ kb
  gb : b.natAbs < 2 ^ kb
  ap : 0 < a
  la : as.length ≤ L
  lb : bs.length ≤ L
  rb : ∀ z, s ≤ z → evL z bs ≠ 0
  sx : ∀ i : Nat, i < m → (s + (i : Int)).natAbs < 2 ^ xb
  s60 : s.natAbs < 2 ^ 59
  m900 : m ≤ 900
  sz : (2 * kb + (xb + 1) * (L + 1) + 4) * m + kb + 2 ≤ 8000
  k8 : 2 * kb + (xb + 1) * (L + 1) + 4 ≤ 100000
theorem TvOk.mono {s n d : Int} {as bs : List Int} {a b : Int} {kb xb L m m' : Nat} (h : TvOk s n d as a bs b kb xb L m) (l : m' ≤ m) : TvOk s n d as a bs b kb xb L m' := by
  refine ⟨h.lw, h.ba, h.bb, h.ga, h.gb, h.ap, h.la, h.lb, h.rb, fun i hi => h.sx i (by omega), h.s60, by have := h.m900; omega, ?_, h.k8⟩
  have := h.sz
  have : (2 * kb + (xb + 1) * (L + 1) + 4) * m' ≤ (2 * kb + (xb + 1) * (L + 1) + 4) * m := Nat.mul_le_mul_left _ l
  omega
theorem TvOk.stb {s n d : Int} {as bs : List Int} {a b : Int} {kb xb L m : Nat} (h : TvOk s n d as a bs b kb xb L m) : StB (2 * kb + (xb + 1) * (L + 1) + 4) (stL as a bs b s m) := by
  have la := h.la
  have lb := h.lb
  refine ⟨fun p hp => ?_, fun p hp => ?_⟩
  · obtain ⟨i, hi, rfl⟩ := stL_mem hp
    have m1 : (xb + 1) * as.length ≤ (xb + 1) * (L + 1) := Nat.mul_le_mul_left _ (by omega)
    exact abs_mono (abs_lt_mul (evL_bits (h.sx i hi) h.ba.all) h.gb) (by omega)
  · obtain ⟨i, hi, rfl⟩ := stL_mem hp
    have m1 : (xb + 1) * bs.length ≤ (xb + 1) * (L + 1) := Nat.mul_le_mul_left _ (by omega)
    exact abs_mono (abs_lt_mul (evL_bits (h.sx i hi) h.bb.all) h.ga) (by omega)
theorem TvOk.nz {s n d : Int} {as bs : List Int} {a b : Int} {kb xb L m : Nat} (h : TvOk s n d as a bs b kb xb L m) : prB (stL as a bs b s m) ≠ 0 := prB_nz fun p hp => by
  obtain ⟨i, hi, rfl⟩ := stL_mem hp
  have := h.ap
  exact Int.mul_ne_zero (h.rb _ (by omega)) (by omega)
def spPAt (K : PySem.W.Frag) : Sp := fun vs H Q _ => ∃ (a : Addr) (ks : List Int) (e x : Int) (k j : Nat), vs = [.ref a, .int x] ∧ PoA K H a ks e ∧ 0 < e ∧ e.natAbs < 2 ^ 8000 ∧ Bits k ks ∧ x.natAbs < 2 ^ j ∧ k + (j + 1) * (ks.length + 1) ≤ 900000 ∧ RF K H Q (Fq (evL x ks) e)
abbrev spPoleI (K : PySem.W.Frag) : Sp := spExI K (He.ga K "Pole") "where"
def spQAt (K : PySem.W.Frag) : Sp := fun vs H Q E => ∃ (q : Addr) (as : List Int) (a : Int) (bs : List Int) (b x : Int) (k j : Nat), vs = [.ref q, .int x] ∧ QuA K H q as a bs b ∧ 0 < a ∧ 0 < b ∧ a.natAbs < 2 ^ k ∧ b.natAbs < 2 ^ k ∧ Bits k as ∧ Bits k bs ∧ x.natAbs < 2 ^ j ∧ as.length ≤ 20 ∧ bs.length ≤ 20 ∧ k + (j + 1) * 21 ≤ 7000 ∧
  (evL x bs = 0 → ∀ H' d, Same H H' → H d = none → H' d = some (.xd [("where", .int x)]) → E (.ref (He.ga K "Pole")) (some d) H') ∧ (evL x bs ≠ 0 → RF K H Q (Fq (evL x as * b) (a * evL x bs)))
abbrev spBeforeStartI (K : PySem.W.Frag) : Sp := spExI K (He.ga K "BeforeStart") "index"
def spStp (K : PySem.W.Frag) : Sp := fun vs H Q _ => ∃ (q : Addr) (as : List Int) (a : Int) (bs : List Int) (b lo hi : Int) (kb xb L : Nat), vs = [.ref q, .int lo, .int hi] ∧ QuA K H q as a bs b ∧ Bits kb as ∧ Bits kb bs ∧ a.natAbs < 2 ^ kb ∧ b.natAbs < 2 ^ kb ∧ as.length ≤ L ∧ bs.length ≤ L ∧ (∀ i : Nat, i < (hi - lo).toNat → (lo + (i : Int)).natAbs < 2 ^ xb) ∧ 2 * kb + (xb + 1) * (L + 1) + 4 ≤ 100000 ∧ lo.natAbs < 2 ^ 60 ∧ hi.natAbs < 2 ^ 60 ∧ (hi - lo).toNat ≤ 900 ∧
  ∀ p H' xs, Same H H' → H p = none → H' p = some (.lst xs) → StL H' xs (stL as a bs b lo (hi - lo).toNat) → Q (.ref p) H'
def spPrd (K : PySem.W.Frag) (j : Nat) : Sp := fun vs H Q _ => ∃ (a : Addr) (xs : List V) (ps : List (Int × Int)) (S : Nat), vs = [.ref a] ∧ SqL K H a xs ∧ StL H xs ps ∧ StB S ps ∧ ps.length ≤ 2 ^ j ∧ j ≤ 10 ∧ S * ps.length ≤ 400000 ∧
  ∀ t H', Same H H' → H' t = some (.tup [.int (prA ps), .int (prB ps)]) → Q (.ref t) H'
abbrev spPrd0 (K : PySem.W.Frag) : Sp := spPrd K 10
def spTmV (K : PySem.W.Frag) : Sp := fun vs H Q E => ∃ (t : Addr) (s n d : Int) (as : List Int) (a : Int) (bs : List Int) (b k : Int) (kb xb L : Nat), vs = [.ref t, .int k] ∧ TmA K H t s n d as a bs b ∧ TvOk s n d as a bs b kb xb L (k - s).toNat ∧
  (k < s → ∀ H' dd, Same H H' → H dd = none → H' dd = some (.xd [("index", .int k)]) → E (.ref (He.ga K "BeforeStart")) (some dd) H') ∧ (s ≤ k → RF K H Q (Fq (n * prA (stL as a bs b s (k - s).toNat)) (d * prB (stL as a bs b s (k - s).toNat))))
def spNeg (K : PySem.W.Frag) : Sp := fun vs H Q _ => ∃ (a da : Addr) (n1 d1 : Int), vs = [.ref a] ∧ H a = some (.ins (CF K) da (fsF n1 d1)) ∧ RF K H Q (fun n d => n = -n1 ∧ d = d1)
def spAdd (K : PySem.W.Frag) : Sp := fun vs H Q _ => ∃ (a b da db : Addr) (n1 d1 n2 d2 : Int) (k : Nat), vs = [.ref a, .ref b] ∧ H a = some (.ins (CF K) da (fsF n1 d1)) ∧ H b = some (.ins (CF K) db (fsF n2 d2)) ∧ Lw k n1 d1 ∧ Lw k n2 d2 ∧ k ≤ 8000 ∧
  RF K H Q (Fq (n1 * d2 + n2 * d1) (d1 * d2))
def spSub (K : PySem.W.Frag) : Sp := fun vs H Q _ => ∃ (a b da db : Addr) (n1 d1 n2 d2 : Int) (k : Nat), vs = [.ref a, .ref b] ∧ H a = some (.ins (CF K) da (fsF n1 d1)) ∧ H b = some (.ins (CF K) db (fsF n2 d2)) ∧ Lw k n1 d1 ∧ Lw k n2 d2 ∧ k ≤ 8000 ∧
  RF K H Q (Fq (n1 * d2 - n2 * d1) (d1 * d2))
theorem lw_neg {k : Nat} {n d : Int} (l : Lw k n d) : Lw k (-n) d := ⟨l.pos, (fq_neg l.pos l.cop).cop, by rw [Int.natAbs_neg]; exact l.bn, l.bd⟩
/-- a product of two fractions that are known otherwise -/
theorem fq_pro {A B V W y z v w p q : Int} (f1 : Fq A B y z) (f2 : Fq V W v w) (f : Fq (y * v) (z * w) p q) : Fq (A * V) (B * W) p q := by
  have p1 := f1.pos
  have p2 := f2.pos
  refine f.conv (Int.mul_ne_zero (by omega) (by omega)) ?_
  have e1 := f1.eq
  have e2 := f2.eq
  calc y * v * (B * W) = (y * B) * (v * W) := by ac_rfl
    _ = (A * z) * (V * w) := by rw [e1, e2]
    _ = A * V * (z * w) := by ac_rfl
theorem fq_dif {A B V W y z v w p q : Int} (f1 : Fq A B y z) (f2 : Fq V W v w) (f : Fq (y * w - v * z) (z * w) p q) : Fq (A * W - V * B) (B * W) p q := by
  have p1 := f1.pos
  have p2 := f2.pos
  refine f.conv (Int.mul_ne_zero (by omega) (by omega)) ?_
  have e1 := f1.eq
  have e2 := f2.eq
  have a : (y * w - v * z) * (B * W) = (y * B) * (w * W) - (v * W) * (z * B) := by grind
  rw [a, e1, e2]
  grind
theorem fq_lw {n d a b : Int} {k : Nat} (f : Fq n d a b) (d0 : d ≠ 0) (hn : n.natAbs < 2 ^ k) (hd : d.natAbs < 2 ^ k) : Lw k a b := ⟨f.pos, f.cop, Nat.lt_of_le_of_lt (f.num_le d0) hn, Nat.lt_of_le_of_lt (f.den_le d0) hd⟩
/-- the sizes of a closed form that is asked at the start and behind the last -/
structure CvOk (s x : Int) (cs : List Int) (c : Int) (ds : List Int) (e : Int) (ky j : Nat) : Prop where
  c0 : 0 < c
  e0 : 0 < e
  gc : c.natAbs < 2 ^ ky
  ge : e.natAbs < 2 ^ ky
  bc : Bits ky cs
  bd : Bits ky ds
  sj : s.natAbs < 2 ^ j
  xj : x.natAbs < 2 ^ j
  lc : cs.length ≤ 20
  ld : ds.length ≤ 20
  sz : 2 * ky + (j + 1) * 21 ≤ 2000
  n0 : evL s ds ≠ 0
  n1 : evL x ds ≠ 0
theorem CvOk.at_ {s x : Int} {cs ds : List Int} {c e : Int} {ky j : Nat} (h : CvOk s x cs c ds e ky j) {z y w : Int} (hz : z.natAbs < 2 ^ j) (nz : evL z ds ≠ 0) (f : Fq (evL z cs * e) (c * evL z ds) y w) : Lw 2000 y w := by
  have lc := h.lc
  have ld := h.ld
  have sz := h.sz
  have c0 := h.c0
  have m1 : (j + 1) * cs.length ≤ (j + 1) * 20 := Nat.mul_le_mul_left _ lc
  have m2 : (j + 1) * ds.length ≤ (j + 1) * 20 := Nat.mul_le_mul_left _ ld
  exact fq_lw f (Int.mul_ne_zero (by omega) nz) (abs_mono (abs_lt_mul (evL_bits hz h.bc.all) h.ge) (by omega)) (abs_mono (abs_lt_mul h.gc (evL_bits hz h.bd.all)) (by omega))
theorem TvOk.lw5 {s n d : Int} {as bs : List Int} {a b : Int} {kb xb L m : Nat} {v w : Int} (h : TvOk s n d as a bs b kb xb L m) (s5 : (2 * kb + (xb + 1) * (L + 1) + 4) * m + kb + 2 ≤ 5000) (f : Fq (n * prA (stL as a bs b s m)) (d * prB (stL as a bs b s m)) v w) : Lw 5000 v w := by
  have stb := h.stb
  have sl := stL_len as a bs b s m
  have x1 := prA_bits stb.a
  have x2 := prB_bits stb.b
  rw [sl] at x1 x2
  exact fq_lw f (Int.mul_ne_zero h.lw.ne h.nz) (abs_mono (abs_lt_mul h.lw.bn x1) (by omega)) (abs_mono (abs_lt_mul h.lw.bd x2) (by omega))
theorem Lw.mul {k l : Nat} {y z v w p q : Int} (h : Lw k y z) (g : Lw l v w) (f : Fq (y * v) (z * w) p q) : Lw (k + l) p q := fq_lw f (Int.mul_ne_zero h.ne g.ne) (abs_lt_mul h.bn g.bn) (abs_lt_mul h.bd g.bd)
def spCV (K : PySem.W.Frag) : Sp := fun vs H Q _ => ∃ (t : Addr) (s n d : Int) (as : List Int) (a : Int) (bs : List Int) (b : Int) (y : Addr) (cs : List Int) (c : Int) (ds : List Int) (e x : Int) (kb xb L ky j : Nat), vs = [.ref t, .ref y, .int (x - 1)] ∧ TmA K H t s n d as a bs b ∧ QuA K H y cs c ds e ∧ TvOk s n d as a bs b kb xb L (x - s).toNat ∧ (2 * kb + (xb + 1) * (L + 1) + 4) * (x - s).toNat + kb + 2 ≤ 5000 ∧ s ≤ x ∧ CvOk s x cs c ds e ky j ∧
  RF K H Q (Fq (evL x cs * e * (n * prA (stL as a bs b s (x - s).toNat)) * (c * evL s ds * d) - evL s cs * e * n * (c * evL x ds * (d * prB (stL as a bs b s (x - s).toNat)))) (c * evL x ds * (d * prB (stL as a bs b s (x - s).toNat)) * (c * evL s ds * d)))
def spLAtL (K : PySem.W.Frag) : Sp := fun vs H Q _ => ∃ (a : Addr) (cs : List Int) (x : Int) (k j : Nat), vs = [.ref a, .int x] ∧ SqL K H a (cs.map V.int) ∧ Bits k cs ∧ x.natAbs < 2 ^ j ∧ k + (j + 1) * (cs.length + 1) ≤ 900000 ∧ Q (.int (evL x cs)) H
/-- the values: numerator, denominator; the sum's numerator and denominator -/
def ttN (X : Nat → Int) (f : Int) : Nat → Int
  | 0 => f
  | i + 1 => ttN X f i * X i
def ttD (N D : Nat → Int) : Nat → Int
  | 0 => 1
  | i + 1 => ttD N D i * D i
def ttS (N D : Nat → Int) : Nat → Int
  | 0 => 0
  | i + 1 => ttS N D i * D i + N i * ttD N D i
theorem ttN_bits {X : Nat → Int} {f : Int} {S : Nat} (hf : f.natAbs < 2 ^ S) (hX : ∀ i, i < 20 → (X i).natAbs < 2 ^ S) : ∀ i, i ≤ 20 → (ttN X f i).natAbs < 2 ^ (S * (i + 1))
  | 0, _ => by rw [Nat.mul_one]; exact hf
  | i + 1, h => by
    rw [Nat.mul_add, Nat.mul_one]
    exact abs_lt_mul (ttN_bits hf hX i (by omega)) (hX i (by omega))
theorem ttD_bits {N D : Nat → Int} {S : Nat} (hD : ∀ i, i < 20 → (D i).natAbs < 2 ^ (S * 20)) : ∀ i, i ≤ 20 → (ttD N D i).natAbs < 2 ^ (S * 20 * i + 1)
  | 0, _ => by show 1 < 2 ^ (S * 20 * 0 + 1); rw [Nat.mul_zero]; decide
  | i + 1, h => by
    have := abs_lt_mul (ttD_bits (N := N) hD i (by omega)) (hD i (by omega))
    rw [Nat.mul_add, Nat.mul_one]
    exact abs_mono this (by omega)
theorem ttS_bits {N D : Nat → Int} {S : Nat} (hN : ∀ i, i < 20 → (N i).natAbs < 2 ^ (S * 20)) (hD : ∀ i, i < 20 → (D i).natAbs < 2 ^ (S * 20)) : ∀ i, i ≤ 20 → (ttS N D i).natAbs < 2 ^ ((S * 20 + 1) * i + 1)
  | 0, _ => by show 0 < 2 ^ ((S * 20 + 1) * 0 + 1); rw [Nat.mul_zero]; decide
  | i + 1, h => by
    have a := abs_lt_mul (ttS_bits hN hD i (by omega)) (hD i (by omega))
    have b := abs_lt_mul (hN i (by omega)) (ttD_bits (N := N) hD i (by omega))
    have e : (S * 20 + 1) * (i + 1) + 1 = ((S * 20 + 1) * i + 1 + S * 20) + 1 := by rw [Nat.mul_add]; omega
    have b2 := abs_mono (b := (S * 20 + 1) * i + 1 + S * 20) b (by rw [Nat.add_mul]; omega)
    rw [e, Nat.pow_succ]
    show (ttS N D i * D i + N i * ttD N D i).natAbs < _
    omega
def spLTot (K : PySem.W.Frag) : Sp := fun vs H Q _ => ∃ (pf pp p0 p1 : Addr) (f1 f2 : Int) (xs : List Int) (dx : Int) (ys : List Int) (dy s x : Int) (kb jb : Nat), vs = [.ref pf, .ref pp, .int s, .int (x - 1)] ∧ H pf = some (.tup [.int f1, .int f2]) ∧ H pp = some (.lst [.ref p0, .ref p1]) ∧ PtA H p0 xs dx ∧ PtA H p1 ys dy ∧
  Bits kb xs ∧ Bits kb ys ∧ dx.natAbs < 2 ^ kb ∧ dy.natAbs < 2 ^ kb ∧ f1.natAbs < 2 ^ kb ∧ f2.natAbs < 2 ^ kb ∧ xs.length ≤ 20 ∧ ys.length ≤ 20 ∧ s.natAbs < 2 ^ 20 ∧ s ≤ x ∧ x ≤ s + 19 ∧ kb ≤ 100 ∧ jb = 22 ∧
  ∀ q H', Same H H' → H q = none → H' q = some (.tup [.int (ttS (ttN (fun i => evL (s + i) xs * dy) f1) (ttN (fun i => dx * evL (s + i) ys) f2) (x - s).toNat), .int (ttD (ttN (fun i => evL (s + i) xs * dy) f1) (ttN (fun i => dx * evL (s + i) ys) f2) (x - s).toNat)]) → Q (.ref q) H'
theorem qn_of {N M ks js as bs : List Int} {d e ek f α β : Int} (p1 : Pq N d ks ek) (p2 : Pq M e js f) (d0 : d ≠ 0) (e0 : e ≠ 0) (t : QtR ks ek js f as α bs β) : Qn (cf (cst e) (ff N)) (cf (cst d) (ff M)) as α bs β := by
  refine Qn.of_at t.sa t.sb t.bne t.mon t.cop fun i => ?_
  have k0 : ek ≠ 0 := by have := p1.pos; omega
  have f0 : f ≠ 0 := by have := p2.pos; omega
  have h1 : cf (cst d) (ff ks) = cf (cst ek) (ff N) := funext fun i => by
    rw [cst_cf, cst_cf]
    have := p1.eq i
    show d * ks.getD i 0 = ek * N.getD i 0
    rw [Int.mul_comm, this, Int.mul_comm]
  have h2 : cf (cst e) (ff js) = cf (cst f) (ff M) := funext fun i => by
    rw [cst_cf, cst_cf]
    have := p2.eq i
    show e * js.getD i 0 = f * M.getD i 0
    rw [Int.mul_comm, this, Int.mul_comm]
  have h3 : cf (cst (ek * β)) (cf (ff as) (ff js)) = cf (cst (α * f)) (cf (ff ks) (ff bs)) := funext fun i => by
    rw [cst_cf, cst_cf]
    have := t.eq i
    rw [cv_cf, cv_cf] at this
    show ek * β * cf (ff as) (ff js) i = α * f * cf (ff ks) (ff bs) i
    rw [Int.mul_comm, this, Int.mul_comm]
  have key : cf (cst (ek * f)) (cf (cst β) (cf (ff as) (cf (cst d) (ff M)))) = cf (cst (ek * f)) (cf (cst α) (cf (cf (cst e) (ff N)) (ff bs))) := by
    rw [← cst_mul] at h3 ⊢
    rw [← cst_mul] at h3
    calc cf (cf (cst ek) (cst f)) (cf (cst β) (cf (ff as) (cf (cst d) (ff M)))) = cf (cst d) (cf (cst ek) (cf (cst β) (cf (ff as) (cf (cst f) (ff M))))) := by ac_rfl
      _ = cf (cst d) (cf (cst ek) (cf (cst β) (cf (ff as) (cf (cst e) (ff js))))) := by rw [h2]
      _ = cf (cf (cst d) (cst e)) (cf (cf (cst ek) (cst β)) (cf (ff as) (ff js))) := by ac_rfl
      _ = cf (cf (cst d) (cst e)) (cf (cf (cst α) (cst f)) (cf (ff ks) (ff bs))) := by rw [h3]
      _ = cf (cst e) (cf (cst α) (cf (cst f) (cf (cf (cst d) (ff ks)) (ff bs)))) := by ac_rfl
      _ = cf (cst e) (cf (cst α) (cf (cst f) (cf (cf (cst ek) (ff N)) (ff bs)))) := by rw [h1]
      _ = cf (cf (cst ek) (cst f)) (cf (cst α) (cf (cf (cst e) (ff N)) (ff bs))) := by ac_rfl
  have z := congrFun key i
  rw [cst_cf (ek * f), cst_cf (ek * f), cst_cf β, cst_cf α] at z
  have z2 : ek * f * (β * cf (ff as) (cf (cst d) (ff M)) i) = ek * f * (α * cf (cf (cst e) (ff N)) (ff bs) i) := z
  have z3 := Int.eq_of_mul_eq_mul_left (Int.mul_ne_zero k0 f0) z2
  rw [Int.mul_comm, z3, Int.mul_comm]
theorem pq_upT {X ks : List Int} {d e : Int} {n : Nat} (q : Pq X d ks e) (d0 : d ≠ 0) (up : ∀ i, n ≤ i → X.getD i 0 = 0) : ks.length ≤ n := by
  refine Decidable.byContradiction fun c => ?_
  rcases q.last with z | z
  · rw [z] at c; exact c (Nat.zero_le _)
  · have w := q.eq (ks.length - 1)
    rw [up _ (by omega), Int.zero_mul] at w
    rcases Int.mul_eq_zero.mp w with w | w
    · exact z w
    · exact d0 w
theorem pq_neT {X ks : List Int} {d e : Int} (q : Pq X d ks e) {i : Nat} (h : X.getD i 0 ≠ 0) : ks ≠ [] := fun z => by
  have w := q.eq i
  rw [z] at w
  have w2 : (0 : Int) * d = X.getD i 0 * e := w
  rw [Int.zero_mul] at w2
  have := q.pos
  rcases Int.mul_eq_zero.mp w2.symm with y | y
  · exact h y
  · omega
/-- the sizes that a quotient of lengths up to 6 wants -/
theorem mk_okT {ks js : List Int} {e f : Int} {k : Nat} (bk : Bits k ks) (bj : Bits k js) (lk : ks.length ≤ 6) (lj : js.length ≤ 6) (tk : ks = [] ∨ ks.getD (ks.length - 1) 0 ≠ 0) (tj : js = [] ∨ js.getD (js.length - 1) 0 ≠ 0) (jne : js ≠ []) (eb : e.natAbs < 2 ^ k) (fb : f.natAbs < 2 ^ k) (hk : k ≤ 80) : QuOk ks e js f k (11 * k + 80) (k + 33) := by
  have d1 : ∀ t, t ≤ 6 → dvB (k + 33) t + (k + 33) ≤ 3990 := fun t ht => by
    have := dvB_le (k := k + 33) ht
    have e : dvB (k + 33) 6 = k + 33 + 1 + (k + 33 + 1) * 6 := rfl
    omega
  refine ⟨⟨bk, bj, by omega, by omega, fun kne jne => ?_, by omega, by omega⟩, fun ms g G => bits_of_at fun i => ?_, by omega, abs_mono eb (by omega), abs_mono fb (by omega), d1 _ lk, d1 _ lj⟩
  · obtain ⟨e, m, E, D, B⟩ := euclid_small (dgl (tk.resolve_left kne)) (dgl (tj.resolve_left jne)) bk.getD bj.getD (by omega)
    refine ⟨e, (k + 5) * 10 + k, m, E, D, B.mono ?_, by omega⟩
    have : (k + 5) * (ks.length - 1 + (js.length - 1)) ≤ (k + 5) * 10 := Nat.mul_le_mul_left _ (by omega)
    omega
  · obtain ⟨mne, gm⟩ := G.mon (.inr jne)
    have jt := tj.resolve_left jne
    have mt : ms.getD (ms.length - 1) 0 ≠ 0 := G.self.last.resolve_left mne
    have le := G.dj.deg (dgl mt) (dgl jt)
    refine Nat.lt_of_le_of_lt (Nat.le_trans (monic_bits G.self mne gm (dgl jt) (H := 2 ^ k) (fun i => Nat.le_of_lt (bj.getD i)) (by omega) G.dj i) (le_mono3 (t := 0) (show js.length - 1 ≤ 5 by omega) (show ms.length - 1 ≤ 5 by omega))) ?_
    have : sg 6 (5 + 1) * 14 ^ 5 < 2 ^ 33 := by decide
    rw [Nat.pow_add, Nat.mul_assoc]
    exact Nat.mul_lt_mul_of_pos_left this (Nat.pow_pos (by decide))
theorem fq_nz {n d a b : Int} (f : Fq n d a b) (n0 : n ≠ 0) : a ≠ 0 := fun z => by
  have e := f.eq
  have p := f.pos
  rw [z, Int.zero_mul] at e
  rcases Int.mul_eq_zero.mp e.symm with y | y
  · exact n0 y
  · omega
theorem evL_zero {xs : List Int} (h : ∀ i, xs.getD i 0 = 0) (z : Int) : evL z xs = 0 := by
  have a := evLp z xs
  have e : pl xs = 0 := PS.ext (funext fun i => by rw [ps_zero_f]; exact h i)
  rw [e] at a
  exact a.uniq (Ev.pc 0 z)

def scL (c : Int) (xs : List Int) : List Int := xs.map (c * ·)
theorem ff_sc (c : Int) (xs : List Int) : ff (scL c xs) = cf (cst c) (ff xs) := funext fun i => by
  rw [cst_cf]
  show (xs.map (c * ·)).getD i 0 = c * xs.getD i 0
  rw [List.getD_eq_getElem?_getD, List.getD_eq_getElem?_getD, List.getElem?_map]
  cases xs[i]? with
  | none => show (0 : Int) = c * 0; rw [Int.mul_zero]
  | some x => rfl
theorem sc_at (c : Int) (xs : List Int) (i : Nat) : (scL c xs).getD i 0 = c * xs.getD i 0 := by
  have := congrFun (ff_sc c xs) i
  rw [cst_cf] at this
  exact this
theorem ev_sc0 (c : Int) (xs : List Int) (z : Int) : evL z (scL c xs) = c * evL z xs := by
  have a1 := evLp z (scL c xs)
  rw [show pl (scL c xs) = pc c * pl xs from PS.ext (ff_sc c xs)] at a1
  exact a1.uniq ((Ev.pc c z).mul (evLp z xs))
theorem ev_tfm {zs xs ys : List Int} (t : Tf zs (cv xs ys)) (z : Int) : evL z zs = evL z xs * evL z ys := by
  have a1 := evLp z zs
  rw [show pl zs = pl xs * pl ys from PS.ext (funext fun i => by
    show zs.getD i 0 = cf (ff xs) (ff ys) i
    rw [t.at_, cv_cf])] at a1
  exact a1.uniq ((evLp z xs).mul (evLp z ys))
theorem ev_tfa {us xs ys : List Int} {d e : Int} (t : Tf us (fun i => e * xs.getD i 0 + d * ys.getD i 0)) (z : Int) : evL z us = e * evL z xs + d * evL z ys := by
  have a1 := evLp z us
  have e1 : pl us = pc e * pl xs + pc d * pl ys := PS.ext (funext fun i => by
    show us.getD i 0 = cf (cst e) (ff xs) i + cf (cst d) (ff ys) i
    rw [t.at_, cst_cf, cst_cf])
  rw [e1] at a1
  exact a1.uniq (((Ev.pc e z).mul (evLp z xs)).add ((Ev.pc d z).mul (evLp z ys)))
theorem cf_le3 {xs ys : List Int} {A B : Nat} (h1 : xs.length ≤ 3) (hx : ∀ i, (xs.getD i 0).natAbs ≤ A) (hy : ∀ i, (ys.getD i 0).natAbs ≤ B) (i : Nat) : (cv xs ys i).natAbs ≤ 3 * (A * B) := by
  have : ∀ n, (cvS xs ys n i).natAbs ≤ n * (A * B) := fun n => by
    induction n with
    | zero => exact Nat.le_of_eq (by rw [Nat.zero_mul]; rfl)
    | succ n ih =>
      have m : (xs.getD n 0 * ys.getD (i - n) 0).natAbs ≤ A * B := by rw [Int.natAbs_mul]; exact Nat.mul_le_mul (hx n) (hy _)
      show (cvS xs ys n i + _).natAbs ≤ _
      rw [Nat.succ_mul]
      split <;> omega
  exact Nat.le_trans (this xs.length) (Nat.mul_le_mul_right _ h1)
theorem sh3_le {zs xs : List Int} {M : Nat} (h : IsSh 1 zs xs) (l : xs.length ≤ 3) (m : ∀ i, (xs.getD i 0).natAbs ≤ M) (i : Nat) : (zs.getD i 0).natAbs ≤ 3 * M := by
  rw [h.at_, ← shV_list l]
  have m0 := m 0
  have m1 := m 1
  have m2 := m 2
  show (0 + xs.getD 0 0 * pw 1 0 i + xs.getD 1 0 * pw 1 1 i + xs.getD 2 0 * pw 1 2 i).natAbs ≤ 3 * M
  rcases i with _ | _ | _ | i
  · show (0 + xs.getD 0 0 * 1 + xs.getD 1 0 * 1 + xs.getD 2 0 * 1).natAbs ≤ 3 * M
    omega
  · show (0 + xs.getD 0 0 * 0 + xs.getD 1 0 * 1 + xs.getD 2 0 * 2).natAbs ≤ 3 * M
    omega
  · show (0 + xs.getD 0 0 * 0 + xs.getD 1 0 * 0 + xs.getD 2 0 * 1).natAbs ≤ 3 * M
    omega
  · rw [pw_high 1 0 (i + 3) (by omega), pw_high 1 1 (i + 3) (by omega), pw_high 1 2 (i + 3) (by omega)]
    omega
/-- what is known of the ratio -/
structure RaF (xs : List Int) (d : Int) (ys : List Int) (e : Int) (zs : List Int) (g : Int) (ws : List Int) (h : Int) : Prop where
  zup : Fz (ff zs) 5
  wup : Fz (ff ws) 5
  zsz : ∀ i, (zs.getD i 0).natAbs ≤ 167215104
  wsz : ∀ i, (ws.getD i 0).natAbs ≤ 27869184
  h0 : 0 < h
  g0 : 0 < g
  hz : h ≤ 756
  gz : g ≤ 2268
  nz : ∀ z, 10 ≤ z → evL z zs ≠ 0
  nw : ∀ z, 10 ≤ z → evL z ws ≠ 0
  id_ : ∀ z, 10 ≤ z → evL z zs * h * (e * evL (z + 1) xs) * (d * evL z ys) = g * evL z ws * (d * evL (z + 1) ys) * (e * evL z xs + d * evL z ys)
theorem raF {xs : List Int} {d : Int} {ys : List Int} {e : Int} {zs : List Int} {g : Int} {ws : List Int} {h : Int} {us xs1 ys1 : List Int} (C : CfP xs d ys e) (R : RtP xs d ys e zs g ws h us xs1 ys1) : RaF xs d ys e zs g ws h := by
  have d0 := C.d0
  have e0 := C.e0
  have dz := C.dz
  have ez := C.ez
  have lx := C.lx
  have ly := C.ly
  have x1l := R.ix.len
  have y1l := R.iy.len
  have ee : e * e ≤ 9 := Int.mul_le_mul ez ez (by omega) (by decide) 
  have ee0 : 0 < e * e := Int.mul_pos e0 e0
  have us_ : ∀ i, (us.getD i 0).natAbs ≤ 96768 := fun i => by
    rw [R.u.at_]
    have a := C.xz i
    have b := C.yz i
    have a2 : (e * xs.getD i 0).natAbs ≤ 3 * 16128 := by rw [Int.natAbs_mul]; exact Nat.mul_le_mul (by omega) a
    have b2 : (d * ys.getD i 0).natAbs ≤ 252 * 192 := by rw [Int.natAbs_mul]; exact Nat.mul_le_mul (by omega) b
    omega
  have ul : us.length ≤ 3 := R.u.len (n := 3) fun i hi => by
    show e * xs.getD i 0 + d * ys.getD i 0 = 0
    rw [getD_end (by omega), getD_end (by omega), Int.mul_zero, Int.mul_zero]; rfl
  have evz : ∀ z, evL z zs = (e * evL z xs + d * evL z ys) * evL (z + 1) ys := fun z => by rw [ev_tfm R.z, ev_tfa R.u, evL_sh R.iy]
  have evw : ∀ z, evL z ws = evL z ys * evL (z + 1) xs := fun z => by rw [ev_tfm R.w, evL_sh R.ix]
  refine ⟨fun i hi => ?_, fun i hi => ?_, fun i => ?_, fun i => ?_, ?_, ?_, ?_, ?_, fun z hz => ?_, fun z hz => ?_, fun z hz => ?_⟩
  · show zs.getD i 0 = 0
    rw [R.z.at_, cv_cf]
    exact cf_endT (al := 3) (be := 3) (fun s hs => getD_end (by omega)) (fun s hs => getD_end (by omega)) (by omega)
  · show ws.getD i 0 = 0
    rw [R.w.at_, cv_cf]
    exact cf_endT (al := 3) (be := 3) (fun s hs => getD_end (by omega)) (fun s hs => getD_end (by omega)) (by omega)
  · rw [R.z.at_]
    exact cf_le3 ul us_ (sh3_le R.iy ly C.yz) i
  · rw [R.w.at_]
    exact cf_le3 ly C.yz (sh3_le R.ix lx C.xz) i
  · rw [R.h]; exact Int.mul_pos e0 d0
  · rw [R.g]; exact Int.mul_pos (Int.mul_pos d0 e0) e0
  · rw [R.h]; exact Int.le_trans (Int.mul_le_mul ez dz (by omega) (by decide)) (by decide)
  · rw [R.g, Int.mul_assoc]; exact Int.le_trans (Int.mul_le_mul dz ee (by omega) (by decide)) (by decide)
  · rw [evz]; exact Int.mul_ne_zero (C.ns z hz) (C.ny _ (by omega))
  · rw [evw]; exact Int.mul_ne_zero (C.ny z hz) (C.nx _ (by omega))
  · rw [evz, evw, R.g, R.h]
    generalize evL z xs = p
    generalize evL z ys = r
    generalize evL (z + 1) xs = p1
    generalize evL (z + 1) ys = r1
    calc (e * p + d * r) * r1 * (e * d) * (e * p1) * (d * r) = d * e * e * (r * p1) * (d * r1) * (e * p + d * r) := by ac_rfl
/-- the sum of the values, by the closed form -/
theorem tele {a b X W N D : Nat → Int} {f1 f2 : Int} (hN : N = ttN X f1) (hD : D = ttN W f2) (b0 : ∀ i, b i ≠ 0) (r : ∀ i, X i * a (i + 1) * b i = W i * b (i + 1) * (a i + b i)) : ∀ m, ttS N D m * (b m * D m * (b 0 * D 0)) = (a m * N m * (b 0 * D 0) - a 0 * N 0 * (b m * D m)) * ttD N D m
  | 0 => by
    show 0 * _ = _
    rw [Int.sub_eq_zero.mpr (by ac_rfl), Int.zero_mul, Int.zero_mul]
  | m + 1 => by
    have ih := tele hN hD b0 r m
    have eN : N (m + 1) = N m * X m := by rw [hN]; rfl
    have eD : D (m + 1) = D m * W m := by rw [hD]; rfl
    have rm := r m
    apply Int.eq_of_mul_eq_mul_left (b0 m)
    show b m * ((ttS N D m * D m + N m * ttD N D m) * (b (m + 1) * D (m + 1) * (b 0 * D 0))) = b m * ((a (m + 1) * N (m + 1) * (b 0 * D 0) - a 0 * N 0 * (b (m + 1) * D (m + 1))) * (ttD N D m * D m))
    have l1 : b m * ((ttS N D m * D m + N m * ttD N D m) * (b (m + 1) * D (m + 1) * (b 0 * D 0))) = ttS N D m * (b m * D m * (b 0 * D 0)) * (b (m + 1) * D (m + 1)) + N m * ttD N D m * (b (m + 1) * D (m + 1)) * (b 0 * D 0) * b m := by grind
    rw [l1, ih, eN, eD]
    generalize ttD N D m = P
    generalize N m = n
    generalize D m = q
    generalize X m = x at rm ⊢
    generalize W m = w at rm ⊢
    generalize a (m + 1) = a1 at rm ⊢
    generalize b (m + 1) = b1 at rm ⊢
    generalize a m = am at rm ⊢
    generalize b m = bm at rm ⊢
    generalize b 0 * D 0 = B0
    generalize a 0 * N 0 = A0
    have k1 : bm * ((a1 * (n * x) * B0 - A0 * (b1 * (q * w))) * (P * q)) = (x * a1 * bm) * (n * B0 * P * q) - A0 * b1 * q * w * P * q * bm := by grind
    rw [k1, rm]
    grind
/-- the closed value, in whole numbers -/
theorem cv_fin {CX DX TX UX C0 E0 n d am bm Nm Dm a0 b0 f1 f2 P S : Int} (y1 : CX * bm = DX * am) (y0 : C0 * b0 = E0 * a0) (t1 : TX * Dm = Nm * UX) (t0 : n * f2 = f1 * d) (K0 : bm * Dm * (b0 * f2) ≠ 0) (te : S * (bm * Dm * (b0 * f2)) = (am * Nm * (b0 * f2) - a0 * f1 * (bm * Dm)) * P) :
    (CX * TX * (E0 * d) - C0 * n * (DX * UX)) * P = S * (DX * UX * (E0 * d)) := by
  apply Int.eq_of_mul_eq_mul_left K0
  have r : bm * Dm * (b0 * f2) * (S * (DX * UX * (E0 * d))) = S * (bm * Dm * (b0 * f2)) * (DX * UX * (E0 * d)) := by ac_rfl
  rw [r, te]
  have l : bm * Dm * (b0 * f2) * ((CX * TX * (E0 * d) - C0 * n * (DX * UX)) * P) = (CX * bm) * (TX * Dm) * (E0 * d) * (b0 * f2) * P - (C0 * b0) * (n * f2) * (DX * UX) * (bm * Dm) * P := by grind
  rw [l, y1, t1, y0, t0]
  grind
theorem ttN_prV {xs : List Int} {s c f : Int} : ∀ m, ttN (fun i => evL (s + (i : Int)) xs * c) f m = f * prV (scL c xs) s m
  | 0 => (Int.mul_one f).symm
  | m + 1 => by
    show ttN (fun i => evL (s + (i : Int)) xs * c) f m * (evL (s + (m : Int)) xs * c) = f * (prV (scL c xs) s m * evL (s + m) (scL c xs))
    rw [ttN_prV m, ev_sc0]
    grind
theorem ttN_prV2 {xs : List Int} {s c f : Int} : ∀ m, ttN (fun i => c * evL (s + (i : Int)) xs) f m = f * prV (scL c xs) s m
  | 0 => (Int.mul_one f).symm
  | m + 1 => by
    show ttN (fun i => c * evL (s + (i : Int)) xs) f m * (c * evL (s + (m : Int)) xs) = f * (prV (scL c xs) s m * evL (s + m) (scL c xs))
    rw [ttN_prV2 m, ev_sc0]
    grind
theorem evZ {xs : List Int} {n : Nat} (up : Fz (ff xs) n) (nz : evL 10 xs ≠ 0) : ∃ k, k < n ∧ Dg (ff xs) k := by
  rcases zero_or_dg n up with z | h
  · exact absurd (evL_zero z 10) nz
  · exact h
theorem sc_fz {c : Int} {xs : List Int} {n : Nat} (h : Fz (ff xs) n) : Fz (ff (scL c xs)) n := fun i hi => by
  show (scL c xs).getD i 0 = 0
  rw [sc_at]
  have := h i hi
  show c * ff xs i = 0
  rw [this, Int.mul_zero]
theorem sc_le {c : Int} {xs : List Int} {M k : Nat} (h : ∀ i, (xs.getD i 0).natAbs ≤ M) (hc : c.natAbs ≤ k) (i : Nat) : ((scL c xs).getD i 0).natAbs ≤ k * M := by
  rw [sc_at, Int.natAbs_mul]
  exact Nat.mul_le_mul hc (h i)
structure Rt43 (as : List Int) (a : Int) (bs : List Int) (b : Int) : Prop where
  rt : RtOk as a bs b
  ane : as ≠ []
  nz : ∀ z, 10 ≤ z → evL z as ≠ 0 ∧ evL z bs ≠ 0
  la : as.length ≤ 5
  lb : bs.length ≤ 5
theorem rt43 {xs : List Int} {d : Int} {ys : List Int} {e : Int} {zs : List Int} {g : Int} {ws : List Int} {h : Int} {as : List Int} {a : Int} {bs : List Int} {b : Int} (A : RaF xs d ys e zs g ws h) (q : Qn (ff (scL h zs)) (ff (scL g ws)) as a bs b) : Rt43 as a bs b := by
  have h0 := A.h0
  have g0 := A.g0
  have hz := A.hz
  have gz := A.gz
  have nzs : ∀ z, 10 ≤ z → evL z (scL h zs) ≠ 0 := fun z w => by rw [ev_sc0]; exact Int.mul_ne_zero (by omega) (A.nz z w)
  have nws : ∀ z, 10 ≤ z → evL z (scL g ws) ≠ 0 := fun z w => by rw [ev_sc0]; exact Int.mul_ne_zero (by omega) (A.nw z w)
  obtain ⟨m, m5, D⟩ := evZ (sc_fz A.zup) (nzs 10 (by decide))
  obtain ⟨n, n5, E⟩ := evZ (sc_fz A.wup) (nws 10 (by decide))
  have zl := sc_le A.zsz (show h.natAbs ≤ 756 by omega)
  have wl := sc_le A.wsz (show g.natAbs ≤ 2268 by omega)
  have z := q.sizesF (N := 4) (M := 4) (HX := 756 * 167215104) (HY := 2268 * 27869184) (LX := 756 * 167215104) (LY := 2268 * 27869184) (D.up.mono (by omega)) E (by omega) zl wl (fun i _ => zl i) (wl n) (by decide) (by decide)
  have la := z.la
  have lb := z.lb
  exact ⟨⟨q.sa, q.sb, q.bne, by omega, by omega, bits_of_at fun i => Nat.lt_of_le_of_lt (z.ba i) (by decide), bits_of_at fun i => Nat.lt_of_le_of_lt (z.bb i) (by decide), Nat.lt_of_le_of_lt z.ga (by decide), Nat.lt_of_le_of_lt z.gb (by decide)⟩, fun w => D.top (q.x_zero (ff_fz _) w m), fun x hx => q.nz (nzs x hx) (nws x hx), la, lb⟩
structure Cy43 (cs : List Int) (c : Int) (ds : List Int) (b : Int) : Prop where
  bc : Bits 40 cs
  bd : Bits 40 ds
  gc : c.natAbs < 2 ^ 40
  gb : b.natAbs < 2 ^ 40
  lc : cs.length ≤ 3
  ld : ds.length ≤ 3
  c0 : 0 < c
  b0 : 0 < b
  nz : ∀ z, 10 ≤ z → evL z ds ≠ 0
theorem cy43 {xs : List Int} {d : Int} {ys : List Int} {e : Int} {cs : List Int} {c : Int} {ds : List Int} {b : Int} (C : CfP xs d ys e) (q : Qn (ff (scL e xs)) (ff (scL d ys)) cs c ds b) : Cy43 cs c ds b := by
  have d0 := C.d0
  have e0 := C.e0
  have dz := C.dz
  have ez := C.ez
  have lx := C.lx
  have ly := C.ly
  have nzs : ∀ z, 10 ≤ z → evL z (scL e xs) ≠ 0 := fun z w => by rw [ev_sc0]; exact Int.mul_ne_zero (by omega) (C.nx z w)
  have nws : ∀ z, 10 ≤ z → evL z (scL d ys) ≠ 0 := fun z w => by rw [ev_sc0]; exact Int.mul_ne_zero (by omega) (C.ny z w)
  have xf : Fz (ff xs) 3 := fun i hi => getD_end (by omega)
  have yf : Fz (ff ys) 3 := fun i hi => getD_end (by omega)
  obtain ⟨m, m5, D⟩ := evZ (sc_fz xf) (nzs 10 (by decide))
  obtain ⟨n, n5, E⟩ := evZ (sc_fz yf) (nws 10 (by decide))
  have zl := sc_le C.xz (show e.natAbs ≤ 3 by omega)
  have wl := sc_le C.yz (show d.natAbs ≤ 252 by omega)
  have z := q.sizesF (N := 2) (M := 2) (HX := 3 * 16128) (HY := 252 * 192) (LX := 3 * 16128) (LY := 252 * 192) (D.up.mono (by omega)) E (by omega) zl wl (fun i _ => zl i) (wl n) (by decide) (by decide)
  exact ⟨bits_of_at fun i => Nat.lt_of_le_of_lt (z.ba i) (by decide), bits_of_at fun i => Nat.lt_of_le_of_lt (z.bb i) (by decide), Nat.lt_of_le_of_lt z.ga (by decide), Nat.lt_of_le_of_lt z.gb (by decide), z.la, z.lb, q.sa.pos, q.sb.pos, fun x hx => (q.nz (nzs x hx) (nws x hx)).2⟩
theorem size43 {zs ws : List Int} {s f1 f2 g h : Int} {m : Nat} (bz : Bits 28 zs) (bw : Bits 28 ws) (lz : zs.length ≤ 16) (lw : ws.length ≤ 16) (s10 : 10 ≤ s) (s15 : s ≤ 15) (hf1 : f1.natAbs < 2 ^ 12) (hf2 : f2.natAbs < 2 ^ 12) (hg : g.natAbs < 2 ^ 12) (hh : h.natAbs < 2 ^ 12) (m9 : m ≤ 9) : (ttS (ttN (fun i => evL (s + (i : Int)) zs * h) f1) (ttN (fun i => g * evL (s + (i : Int)) ws) f2) m).natAbs < 2 ^ 40000 ∧ (ttD (ttN (fun i => evL (s + (i : Int)) zs * h) f1) (ttN (fun i => g * evL (s + (i : Int)) ws) f2) m).natAbs < 2 ^ 40000 := by
  have zb : ∀ i : Nat, i < 20 → (s + (i : Int)).natAbs < 2 ^ 6 := fun i hi => by omega
  have ez : ∀ i : Nat, i < 20 → (evL (s + (i : Int)) zs).natAbs < 2 ^ 160 := fun i hi => abs_mono (evL_bits (zb i hi) bz.all) (by omega)
  have ew : ∀ i : Nat, i < 20 → (evL (s + (i : Int)) ws).natAbs < 2 ^ 160 := fun i hi => abs_mono (evL_bits (zb i hi) bw.all) (by omega)
  have nb : ∀ i, i < 20 → (ttN (fun i => evL (s + (i : Int)) zs * h) f1 i).natAbs < 2 ^ (210 * 20) := fun i hi => abs_mono (ttN_bits (S := 200) (abs_mono hf1 (by decide)) (fun i hi => abs_mono (abs_lt_mul (ez i hi) hh) (by decide)) i (by omega)) (by omega)
  have db : ∀ i, i < 20 → (ttN (fun i => g * evL (s + (i : Int)) ws) f2 i).natAbs < 2 ^ (210 * 20) := fun i hi => abs_mono (ttN_bits (S := 200) (abs_mono hf2 (by decide)) (fun i hi => abs_mono (abs_lt_mul hg (ew i hi)) (by decide)) i (by omega)) (by omega)
  exact ⟨abs_mono (ttS_bits nb db m (by omega)) (by omega), abs_mono (ttD_bits (N := ttN (fun i => evL (s + (i : Int)) zs * h) f1) db m (by omega)) (by omega)⟩
structure SzU (Y u v : Int) : Prop where
  nz : Y ≠ 0
  u : u.natAbs < 2 ^ 6000
  v : v.natAbs < 2 ^ 6000
theorem sizeU {s n dn : Int} {as : List Int} {a : Int} {bs : List Int} {b : Int} {cs : List Int} {c : Int} {ds : List Int} {b2 u v : Int} {m : Nat} (tv : TvOk s n dn as a bs b 90 6 9 m) (Y : Cy43 cs c ds b2) (s10 : 10 ≤ s) (s15 : s ≤ 15) (m9 : m ≤ 9) (d0 : dn ≠ 0)
    (f : Fq (evL (s + m) cs * b2 * (n * prA (stL as a bs b s m)) * (c * evL s ds * dn) - evL s cs * b2 * n * (c * evL (s + m) ds * (dn * prB (stL as a bs b s m)))) (c * evL (s + m) ds * (dn * prB (stL as a bs b s m)) * (c * evL s ds * dn)) u v) : SzU (c * evL (s + m) ds * (dn * prB (stL as a bs b s m)) * (c * evL s ds * dn)) u v := by
  have c0 := Y.c0
  have lc := Y.lc
  have ld := Y.ld
  have sl := stL_len as a bs b s m
  have stb := tv.stb
  have x1 := prA_bits stb.a
  have x2 := prB_bits stb.b
  rw [sl] at x1 x2
  have X1 := abs_mono (b := 2300) x1 (by omega)
  have X2 := abs_mono (b := 2300) x2 (by omega)
  have e1 : (evL (s + m) cs).natAbs < 2 ^ 100 := abs_mono (evL_bits (show (s + (m : Int)).natAbs < 2 ^ 6 by omega) Y.bc.all) (by omega)
  have e2 : (evL s cs).natAbs < 2 ^ 100 := abs_mono (evL_bits (show s.natAbs < 2 ^ 6 by omega) Y.bc.all) (by omega)
  have e3 : (evL (s + m) ds).natAbs < 2 ^ 100 := abs_mono (evL_bits (show (s + (m : Int)).natAbs < 2 ^ 6 by omega) Y.bd.all) (by omega)
  have e4 : (evL s ds).natAbs < 2 ^ 100 := abs_mono (evL_bits (show s.natAbs < 2 ^ 6 by omega) Y.bd.all) (by omega)
  have bn := tv.lw.bn
  have bd := tv.lw.bd
  have nz : c * evL (s + m) ds * (dn * prB (stL as a bs b s m)) * (c * evL s ds * dn) ≠ 0 := Int.mul_ne_zero (Int.mul_ne_zero (Int.mul_ne_zero (by omega) (Y.nz _ (by omega))) (Int.mul_ne_zero d0 tv.nz)) (Int.mul_ne_zero (Int.mul_ne_zero (by omega) (Y.nz _ s10)) d0)
  have a1 := abs_lt_mul (abs_lt_mul (abs_lt_mul e1 Y.gb) (abs_lt_mul bn X1)) (abs_lt_mul (abs_lt_mul Y.gc e4) bd)
  have a2 := abs_lt_mul (abs_lt_mul (abs_lt_mul e2 Y.gb) bn) (abs_lt_mul (abs_lt_mul Y.gc e3) (abs_lt_mul bd X2))
  have a3 := abs_lt_mul (abs_lt_mul (abs_lt_mul Y.gc e3) (abs_lt_mul bd X2)) (abs_lt_mul (abs_lt_mul Y.gc e4) bd)
  refine ⟨nz, Nat.lt_of_le_of_lt (f.num_le nz) ?_, Nat.lt_of_le_of_lt (f.den_le nz) (abs_mono a3 (by decide))⟩
  have b1 := abs_mono (b := 5000) a1 (by decide)
  have b2' := abs_mono (b := 5000) a2 (by decide)
  have : ∀ {x y : Int}, x.natAbs < 2 ^ 5000 → y.natAbs < 2 ^ 5000 → (x - y).natAbs < 2 ^ (5000 + 1) := fun h k => by
    rw [Nat.pow_succ]
    generalize 2 ^ 5000 = W at h k ⊢
    omega
  exact abs_mono (this b1 b2') (by decide)
/-- the two sums are the same number -/
theorem fin43 {xs : List Int} {d : Int} {ys : List Int} {e : Int} {zs : List Int} {g : Int} {ws : List Int} {h : Int} {as : List Int} {a : Int} {bs : List Int} {b : Int} {cs : List Int} {c : Int} {ds : List Int} {b2 s f1 f2 n dn : Int} {m : Nat} (C : CfP xs d ys e) (A : RaF xs d ys e zs g ws h) (q : Qn (ff (scL h zs)) (ff (scL g ws)) as a bs b) (qy : Qn (ff (scL e xs)) (ff (scL d ys)) cs c ds b2) (fq : Fq f1 f2 n dn) (s10 : 10 ≤ s) (f20 : f2 ≠ 0) :
    (evL (s + m) cs * b2 * (n * prA (stL as a bs b s m)) * (c * evL s ds * dn) - evL s cs * b2 * n * (c * evL (s + m) ds * (dn * prB (stL as a bs b s m)))) * ttD (ttN (fun i => evL (s + (i : Int)) zs * h) f1) (ttN (fun i => g * evL (s + (i : Int)) ws) f2) m = ttS (ttN (fun i => evL (s + (i : Int)) zs * h) f1) (ttN (fun i => g * evL (s + (i : Int)) ws) f2) m * (c * evL (s + m) ds * (dn * prB (stL as a bs b s m)) * (c * evL s ds * dn)) := by
  have d0 := C.d0
  have e0 := C.e0
  have g0 := A.g0
  have bne : ∀ i : Nat, d * evL (s + (i : Int)) ys ≠ 0 := fun i => Int.mul_ne_zero (by omega) (C.ny _ (by omega))
  have rec_ : ∀ i : Nat, evL (s + (i : Int)) zs * h * (e * evL (s + ((i + 1 : Nat) : Int)) xs) * (d * evL (s + (i : Int)) ys) = g * evL (s + (i : Int)) ws * (d * evL (s + ((i + 1 : Nat) : Int)) ys) * (e * evL (s + (i : Int)) xs + d * evL (s + (i : Int)) ys) := fun i => by
    have z := A.id_ (s + i) (by omega)
    rw [show s + ((i + 1 : Nat) : Int) = s + i + 1 by omega]
    exact z
  have te := tele (a := fun i => e * evL (s + (i : Int)) xs) (b := fun i => d * evL (s + (i : Int)) ys) (X := fun i => evL (s + (i : Int)) zs * h) (W := fun i => g * evL (s + (i : Int)) ws) (f1 := f1) (f2 := f2) rfl rfl bne rec_ m
  have yv : ∀ z, evL z cs * b2 * (d * evL z ys) = c * evL z ds * (e * evL z xs) := fun z => by
    have := qy.ev z
    rw [ev_sc0, ev_sc0] at this
    calc evL z cs * b2 * (d * evL z ys) = b2 * (evL z cs * (d * evL z ys)) := by ac_rfl
      _ = c * (e * evL z xs * evL z ds) := this
      _ = _ := by ac_rfl
  have t1 : n * prA (stL as a bs b s m) * ttN (fun i => g * evL (s + (i : Int)) ws) f2 m = ttN (fun i => evL (s + (i : Int)) zs * h) f1 m * (dn * prB (stL as a bs b s m)) := by
    have z := prQ q s m
    have fe := fq.eq
    rw [ttN_prV, ttN_prV2]
    calc n * prA (stL as a bs b s m) * (f2 * prV (scL g ws) s m) = (n * f2) * (prA (stL as a bs b s m) * prV (scL g ws) s m) := by ac_rfl
      _ = (f1 * dn) * (prV (scL h zs) s m * prB (stL as a bs b s m)) := by rw [fe, z]
      _ = _ := by ac_rfl
  have Dm : ttN (fun i => g * evL (s + (i : Int)) ws) f2 m ≠ 0 := by
    rw [ttN_prV2]
    exact Int.mul_ne_zero f20 (prV_nz (fun z hz => by rw [ev_sc0]; exact Int.mul_ne_zero (by omega) (A.nw z (by omega))) m)
  have y0 := yv s
  have s0 : s + ((0 : Nat) : Int) = s := by omega
  have b00 := bne 0
  rw [s0] at b00
  have te2 : ttS (ttN (fun i => evL (s + (i : Int)) zs * h) f1) (ttN (fun i => g * evL (s + (i : Int)) ws) f2) m * (d * evL (s + (m : Int)) ys * ttN (fun i => g * evL (s + (i : Int)) ws) f2 m * (d * evL (s + ((0 : Nat) : Int)) ys * f2)) = (e * evL (s + (m : Int)) xs * ttN (fun i => evL (s + (i : Int)) zs * h) f1 m * (d * evL (s + ((0 : Nat) : Int)) ys * f2) - e * evL (s + ((0 : Nat) : Int)) xs * f1 * (d * evL (s + (m : Int)) ys * ttN (fun i => g * evL (s + (i : Int)) ws) f2 m)) * ttD (ttN (fun i => evL (s + (i : Int)) zs * h) f1) (ttN (fun i => g * evL (s + (i : Int)) ws) f2) m := te
  rw [s0] at te2
  exact cv_fin (yv (s + m)) y0 t1 fq.eq (Int.mul_ne_zero (Int.mul_ne_zero (bne m) Dm) (Int.mul_ne_zero b00 f20)) te2

section
variable {P : Program} {w : World} {K : PySem.W.Frag} {mg : Str → Option Value} {base : Heap}
theorem ok__law_cell (T : Tx K mg) : OkF P w K mg base 1 (He.fAd K ("_law_cell", none)) ["script", "k"] (spCell K) := by
  refine okF_of (d := d__law_cell) T.d__law_cell rfl sc__law_cell (fun _ _ _ _ _ _ us hl => match us, hl with | [_, _], _ => rfl) (fun vs H Q E h => ?_) (fun cdv A outer s H vs Q E hr h => ?_)
  · first | (obtain ⟨_, rfl, _⟩ := h; rfl) | (obtain ⟨_, _, rfl, _⟩ := h; rfl) | (obtain ⟨_, _, _, rfl, _⟩ := h; rfl) | (obtain ⟨_, _, _, _, rfl, _⟩ := h; rfl) | (obtain ⟨_, _, _, _, _, rfl, _⟩ := h; rfl) | (obtain ⟨_, _, _, _, _, _, rfl, _⟩ := h; rfl) | (obtain ⟨_, _, _, _, _, _, _, rfl, _⟩ := h; rfl) | (obtain ⟨_, _, _, _, _, _, _, _, rfl, _⟩ := h; rfl) | (obtain ⟨_, _, _, _, _, _, _, _, _, rfl, _⟩ := h; rfl) | (obtain ⟨_, _, _, _, _, _, _, _, _, _, rfl, _⟩ := h; rfl)
  · obtain ⟨a, ns, k, rfl, hS, k0, q⟩ := h
    refine ⟨_, (pss_cons (ps_if (pt_cmpR op_lt (pv 1) (pe_callB call_len_seq (by rfl) T.z_len PySem.boot_len (pa_cons (pv 0) pa_nil)) (nomark _)) (pss_one (ps_ret (pe_ix ix_list (pv 0) (pv 1) (fun _ _ => rfl)))) pss_nil)
      (pss_cons (ps_if (pt_cmpR op_eq (pe_callB call_len_seq (by rfl) T.z_len PySem.boot_len (pa_cons (pv 0) pa_nil)) pe_int (nomark _)) (pss_one (ps_ret (pe_op op_mul pe_int (pv 1)))) pss_nil)
      (pss_one (ps_ret (pe_op op_add (pe_op op_mul (pe_callTy call_int1 (by rfl) T.z_int (by decide +kernel) (pa_cons (pe_ix ix_list (pv 0) pe_int (fun _ _ => rfl)) pa_nil)) pe_int) (pe_op op_mul pe_int (pv 1))))))), ?_⟩
    refine ⟨_, rfl, _, rfl, _, _, rfl, .inl hS, _, _, rfl, rfl, _, rfl, iteD (fun c => ?_) (fun c => ?_)⟩
    · rw [len_map] at c
      obtain ⟨x, _, hx⟩ := get_map (ns := ns) (i := k.toNat) (by omega)
      exact ⟨_, rfl, _, rfl, _, _, _, _, rfl, rfl, hS, at_of (j := k.toNat) (by omega) hx, q x⟩
    refine ⟨_, rfl, _, _, rfl, .inl hS, rfl, _, rfl, iteEq (fun c => ?_) (fun c => ?_)⟩
    · exact ⟨_, rfl, _, _, rfl, rfl, .inl ⟨by decide, by decide⟩, q _⟩
    · obtain ⟨x, _, hx⟩ := get_map (ns := ns) (i := 0) (by simp only [len_map] at c; omega)
      exact ⟨_, rfl, _, _, _, _, rfl, rfl, hS, atI_nat (j := 0) hx, .inl ⟨_, rfl, _, _, rfl, rfl, .inr ⟨by decide, by decide⟩, _, rfl, _, _, rfl, rfl, .inl ⟨by decide, by decide⟩, _, _, rfl, rfl, q _⟩⟩

theorem ok__law_digits (T : Tx K mg) : OkF P w K mg base 1 (He.fAd K ("_law_digits", none)) ["cell", "limit", "count"] (spDigL K) := by
  refine okF_of (d := d__law_digits) T.d__law_digits rfl sc__law_digits (fun _ _ _ _ _ _ us hl => match us, hl with | [_, _, _], _ => rfl) (fun vs H Q E h => ?_) (fun cdv A outer s H vs Q E hr h => ?_)
  · first | (obtain ⟨_, rfl, _⟩ := h; rfl) | (obtain ⟨_, _, rfl, _⟩ := h; rfl) | (obtain ⟨_, _, _, rfl, _⟩ := h; rfl) | (obtain ⟨_, _, _, _, rfl, _⟩ := h; rfl) | (obtain ⟨_, _, _, _, _, rfl, _⟩ := h; rfl) | (obtain ⟨_, _, _, _, _, _, rfl, _⟩ := h; rfl) | (obtain ⟨_, _, _, _, _, _, _, rfl, _⟩ := h; rfl) | (obtain ⟨_, _, _, _, _, _, _, _, rfl, _⟩ := h; rfl) | (obtain ⟨_, _, _, _, _, _, _, _, _, rfl, _⟩ := h; rfl) | (obtain ⟨_, _, _, _, _, _, _, _, _, _, rfl, _⟩ := h; rfl)
  · obtain ⟨c, l, n, rfl, l0, l1, n0, n1, q⟩ := h
    refine ⟨_, (pss_cons (ps_setI (i := 3) sc__law_digits.nd rfl (Or.inl rfl) (pe_callB call_abs (by rfl) T.z_abs (by decide +kernel) (pa_cons (pv 0) pa_nil)))
      (pss_cons (ps_set (i := 4) sc__law_digits.nd rfl (Or.inl rfl) (pe_cmpR op_ge (pv 3) (pe_op op_pow pe_int pe_int) (nomark _)))
      (pss_cons (ps_set (i := 5) sc__law_digits.nd rfl (Or.inl rfl) (pe_lst pa_nil))
      (pss_cons (ps_for PassesOwn.leaving rfl (pi_range1 rfl T.z_range (pa_cons (pv 2) pa_nil)) (pg_name (i := 6) sc__law_digits.nd rfl (Or.inl rfl)) (pss_one (ps_if (PW.pt (pw_and (pt_val (pv 4)) (pw_and1 (pt_cmpR op_gt (pv 3) pe_int (nomark _))))) (pss_cons (ps_expr (pe_bm PySem.F.plainAttrs_list PySem.F.slot_list_append PySem.F.type_list_append mt_append (pv 5) (pa_cons (pe_op op_mod (pe_callTy call_int1 (by rfl) T.z_int (by decide +kernel) (pa_cons (pv 3) pa_nil)) (pv 1)) pa_nil)))
      (pss_one (ps_setI (i := 3) sc__law_digits.nd rfl (Or.inl rfl) (pe_op op_fdiv (pv 3) (pv 1))))) (pss_cons (ps_setI (i := 7) sc__law_digits.nd rfl (Or.inl rfl) (pe_op op_mod (pe_callTy call_int1 (by rfl) T.z_int (by decide +kernel) (pa_cons (pe_op op_add (pe_op op_mul (pe_op op_add (pe_callB call_abs (by rfl) T.z_abs (by decide +kernel) (pa_cons (pv 0) pa_nil)) pe_int) pe_int) (pe_op op_mul (pv 6) pe_int)) pa_nil)) pe_int))
      (pss_cons (ps_setI (i := 7) sc__law_digits.nd rfl (Or.inl rfl) (pe_op op_mod (pe_callTy call_int1 (by rfl) T.z_int (by decide +kernel) (pa_cons (pe_op op_add (pe_op op_mul (pv 7) pe_int) (pe_op op_mul pe_int (pv 6))) pa_nil)) pe_int))
      (pss_one (ps_expr (pe_bm PySem.F.plainAttrs_list PySem.F.slot_list_append PySem.F.type_list_append mt_append (pv 5) (pa_cons (pe_op op_mod (pe_callTy call_int1 (by rfl) T.z_int (by decide +kernel) (pa_cons (pe_op op_fdiv (pv 7) pe_int) pa_nil)) (pv 1)) pa_nil)))))))))
      (pss_one (ps_ret (pv 5))))))), ?_⟩
    refine ⟨_, rfl, _, rfl, _, rfl, fun r0 _ => ?_⟩
    refine ⟨_, rfl, _, _, rfl, rfl, ⟨by decide, by decide, by decide⟩, _, _, rfl, rfl, ?_⟩
    obtain ⟨bd, hbd⟩ : ∃ bd : Bool, bd = decide ((10 : Int) ^ (18 : Int).toNat ≤ r0) := ⟨_, rfl⟩
    refine ⟨Nat.zero_le _, fun p np => ?_⟩
    refine ⟨_, rfl, _, rfl, by omega, by omega, for_range (lo := 0) (n := n.toNat) (fun i σ' H' => ∃ (r : Int) (ms : List Int) (y6 y7 : Option V), σ' = [some (.int c), some (.int l), some (.int n), some (.int r), some (.bl bd), some (.ref p), y6, y7] ∧
      Same H H' ∧ H' p = some (.lst (ms.map V.int)) ∧ ms.length = i ∧ ∀ m ∈ ms, 0 ≤ m ∧ m < l) ⟨r0, [], none, none, by rw [hbd]; rfl, sm_new np, upd_same, rfl, fun m hm => absurd hm (by simp)⟩ (fun i σ' H1 hi hI => ?_) (fun σ' H1 hI => ?_)⟩
    · obtain ⟨r, ms, y6, y7, rfl, sm, hp, hm, hb⟩ := hI
      have hz : (ms.map V.int).length < sizeLine := by rw [len_map]; exact small1000 (by omega)
      have more : ∀ (x r : Int) (y6 y7 : Option V), 0 ≤ x → x < l → ∃ (r' : Int) (ms' : List Int) (y6' y7' : Option V), [some (.int c), some (.int l), some (.int n), some (.int r), some (.bl bd), some (.ref p), y6, y7] = [some (.int c), some (.int l), some (.int n), some (.int r'), some (.bl bd), some (.ref p), y6', y7'] ∧
          Same H (upd H1 p (.lst (ms.map V.int ++ [.int x]))) ∧ (upd H1 p (.lst (ms.map V.int ++ [.int x]))) p = some (.lst (ms'.map V.int)) ∧ ms'.length = i + 1 ∧ ∀ m ∈ ms', 0 ≤ m ∧ m < l := fun x r y6 y7 h0 h1 =>
        ⟨r, ms ++ [x], y6, y7, rfl, same_mut sm np, by rw [upd_same, List.map_append]; rfl, by rw [List.length_append, hm]; rfl, fun m hm => by
          rcases List.mem_append.mp hm with hm | hm
          · exact hb m hm
          · rw [List.mem_singleton.mp hm]; exact ⟨h0, h1⟩⟩
      have e0 : (0 : Int) + (i : Int) = (i : Int) := Int.zero_add _
      rw [e0]
      have l2 : ∀ x : Int, 0 ≤ x % l ∧ x % l < l := fun x => ⟨Int.emod_nonneg _ (by omega), Int.emod_lt_of_pos _ l0⟩
      refine ⟨_, rfl, _, rfl, iteShare (iteF ?_) (fun h1 els => ?_)⟩
      · refine ⟨_, rfl, _, rfl, _, _, rfl, rfl, _, _, rfl, rfl, .inr ⟨by decide, by decide⟩, _, rfl, _, _, rfl, rfl, .inr ⟨by decide, by decide⟩, _, _, rfl, rfl, .inl ⟨_, rfl, _, _, rfl, rfl, (show (0 : Int) < 2147483647 by decide), _, rfl, fun y _ => ?_⟩⟩
        refine ⟨_, rfl, _, _, rfl, rfl, .inr ⟨by decide, by decide⟩, _, rfl, _, _, rfl, rfl, .inl ⟨by decide, by decide⟩, _, _, rfl, rfl, .inl ⟨_, rfl, _, _, rfl, rfl, (show (0 : Int) < 2147483629 by decide), _, rfl, fun z _ => ?_⟩⟩
        refine ⟨_, rfl, .inl ⟨rfl, _, SqL.of hp⟩, _, rfl, _, _, rfl, rfl, ⟨by decide, by decide⟩, .inl ⟨_, rfl, _, rfl, _, _, rfl, rfl, l0, _, _, _, rfl, rfl, hp, hz, ?_⟩⟩
        exact more _ r _ _ (l2 _).1 (l2 _).2
      · refine ⟨_, rfl, _, _, rfl, rfl, _, rfl, iteD (fun h2 => ?_) (fun h2 => unF els)⟩
        refine ⟨_, rfl, .inl ⟨rfl, _, SqL.of hp⟩, _, rfl, .inl ⟨_, rfl, _, rfl, _, _, rfl, rfl, l0, _, _, _, rfl, rfl, hp, hz, ?_⟩⟩
        refine ⟨_, rfl, _, rfl, _, _, rfl, rfl, ⟨l0, by omega⟩, _, rfl, fun r2 _ => ?_⟩
        exact more _ r2 _ _ (l2 _).1 (l2 _).2
    · obtain ⟨r, ms, y6, y7, rfl, sm, hp, hm, hb⟩ := hI
      exact ⟨_, rfl, q p H1 ms sm np hp hm hb⟩

theorem ok__law_factors (T : Tx K mg) (O__law_digits : OkF P w K mg base 1 (He.fAd K ("_law_digits", none)) ["cell", "limit", "count"] (spDigL K)) : OkF P w K mg base 2 (He.fAd K ("_law_factors", none)) ["cell", "most"] (spLFs K) := by
  obtain ⟨_, G__law_digits, b__law_digits, k__law_digits⟩ := O__law_digits
  refine okF_of (d := d__law_factors) T.d__law_factors rfl sc__law_factors (fun _ _ _ _ _ _ us hl => match us, hl with | [_, _], _ => rfl) (fun vs H Q E h => ?_) (fun cdv A outer s H vs Q E hr h => ?_)
  · (obtain ⟨_, rfl, _⟩ := h; rfl)
  · obtain ⟨c, rfl, q⟩ := h
    refine ⟨_, (pss_cons (ps_set (i := 2) sc__law_factors.nd rfl (Or.inl rfl) (pe_call G__law_digits (hr.mono (by decide)) (by rfl) T.g__law_digits k__law_digits b__law_digits .nil passL (pa_cons (pv 0) (pa_cons pe_int (pa_cons (pe_op op_add (pv 1) pe_int) pa_nil)))))
      (pss_cons (ps_set (i := 3) sc__law_factors.nd rfl (Or.inl rfl) (pe_lst pa_nil))
      (pss_cons (ps_setI (i := 4) sc__law_factors.nd rfl (Or.inl rfl) pe_int)
      (pss_cons (ps_for PassesOwn.leaving rfl (pi_list (pe_slice sl_list (pv 2) (po_some pe_int) (po_some (pe_op op_add pe_int (pe_op op_mod (pe_callTy call_int1 (by rfl) T.z_int (by decide +kernel) (pa_cons (pe_ix ix_list (pv 2) pe_int (fun _ _ => rfl)) pa_nil)) (pe_op op_add (pv 1) pe_int)))))) (pg_name (i := 5) sc__law_factors.nd rfl (Or.inl rfl)) (pss_one (ps_if (PW.pt (pw_and (pt_cmpR op_ge (pv 5) pe_int (nomark _)) (pw_and1 (pt_cmpR op_le (pe_op op_add (pv 4) pe_int) (pv 1) (nomark _))))) (pss_cons (ps_expr (pe_bm PySem.F.plainAttrs_list PySem.F.slot_list_append PySem.F.type_list_append mt_append (pv 3) (pa_cons (pe_tup (pa_cons pe_int (pa_cons (pe_op op_sub (pe_op op_mod (pe_callTy call_int1 (by rfl) T.z_int (by decide +kernel) (pa_cons (pv 5) pa_nil)) pe_int) pe_int) (pa_cons (pe_op op_add (pe_op op_mod (pe_callTy call_int1 (by rfl) T.z_int (by decide +kernel) (pa_cons (pe_op op_fdiv (pv 5) pe_int) pa_nil)) pe_int) pe_int) pa_nil)))) pa_nil)))
      (pss_one (ps_setI (i := 4) sc__law_factors.nd rfl (Or.inl rfl) (pe_op op_add (pv 4) pe_int)))) (pss_one (ps_if (pt_cmpR op_le (pe_op op_add (pv 4) pe_int) (pv 1) (nomark _)) (pss_cons (ps_expr (pe_bm PySem.F.plainAttrs_list PySem.F.slot_list_append PySem.F.type_list_append mt_append (pv 3) (pa_cons (pe_tup (pa_cons pe_int (pa_cons (pe_op op_sub (pe_op op_mod (pe_callTy call_int1 (by rfl) T.z_int (by decide +kernel) (pa_cons (pv 5) pa_nil)) pe_int) pe_int) (pa_cons pe_int pa_nil)))) pa_nil)))
      (pss_one (ps_setI (i := 4) sc__law_factors.nd rfl (Or.inl rfl) (pe_op op_add (pv 4) pe_int)))) pss_nil)))))
      (pss_one (ps_ret (pv 3))))))), ?_⟩
    refine ⟨_, rfl, _, rfl, _, _, rfl, rfl, c, 52, 2 + 2, rfl, by decide, by decide, by decide, by decide, fun p H1 ms s1 np hp hl hb => ?_⟩
    have ml : ms.length = 4 := hl
    have g0 := get_of_lt (xs := ms) (k := 0) (by omega)
    refine ⟨Nat.zero_le _, fun pf npf => ?_⟩
    have s2 := sm_new (o := .lst []) npf
    have hf0 : (upd H1 pf (.lst [])) pf = some (.lst []) := upd_same
    refine ⟨_, rfl, fun g eg => ?_⟩
    have m3 : ms.getD 0 0 % (2 + 1) ≤ 2 ∧ 0 ≤ ms.getD 0 0 % (2 + 1) := by omega
    refine ⟨_, rfl, _, rfl, _, rfl, _, _, _, _, rfl, rfl, SqL.of (s2 _ _ hp), atI_nat (j := 0) (map_at g0), .inl ⟨_, rfl, _, rfl, _, _, rfl, rfl, _, _, rfl, rfl, (show (0 : Int) < 2 + 1 by decide), _, _, rfl, rfl, _, rfl, p, _, rfl, SqL.of (s2 _ _ hp), fun pk npk => ?_⟩⟩
    rw [cutV_map]
    obtain ⟨cut, hcut, cm, cl⟩ : ∃ cut : List Int, (ms.drop (HT.sIx ms.length 0 (some 2))).take (HT.sIx ms.length ms.length (some (2 + ms.getD 0 0 % (2 + 1))) - HT.sIx ms.length 0 (some 2)) = cut ∧ (∀ x ∈ cut, x ∈ ms) ∧ cut.length ≤ 2 := ⟨_, rfl, fun x hx => List.mem_of_mem_drop (List.mem_of_mem_take hx), by
      obtain ⟨z, hz⟩ : ∃ z : Nat, 2 + ms.getD 0 0 % (2 + 1) = ((z : Nat) : Int) := ⟨(2 + ms.getD 0 0 % (2 + 1)).toNat, by omega⟩
      rw [hz, show (2 : Int) = ((2 : Nat) : Int) from rfl, HT.sIx_nat, HT.sIx_nat, List.length_take, List.length_drop]
      omega⟩
    rw [hcut]
    have s3 := sm_new (o := .lst (cut.map V.int)) npk
    have hk : (upd (upd H1 pf (.lst [])) pk (.lst (cut.map V.int))) pk = some (.lst (cut.map V.int)) := upd_same
    have hf1 : (upd (upd H1 pf (.lst [])) pk (.lst (cut.map V.int))) pf = some (.lst []) := s3 _ _ hf0
    have s23 := s2.trans s3
    have pkf : pk ≠ pf := fun z => by rw [z, hf0] at npk; cases npk
    generalize upd (upd H1 pf (.lst [])) pk (.lst (cut.map V.int)) = H2 at hk hf1 s23 ⊢
    clear hf0 s2 s3 npk
    refine ⟨_, rfl, ⟨_, SqL.of hk⟩, for_list (K := K) (a := pk) (xs := cut.map V.int) (fun i σ' H' => ∃ (fs : List F3) (vl : List V) (g : Int) (y : Option V), σ' = [some (.int c), some (.int 2), some (.ref p), some (.ref pf), some (.int g), y] ∧ Same H1 H' ∧ H' pk = some (.lst (cut.map V.int)) ∧ H' pf = some (.lst vl) ∧ F3L H' vl fs ∧ g = dgS fs ∧ FsOk fs ∧ fs.length ≤ i)
      ⟨[], [], g, none, rfl, s23, hk, hf1, .nil, eg, ⟨fun f h => absurd h (by simp), by show (0 : Int) ≤ 2; decide⟩, Nat.le_refl _⟩ (fun i σ' H' hi hI => ?_) (fun i x σ' H' hi hI => ?_) (fun σ' H' hI => ?_)⟩
    · obtain ⟨fs, vl, g, y, rfl, sm, hk', hf', F, eg', ok, fl⟩ := hI
      exact SqL.of hk'
    · obtain ⟨fs, vl, g, y, rfl, sm, hk', hf', F, eg', ok, fl⟩ := hI
      obtain ⟨x, hx, rfl⟩ := get_map_int hi
      have il : i < cut.length := (List.getElem?_eq_some_iff.mp hx).1
      have szl : vl.length < sizeLine := by rw [F.len]; exact small1000 (by omega)
      have more : ∀ (f : F3) (tt : Addr) (H3 : Hp), Same H' H3 → H' tt = none → H3 tt = some (f3O f) → FkOk f → dgS fs + f.1 ≤ 2 → ∀ g2 : Int, g2 = g + f.1 → ∃ (fs : List F3) (vl2 : List V) (g : Int) (y : Option V), ([some (V.int c), some (V.int 2), some (V.ref p), some (V.ref pf), some (V.int g2), some (V.int x)] : List (Option V)) = [some (.int c), some (.int 2), some (.ref p), some (.ref pf), some (.int g), y] ∧ Same H1 (upd H3 pf (.lst (vl ++ [.ref tt]))) ∧ (upd H3 pf (.lst (vl ++ [.ref tt]))) pk = some (.lst (cut.map V.int)) ∧ (upd H3 pf (.lst (vl ++ [.ref tt]))) pf = some (.lst vl2) ∧ F3L (upd H3 pf (.lst (vl ++ [.ref tt]))) vl2 fs ∧ g = dgS fs ∧ FsOk fs ∧ fs.length ≤ i + 1 := fun f tt H3 s4 nt ht fk fd g2 e2 =>
        ⟨fs ++ [f], vl ++ [.ref tt], g2, _, rfl, same_mut (sm.trans s4) npf, by rw [upd_ne pkf]; exact s4 _ _ hk', upd_same, ((F.mono s4).snoc ht).upd (s4 _ _ hf'), by rw [dgS_app, e2, eg']; show dgS fs + f.1 = dgS fs + (f.1 + 0); omega, ok.snoc fk fd, by rw [List.length_append]; show fs.length + 1 ≤ i + 1; omega⟩
      have one : g + 1 ≤ 2 → FkOk (1, x % 13 - 6, 0) ∧ dgS fs + 1 ≤ 2 := fun h => ⟨.inl ⟨rfl, by show -6 ≤ x % 13 - 6; omega, by show x % 13 - 6 ≤ 6; omega⟩, by omega⟩
      have two : g + 2 ≤ 2 → FkOk (2, x % 5 - 2, x / 5 % 2 + 1) ∧ dgS fs + 2 ≤ 2 := fun h => ⟨.inr ⟨rfl, by show -2 ≤ x % 5 - 2; omega, by show x % 5 - 2 ≤ 2; omega, by show 1 ≤ x / 5 % 2 + 1; omega, by show x / 5 % 2 + 1 ≤ 2; omega⟩, by omega⟩
      refine ⟨_, rfl, _, _, rfl, rfl, _, rfl, iteD (fun c1 => ?_) (fun c1 => ?_)⟩
      · refine ⟨_, rfl, _, _, rfl, rfl, _, rfl, _, _, rfl, rfl, _, rfl, iteD (fun c2 => ?_) (fun c2 => ?_)⟩
        · refine ⟨_, rfl, .inl ⟨rfl, _, SqL.of hf'⟩, _, rfl, .inl ⟨_, rfl, _, _, rfl, rfl, (show (0 : Int) < 5 by decide), _, _, rfl, rfl, _, rfl, _, _, rfl, rfl, ⟨by decide, by decide⟩, .inl ⟨_, rfl, _, _, rfl, rfl, (show (0 : Int) < 2 by decide), _, _, rfl, rfl, by show 3 ≤ sizeLine; decide, fun tt ntt => ?_⟩⟩⟩
          have s4 := sm_new (o := .tup [V.int 2, V.int (x % 5 - 2), V.int (x / 5 % 2 + 1)]) ntt
          refine ⟨_, _, _, rfl, rfl, s4 _ _ hf', szl, ?_⟩
          refine ⟨_, rfl, _, _, rfl, rfl, _, rfl, fun g2 e2 => ?_⟩
          obtain ⟨k1, k2⟩ := two (by omega)
          exact more (2, x % 5 - 2, x / 5 % 2 + 1) tt _ s4 ntt upd_same k1 k2 g2 e2
        · refine ⟨_, rfl, _, _, rfl, rfl, _, rfl, _, _, rfl, rfl, _, rfl, iteD (fun c3 => ?_) (fun c3 => ?_)⟩
          · refine ⟨_, rfl, .inl ⟨rfl, _, SqL.of hf'⟩, _, rfl, .inl ⟨_, rfl, _, _, rfl, rfl, (show (0 : Int) < 13 by decide), _, _, rfl, rfl, by show 3 ≤ sizeLine; decide, fun tt ntt => ?_⟩⟩
            have s4 := sm_new (o := .tup [V.int 1, V.int (x % 13 - 6), V.int 0]) ntt
            refine ⟨_, _, _, rfl, rfl, s4 _ _ hf', szl, ?_⟩
            refine ⟨_, rfl, _, _, rfl, rfl, _, rfl, fun g2 e2 => ?_⟩
            obtain ⟨k1, k2⟩ := one (by omega)
            exact more (1, x % 13 - 6, 0) tt _ s4 ntt upd_same k1 k2 g2 e2
          · exact ⟨fs, vl, g, _, rfl, sm, hk', hf', F, eg', ok, by omega⟩
      · refine iteN rfl ?_
        refine ⟨_, rfl, _, _, rfl, rfl, _, rfl, _, _, rfl, rfl, _, rfl, iteD (fun c3 => ?_) (fun c3 => ?_)⟩
        · refine ⟨_, rfl, .inl ⟨rfl, _, SqL.of hf'⟩, _, rfl, .inl ⟨_, rfl, _, _, rfl, rfl, (show (0 : Int) < 13 by decide), _, _, rfl, rfl, by show 3 ≤ sizeLine; decide, fun tt ntt => ?_⟩⟩
          have s4 := sm_new (o := .tup [V.int 1, V.int (x % 13 - 6), V.int 0]) ntt
          refine ⟨_, _, _, rfl, rfl, s4 _ _ hf', szl, ?_⟩
          refine ⟨_, rfl, _, _, rfl, rfl, _, rfl, fun g2 e2 => ?_⟩
          obtain ⟨k1, k2⟩ := one (by omega)
          exact more (1, x % 13 - 6, 0) tt _ s4 ntt upd_same k1 k2 g2 e2
        · exact ⟨fs, vl, g, _, rfl, sm, hk', hf', F, eg', ok, by omega⟩
    obtain ⟨fs, vl, g, y, rfl, sm, hk', hf', F, eg', ok, fl⟩ := hI
    rw [len_map] at fl
    exact ⟨_, rfl, q pf H' vl fs (s1.trans sm) (s1.free npf) hf' F ok (by omega)⟩

theorem ok__law_lead (T : Tx K mg) (O__law_digits : OkF P w K mg base 1 (He.fAd K ("_law_digits", none)) ["cell", "limit", "count"] (spDigL K)) : OkF P w K mg base 2 (He.fAd K ("_law_lead", none)) ["cell"] (spLLd K) := by
  obtain ⟨_, G__law_digits, b__law_digits, k__law_digits⟩ := O__law_digits
  refine okF_of (d := d__law_lead) T.d__law_lead rfl sc__law_lead (fun _ _ _ _ _ _ us hl => match us, hl with | [_], _ => rfl) (fun vs H Q E h => ?_) (fun cdv A outer s H vs Q E hr h => ?_)
  · (obtain ⟨_, rfl, _⟩ := h; rfl)
  · obtain ⟨c, rfl, q⟩ := h
    refine ⟨_, (pss_cons (ps_setI (i := 1) sc__law_lead.nd rfl (Or.inl rfl) (pe_ix ix_list (pe_call G__law_digits (hr.mono (by decide)) (by rfl) T.g__law_digits k__law_digits b__law_digits .nil passL (pa_cons (pv 0) (pa_cons pe_int (pa_cons pe_int pa_nil)))) pe_int (fun _ _ => rfl)))
      (pss_one (ps_ret (pe_tup (pa_cons (pe_ix ix_list (pe_lst (pa_cons (pe_un un_neg pe_int) (pa_cons (pe_un un_neg pe_int) (pa_cons (pe_un un_neg pe_int) (pa_cons pe_int (pa_cons pe_int (pa_cons pe_int pa_nil))))))) (pe_op op_mod (pe_callTy call_int1 (by rfl) T.z_int (by decide +kernel) (pa_cons (pv 1) pa_nil)) pe_int) (fun _ _ => rfl)) (pa_cons (pe_op op_add (pe_op op_mod (pe_callTy call_int1 (by rfl) T.z_int (by decide +kernel) (pa_cons (pe_op op_fdiv (pv 1) pe_int) pa_nil)) pe_int) pe_int) pa_nil)))))), ?_⟩
    refine ⟨_, rfl, c, 52, 2, rfl, by decide, by decide, by decide, by decide, fun pd H1 ms s1 npd hpd hl hb => ?_⟩
    have ml : ms.length = 2 := hl
    have g := get_of_lt (xs := ms) (k := 1) (by omega)
    have m0 := hb _ (getD_mem (xs := ms) (k := 1) (by omega))
    refine ⟨_, _, _, _, rfl, rfl, SqL.of hpd, at_of (j := 1) (by omega) (map_at g), _, rfl, fun d ed => ?_⟩
    refine ⟨_, rfl, _, rfl, _, rfl, by show 6 ≤ sizeLine; decide, fun pl npl => ?_⟩
    have s2 := sm_new (o := .lst [V.int (-3), V.int (-2), V.int (-1), V.int 1, V.int 2, V.int 3]) npl
    have hpl : (upd H1 pl (.lst [V.int (-3), V.int (-2), V.int (-1), V.int 1, V.int 2, V.int 3])) pl = some (.lst (([-3, -2, -1, 1, 2, 3] : List Int).map V.int)) := upd_same
    obtain ⟨j, ej, j6⟩ : ∃ j : Nat, (j : Int) = d % 6 ∧ j < 6 := ⟨(d % 6).toNat, by omega, by omega⟩
    have gl := get_of_lt (xs := [-3, -2, -1, 1, 2, 3]) (k := j) j6
    have al : ([-3, -2, -1, 1, 2, 3] : List Int).getD j 0 ≠ 0 ∧ (([-3, -2, -1, 1, 2, 3] : List Int).getD j 0).natAbs ≤ 3 := by
      rcases (by omega : j = 0 ∨ j = 1 ∨ j = 2 ∨ j = 3 ∨ j = 4 ∨ j = 5) with rfl | rfl | rfl | rfl | rfl | rfl <;> decide
    refine ⟨_, rfl, .inl ⟨_, rfl, _, _, rfl, rfl, (show (0 : Int) < 6 by decide), _, _, _, _, rfl, rfl, SqL.of hpl, at_of (j := j) (by omega) (map_at gl), ?_⟩⟩
    refine ⟨_, rfl, _, _, rfl, rfl, ⟨by decide, by decide⟩, .inl ⟨_, rfl, _, _, rfl, rfl, (show (0 : Int) < 3 by decide), _, _, rfl, rfl, by show 2 ≤ sizeLine; decide, fun t nt => ?_⟩⟩
    have s12 := s1.trans s2
    exact q t _ _ _ (s12.trans (sm_new nt)) (s12.free nt) upd_same al.1 al.2 (by omega) (by omega)

theorem ok__law_trim (T : Tx K mg) : OkF P w K mg base 1 (He.fAd K ("_law_trim", none)) ["xs"] (spTri K) := by
  refine okF_of (d := d__law_trim) T.d__law_trim rfl sc__law_trim (fun _ _ _ _ _ _ us hl => match us, hl with | [_], _ => rfl) (fun vs H Q E h => ?_) (fun cdv A outer s H vs Q E hr h => ?_)
  · first | (obtain ⟨_, rfl, _⟩ := h; rfl) | (obtain ⟨_, _, rfl, _⟩ := h; rfl) | (obtain ⟨_, _, _, rfl, _⟩ := h; rfl) | (obtain ⟨_, _, _, _, rfl, _⟩ := h; rfl) | (obtain ⟨_, _, _, _, _, rfl, _⟩ := h; rfl) | (obtain ⟨_, _, _, _, _, _, rfl, _⟩ := h; rfl) | (obtain ⟨_, _, _, _, _, _, _, rfl, _⟩ := h; rfl) | (obtain ⟨_, _, _, _, _, _, _, _, rfl, _⟩ := h; rfl) | (obtain ⟨_, _, _, _, _, _, _, _, _, rfl, _⟩ := h; rfl) | (obtain ⟨_, _, _, _, _, _, _, _, _, _, rfl, _⟩ := h; rfl)
  · obtain ⟨a, xs, rfl, hS, hl, q⟩ := h
    refine ⟨_, (pss_cons (ps_setI (i := 1) sc__law_trim.nd rfl (Or.inl rfl) pe_int)
      (pss_cons (ps_for PassesOwn.leaving rfl (pi_range1 rfl T.z_range (pa_cons (pe_callB call_len_seq (by rfl) T.z_len PySem.boot_len (pa_cons (pv 0) pa_nil)) pa_nil)) (pg_name (i := 2) sc__law_trim.nd rfl (Or.inl rfl)) (pss_one (ps_if (pt_cmpR op_ne (pe_ix ix_list (pv 0) (pv 2) (fun _ _ => rfl)) pe_int (nomark _)) (pss_one (ps_setI (i := 1) sc__law_trim.nd rfl (Or.inl rfl) (pe_op op_add (pv 2) pe_int))) pss_nil)))
      (pss_one (ps_ret (pe_slice sl_list (pv 0) po_none (po_some (pv 1))))))), ?_⟩
    refine ⟨_, rfl, fun s0 e0 => ?_⟩
    refine ⟨_, rfl, _, _, rfl, .inl hS, _, rfl, by rw [len_map]; omega, by rw [len_map]; omega, for_range (lo := 0) (n := ((xs.map V.int).length : Int).toNat) (fun i σ' H' => H = H' ∧ ∃ (n : Nat) (y : Option V), σ' = [some (.ref a), some (.int (n : Int)), y] ∧ TrA xs i n)
      ⟨rfl, 0, none, by rw [e0]; rfl, Nat.le_refl _, fun k h1 h2 => by omega, .inl rfl⟩ (fun i σ' H' hi hI => ?_) (fun σ' H' hI => ?_)⟩
    · obtain ⟨rfl, n, y, rfl, t⟩ := hI
      rw [len_map] at hi
      have il : i < xs.length := by omega
      refine ⟨_, rfl, _, rfl, _, _, _, _, rfl, rfl, hS, at_of (j := i) (by omega) (map_at (get_of_lt il)), rfl, _, rfl, iteEqN (fun c => ?_) (fun c => ?_)⟩
      · refine ⟨_, rfl, _, _, rfl, rfl, _, rfl, fun n1 e1 => ?_⟩
        refine ⟨rfl, i + 1, some (.int (0 + (i : Int))), ?_, t.yes c⟩
        rw [e1, show (0 : Int) + (i : Int) + 1 = ((i + 1 : Nat) : Int) by omega]
        rfl
      · exact ⟨rfl, n, _, rfl, t.no c⟩
    · obtain ⟨rfl, n, y, rfl, t⟩ := hI
      rw [len_map] at t
      replace t : TrA xs xs.length n := t
      have hn : n ≤ xs.length := t.le
      refine ⟨_, rfl, _, rfl, _, rfl, _, _, rfl, hS, fun p np => ?_⟩
      rw [cut_lo (by rw [len_map]; exact hn), ← List.map_take]
      exact q p _ _ (sm_new np) np upd_same t.fin.tf (by rw [List.length_take]; omega)

theorem ok__law_mul (T : Tx K mg) (O__law_trim : OkF P w K mg base 1 (He.fAd K ("_law_trim", none)) ["xs"] (spTri K)) : OkF P w K mg base 2 (He.fAd K ("_law_mul", none)) ["xs", "ys"] (spLMl K) := by
  obtain ⟨_, G__law_trim, b__law_trim, k__law_trim⟩ := O__law_trim
  refine okF_of (d := d__law_mul) T.d__law_mul rfl sc__law_mul (fun _ _ _ _ _ _ us hl => match us, hl with | [_, _], _ => rfl) (fun vs H Q E h => ?_) (fun cdv A outer s H vs Q E hr h => ?_)
  · first | (obtain ⟨_, rfl, _⟩ := h; rfl) | (obtain ⟨_, _, rfl, _⟩ := h; rfl) | (obtain ⟨_, _, _, rfl, _⟩ := h; rfl) | (obtain ⟨_, _, _, _, rfl, _⟩ := h; rfl) | (obtain ⟨_, _, _, _, _, rfl, _⟩ := h; rfl) | (obtain ⟨_, _, _, _, _, _, rfl, _⟩ := h; rfl) | (obtain ⟨_, _, _, _, _, _, _, rfl, _⟩ := h; rfl) | (obtain ⟨_, _, _, _, _, _, _, _, rfl, _⟩ := h; rfl) | (obtain ⟨_, _, _, _, _, _, _, _, _, rfl, _⟩ := h; rfl) | (obtain ⟨_, _, _, _, _, _, _, _, _, _, rfl, _⟩ := h; rfl)
  · obtain ⟨a, b, xs, ys, k, rfl, hA, hB, b1, b2, l1, l2, hk, q⟩ := h
    refine ⟨_, (pss_cons (ps_setLc (i := 2) (own := [("k", 5)]) (g := gName 5) rfl sc__law_mul.nd rfl rfl (sw_true rfl rfl rfl (by decide +kernel)) (pi_range1 rfl T.z_range (pa_cons (pe_op op_add (pe_callB call_len_seq (by rfl) T.z_len PySem.boot_len (pa_cons (pv 0) pa_nil)) (pe_callB call_len_seq (by rfl) T.z_len PySem.boot_len (pa_cons (pv 1) pa_nil))) pa_nil)) (blkOk_by (own := [("k", 5)]) (N := N__law_mul) (sc := defScope s__law_mul) (by decide +kernel)) (fun _ _ _ _ _ => (pg_name (i := 5) sc__law_mul.nd rfl (Or.inl rfl))) (fun _ _ _ _ _ => pts_nil) (fun _ _ _ _ _ => pe_int))
      (pss_cons (ps_for PassesOwn.leaving rfl (pi_range1 rfl T.z_range (pa_cons (pe_callB call_len_seq (by rfl) T.z_len PySem.boot_len (pa_cons (pv 0) pa_nil)) pa_nil)) (pg_name (i := 3) sc__law_mul.nd rfl (Or.inl rfl)) (pss_one (ps_for PassesOwn.leaving rfl (pi_range1 rfl T.z_range (pa_cons (pe_callB call_len_seq (by rfl) T.z_len PySem.boot_len (pa_cons (pv 1) pa_nil)) pa_nil)) (pg_name (i := 4) sc__law_mul.nd rfl (Or.inl rfl)) (pss_one (ps_asg (pe_op op_add (pe_ix ix_list (pv 2) (pe_op op_add (pv 3) (pv 4)) (fun _ _ => rfl)) (pe_op op_mulW (pe_ix ix_list (pv 0) (pv 3) (fun _ _ => rfl)) (pe_ix ix_list (pv 1) (pv 4) (fun _ _ => rfl)))) (pg_sub (pv 2) (pe_op op_add (pv 3) (pv 4)) set_list))))))
      (pss_one (ps_ret (pe_call G__law_trim (hr.mono (by decide)) (by rfl) T.g__law_trim k__law_trim b__law_trim .nil passL (pa_cons (pv 2) pa_nil)))))), ?_⟩
    refine ⟨_, rfl, _, _, rfl, .inl hA, _, rfl, _, _, rfl, .inl hB, _, _, rfl, rfl, _, rfl, by rw [len_map, len_map]; omega, by rw [len_map, len_map]; omega, fun D nD => lc_range (lo := 0) (n := (((xs.map V.int).length : Int) + ((ys.map V.int).length : Int)).toNat) (fun i H' => Same H H' ∧ H' D = some (.lst ((List.replicate i (0 : Int)).map V.int))) ⟨sm_new nD, upd_same⟩ (fun i H' hi hP => ?_) (fun H1 hP => ?_)⟩
    · obtain ⟨sm, hD⟩ := hP
      refine ⟨rfl, yes_ok (iteK rfl ?_)⟩
      rw [len_map, len_map] at hi
      refine ⟨_, hD, by rw [len_map, List.length_replicate]; exact small1000 (by omega), same_mut sm nD, ?_⟩
      rw [upd_same, List.replicate_succ', List.map_append]
      rfl
    obtain ⟨s1, hD⟩ := hP
    rw [len_map, len_map] at hD
    obtain ⟨N, hN⟩ : ∃ N : Nat, ((xs.length : Int) + (ys.length : Int)).toNat = N := ⟨_, rfl⟩
    rw [hN] at hD
    have hN2 : N = xs.length + ys.length := by omega
    refine ⟨_, rfl, _, _, rfl, .inl (s1.seq hA), _, rfl, by rw [len_map]; omega, by rw [len_map]; omega, for_range (lo := 0) (n := ((xs.map V.int).length : Int).toNat) (fun i σ' H' => ∃ (fs : List Int) (yi yj : Option V), σ' = [some (.ref a), some (.ref b), some (.ref D), yi, yj, none] ∧ Same H H' ∧ H' D = some (.lst (fs.map V.int)) ∧ MulAt fs xs ys N i 0)
      ⟨_, none, none, rfl, s1, hD, MulAt.start⟩ (fun i σ' H' hi hI => ?_) (fun σ' H' hI => ?_)⟩
    · obtain ⟨fs, yi, yj, rfl, sm, hf, m⟩ := hI
      rw [len_map] at hi
      refine ⟨_, rfl, _, _, rfl, .inl (sm.seq hB), _, rfl, by rw [len_map]; omega, by rw [len_map]; omega, for_range (lo := 0) (n := ((ys.map V.int).length : Int).toNat) (fun j σ' H' => ∃ (fs : List Int) (yj : Option V), σ' = [some (.ref a), some (.ref b), some (.ref D), some (.int (0 + (i : Int))), yj, none] ∧ Same H H' ∧ H' D = some (.lst (fs.map V.int)) ∧ MulAt fs xs ys N i j)
        ⟨_, _, rfl, sm, hf, m⟩ (fun j σ' H' hj hI => ?_) (fun σ' H' hI => ?_)⟩
      · obtain ⟨fs, yj, rfl, sm, hf, m⟩ := hI
        rw [len_map] at hj
        have il : i < xs.length := by omega
        have jl : j < ys.length := by omega
        have fl : i + j < fs.length := by rw [m.len]; omega
        refine ⟨_, rfl, _, rfl, _, rfl, _, _, rfl, rfl, _, _, _, _, rfl, rfl, SqL.of hf, at_of (j := i + j) (by omega) (map_at (get_of_lt fl)), _, rfl, _, rfl, _, _, _, _, rfl, rfl, sm.seq hA, at_of (j := i) (by omega) (map_at (get_of_lt il)), _, rfl, _, rfl, _, _, _, _, rfl, rfl, sm.seq hB, at_of (j := j) (by omega) (map_at (get_of_lt jl)), _, _, rfl, rfl, mulW (b1.getD i) (b2.getD j) (by omega), _, _, rfl, rfl, _, rfl, _, rfl, _, rfl, _, _, rfl, rfl, D, _, _, i + j, rfl, rfl, hf, ixN_at (by omega) (by rw [len_map]; exact fl), ?_⟩
        exact ⟨_, _, rfl, same_mut sm nD, by rw [upd_same, map_set_V], m.step (by omega) rfl⟩
      · obtain ⟨fs, yj, rfl, sm, hf, m⟩ := hI
        exact ⟨_, _, _, rfl, sm, hf, m.row (by rw [len_map]; omega)⟩
    · obtain ⟨fs, yi, yj, rfl, sm, hf, m⟩ := hI
      have fm := m.fin (by rw [len_map]; omega) (by omega)
      refine ⟨_, rfl, D, fs, rfl, SqL.of hf, by rw [m.len]; omega, fun p H2 zs sm2 np hp t tl => ?_⟩
      exact q p H2 zs (sm.trans sm2) (sm.free np) hp (t.congr fm.at_) (by rw [m.len] at tl; omega)

theorem ok__law_expand (T : Tx K mg) (O__law_mul : OkF P w K mg base 2 (He.fAd K ("_law_mul", none)) ["xs", "ys"] (spLMl K)) : OkF P w K mg base 3 (He.fAd K ("_law_expand", none)) ["factors", "lead"] (spLEx K) := by
  obtain ⟨_, G__law_mul, b__law_mul, k__law_mul⟩ := O__law_mul
  refine okF_of (d := d__law_expand) T.d__law_expand rfl sc__law_expand (fun _ _ _ _ _ _ us hl => match us, hl with | [_, _], _ => rfl) (fun vs H Q E h => ?_) (fun cdv A outer s H vs Q E hr h => ?_)
  · (obtain ⟨_, _, _, _, _, _, rfl, _⟩ := h; rfl)
  · obtain ⟨a, b, vl, fs, l0, l1, rfl, ha, F, ok, fl, hb, l00, l03, q⟩ := h
    refine ⟨_, (pss_cons (ps_set (i := 2) sc__law_expand.nd rfl (Or.inl rfl) (pe_lst (pa_cons (pe_ix ix_tup (pv 1) pe_int (fun _ _ => rfl)) pa_nil)))
      (pss_cons (ps_for PassesOwn.leaving rfl (pi_list (pv 0)) (pg_name (i := 3) sc__law_expand.nd rfl (Or.inl rfl)) (pss_one (ps_if (pt_cmpR op_eq (pe_ix ix_tup (pv 3) pe_int (fun _ _ => rfl)) pe_int (nomark _)) (pss_one (ps_set (i := 2) sc__law_expand.nd rfl (Or.inl rfl) (pe_call G__law_mul (hr.mono (by decide)) (by rfl) T.g__law_mul k__law_mul b__law_mul .nil passL (pa_cons (pv 2) (pa_cons (pe_lst (pa_cons (pe_un un_neg (pe_ix ix_tup (pv 3) pe_int (fun _ _ => rfl))) (pa_cons pe_int pa_nil))) pa_nil))))) (pss_one (ps_set (i := 2) sc__law_expand.nd rfl (Or.inl rfl) (pe_call G__law_mul (hr.mono (by decide)) (by rfl) T.g__law_mul k__law_mul b__law_mul .nil passL (pa_cons (pv 2) (pa_cons (pe_lst (pa_cons (pe_op op_add (pe_op op_mulW (pe_ix ix_tup (pv 3) pe_int (fun _ _ => rfl)) (pe_ix ix_tup (pv 3) pe_int (fun _ _ => rfl))) (pe_ix ix_tup (pv 3) pe_int (fun _ _ => rfl))) (pa_cons (pe_op op_mulW (pe_un un_neg pe_int) (pe_ix ix_tup (pv 3) pe_int (fun _ _ => rfl))) (pa_cons pe_int pa_nil)))) pa_nil))))))))
      (pss_one (ps_ret (pe_tup (pa_cons (pv 2) (pa_cons (pe_ix ix_tup (pv 1) pe_int (fun _ _ => rfl)) pa_nil))))))), ?_⟩
    refine ⟨_, rfl, _, _, _, _, rfl, rfl, SqT.of hb, atI_nat (j := 0) rfl, by show 1 ≤ sizeLine; decide, fun p0 np0 => ?_⟩
    have s0 := sm_new (o := .lst [V.int l0]) np0
    have hp0 : (upd H p0 (.lst [V.int l0])) p0 = some (.lst (([l0] : List Int).map V.int)) := upd_same
    generalize upd H p0 (.lst [V.int l0]) = H1 at s0 hp0 ⊢
    refine ⟨_, rfl, _, rfl, ⟨_, SqL.of (s0 _ _ ha)⟩, for_list (K := K) (a := a) (xs := vl) (fun i σ' H' => ∃ (pz : Addr) (zs : List Int) (y : Option V), σ' = [some (.ref a), some (.ref b), some (.ref pz), y] ∧ Same H H' ∧ H pz = none ∧ H' pz = some (.lst (zs.map V.int)) ∧ ExP l0 (fs.take i) zs)
      ⟨p0, [l0], none, rfl, s0, np0, hp0, .one l00 l03⟩ (fun i σ' H' hi hI => ?_) (fun i x σ' H' hi hI => ?_) (fun σ' H' hI => ?_)⟩
    · obtain ⟨pz, zs, y, rfl, sm, npz, hz, P⟩ := hI
      exact SqL.of (sm _ _ ha)
    · obtain ⟨pz, zs, y, rfl, sm, npz, hz, P⟩ := hI
      have il : i < fs.length := by rw [← F.len]; exact (List.getElem?_eq_some_iff.mp hi).1
      obtain ⟨f, hf⟩ : ∃ f, fs[i]? = some f := ⟨_, List.getElem?_eq_getElem il⟩
      obtain ⟨t, ht, hto⟩ := F.at_ i f hf
      rw [hi] at ht
      obtain rfl := Option.some.inj ht
      have fk := ok.ok f (List.mem_of_getElem? hf)
      have et : fs.take (i + 1) = fs.take i ++ [f] := by rw [List.take_succ, hf]; rfl
      obtain ⟨_, _, l3, s3⟩ := top3 fk
      have fb : Bits 12 (pl3 f) := bits_of_at fun j => Nat.lt_of_le_of_lt (s3 j) (by decide)
      have zl := P.len
      have dl : dgS (fs.take i) ≤ 2 := by
        have e := dgS_app (fs.take i) (fs.drop i)
        rw [List.take_append_drop] at e
        have := dgS_nn (fs := fs.drop i) fun g hg => ok.ok g (List.mem_of_mem_drop hg)
        have := ok.dg
        omega
      have zl3 : zs.length ≤ 5 := by omega
      have pow : 8 ^ (dgS (fs.take i)).toNat ≤ 8 ^ 2 := Nat.pow_le_pow_right (by decide) (by omega)
      have zb : Bits 12 zs := bits_of_at fun j => by
        have := P.sz j
        have e : (2 : Nat) ^ 12 = 4096 := by decide
        omega
      replace hto := sm _ _ hto
      have done : ∀ (H3 : Hp) (pw : Addr) (ws : List Int), Same H' H3 → H' pw = none → H3 pw = some (.lst (ws.map V.int)) → Tf ws (cv zs (pl3 f)) → ∃ (pz : Addr) (zs : List Int) (y : Option V), ([some (V.ref a), some (V.ref b), some (V.ref pw), some (V.ref t)] : List (Option V)) = [some (.ref a), some (.ref b), some (.ref pz), y] ∧ Same H H3 ∧ H pz = none ∧ H3 pz = some (.lst (zs.map V.int)) ∧ ExP l0 (fs.take (i + 1)) zs := fun H3 pw ws s3 np hw tw =>
        ⟨pw, ws, _, rfl, sm.trans s3, sm.free np, hw, by rw [et]; exact P.more fk tw⟩
      refine ⟨_, rfl, _, _, _, _, rfl, rfl, SqT.of hto, atI_nat (j := 0) rfl, rfl, _, rfl, iteEq (fun c1 => ?_) (fun c1 => ?_)⟩
      · have e3 : pl3 f = [-f.2.1, 2] := if_pos c1
        rw [e3] at fb done
        refine ⟨_, rfl, _, rfl, _, _, _, _, rfl, rfl, SqT.of hto, atI_nat (j := 1) rfl, _, rfl, by show 2 ≤ sizeLine; decide, fun pl npl => ?_⟩
        have s3 := sm_new (o := .lst [V.int (-f.2.1), V.int 2]) npl
        refine ⟨pz, pl, zs, [-f.2.1, 2], 12, rfl, SqL.of (s3 _ _ hz), SqL.of upd_same, zb, fb, by omega, by show 2 ≤ 400; decide, by decide, fun pw H3 ws s4 npw hw tw lw => ?_⟩
        exact done H3 pw ws (s3.trans s4) (s3.free npw) hw tw
      · have e3 : pl3 f = [f.2.1 * f.2.1 + f.2.2, -2 * f.2.1, 1] := if_neg c1
        rw [e3] at fb done
        have f6 : f.2.1.natAbs < 2 ^ 3 := by rcases fk with ⟨_, h1, h2⟩ | ⟨_, h1, h2, _⟩ <;> omega
        refine ⟨_, rfl, _, rfl, _, _, _, _, rfl, rfl, SqT.of hto, atI_nat (j := 1) rfl, _, rfl, _, _, _, _, rfl, rfl, SqT.of hto, atI_nat (j := 1) rfl, _, _, rfl, rfl, mulW f6 f6 (by decide), _, rfl, _, _, _, _, rfl, rfl, SqT.of hto, atI_nat (j := 2) rfl, _, _, rfl, rfl, _, rfl, _, rfl, _, _, _, _, rfl, rfl, SqT.of hto, atI_nat (j := 1) rfl, _, _, rfl, rfl, mulW (i := -2) (a := 2) (b := 3) (by decide) f6 (by decide), by show 3 ≤ sizeLine; decide, fun pl npl => ?_⟩
        have s3 := sm_new (o := .lst [V.int (f.2.1 * f.2.1 + f.2.2), V.int (-2 * f.2.1), V.int 1]) npl
        refine ⟨pz, pl, zs, [f.2.1 * f.2.1 + f.2.2, -2 * f.2.1, 1], 12, rfl, SqL.of (s3 _ _ hz), SqL.of upd_same, zb, fb, by omega, by show 3 ≤ 400; decide, by decide, fun pw H3 ws s4 npw hw tw lw => ?_⟩
        exact done H3 pw ws (s3.trans s4) (s3.free npw) hw tw
    obtain ⟨pz, zs, y, rfl, sm, npz, hz, P⟩ := hI
    rw [F.len, List.take_length] at P
    refine ⟨_, rfl, _, rfl, _, _, _, _, rfl, rfl, SqT.of (sm _ _ hb), atI_nat (j := 1) rfl, by show 2 ≤ sizeLine; decide, fun t nt => ?_⟩
    have s2 := sm_new (o := .tup [V.ref pz, V.int l1]) nt
    exact q t _ zs l1 (sm.trans s2) (sm.free nt) ⟨pz, npz, upd_same, s2 _ _ hz⟩ ⟨rfl, P⟩

theorem ok__law_scale (T : Tx K mg) (O__law_trim : OkF P w K mg base 1 (He.fAd K ("_law_trim", none)) ["xs"] (spTri K)) : OkF P w K mg base 2 (He.fAd K ("_law_scale", none)) ["xs", "factor"] (spLSc K) := by
  obtain ⟨_, G__law_trim, b__law_trim, k__law_trim⟩ := O__law_trim
  refine okF_of (d := d__law_scale) T.d__law_scale rfl sc__law_scale (fun _ _ _ _ _ _ us hl => match us, hl with | [_, _], _ => rfl) (fun vs H Q E h => ?_) (fun cdv A outer s H vs Q E hr h => ?_)
  · first | (obtain ⟨_, rfl, _⟩ := h; rfl) | (obtain ⟨_, _, rfl, _⟩ := h; rfl) | (obtain ⟨_, _, _, rfl, _⟩ := h; rfl) | (obtain ⟨_, _, _, _, rfl, _⟩ := h; rfl) | (obtain ⟨_, _, _, _, _, rfl, _⟩ := h; rfl) | (obtain ⟨_, _, _, _, _, _, rfl, _⟩ := h; rfl) | (obtain ⟨_, _, _, _, _, _, _, rfl, _⟩ := h; rfl) | (obtain ⟨_, _, _, _, _, _, _, _, rfl, _⟩ := h; rfl) | (obtain ⟨_, _, _, _, _, _, _, _, _, rfl, _⟩ := h; rfl) | (obtain ⟨_, _, _, _, _, _, _, _, _, _, rfl, _⟩ := h; rfl)
  · obtain ⟨a, xs, c, k, rfl, hA, b1, bc, l1, hk, q⟩ := h
    refine ⟨_, (pss_one (ps_ret (pe_call G__law_trim (hr.mono (by decide)) (by rfl) T.g__law_trim k__law_trim b__law_trim .nil passL (pa_cons (pe_lc (own := [("x", 2)]) (g := gName 2) rfl sc__law_scale.nd (pi_list (pv 0)) (blkOk_by (own := [("x", 2)]) (N := N__law_scale) (sc := defScope s__law_scale) (by decide +kernel)) (fun _ _ _ _ _ => (pg_name (i := 2) sc__law_scale.nd rfl (Or.inl rfl))) (fun _ _ _ _ _ => pts_nil) (fun _ _ _ _ _ => (pe_op op_mulW (pv 1) (pv 2)))) pa_nil)))), ?_⟩
    refine ⟨_, rfl, _, rfl, ⟨_, hA⟩, fun D nD => lc_list (K := K) (a := a) (xs := xs.map V.int) (fun i H' => Same H H' ∧ ∃ ms : List Int, H' D = some (.lst (ms.map V.int)) ∧ ms.length = i ∧ ms = (xs.take i).map (fun x => c * x)) ⟨sm_new nD, [], upd_same, rfl, rfl⟩ (fun i H' hi hP => hP.1.seq hA) (fun i x H' hi hP => ?_) (fun H' hP => ?_)⟩
    · obtain ⟨sm, ms, hD, hml, hm⟩ := hP
      obtain ⟨m, hx, rfl⟩ := get_map_int hi
      have il : i < xs.length := (List.getElem?_eq_some_iff.mp hx).1
      refine ⟨rfl, yes_ok (iteK rfl ?_)⟩
      refine ⟨_, rfl, _, rfl, _, _, rfl, rfl, mulW bc (b1.all m (List.mem_of_getElem? hx)) (by omega), ms.map V.int, hD, by rw [len_map]; exact small1000 (by omega), same_mut sm nD, ms ++ [c * m], ?_, by rw [List.length_append, hml]; rfl, ?_⟩
      · rw [upd_same, List.map_append]
        rfl
      · rw [hm, List.take_succ, hx, List.map_append]
        rfl
    · obtain ⟨sm, ms, hD, hml, hm⟩ := hP
      rw [len_map, List.take_length] at hm
      have ml2 : ms.length = xs.length := by rw [hml, len_map]
      refine ⟨D, ms, rfl, SqL.of hD, by omega, fun p H2 zs sm2 np hp t tl => ?_⟩
      exact q p H2 zs (sm.trans sm2) (sm.free np) hp (t.congr fun k => by rw [hm]; exact getD_map (f := fun x => c * x) (Int.mul_zero c) xs k) (by omega)

theorem ok__law_sum (T : Tx K mg) (O__law_trim : OkF P w K mg base 1 (He.fAd K ("_law_trim", none)) ["xs"] (spTri K)) : OkF P w K mg base 2 (He.fAd K ("_law_sum", none)) ["xs", "ys"] (spLSm K) := by
  obtain ⟨_, G__law_trim, b__law_trim, k__law_trim⟩ := O__law_trim
  refine okF_of (d := d__law_sum) T.d__law_sum rfl sc__law_sum (fun _ _ _ _ _ _ us hl => match us, hl with | [_, _], _ => rfl) (fun vs H Q E h => ?_) (fun cdv A outer s H vs Q E hr h => ?_)
  · first | (obtain ⟨_, rfl, _⟩ := h; rfl) | (obtain ⟨_, _, rfl, _⟩ := h; rfl) | (obtain ⟨_, _, _, rfl, _⟩ := h; rfl) | (obtain ⟨_, _, _, _, rfl, _⟩ := h; rfl) | (obtain ⟨_, _, _, _, _, rfl, _⟩ := h; rfl) | (obtain ⟨_, _, _, _, _, _, rfl, _⟩ := h; rfl) | (obtain ⟨_, _, _, _, _, _, _, rfl, _⟩ := h; rfl) | (obtain ⟨_, _, _, _, _, _, _, _, rfl, _⟩ := h; rfl) | (obtain ⟨_, _, _, _, _, _, _, _, _, rfl, _⟩ := h; rfl) | (obtain ⟨_, _, _, _, _, _, _, _, _, _, rfl, _⟩ := h; rfl)
  · obtain ⟨a, b, xs, ys, rfl, hA, hB, l1, l2, q⟩ := h
    refine ⟨_, (pss_cons (ps_setLc (i := 2) (own := [("k", 5)]) (g := gName 5) rfl sc__law_sum.nd rfl rfl (sw_true rfl rfl rfl (by decide +kernel)) (pi_range1 rfl T.z_range (pa_cons (pe_callB (call_max2 rfl) (by rfl) T.z_max (by decide +kernel) (pa_cons (pe_callB call_len_seq (by rfl) T.z_len PySem.boot_len (pa_cons (pv 0) pa_nil)) (pa_cons (pe_callB call_len_seq (by rfl) T.z_len PySem.boot_len (pa_cons (pv 1) pa_nil)) pa_nil))) pa_nil)) (blkOk_by (own := [("k", 5)]) (N := N__law_sum) (sc := defScope s__law_sum) (by decide +kernel)) (fun _ _ _ _ _ => (pg_name (i := 5) sc__law_sum.nd rfl (Or.inl rfl))) (fun _ _ _ _ _ => pts_nil) (fun _ _ _ _ _ => pe_int))
      (pss_cons (ps_for PassesOwn.leaving rfl (pi_range1 rfl T.z_range (pa_cons (pe_callB call_len_seq (by rfl) T.z_len PySem.boot_len (pa_cons (pv 0) pa_nil)) pa_nil)) (pg_name (i := 3) sc__law_sum.nd rfl (Or.inl rfl)) (pss_one (ps_asg (pe_ix ix_list (pv 0) (pv 3) (fun _ _ => rfl)) (pg_sub (pv 2) (pv 3) set_list))))
      (pss_cons (ps_for PassesOwn.leaving rfl (pi_range1 rfl T.z_range (pa_cons (pe_callB call_len_seq (by rfl) T.z_len PySem.boot_len (pa_cons (pv 1) pa_nil)) pa_nil)) (pg_name (i := 4) sc__law_sum.nd rfl (Or.inl rfl)) (pss_one (ps_asg (pe_op op_add (pe_ix ix_list (pv 2) (pv 4) (fun _ _ => rfl)) (pe_ix ix_list (pv 1) (pv 4) (fun _ _ => rfl))) (pg_sub (pv 2) (pv 4) set_list))))
      (pss_one (ps_ret (pe_call G__law_trim (hr.mono (by decide)) (by rfl) T.g__law_trim k__law_trim b__law_trim .nil passL (pa_cons (pv 2) pa_nil))))))), ?_⟩
    obtain ⟨N, hN, eN⟩ : ∃ N : Nat, N = max xs.length ys.length ∧ (if ((xs.map V.int).length : Int) < ((ys.map V.int).length : Int) then ((ys.map V.int).length : Int) else ((xs.map V.int).length : Int)) = (N : Int) := ⟨_, rfl, by rw [len_map, len_map]; split <;> omega⟩
    refine ⟨_, rfl, _, _, rfl, .inl hA, _, rfl, _, _, rfl, .inl hB, _, _, rfl, _, rfl, by rw [eN]; omega, by rw [eN]; omega, fun D nD => ?_⟩
    rw [eN]
    refine lc_range (lo := 0) (n := N) (fun i H' => Same H H' ∧ H' D = some (.lst ((List.replicate i (0 : Int)).map V.int))) ⟨sm_new nD, upd_same⟩ (fun i H' hi hP => ?_) (fun H1 hP => ?_)
    · obtain ⟨sm, hD⟩ := hP
      refine ⟨rfl, yes_ok (iteK rfl ?_)⟩
      refine ⟨_, hD, by rw [len_map, List.length_replicate]; exact small1000 (by omega), same_mut sm nD, ?_⟩
      rw [upd_same, List.replicate_succ', List.map_append]
      rfl
    obtain ⟨s1, hD⟩ := hP
    refine ⟨_, rfl, _, _, rfl, .inl (s1.seq hA), _, rfl, by rw [len_map]; omega, by rw [len_map]; omega, for_range (lo := 0) (n := ((xs.map V.int).length : Int).toNat) (fun i σ' H' => ∃ (fs : List Int) (yi : Option V), σ' = [some (.ref a), some (.ref b), some (.ref D), yi, none, none] ∧ Same H H' ∧ H' D = some (.lst (fs.map V.int)) ∧ SuA fs xs ys N i 0)
      ⟨_, none, rfl, s1, hD, SuA.start⟩ (fun i σ' H' hi hI => ?_) (fun σ' H' hI => ?_)⟩
    · obtain ⟨fs, yk, rfl, sm, hf, m⟩ := hI
      rw [len_map] at hi
      have il : i < xs.length := by omega
      have fl : i < fs.length := by rw [m.len]; omega
      refine ⟨_, rfl, _, rfl, _, _, _, _, rfl, rfl, sm.seq hA, at_of (j := i) (by omega) (map_at (get_of_lt il)), _, rfl, _, rfl, D, _, _, i, rfl, rfl, hf, ixN_at (by omega) (by rw [len_map]; exact fl), ?_⟩
      exact ⟨_, _, rfl, same_mut sm nD, by rw [upd_same, map_set_V], m.one (by omega)⟩
    obtain ⟨fs, yk, rfl, sm, hf, m⟩ := hI
    rw [len_map] at m
    replace m : SuA fs xs ys N xs.length 0 := m
    refine ⟨_, rfl, _, _, rfl, .inl (sm.seq hB), _, rfl, by rw [len_map]; omega, by rw [len_map]; omega, for_range (lo := 0) (n := ((ys.map V.int).length : Int).toNat) (fun i σ' H' => ∃ (fs : List Int) (yj : Option V), σ' = [some (.ref a), some (.ref b), some (.ref D), yk, yj, none] ∧ Same H H' ∧ H' D = some (.lst (fs.map V.int)) ∧ SuA fs xs ys N xs.length i)
      ⟨_, _, rfl, sm, hf, m⟩ (fun i σ' H' hi hI => ?_) (fun σ' H' hI => ?_)⟩
    · obtain ⟨fs, yj, rfl, sm, hf, m⟩ := hI
      rw [len_map] at hi
      have il : i < ys.length := by omega
      have fl : i < fs.length := by rw [m.len]; omega
      refine ⟨_, rfl, _, rfl, _, _, _, _, rfl, rfl, SqL.of hf, at_of (j := i) (by omega) (map_at (get_of_lt fl)), _, rfl, _, rfl, _, _, _, _, rfl, rfl, sm.seq hB, at_of (j := i) (by omega) (map_at (get_of_lt il)), _, _, rfl, rfl, _, rfl, _, rfl, D, _, _, i, rfl, rfl, hf, ixN_at (by omega) (by rw [len_map]; exact fl), ?_⟩
      exact ⟨_, _, rfl, same_mut sm nD, by rw [upd_same, map_set_V], m.two (by omega) rfl⟩
    · obtain ⟨fs, yj, rfl, sm, hf, m⟩ := hI
      rw [len_map] at m
      replace m : SuA fs xs ys N xs.length ys.length := m
      refine ⟨_, rfl, D, fs, rfl, SqL.of hf, by rw [m.len]; omega, fun p H2 zs sm2 np hp t tl => ?_⟩
      exact q p H2 zs (sm.trans sm2) (sm.free np) hp (t.congr m.fin) (by rw [m.len] at tl; omega)

theorem ok__law_plus (T : Tx K mg) (O__law_scale : OkF P w K mg base 2 (He.fAd K ("_law_scale", none)) ["xs", "factor"] (spLSc K)) (O__law_sum : OkF P w K mg base 2 (He.fAd K ("_law_sum", none)) ["xs", "ys"] (spLSm K)) : OkF P w K mg base 3 (He.fAd K ("_law_plus", none)) ["a", "b"] (spLPp K) := by
  obtain ⟨_, G__law_scale, b__law_scale, k__law_scale⟩ := O__law_scale
  obtain ⟨_, G__law_sum, b__law_sum, k__law_sum⟩ := O__law_sum
  refine okF_of (d := d__law_plus) T.d__law_plus rfl sc__law_plus (fun _ _ _ _ _ _ us hl => match us, hl with | [_, _], _ => rfl) (fun vs H Q E h => ?_) (fun cdv A outer s H vs Q E hr h => ?_)
  · first | (obtain ⟨_, rfl, _⟩ := h; rfl) | (obtain ⟨_, _, rfl, _⟩ := h; rfl) | (obtain ⟨_, _, _, rfl, _⟩ := h; rfl) | (obtain ⟨_, _, _, _, rfl, _⟩ := h; rfl) | (obtain ⟨_, _, _, _, _, rfl, _⟩ := h; rfl) | (obtain ⟨_, _, _, _, _, _, rfl, _⟩ := h; rfl) | (obtain ⟨_, _, _, _, _, _, _, rfl, _⟩ := h; rfl) | (obtain ⟨_, _, _, _, _, _, _, _, rfl, _⟩ := h; rfl) | (obtain ⟨_, _, _, _, _, _, _, _, _, rfl, _⟩ := h; rfl) | (obtain ⟨_, _, _, _, _, _, _, _, _, _, rfl, _⟩ := h; rfl)
  · obtain ⟨a, b, xs, ys, d, e, k, rfl, ⟨l, ha, hA⟩, ⟨m, hb, hB⟩, b1, b2, b3, b4, l1, l2, hk, q⟩ := h
    refine ⟨_, (pss_one (ps_ret (pe_tup (pa_cons (pe_call G__law_sum (hr.mono (by decide)) (by rfl) T.g__law_sum k__law_sum b__law_sum .nil passL (pa_cons (pe_call G__law_scale (hr.mono (by decide)) (by rfl) T.g__law_scale k__law_scale b__law_scale .nil passL (pa_cons (pe_ix ix_tup (pv 0) pe_int (fun _ _ => rfl)) (pa_cons (pe_ix ix_tup (pv 1) pe_int (fun _ _ => rfl)) pa_nil))) (pa_cons (pe_call G__law_scale (hr.mono (by decide)) (by rfl) T.g__law_scale k__law_scale b__law_scale .nil passL (pa_cons (pe_ix ix_tup (pv 1) pe_int (fun _ _ => rfl)) (pa_cons (pe_ix ix_tup (pv 0) pe_int (fun _ _ => rfl)) pa_nil))) pa_nil))) (pa_cons (pe_op op_mulW (pe_ix ix_tup (pv 0) pe_int (fun _ _ => rfl)) (pe_ix ix_tup (pv 1) pe_int (fun _ _ => rfl))) pa_nil))))), ?_⟩
    refine ⟨_, rfl, _, _, _, _, rfl, rfl, SqT.of ha, atI_nat (j := 0) rfl, _, rfl, _, _, _, _, rfl, rfl, SqT.of hb, atI_nat (j := 1) rfl, l, xs, e, k, rfl, SqL.of hA, b1, b4, by omega, by omega, fun p1 H1 us s1 np1 hp1 t1 tl1 => ?_⟩
    refine ⟨_, rfl, _, _, _, _, rfl, rfl, SqT.of (s1 _ _ hb), atI_nat (j := 0) rfl, _, rfl, _, _, _, _, rfl, rfl, SqT.of (s1 _ _ ha), atI_nat (j := 1) rfl, m, ys, d, k, rfl, SqL.of (s1 _ _ hB), b2, b3, by omega, by omega, fun p2 H2 ws s2 np2 hp2 t2 tl2 => ?_⟩
    refine ⟨p1, p2, us, ws, rfl, SqL.of (s2 _ _ hp1), SqL.of hp2, by omega, by omega, fun p3 H3 zs s3 np3 hp3 t3 tl3 => ?_⟩
    have s13 := (s1.trans s2).trans s3
    refine ⟨_, rfl, _, _, _, _, rfl, rfl, SqT.of (s13 _ _ ha), atI_nat (j := 1) rfl, _, rfl, _, _, _, _, rfl, rfl, SqT.of (s13 _ _ hb), atI_nat (j := 1) rfl, _, _, rfl, rfl, mulW b3 b4 (by omega), by show 2 ≤ sizeLine; decide, fun p4 np4 => ?_⟩
    have s4 := sm_new (o := .tup [.ref p3, .int (d * e)]) np4
    exact q p4 _ zs (d * e) (s13.trans s4) (s13.free np4) ⟨p3, (s1.trans s2).free np3, upd_same, s4 _ _ hp3⟩ ⟨rfl, t3.congr fun i => by rw [t1.at_, t2.at_], by omega⟩

theorem ok__law_is_small (T : Tx K mg) : OkF P w K mg base 1 (He.fAd K ("_law_is_small", none)) ["xs"] (spLSml K) := by
  refine okF_of (d := d__law_is_small) T.d__law_is_small rfl sc__law_is_small (fun _ _ _ _ _ _ us hl => match us, hl with | [_], _ => rfl) (fun vs H Q E h => ?_) (fun cdv A outer s H vs Q E hr h => ?_)
  · (obtain ⟨_, _, _, rfl, _⟩ := h; rfl)
  · obtain ⟨a, xs, k, rfl, hS, hl, hb, hk, q⟩ := h
    refine ⟨_, (pss_cons (ps_if (pt_cmpR op_eq (pe_callB call_len_seq (by rfl) T.z_len PySem.boot_len (pa_cons (pv 0) pa_nil)) pe_int (nomark _)) (pss_one (ps_ret pe_bl)) pss_nil)
      (pss_one (ps_ret (pe_cmpR op_le (pe_callB (cr_max rfl) (by rfl) T.z_max (by decide +kernel) (pa_cons (pe_lc (own := [("x", 1)]) (g := gName 1) rfl sc__law_is_small.nd (pi_list (pv 0)) (blkOk_by (own := [("x", 1)]) (N := N__law_is_small) (sc := defScope s__law_is_small) (by decide +kernel)) (fun _ _ _ _ _ => (pg_name (i := 1) sc__law_is_small.nd rfl (Or.inl rfl))) (fun _ _ _ _ _ => pts_nil) (fun _ _ _ _ _ => (pe_callB call_abs (by rfl) T.z_abs (by decide +kernel) (pa_cons (pv 1) pa_nil)))) pa_nil)) (pe_op op_mulW pe_int (pe_callB call_abs (by rfl) T.z_abs (by decide +kernel) (pa_cons (pe_ix ix_list (pv 0) (pe_op op_sub (pe_callB call_len_seq (by rfl) T.z_len PySem.boot_len (pa_cons (pv 0) pa_nil)) pe_int) (fun _ _ => rfl)) pa_nil))) (nomark _))))), ?_⟩
    refine ⟨_, rfl, _, _, rfl, .inl hS, rfl, _, rfl, iteEq (fun c => ?_) (fun c => ?_)⟩
    · exact q false H (fun _ _ e => e) (fun w => Bool.noConfusion w)
    rw [len_map] at c
    have xne : 0 < xs.length := by omega
    refine ⟨_, rfl, _, rfl, ⟨_, hS⟩, fun D nD => lc_list (K := K) (a := a) (xs := xs.map V.int) (fun i HL => Same H HL ∧ HL D = some (.lst (((xs.map fun c => if c < 0 then -c else c).take i).map V.int))) ⟨sm_new nD, by rw [upd_same]; rfl⟩ (fun i HL hi hP => hP.1.seq hS) (fun i y HL hi hP => ?_) (fun HA hP => ?_)⟩
    · obtain ⟨sm, hD⟩ := hP
      obtain ⟨u, hu, rfl⟩ := get_map_int hi
      have hll := (List.getElem?_eq_some_iff.mp hu).1
      refine ⟨rfl, ?_⟩
      unfold tYes
      refine iteK rfl ?_
      refine ⟨_, rfl, _, rfl, _, hD, ?_, same_mut sm nD, ?_⟩
      · rw [len_map, List.length_take, List.length_map]; exact small1000 (by omega)
      · rw [upd_same, List.take_succ, List.map_append, List.getElem?_map, hu]; rfl
    obtain ⟨sA, hD⟩ := hP
    rw [List.take_of_length_le (by rw [List.length_map, List.length_map]; exact Nat.le_refl _)] at hD
    refine ⟨_, _, rfl, SqL.of hD, by rw [List.length_map]; exact xne, fun m hm hle => ?_⟩
    have h0 := hb.getD (xs.length - 1)
    refine ⟨_, rfl, _, rfl, _, _, rfl, .inl (sA.seq hS), _, _, rfl, rfl, _, _, _, _, rfl, rfl, sA.seq hS, at_of (j := xs.length - 1) (by rw [len_map]; omega) (map_at (get_of_lt (by omega))), _, rfl, _, _, rfl, rfl, mulW (i := 9) (a := 4) (b := k) (by decide) (by split <;> omega) (by omega), _, _, rfl, rfl, ?_⟩
    refine q _ HA sA fun w => ⟨fun z => by rw [z] at xne; exact absurd xne (by decide), fun i => ?_⟩
    have w2 := of_decide_eq_true w
    by_cases l : i < xs.length
    · have z := hle _ (List.mem_map_of_mem (f := fun c : Int => if c < 0 then -c else c) (getD_mem l))
      generalize xs.getD i 0 = u at z ⊢
      generalize xs.getD (xs.length - 1) 0 = v at w2 ⊢
      have z2 : (if u < 0 then -u else u) ≤ m := z
      have e1 : (u.natAbs : Int) = if u < 0 then -u else u := by split <;> omega
      have e2 : (v.natAbs : Int) = if v < 0 then -v else v := by split <;> omega
      rw [← e1] at z2
      rw [← e2] at w2
      omega
    · rw [getD_end (by omega)]
      exact Nat.zero_le _

theorem ok__law_closed_form (T : Tx K mg) (O__law_cell : OkF P w K mg base 1 (He.fAd K ("_law_cell", none)) ["script", "k"] (spCell K)) (O__law_factors : OkF P w K mg base 2 (He.fAd K ("_law_factors", none)) ["cell", "most"] (spLFs K)) (O__law_lead : OkF P w K mg base 2 (He.fAd K ("_law_lead", none)) ["cell"] (spLLd K)) (O__law_expand : OkF P w K mg base 3 (He.fAd K ("_law_expand", none)) ["factors", "lead"] (spLEx K)) (O__law_plus : OkF P w K mg base 3 (He.fAd K ("_law_plus", none)) ["a", "b"] (spLPp K)) (O__law_is_small : OkF P w K mg base 1 (He.fAd K ("_law_is_small", none)) ["xs"] (spLSml K)) (O__law_scale : OkF P w K mg base 2 (He.fAd K ("_law_scale", none)) ["xs", "factor"] (spLSc K)) : OkF P w K mg base 5 (He.fAd K ("_law_closed_form", none)) ["script", "at", "most"] (spLCF K) := by
  obtain ⟨_, G__law_cell, b__law_cell, k__law_cell⟩ := O__law_cell
  obtain ⟨_, G__law_factors, b__law_factors, k__law_factors⟩ := O__law_factors
  obtain ⟨_, G__law_lead, b__law_lead, k__law_lead⟩ := O__law_lead
  obtain ⟨_, G__law_expand, b__law_expand, k__law_expand⟩ := O__law_expand
  obtain ⟨_, G__law_plus, b__law_plus, k__law_plus⟩ := O__law_plus
  obtain ⟨_, G__law_is_small, b__law_is_small, k__law_is_small⟩ := O__law_is_small
  obtain ⟨_, G__law_scale, b__law_scale, k__law_scale⟩ := O__law_scale
  refine okF_of (d := d__law_closed_form) T.d__law_closed_form rfl sc__law_closed_form (fun _ _ _ _ _ _ us hl => match us, hl with | [_, _, _], _ => rfl) (fun vs H Q E h => ?_) (fun cdv A outer s H vs Q E hr h => ?_)
  · (obtain ⟨_, _, rfl, _⟩ := h; rfl)
  · obtain ⟨a, ns, rfl, hS, q⟩ := h
    refine ⟨_, (pss_cons (ps_set (i := 3) sc__law_closed_form.nd rfl (Or.inl rfl) (pe_call G__law_expand (hr.mono (by decide)) (by rfl) T.g__law_expand k__law_expand b__law_expand .nil passL (pa_cons (pe_call G__law_factors (hr.mono (by decide)) (by rfl) T.g__law_factors k__law_factors b__law_factors .nil passL (pa_cons (pe_call G__law_cell (hr.mono (by decide)) (by rfl) T.g__law_cell k__law_cell b__law_cell .nil passL (pa_cons (pv 0) (pa_cons (pv 1) pa_nil))) (pa_cons (pv 2) pa_nil))) (pa_cons (pe_call G__law_lead (hr.mono (by decide)) (by rfl) T.g__law_lead k__law_lead b__law_lead .nil passL (pa_cons (pe_call G__law_cell (hr.mono (by decide)) (by rfl) T.g__law_cell k__law_cell b__law_cell .nil passL (pa_cons (pv 0) (pa_cons (pv 1) pa_nil))) pa_nil)) pa_nil))))
      (pss_cons (ps_set (i := 4) sc__law_closed_form.nd rfl (Or.inl rfl) (pe_call G__law_expand (hr.mono (by decide)) (by rfl) T.g__law_expand k__law_expand b__law_expand .nil passL (pa_cons (pe_call G__law_factors (hr.mono (by decide)) (by rfl) T.g__law_factors k__law_factors b__law_factors .nil passL (pa_cons (pe_call G__law_cell (hr.mono (by decide)) (by rfl) T.g__law_cell k__law_cell b__law_cell .nil passL (pa_cons (pv 0) (pa_cons (pe_op op_add (pv 1) pe_int) pa_nil))) (pa_cons (pv 2) pa_nil))) (pa_cons (pe_call G__law_lead (hr.mono (by decide)) (by rfl) T.g__law_lead k__law_lead b__law_lead .nil passL (pa_cons (pe_call G__law_cell (hr.mono (by decide)) (by rfl) T.g__law_cell k__law_cell b__law_cell .nil passL (pa_cons (pv 0) (pa_cons (pe_op op_add (pv 1) pe_int) pa_nil))) pa_nil)) pa_nil))))
      (Evl.pss_cut (ps_if (pt_not (pt_val (pe_call G__law_is_small (hr.mono (by decide)) (by rfl) T.g__law_is_small k__law_is_small b__law_is_small .nil passL (pa_cons (pe_ix ix_tup (pe_call G__law_plus (hr.mono (by decide)) (by rfl) T.g__law_plus k__law_plus b__law_plus .nil passL (pa_cons (pv 3) (pa_cons (pv 4) pa_nil))) pe_int (fun _ _ => rfl)) pa_nil)))) (pss_cons (ps_setI (i := 5) sc__law_closed_form.nd rfl (Or.inl rfl) (pe_ix ix_list (pe_ix ix_tup (pv 4) pe_int (fun _ _ => rfl)) (pe_op op_sub (pe_callB call_len_seq (by rfl) T.z_len PySem.boot_len (pa_cons (pe_ix ix_tup (pv 4) pe_int (fun _ _ => rfl)) pa_nil)) pe_int) (fun _ _ => rfl)))
      (pss_cons (ps_setI (i := 6) sc__law_closed_form.nd rfl (Or.inl rfl) (pe_callB call_abs (by rfl) T.z_abs (by decide +kernel) (pa_cons (pe_ix ix_list (pe_ix ix_tup (pv 3) pe_int (fun _ _ => rfl)) (pe_op op_sub (pe_callB call_len_seq (by rfl) T.z_len PySem.boot_len (pa_cons (pe_ix ix_tup (pv 3) pe_int (fun _ _ => rfl)) pa_nil)) pe_int) (fun _ _ => rfl)) pa_nil)))
      (pss_one (ps_if (pt_cmpR op_ge (pe_callB call_len_seq (by rfl) T.z_len PySem.boot_len (pa_cons (pe_ix ix_tup (pv 3) pe_int (fun _ _ => rfl)) pa_nil)) (pe_callB call_len_seq (by rfl) T.z_len PySem.boot_len (pa_cons (pe_ix ix_tup (pv 4) pe_int (fun _ _ => rfl)) pa_nil)) (nomark _)) (pss_one (ps_set (i := 3) sc__law_closed_form.nd rfl (Or.inl rfl) (pe_tup (pa_cons (pe_call G__law_scale (hr.mono (by decide)) (by rfl) T.g__law_scale k__law_scale b__law_scale .nil passL (pa_cons (pe_ix ix_tup (pv 3) pe_int (fun _ _ => rfl)) (pa_cons (pe_op op_mulW pe_int (pv 5)) pa_nil))) (pa_cons (pe_op op_mulW (pv 6) (pe_ix ix_tup (pv 4) pe_int (fun _ _ => rfl))) pa_nil))))) (pss_one (ps_set (i := 3) sc__law_closed_form.nd rfl (Or.inl rfl) (pe_tup (pa_cons (pe_call G__law_scale (hr.mono (by decide)) (by rfl) T.g__law_scale k__law_scale b__law_scale .nil passL (pa_cons (pe_ix ix_tup (pv 3) pe_int (fun _ _ => rfl)) (pa_cons (pv 5) pa_nil))) (pa_cons (pe_op op_mulW (pe_op op_mulW pe_int (pv 6)) (pe_ix ix_tup (pv 4) pe_int (fun _ _ => rfl))) pa_nil))))))))) pss_nil)
      (pss_one (ps_ret (pe_lst (pa_cons (pv 3) (pa_cons (pv 4) pa_nil)))))))), ?_⟩
    refine ⟨_, rfl, _, rfl, a, ns, 1, rfl, hS, by decide, fun c1 => ?_⟩
    refine ⟨_, rfl, c1, rfl, fun pf H1 vl fs s1 npf hf F ok fl => ?_⟩
    refine ⟨_, rfl, _, rfl, a, ns, 1, rfl, s1.seq hS, by decide, fun c2 => ?_⟩
    refine ⟨c2, rfl, fun pL H2 l0 l1 s2 npl hl l00 l03 l11 l13 => ?_⟩
    refine ⟨pf, pL, vl, fs, l0, l1, rfl, s2 _ _ hf, F.mono s2, ok, fl, hl, l00, l03, fun ps H3 xs d s3 nps hs P => ?_⟩
    obtain ⟨rfl, P⟩ := P
    have s13 := (s1.trans s2).trans s3
    refine ⟨_, rfl, _, rfl, _, _, rfl, rfl, a, ns, 1 + 1, rfl, s13.seq hS, by decide, fun c3 => ?_⟩
    refine ⟨_, rfl, c3, rfl, fun pf2 H4 vl2 gs s4 npf2 hf2 G ok2 gl => ?_⟩
    have s14 := s13.trans s4
    refine ⟨_, rfl, _, rfl, _, _, rfl, rfl, a, ns, 1 + 1, rfl, s14.seq hS, by decide, fun c4 => ?_⟩
    refine ⟨c4, rfl, fun pL2 H5 m0 m1 s5 npl2 hl2 m00 m03 m11 m13 => ?_⟩
    refine ⟨pf2, pL2, vl2, gs, m0, m1, rfl, s5 _ _ hf2, G.mono s5, ok2, gl, hl2, m00, m03, fun pq H6 ys e s6 npq hq R => ?_⟩
    obtain ⟨rfl, R⟩ := R
    have s46 := (s4.trans s5).trans s6
    have s16 := s13.trans s46
    have hsA := hs.mono s46
    have hqA := hq.a
    clear hf hl hf2 hl2 F G s2 s4 s5 s6 nps npq npf npl npf2 npl2 hs hq
    have px := P.len
    have ry := R.len
    have dx := ok.dg
    have dy := ok2.dg
    have np := P.pos
    have nr := R.pos
    have pw : ∀ k : Int, k ≤ 2 → 3 * 8 ^ k.toNat ≤ 192 := fun k h => by
      have := Nat.mul_le_mul_left 3 (Nat.pow_le_pow_right (show 0 < 8 by decide) (show k.toNat ≤ 2 by omega))
      exact Nat.le_trans this (by decide)
    have xs9 : ∀ i, (xs.getD i 0).natAbs ≤ 192 := fun i => Nat.le_trans (P.sz i) (pw _ dx)
    have ys9 : ∀ i, (ys.getD i 0).natAbs ≤ 192 := fun i => Nat.le_trans (R.sz i) (pw _ dy)
    have xb : Bits 10 xs := bits_of_at fun i => Nat.lt_of_le_of_lt (xs9 i) (by decide)
    have yb : Bits 10 ys := bits_of_at fun i => Nat.lt_of_le_of_lt (ys9 i) (by decide)
    have nx : ∀ z, 10 ≤ z → evL z xs ≠ 0 := fun z hz => by rw [P.ev]; exact Int.mul_ne_zero l00 (by have := fvP_pos hz ok.ok; omega)
    have ny : ∀ z, 10 ≤ z → evL z ys ≠ 0 := fun z hz => by rw [R.ev]; exact Int.mul_ne_zero m00 (by have := fvP_pos hz ok2.ok; omega)
    refine ⟨fun σ' H' => ∃ (ps : Addr) (xs : List Int) (d : Int) (y5 y6 : Option V), σ' = [some (.ref a), some (.int 1), some (.int 2), some (.ref ps), some (.ref pq), y5, y6] ∧ Same H H' ∧ PtA H' ps xs d ∧ PtA H' pq ys e ∧ CfP xs d ys e, ?_, ?_⟩
    · refine ⟨_, rfl, _, rfl, ps, pq, xs, ys, d, e, 10, rfl, hsA, hqA, xb, yb, by omega, by omega, by omega, by omega, by decide, fun pp H7 us g s7 npp hpp tu => ?_⟩
      obtain ⟨eg, tu, lu⟩ := tu
      obtain ⟨pu, npu, hp1, hp2⟩ := id hpp
      have ub : Bits 40 us := bits_tf tu fun i => by
        have x1 := abs_lt_mul (show e.natAbs < 2 ^ 2 by omega) (xb.getD i)
        have y1 := abs_lt_mul (show d.natAbs < 2 ^ 2 by omega) (yb.getD i)
        have z1 : (e * xs.getD i 0 + d * ys.getD i 0).natAbs < 2 ^ (2 + 10 + 1) := by rw [Nat.pow_succ]; omega
        exact abs_mono z1 (by decide)
      have evu : ∀ z, evL z us = e * evL z xs + d * evL z ys := fun z => by
        have a1 := evLp z us
        have e1 : pl us = pc e * pl xs + pc d * pl ys := PS.ext (funext fun i => by
          show us.getD i 0 = cf (cst e) (ff xs) i + cf (cst d) (ff ys) i
          rw [tu.at_, cst_cf, cst_cf])
        rw [e1] at a1
        exact a1.uniq (((Ev.pc e z).mul (evLp z xs)).add ((Ev.pc d z).mul (evLp z ys)))
      refine ⟨_, _, _, _, rfl, rfl, SqT.of hp1, atI_nat (j := 0) rfl, pu, us, 40, rfl, SqL.of hp2, by omega, ub, by decide, fun t H8 s8 ht => ?_⟩
      have s78 := s7.trans s8
      have hs8 := hsA.mono s78
      have hq8 := hqA.mono s78
      have s18 := s16.trans s78
      rcases t with _ | _
      · refine ⟨_, rfl, iteK rfl ?_⟩
        obtain ⟨lq, hq1, hq2⟩ := id hq8
        obtain ⟨ls, hs1, hs2⟩ := id hs8
        have gq := get_of_lt (xs := ys) (k := ys.length - 1) (by omega)
        have gs_ := get_of_lt (xs := xs) (k := xs.length - 1) (by omega)
        refine ⟨_, rfl, _, _, _, _, rfl, rfl, SqT.of hq1, atI_nat (j := 0) rfl, _, rfl, _, _, _, _, rfl, rfl, SqT.of hq1, atI_nat (j := 0) rfl, _, _, rfl, .inl (SqL.of hq2), _, _, rfl, rfl, _, _, _, _, rfl, rfl, SqL.of hq2, at_of (j := ys.length - 1) (by rw [len_map]; omega) (map_at gq), _, rfl, fun top et => ?_⟩
        refine ⟨_, rfl, _, _, _, _, rfl, rfl, SqT.of hs1, atI_nat (j := 0) rfl, _, rfl, _, _, _, _, rfl, rfl, SqT.of hs1, atI_nat (j := 0) rfl, _, _, rfl, .inl (SqL.of hs2), _, _, rfl, rfl, _, _, _, _, rfl, rfl, SqL.of hs2, at_of (j := xs.length - 1) (by rw [len_map]; omega) (map_at gs_), _, rfl, _, rfl, fun bot eb => ?_⟩
        have tb := yb.getD (ys.length - 1)
        have bb := xb.getD (xs.length - 1)
        rw [show ys.length - 1 = (dgS gs).toNat by omega] at et tb
        rw [show xs.length - 1 = (dgS fs).toNat by omega] at eb bb
        rw [← et] at tb
        have bot1 : bot.natAbs < 2 ^ 10 := by rw [eb]; split <;> omega
        rw [R.top] at et
        have bot0 : bot ≠ 0 := fun w => by
          have t0 := P.dg.top
          have t1 : xs.getD (dgS fs).toNat 0 ≠ 0 := t0
          rw [w] at eb
          apply t1
          generalize xs.getD (dgS fs).toNat 0 = v at eb ⊢
          split at eb <;> omega
        have botp : 0 < bot := by
          have : 0 ≤ bot := by rw [eb]; split <;> omega
          omega
        rw [P.top] at eb
        have top0 : top ≠ 0 := by rw [et]; exact Int.mul_ne_zero m00 (by have := ldP_pos gs; omega)
        have top12 : top.natAbs ≤ 12 := by
          rw [et, Int.natAbs_mul]
          exact Nat.le_trans (Nat.mul_le_mul m03 (ldP_le4 gl)) (by decide)
        have bot12 : bot.natAbs ≤ 12 := by
          have z := Nat.le_trans (Nat.mul_le_mul l03 (ldP_le4 fl)) (show 3 * 4 ≤ 12 by decide)
          rw [← Int.natAbs_mul] at z
          rw [eb]
          split <;> omega
        have Fp := ldP_pos fs
        have Gp := ldP_pos gs
        have zsc : ∀ {zs : List Int} {c : Int}, Tf zs (fun k => c * xs.getD k 0) → ∀ z, evL z zs = c * evL z xs := fun t z => evL_sc t z
        refine ⟨_, rfl, _, _, _, _, rfl, rfl, SqT.of hs1, atI_nat (j := 0) rfl, _, _, rfl, .inl (SqL.of hs2), _, rfl, _, _, _, _, rfl, rfl, SqT.of hq1, atI_nat (j := 0) rfl, _, _, rfl, .inl (SqL.of hq2), _, _, rfl, rfl, _, rfl, iteD (fun c5 => ?_) (fun c5 => ?_)⟩
        · rw [len_map, len_map] at c5
          refine ⟨_, rfl, _, _, _, _, rfl, rfl, SqT.of hs1, atI_nat (j := 0) rfl, _, rfl, _, _, rfl, rfl, mulW (i := 7) (a := 3) (b := 10) (by decide) tb (by decide), ls, xs, 7 * top, 14, rfl, SqL.of hs2, xb.mono (by decide), by omega, by omega, by decide, fun pz H9 zs s9 npz hz tz lz => ?_⟩
          refine ⟨_, rfl, _, rfl, _, _, _, _, rfl, rfl, SqT.of (s9 _ _ hq1), atI_nat (j := 1) rfl, _, _, rfl, rfl, mulW bot1 (show e.natAbs < 2 ^ 2 by omega) (by decide), by show 2 ≤ sizeLine; decide, fun t nt => ?_⟩
          have s10 := sm_new (o := .tup [V.ref pz, V.int (bot * e)]) nt
          have be := abs_lt_mul bot1 (show e.natAbs < 2 ^ 2 by omega)
          refine ⟨t, zs, bot * e, _, _, rfl, (s18.trans s9).trans s10, ⟨pz, upd_same, s10 _ _ hz⟩, (hq8.mono s9).mono s10, ⟨tz.self, R.tf, by omega, by omega, fun i => Nat.le_trans (show (zs.getD i 0).natAbs ≤ 84 * 192 by rw [tz.at_, Int.natAbs_mul]; exact Nat.mul_le_mul (show (7 * top).natAbs ≤ 84 by omega) (xs9 i)) (by decide), ys9, Int.mul_pos botp (by omega), by omega, Int.le_trans (Int.mul_le_mul (show bot ≤ 12 by omega) (show e ≤ 3 by omega) (by omega) (by decide)) (by decide), by omega, fun z h => by rw [zsc tz]; exact Int.mul_ne_zero (by omega) (nx z h), ny, fun z h => ?_⟩⟩
          rw [zsc tz, P.ev, R.ev, et]
          have k := sum_nz l00 m00 (G := ldP gs) Fp eb (Int.mul_pos Fp (fvP_pos h ok2.ok)) (seven_lt h ok.ok ok2.ok (by omega) dx)
          have k2 : e * (7 * (m0 * ldP gs) * (l0 * fvP z fs)) + bot * e * (m0 * fvP z gs) = e * (7 * (m0 * ldP gs) * (l0 * fvP z fs) + bot * (m0 * fvP z gs)) := by grind
          rw [k2]
          exact Int.mul_ne_zero (by omega) k
        · rw [len_map, len_map] at c5
          refine ⟨_, rfl, _, _, _, _, rfl, rfl, SqT.of hs1, atI_nat (j := 0) rfl, _, rfl, ls, xs, top, 14, rfl, SqL.of hs2, xb.mono (by decide), by omega, by omega, by decide, fun pz H9 zs s9 npz hz tz lz => ?_⟩
          refine ⟨_, rfl, _, _, rfl, rfl, mulW (i := 7) (a := 3) (b := 10) (by decide) bot1 (by decide), _, rfl, _, _, _, _, rfl, rfl, SqT.of (s9 _ _ hq1), atI_nat (j := 1) rfl, _, _, rfl, rfl, mulW (show (7 * bot).natAbs < 2 ^ 13 by omega) (show e.natAbs < 2 ^ 2 by omega) (by decide), by show 2 ≤ sizeLine; decide, fun t nt => ?_⟩
          have s10 := sm_new (o := .tup [V.ref pz, V.int (7 * bot * e)]) nt
          have be := abs_lt_mul (show (7 * bot).natAbs < 2 ^ 13 by omega) (show e.natAbs < 2 ^ 2 by omega)
          refine ⟨t, zs, 7 * bot * e, _, _, rfl, (s18.trans s9).trans s10, ⟨pz, upd_same, s10 _ _ hz⟩, (hq8.mono s9).mono s10, ⟨tz.self, R.tf, by omega, by omega, fun i => Nat.le_trans (show (zs.getD i 0).natAbs ≤ 12 * 192 by rw [tz.at_, Int.natAbs_mul]; exact Nat.mul_le_mul top12 (xs9 i)) (by decide), ys9, Int.mul_pos (by omega) (by omega), by omega, Int.le_trans (Int.mul_le_mul (show 7 * bot ≤ 84 by omega) (show e ≤ 3 by omega) (by omega) (by decide)) (by decide), by omega, fun z h => by rw [zsc tz]; exact Int.mul_ne_zero top0 (nx z h), ny, fun z h => ?_⟩⟩
          rw [zsc tz, P.ev, R.ev, et]
          have k := sum_nz2 l00 m00 (G := ldP gs) Fp eb (Int.mul_pos Gp (fvP_pos h ok.ok)) (seven_lt h ok2.ok ok.ok (by omega) dy)
          have k2 : e * (m0 * ldP gs * (l0 * fvP z fs)) + 7 * bot * e * (m0 * fvP z gs) = e * (m0 * ldP gs * (l0 * fvP z fs) + 7 * bot * (m0 * fvP z gs)) := by grind
          rw [k2]
          exact Int.mul_ne_zero (by omega) k
      · refine ⟨_, rfl, iteN rfl ?_⟩
        obtain ⟨une, usm⟩ := ht rfl
        exact ⟨ps, xs, d, _, _, rfl, s18, hs8, hq8, ⟨P.tf, R.tf, by omega, by omega, fun i => Nat.le_trans (xs9 i) (by decide), ys9, by omega, by omega, by omega, by omega, nx, ny, fun z hz => by rw [← evu]; exact cauchy9 une (tu.tr.resolve_left (fun w => une (List.eq_nil_of_length_eq_zero w))) usm hz⟩⟩
    rintro _ H7 ⟨ps2, xs2, d2, y5, y6, rfl, s7, hs2, hq2, C⟩
    refine ⟨_, rfl, _, rfl, by show 2 ≤ sizeLine; decide, fun t nt => ?_⟩
    have s8 := sm_new (o := .lst [V.ref ps2, V.ref pq]) nt
    exact q t _ ps2 pq xs2 d2 ys e (s7.trans s8) (s7.free nt) upd_same (hs2.mono s8) (hq2.mono s8) C

theorem ok__law_shift (T : Tx K mg) : OkF P w K mg base 1 (He.fAd K ("_law_shift", none)) ["xs", "step"] (spLSh K) := by
  refine okF_of (d := d__law_shift) T.d__law_shift rfl sc__law_shift (fun _ _ _ _ _ _ us hl => match us, hl with | [_, _], _ => rfl) (fun vs H Q E h => ?_) (fun cdv A outer s H vs Q E hr h => ?_)
  · first | (obtain ⟨_, rfl, _⟩ := h; rfl) | (obtain ⟨_, _, rfl, _⟩ := h; rfl) | (obtain ⟨_, _, _, rfl, _⟩ := h; rfl) | (obtain ⟨_, _, _, _, rfl, _⟩ := h; rfl) | (obtain ⟨_, _, _, _, _, rfl, _⟩ := h; rfl) | (obtain ⟨_, _, _, _, _, _, rfl, _⟩ := h; rfl) | (obtain ⟨_, _, _, _, _, _, _, rfl, _⟩ := h; rfl) | (obtain ⟨_, _, _, _, _, _, _, _, rfl, _⟩ := h; rfl) | (obtain ⟨_, _, _, _, _, _, _, _, _, rfl, _⟩ := h; rfl) | (obtain ⟨_, _, _, _, _, _, _, _, _, _, rfl, _⟩ := h; rfl)
  · obtain ⟨a, cs, s, kb, sb, rfl, hA, hb, hs, hl, hsb, hk, q⟩ := h
    refine ⟨_, (pss_cons (ps_set (i := 2) sc__law_shift.nd rfl (Or.inl rfl) (pe_callTy call_list_of (by rfl) T.z_list (by decide +kernel) (pa_cons (pv 0) pa_nil)))
      (pss_cons (ps_for PassesOwn.leaving rfl (pi_range1 rfl T.z_range (pa_cons (pe_op op_sub (pe_callB call_len_seq (by rfl) T.z_len PySem.boot_len (pa_cons (pv 2) pa_nil)) pe_int) pa_nil)) (pg_name (i := 3) sc__law_shift.nd rfl (Or.inl rfl)) (pss_one (ps_for PassesOwn.leaving rfl (pi_range3 rfl T.z_range (pa_cons (pe_op op_sub (pe_callB call_len_seq (by rfl) T.z_len PySem.boot_len (pa_cons (pv 2) pa_nil)) pe_int) (pa_cons (pe_op op_sub (pv 3) pe_int) (pa_cons (pe_un un_neg pe_int) pa_nil)))) (pg_name (i := 4) sc__law_shift.nd rfl (Or.inl rfl)) (pss_one (ps_asg (pe_op op_add (pe_ix ix_list (pv 2) (pv 4) (fun _ _ => rfl)) (pe_op op_mulW (pv 1) (pe_ix ix_list (pv 2) (pe_op op_add (pv 4) pe_int) (fun _ _ => rfl)))) (pg_sub (pv 2) (pv 4) set_list))))))
      (pss_one (ps_ret (pv 2))))), ?_⟩
    refine ⟨_, rfl, a, _, rfl, .inl hA, fun p np => ?_⟩
    have s1 := sm_new (o := .lst (cs.map V.int)) np
    have hp : (upd H p (.lst (cs.map V.int))) p = some (.lst (cs.map V.int)) := upd_same
    generalize upd H p (.lst (cs.map V.int)) = H1 at s1 hp ⊢
    have le : ∀ t, t ≤ (cs.length + 1) * (cs.length + 1) → kb + (sb + 1) * t ≤ 400000 := fun t ht => Nat.le_trans (Nat.add_le_add_left (Nat.mul_le_mul_left _ ht) _) hk
    have fin : ∀ H' fs i, Same H H' → H' p = some (.lst (fs.map V.int)) → ShAt s cs fs i → cs.length ≤ i + 1 → Bits (kb + (sb + 1) * (i * (cs.length + 1))) fs → i ≤ cs.length → Q (.ref p) H' := fun H' fs i sm hf m hi mb il => by
      refine q p H' fs sm np hf ⟨fun k => by rw [m.fin hi, shC_eq], m.len⟩ (mb.mono ?_)
      exact Nat.add_le_add_left (Nat.mul_le_mul_left _ (Nat.mul_le_mul_right _ (by omega))) _
    refine ⟨_, rfl, _, _, rfl, .inl (SqL.of hp), _, _, rfl, rfl, _, rfl, by rw [len_map]; omega, by rw [len_map]; omega, for_range (lo := 0) (n := (((cs.map V.int).length : Int) - 1).toNat) (fun i σ' H' => ∃ (fs : List Int) (yi yj : Option V), σ' = [some (.ref a), some (.int s), some (.ref p), yi, yj] ∧ Same H H' ∧ H' p = some (.lst (fs.map V.int)) ∧ ShAt s cs fs i ∧ Bits (kb + (sb + 1) * (i * (cs.length + 1))) fs)
      ⟨cs, none, none, rfl, s1, hp, ShAt.start, by rw [Nat.zero_mul, Nat.mul_zero]; exact hb⟩ (fun i σ' H' hi hI => ?_) (fun σ' H' hI => ?_)⟩
    · obtain ⟨fs, yi, yj, rfl, sm, hf, m, mb⟩ := hI
      rw [len_map] at hi
      have il : i + 1 < cs.length := by omega
      have fl := m.len
      have lt1 : i * (cs.length + 1) + (cs.length + 1) ≤ (cs.length + 1) * (cs.length + 1) := by
        have z := Nat.mul_le_mul_right (cs.length + 1) (show i + 1 ≤ cs.length + 1 by omega)
        rwa [Nat.add_mul, Nat.one_mul] at z
      have lm : ((fs.map V.int).length : Int) = (cs.length : Int) := by rw [len_map, fl]
      refine ⟨_, rfl, _, _, rfl, .inl (SqL.of hf), _, _, rfl, rfl, _, rfl, _, _, rfl, rfl, _, rfl, _, _, _, _, rfl, RgC.neg (by omega) (by omega) (by omega) (by omega), ?_⟩
      rw [lm]
      refine for_rangeC (lo := (cs.length : Int) - 2) (c := -1) (n := ((cs.length : Int) - 2 - (0 + (i : Int) - 1)).toNat) (fun t σ' H' => ∃ (gs : List Int) (yj : Option V), σ' = [some (.ref a), some (.int s), some (.ref p), some (.int (0 + (i : Int))), yj] ∧ Same H H' ∧ H' p = some (.lst (gs.map V.int)) ∧ ShIn s fs gs (cs.length - 1 - t) ∧ Bits (kb + (sb + 1) * (i * (cs.length + 1) + t)) gs)
        ⟨fs, _, rfl, sm, hf, by have z := ShIn.start (s := s) (fs := fs); rwa [fl] at z, mb⟩ (fun t σ' H' ht hI => ?_) (fun σ' H' hI => ?_)
      · obtain ⟨gs, yj, rfl, sm, hg, mi, gb⟩ := hI
        obtain ⟨j, hj⟩ : ∃ j : Nat, cs.length - 1 - t = j + 1 := ⟨cs.length - 2 - t, by omega⟩
        rw [hj] at mi
        have gl := mi.len
        have le1 := le (i * (cs.length + 1) + t) (by omega)
        refine ⟨_, rfl, _, rfl, _, _, _, _, rfl, rfl, SqL.of hg, at_of (j := j) (by omega) (map_at (get_of_lt (by omega))), _, rfl, _, rfl, _, rfl, _, _, rfl, rfl, _, _, _, _, rfl, rfl, SqL.of hg, at_of (j := j + 1) (by omega) (map_at (get_of_lt (by omega))), _, _, rfl, rfl, mulW hs (gb.getD (j + 1)) (by omega), _, _, rfl, rfl, _, rfl, _, rfl, p, _, _, j, rfl, rfl, hg, ixN_at (by omega) (by rw [len_map]; omega), ?_⟩
        have e2 : cs.length - 1 - (t + 1) = j := by omega
        have gb2 : Bits (kb + (sb + 1) * (i * (cs.length + 1) + (t + 1))) gs := gb.mono (Nat.add_le_add_left (Nat.mul_le_mul_left _ (by omega)) _)
        refine ⟨_, _, rfl, same_mut sm np, by rw [upd_same, map_set_V], by rw [e2]; exact mi.step (by omega) rfl, gb2.set (abs_mono (sz_add (gb.getD j) (abs_lt_mul hs (gb.getD (j + 1)))) ?_)⟩
        rw [show i * (cs.length + 1) + (t + 1) = (i * (cs.length + 1) + t) + 1 by omega, Nat.mul_add (sb + 1) _ 1]
        omega
      · obtain ⟨gs, yj, rfl, sm, hg, mi, gb⟩ := hI
        rw [show cs.length - 1 - ((cs.length : Int) - 2 - (0 + (i : Int) - 1)).toNat = i by omega] at mi
        refine ⟨gs, _, _, rfl, sm, hg, m.pass mi (by omega), gb.mono (Nat.add_le_add_left (Nat.mul_le_mul_left _ ?_) _)⟩
        rw [Nat.add_mul, Nat.one_mul]
        omega
    · obtain ⟨fs, yi, yj, rfl, sm, hf, m, mb⟩ := hI
      rw [len_map] at m mb
      exact ⟨_, rfl, fin H' fs _ sm hf m (by omega) mb (by omega)⟩

theorem ok__law_move (T : Tx K mg) (O__law_shift : OkF P w K mg base 1 (He.fAd K ("_law_shift", none)) ["xs", "step"] (spLSh K)) : OkF P w K mg base 3 (He.fAd K ("_law_move", none)) ["part", "step"] (spLMv K) := by
  obtain ⟨_, G__law_shift, b__law_shift, k__law_shift⟩ := O__law_shift
  refine okF_of (d := d__law_move) T.d__law_move rfl sc__law_move (fun _ _ _ _ _ _ us hl => match us, hl with | [_, _], _ => rfl) (fun vs H Q E h => ?_) (fun cdv A outer s H vs Q E hr h => ?_)
  · first | (obtain ⟨_, rfl, _⟩ := h; rfl) | (obtain ⟨_, _, rfl, _⟩ := h; rfl) | (obtain ⟨_, _, _, rfl, _⟩ := h; rfl) | (obtain ⟨_, _, _, _, rfl, _⟩ := h; rfl) | (obtain ⟨_, _, _, _, _, rfl, _⟩ := h; rfl) | (obtain ⟨_, _, _, _, _, _, rfl, _⟩ := h; rfl) | (obtain ⟨_, _, _, _, _, _, _, rfl, _⟩ := h; rfl) | (obtain ⟨_, _, _, _, _, _, _, _, rfl, _⟩ := h; rfl) | (obtain ⟨_, _, _, _, _, _, _, _, _, rfl, _⟩ := h; rfl) | (obtain ⟨_, _, _, _, _, _, _, _, _, _, rfl, _⟩ := h; rfl)
  · obtain ⟨a, cs, d, s, kb, sb, rfl, ⟨l, ha, hA⟩, hb, hs, hl, hsb, hk, q⟩ := h
    refine ⟨_, (pss_one (ps_ret (pe_tup (pa_cons (pe_call G__law_shift (hr.mono (by decide)) (by rfl) T.g__law_shift k__law_shift b__law_shift .nil passL (pa_cons (pe_ix ix_tup (pv 0) pe_int (fun _ _ => rfl)) (pa_cons (pv 1) pa_nil))) (pa_cons (pe_ix ix_tup (pv 0) pe_int (fun _ _ => rfl)) pa_nil))))), ?_⟩
    refine ⟨_, rfl, _, _, _, _, rfl, rfl, SqT.of ha, atI_nat (j := 0) rfl, _, rfl, l, cs, s, kb, sb, rfl, SqL.of hA, hb, hs, hl, hsb, hk, fun p H1 zs sm np hp iz bz => ?_⟩
    refine ⟨_, rfl, _, _, _, _, rfl, rfl, SqT.of (sm _ _ ha), atI_nat (j := 1) rfl, by show 2 ≤ sizeLine; decide, fun p2 np2 => ?_⟩
    have s2 := sm_new (o := .tup [.ref p, .int d]) np2
    exact q p2 _ zs d (sm.trans s2) (sm.free np2) ⟨p, np, upd_same, s2 _ _ hp⟩ ⟨rfl, iz, bz⟩

theorem ok__law_times (T : Tx K mg) (O__law_mul : OkF P w K mg base 2 (He.fAd K ("_law_mul", none)) ["xs", "ys"] (spLMl K)) : OkF P w K mg base 3 (He.fAd K ("_law_times", none)) ["a", "b"] (spLTm K) := by
  obtain ⟨_, G__law_mul, b__law_mul, k__law_mul⟩ := O__law_mul
  refine okF_of (d := d__law_times) T.d__law_times rfl sc__law_times (fun _ _ _ _ _ _ us hl => match us, hl with | [_, _], _ => rfl) (fun vs H Q E h => ?_) (fun cdv A outer s H vs Q E hr h => ?_)
  · first | (obtain ⟨_, rfl, _⟩ := h; rfl) | (obtain ⟨_, _, rfl, _⟩ := h; rfl) | (obtain ⟨_, _, _, rfl, _⟩ := h; rfl) | (obtain ⟨_, _, _, _, rfl, _⟩ := h; rfl) | (obtain ⟨_, _, _, _, _, rfl, _⟩ := h; rfl) | (obtain ⟨_, _, _, _, _, _, rfl, _⟩ := h; rfl) | (obtain ⟨_, _, _, _, _, _, _, rfl, _⟩ := h; rfl) | (obtain ⟨_, _, _, _, _, _, _, _, rfl, _⟩ := h; rfl) | (obtain ⟨_, _, _, _, _, _, _, _, _, rfl, _⟩ := h; rfl) | (obtain ⟨_, _, _, _, _, _, _, _, _, _, rfl, _⟩ := h; rfl)
  · obtain ⟨a, b, xs, ys, d, e, k, rfl, ⟨l, ha, hA⟩, ⟨m, hb, hB⟩, b1, b2, b3, b4, l1, l2, hk, q⟩ := h
    refine ⟨_, (pss_one (ps_ret (pe_tup (pa_cons (pe_call G__law_mul (hr.mono (by decide)) (by rfl) T.g__law_mul k__law_mul b__law_mul .nil passL (pa_cons (pe_ix ix_tup (pv 0) pe_int (fun _ _ => rfl)) (pa_cons (pe_ix ix_tup (pv 1) pe_int (fun _ _ => rfl)) pa_nil))) (pa_cons (pe_op op_mulW (pe_ix ix_tup (pv 0) pe_int (fun _ _ => rfl)) (pe_ix ix_tup (pv 1) pe_int (fun _ _ => rfl))) pa_nil))))), ?_⟩
    refine ⟨_, rfl, _, _, _, _, rfl, rfl, SqT.of ha, atI_nat (j := 0) rfl, _, rfl, _, _, _, _, rfl, rfl, SqT.of hb, atI_nat (j := 0) rfl, l, m, xs, ys, k, rfl, SqL.of hA, SqL.of hB, b1, b2, l1, l2, by omega, fun p H1 zs sm np hp t tl => ?_⟩
    refine ⟨_, rfl, _, _, _, _, rfl, rfl, SqT.of (sm _ _ ha), atI_nat (j := 1) rfl, _, rfl, _, _, _, _, rfl, rfl, SqT.of (sm _ _ hb), atI_nat (j := 1) rfl, _, _, rfl, rfl, mulW b3 b4 (by omega), by show 2 ≤ sizeLine; decide, fun p2 np2 => ?_⟩
    have s2 := sm_new (o := .tup [.ref p, .int (d * e)]) np2
    exact q p2 _ zs (d * e) (sm.trans s2) (sm.free np2) ⟨p, np, upd_same, s2 _ _ hp⟩ ⟨rfl, t, tl⟩

theorem ok__law_ratio (T : Tx K mg) (O__law_plus : OkF P w K mg base 3 (He.fAd K ("_law_plus", none)) ["a", "b"] (spLPp K)) (O__law_move : OkF P w K mg base 3 (He.fAd K ("_law_move", none)) ["part", "step"] (spLMv K)) (O__law_times : OkF P w K mg base 3 (He.fAd K ("_law_times", none)) ["a", "b"] (spLTm K)) : OkF P w K mg base 4 (He.fAd K ("_law_ratio", none)) ["s", "q"] (spLRat K) := by
  obtain ⟨_, G__law_plus, b__law_plus, k__law_plus⟩ := O__law_plus
  obtain ⟨_, G__law_move, b__law_move, k__law_move⟩ := O__law_move
  obtain ⟨_, G__law_times, b__law_times, k__law_times⟩ := O__law_times
  refine okF_of (d := d__law_ratio) T.d__law_ratio rfl sc__law_ratio (fun _ _ _ _ _ _ us hl => match us, hl with | [_, _], _ => rfl) (fun vs H Q E h => ?_) (fun cdv A outer s H vs Q E hr h => ?_)
  · (obtain ⟨_, _, _, _, _, _, _, rfl, _⟩ := h; rfl)
  · obtain ⟨a, b, xs, ys, d, e, k, rfl, hs, hq, bx, by_, bd, be, lx, ly, hk, q⟩ := h
    refine ⟨_, (pss_cons (ps_set (i := 2) sc__law_ratio.nd rfl (Or.inl rfl) (pe_call G__law_times (hr.mono (by decide)) (by rfl) T.g__law_times k__law_times b__law_times .nil passL (pa_cons (pe_call G__law_plus (hr.mono (by decide)) (by rfl) T.g__law_plus k__law_plus b__law_plus .nil passL (pa_cons (pv 0) (pa_cons (pv 1) pa_nil))) (pa_cons (pe_call G__law_move (hr.mono (by decide)) (by rfl) T.g__law_move k__law_move b__law_move .nil passL (pa_cons (pv 1) (pa_cons pe_int pa_nil))) pa_nil))))
      (pss_cons (ps_set (i := 3) sc__law_ratio.nd rfl (Or.inl rfl) (pe_call G__law_times (hr.mono (by decide)) (by rfl) T.g__law_times k__law_times b__law_times .nil passL (pa_cons (pv 1) (pa_cons (pe_call G__law_move (hr.mono (by decide)) (by rfl) T.g__law_move k__law_move b__law_move .nil passL (pa_cons (pv 0) (pa_cons pe_int pa_nil))) pa_nil))))
      (pss_one (ps_ret (pe_lst (pa_cons (pv 2) (pa_cons (pv 3) pa_nil))))))), ?_⟩
    have sb : ∀ n : Nat, n ≤ 8 → shB k 1 n ≤ 400 := fun n hn => by
      have z := Nat.mul_le_mul_left 2 (Nat.mul_le_mul (show n + 1 ≤ 9 by omega) (show n + 1 ≤ 9 by omega))
      show k + (1 + 1) * ((n + 1) * (n + 1)) ≤ 400
      omega
    refine ⟨_, rfl, _, rfl, a, b, xs, ys, d, e, k, rfl, hs, hq, bx, by_, bd, be, by omega, by omega, by omega, fun p1 H1 us g1 s1 np1 h1 t1 => ?_⟩
    obtain ⟨rfl, tu, lu⟩ := t1
    have bu : Bits 400 us := bits_tf tu fun i => by
      have x := abs_lt_mul be (bx.getD i)
      have y := abs_lt_mul bd (by_.getD i)
      have z : (e * xs.getD i 0 + d * ys.getD i 0).natAbs < 2 ^ (k + k + 1) := by rw [Nat.pow_succ]; omega
      exact abs_mono z (by omega)
    refine ⟨_, rfl, b, ys, e, 1, k, 1, rfl, hq.mono s1, by_, by decide, by omega, by decide, by have := sb _ ly; omega, fun p2 H2 ys1 g2 s2 np2 h2 t2 => ?_⟩
    obtain ⟨e2, iy, b2⟩ := t2
    rw [e2] at h2
    have l2 := iy.len
    refine ⟨p1, p2, us, ys1, d * e, e, 400, rfl, h1.mono s2, h2.a, bu, b2.mono (sb _ ly), abs_mono (abs_lt_mul bd be) (by omega), abs_mono be (by omega), by omega, by omega, by decide, fun p3 H3 zs g3 s3 np3 h3 t3 => ?_⟩
    obtain ⟨rfl, tz, lz⟩ := t3
    have s13 := (s1.trans s2).trans s3
    refine ⟨_, rfl, _, rfl, a, xs, d, 1, k, 1, rfl, hs.mono s13, bx, by decide, by omega, by decide, by have := sb _ lx; omega, fun p4 H4 xs1 g4 s4 np4 h4 t4 => ?_⟩
    obtain ⟨e4, ix, b4⟩ := t4
    rw [e4] at h4
    have l4 := ix.len
    have s14 := s13.trans s4
    refine ⟨b, p4, ys, xs1, e, d, 400, rfl, hq.mono s14, h4.a, by_.mono (by omega), b4.mono (sb _ lx), abs_mono be (by omega), abs_mono bd (by omega), by omega, by omega, by decide, fun p5 H5 ws g5 s5 np5 h5 t5 => ?_⟩
    obtain ⟨rfl, tw, lw⟩ := t5
    have s15 := s14.trans s5
    refine ⟨_, rfl, _, rfl, by show 2 ≤ sizeLine; decide, fun p6 np6 => ?_⟩
    have s6 := sm_new (o := .lst [.ref p3, .ref p5]) np6
    exact q p6 _ p3 p5 zs _ ws _ us xs1 ys1 (s15.trans s6) (s15.free np6) upd_same (h3.mono ((s4.trans s5).trans s6)) (h5.mono s6) ⟨tu, ix, iy, tz, tw, rfl, rfl, by omega, by omega⟩

theorem ok_trimmed (T : Tx K mg) : OkF P w K mg base 1 (He.fAd K ("trimmed", none)) ["coefs"] (spTrim K) := by
  refine okF_of (d := d_trimmed) T.d_trimmed rfl sc_trimmed (fun _ _ _ _ _ _ us hl => match us, hl with | [_], _ => rfl) (fun vs H Q E h => ?_) (fun cdv A outer s H vs Q E hr h => ?_)
  · first | (obtain ⟨_, rfl, _⟩ := h; rfl) | (obtain ⟨_, _, rfl, _⟩ := h; rfl) | (obtain ⟨_, _, _, rfl, _⟩ := h; rfl) | (obtain ⟨_, _, _, _, rfl, _⟩ := h; rfl) | (obtain ⟨_, _, _, _, _, rfl, _⟩ := h; rfl) | (obtain ⟨_, _, _, _, _, _, rfl, _⟩ := h; rfl) | (obtain ⟨_, _, _, _, _, _, _, rfl, _⟩ := h; rfl) | (obtain ⟨_, _, _, _, _, _, _, _, rfl, _⟩ := h; rfl) | (obtain ⟨_, _, _, _, _, _, _, _, _, rfl, _⟩ := h; rfl) | (obtain ⟨_, _, _, _, _, _, _, _, _, _, rfl, _⟩ := h; rfl)
  · obtain ⟨a, xs, rfl, hS, q⟩ := h
    rcases hS with hS | hS
    · refine ⟨_, (pss_cons (ps_setI (i := 1) sc_trimmed.nd rfl (Or.inl rfl) (pe_callB call_len_seq (by rfl) T.z_len PySem.boot_len (pa_cons (pv 0) pa_nil)))
      (pss_cons (ps_while PassesOwn.leaving (PW.pt (pw_and (pt_cmpR op_gt (pv 1) pe_int (nomark _)) (pw_and1 (pt_cmpR op_eq (pe_ix ix_list (pv 0) (pe_op op_sub (pv 1) pe_int) (fun _ _ => rfl)) pe_int (nomark _))))) (pss_one (ps_setI (i := 1) sc_trimmed.nd rfl (Or.inl rfl) (pe_op op_sub (pv 1) pe_int))))
      (pss_one (ps_ret (pe_callTy call_list_of (by rfl) T.z_list (by decide +kernel) (pa_cons (pe_slice sl_list (pv 0) po_none (po_some (pv 1))) pa_nil)))))), ?_⟩
      refine ⟨_, rfl, _, _, rfl, .inl hS, _, rfl, fun l0 el => ?_⟩
      rw [len_map] at el
      refine ⟨fun m σ' H' => H = H' ∧ ∃ n : Nat, σ' = [some (.ref a), some (.int (n : Int))] ∧ m = n ∧ n ≤ xs.length ∧ ∀ k, n ≤ k → xs.getD k 0 = 0, ⟨_, rfl, xs.length, by rw [el]; rfl, rfl, Nat.le_refl _, fun k hk => getD_end hk⟩, ?_⟩
      rintro m _ _ ⟨rfl, n, rfl, rfl, hn, hz⟩
      have fin : (m = 0 ∨ xs.getD (m - 1) 0 ≠ 0) → Trim xs m := fun h => ⟨hn, hz, h⟩
      refine ⟨_, rfl, _, _, rfl, rfl, _, rfl, iteD (fun h1 => ?_) (fun h1 => ?_)⟩
      · have hm : m - 1 < xs.length := by omega
        refine ⟨_, rfl, _, rfl, _, _, rfl, rfl, _, _, _, _, rfl, rfl, hS, at_of (j := m - 1) (by omega) (map_at (get_of_lt hm)), rfl, _, rfl, iteEq (fun h2 => ?_) (fun h2 => ?_)⟩
        · refine ⟨fun σ2 H2 => ∃ m', m' < m ∧ H = H2 ∧ ∃ n : Nat, σ2 = [some (.ref a), some (.int (n : Int))] ∧ m' = n ∧ n ≤ xs.length ∧ ∀ k, n ≤ k → xs.getD k 0 = 0, fun _ _ h => h, ?_⟩
          refine ⟨_, rfl, _, _, rfl, rfl, _, rfl, fun l1 e1 => ?_⟩
          refine ⟨m - 1, by omega, rfl, m - 1, by rw [e1, show (m : Int) - 1 = ((m - 1 : Nat) : Int) by omega]; rfl, rfl, by omega, fun k hk => ?_⟩
          by_cases c : k = m - 1
          · rw [c]; exact h2
          · exact hz k (by omega)
        · have t := fin (.inr h2)
          refine ⟨_, rfl, _, rfl, _, rfl, _, _, rfl, hS, fun p np => ?_⟩
          rw [cut_lo (by rw [len_map]; exact hn), ← List.map_take]
          exact ⟨_, _, rfl, .inl (SqL.of upd_same), fun l nl => q l _ m ((sm_new np).trans (sm_new nl)) ((sm_new np).free nl) upd_same t⟩
      · have t := fin (.inl (by omega))
        refine ⟨_, rfl, _, rfl, _, rfl, _, _, rfl, hS, fun p np => ?_⟩
        rw [cut_lo (by rw [len_map]; exact hn), ← List.map_take]
        exact ⟨_, _, rfl, .inl (SqL.of upd_same), fun l nl => q l _ m ((sm_new np).trans (sm_new nl)) ((sm_new np).free nl) upd_same t⟩
    · refine ⟨_, (pss_cons (ps_setI (i := 1) sc_trimmed.nd rfl (Or.inl rfl) (pe_callB call_len_seq (by rfl) T.z_len PySem.boot_len (pa_cons (pv 0) pa_nil)))
      (pss_cons (ps_while PassesOwn.leaving (PW.pt (pw_and (pt_cmpR op_gt (pv 1) pe_int (nomark _)) (pw_and1 (pt_cmpR op_eq (pe_ix ix_tup (pv 0) (pe_op op_sub (pv 1) pe_int) (fun _ _ => rfl)) pe_int (nomark _))))) (pss_one (ps_setI (i := 1) sc_trimmed.nd rfl (Or.inl rfl) (pe_op op_sub (pv 1) pe_int))))
      (pss_one (ps_ret (pe_callTy call_list_of (by rfl) T.z_list (by decide +kernel) (pa_cons (pe_slice sl_tupA (pv 0) po_none (po_some (pv 1))) pa_nil)))))), ?_⟩
      refine ⟨_, rfl, _, _, rfl, .inr hS, _, rfl, fun l0 el => ?_⟩
      rw [len_map] at el
      refine ⟨fun m σ' H' => H = H' ∧ ∃ n : Nat, σ' = [some (.ref a), some (.int (n : Int))] ∧ m = n ∧ n ≤ xs.length ∧ ∀ k, n ≤ k → xs.getD k 0 = 0, ⟨_, rfl, xs.length, by rw [el]; rfl, rfl, Nat.le_refl _, fun k hk => getD_end hk⟩, ?_⟩
      rintro m _ _ ⟨rfl, n, rfl, rfl, hn, hz⟩
      have fin : (m = 0 ∨ xs.getD (m - 1) 0 ≠ 0) → Trim xs m := fun h => ⟨hn, hz, h⟩
      refine ⟨_, rfl, _, _, rfl, rfl, _, rfl, iteD (fun h1 => ?_) (fun h1 => ?_)⟩
      · have hm : m - 1 < xs.length := by omega
        refine ⟨_, rfl, _, rfl, _, _, rfl, rfl, _, _, _, _, rfl, rfl, hS, at_of (j := m - 1) (by omega) (map_at (get_of_lt hm)), rfl, _, rfl, iteEq (fun h2 => ?_) (fun h2 => ?_)⟩
        · refine ⟨fun σ2 H2 => ∃ m', m' < m ∧ H = H2 ∧ ∃ n : Nat, σ2 = [some (.ref a), some (.int (n : Int))] ∧ m' = n ∧ n ≤ xs.length ∧ ∀ k, n ≤ k → xs.getD k 0 = 0, fun _ _ h => h, ?_⟩
          refine ⟨_, rfl, _, _, rfl, rfl, _, rfl, fun l1 e1 => ?_⟩
          refine ⟨m - 1, by omega, rfl, m - 1, by rw [e1, show (m : Int) - 1 = ((m - 1 : Nat) : Int) by omega]; rfl, rfl, by omega, fun k hk => ?_⟩
          by_cases c : k = m - 1
          · rw [c]; exact h2
          · exact hz k (by omega)
        · have t := fin (.inr h2)
          refine ⟨_, rfl, _, rfl, _, rfl, _, _, rfl, hS, fun w => ?_, fun w p np => ?_⟩
          · have e : xs.take m = xs := by
              have z := w.2
              rw [HT.sIx_nat, len_map] at z
              exact List.take_of_length_le (by omega)
            exact ⟨_, _, rfl, .inr hS, fun l nl => q l _ m (sm_new nl) nl (by rw [e]; exact upd_same) t⟩
          · rw [cut_lo (by rw [len_map]; exact hn), ← List.map_take]
            exact ⟨_, _, rfl, .inr (SqT.of upd_same), fun l nl => q l _ m ((sm_new np).trans (sm_new nl)) ((sm_new np).free nl) upd_same t⟩
      · have t := fin (.inl (by omega))
        refine ⟨_, rfl, _, rfl, _, rfl, _, _, rfl, hS, fun w => ?_, fun w p np => ?_⟩
        · have e : xs.take m = xs := by
            have z := w.2
            rw [HT.sIx_nat, len_map] at z
            exact List.take_of_length_le (by omega)
          exact ⟨_, _, rfl, .inr hS, fun l nl => q l _ m (sm_new nl) nl (by rw [e]; exact upd_same) t⟩
        · rw [cut_lo (by rw [len_map]; exact hn), ← List.map_take]
          exact ⟨_, _, rfl, .inr (SqT.of upd_same), fun l nl => q l _ m ((sm_new np).trans (sm_new nl)) ((sm_new np).free nl) upd_same t⟩

theorem ok_common_factor (T : Tx K mg) : OkF P w K mg base 1 (He.fAd K ("common_factor", none)) ["numbers"] (spCom K) := by
  refine okF_of (d := d_common_factor) T.d_common_factor rfl sc_common_factor (fun _ _ _ _ _ _ us hl => match us, hl with | [_], _ => rfl) (fun vs H Q E h => ?_) (fun cdv A outer s H vs Q E hr h => ?_)
  · first | (obtain ⟨_, rfl, _⟩ := h; rfl) | (obtain ⟨_, _, rfl, _⟩ := h; rfl) | (obtain ⟨_, _, _, rfl, _⟩ := h; rfl) | (obtain ⟨_, _, _, _, rfl, _⟩ := h; rfl) | (obtain ⟨_, _, _, _, _, rfl, _⟩ := h; rfl) | (obtain ⟨_, _, _, _, _, _, rfl, _⟩ := h; rfl) | (obtain ⟨_, _, _, _, _, _, _, rfl, _⟩ := h; rfl) | (obtain ⟨_, _, _, _, _, _, _, _, rfl, _⟩ := h; rfl) | (obtain ⟨_, _, _, _, _, _, _, _, _, rfl, _⟩ := h; rfl) | (obtain ⟨_, _, _, _, _, _, _, _, _, _, rfl, _⟩ := h; rfl)
  · obtain ⟨a, xs, rfl, hS, q⟩ := h
    rcases hS with hS | hS
    · refine ⟨_, (pss_cons (ps_setI (i := 1) sc_common_factor.nd rfl (Or.inl rfl) pe_int)
      (pss_cons (ps_for PassesOwn.leaving rfl (pi_list (pv 0)) (pg_name (i := 2) sc_common_factor.nd rfl (Or.inl rfl)) (pss_cons (ps_setI (i := 1) sc_common_factor.nd rfl (Or.inl rfl) (pe_callBfun cr_gcd rfl T.g_gcd (pa_cons (pv 1) (pa_cons (pv 2) pa_nil))))
      (pss_one (ps_if (pt_cmpR op_eq (pv 1) pe_int (nomark _)) (pss_one (ps_ret pe_int)) pss_nil))))
      (pss_one (ps_ret (pv 1))))), ?_⟩
      refine ⟨_, rfl, fun f0 ef => ?_⟩
      refine ⟨_, rfl, _, rfl, ⟨_, hS⟩, for_list (K := K) (a := a) (xs := xs.map V.int) (fun i σ' H' => H = H' ∧ ∃ y : Option V, σ' = [some (.ref a), some (.int ((gcdL (xs.take i) : Nat) : Int)), y]) ⟨rfl, _, by rw [ef]; rfl⟩ (fun i σ' H' hi hI => ?_) (fun i x σ' H' hi hI => ?_) (fun σ' H' hI => ?_)⟩
      · obtain ⟨rfl, y, rfl⟩ := hI
        exact hS
      · obtain ⟨rfl, y, rfl⟩ := hI
        obtain ⟨n, hn, rfl⟩ : ∃ n, xs[i]? = some n ∧ x = V.int n := by
          rw [List.getElem?_map] at hi
          cases e : xs[i]? with
          | none => rw [e] at hi; cases hi
          | some n => rw [e] at hi; cases hi; exact ⟨n, rfl, rfl⟩
        refine ⟨_, rfl, _, rfl, _, _, rfl, _, rfl, fun f1 e1 => ?_⟩
        rw [Int.natAbs_natCast, ← gcdL_more hn] at e1
        refine ⟨_, rfl, rfl, _, rfl, iteEq (fun c => ?_) (fun c => ?_)⟩
        · have g1 : gcdL xs = 1 := gcdL_one (i := i + 1) (by omega)
          rw [g1] at q
          exact q
        · exact ⟨rfl, _, by rw [e1]; rfl⟩
      · obtain ⟨rfl, y, rfl⟩ := hI
        rw [len_map, List.take_length]
        exact ⟨_, rfl, q⟩
    · refine ⟨_, (pss_cons (ps_setI (i := 1) sc_common_factor.nd rfl (Or.inl rfl) pe_int)
      (pss_cons (ps_for PassesOwn.leaving rfl (pi_tup (pv 0)) (pg_name (i := 2) sc_common_factor.nd rfl (Or.inl rfl)) (pss_cons (ps_setI (i := 1) sc_common_factor.nd rfl (Or.inl rfl) (pe_callBfun cr_gcd rfl T.g_gcd (pa_cons (pv 1) (pa_cons (pv 2) pa_nil))))
      (pss_one (ps_if (pt_cmpR op_eq (pv 1) pe_int (nomark _)) (pss_one (ps_ret pe_int)) pss_nil))))
      (pss_one (ps_ret (pv 1))))), ?_⟩
      refine ⟨_, rfl, fun f0 ef => ?_⟩
      refine ⟨_, rfl, _, rfl, ⟨_, hS⟩, for_tup (K := K) (a := a) (xs := xs.map V.int) (fun i σ' H' => H = H' ∧ ∃ y : Option V, σ' = [some (.ref a), some (.int ((gcdL (xs.take i) : Nat) : Int)), y]) ⟨rfl, _, by rw [ef]; rfl⟩ (fun i σ' H' hi hI => ?_) (fun i x σ' H' hi hI => ?_) (fun σ' H' hI => ?_)⟩
      · obtain ⟨rfl, y, rfl⟩ := hI
        exact hS
      · obtain ⟨rfl, y, rfl⟩ := hI
        obtain ⟨n, hn, rfl⟩ : ∃ n, xs[i]? = some n ∧ x = V.int n := by
          rw [List.getElem?_map] at hi
          cases e : xs[i]? with
          | none => rw [e] at hi; cases hi
          | some n => rw [e] at hi; cases hi; exact ⟨n, rfl, rfl⟩
        refine ⟨_, rfl, _, rfl, _, _, rfl, _, rfl, fun f1 e1 => ?_⟩
        rw [Int.natAbs_natCast, ← gcdL_more hn] at e1
        refine ⟨_, rfl, rfl, _, rfl, iteEq (fun c => ?_) (fun c => ?_)⟩
        · have g1 : gcdL xs = 1 := gcdL_one (i := i + 1) (by omega)
          rw [g1] at q
          exact q
        · exact ⟨rfl, _, by rw [e1]; rfl⟩
      · obtain ⟨rfl, y, rfl⟩ := hI
        rw [len_map, List.take_length]
        exact ⟨_, rfl, q⟩

theorem ok_Poly___init__ (T : Tx K mg) (O_trimmed : OkF P w K mg base 1 (He.fAd K ("trimmed", none)) ["coefs"] (spTrim K)) (O_common_factor : OkF P w K mg base 1 (He.fAd K ("common_factor", none)) ["numbers"] (spCom K)) : OkD P w K mg base 2 (He.fAd K ("Poly", some "__init__")) ["self", "coefs", "den"] (He.Dv.v K (.int 1)) (spPInit K) := by
  obtain ⟨_, G_trimmed, b_trimmed, k_trimmed⟩ := O_trimmed
  obtain ⟨_, G_common_factor, b_common_factor, k_common_factor⟩ := O_common_factor
  refine okD_of (d := d_Poly___init__) (dv := .int 1) T.d_Poly___init__ rfl sc_Poly___init__ (fun _ _ _ _ _ _ _ us its h1 h2 => match us, its, h1, h2 with | [_, _, _], [_], _, _ => ⟨_, rfl, rfl⟩) (fun _ _ _ _ _ _ _ us its h1 h2 => match us, its, h1, h2 with | [_, _], [_], _, _ => ⟨_, rfl, rfl⟩) (by decide) (fun vs H Q E h => ?_) (fun cdv A outer s H vs Q E hr h => ?_)
  · first | (obtain ⟨_, rfl, _⟩ := h; rfl) | (obtain ⟨_, _, rfl, _⟩ := h; rfl) | (obtain ⟨_, _, _, rfl, _⟩ := h; rfl) | (obtain ⟨_, _, _, _, rfl, _⟩ := h; rfl) | (obtain ⟨_, _, _, _, _, rfl, _⟩ := h; rfl) | (obtain ⟨_, _, _, _, _, _, rfl, _⟩ := h; rfl) | (obtain ⟨_, _, _, _, _, _, _, rfl, _⟩ := h; rfl) | (obtain ⟨_, _, _, _, _, _, _, _, rfl, _⟩ := h; rfl) | (obtain ⟨_, _, _, _, _, _, _, _, _, rfl, _⟩ := h; rfl) | (obtain ⟨_, _, _, _, _, _, _, _, _, _, rfl, _⟩ := h; rfl)
  · obtain ⟨x, dx, a, cs, d, k, rfl, hx, hS, hlen, hb, hk, hE, q⟩ := h
    refine ⟨_, (pss_cons (ps_if (pt_cmpR op_eq (pv 2) pe_int (nomark _)) (pss_one (ps_raise rfl (takes_of rfl rfl rfl rfl) (pmk_own PySem.F.excBase_ValueError T.x_DivisionByZero T.g_DivisionByZero T.k_DivisionByZero (T.r_DivisionByZero rfl) rfl))) pss_nil)
      (pss_cons (ps_set (i := 3) sc_Poly___init__.nd rfl (Or.inl rfl) (pe_call G_trimmed (hr.mono (by decide)) (by rfl) T.g_trimmed k_trimmed b_trimmed .nil passL (pa_cons (pv 1) pa_nil)))
      (pss_cons (ps_setI (i := 4) sc_Poly___init__.nd rfl (Or.inr rfl) (pe_call G_common_factor (hr.mono (by decide)) (by rfl) T.g_common_factor k_common_factor b_common_factor .nil passL (pa_cons (pe_op op_cat (pe_lst (pa_cons (pv 2) pa_nil)) (pv 3)) pa_nil)))
      (Evl.pss_cut (ps_if (pt_cmpR op_lt (pv 2) pe_int (nomark _)) (pss_one (ps_setI (i := 4) sc_Poly___init__.nd rfl (Or.inr rfl) (pe_un un_neg (pv 4)))) pss_nil)
      (pss_cons (ps_fld (pv 0) (pe_callTy call_tuple_of (by rfl) T.z_tuple (by decide +kernel) (pa_cons (pe_lc (own := [("c", 5)]) (g := gName 5) rfl sc_Poly___init__.nd (pi_list (pv 3)) (blkOk_by (own := [("c", 5)]) (N := N_Poly___init__) (sc := defScope s_Poly___init__) (by decide +kernel)) (fun _ _ _ _ _ => (pg_name (i := 5) sc_Poly___init__.nd rfl (Or.inl rfl))) (fun _ _ _ _ _ => pts_nil) (fun _ _ _ _ _ => (pe_op op_fdivZ (pv 5) (pv 4)))) pa_nil)) rfl)
      (pss_one (ps_fld (pv 0) (pe_op op_fdivZ (pv 2) (pv 4)) rfl))))))), ?_⟩
    refine ⟨_, rfl, rfl, _, rfl, iteEq (fun c => ?_) (fun c => ?_)⟩
    · exact hE c
    refine ⟨_, rfl, a, cs, rfl, hS, fun p1 H1 n sm1 np1 hp1 tr => ?_⟩
    refine ⟨_, rfl, by show 1 ≤ sizeLine; decide, fun p2 np2 => ?_⟩
    have s2 := sm_new (o := .lst [.int d]) np2
    have lt : (cs.take n).length ≤ 900 := by rw [List.length_take]; omega
    refine ⟨_, rfl, _, _, _, _, rfl, rfl, upd_same, s2 _ _ hp1, (by show 1 + ((cs.take n).map V.int).length ≤ sizeLine; rw [len_map]; exact Nat.le_of_lt (small1000 (by omega))), fun p3 np3 => ?_⟩
    have s3 := sm_new (o := .lst ([.int d] ++ (cs.take n).map V.int)) np3
    refine ⟨_, d :: cs.take n, rfl, .inl (SqL.of upd_same), _, rfl, fun c0 ec => ?_⟩
    generalize hG : upd (upd H1 p2 (.lst [.int d])) p3 (.lst ([.int d] ++ (cs.take n).map V.int)) = G at s3
    have s4 : Same H1 G := s2.trans s3
    refine ⟨fun σ' H' => G = H' ∧ ∃ c : Int, σ' = [some (.ref x), some (.ref a), some (.int d), some (.ref p1), some (.int c), none] ∧ c = if d < 0 then -c0 else c0, ?_, ?_⟩
    · refine ⟨_, rfl, _, _, rfl, rfl, _, rfl, iteD (fun h1 => ?_) (fun h1 => ?_)⟩
      · exact ⟨_, rfl, _, rfl, _, rfl, fun c e => ⟨rfl, c, rfl, by rw [if_pos h1, e]⟩⟩
      · exact ⟨rfl, c0, rfl, by rw [if_neg h1]⟩
    rintro _ _ ⟨rfl, cc, rfl, hc⟩
    rw [ec] at hc
    obtain ⟨cn0, cl, pq⟩ := pq_init c tr hc
    have cd := com_dvd tr hc
    have dz : ∀ u, CDivZ u cc := fun u => divZ cn0 (hb c _ cd.1 cd.2) hk
    have hp1G := s4 _ _ hp1
    refine ⟨_, rfl, _, rfl, ⟨_, SqL.of hp1G⟩, fun D nD => lc_list (K := K) (a := p1) (xs := (cs.take n).map V.int) (fun i H' => Same G H' ∧ H' D = some (.lst ((((cs.take n).map fun x => x.fdiv cc).take i).map V.int))) ⟨sm_new nD, by rw [upd_same]; rfl⟩ (fun i H' hi hP => SqL.of (hP.1 _ _ hp1G)) (fun i y H' hi hP => ?_) (fun H' hP => ?_)⟩
    · obtain ⟨sm, hD⟩ := hP
      obtain ⟨u, hu, rfl⟩ : ∃ u, (cs.take n)[i]? = some u ∧ y = V.int u := by
        rw [List.getElem?_map] at hi
        cases e : (cs.take n)[i]? with
        | none => rw [e] at hi; cases hi
        | some u => rw [e] at hi; cases hi; exact ⟨u, rfl, rfl⟩
      refine ⟨rfl, ?_⟩
      unfold tYes
      refine iteK rfl ?_
      refine ⟨_, rfl, _, rfl, _, _, rfl, rfl, dz u, _, hD, ?_, same_mut sm nD, ?_⟩
      · rw [len_map, List.length_take, List.length_map]
        exact small1000 (by omega)
      · rw [upd_same, List.take_succ, List.map_append, List.getElem?_map, hu]
        rfl
    · obtain ⟨sm, hD⟩ := hP
      have e : ((cs.take n).map fun x => x.fdiv cc).take ((cs.take n).map V.int).length = (cs.take n).map fun x => x.fdiv cc := List.take_of_length_le (by rw [List.length_map, List.length_map]; exact Nat.le_refl _)
      rw [e] at hD
      refine ⟨D, _, rfl, .inl ⟨SqL.of hD, fun t nt => ?_⟩⟩
      have s5 : Same H (upd H' t (.tup (((cs.take n).map fun x => x.fdiv cc).map V.int))) := ((sm1.trans s4).trans sm).trans (sm_new nt)
      refine ⟨_, rfl, x, _, dx, [], rfl, s5 _ _ hx, T.cls_Poly, T.n_Poly_coefs, by decide, ?_⟩
      refine ⟨_, rfl, _, rfl, _, _, rfl, rfl, dz d, _, rfl, x, _, dx, _, rfl, upd_same, T.cls_Poly, T.n_Poly_den, (show (1 : Nat) < 1000 by decide), ?_⟩
      have tx : t ≠ x := fun z => by
        have := ((sm1.trans s4).trans sm) _ _ hx
        rw [z, this] at nt
        cases nt
      have z := q c _ t _ _ s5 upd_same tx pq
      rw [← upd_upd (a := x) (o := .ins (CP K) dx (putF "coefs" (.ref t) []))] at z
      exact z

theorem ok__law_poly (T : Tx K mg) (O_Poly___init__ : OkD P w K mg base 2 (He.fAd K ("Poly", some "__init__")) ["self", "coefs", "den"] (He.Dv.v K (.int 1)) (spPInit K)) : OkF P w K mg base 4 (He.fAd K ("_law_poly", none)) ["part"] (spLPo K) := by
  obtain ⟨_, G_Poly___init__, b_Poly___init__, ⟨_, v_Poly___init__, bd_Poly___init__⟩, k_Poly___init__⟩ := O_Poly___init__
  refine okF_of (d := d__law_poly) T.d__law_poly rfl sc__law_poly (fun _ _ _ _ _ _ us hl => match us, hl with | [_], _ => rfl) (fun vs H Q E h => ?_) (fun cdv A outer s H vs Q E hr h => ?_)
  · first | (obtain ⟨_, rfl, _⟩ := h; rfl) | (obtain ⟨_, _, rfl, _⟩ := h; rfl) | (obtain ⟨_, _, _, rfl, _⟩ := h; rfl) | (obtain ⟨_, _, _, _, rfl, _⟩ := h; rfl) | (obtain ⟨_, _, _, _, _, rfl, _⟩ := h; rfl) | (obtain ⟨_, _, _, _, _, _, rfl, _⟩ := h; rfl) | (obtain ⟨_, _, _, _, _, _, _, rfl, _⟩ := h; rfl) | (obtain ⟨_, _, _, _, _, _, _, _, rfl, _⟩ := h; rfl) | (obtain ⟨_, _, _, _, _, _, _, _, _, rfl, _⟩ := h; rfl) | (obtain ⟨_, _, _, _, _, _, _, _, _, _, rfl, _⟩ := h; rfl)
  · obtain ⟨a, xs, d, k, rfl, ⟨l, ha, hA⟩, l1, b3, hk, d0, q⟩ := h
    refine ⟨_, (pss_one (ps_ret (pe_makeI T.mk_Poly G_Poly___init__ (hr.mono (by decide)) (by rfl) T.g_Poly b_Poly___init__ .nil passL (mkPo_conv K []) (pa_cons (pe_callTy call_list_of (by rfl) T.z_list (by decide +kernel) (pa_cons (pe_ix ix_tup (pv 0) pe_int (fun _ _ => rfl)) pa_nil)) (pa_cons (pe_ix ix_tup (pv 0) pe_int (fun _ _ => rfl)) pa_nil))))), ?_⟩
    refine ⟨_, rfl, _, _, _, _, rfl, rfl, SqT.of ha, atI_nat (j := 0) rfl, l, _, rfl, .inl (SqL.of hA), fun p np => ?_⟩
    have s1 := sm_new (o := .lst (xs.map V.int)) np
    refine ⟨_, rfl, _, _, _, _, rfl, rfl, SqT.of (s1 _ _ ha), atI_nat (j := 1) rfl, p, xs, d, k, rfl, .inl (SqL.of upd_same), by omega, b3, hk, d0, fun p2 H2 ks e s2 np2 hp2 pq => ?_⟩
    exact q p2 H2 ks e (s1.trans s2) (s1.free np2) hp2 pq

theorem ok_Poly_is_zero (T : Tx K mg) : OkF P w K mg base 1 (gtAd K (He.ga K "Poly") "is_zero") ["self"] (spPZer K) := by
  refine okF_of (d := d_Poly_is_zero) T.d_Poly_is_zero rfl sc_Poly_is_zero (fun _ _ _ _ _ _ us hl => match us, hl with | [_], _ => rfl) (fun vs H Q E h => ?_) (fun cdv A outer s H vs Q E hr h => ?_)
  · first | (obtain ⟨_, rfl, _⟩ := h; rfl) | (obtain ⟨_, _, rfl, _⟩ := h; rfl) | (obtain ⟨_, _, _, rfl, _⟩ := h; rfl) | (obtain ⟨_, _, _, _, rfl, _⟩ := h; rfl) | (obtain ⟨_, _, _, _, _, rfl, _⟩ := h; rfl) | (obtain ⟨_, _, _, _, _, _, rfl, _⟩ := h; rfl) | (obtain ⟨_, _, _, _, _, _, _, rfl, _⟩ := h; rfl) | (obtain ⟨_, _, _, _, _, _, _, _, rfl, _⟩ := h; rfl) | (obtain ⟨_, _, _, _, _, _, _, _, _, rfl, _⟩ := h; rfl) | (obtain ⟨_, _, _, _, _, _, _, _, _, _, rfl, _⟩ := h; rfl)
  · obtain ⟨a, ks, e, rfl, ⟨da, t, ha, ht⟩, q⟩ := h
    refine ⟨_, (pss_one (ps_ret (pe_cmpR op_eq (pe_callB call_len_seq (by rfl) T.z_len PySem.boot_len (pa_cons (pe_fld (pv 0) rfl) pa_nil)) pe_int (nomark _)))), ?_⟩
    rw [← len_map] at q
    exact ⟨_, rfl, _, _, _, _, _, rfl, ha, T.cls_Poly, T.n_Poly_coefs, rfl, _, _, rfl, .inr (SqT.of ht), rfl, q⟩

theorem ok_monic (T : Tx K mg) (O_Poly_is_zero : OkF P w K mg base 1 (gtAd K (He.ga K "Poly") "is_zero") ["self"] (spPZer K)) (O_Poly___init__ : OkD P w K mg base 2 (He.fAd K ("Poly", some "__init__")) ["self", "coefs", "den"] (He.Dv.v K (.int 1)) (spPInit K)) : OkF P w K mg base 4 (He.fAd K ("monic", none)) ["p"] (spMon K) := by
  obtain ⟨_, G_Poly_is_zero, b_Poly_is_zero, k_Poly_is_zero⟩ := O_Poly_is_zero
  obtain ⟨_, G_Poly___init__, b_Poly___init__, ⟨_, v_Poly___init__, bd_Poly___init__⟩, k_Poly___init__⟩ := O_Poly___init__
  refine okF_of (d := d_monic) T.d_monic rfl sc_monic (fun _ _ _ _ _ _ us hl => match us, hl with | [_], _ => rfl) (fun vs H Q E h => ?_) (fun cdv A outer s H vs Q E hr h => ?_)
  · (obtain ⟨_, _, _, _, rfl, _⟩ := h; rfl)
  · obtain ⟨a, ks, e, k, rfl, ha, self, bk, hk, lk, q⟩ := h
    refine ⟨_, (pss_cons (ps_if (pt_val (pe_prop (pv 0) T.cls_Poly T.p_Poly_is_zero G_Poly_is_zero (hr.mono (by decide)) b_Poly_is_zero .nil passL rfl)) (pss_one (ps_ret (pv 0))) pss_nil)
      (pss_one (ps_ret (pe_makeI T.mk_Poly G_Poly___init__ (hr.mono (by decide)) (by rfl) T.g_Poly b_Poly___init__ .nil passL (mkPo_conv K []) (pa_cons (pe_fld (pv 0) rfl) (pa_cons (pe_ix ix_tup (pe_fld (pv 0) rfl) (pe_un un_neg pe_int) (fun _ _ => rfl)) pa_nil)))))), ?_⟩
    obtain ⟨da, ta, haa, hta⟩ := id ha
    refine ⟨_, rfl, _, _, _, rfl, haa, a, ks, e, rfl, ha, _, rfl, iteEq (fun z => ?_) (fun z => ?_)⟩
    · have k0 : ks = [] := List.eq_nil_of_length_eq_zero (by omega)
      exact ⟨_, rfl, q a H ks e (fun _ _ e => e) ha self (.inl ⟨k0, k0⟩)⟩
    · have kne : ks ≠ [] := fun w => z (by rw [w]; rfl)
      have kp := lpos kne
      have lead : ks.getD (ks.length - 1) 0 ≠ 0 := by
        rcases self.last with w | w
        · exact absurd w kne
        · exact w
      refine ⟨_, rfl, _, _, _, _, _, rfl, haa, T.cls_Poly, T.n_Poly_coefs, rfl, _, rfl, _, _, _, _, _, rfl, haa, T.cls_Poly, T.n_Poly_coefs, rfl, _, rfl, _, _, _, _, rfl, rfl, SqT.of hta, at_last (by rw [len_map]; exact map_at (get_of_lt (by omega))), ta, ks, _, k, rfl, .inr (SqT.of hta), by omega, bk.getD _, by omega, lead, fun p H' ms g s np hp pq => ?_⟩
      exact q p H' ms g s hp pq.self (.inr ⟨kne, pq⟩)

theorem ok_primitive (T : Tx K mg) (O_common_factor : OkF P w K mg base 1 (He.fAd K ("common_factor", none)) ["numbers"] (spCom K)) : OkF P w K mg base 2 (He.fAd K ("primitive", none)) ["coefs"] (spPrm K) := by
  obtain ⟨_, G_common_factor, b_common_factor, k_common_factor⟩ := O_common_factor
  refine okF_of (d := d_primitive) T.d_primitive rfl sc_primitive (fun _ _ _ _ _ _ us hl => match us, hl with | [_], _ => rfl) (fun vs H Q E h => ?_) (fun cdv A outer s H vs Q E hr h => ?_)
  · (obtain ⟨_, _, _, rfl, _⟩ := h; rfl)
  · obtain ⟨a, xs, k, rfl, hS, bk, hk, lx, nz, q⟩ := h
    have gp : xs ≠ [] → 0 < gcdL xs ∧ gcdL xs < 2 ^ k := fun ne => by
      obtain ⟨x, hx, x0⟩ := nz ne
      have d := gcdL_dvd hx
      exact ⟨Nat.pos_of_dvd_of_pos d (by omega), Nat.lt_of_le_of_lt (Nat.le_of_dvd (by omega) d) (bk.all x hx)⟩
    rcases hS with hS | hS
    · refine ⟨_, (pss_cons (ps_setI (i := 1) sc_primitive.nd rfl (Or.inr rfl) (pe_call G_common_factor (hr.mono (by decide)) (by rfl) T.g_common_factor k_common_factor b_common_factor .nil passL (pa_cons (pv 0) pa_nil)))
      (pss_one (ps_ret (pe_lc (own := [("c", 2)]) (g := gName 2) rfl sc_primitive.nd (pi_list (pv 0)) (blkOk_by (own := [("c", 2)]) (N := N_primitive) (sc := defScope s_primitive) (by decide +kernel)) (fun _ _ _ _ _ => (pg_name (i := 2) sc_primitive.nd rfl (Or.inl rfl))) (fun _ _ _ _ _ => pts_nil) (fun _ _ _ _ _ => (pe_op op_fdivW (pv 2) (pv 1))))))), ?_⟩
      refine ⟨_, rfl, a, xs, rfl, .inl hS, _, rfl, fun c ec => ?_⟩
      obtain rfl : c = ((gcdL xs : Nat) : Int) := ec
      refine ⟨_, rfl, _, rfl, ⟨_, hS⟩, fun D nD => lc_list (K := K) (a := a) (xs := xs.map V.int) (fun i HL => Same H HL ∧ HL D = some (.lst (((xs.map fun x => x / ((gcdL xs : Nat) : Int)).take i).map V.int))) ⟨sm_new nD, by rw [upd_same]; rfl⟩ (fun i HL hi hP => hP.1.seq hS) (fun i y HL hi hP => ?_) (fun HA hP => ?_)⟩
      · obtain ⟨sm, hD⟩ := hP
        obtain ⟨u, hu, rfl⟩ := get_map_int hi
        have hll := (List.getElem?_eq_some_iff.mp hu).1
        obtain ⟨g0, gb⟩ := gp (List.ne_nil_of_length_pos (by omega))
        refine ⟨rfl, ?_⟩
        unfold tYes
        refine iteK rfl ?_
        refine ⟨_, rfl, _, rfl, _, _, rfl, rfl, divW (b := k) (by omega) (by rw [Int.natAbs_natCast]; exact gb) hk, _, hD, ?_, same_mut sm nD, ?_⟩
        · rw [len_map, List.length_take, List.length_map]; exact small1000 (by omega)
        · rw [upd_same, List.take_succ, List.map_append, List.getElem?_map, hu]; rfl
      obtain ⟨sm, hD⟩ := hP
      rw [List.take_of_length_le (by rw [List.length_map, List.length_map]; exact Nat.le_refl _)] at hD
      exact q D HA _ sm nD hD (prl xs fun e => (gp e).1)
    · refine ⟨_, (pss_cons (ps_setI (i := 1) sc_primitive.nd rfl (Or.inr rfl) (pe_call G_common_factor (hr.mono (by decide)) (by rfl) T.g_common_factor k_common_factor b_common_factor .nil passL (pa_cons (pv 0) pa_nil)))
      (pss_one (ps_ret (pe_lc (own := [("c", 2)]) (g := gName 2) rfl sc_primitive.nd (pi_tup (pv 0)) (blkOk_by (own := [("c", 2)]) (N := N_primitive) (sc := defScope s_primitive) (by decide +kernel)) (fun _ _ _ _ _ => (pg_name (i := 2) sc_primitive.nd rfl (Or.inl rfl))) (fun _ _ _ _ _ => pts_nil) (fun _ _ _ _ _ => (pe_op op_fdivW (pv 2) (pv 1))))))), ?_⟩
      refine ⟨_, rfl, a, xs, rfl, .inr hS, _, rfl, fun c ec => ?_⟩
      obtain rfl : c = ((gcdL xs : Nat) : Int) := ec
      refine ⟨_, rfl, _, rfl, ⟨_, hS⟩, fun D nD => lc_tup (K := K) (a := a) (xs := xs.map V.int) (fun i HL => Same H HL ∧ HL D = some (.lst (((xs.map fun x => x / ((gcdL xs : Nat) : Int)).take i).map V.int))) ⟨sm_new nD, by rw [upd_same]; rfl⟩ (fun i HL hi hP => sm_tup hP.1 hS) (fun i y HL hi hP => ?_) (fun HA hP => ?_)⟩
      · obtain ⟨sm, hD⟩ := hP
        obtain ⟨u, hu, rfl⟩ := get_map_int hi
        have hll := (List.getElem?_eq_some_iff.mp hu).1
        obtain ⟨g0, gb⟩ := gp (List.ne_nil_of_length_pos (by omega))
        refine ⟨rfl, ?_⟩
        unfold tYes
        refine iteK rfl ?_
        refine ⟨_, rfl, _, rfl, _, _, rfl, rfl, divW (b := k) (by omega) (by rw [Int.natAbs_natCast]; exact gb) hk, _, hD, ?_, same_mut sm nD, ?_⟩
        · rw [len_map, List.length_take, List.length_map]; exact small1000 (by omega)
        · rw [upd_same, List.take_succ, List.map_append, List.getElem?_map, hu]; rfl
      obtain ⟨sm, hD⟩ := hP
      rw [List.take_of_length_le (by rw [List.length_map, List.length_map]; exact Nat.le_refl _)] at hD
      exact q D HA _ sm nD hD (prl xs fun e => (gp e).1)

theorem ok_remainders (T : Tx K mg) (O_trimmed : OkF P w K mg base 1 (He.fAd K ("trimmed", none)) ["coefs"] (spTrim K)) : OkF P w K mg base 2 (He.fAd K ("remainders", none)) ["coefs", "modulus"] (spRems K) := by
  obtain ⟨_, G_trimmed, b_trimmed, k_trimmed⟩ := O_trimmed
  refine okF_of (d := d_remainders) T.d_remainders rfl sc_remainders (fun _ _ _ _ _ _ us hl => match us, hl with | [_, _], _ => rfl) (fun vs H Q E h => ?_) (fun cdv A outer s H vs Q E hr h => ?_)
  · (obtain ⟨_, _, _, rfl, _⟩ := h; rfl)
  · obtain ⟨a, xs, p, rfl, hA, p0, lx, q⟩ := h
    refine ⟨_, (pss_one (ps_ret (pe_call G_trimmed (hr.mono (by decide)) (by rfl) T.g_trimmed k_trimmed b_trimmed .nil passL (pa_cons (pe_lc (own := [("c", 2)]) (g := gName 2) rfl sc_remainders.nd (pi_list (pv 0)) (blkOk_by (own := [("c", 2)]) (N := N_remainders) (sc := defScope s_remainders) (by decide +kernel)) (fun _ _ _ _ _ => (pg_name (i := 2) sc_remainders.nd rfl (Or.inl rfl))) (fun _ _ _ _ _ => pts_nil) (fun _ _ _ _ _ => (pe_op op_mod (pv 2) (pv 1)))) pa_nil)))), ?_⟩
    refine ⟨_, rfl, _, rfl, ⟨_, hA⟩, fun D nD => lc_list (K := K) (a := a) (xs := xs.map V.int) (fun i HL => Same H HL ∧ HL D = some (.lst (((xs.map fun x => x % (p : Int)).take i).map V.int))) ⟨sm_new nD, by rw [upd_same]; rfl⟩ (fun i HL hi hP => hP.1.seq hA) (fun i y HL hi hP => ?_) (fun HA hP => ?_)⟩
    · obtain ⟨sm, hD⟩ := hP
      obtain ⟨u, hu, rfl⟩ := get_map_int hi
      have hll := (List.getElem?_eq_some_iff.mp hu).1
      refine ⟨rfl, ?_⟩
      unfold tYes
      refine iteK rfl ?_
      refine ⟨_, rfl, _, rfl, _, _, rfl, rfl, (show (0 : Int) < p by omega), _, hD, ?_, same_mut sm nD, ?_⟩
      · rw [len_map, List.length_take, List.length_map]; exact small1000 (by omega)
      · rw [upd_same, List.take_succ, List.map_append, List.getElem?_map, hu]; rfl
    obtain ⟨sm, hD⟩ := hP
    rw [List.take_of_length_le (by rw [List.length_map, List.length_map]; exact Nat.le_refl _)] at hD
    refine ⟨D, _, rfl, .inl (SqL.of hD), fun p2 H2 n s2 np2 hp2 t => ?_⟩
    have rng : ∀ z ∈ xs.map fun x => x % (p : Int), 0 ≤ z ∧ z < p := fun z hz => by
      obtain ⟨x, _, rfl⟩ := List.mem_map.mp hz
      exact ⟨Int.emod_nonneg _ (by omega), Int.emod_lt_of_pos _ (by omega)⟩
    refine q p2 H2 _ (sm.trans s2) (sm.free np2) hp2 (rsp_of p0 rng t) ?_ fun k => ?_
    · rw [List.length_take, List.length_map]; omega
    · rw [take_ff t]
      have e : ff (xs.map fun x => x % (p : Int)) k = ff xs k % (p : Int) := by
        show (xs.map _).getD k 0 = xs.getD k 0 % _
        rw [List.getD_eq_getElem?_getD, List.getElem?_map, List.getD_eq_getElem?_getD]
        cases xs[k]? with
        | none => exact (Int.zero_emod _).symm
        | some x => rfl
      rw [e]
      exact mod_sub_dvd p _

theorem ok_inverse_modulo (T : Tx K mg) : OkF P w K mg base 1 (He.fAd K ("inverse_modulo", none)) ["number", "modulus"] (spInv K) := by
  refine okF_of (d := d_inverse_modulo) T.d_inverse_modulo rfl sc_inverse_modulo (fun _ _ _ _ _ _ us hl => match us, hl with | [_, _], _ => rfl) (fun vs H Q E h => ?_) (fun cdv A outer s H vs Q E hr h => ?_)
  · (obtain ⟨_, _, rfl, _⟩ := h; rfl)
  · obtain ⟨n, p, rfl, hp, p62, pn, q⟩ := h
    refine ⟨_, (pss_cons (ps_par (i := 2) (j := 3) (by rfl) sc_inverse_modulo.nd rfl rfl (by decide) rfl rfl (pa_cons (pe_op op_mod (pv 0) (pv 1)) (pa_cons (pv 1) pa_nil)) (by rfl))
      (pss_cons (ps_asg (pe_tup (pa_cons pe_int (pa_cons pe_int pa_nil))) (pg_tup rfl (pgs_cons (pg_name (i := 4) sc_inverse_modulo.nd rfl (Or.inl rfl)) (pgs_cons (pg_name (i := 5) sc_inverse_modulo.nd rfl (Or.inl rfl)) pgs_nil))))
      (pss_cons (ps_while PassesOwn.leaving (pt_cmpR op_ne (pv 3) pe_int (nomark _)) (pss_cons (ps_setI (i := 6) sc_inverse_modulo.nd rfl (Or.inl rfl) (pe_op op_fdivW (pv 2) (pv 3)))
      (pss_cons (ps_par (i := 2) (j := 3) (by rfl) sc_inverse_modulo.nd rfl rfl (by decide) rfl rfl (pa_cons (pv 3) (pa_cons (pe_op op_sub (pv 2) (pe_op op_mulW (pv 6) (pv 3))) pa_nil)) (by rfl))
      (pss_one (ps_par (i := 4) (j := 5) (by rfl) sc_inverse_modulo.nd rfl rfl (by decide) rfl rfl (pa_cons (pv 5) (pa_cons (pe_op op_sub (pv 4) (pe_op op_mulW (pv 6) (pv 5))) pa_nil)) (by rfl))))))
      (pss_one (ps_ret (pe_op op_mod (pv 4) (pv 1))))))), ?_⟩
    have p2 := hp.two
    obtain ⟨a0, ha0⟩ : ∃ a0 : Nat, (a0 : Int) = n % (p : Int) := ⟨(n % (p : Int)).toNat, Int.toNat_of_nonneg (Int.emod_nonneg _ (by omega))⟩
    have lt := Int.emod_lt_of_pos n (show (0 : Int) < p by omega)
    have d0 := mod_sub_dvd p n
    have a1 : 1 ≤ a0 := by
      refine Decidable.byContradiction fun z => pn ?_
      have : n % (p : Int) = 0 := by omega
      exact Int.dvd_of_emod_eq_zero this
    have g0 : Nat.gcd a0 p = 1 := by
      obtain ⟨g, hg⟩ : ∃ g, g = Nat.gcd a0 p := ⟨_, rfl⟩
      have g1 : g ∣ a0 := hg ▸ Nat.gcd_dvd_left _ _
      have g2 : g ∣ p := hg ▸ Nat.gcd_dvd_right _ _
      obtain ⟨t, ht⟩ := g2
      have gl := Nat.le_of_dvd (by omega) g1
      have gp : 0 < g := Nat.pos_of_dvd_of_pos g1 (by omega)
      rcases hp.mul (g : Int) (t : Int) (by rw [← Int.natCast_mul, ← ht]; exact Int.dvd_refl _) with z | z
      · have := Nat.le_of_dvd (by omega) (Int.natCast_dvd_natCast.mp z)
        omega
      · obtain ⟨u, hu⟩ := Int.natCast_dvd_natCast.mp z
        rw [hu] at ht
        have e : p * 1 = p * (g * u) := by
          calc p * 1 = p := Nat.mul_one _
            _ = g * (p * u) := ht
            _ = _ := by grind
        have := Nat.eq_of_mul_eq_mul_left (by omega) e
        rw [← hg]
        exact Nat.eq_one_of_mul_eq_one_right this.symm
    refine ⟨_, rfl, _, rfl, _, _, rfl, rfl, (show (0 : Int) < p by omega), _, rfl, _, _, rfl, ?_⟩
    refine ⟨by show 2 ≤ sizeLine; decide, fun pt npt => ⟨pt, _, rfl, SqT.of upd_same, rfl, _, _, rfl, _, _, rfl, rfl, ?_⟩⟩
    have s1 := sm_new (o := .tup [V.int 1, V.int 0]) npt
    generalize upd H pt (.tup [V.int 1, V.int 0]) = H1 at s1 ⊢
    refine ⟨fun m σ' H' => H1 = H' ∧ ∃ (a b : Nat) (x y : Int) (z : Option V), σ' = [some (.int n), some (.int (p : Int)), some (.int (a : Int)), some (.int (b : Int)), some (.int x), some (.int y), z] ∧ m = b ∧ 1 ≤ a ∧ a ≤ p ∧ b ≤ p ∧ Nat.gcd a b = 1 ∧ (p : Int) ∣ x * n - a ∧ (p : Int) ∣ y * n - b ∧ x.natAbs * b + y.natAbs * a ≤ p ∧ (b = 0 ∨ x.natAbs ≤ p), ⟨_, rfl, a0, p, 1, 0, none, by rw [ha0]; rfl, rfl, a1, by omega, Nat.le_refl _, g0, by rw [Int.one_mul, ha0]; exact d0, by rw [Int.zero_mul]; exact ⟨-1, by omega⟩, by simp, .inr (by show 1 ≤ p; omega)⟩, ?_⟩
    rintro m _ _ ⟨rfl, a, b, x, y, z, rfl, rfl, a1, ap, bp, hg, dx, dy, bd, xb⟩
    refine ⟨_, rfl, rfl, _, rfl, iteEqN (fun h1 => ?_) (fun h1 => ?_)⟩
    · have b0 : 0 < m := by omega
      have yp : y.natAbs ≤ p := by
        have := Nat.mul_le_mul_left y.natAbs a1
        omega
      refine ⟨fun σ2 H2 => ∃ m', m' < m ∧ H1 = H2 ∧ ∃ (a b : Nat) (x y : Int) (z : Option V), σ2 = [some (.int n), some (.int (p : Int)), some (.int (a : Int)), some (.int (b : Int)), some (.int x), some (.int y), z] ∧ m' = b ∧ 1 ≤ a ∧ a ≤ p ∧ b ≤ p ∧ Nat.gcd a b = 1 ∧ (p : Int) ∣ x * n - a ∧ (p : Int) ∣ y * n - b ∧ x.natAbs * b + y.natAbs * a ≤ p ∧ (b = 0 ∨ x.natAbs ≤ p), fun _ _ h => h, ?_⟩
      refine ⟨_, rfl, _, rfl, _, _, rfl, rfl, divW (b := 62) (by omega) (by rw [Int.natAbs_natCast]; omega) (by decide), _, rfl, fun s es => ?_⟩
      obtain ⟨t, ht⟩ : ∃ t : Nat, s = (t : Int) := ⟨a / m, by rw [es]; rfl⟩
      have et : t = a / m := by
        rw [ht] at es
        exact Int.ofNat.inj es
      subst ht
      have tl : t ≤ a := by rw [et]; exact Nat.div_le_self _ _
      have tb : ((t : Nat) : Int).natAbs < 2 ^ 62 := by rw [Int.natAbs_natCast]; omega
      refine ⟨_, rfl, _, rfl, _, rfl, _, rfl, _, _, rfl, rfl, mulW tb (b := 62) (by rw [Int.natAbs_natCast]; omega) (by decide), _, _, rfl, rfl, _, _, rfl, ?_⟩
      refine ⟨_, rfl, _, rfl, _, rfl, _, rfl, _, _, rfl, rfl, mulW tb (b := 62) (show y.natAbs < 2 ^ 62 by omega) (by decide), _, _, rfl, rfl, _, _, rfl, ?_⟩
      have dm : a = m * t + a % m := by rw [et]; exact (Nat.div_add_mod a m).symm
      have e1 : (a : Int) - (t : Int) * (m : Int) = ((a % m : Nat) : Int) := by
        have : (a : Int) = (m : Int) * (t : Int) + ((a % m : Nat) : Int) := by rw [← Int.natCast_mul, ← Int.natCast_add, ← dm]
        rw [this, Int.mul_comm (t : Int)]
        omega
      have lm := Nat.mod_lt a b0
      refine ⟨a % m, lm, rfl, m, a % m, y, x - (t : Int) * y, _, by rw [← e1]; rfl, rfl, b0, bp, by omega, ?_, dy, ?_, ?_, .inr yp⟩
      · rw [← hg, Nat.gcd_comm m, ← Nat.gcd_rec, Nat.gcd_comm]
      · have w := Int.dvd_sub dx (Int.dvd_trans dy (Int.dvd_mul_left (t : Int) _))
        have e2 : x * n - (a : Int) - (t : Int) * (y * n - (m : Int)) = (x - (t : Int) * y) * n - ((a % m : Nat) : Int) := by
          rw [← e1]
          grind
        rwa [e2] at w
      · have w1 : (x - (t : Int) * y).natAbs ≤ x.natAbs + t * y.natAbs := by
          have := Int.natAbs_sub_le x ((t : Int) * y)
          rw [Int.natAbs_mul, Int.natAbs_natCast] at this
          exact this
        have w2 := Nat.mul_le_mul_right m w1
        have w3 : y.natAbs * a = y.natAbs * (a % m) + t * y.natAbs * m := by
          calc y.natAbs * a = y.natAbs * (m * t + a % m) := by rw [← dm]
            _ = _ := by grind
        rw [Nat.add_mul] at w2
        omega
    · have b0 : m = 0 := by omega
      subst b0
      rw [Nat.gcd_zero_right] at hg
      subst hg
      refine ⟨_, rfl, _, rfl, _, _, rfl, rfl, (show (0 : Int) < p by omega), ?_⟩
      refine q _ H1 s1 (Int.emod_nonneg _ (by omega)) (Int.emod_lt_of_pos _ (by omega)) ?_
      have w := Int.dvd_sub dx (Int.dvd_trans (mod_sub_dvd p x) (Int.dvd_mul_right _ n))
      have e2 : x * n - ((1 : Nat) : Int) - (x - x % (p : Int)) * n = x % (p : Int) * n - 1 := by
        generalize x % (p : Int) = r
        grind
      rwa [e2] at w

theorem ok_divided_modulo (T : Tx K mg) (O_inverse_modulo : OkF P w K mg base 1 (He.fAd K ("inverse_modulo", none)) ["number", "modulus"] (spInv K)) (O_trimmed : OkF P w K mg base 1 (He.fAd K ("trimmed", none)) ["coefs"] (spTrim K)) : OkF P w K mg base 2 (He.fAd K ("divided_modulo", none)) ["first", "second", "modulus"] (spDMd K) := by
  obtain ⟨_, G_inverse_modulo, b_inverse_modulo, k_inverse_modulo⟩ := O_inverse_modulo
  obtain ⟨_, G_trimmed, b_trimmed, k_trimmed⟩ := O_trimmed
  refine okF_of (d := d_divided_modulo) T.d_divided_modulo rfl sc_divided_modulo (fun _ _ _ _ _ _ us hl => match us, hl with | [_, _, _], _ => rfl) (fun vs H Q E h => ?_) (fun cdv A outer s H vs Q E hr h => ?_)
  · (obtain ⟨_, _, _, _, _, _, rfl, _⟩ := h; rfl)
  · obtain ⟨a, b, xs, ys, p, z, rfl, hA, hB, hp, p62, rx, ry, y0, lx, ly, q⟩ := h
    refine ⟨_, (pss_cons (ps_setI (i := 3) sc_divided_modulo.nd rfl (Or.inl rfl) (pe_call G_inverse_modulo (hr.mono (by decide)) (by rfl) T.g_inverse_modulo k_inverse_modulo b_inverse_modulo .nil passL (pa_cons (pe_ix ix_list (pv 1) (pe_un un_neg pe_int) (fun _ _ => rfl)) (pa_cons (pv 2) pa_nil))))
      (pss_cons (ps_set (i := 4) sc_divided_modulo.nd rfl (Or.inl rfl) (pe_callTy call_list_of (by rfl) T.z_list (by decide +kernel) (pa_cons (pv 0) pa_nil)))
      (pss_cons (ps_setLc (i := 5) (own := [("_", 10)]) (g := gName 10) rfl sc_divided_modulo.nd rfl rfl (sw_true rfl rfl rfl (by decide +kernel)) (pi_range1 rfl T.z_range (pa_cons (pe_op op_add (pe_op op_sub (pe_callB call_len_seq (by rfl) T.z_len PySem.boot_len (pa_cons (pv 0) pa_nil)) (pe_callB call_len_seq (by rfl) T.z_len PySem.boot_len (pa_cons (pv 1) pa_nil))) pe_int) pa_nil)) (blkOk_by (own := [("_", 10)]) (N := N_divided_modulo) (sc := defScope s_divided_modulo) (by decide +kernel)) (fun _ _ _ _ _ => (pg_name (i := 10) sc_divided_modulo.nd rfl (Or.inl rfl))) (fun _ _ _ _ _ => pts_nil) (fun _ _ _ _ _ => pe_int))
      (pss_cons (ps_for PassesOwn.leaving rfl (pi_range3 rfl T.z_range (pa_cons (pe_op op_sub (pe_callB call_len_seq (by rfl) T.z_len PySem.boot_len (pa_cons (pv 0) pa_nil)) (pe_callB call_len_seq (by rfl) T.z_len PySem.boot_len (pa_cons (pv 1) pa_nil))) (pa_cons (pe_un un_neg pe_int) (pa_cons (pe_un un_neg pe_int) pa_nil)))) (pg_name (i := 6) sc_divided_modulo.nd rfl (Or.inl rfl)) (pss_cons (ps_setI (i := 7) sc_divided_modulo.nd rfl (Or.inl rfl) (pe_op op_mod (pe_op op_mulW (pe_ix ix_list (pv 4) (pe_op op_sub (pe_op op_add (pv 6) (pe_callB call_len_seq (by rfl) T.z_len PySem.boot_len (pa_cons (pv 1) pa_nil))) pe_int) (fun _ _ => rfl)) (pv 3)) (pv 2)))
      (pss_cons (ps_asg (pv 7) (pg_sub (pv 5) (pv 6) set_list))
      (pss_one (ps_if (pt_cmpR op_ne (pv 7) pe_int (nomark _)) (pss_one (ps_for PassesOwn.leaving rfl (pi_enum (by rfl) T.z_enumerate (pa_cons (pv 1) pa_nil)) (pg_tup rfl (pgs_cons (pg_name (i := 8) sc_divided_modulo.nd rfl (Or.inl rfl)) (pgs_cons (pg_name (i := 9) sc_divided_modulo.nd rfl (Or.inl rfl)) pgs_nil))) (pss_one (ps_asg (pe_op op_mod (pe_op op_sub (pe_ix ix_list (pv 4) (pe_op op_add (pv 6) (pv 8)) (fun _ _ => rfl)) (pe_op op_mulW (pv 7) (pv 9))) (pv 2)) (pg_sub (pv 4) (pe_op op_add (pv 6) (pv 8)) set_list))))) pss_nil)))))
      (pss_one (ps_ret (pe_tup (pa_cons (pv 5) (pa_cons (pe_call G_trimmed (hr.mono (by decide)) (by rfl) T.g_trimmed k_trimmed b_trimmed .nil passL (pa_cons (pv 4) pa_nil)) pa_nil))))))))), ?_⟩
    have p2 := hp.two
    have lt : ys.length - 1 < ys.length := by omega
    have ylast : ys.getD (ys.length - 1) 0 ≠ 0 := by
      rcases ry.last with e | e
      · rw [e] at y0; exact absurd y0 (by decide)
      · exact e
    have yr := ry.rng _ (getD_mem lt)
    have ynd : ¬ (p : Int) ∣ ys.getD (ys.length - 1) 0 := fun d => by
      have := Int.le_of_dvd (by omega) d
      omega
    have small : ∀ {x : Int}, 0 ≤ x ∧ x < p → x.natAbs < 2 ^ 62 := fun h => by omega
    refine ⟨_, rfl, _, rfl, _, _, _, _, rfl, rfl, hB, at_last (by rw [len_map]; exact map_at (get_of_lt lt)), _, rfl, _, p, rfl, hp, p62, ynd, fun inv H1 s1 i0 ip hv => ?_⟩
    refine ⟨_, rfl, fun inv' ei => ?_⟩
    obtain rfl : inv' = inv := ei
    have hA1 := s1.seq hA
    have hB1 := s1.seq hB
    refine ⟨_, rfl, a, _, rfl, .inl hA1, fun pr0 npr => ?_⟩
    have s2 := s1.trans (sm_new (o := .lst (xs.map V.int)) npr)
    have hp2 : (upd H1 pr0 (.lst (xs.map V.int))) pr0 = some (.lst (xs.map V.int)) := upd_same
    have nr0 : H pr0 = none := s1.free npr
    generalize upd H1 pr0 (.lst (xs.map V.int)) = H2 at s2 hp2 ⊢
    have hA2 := s2.seq hA
    have hB2 := s2.seq hB
    refine ⟨_, rfl, _, _, rfl, .inl hA2, _, rfl, _, _, rfl, .inl hB2, _, _, rfl, rfl, _, _, rfl, rfl, _, rfl, by rw [len_map, len_map]; omega, by rw [len_map, len_map]; omega, fun D nD => lc_range (lo := 0) (n := (((xs.map V.int).length : Int) - ((ys.map V.int).length : Int) + 1).toNat) (fun i H' => Same H2 H' ∧ H' D = some (.lst ((List.replicate i (0 : Int)).map V.int))) ⟨sm_new nD, upd_same⟩ (fun i H' hi hP => ?_) (fun H3 hP => ?_)⟩
    · obtain ⟨sm, hD⟩ := hP
      refine ⟨rfl, ?_⟩
      unfold tYes
      refine iteK rfl ?_
      rw [len_map, len_map] at hi
      refine ⟨_, hD, by rw [len_map, List.length_replicate]; exact small1000 (by omega), same_mut sm nD, ?_⟩
      rw [upd_same, List.replicate_succ', List.map_append]
      rfl
    obtain ⟨s3, hD⟩ := hP
    rw [len_map, len_map] at hD
    obtain ⟨CN, hCN⟩ : ∃ CN : Nat, ((xs.length : Int) - (ys.length : Int) + 1).toNat = CN := ⟨_, rfl⟩
    rw [hCN] at hD
    have hp3 := s3 _ _ hp2
    have Dp : D ≠ pr0 := (ne_of_none hp2 nD).symm
    have s23 := s2.trans s3
    have hA3 := s23.seq hA
    have hB3 := s23.seq hB
    have nD0 : H D = none := s2.free nD
    refine ⟨_, rfl, _, _, rfl, .inl hA3, _, rfl, _, _, rfl, .inl hB3, _, _, rfl, rfl, _, rfl, _, rfl, _, _, _, _, rfl, RgC.neg (by rw [len_map, len_map]; omega) (by rw [len_map, len_map]; omega) (by omega) (by omega), ?_⟩
    rw [len_map, len_map]
    refine for_rangeC (lo := (xs.length : Int) - (ys.length : Int)) (c := -1) (n := ((xs.length : Int) - (ys.length : Int) - (-1)).toNat) (fun t σ' H' => ∃ (qs : List V) (rs : List Int) (y6 y7 y8 y9 : Option V), σ' = [some (.ref a), some (.ref b), some (.int (p : Int)), some (.int inv'), some (.ref pr0), some (.ref D), y6, y7, y8, y9, none] ∧ Same H H' ∧ H' D = some (.lst qs) ∧ H' pr0 = some (.lst (rs.map V.int)) ∧ qs.length = CN ∧ DmAt p xs rs ys (CN - t))
      ⟨(List.replicate CN (0 : Int)).map V.int, xs, none, none, none, none, rfl, s23, hD, hp3, by rw [List.length_map, List.length_replicate], DmAt.start rx.rng (by omega)⟩ (fun t σ' H' ht hI => ?_) (fun σ' H' hI => ?_)
    · obtain ⟨qs, rs, y6, y7, y8, y9, rfl, sm, hq, hr, ql, m⟩ := hI
      obtain ⟨n, hn⟩ : ∃ n : Nat, CN - t = n + 1 := ⟨CN - t - 1, by omega⟩
      rw [hn] at m
      have nl : n < CN := by omega
      have rl := m.rl
      have hat : (xs.length : Int) - (ys.length : Int) + (t : Int) * -1 = (n : Int) := by omega
      rw [hat]
      have rlt : n + ys.length - 1 < rs.length := by omega
      have rb := small (m.rng _ (getD_mem rlt))
      refine ⟨_, rfl, _, rfl, _, rfl, _, _, rfl, .inl (sm.seq hB), _, _, rfl, rfl, _, _, rfl, rfl, _, _, _, _, rfl, rfl, SqL.of hr, at_of (j := n + ys.length - 1) (by rw [len_map]; omega) (map_at (get_of_lt rlt)), _, rfl, _, _, rfl, rfl, mulW rb (small ⟨i0, ip⟩) (by decide), _, rfl, _, _, rfl, rfl, (show (0 : Int) < p by omega), _, rfl, fun sh esh => ?_⟩
      have shr : 0 ≤ sh ∧ sh < p := by rw [esh]; exact ⟨Int.emod_nonneg _ (by omega), Int.emod_lt_of_pos _ (by omega)⟩
      refine ⟨_, rfl, _, rfl, _, rfl, D, _, _, n, rfl, rfl, hq, ixN_at rfl (by omega), ?_⟩
      have sm2 : Same H (upd H' D (.lst (qs.set n (.int sh)))) := same_mut sm nD0
      have hq2 : (upd H' D (.lst (qs.set n (.int sh)))) D = some (.lst (qs.set n (.int sh))) := upd_same
      have hr2 : (upd H' D (.lst (qs.set n (.int sh)))) pr0 = some (.lst (rs.map V.int)) := by rw [upd_ne Dp.symm]; exact hr
      generalize upd H' D (.lst (qs.set n (.int sh))) = H4 at sm2 hq2 hr2 ⊢
      have e1 : CN - (t + 1) = n := by omega
      refine ⟨_, rfl, rfl, _, rfl, iteEqN (fun c0 => ?_) (fun c0 => ?_)⟩
      rotate_left
      · refine ⟨_, rs, _, _, _, _, rfl, sm2, hq2, hr2, by rw [List.length_set, ql], ?_⟩
        rw [e1]
        exact m.skip (by omega) y0 rlt hv esh c0
      refine ⟨_, rfl, b, _, rfl, sm2.seq hB, for_enL (K := K) (a := b) (xs := ys.map V.int) (fun i σ' H' => ∃ (zs : List Int) (y8 y9 : Option V), σ' = [some (.ref a), some (.ref b), some (.int (p : Int)), some (.int inv'), some (.ref pr0), some (.ref D), some (.int (n : Int)), some (.int sh), y8, y9, none] ∧ Same H H' ∧ H' D = some (.lst (qs.set n (.int sh))) ∧ H' pr0 = some (.lst (zs.map V.int)) ∧ SubM p zs rs ys sh n i)
        ⟨rs, _, _, rfl, sm2, hq2, hr2, SubM.start⟩ (fun i σ' H' hI => ?_) (fun i y T σ' H' hi hI nT => ?_) (fun σ' H' hI => ?_)⟩
      · obtain ⟨_, _, _, rfl, sm, _⟩ := hI
        exact sm.seq hB
      · obtain ⟨zs, y8, y9, rfl, sm, hq, hr, mz⟩ := hI
        obtain ⟨c, hc, rfl⟩ := get_map_int hi
        have il : i < ys.length := (List.getElem?_eq_some_iff.mp hc).1
        have ec2 := getD_of hc
        have Tq : D ≠ T := ne_of_none hq nT
        have Tr : pr0 ≠ T := ne_of_none hr nT
        have sm3 := sm.trans (sm_new (o := .tup [.int (i : Nat), .int c]) nT)
        have hq3 : (upd H' T (.tup [.int (i : Nat), .int c])) D = some (.lst (qs.set n (.int sh))) := by rw [upd_ne Tq]; exact hq
        have hr3 : (upd H' T (.tup [.int (i : Nat), .int c])) pr0 = some (.lst (zs.map V.int)) := by rw [upd_ne Tr]; exact hr
        refine ⟨T, _, rfl, SqT.of upd_same, rfl, _, _, rfl, _, _, rfl, rfl, ?_⟩
        generalize upd H' T (.tup [.int (i : Nat), .int c]) = G at sm3 hq3 hr3 ⊢
        have zl := mz.len
        have fl : n + i < zs.length := by omega
        have cb := small (ry.rng c (List.mem_of_getElem? hc))
        refine ⟨_, rfl, _, rfl, _, rfl, _, _, rfl, rfl, _, _, _, _, rfl, rfl, SqL.of hr3, at_of (j := n + i) (by omega) (map_at (get_of_lt fl)), _, rfl, _, rfl, _, _, rfl, rfl, mulW (small shr) cb (by decide), _, _, rfl, rfl, _, rfl, _, _, rfl, rfl, (show (0 : Int) < p by omega), _, rfl, _, rfl, _, rfl, _, _, rfl, rfl, pr0, _, _, n + i, rfl, rfl, hr3, ixN_at (by omega) (by rw [len_map]; exact fl), ?_⟩
        exact ⟨_, _, _, rfl, same_mut sm3 nr0, by rw [upd_ne Dp]; exact hq3, by rw [upd_same, map_set_V], mz.step (by omega) ec2.symm⟩
      · obtain ⟨zs, y8, y9, rfl, sm, hq, hr, mz⟩ := hI
        rw [len_map] at mz
        refine ⟨_, zs, _, _, _, _, rfl, sm, hq, hr, by rw [List.length_set, ql], ?_⟩
        rw [e1]
        exact m.step (by omega) y0 hv esh mz
    · obtain ⟨qs, rs, y6, y7, y8, y9, rfl, sm, hq, hr, ql, m⟩ := hI
      rw [show CN - ((xs.length : Int) - (ys.length : Int) - (-1)).toNat = 0 by omega] at m
      refine ⟨_, rfl, _, rfl, pr0, rs, rfl, .inl (SqL.of hr), fun p2 H5 n s5 np2 hp2' t => ?_⟩
      refine ⟨by show 2 ≤ sizeLine; decide, fun T nT => ?_⟩
      have sT := sm_new (o := .tup [.ref D, .ref p2]) nT
      have rl := m.rl
      refine q T _ D p2 qs (rs.take n) ((sm.trans s5).trans sT) upd_same (sm.free np2) (sT _ _ hp2') (rsp_of (by omega) m.rng t) ?_ ?_
      · have tl := t.le
        rw [List.length_take, Nat.min_eq_left tl]
        rcases t.at_ with e | e
        · omega
        · refine Decidable.byContradiction fun c => e (m.hi _ (by omega))
      · obtain ⟨s, N, hs, d⟩ := m.eq
        exact ⟨s, N, hs, fun k => by rw [take_ff t]; exact d k⟩

theorem ok_divisor_modulo (T : Tx K mg) (O_remainders : OkF P w K mg base 2 (He.fAd K ("remainders", none)) ["coefs", "modulus"] (spRems K)) (O_divided_modulo : OkF P w K mg base 2 (He.fAd K ("divided_modulo", none)) ["first", "second", "modulus"] (spDMd K)) : OkF P w K mg base 3 (He.fAd K ("divisor_modulo", none)) ["first", "second", "prime"] (spDvM K) := by
  obtain ⟨_, G_remainders, b_remainders, k_remainders⟩ := O_remainders
  obtain ⟨_, G_divided_modulo, b_divided_modulo, k_divided_modulo⟩ := O_divided_modulo
  refine okF_of (d := d_divisor_modulo) T.d_divisor_modulo rfl sc_divisor_modulo (fun _ _ _ _ _ _ us hl => match us, hl with | [_, _, _], _ => rfl) (fun vs H Q E h => ?_) (fun cdv A outer s H vs Q E hr h => ?_)
  · (obtain ⟨_, _, _, _, _, _, rfl, _⟩ := h; rfl)
  · obtain ⟨a, b, xs, ys, p, z, rfl, hA, hB, hp, p62, lx, ly, q⟩ := h
    refine ⟨_, (pss_cons (ps_set (i := 3) sc_divisor_modulo.nd rfl (Or.inl rfl) (pe_call G_remainders (hr.mono (by decide)) (by rfl) T.g_remainders k_remainders b_remainders .nil passL (pa_cons (pv 0) (pa_cons (pv 2) pa_nil))))
      (pss_cons (ps_set (i := 4) sc_divisor_modulo.nd rfl (Or.inl rfl) (pe_call G_remainders (hr.mono (by decide)) (by rfl) T.g_remainders k_remainders b_remainders .nil passL (pa_cons (pv 1) (pa_cons (pv 2) pa_nil))))
      (pss_cons (ps_while PassesOwn.leaving (pt_cmpR op_gt (pe_callB call_len_seq (by rfl) T.z_len PySem.boot_len (pa_cons (pv 4) pa_nil)) pe_int (nomark _)) (pss_cons (ps_asg (pe_call G_divided_modulo (hr.mono (by decide)) (by rfl) T.g_divided_modulo k_divided_modulo b_divided_modulo .nil passL (pa_cons (pv 3) (pa_cons (pv 4) (pa_cons (pv 2) pa_nil)))) (pg_tup rfl (pgs_cons (pg_name (i := 5) sc_divisor_modulo.nd rfl (Or.inl rfl)) (pgs_cons (pg_name (i := 6) sc_divisor_modulo.nd rfl (Or.inl rfl)) pgs_nil))))
      (pss_one (ps_par (i := 3) (j := 4) (by rfl) sc_divisor_modulo.nd rfl rfl (by decide) rfl rfl (pa_cons (pv 4) (pa_cons (pv 6) pa_nil)) (by rfl)))))
      (pss_one (ps_ret (pv 3)))))), ?_⟩
    have p2 := hp.two
    refine ⟨_, rfl, _, rfl, a, xs, p, rfl, hA, by omega, by omega, fun h0 H1 hs s1 nh hh rh lh eh => ?_⟩
    refine ⟨_, rfl, _, rfl, b, ys, p, rfl, s1.seq hB, by omega, by omega, fun l0 H2 ls s2 nl hl rl ll el => ?_⟩
    refine ⟨fun m σ' H' => ∃ (h l : Addr) (hs ls : List Int) (y5 y6 : Option V), σ' = [some (.ref a), some (.ref b), some (.int (p : Int)), some (.ref h), some (.ref l), y5, y6] ∧ m = ls.length ∧ Same H H' ∧ H' h = some (.lst (hs.map V.int)) ∧ H' l = some (.lst (ls.map V.int)) ∧ RsP p hs ∧ RsP p ls ∧ hs.length ≤ 100 ∧ ls.length ≤ 100 ∧ ∀ G, MDv p G (ff xs) → MDv p G (ff ys) → MDv p G (ff hs) ∧ MDv p G (ff ls), ⟨_, h0, l0, hs, ls, none, none, rfl, rfl, s1.trans s2, s2 _ _ hh, hl, rh, rl, by omega, by omega, fun G g1 g2 => ⟨g1.eqv eh, g2.eqv el⟩⟩, ?_⟩
    rintro m _ H' ⟨h, l, hs, ls, y5, y6, rfl, rfl, sm, hh, hl, rh, rl, lh, ll, gg⟩
    refine ⟨_, rfl, _, _, rfl, .inl (SqL.of hl), _, _, rfl, rfl, _, rfl, iteD (fun c => ?_) (fun c => ?_)⟩
    · rw [len_map] at c
      refine ⟨fun σ2 H2 => ∃ m', m' < ls.length ∧ ∃ (h l : Addr) (hs ls : List Int) (y5 y6 : Option V), σ2 = [some (.ref a), some (.ref b), some (.int (p : Int)), some (.ref h), some (.ref l), y5, y6] ∧ m' = ls.length ∧ Same H H2 ∧ H2 h = some (.lst (hs.map V.int)) ∧ H2 l = some (.lst (ls.map V.int)) ∧ RsP p hs ∧ RsP p ls ∧ hs.length ≤ 100 ∧ ls.length ≤ 100 ∧ ∀ G, MDv p G (ff xs) → MDv p G (ff ys) → MDv p G (ff hs) ∧ MDv p G (ff ls), fun _ _ h => h, ?_⟩
      refine ⟨_, rfl, _, rfl, _, rfl, h, l, hs, ls, p, 0, rfl, SqL.of hh, SqL.of hl, hp, p62, rh, rl, by omega, lh, ll, fun t H3 pq pr qs rs s3 ht npr hr rr lr ⟨s, N, hs_, d⟩ => ?_⟩
      refine ⟨t, _, rfl, SqT.of ht, rfl, _, _, rfl, _, _, rfl, rfl, ?_⟩
      refine ⟨_, rfl, _, rfl, _, _, rfl, ?_⟩
      exact ⟨rs.length, lr, l, pr, ls, rs, _, _, rfl, rfl, sm.trans s3, s3 _ _ hl, hr, rl, rr, ll, by omega, fun G g1 g2 => ⟨(gg G g1 g2).2, (gg G g1 g2).1.rest (gg G g1 g2).2 hs_ d⟩⟩
    · exact ⟨_, rfl, q h H' hs sm hh rh fun G g1 g2 => (gg G g1 g2).1⟩

theorem ok_coprime_modulo (T : Tx K mg) (O_divisor_modulo : OkF P w K mg base 3 (He.fAd K ("divisor_modulo", none)) ["first", "second", "prime"] (spDvM K)) : OkF P w K mg base 4 (He.fAd K ("coprime_modulo", none)) ["first", "second", "prime"] (spCpM K) := by
  obtain ⟨_, G_divisor_modulo, b_divisor_modulo, k_divisor_modulo⟩ := O_divisor_modulo
  refine okF_of (d := d_coprime_modulo) T.d_coprime_modulo rfl sc_coprime_modulo (fun _ _ _ _ _ _ us hl => match us, hl with | [_, _, _], _ => rfl) (fun vs H Q E h => ?_) (fun cdv A outer s H vs Q E hr h => ?_)
  · (obtain ⟨_, _, _, _, _, _, rfl, _⟩ := h; rfl)
  · obtain ⟨a, b, xs, ys, p, z, rfl, hA, hB, hp, p62, x0, y0, lx, ly, q⟩ := h
    refine ⟨_, (pss_cons (ps_if (PW.pt (pw_and (pt_cmpR op_eq (pe_op op_mod (pe_ix ix_list (pv 0) (pe_un un_neg pe_int) (fun _ _ => rfl)) (pv 2)) pe_int (nomark _)) (pw_and1 (pt_cmpR op_eq (pe_op op_mod (pe_ix ix_list (pv 1) (pe_un un_neg pe_int) (fun _ _ => rfl)) (pv 2)) pe_int (nomark _))))) (pss_one (ps_ret pe_bl)) pss_nil)
      (pss_one (ps_ret (pe_cmpR op_eq (pe_callB call_len_seq (by rfl) T.z_len PySem.boot_len (pa_cons (pe_call G_divisor_modulo (hr.mono (by decide)) (by rfl) T.g_divisor_modulo k_divisor_modulo b_divisor_modulo .nil passL (pa_cons (pv 0) (pa_cons (pv 1) (pa_cons (pv 2) pa_nil)))) pa_nil)) pe_int (nomark _))))), ?_⟩
    have p2 := hp.two
    have ltx : xs.length - 1 < xs.length := by omega
    have lty : ys.length - 1 < ys.length := by omega
    have fin : (¬ (p : Int) ∣ ff xs (xs.length - 1) ∨ ¬ (p : Int) ∣ ff ys (ys.length - 1)) → ∀ t H' zs, Same H H' → H' t = some (.lst (zs.map V.int)) → RsP p zs → (∀ G, MDv p G (ff xs) → MDv p G (ff ys) → MDv p G (ff zs)) → Q (.bl (decide (V.int ((zs.map V.int).length : Int) = V.int 1))) H' := fun hl t H' zs sm ht rz gz => by
      refine q _ H' sm fun e => ⟨hl, ?_⟩
      have e1 := V.int.inj (of_decide_eq_true e)
      rw [len_map] at e1
      obtain ⟨c, rfl⟩ := List.length_eq_one_iff.mp (show zs.length = 1 by omega)
      have cr := rz.rng c (List.mem_cons_self ..)
      have c0 : c ≠ 0 := by
        rcases rz.last with h | h
        · cases h
        · exact h
      refine ⟨c, fun d => ?_, fun G g1 g2 => (gz G g1 g2).eqv fun k => ?_⟩
      · have := Int.le_of_dvd (by omega) d
        omega
      · match k with
        | 0 => show (p : Int) ∣ c - c; rw [Int.sub_self]; exact Int.dvd_zero _
        | k + 1 =>
          rw [if_neg (by omega)]
          show (p : Int) ∣ ([c] : List Int).getD (k + 1) 0 - 0
          rw [getD_end (by show 1 ≤ _; omega)]
          exact Int.dvd_zero _
    refine ⟨_, rfl, _, rfl, _, _, _, _, rfl, rfl, hA, at_last (by rw [len_map]; exact map_at (get_of_lt ltx)), _, rfl, _, _, rfl, rfl, (show (0 : Int) < p by omega), rfl, _, rfl, iteEq (fun c1 => ?_) (fun c1 => iteN rfl ?_)⟩
    · refine ⟨_, rfl, _, rfl, _, _, _, _, rfl, rfl, hB, at_last (by rw [len_map]; exact map_at (get_of_lt lty)), _, rfl, _, _, rfl, rfl, (show (0 : Int) < p by omega), rfl, _, rfl, iteEq (fun c2 => ?_) (fun c2 => ?_)⟩
      · exact q false H (fun _ _ e => e) fun e => Bool.noConfusion e
      · refine ⟨_, rfl, _, rfl, _, rfl, a, b, xs, ys, p, 0, rfl, hA, hB, hp, p62, lx, ly, fun t H' zs sm ht rz gz => ?_⟩
        exact ⟨_, _, rfl, .inl (SqL.of ht), rfl, fin (.inr fun d => c2 (Int.emod_eq_zero_of_dvd d)) t H' zs sm ht rz gz⟩
    · refine ⟨_, rfl, _, rfl, _, rfl, a, b, xs, ys, p, 0, rfl, hA, hB, hp, p62, lx, ly, fun t H' zs sm ht rz gz => ?_⟩
      exact ⟨_, _, rfl, .inl (SqL.of ht), rfl, fin (.inl fun d => c1 (Int.emod_eq_zero_of_dvd d)) t H' zs sm ht rz gz⟩

theorem ok_height (T : Tx K mg) : OkF P w K mg base 1 (He.fAd K ("height", none)) ["coefs"] (spHeiB K) := by
  refine okF_of (d := d_height) T.d_height rfl sc_height (fun _ _ _ _ _ _ us hl => match us, hl with | [_], _ => rfl) (fun vs H Q E h => ?_) (fun cdv A outer s H vs Q E hr h => ?_)
  · first | (obtain ⟨_, rfl, _⟩ := h; rfl) | (obtain ⟨_, _, rfl, _⟩ := h; rfl) | (obtain ⟨_, _, _, rfl, _⟩ := h; rfl) | (obtain ⟨_, _, _, _, rfl, _⟩ := h; rfl) | (obtain ⟨_, _, _, _, _, rfl, _⟩ := h; rfl) | (obtain ⟨_, _, _, _, _, _, rfl, _⟩ := h; rfl) | (obtain ⟨_, _, _, _, _, _, _, rfl, _⟩ := h; rfl) | (obtain ⟨_, _, _, _, _, _, _, _, rfl, _⟩ := h; rfl) | (obtain ⟨_, _, _, _, _, _, _, _, _, rfl, _⟩ := h; rfl) | (obtain ⟨_, _, _, _, _, _, _, _, _, _, rfl, _⟩ := h; rfl)
  · obtain ⟨a, xs, rfl, hS, l1, q⟩ := h
    rcases hS with hS | hS
    · refine ⟨_, (pss_one (ps_ret (pe_callBK (cr_maxD rfl hr.units) (by rfl) T.z_max (by decide +kernel) (pa_cons (pe_lc (own := [("c", 1)]) (g := gName 1) rfl sc_height.nd (pi_list (pv 0)) (blkOk_by (own := [("c", 1)]) (N := N_height) (sc := defScope s_height) (by decide +kernel)) (fun _ _ _ _ _ => (pg_name (i := 1) sc_height.nd rfl (Or.inl rfl))) (fun _ _ _ _ _ => pts_nil) (fun _ _ _ _ _ => (pe_callB call_abs (by rfl) T.z_abs (by decide +kernel) (pa_cons (pv 1) pa_nil)))) pa_nil) (pk_cons pe_int pk_nil)))), ?_⟩
      have gv : ∀ (h : Nat), (∀ x ∈ xs, x.natAbs ≤ h) → ∀ i, (xs.getD i 0).natAbs ≤ h := fun h hh i => by
        by_cases c : i < xs.length
        · exact hh _ (List.mem_of_getElem? (get_of_lt c))
        · rw [getD_end (by omega)]; exact Nat.zero_le _
      refine ⟨_, rfl, a, rfl, ⟨_, hS⟩, fun D nD => ?_⟩
      refine walkL (xs := xs.map V.int) (fun i H' => Same H H' ∧ H' D = some (.lst (((xs.take i).map fun x => (x.natAbs : Int)).map V.int))) ⟨sm_new nD, upd_same⟩ (fun i H' hi hP => hP.1.seq hS) (fun i x H' hi hP => ?_) (fun H' hP => ?_)
      · obtain ⟨u, hu, rfl⟩ := get_map_int hi
        obtain ⟨sm, hD⟩ := hP
        refine ⟨rfl, ?_⟩
        unfold tYes
        refine iteK rfl ?_
        refine ⟨_, rfl, _, rfl, _, hD, by rw [List.length_map, List.length_map, List.length_take]; exact small1000 (by omega), same_mut sm nD, ?_⟩
        rw [upd_same, List.take_succ, hu, List.map_append, List.map_append, show (if u < 0 then -u else u) = (u.natAbs : Int) by split <;> omega]
        rfl
      obtain ⟨sm, hD⟩ := hP
      rw [len_map, List.take_length] at hD
      refine ⟨D, _, 0, rfl, rfl, SqL.of hD, fun e => ?_, fun m hm hm2 => ?_⟩
      · have e2 : xs = [] := by simpa using e
        exact q 0 H' sm (gv 0 fun x hx => by rw [e2] at hx; cases hx) (fun k _ => Nat.two_pow_pos k)
      · obtain ⟨x, hx, rfl⟩ := List.mem_map.mp hm
        exact q x.natAbs H' sm (gv _ fun y hy => by have := hm2 _ (List.mem_map.mpr ⟨y, hy, rfl⟩); omega) (fun k hk => hk x hx)
    · refine ⟨_, (pss_one (ps_ret (pe_callBK (cr_maxD rfl hr.units) (by rfl) T.z_max (by decide +kernel) (pa_cons (pe_lc (own := [("c", 1)]) (g := gName 1) rfl sc_height.nd (pi_tup (pv 0)) (blkOk_by (own := [("c", 1)]) (N := N_height) (sc := defScope s_height) (by decide +kernel)) (fun _ _ _ _ _ => (pg_name (i := 1) sc_height.nd rfl (Or.inl rfl))) (fun _ _ _ _ _ => pts_nil) (fun _ _ _ _ _ => (pe_callB call_abs (by rfl) T.z_abs (by decide +kernel) (pa_cons (pv 1) pa_nil)))) pa_nil) (pk_cons pe_int pk_nil)))), ?_⟩
      have gv : ∀ (h : Nat), (∀ x ∈ xs, x.natAbs ≤ h) → ∀ i, (xs.getD i 0).natAbs ≤ h := fun h hh i => by
        by_cases c : i < xs.length
        · exact hh _ (List.mem_of_getElem? (get_of_lt c))
        · rw [getD_end (by omega)]; exact Nat.zero_le _
      refine ⟨_, rfl, a, rfl, ⟨_, hS⟩, fun D nD => ?_⟩
      refine walkT (xs := xs.map V.int) (fun i H' => Same H H' ∧ H' D = some (.lst (((xs.take i).map fun x => (x.natAbs : Int)).map V.int))) ⟨sm_new nD, upd_same⟩ (fun i H' hi hP => sm_tup hP.1 hS) (fun i x H' hi hP => ?_) (fun H' hP => ?_)
      · obtain ⟨u, hu, rfl⟩ := get_map_int hi
        obtain ⟨sm, hD⟩ := hP
        refine ⟨rfl, ?_⟩
        unfold tYes
        refine iteK rfl ?_
        refine ⟨_, rfl, _, rfl, _, hD, by rw [List.length_map, List.length_map, List.length_take]; exact small1000 (by omega), same_mut sm nD, ?_⟩
        rw [upd_same, List.take_succ, hu, List.map_append, List.map_append, show (if u < 0 then -u else u) = (u.natAbs : Int) by split <;> omega]
        rfl
      obtain ⟨sm, hD⟩ := hP
      rw [len_map, List.take_length] at hD
      refine ⟨D, _, 0, rfl, rfl, SqL.of hD, fun e => ?_, fun m hm hm2 => ?_⟩
      · have e2 : xs = [] := by simpa using e
        exact q 0 H' sm (gv 0 fun x hx => by rw [e2] at hx; cases hx) (fun k _ => Nat.two_pow_pos k)
      · obtain ⟨x, hx, rfl⟩ := List.mem_map.mp hm
        exact q x.natAbs H' sm (gv _ fun y hy => by have := hm2 _ (List.mem_map.mpr ⟨y, hy, rfl⟩); omega) (fun k hk => hk x hx)

theorem ok_evaluated (T : Tx K mg) : OkF P w K mg base 1 (He.fAd K ("evaluated", none)) ["coefs", "at"] (spEvaB K) := by
  refine okF_of (d := d_evaluated) T.d_evaluated rfl sc_evaluated (fun _ _ _ _ _ _ us hl => match us, hl with | [_, _], _ => rfl) (fun vs H Q E h => ?_) (fun cdv A outer s H vs Q E hr h => ?_)
  · first | (obtain ⟨_, rfl, _⟩ := h; rfl) | (obtain ⟨_, _, rfl, _⟩ := h; rfl) | (obtain ⟨_, _, _, rfl, _⟩ := h; rfl) | (obtain ⟨_, _, _, _, rfl, _⟩ := h; rfl) | (obtain ⟨_, _, _, _, _, rfl, _⟩ := h; rfl) | (obtain ⟨_, _, _, _, _, _, rfl, _⟩ := h; rfl) | (obtain ⟨_, _, _, _, _, _, _, rfl, _⟩ := h; rfl) | (obtain ⟨_, _, _, _, _, _, _, _, rfl, _⟩ := h; rfl) | (obtain ⟨_, _, _, _, _, _, _, _, _, rfl, _⟩ := h; rfl) | (obtain ⟨_, _, _, _, _, _, _, _, _, _, rfl, _⟩ := h; rfl)
  · obtain ⟨a, cs, x, k, j, rfl, hS, hb, hx, hk, q⟩ := h
    rcases hS with hS | hS
    · refine ⟨_, (pss_cons (ps_setI (i := 2) sc_evaluated.nd rfl (Or.inl rfl) pe_int)
      (pss_cons (ps_for PassesOwn.leaving rfl (RT.pi_revA (by rfl) T.z_reversed (pv 0)) (pg_name (i := 3) sc_evaluated.nd rfl (Or.inl rfl)) (pss_one (ps_setI (i := 2) sc_evaluated.nd rfl (Or.inl rfl) (pe_op op_add (pe_op op_mulW (pv 2) (pv 1)) (pv 3)))))
      (pss_one (ps_ret (pv 2))))), ?_⟩
      refine ⟨_, rfl, fun t0 et => ?_⟩
      refine ⟨_, rfl, _, _, rfl, .inl ⟨hS, RT.for_Itv (K := K) (a := a) (xs := cs.map V.int) (fun i σ' H' => H = H' ∧ ∃ (t : Int) (y : Option V), σ' = [some (.ref a), some (.int x), some (.int t), y] ∧ t = evL x (cs.drop (cs.length - i)))
        ⟨rfl, t0, none, rfl, by rw [et, Nat.sub_zero, List.drop_length]; rfl⟩ (fun i σ' H' hI => ?_) (fun i y σ' H' hlt hi hI => ?_) (fun σ' H' hI => ?_)⟩⟩
      · obtain ⟨rfl, t, y, rfl, ht⟩ := hI
        exact hS
      · obtain ⟨rfl, t, y0, rfl, ht⟩ := hI
        rw [len_map] at hlt hi
        obtain ⟨c, hc, rfl⟩ : ∃ c, cs[cs.length - 1 - i]? = some c ∧ y = V.int c := by
          rw [List.getElem?_map] at hi
          cases e : cs[cs.length - 1 - i]? with
          | none => rw [e] at hi; cases hi
          | some u => rw [e] at hi; cases hi; exact ⟨u, rfl, rfl⟩
        have tb := evL_bits hx (k := k) (cs := cs.drop (cs.length - i)) fun z hz => hb z (List.mem_of_mem_drop hz)
        rw [← ht, List.length_drop] at tb
        have le : (j + 1) * (cs.length - (cs.length - i)) ≤ (j + 1) * cs.length := Nat.mul_le_mul_left _ (by omega)
        rw [Nat.mul_add] at hk
        refine ⟨_, rfl, _, rfl, _, _, rfl, rfl, mulW tb hx (by omega), _, rfl, _, _, rfl, rfl, _, rfl, fun t2 e2 => ?_⟩
        refine ⟨rfl, t2, _, rfl, ?_⟩
        rw [e2, ht, drop_rev hc hlt]
        rfl
      · obtain ⟨rfl, t, y, rfl, ht⟩ := hI
        rw [len_map, Nat.sub_self, List.drop_zero] at ht
        rw [← ht] at q
        exact ⟨_, rfl, q⟩
    · refine ⟨_, (pss_cons (ps_setI (i := 2) sc_evaluated.nd rfl (Or.inl rfl) pe_int)
      (pss_cons (ps_for PassesOwn.leaving rfl (RT.pi_revA (by rfl) T.z_reversed (pv 0)) (pg_name (i := 3) sc_evaluated.nd rfl (Or.inl rfl)) (pss_one (ps_setI (i := 2) sc_evaluated.nd rfl (Or.inl rfl) (pe_op op_add (pe_op op_mulW (pv 2) (pv 1)) (pv 3)))))
      (pss_one (ps_ret (pv 2))))), ?_⟩
      refine ⟨_, rfl, fun t0 et => ?_⟩
      refine ⟨_, rfl, _, _, rfl, .inr ⟨hS, RT.for_ItvT (K := K) (a := a) (xs := cs.map V.int) (fun i σ' H' => H = H' ∧ ∃ (t : Int) (y : Option V), σ' = [some (.ref a), some (.int x), some (.int t), y] ∧ t = evL x (cs.drop (cs.length - i)))
        ⟨rfl, t0, none, rfl, by rw [et, Nat.sub_zero, List.drop_length]; rfl⟩ (fun i σ' H' hI => ?_) (fun i y σ' H' hlt hi hI => ?_) (fun σ' H' hI => ?_)⟩⟩
      · obtain ⟨rfl, t, y, rfl, ht⟩ := hI
        exact hS
      · obtain ⟨rfl, t, y0, rfl, ht⟩ := hI
        rw [len_map] at hlt hi
        obtain ⟨c, hc, rfl⟩ : ∃ c, cs[cs.length - 1 - i]? = some c ∧ y = V.int c := by
          rw [List.getElem?_map] at hi
          cases e : cs[cs.length - 1 - i]? with
          | none => rw [e] at hi; cases hi
          | some u => rw [e] at hi; cases hi; exact ⟨u, rfl, rfl⟩
        have tb := evL_bits hx (k := k) (cs := cs.drop (cs.length - i)) fun z hz => hb z (List.mem_of_mem_drop hz)
        rw [← ht, List.length_drop] at tb
        have le : (j + 1) * (cs.length - (cs.length - i)) ≤ (j + 1) * cs.length := Nat.mul_le_mul_left _ (by omega)
        rw [Nat.mul_add] at hk
        refine ⟨_, rfl, _, rfl, _, _, rfl, rfl, mulW tb hx (by omega), _, rfl, _, _, rfl, rfl, _, rfl, fun t2 e2 => ?_⟩
        refine ⟨rfl, t2, _, rfl, ?_⟩
        rw [e2, ht, drop_rev hc hlt]
        rfl
      · obtain ⟨rfl, t, y, rfl, ht⟩ := hI
        rw [len_map, Nat.sub_self, List.drop_zero] at ht
        rw [← ht] at q
        exact ⟨_, rfl, q⟩

theorem ok__digits (T : Tx K mg) : OkF P w K mg base 1 (He.fAd K ("_digits", none)) ["number", "base"] (spDig K) := by
  refine okF_of (d := d__digits) T.d__digits rfl sc__digits (fun _ _ _ _ _ _ us hl => match us, hl with | [_, _], _ => rfl) (fun vs H Q E h => ?_) (fun cdv A outer s H vs Q E hr h => ?_)
  · (obtain ⟨_, _, _, rfl, _⟩ := h; rfl)
  · obtain ⟨n, X, L, rfl, X3, X8, nb, hL, q⟩ := h
    refine ⟨_, (pss_cons (ps_set (i := 2) sc__digits.nd rfl (Or.inl rfl) (pe_lst pa_nil))
      (pss_cons (ps_while PassesOwn.leaving (pt_cmpR op_ne (pv 0) pe_int (nomark _)) (pss_cons (ps_setI (i := 3) sc__digits.nd rfl (Or.inl rfl) (pe_op op_mod (pv 0) (pv 1)))
      (Evl.pss_cut (ps_if (pt_cmpR op_gt (pe_op op_mulW pe_int (pv 3)) (pv 1) (nomark _)) (pss_one (ps_setI (i := 3) sc__digits.nd rfl (Or.inl rfl) (pe_op op_sub (pv 3) (pv 1)))) pss_nil)
      (pss_cons (ps_expr (pe_bm PySem.F.plainAttrs_list PySem.F.slot_list_append PySem.F.type_list_append mt_append (pv 2) (pa_cons (pv 3) pa_nil)))
      (pss_one (ps_setI (i := 0) sc__digits.nd rfl (Or.inl rfl) (pe_op op_fdivW (pe_op op_sub (pv 0) (pv 3)) (pv 1))))))))
      (pss_one (ps_ret (pv 2))))), ?_⟩
    refine ⟨by show 0 ≤ sizeLine; decide, fun D nD => ?_⟩
    have s0 := sm_new (o := .lst []) nD
    have hD0 : (upd H D (.lst [])) D = some (.lst (([] : List Int).map V.int)) := upd_same
    generalize upd H D (.lst []) = H0 at s0 hD0 ⊢
    refine ⟨fun m σ' H' => ∃ (v : Int) (ds : List Int) (y3 : Option V), σ' = [some (.int v), some (.int (X : Int)), some (.ref D), y3] ∧ m = v.natAbs ∧ Same H H' ∧ H' D = some (.lst (ds.map V.int)) ∧ (∀ d ∈ ds, 2 * d.natAbs ≤ X) ∧ e1 (ff ds) (X : Int) ds.length + v * (X : Int) ^ ds.length = n ∧ (v ≠ 0 → ds.length ≤ L ∧ v.natAbs ≤ X ^ (L - ds.length)) ∧ ds.length ≤ L + 1 ∧ (v = 0 → ds = [] ∨ ds.getD (ds.length - 1) 0 ≠ 0), ⟨_, n, [], none, rfl, rfl, s0, hD0, fun d hd => absurd hd (by simp), by show (0 : Int) + n * (X : Int) ^ 0 = n; rw [Int.pow_zero]; omega, fun _ => ⟨Nat.zero_le _, nb⟩, Nat.zero_le _, fun _ => .inl rfl⟩, ?_⟩
    rintro m _ H' ⟨v, ds, y3, rfl, rfl, sm, hD, sd, val, vb, dl, last⟩
    refine ⟨_, rfl, rfl, _, rfl, iteEqN (fun v0 => ?_) (fun v0 => ?_)⟩
    · obtain ⟨dL, vX⟩ := vb v0
      refine ⟨fun σ2 H2 => ∃ m', m' < v.natAbs ∧ ∃ (v : Int) (ds : List Int) (y3 : Option V), σ2 = [some (.int v), some (.int (X : Int)), some (.ref D), y3] ∧ m' = v.natAbs ∧ Same H H2 ∧ H2 D = some (.lst (ds.map V.int)) ∧ (∀ d ∈ ds, 2 * d.natAbs ≤ X) ∧ e1 (ff ds) (X : Int) ds.length + v * (X : Int) ^ ds.length = n ∧ (v ≠ 0 → ds.length ≤ L ∧ v.natAbs ≤ X ^ (L - ds.length)) ∧ ds.length ≤ L + 1 ∧ (v = 0 → ds = [] ∨ ds.getD (ds.length - 1) 0 ≠ 0), fun _ _ h => h, ?_⟩
      refine ⟨_, rfl, _, rfl, _, _, rfl, rfl, (show (0 : Int) < X by omega), _, rfl, fun d0 ed => ?_⟩
      have r0 := Int.emod_nonneg v (show (X : Int) ≠ 0 by omega)
      have r1 := Int.emod_lt_of_pos v (show (0 : Int) < X by omega)
      have d0b : d0.natAbs < 2 ^ 8000 := by
        rw [ed]
        exact Nat.lt_trans (show (v % (X : Int)).natAbs < X by omega) X8
      refine ⟨fun σ3 H3 => H' = H3 ∧ ∃ d : Int, σ3 = [some (.int v), some (.int (X : Int)), some (.ref D), some (.int d)] ∧ 2 * d.natAbs ≤ X ∧ (X : Int) ∣ v - d, ?_, ?_⟩
      · refine ⟨_, rfl, _, _, rfl, rfl, mulW (a := 2) (by decide) d0b (by decide), _, rfl, _, _, rfl, rfl, _, rfl, iteD (fun z => ?_) (fun z => ?_)⟩
        · refine ⟨_, rfl, _, rfl, _, _, rfl, rfl, _, rfl, fun d ed2 => ⟨rfl, d, rfl, by omega, ?_⟩⟩
          obtain ⟨t, ht⟩ := mod_sub_dvd X v
          exact ⟨t + 1, by rw [Int.mul_add]; omega⟩
        · exact ⟨rfl, d0, rfl, by omega, by rw [ed]; exact mod_sub_dvd X v⟩
      rintro _ _ ⟨rfl, d, rfl, d2, t, ht⟩
      refine ⟨_, rfl, .inl ⟨rfl, _, SqL.of hD⟩, _, rfl, _, _, _, rfl, rfl, hD, by rw [len_map]; exact small1000 (by omega), ?_⟩
      refine ⟨_, rfl, _, rfl, _, _, rfl, rfl, _, rfl, _, _, rfl, rfl, divW (b := 8000) (by omega) (by rw [Int.natAbs_natCast]; exact X8) (by decide), _, rfl, fun v2 ev2 => ?_⟩
      have et : v2 = t := by rw [ev2, ht]; exact Int.mul_ediv_cancel_left t (by omega)
      subst et
      have vt : v = d + (X : Int) * v2 := by omega
      -- |v2| X ≤ |v| + |d|
      have ab : X * v2.natAbs ≤ v.natAbs + d.natAbs := by
        have := Int.natAbs_sub_le v d
        rw [ht, Int.natAbs_mul, Int.natAbs_natCast] at this
        exact this
      have lt : v2.natAbs < v.natAbs := by
        refine Decidable.byContradiction fun c => ?_
        have h3 : 3 * v2.natAbs ≤ X * v2.natAbs := Nat.mul_le_mul_right _ X3
        have h4 : X * 1 ≤ X * v2.natAbs := Nat.mul_le_mul_left _ (by omega)
        omega
      refine ⟨v2.natAbs, lt, v2, ds ++ [d], _, rfl, rfl, same_mut sm nD, by rw [upd_same, List.map_append]; rfl, fun x hx => ?_, ?_, fun v20 => ?_, ?_, fun v20 => ?_⟩
      · rcases List.mem_append.mp hx with hx | hx
        · exact sd x hx
        · rw [List.mem_singleton.mp hx]; exact d2
      · rw [List.length_append]
        show e1 (ff (ds ++ [d])) (X : Int) (ds.length + 1) + v2 * (X : Int) ^ (ds.length + 1) = n
        rw [e1_snoc, ← val, vt, Int.pow_succ]
        grind
      · rw [List.length_append]
        show ds.length + 1 ≤ L ∧ v2.natAbs ≤ X ^ (L - (ds.length + 1))
        by_cases c : ds.length = L
        · exfalso
          rw [c, Nat.sub_self, Nat.pow_zero] at vX
          have h4 : X * 1 ≤ X * v2.natAbs := Nat.mul_le_mul_left _ (by omega)
          omega
        · refine ⟨by omega, ?_⟩
          obtain ⟨j, hj⟩ : ∃ j, L - ds.length = j + 1 := ⟨L - ds.length - 1, by omega⟩
          rw [show L - (ds.length + 1) = j by omega]
          rw [hj, Nat.pow_succ] at vX
          refine Decidable.byContradiction fun c2 => ?_
          obtain ⟨u, hu⟩ : ∃ u, v2.natAbs = X ^ j + 1 + u := ⟨v2.natAbs - (X ^ j + 1), by omega⟩
          rw [hu, Nat.mul_add, Nat.mul_add, Nat.mul_comm X (X ^ j)] at ab
          omega
      · rw [List.length_append]
        show ds.length + 1 ≤ L + 1
        omega
      · right
        rw [List.length_append]
        show (ds ++ [d]).getD (ds.length + 1 - 1) 0 ≠ 0
        rw [Nat.add_sub_cancel, List.getD_eq_getElem?_getD, List.getElem?_append_right (Nat.le_refl _), Nat.sub_self]
        show d ≠ 0
        intro z
        rw [z, v20, Int.mul_zero] at vt
        exact v0 vt
    · have v0' : v = 0 := v0
      rw [v0', Int.zero_mul, Int.add_zero] at val
      exact ⟨_, rfl, q D H' ds sm nD hD ⟨val, sd, last v0'⟩ dl⟩

theorem ok__divide_coefs (T : Tx K mg) : OkF P w K mg base 1 (He.fAd K ("_divide_coefs", none)) ["first", "second"] (spDivC K) := by
  refine okF_of (d := d__divide_coefs) T.d__divide_coefs rfl sc__divide_coefs (fun _ _ _ _ _ _ us hl => match us, hl with | [_, _], _ => rfl) (fun vs H Q E h => ?_) (fun cdv A outer s H vs Q E hr h => ?_)
  · first | (obtain ⟨_, rfl, _⟩ := h; rfl) | (obtain ⟨_, _, rfl, _⟩ := h; rfl) | (obtain ⟨_, _, _, rfl, _⟩ := h; rfl) | (obtain ⟨_, _, _, _, rfl, _⟩ := h; rfl) | (obtain ⟨_, _, _, _, _, rfl, _⟩ := h; rfl) | (obtain ⟨_, _, _, _, _, _, rfl, _⟩ := h; rfl) | (obtain ⟨_, _, _, _, _, _, _, rfl, _⟩ := h; rfl) | (obtain ⟨_, _, _, _, _, _, _, _, rfl, _⟩ := h; rfl) | (obtain ⟨_, _, _, _, _, _, _, _, _, rfl, _⟩ := h; rfl) | (obtain ⟨_, _, _, _, _, _, _, _, _, _, rfl, _⟩ := h; rfl)
  · obtain ⟨a, b, xs, ys, k, rfl, hA, hB, b1, b2, y0, lz, l1, l2, hk, q⟩ := h
    refine ⟨_, (pss_cons (ps_setI (i := 2) sc__divide_coefs.nd rfl (Or.inl rfl) (pe_op op_add (pe_op op_sub (pe_callB call_len_seq (by rfl) T.z_len PySem.boot_len (pa_cons (pv 0) pa_nil)) (pe_callB call_len_seq (by rfl) T.z_len PySem.boot_len (pa_cons (pv 1) pa_nil))) pe_int))
      (pss_cons (ps_setLc (i := 3) (own := [("_", 13)]) (g := gName 13) rfl sc__divide_coefs.nd rfl rfl (sw_true rfl rfl rfl (by decide +kernel)) (pi_range1 rfl T.z_range (pa_cons (pv 2) pa_nil)) (blkOk_by (own := [("_", 13)]) (N := N__divide_coefs) (sc := defScope s__divide_coefs) (by decide +kernel)) (fun _ _ _ _ _ => (pg_name (i := 13) sc__divide_coefs.nd rfl (Or.inl rfl))) (fun _ _ _ _ _ => pts_nil) (fun _ _ _ _ _ => pe_int))
      (pss_cons (ps_set (i := 4) sc__divide_coefs.nd rfl (Or.inl rfl) (pe_callTy call_list_of (by rfl) T.z_list (by decide +kernel) (pa_cons (pv 0) pa_nil)))
      (pss_cons (ps_setI (i := 5) sc__divide_coefs.nd rfl (Or.inl rfl) pe_int)
      (pss_cons (ps_setI (i := 6) sc__divide_coefs.nd rfl (Or.inl rfl) (pe_ix ix_tup (pv 1) (pe_un un_neg pe_int) (fun _ _ => rfl)))
      (pss_cons (ps_for PassesOwn.leaving rfl (pi_range3 rfl T.z_range (pa_cons (pe_op op_sub (pv 2) pe_int) (pa_cons (pe_un un_neg pe_int) (pa_cons (pe_un un_neg pe_int) pa_nil)))) (pg_name (i := 7) sc__divide_coefs.nd rfl (Or.inl rfl)) (pss_cons (ps_setI (i := 8) sc__divide_coefs.nd rfl (Or.inl rfl) (pe_ix ix_list (pv 4) (pe_op op_sub (pe_op op_add (pv 7) (pe_callB call_len_seq (by rfl) T.z_len PySem.boot_len (pa_cons (pv 1) pa_nil))) pe_int) (fun _ _ => rfl)))
      (Evl.pss_cut (ps_if (pt_cmpR op_ne (pe_op op_modN (pv 8) (pv 6)) pe_int (nomark _)) (pss_cons (ps_setI (i := 9) sc__divide_coefs.nd rfl (Or.inr rfl) (pe_op op_fdivZ (pv 6) (pe_callBfun cr_gcd rfl T.g_gcd (pa_cons (pv 8) (pa_cons (pv 6) pa_nil)))))
      (pss_cons (ps_setLc (i := 3) (own := [("c", 12)]) (g := gName 12) rfl sc__divide_coefs.nd rfl rfl (sw_true rfl rfl rfl (by decide +kernel)) (pi_list (pv 3)) (blkOk_by (own := [("c", 12)]) (N := N__divide_coefs) (sc := defScope s__divide_coefs) (by decide +kernel)) (fun _ _ _ _ _ => (pg_name (i := 12) sc__divide_coefs.nd rfl (Or.inl rfl))) (fun _ _ _ _ _ => pts_nil) (fun _ _ _ _ _ => (pe_op op_mulW (pv 12) (pv 9))))
      (pss_cons (ps_setLc (i := 4) (own := [("c", 12)]) (g := gName 12) rfl sc__divide_coefs.nd rfl rfl (sw_true rfl rfl rfl (by decide +kernel)) (pi_list (pv 4)) (blkOk_by (own := [("c", 12)]) (N := N__divide_coefs) (sc := defScope s__divide_coefs) (by decide +kernel)) (fun _ _ _ _ _ => (pg_name (i := 12) sc__divide_coefs.nd rfl (Or.inl rfl))) (fun _ _ _ _ _ => pts_nil) (fun _ _ _ _ _ => (pe_op op_mulW (pv 12) (pv 9))))
      (pss_cons (ps_setI (i := 5) sc__divide_coefs.nd rfl (Or.inl rfl) (pe_op op_mulW (pv 5) (pv 9)))
      (pss_one (ps_setI (i := 8) sc__divide_coefs.nd rfl (Or.inl rfl) (pe_op op_mulW (pv 8) (pv 9)))))))) pss_nil)
      (pss_cons (ps_setI (i := 10) sc__divide_coefs.nd rfl (Or.inl rfl) (pe_op op_fdivZ (pv 8) (pv 6)))
      (pss_cons (ps_asg (pv 10) (pg_sub (pv 3) (pv 7) set_list))
      (pss_one (ps_if (pt_cmpR op_ne (pv 10) pe_int (nomark _)) (pss_one (ps_for PassesOwn.leaving rfl (pi_enumT (by rfl) T.z_enumerate (pa_cons (pv 1) pa_nil)) (pg_tup rfl (pgs_cons (pg_name (i := 11) sc__divide_coefs.nd rfl (Or.inl rfl)) (pgs_cons (pg_name (i := 12) sc__divide_coefs.nd rfl (Or.inl rfl)) pgs_nil))) (pss_one (ps_asg (pe_op op_sub (pe_ix ix_list (pv 4) (pe_op op_add (pv 7) (pv 11)) (fun _ _ => rfl)) (pe_op op_mulW (pv 10) (pv 12))) (pg_sub (pv 4) (pe_op op_add (pv 7) (pv 11)) set_list))))) pss_nil)))))))
      (pss_one (ps_ret (pe_tup (pa_cons (pv 3) (pa_cons (pv 4) (pa_cons (pv 5) pa_nil)))))))))))), ?_⟩
    refine ⟨_, rfl, _, _, rfl, .inr hA, _, rfl, _, _, rfl, .inr hB, _, _, rfl, rfl, _, _, rfl, rfl, _, rfl, fun cnt ec => ?_⟩
    rw [len_map, len_map] at ec
    refine ⟨_, rfl, _, rfl, by omega, by omega, fun D nD => lc_range (lo := 0) (n := cnt.toNat) (fun i H' => Same H H' ∧ H' D = some (.lst ((List.replicate i (0 : Int)).map V.int))) ⟨sm_new nD, upd_same⟩ (fun i H' hi hP => ?_) (fun H1 hP => ?_)⟩
    · obtain ⟨sm, hD⟩ := hP
      refine ⟨rfl, ?_⟩
      unfold tYes
      refine iteK rfl ?_
      refine ⟨_, hD, by rw [len_map, List.length_replicate]; exact small1000 (by omega), same_mut sm nD, ?_⟩
      rw [upd_same, List.replicate_succ', List.map_append]
      rfl
    obtain ⟨s1, hD⟩ := hP
    refine ⟨_, rfl, a, _, rfl, .inr (sm_tup s1 hA), fun pr0 npr => ?_⟩
    have s2 := s1.trans (sm_new (o := .lst (xs.map V.int)) npr)
    have Dp : D ≠ pr0 := ne_of_none hD npr
    have hD2 : (upd H1 pr0 (.lst (xs.map V.int))) D = some (.lst ((List.replicate cnt.toNat (0 : Int)).map V.int)) := by rw [upd_ne Dp]; exact hD
    have hp2 : (upd H1 pr0 (.lst (xs.map V.int))) pr0 = some (.lst (xs.map V.int)) := upd_same
    have nr0 : H pr0 = none := s1.free npr
    generalize upd H1 pr0 (.lst (xs.map V.int)) = H2 at s2 hD2 hp2 ⊢
    refine ⟨_, rfl, fun f0 ef => ?_⟩
    have lt : ys.length - 1 < ys.length := by omega
    refine ⟨_, rfl, _, rfl, _, _, _, _, rfl, rfl, sm_tup s2 hB, at_last (by rw [len_map]; exact map_at (get_of_lt lt)), _, rfl, fun ld eld => ?_⟩
    have ld0 : ld ≠ 0 := by rw [eld]; exact lz
    have ldb : ld.natAbs < 2 ^ k := by rw [eld]; exact b2.getD _
    obtain ⟨CN, hCN⟩ : ∃ CN : Nat, cnt.toNat = CN := ⟨_, rfl⟩
    have cn1 : CN ≤ xs.length := by omega
    rw [hCN] at hD2
    refine ⟨_, rfl, _, _, rfl, rfl, _, rfl, _, rfl, _, _, _, _, rfl, RgC.neg (by omega) (by omega) (by omega) (by omega), for_rangeC (lo := cnt - 1) (c := -1) (n := (cnt - 1 - (-1)).toNat) (fun t σ' H' => ∃ (pq pr : Addr) (qs rs : List Int) (f : Int) (y7 y8 y9 y10 y11 y12 : Option V), σ' = [some (.ref a), some (.ref b), some (.int cnt), some (.ref pq), some (.ref pr), some (.int f), some (.int ld), y7, y8, y9, y10, y11, y12, none] ∧
        Same H H' ∧ H pq = none ∧ H pr = none ∧ pq ≠ pr ∧ H' pq = some (.lst (qs.map V.int)) ∧ H' pr = some (.lst (rs.map V.int)) ∧ qs.length = CN ∧ DivAt f xs qs rs ys (CN - t) ∧ FqC f qs ∧ Bits (dvB k t) qs ∧ Bits (dvB k t) rs ∧ f.natAbs < 2 ^ (dvB k t))
      ⟨D, pr0, List.replicate CN 0, xs, f0, none, none, none, none, none, none, rfl, s2, nD, nr0, Dp, hD2, hp2, List.length_replicate, ?_, ?_, ?_, ?_, ?_⟩ (fun t σ' H' ht hI => ?_) (fun σ' H' hI => ?_)⟩
    · rw [ef]; exact DivAt.start (by omega)
    · rw [ef]; exact FqC.start
    · exact ⟨fun x hx => by rw [(List.mem_replicate.mp hx).2]; exact Nat.pow_pos (by decide)⟩
    · exact b1.mono (by unfold dvB; omega)
    · rw [ef]; exact Nat.lt_of_lt_of_le (show 1 < 2 ^ 1 by decide) (Nat.pow_le_pow_right (by decide) (by unfold dvB; omega))
    · obtain ⟨pq, pr, qs, rs, f, y7, y8, y9, y10, y11, y12, rfl, sm, nq, nr, qr, hq, hr, ql, m, fc, bq, br, bf⟩ := hI
      obtain ⟨n, hn⟩ : ∃ n : Nat, CN - t = n + 1 := ⟨CN - t - 1, by omega⟩
      rw [hn] at m
      have nl : n < CN := by omega
      have rl := m.rl
      have bB : dvB k t + (k + 1) ≤ dvB k xs.length := by rw [← dvB_more]; exact dvB_le (by omega)
      have bT : dvB k xs.length ≤ 300000 := by
        have z := Nat.mul_le_mul (show k + 1 ≤ 2001 by omega) l1
        unfold dvB
        omega
      have hat : cnt - 1 + (t : Int) * -1 = (n : Int) := by omega
      rw [hat]
      have rlt : n + ys.length - 1 < rs.length := by omega
      refine ⟨_, rfl, _, rfl, _, rfl, _, _, rfl, .inr (sm_tup sm hB), _, _, rfl, rfl, _, _, rfl, rfl, _, _, _, _, rfl, rfl, SqL.of hr, at_of (j := n + ys.length - 1) (by rw [len_map]; omega) (map_at (get_of_lt rlt)), _, rfl, fun tp etp => ?_⟩
      have tpb : tp.natAbs < 2 ^ (dvB k t) := by rw [etp]; exact br.getD _
      refine ⟨fun σ2 H2 => ∃ (pq pr : Addr) (qs rs : List Int) (f tp : Int) (y9 : Option V), σ2 = [some (.ref a), some (.ref b), some (.int cnt), some (.ref pq), some (.ref pr), some (.int f), some (.int ld), some (.int (n : Int)), some (.int tp), y9, y10, y11, y12, none] ∧
        Same H H2 ∧ H pq = none ∧ H pr = none ∧ pq ≠ pr ∧ H2 pq = some (.lst (qs.map V.int)) ∧ H2 pr = some (.lst (rs.map V.int)) ∧ qs.length = CN ∧ DivAt f xs qs rs ys (n + 1) ∧ FqH f qs tp ld ∧ Bits (dvB k t + k) qs ∧ Bits (dvB k t + k) rs ∧ f.natAbs < 2 ^ (dvB k t + k) ∧ ld ∣ tp ∧ tp = rs.getD (n + ys.length - 1) 0 ∧ tp.natAbs < 2 ^ (dvB k t) * ld.natAbs, ?_, ?_⟩
      · refine ⟨_, rfl, _, rfl, _, _, rfl, rfl, ld0, rfl, _, rfl, iteEqN (fun c0 => ?_) (fun c0 => ?_)⟩
        rotate_left
        · exact ⟨pq, pr, qs, rs, f, tp, _, rfl, sm, nq, nr, qr, hq, hr, ql, m, fc.weak, bq.mono (by omega), br.mono (by omega), abs_mono bf (by omega), dvd_of_fmod c0, etp, Nat.lt_of_lt_of_le tpb (Nat.le_mul_of_pos_right _ (by omega))⟩
        refine ⟨_, rfl, _, rfl, _, rfl, _, _, rfl, ?_⟩
        obtain ⟨g0, gl, s0, sl, dv⟩ := dvd_scale (t := tp) (l := ld) rfl ld0 rfl
        refine ⟨_, _, rfl, rfl, divZ g0 (Nat.lt_of_le_of_lt gl ldb) (by omega), _, rfl, fun sc esc => ?_⟩
        rw [← esc] at s0 sl dv
        have scb : sc.natAbs < 2 ^ k := Nat.lt_of_le_of_lt sl ldb
        refine ⟨_, rfl, _, rfl, ⟨_, SqL.of hq⟩, fun Dq nDq => lc_list (K := K) (a := pq) (xs := (qs).map V.int) (fun i HL => Same H' HL ∧ HL Dq = some (.lst ((((qs).map (fun x => x * sc)).take i).map V.int))) ⟨sm_new nDq, by rw [upd_same]; rfl⟩ (fun i HL hi hP => hP.1.seq (SqL.of hq)) (fun i y HL hi hP => ?_) (fun H3 hP => ?_)⟩
        · obtain ⟨sm, hD⟩ := hP
          obtain ⟨u, hu, rfl⟩ := get_map_int hi
          have hum := List.mem_of_getElem? hu
          have hll := (List.getElem?_eq_some_iff.mp hu).1
          refine ⟨rfl, ?_⟩
          unfold tYes
          refine iteK rfl ?_
          refine ⟨_, rfl, _, rfl, _, _, rfl, rfl, mulW (bq.all u hum) scb (by omega), _, hD, ?_, same_mut sm nDq, ?_⟩
          · rw [len_map, List.length_take, List.length_map]; exact small1000 (by omega)
          · rw [upd_same, List.take_succ, List.map_append, List.getElem?_map, hu]; rfl
        obtain ⟨sDq, hDq⟩ := hP
        rw [List.take_of_length_le (by rw [List.length_map, List.length_map]; exact Nat.le_refl _)] at hDq
        have hr3 := sDq _ _ hr
        refine ⟨_, rfl, _, rfl, ⟨_, SqL.of hr3⟩, fun Dr nDr => lc_list (K := K) (a := pr) (xs := (rs).map V.int) (fun i HL => Same H3 HL ∧ HL Dr = some (.lst ((((rs).map (fun x => x * sc)).take i).map V.int))) ⟨sm_new nDr, by rw [upd_same]; rfl⟩ (fun i HL hi hP => hP.1.seq (SqL.of hr3)) (fun i y HL hi hP => ?_) (fun H4 hP => ?_)⟩
        · obtain ⟨sm, hD⟩ := hP
          obtain ⟨u, hu, rfl⟩ := get_map_int hi
          have hum := List.mem_of_getElem? hu
          have hll := (List.getElem?_eq_some_iff.mp hu).1
          refine ⟨rfl, ?_⟩
          unfold tYes
          refine iteK rfl ?_
          refine ⟨_, rfl, _, rfl, _, _, rfl, rfl, mulW (br.all u hum) scb (by omega), _, hD, ?_, same_mut sm nDr, ?_⟩
          · rw [len_map, List.length_take, List.length_map]; exact small1000 (by omega)
          · rw [upd_same, List.take_succ, List.map_append, List.getElem?_map, hu]; rfl
        obtain ⟨sDr, hDr⟩ := hP
        rw [List.take_of_length_le (by rw [List.length_map, List.length_map]; exact Nat.le_refl _)] at hDr
        refine ⟨_, rfl, _, rfl, _, _, rfl, rfl, mulW bf scb (by omega), _, rfl, fun f2 ef2 => ?_⟩
        refine ⟨_, rfl, _, rfl, _, _, rfl, rfl, mulW tpb scb (by omega), _, rfl, fun t2 et2 => ?_⟩
        have Dqr : Dq ≠ Dr := ne_of_none hDq nDr
        refine ⟨Dq, Dr, _, _, f2, t2, _, rfl, (sm.trans sDq).trans sDr, sm.free nDq, sm.free (sDq.free nDr), Dqr, sDr _ _ hDq, hDr, by rw [List.length_map, ql], ?_, ?_, ?_, ?_, ?_, ?_, ?_, ?_⟩
        · rw [ef2]; exact m.scale s0
        · rw [ef2, et2]; exact fc.scale rfl ld0 esc
        · exact ⟨bits_mulE bq.all scb⟩
        · exact ⟨bits_mulE br.all scb⟩
        · rw [ef2]; exact abs_lt_mul bf scb
        · rw [et2]; exact dv
        · rw [et2, mul_at, etp]
        · rw [et2, Int.natAbs_mul]
          calc tp.natAbs * sc.natAbs ≤ tp.natAbs * ld.natAbs := Nat.mul_le_mul_left _ sl
            _ < 2 ^ (dvB k t) * ld.natAbs := Nat.mul_lt_mul_of_pos_right tpb (by omega)
      clear hr hq etp tpb bq br bf m rl ql rlt nq nr qr sm
      rintro _ H2 ⟨pq, pr, qs, rs, f, tp, y9, rfl, sm, nq, nr, qr, hq, hr, ql, m, fh, bq, br, bf, dv, etp, tpl⟩
      have rl := m.rl
      have rlt : n + ys.length - 1 < rs.length := by omega
      have tpb : tp.natAbs < 2 ^ (dvB k t + k) := by rw [etp]; exact br.getD _
      have shm := fdiv_dvd ld0 dv
      refine ⟨_, rfl, _, rfl, _, _, rfl, rfl, divZ ld0 ldb (by omega), _, rfl, fun sh esh => ?_⟩
      rw [← esh] at shm
      have shb : sh.natAbs < 2 ^ (dvB k t) := by
        rw [← shm, Int.natAbs_mul] at tpl
        exact Nat.lt_of_mul_lt_mul_right tpl
      refine ⟨_, rfl, _, rfl, _, rfl, pq, _, _, n, rfl, rfl, hq, ixN_at rfl (by rw [len_map]; omega), ?_⟩
      have sm2 : Same H (upd H2 pq (.lst ((qs.map V.int).set n (.int sh)))) := same_mut sm nq
      have hq2 : (upd H2 pq (.lst ((qs.map V.int).set n (.int sh)))) pq = some (.lst ((qs.set n sh).map V.int)) := by rw [upd_same, map_set_V]
      have hr2 : (upd H2 pq (.lst ((qs.map V.int).set n (.int sh)))) pr = some (.lst (rs.map V.int)) := by rw [upd_ne qr.symm]; exact hr
      generalize upd H2 pq (.lst ((qs.map V.int).set n (.int sh))) = H3 at sm2 hq2 hr2 ⊢
      have hv : sh * ys.getD (ys.length - 1) 0 = rs.getD (n + ys.length - 1) 0 := by rw [← eld, shm, etp]
      have e1 : CN - (t + 1) = n := by omega
      have fc2 : FqC f (qs.set n sh) := fh.put shm (m.lo n (by omega)) (by omega)
      have bq2 : Bits (dvB k (t + 1)) (qs.set n sh) := bits_put (bq.mono (by rw [dvB_more]; omega)) (abs_mono shb (by rw [dvB_more]; omega))
      have bf2 : f.natAbs < 2 ^ (dvB k (t + 1)) := abs_mono bf (by rw [dvB_more]; omega)
      refine ⟨_, rfl, rfl, _, rfl, iteEqN (fun c0 => ?_) (fun c0 => ?_)⟩
      rotate_left
      · refine ⟨pq, pr, _, rs, f, _, _, _, _, _, _, rfl, sm2, nq, nr, qr, hq2, hr2, by rw [List.length_set, ql], ?_, fc2, bq2, br.mono (by rw [dvB_more]; omega), bf2⟩
        rw [e1]
        exact m.step (by omega) y0 hv rfl fun k => by rw [c0]; simp
      refine ⟨_, rfl, b, _, rfl, sm_tup sm2 hB, for_enT (K := K) (a := b) (xs := ys.map V.int) (fun i σ' H' => ∃ (zs : List Int) (y11 y12 : Option V), σ' = [some (.ref a), some (.ref b), some (.int cnt), some (.ref pq), some (.ref pr), some (.int f), some (.int ld), some (.int (n : Int)), some (.int tp), y9, some (.int sh), y11, y12, none] ∧ Same H H' ∧ H' pq = some (.lst ((qs.set n sh).map V.int)) ∧ H' pr = some (.lst (zs.map V.int)) ∧ SubAt zs rs ys sh n i)
        ⟨rs, _, _, rfl, sm2, hq2, hr2, SubAt.start⟩ (fun i σ' H' hI => ?_) (fun i y T σ' H' hi hI nT => ?_) (fun σ' H' hI => ?_)⟩
      · obtain ⟨_, _, _, rfl, sm, _⟩ := hI
        exact sm_tup sm hB
      · obtain ⟨zs, y11, y12, rfl, sm, hq, hr, mz⟩ := hI
        obtain ⟨c, hc, rfl⟩ := get_map_int hi
        have il : i < ys.length := (List.getElem?_eq_some_iff.mp hc).1
        have ec2 := getD_of hc
        have Tq : pq ≠ T := ne_of_none hq nT
        have Tr : pr ≠ T := ne_of_none hr nT
        have sm3 := sm.trans (sm_new (o := .tup [.int (i : Nat), .int c]) nT)
        have hq3 : (upd H' T (.tup [.int (i : Nat), .int c])) pq = some (.lst ((qs.set n sh).map V.int)) := by rw [upd_ne Tq]; exact hq
        have hr3 : (upd H' T (.tup [.int (i : Nat), .int c])) pr = some (.lst (zs.map V.int)) := by rw [upd_ne Tr]; exact hr
        refine ⟨T, _, rfl, SqT.of upd_same, rfl, _, _, rfl, _, _, rfl, rfl, ?_⟩
        generalize upd H' T (.tup [.int (i : Nat), .int c]) = G at sm3 hq3 hr3 ⊢
        have zl := mz.len
        have fl : n + i < zs.length := by omega
        refine ⟨_, rfl, _, rfl, _, rfl, _, _, rfl, rfl, _, _, _, _, rfl, rfl, SqL.of hr3, at_of (j := n + i) (by omega) (map_at (get_of_lt fl)), _, rfl, _, rfl, _, _, rfl, rfl, mulW shb (b2.all c (List.mem_of_getElem? hc)) (by omega), _, _, rfl, rfl, _, rfl, _, rfl, _, rfl, _, _, rfl, rfl, pr, _, _, n + i, rfl, rfl, hr3, ixN_at (by omega) (by rw [len_map]; exact fl), ?_⟩
        exact ⟨_, _, _, rfl, same_mut sm3 nr, by rw [upd_ne qr]; exact hq3, by rw [upd_same, map_set_V], mz.step (by omega) (by rw [ec2])⟩
      · obtain ⟨zs, y11, y12, rfl, sm, hq, hr, mz⟩ := hI
        rw [len_map] at mz
        refine ⟨pq, pr, _, zs, f, _, _, _, _, _, _, rfl, sm, nq, nr, qr, hq, hr, by rw [List.length_set, ql], ?_, fc2, bq2, ?_, bf2⟩
        · rw [e1]
          exact m.step (by omega) y0 hv mz.len mz.fin
        · exact bits_of_at fun i => abs_mono (mz.bits (p := dvB k t) (q := k) (fun i => abs_mono (br.getD i) (by omega)) shb b2.getD i) (by rw [dvB_more]; omega)
    · obtain ⟨pq, pr, qs, rs, f, y7, y8, y9, y10, y11, y12, rfl, sm, nq, nr, qr, hq, hr, ql, m, fc, bq, br, bf⟩ := hI
      have le : dvB k (cnt - 1 - (-1)).toNat ≤ dvB k xs.length := dvB_le (by omega)
      rw [show CN - (cnt - 1 - (-1)).toNat = 0 by omega] at m
      refine ⟨_, rfl, _, rfl, _, rfl, by show 3 ≤ sizeLine; decide, fun T nT => ?_⟩
      have sT := sm_new (o := .tup [.ref pq, .ref pr, .int f]) nT
      exact q T _ pq pr qs rs f (sm.trans sT) upd_same (sT _ _ hq) (sT _ _ hr) ⟨m.f0, m.rl, by omega, m.eq, fun k hk => m.hi k (by omega)⟩ fc (bq.mono le) (br.mono le) (abs_mono bf le)

theorem ok_divide (T : Tx K mg) (O_Poly_is_zero : OkF P w K mg base 1 (gtAd K (He.ga K "Poly") "is_zero") ["self"] (spPZer K)) (O__divide_coefs : OkF P w K mg base 1 (He.fAd K ("_divide_coefs", none)) ["first", "second"] (spDivC K)) (O_Poly___init__ : OkD P w K mg base 2 (He.fAd K ("Poly", some "__init__")) ["self", "coefs", "den"] (He.Dv.v K (.int 1)) (spPInit K)) : OkF P w K mg base 4 (He.fAd K ("divide", none)) ["p", "q"] (spDivide K) := by
  obtain ⟨_, G_Poly_is_zero, b_Poly_is_zero, k_Poly_is_zero⟩ := O_Poly_is_zero
  obtain ⟨_, G__divide_coefs, b__divide_coefs, k__divide_coefs⟩ := O__divide_coefs
  obtain ⟨_, G_Poly___init__, b_Poly___init__, ⟨_, v_Poly___init__, bd_Poly___init__⟩, k_Poly___init__⟩ := O_Poly___init__
  refine okF_of (d := d_divide) T.d_divide rfl sc_divide (fun _ _ _ _ _ _ us hl => match us, hl with | [_, _], _ => rfl) (fun vs H Q E h => ?_) (fun cdv A outer s H vs Q E hr h => ?_)
  · first | (obtain ⟨_, rfl, _⟩ := h; rfl) | (obtain ⟨_, _, rfl, _⟩ := h; rfl) | (obtain ⟨_, _, _, rfl, _⟩ := h; rfl) | (obtain ⟨_, _, _, _, rfl, _⟩ := h; rfl) | (obtain ⟨_, _, _, _, _, rfl, _⟩ := h; rfl) | (obtain ⟨_, _, _, _, _, _, rfl, _⟩ := h; rfl) | (obtain ⟨_, _, _, _, _, _, _, rfl, _⟩ := h; rfl) | (obtain ⟨_, _, _, _, _, _, _, _, rfl, _⟩ := h; rfl) | (obtain ⟨_, _, _, _, _, _, _, _, _, rfl, _⟩ := h; rfl) | (obtain ⟨_, _, _, _, _, _, _, _, _, _, rfl, _⟩ := h; rfl)
  · obtain ⟨a, b, ks, js, e, f, k, rfl, hp, hq, hE, hN⟩ := h
    have hp0 := hp
    have hq0 := hq
    obtain ⟨da, ta, ha, hta⟩ := hp
    obtain ⟨db, tb, hb, htb⟩ := hq
    refine ⟨_, (pss_cons (ps_if (pt_val (pe_prop (pv 1) T.cls_Poly T.p_Poly_is_zero G_Poly_is_zero (hr.mono (by decide)) b_Poly_is_zero .nil passL rfl)) (pss_one (ps_raise rfl (takes_of rfl rfl rfl rfl) (pmk_own PySem.F.excBase_ValueError T.x_ZeroPolynomial T.g_ZeroPolynomial T.k_ZeroPolynomial (T.r_ZeroPolynomial rfl) rfl))) pss_nil)
      (pss_cons (ps_asg (pe_call G__divide_coefs (hr.mono (by decide)) (by rfl) T.g__divide_coefs k__divide_coefs b__divide_coefs .nil passL (pa_cons (pe_fld (pv 0) rfl) (pa_cons (pe_fld (pv 1) rfl) pa_nil))) (pg_tup rfl (pgs_cons (pg_name (i := 2) sc_divide.nd rfl (Or.inl rfl)) (pgs_cons (pg_name (i := 3) sc_divide.nd rfl (Or.inl rfl)) (pgs_cons (pg_name (i := 4) sc_divide.nd rfl (Or.inl rfl)) pgs_nil)))))
      (pss_cons (ps_setI (i := 5) sc_divide.nd rfl (Or.inl rfl) (pe_op op_mulW (pv 4) (pe_fld (pv 0) rfl)))
      (pss_one (ps_ret (pe_tup (pa_cons (pe_makeI T.mk_Poly G_Poly___init__ (hr.mono (by decide)) (by rfl) T.g_Poly b_Poly___init__ .nil passL (mkPoG_conv K []) (pa_cons (pe_lc (own := [("c", 6)]) (g := gName 6) rfl sc_divide.nd (pi_list (pv 2)) (blkOk_by (own := [("c", 6)]) (N := N_divide) (sc := defScope s_divide) (by decide +kernel)) (fun _ _ _ _ _ => (pg_name (i := 6) sc_divide.nd rfl (Or.inl rfl))) (fun _ _ _ _ _ => pts_nil) (fun _ _ _ _ _ => (pe_op op_mulW (pv 6) (pe_fldK (K := K) rfl (pe_fld (pv 1) rfl))))) (pa_cons (pv 5) pa_nil))) (pa_cons (pe_makeI T.mk_Poly G_Poly___init__ (hr.mono (by decide)) (by rfl) T.g_Poly b_Poly___init__ .nil passL (mkPoG_conv K []) (pa_cons (pv 3) (pa_cons (pv 5) pa_nil))) pa_nil)))))))), ?_⟩
    refine ⟨_, rfl, _, _, _, rfl, hb, _, _, _, rfl, hq0, _, rfl, iteEq (fun c => ?_) (fun c => ?_)⟩
    · exact hE (List.eq_nil_of_length_eq_zero (by omega))
    have c1 : js ≠ [] := fun z => c (by rw [z]; rfl)
    obtain ⟨e0, f0, lz, b1, b2, eb, fb, l1, l2, hk, hk2, q⟩ := hN c1
    have j0 : 0 < js.length := by omega
    refine ⟨_, rfl, _, _, _, _, _, rfl, ha, T.cls_Poly, T.n_Poly_coefs, rfl, _, rfl, _, _, _, _, _, rfl, hb, T.cls_Poly, T.n_Poly_coefs, rfl, _, _, ks, js, k, rfl, SqT.of hta, SqT.of htb, b1, b2, j0, lz, l1, l2, hk, fun t H1 pq pr qs rs F s1 ht hq1 hr1 dv fc bq br bf => ?_⟩
    refine ⟨t, _, rfl, SqT.of ht, rfl, _, _, rfl, _, _, rfl, _, _, rfl, rfl, ?_⟩
    have F0 := dv.f0
    have bT : dvB k ks.length ≤ 300000 := by
      have z := Nat.mul_le_mul (show k + 1 ≤ 2001 by omega) l1
      unfold dvB
      omega
    have d0 : F * e ≠ 0 := Int.mul_ne_zero F0 (by omega)
    have db1 : (F * e).natAbs < 2 ^ (dvB k ks.length + k) := abs_lt_mul bf eb
    refine ⟨_, rfl, _, rfl, _, _, _, _, _, rfl, s1 _ _ ha, T.cls_Poly, T.n_Poly_den, rfl, _, _, rfl, rfl, mulW bf eb (by omega), _, rfl, fun dn edn => ?_⟩
    have g1 := gq_small (rs := rs) hk2 d0 db1 fc
    have g2 := gr_small hk2 d0 db1 fc dv
    rw [← edn] at d0 db1 g1 g2
    have rl := dv.rl
    have ql := dv.ql
    refine ⟨_, rfl, _, rfl, ⟨_, SqL.of hq1⟩, fun D nD => lc_list (K := K) (a := pq) (xs := (qs).map V.int) (fun i HL => Same H1 HL ∧ HL D = some (.lst ((((qs).map (fun x => x * f)).take i).map V.int))) ⟨sm_new nD, by rw [upd_same]; rfl⟩ (fun i HL hi hP => hP.1.seq (SqL.of hq1)) (fun i y HL hi hP => ?_) (fun H2 hP => ?_)⟩
    · obtain ⟨sm, hD⟩ := hP
      obtain ⟨u, hu, rfl⟩ := get_map_int hi
      have hum := List.mem_of_getElem? hu
      have hll := (List.getElem?_eq_some_iff.mp hu).1
      refine ⟨rfl, ?_⟩
      unfold tYes
      refine iteK rfl ?_
      refine ⟨_, rfl, _, rfl, _, _, _, _, _, rfl, (s1.trans sm) _ _ hb, T.cls_Poly, T.n_Poly_den, rfl, _, _, rfl, rfl, mulW (bq.all u hum) fb (by omega), _, hD, ?_, same_mut sm nD, ?_⟩
      · rw [len_map, List.length_take, List.length_map]; exact small1000 (by omega)
      · rw [upd_same, List.take_succ, List.map_append, List.getElem?_map, hu]; rfl
    obtain ⟨sD, hD⟩ := hP
    rw [List.take_of_length_le (by rw [List.length_map, List.length_map]; exact Nat.le_refl _)] at hD
    have bq2 : Bits (dvB k ks.length + k) (qs.map fun x => x * f) := bq.mul fb
    refine ⟨_, rfl, D, _, dn, 8000, rfl, .inl (SqL.of hD), by rw [List.length_map]; omega, g1, by decide, d0, fun p1 H3 ms g s3 np1 hp1 pm => ?_⟩
    refine ⟨_, rfl, _, rfl, pr, rs, dn, 8000, rfl, .inl (SqL.of (s3 _ _ (sD _ _ hr1))), by omega, g2, by decide, d0, fun p2 H4 ns h s4 np2 hp2 pn => ?_⟩
    refine ⟨by show 2 ≤ sizeLine; decide, fun T nT => ?_⟩
    have sT := sm_new (o := .tup [.ref p1, .ref p2]) nT
    refine q T _ p1 p2 ms g ns h ((((s1.trans sD).trans s3).trans s4).trans sT) upd_same ((hp1.mono s4).mono sT) (hp2.mono sT) ⟨⟨qs, rs, F, dv, by rw [← edn]; exact pm, by rw [← edn]; exact pn, F0⟩, ?_, ?_⟩ ⟨pm.bits d0 bq2, Nat.lt_of_le_of_lt (pm.den_le d0) db1⟩
    · have z := pm.len d0
      rw [List.length_map] at z
      omega
    · -- the rest is shorter
      refine Decidable.byContradiction fun z => ?_
      rcases pn.last with w | w
      · exact z (by rw [w]; exact j0)
      · have y := pn.eq (ns.length - 1)
        rw [dv.hi _ (by omega), Int.zero_mul] at y
        rcases Int.mul_eq_zero.mp y with y | y
        · exact w y
        · exact d0 y

theorem ok__divides (T : Tx K mg) (O_Poly___init__ : OkD P w K mg base 2 (He.fAd K ("Poly", some "__init__")) ["self", "coefs", "den"] (He.Dv.v K (.int 1)) (spPInit K)) (O_divide : OkF P w K mg base 4 (He.fAd K ("divide", none)) ["p", "q"] (spDivide K)) (O_Poly_is_zero : OkF P w K mg base 1 (gtAd K (He.ga K "Poly") "is_zero") ["self"] (spPZer K)) : OkF P w K mg base 5 (He.fAd K ("_divides", none)) ["q", "coefs"] (spDvs K) := by
  obtain ⟨_, G_Poly___init__, b_Poly___init__, ⟨_, v_Poly___init__, bd_Poly___init__⟩, k_Poly___init__⟩ := O_Poly___init__
  obtain ⟨_, G_divide, b_divide, k_divide⟩ := O_divide
  obtain ⟨_, G_Poly_is_zero, b_Poly_is_zero, k_Poly_is_zero⟩ := O_Poly_is_zero
  refine okF_of (d := d__divides) T.d__divides rfl sc__divides (fun _ _ _ _ _ _ us hl => match us, hl with | [_, _], _ => rfl) (fun vs H Q E h => ?_) (fun cdv A outer s H vs Q E hr h => ?_)
  · (obtain ⟨_, _, _, _, _, rfl, _⟩ := h; rfl)
  · obtain ⟨a, b, js, xs, k, rfl, ha, hb, pj, lj, bj, bx, lx, ll, k1, k2, q⟩ := h
    refine ⟨_, (pss_cons (ps_asg (pe_call G_divide (hr.mono (by decide)) (by rfl) T.g_divide k_divide b_divide .nil passL (pa_cons (pe_makeI T.mk_Poly G_Poly___init__ (hr.mono (by decide)) (by rfl) T.g_Poly bd_Poly___init__ v_Poly___init__ passL (mkPo_conv K [_]) (pa_cons (pv 1) pa_nil)) (pa_cons (pv 0) pa_nil))) (pg_tup rfl (pgs_cons (pg_name (i := 2) sc__divides.nd rfl (Or.inl rfl)) (pgs_cons (pg_name (i := 3) sc__divides.nd rfl (Or.inl rfl)) pgs_nil))))
      (pss_one (ps_ret (pe_prop (pv 3) T.cls_Poly T.p_Poly_is_zero G_Poly_is_zero (hr.mono (by decide)) b_Poly_is_zero .nil passL rfl)))), ?_⟩
    have jne : js ≠ [] := fun z => lj (by rw [z]; rfl)
    refine ⟨_, rfl, b, xs, 1, 8, rfl, .inl hb, by omega, by decide, by decide, by decide, fun p1 H1 ks e s1 np1 hp1 pq => ?_⟩
    obtain ⟨rfl, ek⟩ := pq_one pq
    have kl := pq.len (by decide)
    have bk := pq.bits (by decide) bx
    have le : dvB k ks.length ≤ dvB k xs.length := dvB_le kl
    have one : (1 : Int).natAbs < 2 ^ k := Nat.lt_of_lt_of_le (show 1 < 2 ^ 1 by decide) (Nat.pow_le_pow_right (by decide) k1)
    refine ⟨_, rfl, p1, a, ks, js, 1, 1, k, rfl, hp1, ha.mono s1, fun z => absurd z jne, fun _ => ⟨by decide, by decide, lj, bk, bj, one, one, by omega, ll, k2, .inr ⟨rfl, rfl, pj⟩, fun t H2 pq_ pr ms g ns h s2 ht hpq hpr dp _ => ?_⟩⟩
    refine ⟨t, _, rfl, SqT.of ht, rfl, _, _, rfl, _, _, rfl, rfl, ?_⟩
    obtain ⟨dpr, tpr, hpr1, hpr2⟩ := id hpr
    refine ⟨_, rfl, _, _, _, rfl, hpr1, pr, ns, h, rfl, hpr, ?_⟩
    refine q _ H2 (s1.trans s2) ?_
    obtain ⟨qs, rs, F, dv, _, pn, F0⟩ := dp.ex
    have it := div_iff dv pn (by decide) lj
    rw [show ff ks = ff xs from funext ek] at it
    rw [← it]
    constructor
    · intro e
      have := V.int.inj (of_decide_eq_true e)
      exact List.eq_nil_of_length_eq_zero (by omega)
    · intro e
      rw [e]
      rfl

theorem ok__divisor_by_values (T : Tx K mg) (O_height : OkF P w K mg base 1 (He.fAd K ("height", none)) ["coefs"] (spHeiB K)) (O_evaluated : OkF P w K mg base 1 (He.fAd K ("evaluated", none)) ["coefs", "at"] (spEvaB K)) (O__digits : OkF P w K mg base 1 (He.fAd K ("_digits", none)) ["number", "base"] (spDig K)) (O_primitive : OkF P w K mg base 2 (He.fAd K ("primitive", none)) ["coefs"] (spPrm K)) (O_Poly___init__ : OkD P w K mg base 2 (He.fAd K ("Poly", some "__init__")) ["self", "coefs", "den"] (He.Dv.v K (.int 1)) (spPInit K)) (O__divides : OkF P w K mg base 5 (He.fAd K ("_divides", none)) ["q", "coefs"] (spDvs K)) : OkF P w K mg base 6 (He.fAd K ("_divisor_by_values", none)) ["first", "second"] (spDBV K) := by
  obtain ⟨_, G_height, b_height, k_height⟩ := O_height
  obtain ⟨_, G_evaluated, b_evaluated, k_evaluated⟩ := O_evaluated
  obtain ⟨_, G__digits, b__digits, k__digits⟩ := O__digits
  obtain ⟨_, G_primitive, b_primitive, k_primitive⟩ := O_primitive
  obtain ⟨_, G_Poly___init__, b_Poly___init__, ⟨_, v_Poly___init__, bd_Poly___init__⟩, k_Poly___init__⟩ := O_Poly___init__
  obtain ⟨_, G__divides, b__divides, k__divides⟩ := O__divides
  refine okF_of (d := d__divisor_by_values) T.d__divisor_by_values rfl sc__divisor_by_values (fun _ _ _ _ _ _ us hl => match us, hl with | [_, _], _ => rfl) (fun vs H Q E h => ?_) (fun cdv A outer s H vs Q E hr h => ?_)
  · (obtain ⟨_, _, _, _, _, _, rfl, _⟩ := h; rfl)
  · obtain ⟨a, b, xs, ys, k, KK, rfl, hA, hB, lxn, lyn, lx, ly, bx, by_, ⟨e0, ke, me, eu, de0, bke, hke⟩, kk, KK2, q⟩ := h
    refine ⟨_, (pss_cons (ps_setI (i := 2) sc__divisor_by_values.nd rfl (Or.inl rfl) (pe_op op_add (pe_op op_shlW (pe_callB (call_min2 rfl) (by rfl) T.z_min (by decide +kernel) (pa_cons (pe_call G_height (hr.mono (by decide)) (by rfl) T.g_height k_height b_height .nil passL (pa_cons (pv 0) pa_nil)) (pa_cons (pe_call G_height (hr.mono (by decide)) (by rfl) T.g_height k_height b_height .nil passL (pa_cons (pv 1) pa_nil)) pa_nil))) pe_int) pe_int))
      (pss_one (ps_while PassesOwn.leaving (pt_val pe_bl) (pss_cons (ps_setI (i := 3) sc__divisor_by_values.nd rfl (Or.inl rfl) (pe_callBfun cr_gcd rfl T.g_gcd (pa_cons (pe_call G_evaluated (hr.mono (by decide)) (by rfl) T.g_evaluated k_evaluated b_evaluated .nil passL (pa_cons (pv 0) (pa_cons (pv 2) pa_nil))) (pa_cons (pe_call G_evaluated (hr.mono (by decide)) (by rfl) T.g_evaluated k_evaluated b_evaluated .nil passL (pa_cons (pv 1) (pa_cons (pv 2) pa_nil))) pa_nil))))
      (pss_cons (ps_set (i := 4) sc__divisor_by_values.nd rfl (Or.inl rfl) (pe_makeI T.mk_Poly G_Poly___init__ (hr.mono (by decide)) (by rfl) T.g_Poly bd_Poly___init__ v_Poly___init__ passL (mkPo_conv K [_]) (pa_cons (pe_call G_primitive (hr.mono (by decide)) (by rfl) T.g_primitive k_primitive b_primitive .nil passL (pa_cons (pe_call G__digits (hr.mono (by decide)) (by rfl) T.g__digits k__digits b__digits .nil passL (pa_cons (pv 3) (pa_cons (pv 2) pa_nil))) pa_nil)) pa_nil)))
      (pss_cons (ps_if (PW.pt (pw_and (pt_val (pe_call G__divides (hr.mono (by decide)) (by rfl) T.g__divides k__divides b__divides .nil passL (pa_cons (pv 4) (pa_cons (pv 0) pa_nil)))) (pw_and1 (pt_val (pe_call G__divides (hr.mono (by decide)) (by rfl) T.g__divides k__divides b__divides .nil passL (pa_cons (pv 4) (pa_cons (pv 1) pa_nil))))))) (pss_one (ps_ret (pv 4))) pss_nil)
      (pss_one (ps_setI (i := 2) sc__divisor_by_values.nd rfl (Or.inl rfl) (pe_op op_add (pe_op op_shlW (pv 2) pe_int) pe_int))))))))), ?_⟩
    have xne : 0 < xs.length := lpos fun z => lxn (by rw [z]; rfl)
    have yne : 0 < ys.length := lpos fun z => lyn (by rw [z]; rfl)
    have dgx := dg_list lxn
    have dgy := dg_list lyn
    obtain ⟨T, hT⟩ : ∃ T, T = 2 ^ (ke + 2) := ⟨_, rfl⟩
    have TK : T * 2 ^ 25 ≤ 2 ^ KK := by
      rw [hT, ← Nat.pow_add]
      exact Nat.pow_le_pow_right (by decide) (by omega)
    have T4 : 4 ≤ T := by rw [hT, Nat.pow_add]; have := Nat.two_pow_pos ke; omega
    -- where it starts
    refine ⟨_, rfl, a, xs, rfl, .inl hA, by omega, fun h1 H1 s1 hh1 hb1 => ?_⟩
    refine ⟨_, rfl, b, ys, rfl, .inl (s1.seq hB), by omega, fun h2 H2 s2 hh2 hb2 => ?_⟩
    obtain ⟨hm, ehm⟩ : ∃ hm : Nat, (hm : Int) = (if (h2 : Int) < (h1 : Int) then (h2 : Int) else (h1 : Int)) := by
      split
      · exact ⟨h2, rfl⟩
      · exact ⟨h1, rfl⟩
    have smo : SmP (ff xs) (ff ys) (xs.length - 1) (ys.length - 1) hm := by
      by_cases c : (h2 : Int) < (h1 : Int)
      · rw [if_pos c] at ehm
        exact .inr ⟨by omega, fun i => by have := hh2 i; show (ys.getD i 0).natAbs ≤ hm; omega⟩
      · rw [if_neg c] at ehm
        exact .inl ⟨by omega, fun i => by have := hh1 i; show (xs.getD i 0).natAbs ≤ hm; omega⟩
    have hmk : hm < 2 ^ k := by
      have q1 := hb1 k bx.all
      have q2 := hb2 k by_.all
      split at ehm <;> omega
    have p24 : 2 ^ (k + 24) = 2 ^ k * 2 ^ 24 := Nat.pow_add ..
    refine ⟨_, _, rfl, _, _, rfl, rfl, ⟨by decide, ?_⟩, _, _, rfl, rfl, _, rfl, fun at0 eat0 => ?_⟩
    · rw [← ehm]
      have ib : Builtin.Int.intBits ((hm : Nat) : Int) ≤ k := PySem.intBits_le_iff.mpr (by rw [Int.natAbs_natCast]; exact hmk)
      omega
    rw [← ehm] at eat0
    obtain ⟨X0, hX0⟩ : ∃ X0 : Nat, at0 = (X0 : Int) ∧ X0 = hm * 2 ^ 24 + 29 := ⟨hm * 2 ^ 24 + 29, by rw [eat0]; rfl, rfl⟩
    obtain ⟨rfl, eX0⟩ := hX0
    have X0K : X0 < 2 ^ KK := by
      have : 2 ^ (k + 25) ≤ 2 ^ KK := Nat.pow_le_pow_right (by decide) (by omega)
      have p25 : 2 ^ (k + 25) = 2 ^ k * 2 ^ 25 := Nat.pow_add ..
      have := Nat.two_pow_pos k
      omega
    have s12 := s1.trans s2
    refine ⟨fun m σ' H' => ∃ (X : Nat) (y3 y4 : Option V), σ' = [some (.ref a), some (.ref b), some (.int (X : Int)), y3, y4] ∧ m = T - X ∧ Same H H' ∧ 2 ^ 24 * hm + 29 ≤ X ∧ X < 2 ^ KK, ⟨_, X0, none, none, rfl, rfl, s12, by omega, X0K⟩, ?_⟩
    rintro m _ H3 ⟨X, y3, y4, rfl, rfl, sm, hX, XK⟩
    refine ⟨_, rfl, iteK rfl ?_⟩
    refine ⟨fun σ2 H2 => ∃ m', m' < T - X ∧ ∃ (X : Nat) (y3 y4 : Option V), σ2 = [some (.ref a), some (.ref b), some (.int (X : Int)), y3, y4] ∧ m' = T - X ∧ Same H H2 ∧ 2 ^ 24 * hm + 29 ≤ X ∧ X < 2 ^ KK, fun _ _ h => h, ?_⟩
    have XbK : ((X : Nat) : Int).natAbs < 2 ^ KK := by rw [Int.natAbs_natCast]; exact XK
    have m8 : (KK + 1) * (xs.length + 1) ≤ 2001 * 14 := Nat.mul_le_mul (by omega) (by omega)
    have m9 : (KK + 1) * (ys.length + 1) ≤ 2001 * 14 := Nat.mul_le_mul (by omega) (by omega)
    refine ⟨_, rfl, _, rfl, a, xs, (X : Int), k, KK, rfl, .inl (sm.seq hA), bx.all, XbK, by omega, ?_⟩
    refine ⟨_, rfl, _, rfl, b, ys, (X : Int), k, KK, rfl, .inl (sm.seq hB), by_.all, XbK, by omega, ?_⟩
    refine ⟨_, _, rfl, _, rfl, fun v ev => ?_⟩
    have vx : evL (X : Int) xs = e1 (ff xs) (X : Int) (xs.length - 1 + 1) := evL_e1 _ _ _ (by omega)
    have vy : evL (X : Int) ys = e1 (ff ys) (X : Int) (ys.length - 1 + 1) := evL_e1 _ _ _ (by omega)
    rw [vx, vy] at ev
    -- the value is not zero, and not too great
    obtain ⟨g, eg⟩ : ∃ g : Nat, g = Nat.gcd (e1 (ff xs) (X : Int) (xs.length - 1 + 1)).natAbs (e1 (ff ys) (X : Int) (ys.length - 1 + 1)).natAbs := ⟨_, rfl⟩
    rw [← eg] at ev
    have X29 : 29 ≤ X := by omega
    have gok : 0 < g ∧ g ≤ X ^ 13 := by
      rcases smo with ⟨a7, hh⟩ | ⟨b7, hh⟩
      · have z := e1_big dgx hh hX
        have u := e1_up dgx hh hX
        have p : 0 < (e1 (ff xs) (X : Int) (xs.length - 1 + 1)).natAbs := by omega
        have le := Nat.le_of_dvd p (Nat.gcd_dvd_left _ (e1 (ff ys) (X : Int) (ys.length - 1 + 1)).natAbs)
        have pw : X ^ (xs.length - 1 + 1) ≤ X ^ 13 := Nat.pow_le_pow_right (by omega) (by omega)
        exact ⟨eg ▸ Nat.gcd_pos_of_pos_left _ p, by omega⟩
      · have z := e1_big dgy hh hX
        have u := e1_up dgy hh hX
        have p : 0 < (e1 (ff ys) (X : Int) (ys.length - 1 + 1)).natAbs := by omega
        have le := Nat.le_of_dvd p (Nat.gcd_dvd_right (e1 (ff xs) (X : Int) (xs.length - 1 + 1)).natAbs _)
        have pw : X ^ (ys.length - 1 + 1) ≤ X ^ 13 := Nat.pow_le_pow_right (by omega) (by omega)
        exact ⟨eg ▸ Nat.gcd_pos_of_pos_right _ p, by omega⟩
    -- the digits
    refine ⟨_, rfl, _, rfl, v, X, 13, rfl, by omega, Nat.lt_of_lt_of_le XK (Nat.pow_le_pow_right (by decide) (by omega)), by rw [ev, Int.natAbs_natCast]; exact gok.2, by decide, fun pd H4 ds s4 npd hpd dr dlen => ?_⟩
    have dne : ds ≠ [] := fun z => by
      have w := dr.val
      rw [z] at w
      have w0 : (0 : Int) = v := w
      omega
    have dl0 : ds.getD (ds.length - 1) 0 ≠ 0 := by
      rcases dr.last with z | z
      · exact absurd z dne
      · exact z
    have dsp : 0 < ds.length := lpos dne
    have bds : Bits KK ds := ⟨fun x hx => by have := dr.sm x hx; omega⟩
    refine ⟨pd, ds, KK, rfl, .inl (SqL.of hpd), bds, by omega, by omega, fun _ => ⟨_, getD_mem (by omega), dl0⟩, fun pp H5 zs s5 npp hpp pr => ?_⟩
    have zl := pr.len
    refine ⟨pp, zs, 1, 8, rfl, .inl (SqL.of hpp), by omega, by decide, by decide, by decide, fun pc H6 js e s6 npc hpc pq => ?_⟩
    obtain ⟨rfl, ej⟩ := pq_one pq
    obtain ⟨c, c0, hc⟩ := pr.mul
    have c1 := c0 dne
    have ejz : ff js = ff zs := funext ej
    have zlast : zs.getD (zs.length - 1) 0 ≠ 0 := fun z => dl0 (by rw [hc, ← zl, z, Int.mul_zero])
    have dgz := dg_list zlast
    have jlast : js.getD (js.length - 1) 0 ≠ 0 := by
      rcases pq.last with z | z
      · exfalso
        apply zlast
        have : ff js (zs.length - 1) = 0 := by rw [z]; rfl
        rw [ejz] at this
        exact this
      · exact z
    have jl := pq.len (by decide)
    have pj : Prim (ff js) := by rw [ejz]; exact pr.prim dne
    have bzs : Bits KK zs := bits_of_at fun i => by
      have w := bds.getD i
      rw [hc, Int.natAbs_mul, Int.natAbs_natCast] at w
      have : 1 * (zs.getD i 0).natAbs ≤ c * (zs.getD i 0).natAbs := Nat.mul_le_mul_right _ c1
      omega
    have bjs : Bits KK js := pq.bits (by decide) bzs
    have s46 := s4.trans (s5.trans s6)
    have eds : ∀ i, ff ds i = (c : Int) * ff zs i := hc
    have vds : e1 (ff ds) (X : Int) ds.length = (c : Int) * e1 (ff zs) (X : Int) (zs.length - 1 + 1) := by
      rw [show zs.length - 1 + 1 = ds.length by omega, ← e1_scale']
      exact e1_congr fun i _ => eds i
    have one1 : (1 : Int).natAbs < 2 ^ KK := Nat.lt_of_lt_of_le (show 1 < 2 ^ 1 by decide) (Nat.pow_le_pow_right (by decide) (by omega))
    have bxK : Bits KK xs := bx.mono (by omega)
    have byK : Bits KK ys := by_.mono (by omega)
    -- if one of the two isn't divided, the number is still small
    have more : ¬ (Dv (ff js) (ff xs) ∧ Dv (ff js) (ff ys)) → X < T := fun no => Nat.lt_of_not_le fun c' => no (by
      have ok := heu_ok (D := ff ds) (N := ds.length) dgx dgy eu de0 bke (hT ▸ c') (fun i hi => getD_end hi) (fun i => by
        by_cases w : i < ds.length
        · exact dr.sm _ (getD_mem w)
        · show 2 * (ds.getD i 0).natAbs ≤ X
          rw [getD_end (by omega)]
          exact Nat.zero_le _) (by rw [dr.val, ev, eg])
      have sc : ∀ {P : Nat → Int}, Dv (ff ds) P → Dv (ff js) P := fun {P} d => by
        obtain ⟨m', s, N, m0, hs, h⟩ := d
        rw [ejz]
        exact ⟨m', fun i => (c : Int) * s i, N, m0, hs.scale _, fun i => by rw [h i, cf_scale_l, ← cf_scale]; exact cf_congr (fun _ => rfl) eds i⟩
      exact ⟨sc ok.1, sc ok.2⟩)
    have next : X < T → ∀ (H' : Hp), Same H H' → ∃ m', m' < T - X ∧ ∃ (X' : Nat) (y3 y4 : Option V), [some (V.ref a), some (V.ref b), some (V.int ((X : Int) * 2 ^ (24 : Int).toNat + 29)), some (V.int v), some (V.ref pc)] = [some (V.ref a), some (V.ref b), some (V.int (X' : Int)), y3, y4] ∧ m' = T - X' ∧ Same H H' ∧ 2 ^ 24 * hm + 29 ≤ X' ∧ X' < 2 ^ KK := fun lt H' sm' =>
      ⟨T - (X * 2 ^ 24 + 29), by omega, X * 2 ^ 24 + 29, _, _, rfl, rfl, sm', by omega, by omega⟩
    have shl : (0 : Int) ≤ 24 ∧ (Builtin.Int.intBits ((X : Nat) : Int) : Int) + 24 ≤ 2 ^ 27 := ⟨by decide, by
      have ib : Builtin.Int.intBits ((X : Nat) : Int) ≤ KK := PySem.intBits_le_iff.mpr XbK
      omega⟩
    refine ⟨_, rfl, _, rfl, pc, a, js, xs, KK, rfl, hpc, (sm.trans s46).seq hA, pj, jlast, bjs, bxK, by omega, by omega, by omega, KK2, fun r1 H7 s7 hr1 => ?_⟩
    have sm7 := (sm.trans s46).trans s7
    refine ⟨_, rfl, iteB (fun z1 => ?_) (fun z1 => iteN rfl ?_)⟩
    · have d1 := hr1.mp z1
      refine ⟨_, rfl, _, rfl, pc, b, js, ys, KK, rfl, hpc.mono s7, sm7.seq hB, pj, jlast, bjs, byK, by omega, by omega, by omega, KK2, fun r2 H8 s8 hr2 => ?_⟩
      refine ⟨_, rfl, iteB (fun z2 => ?_) (fun z2 => ?_)⟩
      · have d2 := hr2.mp z2
        refine ⟨_, rfl, q pc H8 js (sm7.trans s8) ((hpc.mono s7).mono s8) jlast bjs ?_ d1 d2 ?_⟩
        · have := d1.deg (dg_list jlast) dgx
          omega
        · rw [ejz] at d1 d2 ⊢
          refine heu_maxP (c := (c : Int)) dgx dgy smo hX (pr.prim dne) dgz d1 d2 ?_ ?_
          · have w := dr.sm _ (getD_mem (show ds.length - 1 < ds.length by omega))
            rw [hc, Int.natAbs_mul, Int.natAbs_natCast, ← zl] at w
            have : c * 1 ≤ c * (zs.getD (zs.length - 1) 0).natAbs := Nat.mul_le_mul_left _ (by omega)
            rw [Int.natAbs_natCast]
            omega
          · rw [← vds, dr.val, ev, Int.natAbs_natCast, eg]
      · have nd : ¬ Dv (ff js) (ff ys) := fun d => by rw [hr2.mpr d] at z2; cases z2
        refine ⟨_, rfl, _, _, rfl, rfl, shl, _, _, rfl, rfl, _, rfl, fun at2 eat2 => ?_⟩
        rw [eat2]
        exact next (more fun w => nd w.2) _ (sm7.trans s8)
    · have nd : ¬ Dv (ff js) (ff xs) := fun d => by rw [hr1.mpr d] at z1; cases z1
      refine ⟨_, rfl, _, _, rfl, rfl, shl, _, _, rfl, rfl, _, rfl, fun at2 eat2 => ?_⟩
      rw [eat2]
      exact next (more fun w => nd w.1) _ sm7

theorem ok_common_divisor (T : Tx K mg) (O_Poly_is_zero : OkF P w K mg base 1 (gtAd K (He.ga K "Poly") "is_zero") ["self"] (spPZer K)) (O_monic : OkF P w K mg base 4 (He.fAd K ("monic", none)) ["p"] (spMon K)) (O_primitive : OkF P w K mg base 2 (He.fAd K ("primitive", none)) ["coefs"] (spPrm K)) (O_coprime_modulo : OkF P w K mg base 4 (He.fAd K ("coprime_modulo", none)) ["first", "second", "prime"] (spCpM K)) (O_Poly___init__ : OkD P w K mg base 2 (He.fAd K ("Poly", some "__init__")) ["self", "coefs", "den"] (He.Dv.v K (.int 1)) (spPInit K)) (O__divisor_by_values : OkF P w K mg base 6 (He.fAd K ("_divisor_by_values", none)) ["first", "second"] (spDBV K)) : OkF P w K mg base 7 (He.fAd K ("common_divisor", none)) ["p", "q"] (spCDv K) := by
  obtain ⟨_, G_Poly_is_zero, b_Poly_is_zero, k_Poly_is_zero⟩ := O_Poly_is_zero
  obtain ⟨_, G_monic, b_monic, k_monic⟩ := O_monic
  obtain ⟨_, G_primitive, b_primitive, k_primitive⟩ := O_primitive
  obtain ⟨_, G_coprime_modulo, b_coprime_modulo, k_coprime_modulo⟩ := O_coprime_modulo
  obtain ⟨_, G_Poly___init__, b_Poly___init__, ⟨_, v_Poly___init__, bd_Poly___init__⟩, k_Poly___init__⟩ := O_Poly___init__
  obtain ⟨_, G__divisor_by_values, b__divisor_by_values, k__divisor_by_values⟩ := O__divisor_by_values
  refine okF_of (d := d_common_divisor) T.d_common_divisor rfl sc_common_divisor (fun _ _ _ _ _ _ us hl => match us, hl with | [_, _], _ => rfl) (fun vs H Q E h => ?_) (fun cdv A outer s H vs Q E hr h => ?_)
  · (obtain ⟨_, _, _, _, _, _, _, _, rfl, _⟩ := h; rfl)
  · obtain ⟨a, b, ks, js, e, f, k, KK, rfl, ha, hb, sk, sj, ok, q⟩ := h
    refine ⟨_, (pss_cons (ps_if (pt_val (pe_prop (pv 0) T.cls_Poly T.p_Poly_is_zero G_Poly_is_zero (hr.mono (by decide)) b_Poly_is_zero .nil passL rfl)) (pss_one (ps_ret (pe_call G_monic (hr.mono (by decide)) (by rfl) T.g_monic k_monic b_monic .nil passL (pa_cons (pv 1) pa_nil)))) pss_nil)
      (pss_cons (ps_if (pt_val (pe_prop (pv 1) T.cls_Poly T.p_Poly_is_zero G_Poly_is_zero (hr.mono (by decide)) b_Poly_is_zero .nil passL rfl)) (pss_one (ps_ret (pe_call G_monic (hr.mono (by decide)) (by rfl) T.g_monic k_monic b_monic .nil passL (pa_cons (pv 0) pa_nil)))) pss_nil)
      (pss_cons (ps_set (i := 2) sc_common_divisor.nd rfl (Or.inl rfl) (pe_call G_primitive (hr.mono (by decide)) (by rfl) T.g_primitive k_primitive b_primitive .nil passL (pa_cons (pe_fld (pv 0) rfl) pa_nil)))
      (pss_cons (ps_set (i := 3) sc_common_divisor.nd rfl (Or.inl rfl) (pe_call G_primitive (hr.mono (by decide)) (by rfl) T.g_primitive k_primitive b_primitive .nil passL (pa_cons (pe_fld (pv 1) rfl) pa_nil)))
      (pss_cons (ps_if (pt_val (pe_call G_coprime_modulo (hr.mono (by decide)) (by rfl) T.g_coprime_modulo k_coprime_modulo b_coprime_modulo .nil passL (pa_cons (pv 2) (pa_cons (pv 3) (pa_cons (pe_globI rfl T.g_PRIME) pa_nil))))) (pss_one (ps_ret (pe_makeI T.mk_Poly G_Poly___init__ (hr.mono (by decide)) (by rfl) T.g_Poly bd_Poly___init__ v_Poly___init__ passL (mkPo_conv K [_]) (pa_cons (pe_lst (pa_cons pe_int pa_nil)) pa_nil)))) pss_nil)
      (pss_one (ps_ret (pe_call G_monic (hr.mono (by decide)) (by rfl) T.g_monic k_monic b_monic .nil passL (pa_cons (pe_call G__divisor_by_values (hr.mono (by decide)) (by rfl) T.g__divisor_by_values k__divisor_by_values b__divisor_by_values .nil passL (pa_cons (pv 2) (pa_cons (pv 3) pa_nil))) pa_nil))))))))), ?_⟩
    have bk := ok.bk
    have bj := ok.bj
    have lk := ok.lk
    have lj := ok.lj
    have kk := ok.kk
    have KK2 := ok.KK2
    obtain ⟨da, ta, haa, hta⟩ := id ha
    obtain ⟨db, tb, hbb, htb⟩ := id hb
    have leadOf : ∀ {zs : List Int} {h : Int}, Pq zs h zs h → zs ≠ [] → zs.getD (zs.length - 1) 0 ≠ 0 := fun p ne => by
      rcases p.last with w | w
      · exact absurd w ne
      · exact w
    refine ⟨_, rfl, _, _, _, rfl, haa, a, ks, e, rfl, ha, _, rfl, iteEq (fun z => ?_) (fun z => ?_)⟩
    · have k0 : ks = [] := List.eq_nil_of_length_eq_zero (by omega)
      refine ⟨_, rfl, b, js, f, k, rfl, hb, sj, bj, by omega, by omega, fun p H' ms g s hp sm mr => ?_⟩
      refine q p H' ms g s hp ?_
      rcases mr with ⟨j0, m0⟩ | ⟨jne, pq⟩
      · exact ⟨fun _ _ => m0, fun w => by rcases w with w | w; exact absurd k0 w; exact absurd j0 w, by rw [k0]; exact Dv.zero ff_nil, by rw [j0]; exact Dv.zero ff_nil, fun d _ _ => by rw [m0]; exact Dv.zero ff_nil, ⟨fun x hx => by rw [m0] at hx; cases hx⟩, by rw [m0]; exact Nat.zero_le _, sm⟩
      · obtain ⟨d1, d2, mne, top, ll⟩ := mon_dv jne (leadOf sj jne) pq
        exact ⟨fun _ w => absurd w jne, fun _ => ⟨mne, top⟩, by rw [k0]; exact Dv.zero ff_nil, d1, fun d _ h2 => h2.trans d2, (pq.bits (leadOf sj jne) bj).mono (by omega), by omega, sm⟩
    have kne : ks ≠ [] := fun w => z (by rw [w]; rfl)
    refine ⟨_, rfl, _, _, _, rfl, hbb, b, js, f, rfl, hb, _, rfl, iteEq (fun z2 => ?_) (fun z2 => ?_)⟩
    · have j0 : js = [] := List.eq_nil_of_length_eq_zero (by omega)
      refine ⟨_, rfl, a, ks, e, k, rfl, ha, sk, bk, by omega, by omega, fun p H' ms g s hp sm mr => ?_⟩
      refine q p H' ms g s hp ?_
      rcases mr with ⟨k0, m0⟩ | ⟨_, pq⟩
      · exact absurd k0 kne
      · obtain ⟨d1, d2, mne, top, ll⟩ := mon_dv kne (leadOf sk kne) pq
        exact ⟨fun w => absurd w kne, fun _ => ⟨mne, top⟩, d1, by rw [j0]; exact Dv.zero ff_nil, fun d h1 _ => h1.trans d2, (pq.bits (leadOf sk kne) bk).mono (by omega), by omega, sm⟩
    have jne : js ≠ [] := fun w => z2 (by rw [w]; rfl)
    have kl := leadOf sk kne
    have jl := leadOf sj jne
    have kp := lpos kne
    have jp := lpos jne
    refine ⟨_, rfl, _, _, _, _, _, rfl, haa, T.cls_Poly, T.n_Poly_coefs, rfl, ta, ks, k, rfl, .inr (SqT.of hta), bk, by omega, by omega, fun _ => ⟨_, getD_mem (by omega), kl⟩, fun p1 H1 xs s1 np1 hp1 px => ?_⟩
    have htb1 := s1 _ _ htb
    have hbb1 := s1 _ _ hbb
    refine ⟨_, rfl, _, _, _, _, _, rfl, hbb1, T.cls_Poly, T.n_Poly_coefs, rfl, tb, js, k, rfl, .inr (SqT.of htb1), bj, by omega, by omega, fun _ => ⟨_, getD_mem (by omega), jl⟩, fun p2 H2 ys s2 np2 hp2 py => ?_⟩
    obtain ⟨cx, cx0, hx⟩ := px.mul
    obtain ⟨cy, cy0, hy⟩ := py.mul
    have cx1 := cx0 kne
    have cy1 := cy0 jne
    have lx := px.len
    have ly := py.len
    have xl : xs.getD (xs.length - 1) 0 ≠ 0 := fun w => kl (by rw [hx, ← lx, w, Int.mul_zero])
    have yl : ys.getD (ys.length - 1) 0 ≠ 0 := fun w => jl (by rw [hy, ← ly, w, Int.mul_zero])
    have bxs : Bits k xs := bits_of_at fun i => by
      have w := bk.getD i
      rw [hx, Int.natAbs_mul, Int.natAbs_natCast] at w
      have : 1 * (xs.getD i 0).natAbs ≤ cx * (xs.getD i 0).natAbs := Nat.mul_le_mul_right _ cx1
      omega
    have bys : Bits k ys := bits_of_at fun i => by
      have w := bj.getD i
      rw [hy, Int.natAbs_mul, Int.natAbs_natCast] at w
      have : 1 * (ys.getD i 0).natAbs ≤ cy * (ys.getD i 0).natAbs := Nat.mul_le_mul_right _ cy1
      omega
    have toK : ∀ {d : Nat → Int}, Dv d (ff xs) ↔ Dv d (ff ks) := fun {d} => ⟨fun h => (h.scale' cx).congr (fun _ => rfl) hx, fun h => (h.congr (fun _ => rfl) (fun i => (hx i).symm)).scale (by omega)⟩
    have toJ : ∀ {d : Nat → Int}, Dv d (ff ys) ↔ Dv d (ff js) := fun {d} => ⟨fun h => (h.scale' cy).congr (fun _ => rfl) hy, fun h => (h.congr (fun _ => rfl) (fun i => (hy i).symm)).scale (by omega)⟩
    have s12 := s1.trans s2
    have hp12 := s2 _ _ hp1
    refine ⟨_, rfl, _, rfl, p1, p2, xs, ys, M61, 0, rfl, SqL.of hp12, SqL.of hp2, m61_prime, by decide, by omega, by omega, by omega, by omega, fun r H3 s3 hr => ?_⟩
    have s13 := s12.trans s3
    refine ⟨_, rfl, iteB (fun w => ?_) (fun w => ?_)⟩
    · obtain ⟨hl, c, hc, hG⟩ := hr w
      refine ⟨by show 1 ≤ sizeLine; decide, fun p3 np3 => ?_⟩
      have s4 := sm_new (o := .lst [V.int 1]) np3
      refine ⟨p3, [1], 1, 8, rfl, .inl (SqL.of upd_same), by decide, by decide, by decide, by decide, fun p5 H5 ms g s5 np5 hp5 pq => ?_⟩
      obtain ⟨rfl, em⟩ := pq_one pq
      have e1_ : ff ms = xp 0 := funext fun i => by
        rw [em]
        match i with
        | 0 => rfl
        | i + 1 => show ([1] : List Int).getD (i + 1) 0 = if i + 1 = 0 then 1 else 0; rw [if_neg (by omega)]; exact getD_end (by show 1 ≤ _; omega)
      have ml := pq.len (by decide)
      have mne : ms ≠ [] := fun w => by
        have : ff ms 0 = 0 := by rw [w]; rfl
        rw [e1_] at this
        exact absurd this (by decide)
      have m1 : ms.length = 1 := by
        have := lpos mne
        have : ms.length ≤ 1 := ml
        omega
      refine q p5 H5 ms 1 ((s13.trans s4).trans s5) hp5 ⟨fun w => absurd w kne, fun _ => ⟨mne, ?_⟩, ?_, ?_, fun d h1 h2 => ?_, ?_, by omega, pq.self⟩
      · rw [m1]
        show ff ms 0 = 1
        rw [e1_]
        rfl
      · rw [e1_]; exact Dv.one _ (N := ks.length) (fun i hi => getD_end hi)
      · rw [e1_]; exact Dv.one _ (N := js.length) (fun i hi => getD_end hi)
      · rw [e1_]
        have dA := dg_list xl
        have dB := dg_list yl
        obtain ⟨e', ke, me, eu, de0, _, _⟩ := ok.ex kne jne
        have eu' := Euc.prims (c := (cx : Int)) (d := (cy : Int)) (by omega) (by omega) hx hy eu
        have n0 := mod_coprime m61_prime dA dB hl hc hG de0 eu'.da eu'.db
        subst n0
        exact (eu.max h1 h2).trans (Dv.const de0)
      · exact (pq.bits (by decide) (k := 1) ⟨fun x hx => by rw [List.mem_singleton.mp hx]; decide⟩).mono (by omega)
    · obtain ⟨e0, ke, me, eu, de0, bke, hke⟩ := ok.ex kne jne
      have eu' := Euc.prims (c := (cx : Int)) (d := (cy : Int)) (by omega) (by omega) hx hy eu
      refine ⟨_, rfl, _, rfl, p1, p2, xs, ys, k, KK, rfl, SqL.of (s3 _ _ hp12), SqL.of (s3 _ _ hp2), xl, yl, by omega, by omega, bxs, bys, ⟨e0, ke, me, eu', de0, bke, hke⟩, kk, KK2, fun p4 H4 zs s4 hp4 zl bz lz d1 d2 mx => ?_⟩
      have zne : zs ≠ [] := fun y => zl (by rw [y]; rfl)
      have selfz : Pq zs 1 zs 1 := ⟨fun i => rfl, by decide, .inr zl, fun g hg _ => hg⟩
      refine ⟨p4, zs, 1, KK, rfl, hp4, selfz, bz, by omega, by omega, fun p5 H5 ms g s5 hp5 sm mr => ?_⟩
      rcases mr with ⟨z0, _⟩ | ⟨_, pq⟩
      · exact absurd z0 zne
      · obtain ⟨m1, m2, mne, top, ll⟩ := mon_dv zne zl pq
        exact q p5 H5 ms g ((s13.trans s4).trans s5) hp5 ⟨fun y => absurd y kne, fun _ => ⟨mne, top⟩, m1.trans (toK.mp d1), m1.trans (toJ.mp d2), fun d h1 h2 => (mx d (toK.mpr h1) (toJ.mpr h2)).trans m2, pq.bits zl bz, by omega, sm⟩

theorem ok_exact (T : Tx K mg) (O_divide : OkF P w K mg base 4 (He.fAd K ("divide", none)) ["p", "q"] (spDivide K)) : OkF P w K mg base 5 (He.fAd K ("exact", none)) ["p", "q"] (spExact K) := by
  obtain ⟨_, G_divide, b_divide, k_divide⟩ := O_divide
  refine okF_of (d := d_exact) T.d_exact rfl sc_exact (fun _ _ _ _ _ _ us hl => match us, hl with | [_, _], _ => rfl) (fun vs H Q E h => ?_) (fun cdv A outer s H vs Q E hr h => ?_)
  · first | (obtain ⟨_, rfl, _⟩ := h; rfl) | (obtain ⟨_, _, rfl, _⟩ := h; rfl) | (obtain ⟨_, _, _, rfl, _⟩ := h; rfl) | (obtain ⟨_, _, _, _, rfl, _⟩ := h; rfl) | (obtain ⟨_, _, _, _, _, rfl, _⟩ := h; rfl) | (obtain ⟨_, _, _, _, _, _, rfl, _⟩ := h; rfl) | (obtain ⟨_, _, _, _, _, _, _, rfl, _⟩ := h; rfl) | (obtain ⟨_, _, _, _, _, _, _, _, rfl, _⟩ := h; rfl) | (obtain ⟨_, _, _, _, _, _, _, _, _, rfl, _⟩ := h; rfl) | (obtain ⟨_, _, _, _, _, _, _, _, _, _, rfl, _⟩ := h; rfl)
  · obtain ⟨a, b, ks, js, e, f, k, rfl, hp, hq, c, e0, f0, lz, b1, b2, eb, fb, l1, l2, hk, hk2, q⟩ := h
    refine ⟨_, (pss_cons (ps_asg (pe_call G_divide (hr.mono (by decide)) (by rfl) T.g_divide k_divide b_divide .nil passL (pa_cons (pv 0) (pa_cons (pv 1) pa_nil))) (pg_tup rfl (pgs_cons (pg_name (i := 2) sc_exact.nd rfl (Or.inl rfl)) (pgs_cons (pg_name (i := 3) sc_exact.nd rfl (Or.inl rfl)) pgs_nil))))
      (pss_one (ps_ret (pv 2)))), ?_⟩
    refine ⟨_, rfl, _, rfl, _, _, ks, js, e, f, k, rfl, hp, hq, fun z => absurd z c, fun _ => ⟨e0, f0, lz, b1, b2, eb, fb, l1, l2, hk, .inl hk2, fun t H' pq pr ms g ns h sm ht hm hn dv nr => ?_⟩⟩
    refine ⟨t, _, rfl, SqT.of ht, rfl, _, _, rfl, _, _, rfl, rfl, ?_⟩
    exact ⟨_, rfl, q pq H' ms g sm hm ⟨ns, h, dv⟩ nr⟩

theorem ok_Fraction___init__ (T : Tx K mg) : OkD P w K mg base 1 (He.fAd K ("Fraction", some "__init__")) ["self", "num", "den"] (He.Dv.v K (.int 1)) (spInit K) := by
  refine okD_of (d := d_Fraction___init__) (dv := .int 1) T.d_Fraction___init__ rfl sc_Fraction___init__ (fun _ _ _ _ _ _ _ us its h1 h2 => match us, its, h1, h2 with | [_, _, _], [_], _, _ => ⟨_, rfl, rfl⟩) (fun _ _ _ _ _ _ _ us its h1 h2 => match us, its, h1, h2 with | [_, _], [_], _, _ => ⟨_, rfl, rfl⟩) (by decide) (fun vs H Q E h => ?_) (fun cdv A outer s H vs Q E hr h => ?_)
  · first | (obtain ⟨_, rfl, _⟩ := h; rfl) | (obtain ⟨_, _, rfl, _⟩ := h; rfl) | (obtain ⟨_, _, _, rfl, _⟩ := h; rfl) | (obtain ⟨_, _, _, _, rfl, _⟩ := h; rfl) | (obtain ⟨_, _, _, _, _, rfl, _⟩ := h; rfl) | (obtain ⟨_, _, _, _, _, _, rfl, _⟩ := h; rfl) | (obtain ⟨_, _, _, _, _, _, _, rfl, _⟩ := h; rfl) | (obtain ⟨_, _, _, _, _, _, _, _, rfl, _⟩ := h; rfl) | (obtain ⟨_, _, _, _, _, _, _, _, _, rfl, _⟩ := h; rfl) | (obtain ⟨_, _, _, _, _, _, _, _, _, _, rfl, _⟩ := h; rfl)
  · obtain ⟨x, dx, n, d, k, rfl, hx, hb, hk, hE, q⟩ := h
    refine ⟨_, (pss_cons (ps_if (pt_cmpR op_eq (pv 2) pe_int (nomark _)) (pss_one (ps_raise rfl (takes_of rfl rfl rfl rfl) (pmk_own PySem.F.excBase_ValueError T.x_DivisionByZero T.g_DivisionByZero T.k_DivisionByZero (T.r_DivisionByZero rfl) rfl))) pss_nil)
      (pss_cons (ps_setI (i := 3) sc_Fraction___init__.nd rfl (Or.inl rfl) (pe_callBfun cr_gcd rfl T.g_gcd (pa_cons (pv 1) (pa_cons (pv 2) pa_nil))))
      (Evl.pss_cut (ps_if (pt_cmpR op_lt (pv 2) pe_int (nomark _)) (pss_one (ps_setI (i := 3) sc_Fraction___init__.nd rfl (Or.inl rfl) (pe_un un_neg (pv 3)))) pss_nil)
      (pss_cons (ps_fld (pv 0) (pe_op op_fdivZ (pv 1) (pv 3)) rfl)
      (pss_one (ps_fld (pv 0) (pe_op op_fdivZ (pv 2) (pv 3)) rfl)))))), ?_⟩
    refine ⟨_, rfl, rfl, _, rfl, iteEq (fun c => ?_) (fun c => ?_)⟩
    · exact hE c
    refine ⟨_, rfl, _, rfl, _, _, rfl, _, rfl, fun common e_common => ?_⟩
    refine ⟨fun σ' H' => H = H' ∧ ∃ c : Int, σ' = [some (.ref x), some (.int n), some (.int d), some (.int c)] ∧ c = if d < 0 then -common else common, ?_, ?_⟩
    · refine ⟨_, rfl, _, _, rfl, rfl, _, rfl, iteD (fun h1 => ?_) (fun h1 => ?_)⟩
      · exact ⟨_, rfl, _, rfl, _, rfl, fun c e => ⟨rfl, c, rfl, by rw [if_pos h1, e]⟩⟩
      · exact ⟨rfl, common, rfl, by rw [if_neg h1]⟩
    rintro _ _ ⟨rfl, cc, rfl, hc⟩
    rw [e_common] at hc
    obtain ⟨c0, cl, f⟩ := fq_init c hc
    have dz : CDivZ n cc := divZ c0 (Nat.lt_of_le_of_lt cl hb) hk
    have dz2 : CDivZ d cc := divZ c0 (Nat.lt_of_le_of_lt cl hb) hk
    refine ⟨_, rfl, _, rfl, _, _, rfl, rfl, dz, _, rfl, x, _, dx, [], rfl, hx, T.cls_Fraction, T.n_Fraction_num, by decide, ?_⟩
    refine ⟨_, rfl, _, rfl, _, _, rfl, rfl, dz2, _, rfl, x, _, dx, _, rfl, upd_same, T.cls_Fraction, T.n_Fraction_den, (show (1 : Nat) < 1000 by decide), ?_⟩
    have z := q c _ _ f
    rw [← upd_upd (H := H) (a := x) (o := .ins (CF K) dx (putF "num" (.int (n.fdiv cc)) []))] at z
    exact z

theorem ok_Poly_degree (T : Tx K mg) : OkF P w K mg base 1 (gtAd K (He.ga K "Poly") "degree") ["self"] (spPDeg K) := by
  refine okF_of (d := d_Poly_degree) T.d_Poly_degree rfl sc_Poly_degree (fun _ _ _ _ _ _ us hl => match us, hl with | [_], _ => rfl) (fun vs H Q E h => ?_) (fun cdv A outer s H vs Q E hr h => ?_)
  · first | (obtain ⟨_, rfl, _⟩ := h; rfl) | (obtain ⟨_, _, rfl, _⟩ := h; rfl) | (obtain ⟨_, _, _, rfl, _⟩ := h; rfl) | (obtain ⟨_, _, _, _, rfl, _⟩ := h; rfl) | (obtain ⟨_, _, _, _, _, rfl, _⟩ := h; rfl) | (obtain ⟨_, _, _, _, _, _, rfl, _⟩ := h; rfl) | (obtain ⟨_, _, _, _, _, _, _, rfl, _⟩ := h; rfl) | (obtain ⟨_, _, _, _, _, _, _, _, rfl, _⟩ := h; rfl) | (obtain ⟨_, _, _, _, _, _, _, _, _, rfl, _⟩ := h; rfl) | (obtain ⟨_, _, _, _, _, _, _, _, _, _, rfl, _⟩ := h; rfl)
  · obtain ⟨a, ks, e, rfl, ⟨da, t, ha, ht⟩, q⟩ := h
    refine ⟨_, (pss_one (ps_ret (pe_op op_sub (pe_callB call_len_seq (by rfl) T.z_len PySem.boot_len (pa_cons (pe_fld (pv 0) rfl) pa_nil)) pe_int))), ?_⟩
    rw [← len_map] at q
    exact ⟨_, rfl, _, _, _, _, _, rfl, ha, T.cls_Poly, T.n_Poly_coefs, rfl, _, _, rfl, .inr (SqT.of ht), _, _, rfl, rfl, q⟩

theorem ok_Poly_coefficient (T : Tx K mg) (O_Poly_degree : OkF P w K mg base 1 (gtAd K (He.ga K "Poly") "degree") ["self"] (spPDeg K)) (O_Fraction___init__ : OkD P w K mg base 1 (He.fAd K ("Fraction", some "__init__")) ["self", "num", "den"] (He.Dv.v K (.int 1)) (spInit K)) : OkF P w K mg base 3 (He.fAd K ("Poly", some "coefficient")) ["self", "index"] (spPCo K) := by
  obtain ⟨_, G_Poly_degree, b_Poly_degree, k_Poly_degree⟩ := O_Poly_degree
  obtain ⟨_, G_Fraction___init__, b_Fraction___init__, ⟨_, v_Fraction___init__, bd_Fraction___init__⟩, k_Fraction___init__⟩ := O_Fraction___init__
  refine okF_of (d := d_Poly_coefficient) T.d_Poly_coefficient rfl sc_Poly_coefficient (fun _ _ _ _ _ _ us hl => match us, hl with | [_, _], _ => rfl) (fun vs H Q E h => ?_) (fun cdv A outer s H vs Q E hr h => ?_)
  · first | (obtain ⟨_, rfl, _⟩ := h; rfl) | (obtain ⟨_, _, rfl, _⟩ := h; rfl) | (obtain ⟨_, _, _, rfl, _⟩ := h; rfl) | (obtain ⟨_, _, _, _, rfl, _⟩ := h; rfl) | (obtain ⟨_, _, _, _, _, rfl, _⟩ := h; rfl) | (obtain ⟨_, _, _, _, _, _, rfl, _⟩ := h; rfl) | (obtain ⟨_, _, _, _, _, _, _, rfl, _⟩ := h; rfl) | (obtain ⟨_, _, _, _, _, _, _, _, rfl, _⟩ := h; rfl) | (obtain ⟨_, _, _, _, _, _, _, _, _, rfl, _⟩ := h; rfl) | (obtain ⟨_, _, _, _, _, _, _, _, _, _, rfl, _⟩ := h; rfl)
  · obtain ⟨a, ks, e, i, k, rfl, hp, e0, eb, hk, q⟩ := h
    have hp2 := hp
    obtain ⟨da, t, ha, ht⟩ := hp
    refine ⟨_, (pss_cons (ps_if (PW.pt (pw_or (pt_cmpR op_lt (pv 1) pe_int (nomark _)) (pw_or1 (pt_cmpR op_gt (pv 1) (pe_prop (pv 0) T.cls_Poly T.p_Poly_degree G_Poly_degree (hr.mono (by decide)) b_Poly_degree .nil passL rfl) (nomark _))))) (pss_one (ps_ret (pe_makeI T.mk_Fraction G_Fraction___init__ (hr.mono (by decide)) (by rfl) T.g_Fraction bd_Fraction___init__ v_Fraction___init__ passL (mkFr_conv K [_]) (pa_cons pe_int pa_nil)))) pss_nil)
      (pss_one (ps_ret (pe_makeI T.mk_Fraction G_Fraction___init__ (hr.mono (by decide)) (by rfl) T.g_Fraction b_Fraction___init__ .nil passL (mkFr_conv K []) (pa_cons (pe_ix ix_tup (pe_fld (pv 0) rfl) (pv 1) (fun _ _ => rfl)) (pa_cons (pe_fld (pv 0) rfl) pa_nil)))))), ?_⟩
    have zero : (i < 0 ∨ (ks.length : Int) - 1 < i) → ∀ p dp H2 n d, Same H H2 → H p = none → H2 p = some (.ins (CF K) dp (fsF n d)) → Fq 0 1 n d → Q (.ref p) H2 := fun h p dp H2 n d sm np hp f => by
      refine q p dp H2 n d sm np hp ?_
      have z : coI ks i = 0 := by
        unfold coI
        split
        · rfl
        · exact getD_end (by omega)
      rw [z]
      exact f.conv (by decide) (by grind)
    refine ⟨_, rfl, _, _, rfl, rfl, _, rfl, iteD (fun c => ?_) (fun c => ?_)⟩
    · refine iteK rfl ?_
      exact ⟨_, _, 8, rfl, by decide, by decide, by decide, zero (.inl c)⟩
    · refine ⟨_, rfl, _, rfl, _, _, _, rfl, ha, _, _, _, rfl, hp2, _, _, rfl, rfl, _, rfl, iteD (fun c2 => ?_) (fun c2 => ?_)⟩
      · exact ⟨_, _, 8, rfl, by decide, by decide, by decide, zero (.inr c2)⟩
      · have lt : i.toNat < ks.length := by omega
        refine ⟨_, rfl, _, _, _, _, _, rfl, ha, T.cls_Poly, T.n_Poly_coefs, rfl, _, rfl, _, _, _, _, rfl, rfl, SqT.of ht, at_of (j := i.toNat) (by omega) (map_at (get_of_lt lt)), _, rfl, _, _, _, _, _, rfl, ha, T.cls_Poly, T.n_Poly_den, rfl, _, _, k, rfl, eb, hk, by omega, fun p dp H2 n d sm np hp f => ?_⟩
        refine q p dp H2 n d sm np hp ?_
        unfold coI
        rw [if_neg c]
        exact f

theorem ok_Poly_lead (T : Tx K mg) (O_Poly_degree : OkF P w K mg base 1 (gtAd K (He.ga K "Poly") "degree") ["self"] (spPDeg K)) (O_Poly_coefficient : OkF P w K mg base 3 (He.fAd K ("Poly", some "coefficient")) ["self", "index"] (spPCo K)) : OkF P w K mg base 4 (gtAd K (He.ga K "Poly") "lead") ["self"] (spPLe K) := by
  obtain ⟨_, G_Poly_degree, b_Poly_degree, k_Poly_degree⟩ := O_Poly_degree
  obtain ⟨_, G_Poly_coefficient, b_Poly_coefficient, k_Poly_coefficient⟩ := O_Poly_coefficient
  refine okF_of (d := d_Poly_lead) T.d_Poly_lead rfl sc_Poly_lead (fun _ _ _ _ _ _ us hl => match us, hl with | [_], _ => rfl) (fun vs H Q E h => ?_) (fun cdv A outer s H vs Q E hr h => ?_)
  · first | (obtain ⟨_, rfl, _⟩ := h; rfl) | (obtain ⟨_, _, rfl, _⟩ := h; rfl) | (obtain ⟨_, _, _, rfl, _⟩ := h; rfl) | (obtain ⟨_, _, _, _, rfl, _⟩ := h; rfl) | (obtain ⟨_, _, _, _, _, rfl, _⟩ := h; rfl) | (obtain ⟨_, _, _, _, _, _, rfl, _⟩ := h; rfl) | (obtain ⟨_, _, _, _, _, _, _, rfl, _⟩ := h; rfl) | (obtain ⟨_, _, _, _, _, _, _, _, rfl, _⟩ := h; rfl) | (obtain ⟨_, _, _, _, _, _, _, _, _, rfl, _⟩ := h; rfl) | (obtain ⟨_, _, _, _, _, _, _, _, _, _, rfl, _⟩ := h; rfl)
  · obtain ⟨a, ks, e, k, rfl, hp, e0, eb, hk, q⟩ := h
    have hp2 := hp
    obtain ⟨da, t, ha, ht⟩ := hp
    refine ⟨_, (pss_one (ps_ret (pe_meth (pv 0) T.cls_Poly T.m_Poly_coefficient G_Poly_coefficient (hr.mono (by decide)) b_Poly_coefficient .nil passL (pa_cons (pe_prop (pv 0) T.cls_Poly T.p_Poly_degree G_Poly_degree (hr.mono (by decide)) b_Poly_degree .nil passL rfl) pa_nil)))), ?_⟩
    exact ⟨_, rfl, _, _, _, rfl, ha, rfl, _, rfl, _, _, _, rfl, ha, _, _, _, rfl, hp2, _, _, _, _, k, rfl, hp2, e0, eb, hk, q⟩

theorem ok_Fraction_is_zero (T : Tx K mg) : OkF P w K mg base 1 (gtAd K (He.ga K "Fraction") "is_zero") ["self"] (spZero K) := by
  refine okF_of (d := d_Fraction_is_zero) T.d_Fraction_is_zero rfl sc_Fraction_is_zero (fun _ _ _ _ _ _ us hl => match us, hl with | [_], _ => rfl) (fun vs H Q E h => ?_) (fun cdv A outer s H vs Q E hr h => ?_)
  · first | (obtain ⟨_, rfl, _⟩ := h; rfl) | (obtain ⟨_, _, rfl, _⟩ := h; rfl) | (obtain ⟨_, _, _, rfl, _⟩ := h; rfl) | (obtain ⟨_, _, _, _, rfl, _⟩ := h; rfl) | (obtain ⟨_, _, _, _, _, rfl, _⟩ := h; rfl) | (obtain ⟨_, _, _, _, _, _, rfl, _⟩ := h; rfl) | (obtain ⟨_, _, _, _, _, _, _, rfl, _⟩ := h; rfl) | (obtain ⟨_, _, _, _, _, _, _, _, rfl, _⟩ := h; rfl) | (obtain ⟨_, _, _, _, _, _, _, _, _, rfl, _⟩ := h; rfl) | (obtain ⟨_, _, _, _, _, _, _, _, _, _, rfl, _⟩ := h; rfl)
  · obtain ⟨a, da, n1, d1, rfl, ha, q⟩ := h
    refine ⟨_, (pss_one (ps_ret (pe_cmpR op_eq (pe_fld (pv 0) rfl) pe_int (nomark _)))), ?_⟩
    exact ⟨_, rfl, _, _, _, _, _, rfl, ha, T.cls_Fraction, T.n_Fraction_num, rfl, rfl, q⟩

theorem ok__in_lowest_terms (T : Tx K mg) (O_Fraction___init__ : OkD P w K mg base 1 (He.fAd K ("Fraction", some "__init__")) ["self", "num", "den"] (He.Dv.v K (.int 1)) (spInit K)) : OkF P w K mg base 3 (He.fAd K ("_in_lowest_terms", none)) ["num", "den"] (spLow K) := by
  obtain ⟨_, G_Fraction___init__, b_Fraction___init__, ⟨_, v_Fraction___init__, bd_Fraction___init__⟩, k_Fraction___init__⟩ := O_Fraction___init__
  refine okF_of (d := d__in_lowest_terms) T.d__in_lowest_terms rfl sc__in_lowest_terms (fun _ _ _ _ _ _ us hl => match us, hl with | [_, _], _ => rfl) (fun vs H Q E h => ?_) (fun cdv A outer s H vs Q E hr h => ?_)
  · first | (obtain ⟨_, rfl, _⟩ := h; rfl) | (obtain ⟨_, _, rfl, _⟩ := h; rfl) | (obtain ⟨_, _, _, rfl, _⟩ := h; rfl) | (obtain ⟨_, _, _, _, rfl, _⟩ := h; rfl) | (obtain ⟨_, _, _, _, _, rfl, _⟩ := h; rfl) | (obtain ⟨_, _, _, _, _, _, rfl, _⟩ := h; rfl) | (obtain ⟨_, _, _, _, _, _, _, rfl, _⟩ := h; rfl) | (obtain ⟨_, _, _, _, _, _, _, _, rfl, _⟩ := h; rfl) | (obtain ⟨_, _, _, _, _, _, _, _, _, rfl, _⟩ := h; rfl) | (obtain ⟨_, _, _, _, _, _, _, _, _, _, rfl, _⟩ := h; rfl)
  · obtain ⟨n, d, rfl, q⟩ := h
    refine ⟨_, (pss_cons (ps_set (i := 2) sc__in_lowest_terms.nd rfl (Or.inl rfl) (pe_makeI T.mk_Fraction G_Fraction___init__ (hr.mono (by decide)) (by rfl) T.g_Fraction bd_Fraction___init__ v_Fraction___init__ passL (mkFr_conv K [_]) (pa_cons pe_int pa_nil)))
      (pss_cons (ps_fld (pv 2) (pv 0) rfl)
      (pss_cons (ps_fld (pv 2) (pv 1) rfl)
      (pss_one (ps_ret (pv 2)))))), ?_⟩
    refine ⟨0, 1, 1, rfl, by decide, by decide, by decide, fun p dp H2 a b sm np hp fq => ?_⟩
    refine ⟨_, rfl, _, rfl, p, _, dp, _, rfl, hp, T.cls_Fraction, T.n_Fraction_num, (show (2 : Nat) < 1000 by decide), ?_⟩
    refine ⟨_, rfl, _, rfl, p, _, dp, _, rfl, upd_same, T.cls_Fraction, T.n_Fraction_den, (show (2 : Nat) < 1000 by decide), ?_⟩
    exact ⟨_, rfl, q p dp _ n d (same_mut (same_mut sm np) np) np upd_same ⟨rfl, rfl⟩⟩

theorem ok_Fraction___mul__ (T : Tx K mg) (O__in_lowest_terms : OkF P w K mg base 3 (He.fAd K ("_in_lowest_terms", none)) ["num", "den"] (spLow K)) : OkF P w K mg base 4 (He.fAd K ("Fraction", some "__mul__")) ["self", "other"] (spMul K) := by
  obtain ⟨_, G__in_lowest_terms, b__in_lowest_terms, k__in_lowest_terms⟩ := O__in_lowest_terms
  refine okF_of (d := d_Fraction___mul__) T.d_Fraction___mul__ rfl sc_Fraction___mul__ (fun _ _ _ _ _ _ us hl => match us, hl with | [_, _], _ => rfl) (fun vs H Q E h => ?_) (fun cdv A outer s H vs Q E hr h => ?_)
  · first | (obtain ⟨_, rfl, _⟩ := h; rfl) | (obtain ⟨_, _, rfl, _⟩ := h; rfl) | (obtain ⟨_, _, _, rfl, _⟩ := h; rfl) | (obtain ⟨_, _, _, _, rfl, _⟩ := h; rfl) | (obtain ⟨_, _, _, _, _, rfl, _⟩ := h; rfl) | (obtain ⟨_, _, _, _, _, _, rfl, _⟩ := h; rfl) | (obtain ⟨_, _, _, _, _, _, _, rfl, _⟩ := h; rfl) | (obtain ⟨_, _, _, _, _, _, _, _, rfl, _⟩ := h; rfl) | (obtain ⟨_, _, _, _, _, _, _, _, _, rfl, _⟩ := h; rfl) | (obtain ⟨_, _, _, _, _, _, _, _, _, _, rfl, _⟩ := h; rfl)
  · obtain ⟨a, b, da, db, n1, d1, n2, d2, k, rfl, ha, hb, l1, l2, hk, q⟩ := h
    refine ⟨_, (pss_cons (ps_setI (i := 2) sc_Fraction___mul__.nd rfl (Or.inl rfl) (pe_callBfun cr_gcd rfl T.g_gcd (pa_cons (pe_fld (pv 0) rfl) (pa_cons (pe_fld (pv 1) rfl) pa_nil))))
      (pss_cons (ps_setI (i := 3) sc_Fraction___mul__.nd rfl (Or.inl rfl) (pe_callBfun cr_gcd rfl T.g_gcd (pa_cons (pe_fld (pv 1) rfl) (pa_cons (pe_fld (pv 0) rfl) pa_nil))))
      (pss_cons (ps_setI (i := 4) sc_Fraction___mul__.nd rfl (Or.inl rfl) (pe_op op_mulW (pe_op op_fdivW (pe_fld (pv 0) rfl) (pv 2)) (pe_op op_fdivW (pe_fld (pv 1) rfl) (pv 3))))
      (pss_one (ps_ret (pe_call G__in_lowest_terms (hr.mono (by decide)) (by rfl) T.g__in_lowest_terms k__in_lowest_terms b__in_lowest_terms .nil passL (pa_cons (pv 4) (pa_cons (pe_op op_mulW (pe_op op_fdivW (pe_fld (pv 0) rfl) (pv 3)) (pe_op op_fdivW (pe_fld (pv 1) rfl) (pv 2))) pa_nil)))))))), ?_⟩
    refine ⟨_, rfl, _, _, _, _, _, rfl, ha, T.cls_Fraction, T.n_Fraction_num, rfl, _, rfl, _, _, _, _, _, rfl, hb, T.cls_Fraction, T.n_Fraction_den, rfl, _, _, rfl, _, rfl, fun l el => ?_⟩
    refine ⟨_, rfl, _, _, _, _, _, rfl, hb, T.cls_Fraction, T.n_Fraction_num, rfl, _, rfl, _, _, _, _, _, rfl, ha, T.cls_Fraction, T.n_Fraction_den, rfl, _, _, rfl, _, rfl, fun r er => ?_⟩
    obtain ⟨l0, r0, f⟩ := fq_mul l1.pos l2.pos l1.cop l2.cop el er
    have lb : l.natAbs < 2 ^ k := Nat.lt_of_le_of_lt (by
      rw [el, Int.natAbs_natCast]
      exact Nat.le_of_dvd (by have := l2.pos; omega) (Nat.gcd_dvd_right _ _)) l2.bd
    have rb : r.natAbs < 2 ^ k := Nat.lt_of_le_of_lt (by
      rw [er, Int.natAbs_natCast]
      exact Nat.le_of_dvd (by have := l1.pos; omega) (Nat.gcd_dvd_right _ _)) l1.bd
    have b1 : (n1 / l).natAbs < 2 ^ k := Nat.lt_of_le_of_lt (Int.natAbs_ediv_le_natAbs _ _) l1.bn
    have b2 : (n2 / r).natAbs < 2 ^ k := Nat.lt_of_le_of_lt (Int.natAbs_ediv_le_natAbs _ _) l2.bn
    have b3 : (d1 / r).natAbs < 2 ^ k := Nat.lt_of_le_of_lt (Int.natAbs_ediv_le_natAbs _ _) l1.bd
    have b4 : (d2 / l).natAbs < 2 ^ k := Nat.lt_of_le_of_lt (Int.natAbs_ediv_le_natAbs _ _) l2.bd
    refine ⟨_, rfl, _, _, _, _, _, rfl, ha, T.cls_Fraction, T.n_Fraction_num, rfl, _, rfl, _, _, rfl, rfl, divW l0 lb hk, _, rfl, _, _, _, _, _, rfl, hb, T.cls_Fraction, T.n_Fraction_num, rfl, _, rfl, _, _, rfl, rfl, divW r0 rb hk, _, _, rfl, rfl, mulW b1 b2 (by omega), _, rfl, fun num en => ?_⟩
    refine ⟨_, rfl, _, rfl, _, _, _, _, _, rfl, ha, T.cls_Fraction, T.n_Fraction_den, rfl, _, rfl, _, _, rfl, rfl, divW r0 rb hk, _, rfl, _, _, _, _, _, rfl, hb, T.cls_Fraction, T.n_Fraction_den, rfl, _, rfl, _, _, rfl, rfl, divW l0 lb hk, _, _, rfl, rfl, mulW b3 b4 (by omega), _, _, rfl, fun p dp H' n d sm np hp e => ?_⟩
    obtain ⟨rfl, rfl⟩ := e
    rw [← en] at f
    exact q p dp H' _ _ sm np hp f

theorem ok_Fraction_over (T : Tx K mg) (O_Fraction_is_zero : OkF P w K mg base 1 (gtAd K (He.ga K "Fraction") "is_zero") ["self"] (spZero K)) (O_Fraction___init__ : OkD P w K mg base 1 (He.fAd K ("Fraction", some "__init__")) ["self", "num", "den"] (He.Dv.v K (.int 1)) (spInit K)) (O_Fraction___mul__ : OkF P w K mg base 4 (He.fAd K ("Fraction", some "__mul__")) ["self", "other"] (spMul K)) : OkF P w K mg base 5 (He.fAd K ("Fraction", some "over")) ["self", "other"] (spOver K) := by
  obtain ⟨_, G_Fraction_is_zero, b_Fraction_is_zero, k_Fraction_is_zero⟩ := O_Fraction_is_zero
  obtain ⟨_, G_Fraction___init__, b_Fraction___init__, ⟨_, v_Fraction___init__, bd_Fraction___init__⟩, k_Fraction___init__⟩ := O_Fraction___init__
  obtain ⟨_, G_Fraction___mul__, b_Fraction___mul__, k_Fraction___mul__⟩ := O_Fraction___mul__
  refine okF_of (d := d_Fraction_over) T.d_Fraction_over rfl sc_Fraction_over (fun _ _ _ _ _ _ us hl => match us, hl with | [_, _], _ => rfl) (fun vs H Q E h => ?_) (fun cdv A outer s H vs Q E hr h => ?_)
  · first | (obtain ⟨_, rfl, _⟩ := h; rfl) | (obtain ⟨_, _, rfl, _⟩ := h; rfl) | (obtain ⟨_, _, _, rfl, _⟩ := h; rfl) | (obtain ⟨_, _, _, _, rfl, _⟩ := h; rfl) | (obtain ⟨_, _, _, _, _, rfl, _⟩ := h; rfl) | (obtain ⟨_, _, _, _, _, _, rfl, _⟩ := h; rfl) | (obtain ⟨_, _, _, _, _, _, _, rfl, _⟩ := h; rfl) | (obtain ⟨_, _, _, _, _, _, _, _, rfl, _⟩ := h; rfl) | (obtain ⟨_, _, _, _, _, _, _, _, _, rfl, _⟩ := h; rfl) | (obtain ⟨_, _, _, _, _, _, _, _, _, _, rfl, _⟩ := h; rfl)
  · obtain ⟨a, b, da, db, n1, d1, n2, d2, k, rfl, ha, hb, l1, l2, hk, hE, q⟩ := h
    refine ⟨_, (pss_cons (ps_if (pt_val (pe_prop (pv 1) T.cls_Fraction T.p_Fraction_is_zero G_Fraction_is_zero (hr.mono (by decide)) b_Fraction_is_zero .nil passL rfl)) (pss_one (ps_raise rfl (takes_of rfl rfl rfl rfl) (pmk_own PySem.F.excBase_ValueError T.x_DivisionByZero T.g_DivisionByZero T.k_DivisionByZero (T.r_DivisionByZero rfl) rfl))) pss_nil)
      (pss_one (ps_ret (pe_op (op_own2 T.first_Fraction T.s_Fraction___mul__ T.f_Fraction___mul__ G_Fraction___mul__ (hr.mono (by decide)) b_Fraction___mul__ passL) (pv 0) (pe_makeI T.mk_Fraction G_Fraction___init__ (hr.mono (by decide)) (by rfl) T.g_Fraction b_Fraction___init__ .nil passL (mkFr_conv K []) (pa_cons (pe_fld (pv 1) rfl) (pa_cons (pe_fld (pv 1) rfl) pa_nil))))))), ?_⟩
    refine ⟨_, rfl, _, _, _, rfl, hb, _, _, _, _, rfl, hb, _, rfl, iteEq (fun c => ?_) (fun c => ?_)⟩
    · exact hE c
    refine ⟨_, rfl, _, rfl, _, _, _, _, _, rfl, hb, T.cls_Fraction, T.n_Fraction_den, rfl, _, rfl, _, _, _, _, _, rfl, hb, T.cls_Fraction, T.n_Fraction_num, rfl, _, _, k, rfl, l2.bn, hk, c, fun p dp H1 x y sm np hp f => ?_⟩
    have ha1 := sm _ _ ha
    have l3 : Lw k x y := lw_of f c l2.bd l2.bn
    refine ⟨_, _, _, _, _, _, rfl, rfl, ha1, hp, _, _, _, _, _, _, _, _, k, rfl, ha1, hp, l1, l3, hk, fun p2 dp2 H2 n d sm2 np2 hp2 e2 => ?_⟩
    refine q c p2 dp2 H2 _ _ (sm.trans sm2) (sm.free np2) hp2 ?_
    refine e2.conv ?_ ?_
    · have z1 := l1.pos
      have z2 := l3.pos
      exact Int.mul_ne_zero (by omega) (by omega)
    · have z := f.eq
      have : n1 * x * (d1 * n2) = n1 * d1 * (x * n2) := by grind
      rw [this, z]
      grind

theorem ok_Poly_scaled (T : Tx K mg) (O_Poly___init__ : OkD P w K mg base 2 (He.fAd K ("Poly", some "__init__")) ["self", "coefs", "den"] (He.Dv.v K (.int 1)) (spPInit K)) : OkF P w K mg base 4 (He.fAd K ("Poly", some "scaled")) ["self", "factor"] (spPSca K) := by
  obtain ⟨_, G_Poly___init__, b_Poly___init__, ⟨_, v_Poly___init__, bd_Poly___init__⟩, k_Poly___init__⟩ := O_Poly___init__
  refine okF_of (d := d_Poly_scaled) T.d_Poly_scaled rfl sc_Poly_scaled (fun _ _ _ _ _ _ us hl => match us, hl with | [_, _], _ => rfl) (fun vs H Q E h => ?_) (fun cdv A outer s H vs Q E hr h => ?_)
  · first | (obtain ⟨_, rfl, _⟩ := h; rfl) | (obtain ⟨_, _, rfl, _⟩ := h; rfl) | (obtain ⟨_, _, _, rfl, _⟩ := h; rfl) | (obtain ⟨_, _, _, _, rfl, _⟩ := h; rfl) | (obtain ⟨_, _, _, _, _, rfl, _⟩ := h; rfl) | (obtain ⟨_, _, _, _, _, _, rfl, _⟩ := h; rfl) | (obtain ⟨_, _, _, _, _, _, _, rfl, _⟩ := h; rfl) | (obtain ⟨_, _, _, _, _, _, _, _, rfl, _⟩ := h; rfl) | (obtain ⟨_, _, _, _, _, _, _, _, _, rfl, _⟩ := h; rfl) | (obtain ⟨_, _, _, _, _, _, _, _, _, _, rfl, _⟩ := h; rfl)
  · obtain ⟨a, b, db, ks, e, n, d, k, rfl, hp, hbb, e0, eb, d0, hb, hn, hd, hl, hk, q⟩ := h
    obtain ⟨da, ta, ha, hta⟩ := hp
    refine ⟨_, (pss_one (ps_ret (pe_makeI T.mk_Poly G_Poly___init__ (hr.mono (by decide)) (by rfl) T.g_Poly b_Poly___init__ .nil passL (mkPo_conv K []) (pa_cons (pe_lc (own := [("c", 2)]) (g := gName 2) rfl sc_Poly_scaled.nd (pi_tup (pe_fld (pv 0) rfl)) (blkOk_by (own := [("c", 2)]) (N := N_Poly_scaled) (sc := defScope s_Poly_scaled) (by decide +kernel)) (fun _ _ _ _ _ => (pg_name (i := 2) sc_Poly_scaled.nd rfl (Or.inl rfl))) (fun _ _ _ _ _ => pts_nil) (fun _ _ _ _ _ => (pe_op op_mulW (pv 2) (pe_fldK (K := K) rfl (pe_fld (pv 1) rfl))))) (pa_cons (pe_op op_mulW (pe_fld (pv 0) rfl) (pe_fld (pv 1) rfl)) pa_nil))))), ?_⟩
    refine ⟨_, rfl, _, _, _, _, _, rfl, ha, T.cls_Poly, T.n_Poly_coefs, rfl, _, rfl, ⟨_, SqT.of hta⟩, fun D nD => lc_tup (K := K) (a := ta) (xs := (ks).map V.int) (fun i HL => Same H HL ∧ HL D = some (.lst ((((ks).map (fun x => x * n)).take i).map V.int))) ⟨sm_new nD, by rw [upd_same]; rfl⟩ (fun i HL hi hP => sm_tup hP.1 (SqT.of hta)) (fun i y HL hi hP => ?_) (fun H2 hP => ?_)⟩
    · obtain ⟨sm, hD⟩ := hP
      obtain ⟨u, hu, rfl⟩ := get_map_int hi
      have hum := List.mem_of_getElem? hu
      have hll := (List.getElem?_eq_some_iff.mp hu).1
      refine ⟨rfl, ?_⟩
      unfold tYes
      refine iteK rfl ?_
      refine ⟨_, rfl, _, rfl, _, _, _, _, _, rfl, sm _ _ hbb, T.cls_Fraction, T.n_Fraction_num, rfl, _, _, rfl, rfl, mulW (hb.all u hum) hn (by omega), _, hD, ?_, same_mut sm nD, ?_⟩
      · rw [len_map, List.length_take, List.length_map]; exact small1000 (by omega)
      · rw [upd_same, List.take_succ, List.map_append, List.getElem?_map, hu]; rfl
    obtain ⟨sD, hD⟩ := hP
    rw [List.take_of_length_le (by rw [List.length_map, List.length_map]; exact Nat.le_refl _)] at hD
    refine ⟨_, rfl, _, _, _, _, _, rfl, sD _ _ ha, T.cls_Poly, T.n_Poly_den, rfl, _, rfl, _, _, _, _, _, rfl, sD _ _ hbb, T.cls_Fraction, T.n_Fraction_den, rfl, _, _, rfl, rfl, mulW eb hd (by omega), D, _, _, k + k, rfl, .inl (SqL.of hD), by rw [List.length_map]; omega, abs_lt_mul eb hd, by omega, Int.mul_ne_zero (by omega) d0, fun p H4 ms g s4 np4 hp4 pq => ?_⟩
    exact q p H4 ms g (sD.trans s4) (sD.free np4) hp4 pq

theorem ok_Quotient___init__ (T : Tx K mg) (O_Poly_is_zero : OkF P w K mg base 1 (gtAd K (He.ga K "Poly") "is_zero") ["self"] (spPZer K)) (O_common_divisor : OkF P w K mg base 7 (He.fAd K ("common_divisor", none)) ["p", "q"] (spCDv K)) (O_exact : OkF P w K mg base 5 (He.fAd K ("exact", none)) ["p", "q"] (spExact K)) (O_Fraction___init__ : OkD P w K mg base 1 (He.fAd K ("Fraction", some "__init__")) ["self", "num", "den"] (He.Dv.v K (.int 1)) (spInit K)) (O_Poly_lead : OkF P w K mg base 4 (gtAd K (He.ga K "Poly") "lead") ["self"] (spPLe K)) (O_Fraction_over : OkF P w K mg base 5 (He.fAd K ("Fraction", some "over")) ["self", "other"] (spOver K)) (O_Poly_scaled : OkF P w K mg base 4 (He.fAd K ("Poly", some "scaled")) ["self", "factor"] (spPSca K)) (O_monic : OkF P w K mg base 4 (He.fAd K ("monic", none)) ["p"] (spMon K)) : OkF P w K mg base 9 (He.fAd K ("Quotient", some "__init__")) ["self", "num", "den"] (spQuI K) := by
  obtain ⟨_, G_Poly_is_zero, b_Poly_is_zero, k_Poly_is_zero⟩ := O_Poly_is_zero
  obtain ⟨_, G_common_divisor, b_common_divisor, k_common_divisor⟩ := O_common_divisor
  obtain ⟨_, G_exact, b_exact, k_exact⟩ := O_exact
  obtain ⟨_, G_Fraction___init__, b_Fraction___init__, ⟨_, v_Fraction___init__, bd_Fraction___init__⟩, k_Fraction___init__⟩ := O_Fraction___init__
  obtain ⟨_, G_Poly_lead, b_Poly_lead, k_Poly_lead⟩ := O_Poly_lead
  obtain ⟨_, G_Fraction_over, b_Fraction_over, k_Fraction_over⟩ := O_Fraction_over
  obtain ⟨_, G_Poly_scaled, b_Poly_scaled, k_Poly_scaled⟩ := O_Poly_scaled
  obtain ⟨_, G_monic, b_monic, k_monic⟩ := O_monic
  refine okF_of (d := d_Quotient___init__) T.d_Quotient___init__ rfl sc_Quotient___init__ (fun _ _ _ _ _ _ us hl => match us, hl with | [_, _, _], _ => rfl) (fun vs H Q E h => ?_) (fun cdv A outer s H vs Q E hr h => ?_)
  · (obtain ⟨_, _, _, _, _, _, _, _, _, _, _, rfl, _⟩ := h; rfl)
  · obtain ⟨x, dx, p, r, ks, js, e, f, k, KK, kc, rfl, hx, hp, hr_, sk, sj, hE, q⟩ := h
    refine ⟨_, (pss_cons (ps_if (pt_val (pe_prop (pv 2) T.cls_Poly T.p_Poly_is_zero G_Poly_is_zero (hr.mono (by decide)) b_Poly_is_zero .nil passL rfl)) (pss_one (ps_raise rfl (takes_of rfl rfl rfl rfl) (pmk_own PySem.F.excBase_ValueError T.x_DivisionByZero T.g_DivisionByZero T.k_DivisionByZero (T.r_DivisionByZero rfl) rfl))) pss_nil)
      (pss_cons (ps_set (i := 3) sc_Quotient___init__.nd rfl (Or.inl rfl) (pe_call G_common_divisor (hr.mono (by decide)) (by rfl) T.g_common_divisor k_common_divisor b_common_divisor .nil passL (pa_cons (pv 1) (pa_cons (pv 2) pa_nil))))
      (pss_cons (ps_set (i := 4) sc_Quotient___init__.nd rfl (Or.inl rfl) (pe_call G_exact (hr.mono (by decide)) (by rfl) T.g_exact k_exact b_exact .nil passL (pa_cons (pv 2) (pa_cons (pv 3) pa_nil))))
      (pss_cons (ps_fld (pv 0) (pe_meth (pe_call G_exact (hr.mono (by decide)) (by rfl) T.g_exact k_exact b_exact .nil passL (pa_cons (pv 1) (pa_cons (pv 3) pa_nil))) T.cls_Poly T.m_Poly_scaled G_Poly_scaled (hr.mono (by decide)) b_Poly_scaled .nil passL (pa_cons (pe_meth (pe_makeI T.mk_Fraction G_Fraction___init__ (hr.mono (by decide)) (by rfl) T.g_Fraction bd_Fraction___init__ v_Fraction___init__ passL (mkFr_conv K [_]) (pa_cons pe_int pa_nil)) T.cls_Fraction T.m_Fraction_over G_Fraction_over (hr.mono (by decide)) b_Fraction_over .nil passL (pa_cons (pe_prop (pv 4) T.cls_Poly T.p_Poly_lead G_Poly_lead (hr.mono (by decide)) b_Poly_lead .nil passL rfl) pa_nil)) pa_nil)) rfl)
      (pss_one (ps_fld (pv 0) (pe_call G_monic (hr.mono (by decide)) (by rfl) T.g_monic k_monic b_monic .nil passL (pa_cons (pv 4) pa_nil)) rfl)))))), ?_⟩
    obtain ⟨_, _, rr, _⟩ := id hr_
    refine ⟨_, rfl, _, _, _, rfl, rr, r, js, f, rfl, hr_, _, rfl, iteEq (fun z => ?_) (fun z => ?_)⟩
    · exact hE (List.eq_nil_of_length_eq_zero (by omega))
    have jne : js ≠ [] := fun w => z (by rw [w]; rfl)
    obtain ⟨ok, kb, kk, eb, fb, d1, d2, q⟩ := q jne
    have lk := ok.lk
    have lj := ok.lj
    have kc2 : kc ≤ 2000 := by
      have : kc ≤ dvB kc ks.length + kc := Nat.le_add_left _ _
      have e : dvB kc js.length = kc + 1 + (kc + 1) * js.length := rfl
      omega
    refine ⟨_, rfl, _, rfl, p, r, ks, js, e, f, k, KK, rfl, hp, hr_, sk, sj, ok, fun c H1 ms g s1 hc G => ?_⟩
    have bm := kb ms g G
    obtain ⟨mne, gm⟩ := G.mon (.inr jne)
    have lm := G.len
    have ml : ms.getD (ms.length - 1) 0 ≠ 0 := G.self.last.resolve_left mne
    have gb : g.natAbs < 2 ^ kc := by rw [← gm]; exact bm.getD _
    refine ⟨_, rfl, _, rfl, r, c, js, ms, f, g, kc, rfl, hr_.mono s1, hc, mne, sj.pos, G.self.pos, ml, ok.bj.mono kk, bm, fb, gb, by omega, by omega, kc2, by omega, fun lw H2 us h s2 hl dl nl => ?_⟩
    obtain ⟨ns1, h1, dl⟩ := dl
    have s12 := s1.trans s2
    obtain ⟨une, su⟩ := low_ne jne sj ml (by have := G.self.pos; omega) G.dj dl
    obtain ⟨_, _, rl, _⟩ := id hl
    refine ⟨_, rfl, _, rfl, p, c, ks, ms, e, g, kc, rfl, hp.mono s12, hc.mono s2, mne, sk.pos, G.self.pos, ml, ok.bk.mono kk, bm, eb, gb, by omega, by omega, kc2, by omega, fun nm H3 vs w s3 hn dn nn => ?_⟩
    obtain ⟨ns2, h2, dn⟩ := dn
    have sv := dn.pm_self
    obtain ⟨_, _, rn, _⟩ := id hn
    refine ⟨_, _, _, rfl, rn, rfl, 1, 1, 8, rfl, by decide, by decide, by decide, fun fp fdp H4 a1 b1 s4 np4 hf4 fq1 => ?_⟩
    have vsl : vs.length ≤ 400 := by have := dn.lm; omega
    have usl : us.length ≤ 100 := by have := dl.lm; omega
    have dn_pos : 0 < w := sv.pos
    have bl : Bits 3990 us := nl.b.mono (by omega)
    have bh : h.natAbs < 2 ^ 3990 := abs_mono nl.g (by omega)
    have bv : Bits 3990 vs := nn.b.mono (by omega)
    have bw : w.natAbs < 2 ^ 3990 := abs_mono nn.g (by omega)
    have sA := s3.trans s4
    have hl4 := hl.mono sA
    have ul := lpos une
    have lu : coI us ((us.length : Int) - 1) = us.getD (us.length - 1) 0 := by
      unfold coI
      rw [if_neg (by omega), show ((us.length : Int) - 1).toNat = us.length - 1 by omega]
    have lu0 : us.getD (us.length - 1) 0 ≠ 0 := su.last.resolve_left une
    have h0 : h ≠ 0 := by have := su.pos; omega
    obtain ⟨rfl, rfl⟩ := fq_11 fq1
    refine ⟨_, _, _, rfl, hf4, rfl, _, rfl, _, _, _, rfl, sA _ _ rl, lw, us, h, 3990, rfl, hl4, su.pos, bh, by decide, fun pl dpl H5 n d s5 np5 hpl fq5 => ?_⟩
    have n0 : n ≠ 0 := fun z => by
      have := fq5.eq
      rw [z, Int.zero_mul, lu] at this
      rcases Int.mul_eq_zero.mp this.symm with y | y
      · exact lu0 y
      · have := fq5.pos; omega
    have nb : n.natAbs < 2 ^ 3990 := Nat.lt_of_le_of_lt (fq5.num_le h0) (by rw [lu]; exact bl.getD _)
    have db : d.natAbs < 2 ^ 3990 := Nat.lt_of_le_of_lt (fq5.den_le h0) bh
    refine ⟨fp, pl, fdp, dpl, 1, 1, n, d, 3990, rfl, s5 _ _ hf4, hpl, ⟨by decide, by decide, small1 _ (by decide), small1 _ (by decide)⟩, ⟨fq5.pos, fq5.cop, nb, db⟩, by decide, fun z => absurd z n0, fun _ pz dpz H6 n6 d6 s6 np6 hp6 fo => ?_⟩
    have n1 : 1 * n ≠ 0 := by omega
    have b6 : n6.natAbs < 2 ^ 3990 := Nat.lt_of_le_of_lt (fo.num_le n1) (by rw [Int.one_mul]; exact db)
    have c6 : d6.natAbs < 2 ^ 3990 := Nat.lt_of_le_of_lt (fo.den_le n1) (by rw [Int.one_mul]; exact nb)
    have d60 : d6 ≠ 0 := by have := fo.pos; omega
    have s46 := s4.trans (s5.trans s6)
    refine ⟨nm, pz, dpz, vs, w, n6, d6, 3990, rfl, hn.mono s46, hp6, dn_pos, bw, d60, bv, b6, c6, vsl, by decide, fun p7 H7 as a s7 np7 hp7 pq => ?_⟩
    have s07 := ((s12.trans s3).trans s46).trans s7
    have hx7 := s07 _ _ hx
    have hl7 := (hl4.mono (s5.trans s6)).mono s7
    refine ⟨_, rfl, x, _, dx, [], rfl, hx7, T.cls_Quotient, T.n_Quotient_num, by decide, ?_⟩
    refine ⟨_, rfl, lw, us, h, 3990, rfl, poA_updx hl7 hx7 (by decide), su, bl, by decide, usl, fun p8 H9 bs b s9 hp9 sb mr => ?_⟩
    refine ⟨_, rfl, x, _, dx, _, rfl, s9 _ _ upd_same, T.cls_Quotient, T.n_Quotient_den, (show (1 : Nat) < 1000 by decide), ?_⟩
    have hx9 := s9 _ _ (upd_same (H := H7) (a := x) (o := .ins (CQ K) dx [("num", .ref p7)]))
    refine q _ p7 p8 as a bs b (fun a0 o ne e0 => ?_) (poA_updx ((poA_updx hp7 hx7 (by decide)).mono s9) hx9 (by show 1 ≤ 1; decide)) (poA_updx hp9 hx9 (by show 1 ≤ 1; decide)) (quo_math sk sj jne G dl dn fq5 fo pq sb mr) upd_same
    rw [upd_ne ne]
    refine s9 _ _ ?_
    rw [upd_ne ne]
    exact s07 _ _ e0

theorem ok_Quotient_is_zero (T : Tx K mg) (O_Poly_is_zero : OkF P w K mg base 1 (gtAd K (He.ga K "Poly") "is_zero") ["self"] (spPZer K)) : OkF P w K mg base 3 (gtAd K (He.ga K "Quotient") "is_zero") ["self"] (spQuZ K) := by
  obtain ⟨_, G_Poly_is_zero, b_Poly_is_zero, k_Poly_is_zero⟩ := O_Poly_is_zero
  refine okF_of (d := d_Quotient_is_zero) T.d_Quotient_is_zero rfl sc_Quotient_is_zero (fun _ _ _ _ _ _ us hl => match us, hl with | [_], _ => rfl) (fun vs H Q E h => ?_) (fun cdv A outer s H vs Q E hr h => ?_)
  · (obtain ⟨_, _, _, _, _, rfl, _⟩ := h; rfl)
  · obtain ⟨q, as, a, bs, b, rfl, ⟨dq, u, v, h1, h2, h3⟩, k⟩ := h
    refine ⟨_, (pss_one (ps_ret (pe_prop (pe_fld (pv 0) rfl) T.cls_Poly T.p_Poly_is_zero G_Poly_is_zero (hr.mono (by decide)) b_Poly_is_zero .nil passL rfl))), ?_⟩
    obtain ⟨_, _, r2, _⟩ := id h2
    exact ⟨_, rfl, _, _, _, _, _, rfl, h1, T.cls_Quotient, T.n_Quotient_num, rfl, _, _, _, rfl, r2, u, as, a, rfl, h2, k⟩

theorem ok__refuse_zero (T : Tx K mg) (O_Poly_is_zero : OkF P w K mg base 1 (gtAd K (He.ga K "Poly") "is_zero") ["self"] (spPZer K)) : OkF P w K mg base 3 (He.fAd K ("_refuse_zero", none)) ["p"] (spRefZ K) := by
  obtain ⟨_, G_Poly_is_zero, b_Poly_is_zero, k_Poly_is_zero⟩ := O_Poly_is_zero
  refine okF_of (d := d__refuse_zero) T.d__refuse_zero rfl sc__refuse_zero (fun _ _ _ _ _ _ us hl => match us, hl with | [_], _ => rfl) (fun vs H Q E h => ?_) (fun cdv A outer s H vs Q E hr h => ?_)
  · first | (obtain ⟨_, rfl, _⟩ := h; rfl) | (obtain ⟨_, _, rfl, _⟩ := h; rfl) | (obtain ⟨_, _, _, rfl, _⟩ := h; rfl) | (obtain ⟨_, _, _, _, rfl, _⟩ := h; rfl) | (obtain ⟨_, _, _, _, _, rfl, _⟩ := h; rfl) | (obtain ⟨_, _, _, _, _, _, rfl, _⟩ := h; rfl) | (obtain ⟨_, _, _, _, _, _, _, rfl, _⟩ := h; rfl) | (obtain ⟨_, _, _, _, _, _, _, _, rfl, _⟩ := h; rfl) | (obtain ⟨_, _, _, _, _, _, _, _, _, rfl, _⟩ := h; rfl) | (obtain ⟨_, _, _, _, _, _, _, _, _, _, rfl, _⟩ := h; rfl)
  · obtain ⟨a, ks, e, rfl, hp, hE, q⟩ := h
    obtain ⟨da, ta, ha, hta⟩ := id hp
    refine ⟨_, (pss_one (ps_if (pt_val (pe_prop (pv 0) T.cls_Poly T.p_Poly_is_zero G_Poly_is_zero (hr.mono (by decide)) b_Poly_is_zero .nil passL rfl)) (pss_one (ps_raise rfl (takes_of rfl rfl rfl rfl) (pmk_own PySem.F.excBase_ValueError T.x_ZeroPolynomial T.g_ZeroPolynomial T.k_ZeroPolynomial (T.r_ZeroPolynomial rfl) rfl))) pss_nil)), ?_⟩
    refine ⟨_, rfl, _, _, _, rfl, ha, _, _, _, rfl, hp, _, rfl, iteEq (fun c => ?_) (fun c => ?_)⟩
    · exact hE (List.eq_nil_of_length_eq_zero (by omega))
    · exact q fun z => c (by rw [z]; rfl)

theorem ok_derivative (T : Tx K mg) : OkF P w K mg base 1 (He.fAd K ("derivative", none)) ["coefs"] (spDer K) := by
  refine okF_of (d := d_derivative) T.d_derivative rfl sc_derivative (fun _ _ _ _ _ _ us hl => match us, hl with | [_], _ => rfl) (fun vs H Q E h => ?_) (fun cdv A outer s H vs Q E hr h => ?_)
  · (obtain ⟨_, _, _, rfl, _⟩ := h; rfl)
  · obtain ⟨a, cs, k, rfl, hA, l, bk, hk, q⟩ := h
    refine ⟨_, (pss_one (ps_ret (pe_lc (own := [("i", 1), ("c", 2)]) (g := gTup K 2 (gCons (gName 1) (gCons (gName 2) gNil))) rfl sc_derivative.nd (pi_enumT (by rfl) T.z_enumerate (pa_cons (pv 0) pa_nil)) (blkOk_by (own := [("i", 1), ("c", 2)]) (N := N_derivative) (sc := defScope s_derivative) (by decide +kernel)) (fun _ _ _ _ _ => (pg_tup rfl (pgs_cons (pg_name (i := 1) sc_derivative.nd rfl (Or.inl rfl)) (pgs_cons (pg_name (i := 2) sc_derivative.nd rfl (Or.inl rfl)) pgs_nil)))) (fun _ _ _ _ _ => (pts_one (pt_cmpR op_gt (pv 1) pe_int (nomark _)))) (fun _ _ _ _ _ => (pe_op op_mulW (pv 1) (pv 2)))))), ?_⟩
    refine ⟨_, rfl, a, _, rfl, hA, fun D nD => lc_enT (K := K) (a := a) (xs := cs.map V.int) (fun i HL => Same H HL ∧ HL D = some (.lst (((derL cs).take (i - 1)).map V.int)))
      ⟨sm_new nD, upd_same⟩ (fun i HL hP => sm_tup hP.1 hA) (fun i x T HL hi hP nT => ?_) (fun H2 hP => ?_)⟩
    · obtain ⟨sm, hD⟩ := hP
      obtain ⟨c, hc, rfl⟩ := get_map_int hi
      have il : i < cs.length := (List.getElem?_eq_some_iff.mp hc).1
      have ec := getD_of hc
      have TD : D ≠ T := ne_of_none hD nT
      have sm2 := sm.trans (sm_new (o := .tup [.int (i : Nat), .int c]) nT)
      have hD2 : (upd HL T (.tup [.int (i : Nat), .int c])) D = some (.lst (((derL cs).take (i - 1)).map V.int)) := by rw [upd_ne TD]; exact hD
      have dt := derL_take cs il
      refine ⟨T, _, rfl, SqT.of upd_same, rfl, _, _, rfl, _, _, rfl, rfl, ?_⟩
      generalize upd HL T (.tup [.int (i : Nat), .int c]) = G at sm2 hD2 ⊢
      refine ⟨rfl, ?_⟩
      refine ⟨_, rfl, _, _, rfl, rfl, _, rfl, iteD (fun c3 => ?_) (fun c3 => ?_)⟩
      · refine ⟨_, rfl, _, rfl, _, _, rfl, rfl, mulW (a := 20) (by rw [Int.natAbs_natCast]; exact Nat.lt_of_lt_of_le (show i < 400 by omega) (by decide)) (bk.all c (List.mem_of_getElem? hc)) (by omega), _, hD2, ?_, same_mut sm2 nD, ?_⟩
        · rw [len_map, List.length_take]; exact small1000 (by omega)
        · rw [upd_same, dt, if_neg (by omega), List.map_append, ec]
          rfl
      · refine ⟨sm2, ?_⟩
        have i0 : i = 0 := by omega
        rw [dt, if_pos i0]
        rw [hD2, i0]
        rfl
    obtain ⟨sm, hD⟩ := hP
    rw [len_map, List.take_of_length_le (by rw [derL_len]; exact Nat.le_refl _)] at hD
    exact q D H2 sm nD hD

theorem ok_without_multiple_roots (T : Tx K mg) (O_derivative : OkF P w K mg base 1 (He.fAd K ("derivative", none)) ["coefs"] (spDer K)) (O_Poly___init__ : OkD P w K mg base 2 (He.fAd K ("Poly", some "__init__")) ["self", "coefs", "den"] (He.Dv.v K (.int 1)) (spPInit K)) (O_common_divisor : OkF P w K mg base 7 (He.fAd K ("common_divisor", none)) ["p", "q"] (spCDv K)) (O_exact : OkF P w K mg base 5 (He.fAd K ("exact", none)) ["p", "q"] (spExact K)) : OkF P w K mg base 8 (He.fAd K ("without_multiple_roots", none)) ["p"] (spWMR K) := by
  obtain ⟨_, G_derivative, b_derivative, k_derivative⟩ := O_derivative
  obtain ⟨_, G_Poly___init__, b_Poly___init__, ⟨_, v_Poly___init__, bd_Poly___init__⟩, k_Poly___init__⟩ := O_Poly___init__
  obtain ⟨_, G_common_divisor, b_common_divisor, k_common_divisor⟩ := O_common_divisor
  obtain ⟨_, G_exact, b_exact, k_exact⟩ := O_exact
  refine okF_of (d := d_without_multiple_roots) T.d_without_multiple_roots rfl sc_without_multiple_roots (fun _ _ _ _ _ _ us hl => match us, hl with | [_], _ => rfl) (fun vs H Q E h => ?_) (fun cdv A outer s H vs Q E hr h => ?_)
  · (obtain ⟨_, _, _, _, rfl, _⟩ := h; rfl)
  · obtain ⟨a, ks, e, _, rfl, ha, sk, l2, l8, bk, eb, q⟩ := h
    refine ⟨_, (pss_one (ps_ret (pe_call G_exact (hr.mono (by decide)) (by rfl) T.g_exact k_exact b_exact .nil passL (pa_cons (pv 0) (pa_cons (pe_call G_common_divisor (hr.mono (by decide)) (by rfl) T.g_common_divisor k_common_divisor b_common_divisor .nil passL (pa_cons (pv 0) (pa_cons (pe_makeI T.mk_Poly G_Poly___init__ (hr.mono (by decide)) (by rfl) T.g_Poly bd_Poly___init__ v_Poly___init__ passL (mkPo_conv K [_]) (pa_cons (pe_call G_derivative (hr.mono (by decide)) (by rfl) T.g_derivative k_derivative b_derivative .nil passL (pa_cons (pe_fld (pv 0) rfl) pa_nil)) pa_nil)) pa_nil))) pa_nil))))), ?_⟩
    have kne : ks ≠ [] := fun z => by rw [z] at l2; exact absurd l2 (by decide)
    have kt := sk.last.resolve_left kne
    obtain ⟨da, ta, haa, hta⟩ := id ha
    refine ⟨_, rfl, _, rfl, _, rfl, _, _, _, _, _, rfl, haa, T.cls_Poly, T.n_Poly_coefs, rfl, ta, ks, 90, rfl, SqT.of hta, by omega, bk, by decide, fun pd H1 s1 npd hpd => ?_⟩
    have dl := derL_len ks
    have dd := dv_ff_dg l2 kt
    have bd : Bits 94 (derL ks) := bits_of_at fun i => by
      have e5 : (derL ks).getD i 0 = dv (ff ks) i := congrFun (derL_ff ks) i
      rw [e5]
      by_cases c : i < 8
      · exact abs_lt_mul (a := 4) (b := 90) (show ((i : Int) + 1).natAbs < 2 ^ 4 by omega) (bk.getD _)
      · rw [dd.up i (by omega)]
        exact Nat.pow_pos (by decide)
    refine ⟨pd, derL ks, 1, 8, rfl, .inl (SqL.of hpd), by omega, by decide, by decide, by decide, fun p1 H2 js f s2 np1 hp1 pq => ?_⟩
    obtain ⟨rfl, ej⟩ := pq_one pq
    have ejf : ff js = dv (ff ks) := (funext ej).trans (derL_ff ks)
    have jl := pq.len (by decide)
    have bj := pq.bits (by decide) bd
    have jne : js ≠ [] := fun z => dd.top (by rw [← ejf, z]; rfl)
    have jt := pq.last.resolve_left jne
    have s12 := s1.trans s2
    have b123 : Bits 94 ks := bk.mono (by decide)
    have ok : CDok ks js 94 1850 := ⟨b123, bj, by omega, by omega, fun _ _ => by
      obtain ⟨e0, m, E, D, B⟩ := euclid_small (dgl kt) (dgl jt) b123.getD bj.getD (by omega)
      refine ⟨e0, (94 + 5) * 15 + 94, m, E, D, B.mono ?_, by decide⟩
      have : (94 + 5) * (ks.length - 1 + (js.length - 1)) ≤ (94 + 5) * 15 := Nat.mul_le_mul_left _ (by omega)
      omega, by decide, by decide⟩
    refine ⟨a, p1, ks, js, e, 1, 94, 1850, rfl, ha.mono s12, hp1, sk, pq.self, ok, fun c H3 ms g s3 hc G => ?_⟩
    obtain ⟨mne, gm⟩ := G.mon (.inl kne)
    have mt : ms.getD (ms.length - 1) 0 ≠ 0 := G.self.last.resolve_left mne
    have bm := gcd_bits G kne jt bj (by omega)
    have gb : g.natAbs < 2 ^ 170 := by rw [← gm]; exact bm.getD _
    have lm := G.len
    have d8 : dvB 170 ks.length ≤ dvB 170 9 := dvB_le l8
    have d9 : dvB 170 9 = 1710 := by decide
    refine ⟨a, c, ks, ms, e, g, 170, rfl, (ha.mono s12).mono s3, hc, mne, sk.pos, G.self.pos, mt, bk.mono (by decide), bm, abs_mono eb (by decide), gb, by omega, by omega, by decide, by omega, fun lw H4 vs w s4 hl dl nl => ?_⟩
    obtain ⟨ns, h, dn⟩ := dl
    exact q lw H4 vs w ((s12.trans s3).trans s4) hl (smp_of sk l2 l8 bk ejf jne G dn)

theorem ok__is_prime (T : Tx K mg) : OkF P w K mg base 1 (He.fAd K ("_is_prime", none)) ["number"] (spIsP K) := by
  refine okF_of (d := d__is_prime) T.d__is_prime rfl sc__is_prime (fun _ _ _ _ _ _ us hl => match us, hl with | [_], _ => rfl) (fun vs H Q E h => ?_) (fun cdv A outer s H vs Q E hr h => ?_)
  · (obtain ⟨_, rfl, _⟩ := h; rfl)
  · obtain ⟨n, rfl, hn, q⟩ := h
    refine ⟨_, (pss_cons (ps_if (pt_cmpR op_lt (pv 0) pe_int (nomark _)) (pss_one (ps_ret pe_bl)) pss_nil)
      (pss_cons (ps_setI (i := 1) sc__is_prime.nd rfl (Or.inl rfl) pe_int)
      (pss_cons (ps_while PassesOwn.leaving (pt_cmpR op_le (pe_op op_mulW (pv 1) (pv 1)) (pv 0) (nomark _)) (pss_cons (ps_if (pt_cmpR op_eq (pe_op op_mod (pv 0) (pv 1)) pe_int (nomark _)) (pss_one (ps_ret pe_bl)) pss_nil)
      (pss_one (ps_setI (i := 1) sc__is_prime.nd rfl (Or.inl rfl) (pe_op op_add (pv 1) pe_int)))))
      (pss_one (ps_ret pe_bl))))), ?_⟩
    refine ⟨_, rfl, _, _, rfl, rfl, _, rfl, iteD (fun c => ?_) (fun c => ?_)⟩
    · exact q false ⟨fun z => Bool.noConfusion z, fun z => by have := z.two; omega⟩
    refine ⟨_, rfl, fun d0 ed0 => ?_⟩
    refine ⟨fun m σ' H' => H = H' ∧ ∃ d : Nat, σ' = [some (.int (n : Int)), some (.int (d : Int))] ∧ m = n + 1 - d ∧ 2 ≤ d ∧ ∀ q, 2 ≤ q → q < d → ¬ q ∣ n, ⟨_, rfl, 2, by rw [ed0]; rfl, rfl, Nat.le_refl _, fun q h1 h2 => by omega⟩, ?_⟩
    rintro m _ _ ⟨rfl, d, rfl, rfl, d2, hq⟩
    have d60 : 2 ^ 60 * 2 ^ 60 = (2 : Nat) ^ 120 := by rw [← Nat.pow_add]
    by_cases dn : n + 1 ≤ d
    · -- beyond the number: it has no divisor at all
      have dd : n + 1 ≤ d * d := Nat.le_trans dn (Nat.le_mul_of_pos_left d (by omega))
      exfalso
      exact hq n (by omega) (by omega) (Nat.dvd_refl n)
    have db : ((d : Nat) : Int).natAbs < 2 ^ 60 := by rw [Int.natAbs_natCast]; omega
    refine ⟨_, rfl, _, rfl, _, _, rfl, rfl, mulW db db (by decide), _, rfl, _, _, rfl, rfl, _, rfl, iteD (fun c2 => ?_) (fun c2 => ?_)⟩
    · refine ⟨fun σ2 H2 => ∃ m', m' < n + 1 - d ∧ H = H2 ∧ ∃ d : Nat, σ2 = [some (.int (n : Int)), some (.int (d : Int))] ∧ m' = n + 1 - d ∧ 2 ≤ d ∧ ∀ q, 2 ≤ q → q < d → ¬ q ∣ n, fun _ _ h => h, ?_⟩
      refine ⟨_, rfl, _, rfl, _, _, rfl, rfl, (show (0 : Int) < d by omega), rfl, _, rfl, iteEq (fun c3 => ?_) (fun c3 => ?_)⟩
      · have dv : d ∣ n := Int.natCast_dvd_natCast.mp (Int.dvd_of_emod_eq_zero c3)
        refine q false ⟨fun z => Bool.noConfusion z, fun z => ?_⟩
        have e := pr_self z d2 dv
        subst e
        have c4 : d * d ≤ d := by
          have : (d : Int) * (d : Int) ≤ (d : Int) := c2
          rw [← Int.natCast_mul] at this
          exact Int.ofNat_le.mp this
        have : 2 * d ≤ d * d := Nat.mul_le_mul_right _ d2
        omega
      · have nd : ¬ d ∣ n := fun z => c3 (Int.emod_eq_zero_of_dvd (Int.natCast_dvd_natCast.mpr z))
        refine ⟨_, rfl, _, _, rfl, rfl, _, rfl, fun e ee => ⟨n + 1 - (d + 1), by omega, rfl, d + 1, by rw [ee]; rfl, rfl, by omega, fun q h1 h2 => ?_⟩⟩
        by_cases z : q = d
        · rw [z]; exact nd
        · exact hq q h1 (by omega)
    · refine q true ⟨fun _ => pr_sqrt (by omega) (d := d) ?_ hq, fun _ => rfl⟩
      have : ¬ (d : Int) * (d : Int) ≤ (n : Int) := c2
      rw [← Int.natCast_mul] at this
      omega

theorem ok_next_prime (T : Tx K mg) (O__is_prime : OkF P w K mg base 1 (He.fAd K ("_is_prime", none)) ["number"] (spIsP K)) : OkF P w K mg base 2 (He.fAd K ("next_prime", none)) ["number"] (spNxP K) := by
  obtain ⟨_, G__is_prime, b__is_prime, k__is_prime⟩ := O__is_prime
  refine okF_of (d := d_next_prime) T.d_next_prime rfl sc_next_prime (fun _ _ _ _ _ _ us hl => match us, hl with | [_], _ => rfl) (fun vs H Q E h => ?_) (fun cdv A outer s H vs Q E hr h => ?_)
  · (obtain ⟨_, rfl, _⟩ := h; rfl)
  · obtain ⟨n, rfl, ⟨P, hP, nP, P5⟩, q⟩ := h
    refine ⟨_, (pss_cons (ps_setI (i := 1) sc_next_prime.nd rfl (Or.inl rfl) (pe_op op_add (pv 0) pe_int))
      (pss_cons (ps_while PassesOwn.leaving (pt_not (pt_val (pe_call G__is_prime (hr.mono (by decide)) (by rfl) T.g__is_prime k__is_prime b__is_prime .nil passL (pa_cons (pv 1) pa_nil)))) (pss_one (ps_setI (i := 1) sc_next_prime.nd rfl (Or.inl rfl) (pe_op op_add (pv 1) pe_int))))
      (pss_one (ps_ret (pv 1))))), ?_⟩
    refine ⟨_, rfl, _, _, rfl, rfl, _, rfl, fun c0 ec0 => ?_⟩
    refine ⟨fun m σ' H' => H = H' ∧ ∃ c : Nat, σ' = [some (.int (n : Int)), some (.int (c : Int))] ∧ m = P - c ∧ n < c ∧ c ≤ P ∧ ∀ q, Pr q → n < q → c ≤ q, ⟨_, rfl, n + 1, by rw [ec0]; rfl, rfl, by omega, by omega, fun q _ h => h⟩, ?_⟩
    rintro m _ _ ⟨rfl, c, rfl, rfl, nc, cP, hq⟩
    refine ⟨_, rfl, c, rfl, by omega, fun r hr => ⟨_, rfl, iteB (fun z => ?_) (fun z => ?_)⟩⟩
    · have r0 : r ≠ true := fun w => by rw [w] at z; exact Bool.noConfusion z
      have np : ¬ Pr c := fun w => r0 (hr.mpr w)
      refine ⟨fun σ2 H2 => ∃ m', m' < P - c ∧ H = H2 ∧ ∃ c : Nat, σ2 = [some (.int (n : Int)), some (.int (c : Int))] ∧ m' = P - c ∧ n < c ∧ c ≤ P ∧ ∀ q, Pr q → n < q → c ≤ q, fun _ _ h => h, ?_⟩
      have lt : c < P := Nat.lt_of_le_of_ne cP fun w => np (by rw [w]; exact hP)
      refine ⟨_, rfl, _, _, rfl, rfl, _, rfl, fun e ee => ⟨P - (c + 1), by omega, rfl, c + 1, by rw [ee]; rfl, rfl, by omega, by omega, fun q h1 h2 => ?_⟩⟩
      have := hq q h1 h2
      have : q ≠ c := fun w => np (by rw [← w]; exact h1)
      omega
    · have r1 : r = true := by
        cases r
        · exact Bool.noConfusion z
        · rfl
      exact ⟨_, rfl, q c (hr.mp r1) nc hq⟩

theorem ok__roots_modulo (T : Tx K mg) (O_evaluated : OkF P w K mg base 1 (He.fAd K ("evaluated", none)) ["coefs", "at"] (spEvaB K)) : OkF P w K mg base 2 (He.fAd K ("_roots_modulo", none)) ["coefs", "prime"] (spRtM K) := by
  obtain ⟨_, G_evaluated, b_evaluated, k_evaluated⟩ := O_evaluated
  refine okF_of (d := d__roots_modulo) T.d__roots_modulo rfl sc__roots_modulo (fun _ _ _ _ _ _ us hl => match us, hl with | [_, _], _ => rfl) (fun vs H Q E h => ?_) (fun cdv A outer s H vs Q E hr h => ?_)
  · (obtain ⟨_, _, _, _, rfl, _⟩ := h; rfl)
  · obtain ⟨a, cs, p, k, rfl, hA, lc, p2, p4, q⟩ := h
    refine ⟨_, (pss_cons (ps_set (i := 2) sc__roots_modulo.nd rfl (Or.inr rfl) (pe_lc (own := [("c", 3)]) (g := gName 3) rfl sc__roots_modulo.nd (pi_tup (pv 0)) (blkOk_by (own := [("c", 3)]) (N := N__roots_modulo) (sc := defScope s__roots_modulo) (by decide +kernel)) (fun _ _ _ _ _ => (pg_name (i := 3) sc__roots_modulo.nd rfl (Or.inl rfl))) (fun _ _ _ _ _ => pts_nil) (fun _ _ _ _ _ => (pe_op op_mod (pv 3) (pv 1)))))
      (pss_one (ps_ret (pe_lc (own := [("residue", 4)]) (g := gName 4) rfl sc__roots_modulo.nd (pi_range1 rfl T.z_range (pa_cons (pv 1) pa_nil)) (blkOk_by (own := [("residue", 4)]) (N := N__roots_modulo) (sc := defScope s__roots_modulo) (by decide +kernel)) (fun _ _ _ _ _ => (pg_name (i := 4) sc__roots_modulo.nd rfl (Or.inl rfl))) (fun _ _ _ _ _ => (pts_one (pt_cmpR op_eq (pe_op op_mod (pe_call G_evaluated (hr.mono (by decide)) (by rfl) T.g_evaluated k_evaluated b_evaluated .nil passL (pa_cons (pv 2) (pa_cons (pv 4) pa_nil))) (pv 1)) pe_int (nomark _)))) (fun _ _ _ _ _ => (pv 4)))))), ?_⟩
    refine ⟨_, rfl, _, rfl, ⟨_, hA⟩, fun D nD => lc_tup (K := K) (a := a) (xs := cs.map V.int) (fun i HL => Same H HL ∧ HL D = some (.lst (((cs.map fun x => x % (p : Int)).take i).map V.int))) ⟨sm_new nD, by rw [upd_same]; rfl⟩ (fun i HL hi hP => sm_tup hP.1 hA) (fun i y HL hi hP => ?_) (fun HA hP => ?_)⟩
    · obtain ⟨sm, hD⟩ := hP
      obtain ⟨u, hu, rfl⟩ := get_map_int hi
      have hll := (List.getElem?_eq_some_iff.mp hu).1
      refine ⟨rfl, ?_⟩
      unfold tYes
      refine iteK rfl ?_
      refine ⟨_, rfl, _, rfl, _, _, rfl, rfl, (show (0 : Int) < p by omega), _, hD, ?_, same_mut sm nD, ?_⟩
      · rw [len_map, List.length_take, List.length_map]; exact small1000 (by omega)
      · rw [upd_same, List.take_succ, List.map_append, List.getElem?_map, hu]; rfl
    obtain ⟨s1, h1⟩ := hP
    rw [List.take_of_length_le (by rw [List.length_map, List.length_map]; exact Nat.le_refl _)] at h1
    have sb : ∀ c ∈ (cs.map fun x => x % (p : Int)), c.natAbs < 2 ^ 12 := fun c hc => by
      obtain ⟨x, _, rfl⟩ := List.mem_map.mp hc
      have := Int.emod_nonneg x (show (p : Int) ≠ 0 by omega)
      have := Int.emod_lt_of_pos x (show (0 : Int) < p by omega)
      show (x % (p : Int)).natAbs < 2 ^ 12
      omega
    have cong : ∀ x : Int, (evL x (cs.map fun x => x % (p : Int)) % (p : Int) = 0) ↔ (p : Int) ∣ evL x cs := fun x => by
      have z := evL_mod (m := (p : Int)) (x := x) (cs := cs) (ds := cs.map fun x => x % (p : Int)) (by rw [List.length_map]) fun i => by
        rw [getD_map (f := fun x => x % (p : Int)) (by simp)]
        exact mod_sub_dvd p _
      constructor
      · intro h
        have := Int.dvd_add z (Int.dvd_of_emod_eq_zero h)
        rwa [Int.sub_add_cancel] at this
      · intro h
        refine Int.emod_eq_zero_of_dvd ?_
        have := Int.dvd_sub h z
        have e : evL x cs - (evL x cs - evL x (cs.map fun x => x % (p : Int))) = evL x (cs.map fun x => x % (p : Int)) := by omega
        rwa [e] at this
    obtain ⟨fl, efl⟩ : ∃ fl : Nat → List Int, fl = fun i => ((List.range i).filter fun r : Nat => decide ((p : Int) ∣ evL (r : Int) cs)).map fun r : Nat => (r : Int) := ⟨_, rfl⟩
    have fll : ∀ i, (fl i).length ≤ i := fun i => by
      rw [efl, List.length_map]
      have := List.length_filter_le (fun r : Nat => decide ((p : Int) ∣ evL (r : Int) cs)) (List.range i)
      rw [List.length_range] at this
      exact this
    have fls : ∀ i, fl (i + 1) = fl i ++ (if (p : Int) ∣ evL (i : Int) cs then [(i : Int)] else []) := fun i => by
      rw [efl]
      show ((List.range (i + 1)).filter _).map _ = ((List.range i).filter _).map _ ++ _
      rw [List.range_succ, List.filter_append, List.map_append]
      congr 1
      by_cases c : (p : Int) ∣ evL (i : Int) cs
      · rw [if_pos c]
        simp [c]
      · rw [if_neg c]
        simp [c]
    refine ⟨_, rfl, _, rfl, by omega, by omega, fun D2 nD2 => lc_range (lo := 0) (n := p) (fun i HL => Same HA HL ∧ HL D2 = some (.lst ((fl i).map V.int))) ⟨sm_new nD2, by rw [upd_same, efl]; rfl⟩ (fun i HL hi hP => ?_) (fun HB hP => ?_)⟩
    · obtain ⟨sm, hD⟩ := hP
      have ib : (0 + (i : Int)).natAbs < 2 ^ 12 := by omega
      have i0 : (0 + (i : Int)) = (i : Int) := by omega
      have fi := fll i
      have fs := fls i
      refine ⟨rfl, ?_⟩
      refine ⟨_, rfl, _, rfl, D, _, _, 12, 12, rfl, .inl (SqL.of (sm _ _ h1)), sb, ib, by rw [List.length_map]; omega, _, rfl, _, _, rfl, rfl, (show (0 : Int) < p by omega), rfl, _, rfl, iteEq (fun c => ?_) (fun c => ?_)⟩
      · rw [i0] at c
        rw [if_pos ((cong _).mp c)] at fs
        refine ⟨_, rfl, _, hD, ?_, same_mut sm nD2, ?_⟩
        · rw [len_map]; exact rs_line (by omega)
        · rw [upd_same, fs, List.map_append, i0]
          rfl
      · rw [i0] at c
        rw [if_neg (fun w => c ((cong _).mpr w)), List.append_nil] at fs
        exact ⟨sm, by rw [fs]; exact hD⟩
    obtain ⟨s2, h2⟩ := hP
    have np : H D2 = none := s1.free nD2
    exact q D2 HB (s1.trans s2) np (by rw [h2, efl]; rfl)

theorem ok__prime_with_simple_roots (T : Tx K mg) (O_derivative : OkF P w K mg base 1 (He.fAd K ("derivative", none)) ["coefs"] (spDer K)) (O_next_prime : OkF P w K mg base 2 (He.fAd K ("next_prime", none)) ["number"] (spNxP K)) (O__roots_modulo : OkF P w K mg base 2 (He.fAd K ("_roots_modulo", none)) ["coefs", "prime"] (spRtM K)) (O_evaluated : OkF P w K mg base 1 (He.fAd K ("evaluated", none)) ["coefs", "at"] (spEvaB K)) : OkF P w K mg base 3 (He.fAd K ("_prime_with_simple_roots", none)) ["coefs"] (spPwS K) := by
  obtain ⟨_, G_derivative, b_derivative, k_derivative⟩ := O_derivative
  obtain ⟨_, G_next_prime, b_next_prime, k_next_prime⟩ := O_next_prime
  obtain ⟨_, G__roots_modulo, b__roots_modulo, k__roots_modulo⟩ := O__roots_modulo
  obtain ⟨_, G_evaluated, b_evaluated, k_evaluated⟩ := O_evaluated
  refine okF_of (d := d__prime_with_simple_roots) T.d__prime_with_simple_roots rfl sc__prime_with_simple_roots (fun _ _ _ _ _ _ us hl => match us, hl with | [_], _ => rfl) (fun vs H Q E h => ?_) (fun cdv A outer s H vs Q E hr h => ?_)
  · (obtain ⟨_, _, _, _, rfl, _⟩ := h; rfl)
  · obtain ⟨a, cs, k, R, rfl, hA, l1, l8, bk, hk, R0, RD, RB, bad, q⟩ := h
    obtain ⟨gd, gm, gR⟩ := prsL_some R0 RB
    have g36 := prsL_top gm
    have gp := (prsL_pr gm).1
    have g53 := (prsL_pr gm).2.1
    refine ⟨_, (pss_cons (ps_set (i := 1) sc__prime_with_simple_roots.nd rfl (Or.inr rfl) (pe_call G_derivative (hr.mono (by decide)) (by rfl) T.g_derivative k_derivative b_derivative .nil passL (pa_cons (pv 0) pa_nil)))
      (pss_cons (ps_setI (i := 2) sc__prime_with_simple_roots.nd rfl (Or.inl rfl) (pe_op op_sub (pe_callB call_len_seq (by rfl) T.z_len PySem.boot_len (pa_cons (pv 0) pa_nil)) pe_int))
      (pss_cons (ps_setI (i := 3) sc__prime_with_simple_roots.nd rfl (Or.inr rfl) (pe_call G_next_prime (hr.mono (by decide)) (by rfl) T.g_next_prime k_next_prime b_next_prime .nil passL (pa_cons (pe_op op_mulW (pv 2) (pe_callB (call_min2 rfl) (by rfl) T.z_min (by decide +kernel) (pa_cons (pv 2) (pa_cons pe_int pa_nil)))) pa_nil)))
      (pss_one (ps_while PassesOwn.leaving (pt_val pe_bl) (pss_cons (ps_set (i := 4) sc__prime_with_simple_roots.nd rfl (Or.inl rfl) (pe_call G__roots_modulo (hr.mono (by decide)) (by rfl) T.g__roots_modulo k__roots_modulo b__roots_modulo .nil passL (pa_cons (pv 0) (pa_cons (pv 3) pa_nil))))
      (pss_cons (ps_if (pt_cmpR op_gt (pe_callBK (cr_minD rfl hr.units) (by rfl) T.z_min (by decide +kernel) (pa_cons (pe_lc (own := [("residue", 5)]) (g := gName 5) rfl sc__prime_with_simple_roots.nd (pi_list (pv 4)) (blkOk_by (own := [("residue", 5)]) (N := N__prime_with_simple_roots) (sc := defScope s__prime_with_simple_roots) (by decide +kernel)) (fun _ _ _ _ _ => (pg_name (i := 5) sc__prime_with_simple_roots.nd rfl (Or.inl rfl))) (fun _ _ _ _ _ => pts_nil) (fun _ _ _ _ _ => (pe_op op_mod (pe_call G_evaluated (hr.mono (by decide)) (by rfl) T.g_evaluated k_evaluated b_evaluated .nil passL (pa_cons (pv 1) (pa_cons (pv 5) pa_nil))) (pv 3)))) pa_nil) (pk_cons pe_int pk_nil)) pe_int (nomark _)) (pss_one (ps_ret (pe_tup (pa_cons (pv 3) (pa_cons (pv 4) pa_nil))))) pss_nil)
      (pss_one (ps_setI (i := 3) sc__prime_with_simple_roots.nd rfl (Or.inr rfl) (pe_call G_next_prime (hr.mono (by decide)) (by rfl) T.g_next_prime k_next_prime b_next_prime .nil passL (pa_cons (pv 3) pa_nil))))))))))), ?_⟩
    refine ⟨_, rfl, a, cs, k, rfl, hA, by omega, bk, by omega, fun ps H1 s1 nps hps => ?_⟩
    refine ⟨_, rfl, _, _, rfl, .inr (sm_tup s1 hA), _, _, rfl, rfl, _, rfl, fun dg edg => ?_⟩
    rw [len_map] at edg
    obtain ⟨n0, hn0, n49⟩ : ∃ n0 : Nat, dg * (if (40 : Int) < dg then 40 else dg) = (n0 : Int) ∧ n0 ≤ 64 := by
      refine ⟨(cs.length - 1) * (cs.length - 1), ?_, ?_⟩
      · have : dg = ((cs.length - 1 : Nat) : Int) := by omega
        rw [this, if_neg (by omega)]
        rfl
      · exact Nat.mul_le_mul (show cs.length - 1 ≤ 8 by omega) (show cs.length - 1 ≤ 8 by omega)
    refine ⟨_, rfl, _, rfl, _, _, rfl, _, _, rfl, rfl, mulW (a := 4) (b := 6) (by omega) (by split <;> omega) (by decide), n0, by rw [← hn0]; rfl, ⟨67, pr67, by omega, by decide⟩, fun p0 hp0 np0 mp0 => ?_⟩
    have p053 := mp0 67 pr67 (by omega)
    have gd67 : 67 ≤ gd := Decidable.byContradiction fun z => gR (Nat.dvd_trans (pr_low gp g53 (by omega)) RD)
    refine ⟨_, rfl, fun pi0 ep0 => ?_⟩
    have bd := bits_derL bk (show cs.length ≤ 400 by omega)
    refine ⟨fun m σ' H' => ∃ (p : Nat) (y4 : Option V), σ' = [some (.ref a), some (.ref ps), some (.int dg), some (.int (p : Int)), y4, none] ∧ m = 3600 - p ∧ Same H1 H' ∧ Pr p ∧ p ≤ gd ∧ ∀ q, Pr q → 53 ≤ q → q < p → q ∣ R, ⟨_, p0, none, by rw [ep0]; rfl, rfl, fun _ _ e => e, hp0, by omega, fun q hq h1 h2 => Nat.dvd_trans (pr_low hq h1 (by omega)) RD⟩, ?_⟩
    rintro m _ H2 ⟨p, y4, rfl, rfl, sm, hp, pg, hb⟩
    refine ⟨_, rfl, iteK rfl ?_⟩
    refine ⟨fun σ2 H3 => ∃ m', m' < 3600 - p ∧ ∃ (p : Nat) (y4 : Option V), σ2 = [some (.ref a), some (.ref ps), some (.int dg), some (.int (p : Int)), y4, none] ∧ m' = 3600 - p ∧ Same H1 H3 ∧ Pr p ∧ p ≤ gd ∧ ∀ q, Pr q → 53 ≤ q → q < p → q ∣ R, fun _ _ h => h, ?_⟩
    have p2 := hp.two
    refine ⟨_, rfl, _, rfl, a, cs, p, 0, rfl, sm_tup (s1.trans sm) hA, by omega, p2, by omega, fun pr H3 s3 npr hpr => ?_⟩
    have sm3 := sm.trans s3
    -- the slopes at the residues
    have rl := rsL_len p cs
    have rb : ∀ x ∈ rsL p cs, x.natAbs < 2 ^ 12 := fun x hx => by have := mem_rsL.mp hx; omega
    refine ⟨_, rfl, _, rfl, ⟨_, SqL.of hpr⟩, fun D nD => lc_list (K := K) (a := pr) (xs := (rsL p cs).map V.int) (fun i HL => Same H3 HL ∧ HL D = some (.lst ((((rsL p cs).map fun x => evL x (derL cs) % (p : Int)).take i).map V.int))) ⟨sm_new nD, by rw [upd_same]; rfl⟩ (fun i HL hi hP => hP.1.seq (SqL.of hpr)) (fun i y HL hi hP => ?_) (fun H4 hP => ?_)⟩
    · obtain ⟨smL, hD⟩ := hP
      obtain ⟨u, hu, rfl⟩ := get_map_int hi
      have hll := (List.getElem?_eq_some_iff.mp hu).1
      refine ⟨rfl, ?_⟩
      unfold tYes
      refine iteK rfl ?_
      refine ⟨_, rfl, _, rfl, ps, derL cs, _, k + 9, 12, rfl, .inl ((sm3.trans smL).seq (SqL.of hps)), bd.all, rb u (List.mem_of_getElem? hu), by rw [derL_len]; omega, _, rfl, _, _, rfl, rfl, (show (0 : Int) < p by omega), _, hD, ?_, same_mut smL nD, ?_⟩
      · rw [len_map, List.length_take, List.length_map]; exact rs_line (by omega)
      · rw [upd_same, List.take_succ, List.map_append, List.getElem?_map, hu]; rfl
    obtain ⟨s4, h4⟩ := hP
    rw [List.take_of_length_le (by rw [List.length_map, List.length_map]; exact Nat.le_refl _)] at h4
    have sm4 := sm3.trans s4
    have hpr4 := s4 _ _ hpr
    -- a good prime, or the next one
    have good : (∀ r ∈ rsL p cs, ¬ (p : Int) ∣ evL r (derL cs)) → ∀ H5, Same H4 H5 → ∀ t, H5 t = none → Q (.ref t) (upd H5 t (.tup [.int (p : Int), .ref pr])) := fun hg H5 s5 t nt =>
      q t _ p pr ((s1.trans sm4).trans (s5.trans (sm_new nt))) upd_same ((s5.trans (sm_new nt)) _ _ hpr4) hp (by omega) hg
    refine ⟨D, _, 1, rfl, rfl, SqL.of h4, fun e => ?_, fun v hv hv2 => ?_⟩
    · -- none at all
      have e2 : rsL p cs = [] := by simpa using e
      refine ⟨_, _, rfl, rfl, _, rfl, iteK (by decide) ?_⟩
      refine ⟨_, rfl, _, rfl, by show 2 ≤ sizeLine; decide, fun t nt => ?_⟩
      exact good (fun r hr => by rw [e2] at hr; cases hr) H4 (fun _ _ e => e) t nt
    · obtain ⟨r0, hr0, ev⟩ := List.mem_map.mp hv
      have v0 : 0 ≤ v := by rw [← ev]; exact Int.emod_nonneg _ (by omega)
      refine ⟨_, _, rfl, rfl, _, rfl, iteD (fun c => ?_) (fun c => ?_)⟩
      · refine ⟨_, rfl, _, rfl, by show 2 ≤ sizeLine; decide, fun t nt => ?_⟩
        refine good (fun r hr d => ?_) H4 (fun _ _ e => e) t nt
        have := hv2 _ (List.mem_map.mpr ⟨r, hr, rfl⟩)
        rw [Int.emod_eq_zero_of_dvd d] at this
        omega
      · have vz : v = 0 := by omega
        have dv : (p : Int) ∣ evL r0 (derL cs) := Int.dvd_of_emod_eq_zero (by rw [ev, vz])
        have pR := bad p r0 hp (mem_rsL.mp hr0).2.2 dv
        have lt : p < gd := Nat.lt_of_le_of_ne pg fun w => gR (by rw [← w]; exact pR)
        refine ⟨_, rfl, p, rfl, ⟨3607, pr3607, by omega, by decide⟩, fun p' hp' lp' mp' => ⟨_, rfl, fun pi epi => ?_⟩⟩
        refine ⟨3600 - p', ?_, p', _, by rw [epi]; rfl, rfl, sm4, hp', mp' gd gp lt, fun q hq h1 h2 => ?_⟩
        · omega
        · by_cases z : q = p
          · rw [z]; exact pR
          · by_cases y : q < p
            · exact hb q hq h1 y
            · have := mp' q hq (by omega)
              omega

theorem ok_value_modulo (T : Tx K mg) : OkF P w K mg base 1 (He.fAd K ("value_modulo", none)) ["coefs", "at", "modulus"] (spVMo K) := by
  refine okF_of (d := d_value_modulo) T.d_value_modulo rfl sc_value_modulo (fun _ _ _ _ _ _ us hl => match us, hl with | [_, _, _], _ => rfl) (fun vs H Q E h => ?_) (fun cdv A outer s H vs Q E hr h => ?_)
  · (obtain ⟨_, _, _, _, _, rfl, _⟩ := h; rfl)
  · obtain ⟨a, cs, x, m, j, rfl, hS, hx, m0, hm, hj, q⟩ := h
    rcases hS with hS | hS
    · refine ⟨_, (pss_cons (ps_setI (i := 3) sc_value_modulo.nd rfl (Or.inl rfl) pe_int)
      (pss_cons (ps_for PassesOwn.leaving rfl (RT.pi_revA (by rfl) T.z_reversed (pv 0)) (pg_name (i := 4) sc_value_modulo.nd rfl (Or.inl rfl)) (pss_one (ps_setI (i := 3) sc_value_modulo.nd rfl (Or.inl rfl) (pe_op op_mod (pe_op op_add (pe_op op_mulW (pv 3) (pv 1)) (pv 4)) (pv 2)))))
      (pss_one (ps_ret (pv 3))))), ?_⟩
      refine ⟨_, rfl, fun t0 et => ?_⟩
      refine ⟨_, rfl, _, _, rfl, .inl ⟨hS, RT.for_Itv (K := K) (a := a) (xs := cs.map V.int) (fun i σ' H' => H = H' ∧ ∃ (t : Int) (y : Option V), σ' = [some (.ref a), some (.int x), some (.int m), some (.int t), y] ∧ 0 ≤ t ∧ t < m ∧ m ∣ t - evL x (cs.drop (cs.length - i)))
        ⟨rfl, t0, none, rfl, by omega, by omega, by rw [et, Nat.sub_zero, List.drop_length]; exact ⟨0, by show 0 - 0 = m * 0; simp⟩⟩ (fun i σ' H' hI => ?_) (fun i y σ' H' hlt hi hI => ?_) (fun σ' H' hI => ?_)⟩⟩
      · obtain ⟨rfl, t, y, rfl, ht⟩ := hI
        exact hS
      · obtain ⟨rfl, t, y0, rfl, t1, t2, ht⟩ := hI
        rw [len_map] at hlt hi
        obtain ⟨c, hc, rfl⟩ : ∃ c, cs[cs.length - 1 - i]? = some c ∧ y = V.int c := by
          rw [List.getElem?_map] at hi
          cases e : cs[cs.length - 1 - i]? with
          | none => rw [e] at hi; cases hi
          | some u => rw [e] at hi; cases hi; exact ⟨u, rfl, rfl⟩
        have tb : t.natAbs < 2 ^ j := by omega
        refine ⟨_, rfl, _, rfl, _, _, rfl, rfl, mulW tb hx (by omega), _, rfl, _, _, rfl, rfl, _, rfl, _, _, rfl, rfl, (show (0 : Int) < m by omega), _, rfl, fun t2 e2 => ?_⟩
        refine ⟨rfl, t2, _, rfl, by rw [e2]; exact Int.emod_nonneg _ (by omega), by rw [e2]; exact Int.emod_lt_of_pos _ (by omega), ?_⟩
        rw [drop_rev hc hlt]
        obtain ⟨u, hu⟩ := ht
        have := Int.emod_add_mul_ediv (t * x + c) m
        have hd : evL x (c :: cs.drop (cs.length - i)) = evL x (cs.drop (cs.length - i)) * x + c := rfl
        rw [hd, e2]
        refine ⟨u * x - (t * x + c) / m, ?_⟩
        have h3 : evL x (cs.drop (cs.length - i)) = t - m * u := by omega
        rw [h3, Int.sub_mul, Int.mul_sub, ← Int.mul_assoc]
        omega
      · obtain ⟨rfl, t, y, rfl, t1, t2, ht⟩ := hI
        rw [len_map, Nat.sub_self, List.drop_zero] at ht
        exact ⟨_, rfl, q t t1 t2 ht⟩
    · refine ⟨_, (pss_cons (ps_setI (i := 3) sc_value_modulo.nd rfl (Or.inl rfl) pe_int)
      (pss_cons (ps_for PassesOwn.leaving rfl (RT.pi_revA (by rfl) T.z_reversed (pv 0)) (pg_name (i := 4) sc_value_modulo.nd rfl (Or.inl rfl)) (pss_one (ps_setI (i := 3) sc_value_modulo.nd rfl (Or.inl rfl) (pe_op op_mod (pe_op op_add (pe_op op_mulW (pv 3) (pv 1)) (pv 4)) (pv 2)))))
      (pss_one (ps_ret (pv 3))))), ?_⟩
      refine ⟨_, rfl, fun t0 et => ?_⟩
      refine ⟨_, rfl, _, _, rfl, .inr ⟨hS, RT.for_ItvT (K := K) (a := a) (xs := cs.map V.int) (fun i σ' H' => H = H' ∧ ∃ (t : Int) (y : Option V), σ' = [some (.ref a), some (.int x), some (.int m), some (.int t), y] ∧ 0 ≤ t ∧ t < m ∧ m ∣ t - evL x (cs.drop (cs.length - i)))
        ⟨rfl, t0, none, rfl, by omega, by omega, by rw [et, Nat.sub_zero, List.drop_length]; exact ⟨0, by show 0 - 0 = m * 0; simp⟩⟩ (fun i σ' H' hI => ?_) (fun i y σ' H' hlt hi hI => ?_) (fun σ' H' hI => ?_)⟩⟩
      · obtain ⟨rfl, t, y, rfl, ht⟩ := hI
        exact hS
      · obtain ⟨rfl, t, y0, rfl, t1, t2, ht⟩ := hI
        rw [len_map] at hlt hi
        obtain ⟨c, hc, rfl⟩ : ∃ c, cs[cs.length - 1 - i]? = some c ∧ y = V.int c := by
          rw [List.getElem?_map] at hi
          cases e : cs[cs.length - 1 - i]? with
          | none => rw [e] at hi; cases hi
          | some u => rw [e] at hi; cases hi; exact ⟨u, rfl, rfl⟩
        have tb : t.natAbs < 2 ^ j := by omega
        refine ⟨_, rfl, _, rfl, _, _, rfl, rfl, mulW tb hx (by omega), _, rfl, _, _, rfl, rfl, _, rfl, _, _, rfl, rfl, (show (0 : Int) < m by omega), _, rfl, fun t2 e2 => ?_⟩
        refine ⟨rfl, t2, _, rfl, by rw [e2]; exact Int.emod_nonneg _ (by omega), by rw [e2]; exact Int.emod_lt_of_pos _ (by omega), ?_⟩
        rw [drop_rev hc hlt]
        obtain ⟨u, hu⟩ := ht
        have := Int.emod_add_mul_ediv (t * x + c) m
        have hd : evL x (c :: cs.drop (cs.length - i)) = evL x (cs.drop (cs.length - i)) * x + c := rfl
        rw [hd, e2]
        refine ⟨u * x - (t * x + c) / m, ?_⟩
        have h3 : evL x (cs.drop (cs.length - i)) = t - m * u := by omega
        rw [h3, Int.sub_mul, Int.mul_sub, ← Int.mul_assoc]
        omega
      · obtain ⟨rfl, t, y, rfl, t1, t2, ht⟩ := hI
        rw [len_map, Nat.sub_self, List.drop_zero] at ht
        exact ⟨_, rfl, q t t1 t2 ht⟩

theorem ok__lifted (T : Tx K mg) (O_height : OkF P w K mg base 1 (He.fAd K ("height", none)) ["coefs"] (spHeiB K)) (O_derivative : OkF P w K mg base 1 (He.fAd K ("derivative", none)) ["coefs"] (spDer K)) (O_evaluated : OkF P w K mg base 1 (He.fAd K ("evaluated", none)) ["coefs", "at"] (spEvaB K)) (O_inverse_modulo : OkF P w K mg base 1 (He.fAd K ("inverse_modulo", none)) ["number", "modulus"] (spInv K)) (O_value_modulo : OkF P w K mg base 1 (He.fAd K ("value_modulo", none)) ["coefs", "at", "modulus"] (spVMo K)) : OkF P w K mg base 2 (He.fAd K ("_lifted", none)) ["coefs", "residue", "prime"] (spLft K) := by
  obtain ⟨_, G_height, b_height, k_height⟩ := O_height
  obtain ⟨_, G_derivative, b_derivative, k_derivative⟩ := O_derivative
  obtain ⟨_, G_evaluated, b_evaluated, k_evaluated⟩ := O_evaluated
  obtain ⟨_, G_inverse_modulo, b_inverse_modulo, k_inverse_modulo⟩ := O_inverse_modulo
  obtain ⟨_, G_value_modulo, b_value_modulo, k_value_modulo⟩ := O_value_modulo
  refine okF_of (d := d__lifted) T.d__lifted rfl sc__lifted (fun _ _ _ _ _ _ us hl => match us, hl with | [_, _, _], _ => rfl) (fun vs H Q E h => ?_) (fun cdv A outer s H vs Q E hr h => ?_)
  · (obtain ⟨_, _, _, _, _, _, rfl, _⟩ := h; rfl)
  · obtain ⟨a, cs, res, p, k, _, rfl, hA, bk, hk, l2, l400, lt, hp, p4, r0, r1, pf, pd, q⟩ := h
    refine ⟨_, (pss_cons (ps_setI (i := 3) sc__lifted.nd rfl (Or.inl rfl) (pe_op op_add (pe_op op_fdivW (pe_call G_height (hr.mono (by decide)) (by rfl) T.g_height k_height b_height .nil passL (pa_cons (pv 0) pa_nil)) (pe_callB call_abs (by rfl) T.z_abs (by decide +kernel) (pa_cons (pe_ix ix_tup (pv 0) (pe_un un_neg pe_int) (fun _ _ => rfl)) pa_nil))) pe_int))
      (pss_cons (ps_set (i := 4) sc__lifted.nd rfl (Or.inl rfl) (pe_call G_derivative (hr.mono (by decide)) (by rfl) T.g_derivative k_derivative b_derivative .nil passL (pa_cons (pv 0) pa_nil)))
      (pss_cons (ps_setI (i := 5) sc__lifted.nd rfl (Or.inl rfl) (pv 1))
      (pss_cons (ps_setI (i := 6) sc__lifted.nd rfl (Or.inl rfl) (pv 2))
      (pss_cons (ps_setI (i := 7) sc__lifted.nd rfl (Or.inl rfl) (pe_call G_inverse_modulo (hr.mono (by decide)) (by rfl) T.g_inverse_modulo k_inverse_modulo b_inverse_modulo .nil passL (pa_cons (pe_call G_evaluated (hr.mono (by decide)) (by rfl) T.g_evaluated k_evaluated b_evaluated .nil passL (pa_cons (pv 4) (pa_cons (pv 5) pa_nil))) (pa_cons (pv 2) pa_nil))))
      (pss_cons (ps_while PassesOwn.leaving (pt_cmpR op_le (pv 6) (pe_op op_mulW pe_int (pv 3)) (nomark _)) (pss_cons (ps_setI (i := 6) sc__lifted.nd rfl (Or.inl rfl) (pe_op op_mulW (pv 6) (pv 6)))
      (pss_cons (ps_setI (i := 5) sc__lifted.nd rfl (Or.inl rfl) (pe_op op_mod (pe_op op_sub (pv 5) (pe_op op_mulW (pe_call G_value_modulo (hr.mono (by decide)) (by rfl) T.g_value_modulo k_value_modulo b_value_modulo .nil passL (pa_cons (pv 0) (pa_cons (pv 5) (pa_cons (pv 6) pa_nil)))) (pv 7))) (pv 6)))
      (pss_one (ps_setI (i := 7) sc__lifted.nd rfl (Or.inl rfl) (pe_op op_mod (pe_op op_mulW (pv 7) (pe_op op_sub pe_int (pe_op op_mulW (pe_call G_value_modulo (hr.mono (by decide)) (by rfl) T.g_value_modulo k_value_modulo b_value_modulo .nil passL (pa_cons (pv 4) (pa_cons (pv 5) (pa_cons (pv 6) pa_nil)))) (pv 7)))) (pv 6)))))))
      (pss_one (ps_ret (pe_ifExp (pt_cmpR op_lt (pe_op op_mulW pe_int (pv 5)) (pv 6) (nomark _)) (pv 5) (pe_op op_sub (pv 5) (pv 6))))))))))), ?_⟩
    have p2 := hp.two
    have ll : cs.length - 1 < cs.length := by omega
    refine ⟨_, rfl, a, cs, rfl, .inr hA, by omega, fun h H1 s1 hh hb => ?_⟩
    have hk2 := hb k bk.all
    have lb := bk.getD (cs.length - 1)
    refine ⟨_, rfl, _, rfl, _, _, _, _, rfl, rfl, sm_tup s1 hA, at_last (by rw [len_map]; exact map_at (get_of_lt ll)), _, rfl, _, _, rfl, rfl, divW (b := k) (by rw [abs_ite]; omega) (by rw [abs_ite, Int.natAbs_natCast]; exact lb) (by omega), _, _, rfl, rfl, _, rfl, fun bd ebd => ?_⟩
    rw [abs_ite] at ebd
    obtain ⟨B, hB, eB⟩ : ∃ B : Nat, bd = (B : Int) ∧ B = h / (cs.getD (cs.length - 1) 0).natAbs + 1 := ⟨_, by rw [ebd]; rfl, rfl⟩
    subst hB
    have Bk : B ≤ 2 ^ k := by
      have := Nat.div_le_self h (cs.getD (cs.length - 1) 0).natAbs
      omega
    clear ebd
    refine ⟨_, rfl, a, cs, k, rfl, sm_tup s1 hA, l400, bk, by omega, fun ps H2 s2 nps hps => ?_⟩
    have s12 := s1.trans s2
    refine ⟨_, rfl, _, rfl, fun ra era => ?_⟩
    refine ⟨_, rfl, _, rfl, fun ma ema => ?_⟩
    have bd9 := bits_derL bk l400
    have pk : (2 : Nat) ^ (2 * k + 20) = 2 ^ k * 2 ^ k * 2 ^ 20 := by rw [Nat.pow_add, Nat.two_mul, Nat.pow_add]
    have k1 : 1 ≤ 2 ^ k := Nat.pow_pos (by decide)
    have kk1 : 1 ≤ 2 ^ k * 2 ^ k := Nat.mul_pos k1 k1
    have big : 4000 ≤ 2 ^ (2 * k + 20) := by rw [pk]; omega
    have rb : ra.natAbs < 2 ^ 12 := by rw [era]; omega
    refine ⟨_, rfl, _, rfl, ps, derL cs, _, k + 9, 12, rfl, .inl (SqL.of hps), bd9.all, rb, by rw [derL_len]; omega, _, rfl, evL ra (derL cs), p, by rfl, hp, by omega, by rw [era]; exact pd, fun v00 H3 s3 va0 va1 dva => ⟨_, rfl, fun va eva => ?_⟩⟩
    have s13 := s12.trans s3
    have start : LfI cs p res (2 * k + 20) ma ra va := by
      have fe := evL_f res (show 1 ≤ cs.length by omega)
      refine ⟨⟨by omega, by omega, by omega, by rw [ema, era, ← fe]; exact pf, ?_⟩, by omega, by omega, by rw [ema, Int.natAbs_natCast]; omega, by rw [ema]; exact Int.dvd_refl _, by rw [era, Int.sub_self]; exact Int.dvd_zero _, fun z _ hz => by rw [ema, era]; exact hz⟩
      rw [ema, eva, ← evL_der]
      exact dva
    refine ⟨fun t σ' H' => ∃ m r v : Int, σ' = [some (.ref a), some (.int res), some (.int (p : Int)), some (.int (B : Int)), some (.ref ps), some (.int r), some (.int m), some (.int v)] ∧ t = (2 * (B : Int) + 1 - m).toNat ∧ Same H2 H' ∧ LfI cs p res (2 * k + 20) m r v, ⟨_, ma, ra, va, rfl, rfl, s3, start⟩, ?_⟩
    clear start
    rintro t _ H4 ⟨m, r, v, rfl, rfl, sm, I⟩
    have L := I.L
    have m2 := L.m2
    have Lr0 := L.r0
    have Lr1 := L.r1
    have v0 := I.v0
    have v1 := I.v1
    have mb := I.mb
    have Bb : ((B : Nat) : Int).natAbs < 2 ^ (k + 1) := by rw [Int.natAbs_natCast, Nat.pow_succ]; omega
    refine ⟨_, rfl, _, rfl, _, _, rfl, rfl, mulW (a := 2) (by decide) Bb (by omega), _, _, rfl, rfl, _, rfl, iteD (fun c => ?_) (fun c => ?_)⟩
    · refine ⟨fun σ2 H5 => ∃ t', t' < (2 * (B : Int) + 1 - m).toNat ∧ ∃ m r v : Int, σ2 = [some (.ref a), some (.int res), some (.int (p : Int)), some (.int (B : Int)), some (.ref ps), some (.int r), some (.int m), some (.int v)] ∧ t' = (2 * (B : Int) + 1 - m).toNat ∧ Same H2 H5 ∧ LfI cs p res (2 * k + 20) m r v, fun _ _ h => h, ?_⟩
      have mB : m.natAbs ≤ 2 * 2 ^ k := by omega
      have Mb : (m * m).natAbs < 2 ^ (2 * k + 20) := by
        rw [Int.natAbs_mul, pk]
        have := Nat.mul_le_mul mB mB
        have e : 2 * 2 ^ k * (2 * 2 ^ k) = 4 * (2 ^ k * 2 ^ k) := by grind
        omega
      have M1 : m * 2 ≤ m * m := Int.mul_le_mul_of_nonneg_left m2 (by omega)
      refine ⟨_, rfl, _, rfl, _, _, rfl, rfl, mulW mb mb (by omega), _, rfl, fun M eM => ?_⟩
      rw [← eM] at Mb M1
      have rb2 : r.natAbs < 2 ^ (2 * k + 20) := by omega
      have vb2 : v.natAbs < 2 ^ (2 * k + 20) := by omega
      have M0 : 0 < M := by omega
      refine ⟨_, rfl, _, rfl, _, rfl, _, rfl, a, cs, r, M, 2 * k + 20, rfl, .inr (sm_tup (s12.trans sm) hA), rb2, M0, Mb, by omega, fun F F0 F1 dF => ?_⟩
      have Fb : F.natAbs < 2 ^ (2 * k + 20) := by omega
      refine ⟨_, rfl, _, _, rfl, rfl, mulW Fb vb2 (by omega), _, _, rfl, rfl, _, rfl, _, _, rfl, rfl, M0, _, rfl, fun r2 er2 => ?_⟩
      have r20 : 0 ≤ r2 := by rw [er2]; exact Int.emod_nonneg _ (by omega)
      have r21 : r2 < M := by rw [er2]; exact Int.emod_lt_of_pos _ M0
      have r2b : r2.natAbs < 2 ^ (2 * k + 20) := by omega
      refine ⟨_, rfl, _, rfl, _, rfl, _, rfl, ps, derL cs, r2, M, 2 * k + 20, rfl, .inl (sm.seq (SqL.of hps)), r2b, M0, Mb, by omega, fun G G0 G1 dG => ?_⟩
      have Gb : G.natAbs < 2 ^ (2 * k + 20) := by omega
      have Gv := abs_lt_mul Gb vb2
      have G2 : (2 - G * v).natAbs < 2 ^ (2 * k + 20 + (2 * k + 20) + 2) := by
        have : (2 : Nat) ^ (2 * k + 20 + (2 * k + 20) + 2) = 2 ^ (2 * k + 20 + (2 * k + 20)) * 4 := by rw [Nat.pow_add]
        have : 1 ≤ 2 ^ (2 * k + 20 + (2 * k + 20)) := Nat.pow_pos (by decide)
        omega
      refine ⟨_, rfl, _, _, rfl, rfl, mulW Gb vb2 (by omega), _, _, rfl, rfl, _, _, rfl, rfl, mulW vb2 G2 (by omega), _, rfl, _, _, rfl, rfl, M0, _, rfl, fun v2 ev2 => ?_⟩
      exact ⟨(2 * (B : Int) + 1 - M).toNat, by omega, M, r2, v2, rfl, rfl, sm, I.step (by omega) eM Mb dF er2 dG ev2⟩
    · have fin : ∀ z, evL z cs = 0 → (p : Int) ∣ z - res → z = if 2 * r < m then r else r - m := fun z hz hpz => by
        have cb := cauchy (f := ff cs) (n := cs.length - 1) (H := h) (dgl lt) hh (by rw [← evL_f z (show 1 ≤ cs.length by omega)]; exact hz)
        exact lift_end Lr0 Lr1 (I.zs z hz hpz) (B := B) (by rw [eB]; exact cb) (by omega)
      refine ⟨_, rfl, _, _, rfl, rfl, mulW (a := 2) (by decide) (show r.natAbs < 2 ^ (2 * k + 20) by omega) (by omega), _, rfl, _, _, rfl, rfl, _, rfl, iteD (fun c2 => ?_) (fun c2 => ?_)⟩
      · exact ⟨_, rfl, q r H4 (s12.trans sm) I.pr (fun z hz hpz => by rw [fin z hz hpz, if_pos c2]) (by omega)⟩
      · refine ⟨_, rfl, _, rfl, _, _, rfl, rfl, q _ H4 (s12.trans sm) ?_ (fun z hz hpz => by rw [fin z hz hpz, if_neg c2]) (by omega)⟩
        have := Int.dvd_sub I.pr I.pm
        rwa [show r - res - m = r - m - res by omega] at this

theorem ok__whole_roots (T : Tx K mg) (O_Poly_degree : OkF P w K mg base 1 (gtAd K (He.ga K "Poly") "degree") ["self"] (spPDeg K)) (O_without_multiple_roots : OkF P w K mg base 8 (He.fAd K ("without_multiple_roots", none)) ["p"] (spWMR K)) (O__prime_with_simple_roots : OkF P w K mg base 3 (He.fAd K ("_prime_with_simple_roots", none)) ["coefs"] (spPwS K)) (O__lifted : OkF P w K mg base 2 (He.fAd K ("_lifted", none)) ["coefs", "residue", "prime"] (spLft K)) (O_evaluated : OkF P w K mg base 1 (He.fAd K ("evaluated", none)) ["coefs", "at"] (spEvaB K)) : OkF P w K mg base 9 (He.fAd K ("_whole_roots", none)) ["p"] (spWhR K) := by
  obtain ⟨_, G_Poly_degree, b_Poly_degree, k_Poly_degree⟩ := O_Poly_degree
  obtain ⟨_, G_without_multiple_roots, b_without_multiple_roots, k_without_multiple_roots⟩ := O_without_multiple_roots
  obtain ⟨_, G__prime_with_simple_roots, b__prime_with_simple_roots, k__prime_with_simple_roots⟩ := O__prime_with_simple_roots
  obtain ⟨_, G__lifted, b__lifted, k__lifted⟩ := O__lifted
  obtain ⟨_, G_evaluated, b_evaluated, k_evaluated⟩ := O_evaluated
  refine okF_of (d := d__whole_roots) T.d__whole_roots rfl sc__whole_roots (fun _ _ _ _ _ _ us hl => match us, hl with | [_], _ => rfl) (fun vs H Q E h => ?_) (fun cdv A outer s H vs Q E hr h => ?_)
  · (obtain ⟨_, _, _, _, rfl, _⟩ := h; rfl)
  · obtain ⟨a, ks, e, _, rfl, ha, sk, kne, l8, bk, eb, q⟩ := h
    refine ⟨_, (pss_cons (ps_if (pt_cmpR op_lt (pe_prop (pv 0) T.cls_Poly T.p_Poly_degree G_Poly_degree (hr.mono (by decide)) b_Poly_degree .nil passL rfl) pe_int (nomark _)) (pss_one (ps_ret (pe_lst pa_nil))) pss_nil)
      (pss_cons (ps_set (i := 1) sc__whole_roots.nd rfl (Or.inr rfl) (pe_call G_without_multiple_roots (hr.mono (by decide)) (by rfl) T.g_without_multiple_roots k_without_multiple_roots b_without_multiple_roots .nil passL (pa_cons (pv 0) pa_nil)))
      (pss_cons (ps_asg (pe_call G__prime_with_simple_roots (hr.mono (by decide)) (by rfl) T.g__prime_with_simple_roots k__prime_with_simple_roots b__prime_with_simple_roots .nil passL (pa_cons (pe_fld (pv 1) rfl) pa_nil)) (pg_tup rfl (pgs_cons (pg_name (i := 2) sc__whole_roots.nd rfl (Or.inr rfl)) (pgs_cons (pg_name (i := 3) sc__whole_roots.nd rfl (Or.inl rfl)) pgs_nil))))
      (pss_cons (ps_setLc (i := 4) (own := [("residue", 5)]) (g := gName 5) rfl sc__whole_roots.nd rfl rfl (sw_true rfl rfl rfl (by decide +kernel)) (pi_list (pv 3)) (blkOk_by (own := [("residue", 5)]) (N := N__whole_roots) (sc := defScope s__whole_roots) (by decide +kernel)) (fun _ _ _ _ _ => (pg_name (i := 5) sc__whole_roots.nd rfl (Or.inl rfl))) (fun _ _ _ _ _ => pts_nil) (fun _ _ _ _ _ => (pe_call G__lifted (hr.mono (by decide)) (by rfl) T.g__lifted k__lifted b__lifted .nil passL (pa_cons (pe_fldK (K := K) rfl (pe_fld (pv 1) rfl)) (pa_cons (pv 5) (pa_cons (pv 2) pa_nil))))))
      (pss_one (ps_ret (pe_callB cr_sortedI (by rfl) T.z_sorted (by decide +kernel) (pa_cons (pe_lc (own := [("root", 6)]) (g := gName 6) rfl sc__whole_roots.nd (pi_list (pv 4)) (blkOk_by (own := [("root", 6)]) (N := N__whole_roots) (sc := defScope s__whole_roots) (by decide +kernel)) (fun _ _ _ _ _ => (pg_name (i := 6) sc__whole_roots.nd rfl (Or.inl rfl))) (fun _ _ _ _ _ => (pts_one (pt_cmpR op_eq (pe_call G_evaluated (hr.mono (by decide)) (by rfl) T.g_evaluated k_evaluated b_evaluated .nil passL (pa_cons (pe_fldK (K := K) rfl (pe_fld (pv 1) rfl)) (pa_cons (pv 6) pa_nil))) pe_int (nomark _)))) (fun _ _ _ _ _ => (pv 6))) pa_nil)))))))), ?_⟩
    have kt := sk.last.resolve_left kne
    obtain ⟨da, ta, haa, hta⟩ := id ha
    refine ⟨_, rfl, _, _, _, rfl, haa, _, _, _, rfl, ha, _, _, rfl, rfl, _, rfl, iteD (fun c => ?_) (fun c => ?_)⟩
    · refine ⟨by show 0 ≤ sizeLine; decide, fun p1 np1 => ?_⟩
      exact q p1 _ [] (sm_new np1) np1 upd_same (no_roots (by omega) kt)
    refine ⟨_, rfl, a, ks, e, 0, rfl, ha, sk, by omega, l8, bk, eb, fun ps H1 vs w s1 hs S => ?_⟩
    obtain ⟨R, R0, RD, RB, bad⟩ := S.res
    have l2 := S.l2
    have v8 := S.l8
    have bv := S.bits
    have vt := S.self.last.resolve_left fun z => by rw [z] at l2; exact absurd l2 (by decide)
    obtain ⟨ds, ts, hss, hts⟩ := id hs
    refine ⟨_, rfl, _, _, _, _, _, rfl, hss, T.cls_Poly, T.n_Poly_coefs, rfl, ts, vs, 300, R, rfl, SqT.of hts, by omega, v8, bv, by decide, R0, RD, RB, bad, fun t H2 p pr s2 ht hpr hp p36 good => ?_⟩
    refine ⟨t, _, rfl, SqT.of ht, rfl, _, _, rfl, _, _, rfl, rfl, ?_⟩
    have p2 := hp.two
    have rl := rsL_len p vs
    have hss2 := s2 _ _ hss
    have hts2 := s2 _ _ hts
    -- the lifts
    refine ⟨_, rfl, _, rfl, ⟨_, SqL.of hpr⟩, fun D nD => lc_list (K := K) (a := pr) (xs := (rsL p vs).map V.int) (fun j HL => ∃ LL : List Int, Same H2 HL ∧ HL D = some (.lst (LL.map V.int)) ∧ LL.length = j ∧ LfL vs p (rsL p vs) LL) ⟨[], sm_new nD, upd_same, rfl, ⟨Nat.zero_le _, fun i x r hx => by cases hx⟩⟩ (fun j HL hj hP => ?_) (fun j y HL hj hP => ?_) (fun H3 hP => ?_)⟩
    · obtain ⟨LL, sm, _⟩ := hP
      exact sm.seq (SqL.of hpr)
    · obtain ⟨LL, smL, hD, ll, LF⟩ := hP
      obtain ⟨u, hu, rfl⟩ := get_map_int hj
      have hll := (List.getElem?_eq_some_iff.mp hu).1
      have hm := List.mem_of_getElem? hu
      obtain ⟨u0, u1, ud⟩ := mem_rsL.mp hm
      refine ⟨rfl, ?_⟩
      unfold tYes
      refine iteK rfl ?_
      refine ⟨_, rfl, _, _, _, _, _, rfl, (smL _ _ hss2), T.cls_Poly, T.n_Poly_coefs, rfl, _, rfl, _, rfl, ts, vs, u, p, 300, 0, rfl, SqT.of (smL _ _ hts2), bv, by decide, l2, by omega, vt, hp, by omega, u0, u1, ud, good u hm, fun v HV sv pv uq vb => ?_⟩
      refine ⟨_, sv _ _ hD, ?_, LL ++ [v], same_mut (smL.trans sv) nD, ?_, by rw [List.length_append, ll]; rfl, LF.step (by rw [ll]; exact hu) pv uq vb⟩
      · rw [len_map]; exact rs_line (by omega)
      · rw [upd_same, List.map_append]; rfl
    obtain ⟨LL, s3, h3, ll, LF⟩ := hP
    rw [len_map] at ll
    obtain ⟨nd, cmp⟩ := LF.all (by omega) ll
    have hss3 := s3 _ _ hss2
    have hts3 := s3 _ _ hts2
    -- those that are roots
    refine ⟨_, rfl, _, rfl, ⟨_, SqL.of h3⟩, fun D2 nD2 => lc_list (K := K) (a := D) (xs := LL.map V.int) (fun j HL => Same H3 HL ∧ HL D2 = some (.lst (((LL.take j).filter fun x => decide (evL x vs = 0)).map V.int))) ⟨sm_new nD2, by rw [upd_same]; rfl⟩ (fun j HL hj hP => hP.1.seq (SqL.of h3)) (fun j y HL hj hP => ?_) (fun H4 hP => ?_)⟩
    · obtain ⟨smL, hD⟩ := hP
      obtain ⟨u, hu, rfl⟩ := get_map_int hj
      have hll := (List.getElem?_eq_some_iff.mp hu).1
      have ub := LF.sm (List.mem_of_getElem? hu)
      have fs : (LL.take (j + 1)).filter (fun x => decide (evL x vs = 0)) = (LL.take j).filter (fun x => decide (evL x vs = 0)) ++ (if evL u vs = 0 then [u] else []) := by
        rw [List.take_succ, hu, List.filter_append]
        congr 1
        by_cases z : evL u vs = 0
        · rw [if_pos z]; simp [z]
        · rw [if_neg z]; simp [z]
      have fl : ((LL.take j).filter fun x => decide (evL x vs = 0)).length ≤ LL.length := Nat.le_trans (List.length_filter_le _ _) (by rw [List.length_take]; omega)
      refine ⟨rfl, ?_⟩
      refine ⟨_, rfl, _, _, _, _, _, rfl, (smL _ _ hss3), T.cls_Poly, T.n_Poly_coefs, rfl, _, rfl, ts, vs, u, 300, 620, rfl, .inr (SqT.of (smL _ _ hts3)), bv.all, ub, by omega, rfl, _, rfl, iteEq (fun z => ?_) (fun z => ?_)⟩
      · rw [if_pos z] at fs
        refine ⟨_, rfl, _, hD, ?_, same_mut smL nD2, ?_⟩
        · rw [len_map]; exact rs_line (by omega)
        · rw [upd_same, fs, List.map_append]; rfl
      · rw [if_neg z, List.append_nil] at fs
        exact ⟨smL, by rw [fs]; exact hD⟩
    obtain ⟨s4, h4⟩ := hP
    rw [len_map, List.take_length] at h4
    refine ⟨D2, _, rfl, SqL.of h4, fun ws q1 perm rise nq => ?_⟩
    have sA := ((s1.trans s2).trans s3).trans s4
    refine q q1 _ ws (sA.trans (sm_new nq)) (sA.free nq) upd_same (rt_sorted (nd.filter _) (fun z => ?_) (Nat.lt_of_le_of_lt (List.length_filter_le _ _) (by omega)) perm rise)
    rw [List.mem_filter]
    constructor
    · rintro ⟨_, h2⟩
      exact (S.roots z).mp (of_decide_eq_true h2)
    · intro hz
      have hv := (S.roots z).mpr hz
      exact ⟨cmp z hv, decide_eq_true hv⟩

theorem ok_roots_from (T : Tx K mg) (O__refuse_zero : OkF P w K mg base 3 (He.fAd K ("_refuse_zero", none)) ["p"] (spRefZ K)) (O__whole_roots : OkF P w K mg base 9 (He.fAd K ("_whole_roots", none)) ["p"] (spWhR K)) : OkK P w K mg base 10 (He.fAd K ("roots_from", none)) ["p", "start"] 1 ["start"] (spRtS K) := by
  obtain ⟨_, G__refuse_zero, b__refuse_zero, k__refuse_zero⟩ := O__refuse_zero
  obtain ⟨_, G__whole_roots, b__whole_roots, k__whole_roots⟩ := O__whole_roots
  refine okK_of (d := d_roots_from) (n := 1) (ks := ["start"]) T.d_roots_from rfl sc_roots_from (fun _ _ _ _ _ _ us ws h1 h2 => match us, ws, h1, h2 with | [_], [_], _, _ => rfl) (fun vs H Q E h => ?_) (fun cdv A outer s H vs Q E hr h => ?_)
  · (obtain ⟨_, _, _, _, rfl, _⟩ := h; rfl)
  · obtain ⟨a, ks, e, lo, rfl, ha, hE, hq⟩ := h
    refine ⟨_, (pss_cons (ps_expr (pe_call G__refuse_zero (hr.mono (by decide)) (by rfl) T.g__refuse_zero k__refuse_zero b__refuse_zero .nil (passes_call (takes_of rfl rfl rfl rfl) (fun _ _ _ _ h => h)) (pa_cons (pv 0) pa_nil)))
      (pss_one (ps_ret (pe_lc (own := [("root", 2)]) (g := gName 2) rfl sc_roots_from.nd (pi_list (pe_call G__whole_roots (hr.mono (by decide)) (by rfl) T.g__whole_roots k__whole_roots b__whole_roots .nil passL (pa_cons (pv 0) pa_nil))) (blkOk_by (own := [("root", 2)]) (N := N_roots_from) (sc := defScope s_roots_from) (by decide +kernel)) (fun _ _ _ _ _ => (pg_name (i := 2) sc_roots_from.nd rfl (Or.inl rfl))) (fun _ _ _ _ _ => (pts_one (pt_cmpR op_ge (pv 2) (pv 1) (nomark _)))) (fun _ _ _ _ _ => (pv 2)))))), ?_⟩
    refine ⟨_, rfl, a, ks, e, rfl, ha, fun z => hE z, fun kne => ?_⟩
    obtain ⟨sk, l8, bk, eb, q⟩ := hq kne
    refine ⟨_, rfl, a, ks, e, 0, rfl, ha, sk, kne, l8, bk, eb, fun q1 H1 ws s1 nq hq1 R => ?_⟩
    have wl := R.len
    refine ⟨_, rfl, ⟨_, SqL.of hq1⟩, fun D nD => lc_list (K := K) (a := q1) (xs := ws.map V.int) (fun j HL => Same H1 HL ∧ HL D = some (.lst (((ws.take j).filter (fun x => decide (lo ≤ x))).map V.int))) ⟨sm_new nD, by rw [upd_same]; rfl⟩ (fun j HL hj hP => hP.1.seq (SqL.of hq1)) (fun j y HL hj hP => ?_) (fun H4 hP => ?_)⟩
    · obtain ⟨smL, hD⟩ := hP
      obtain ⟨u, hu, rfl⟩ := get_map_int hj
      have hll := (List.getElem?_eq_some_iff.mp hu).1
      have fs : (ws.take (j + 1)).filter (fun x => decide (lo ≤ x)) = (ws.take j).filter (fun x => decide (lo ≤ x)) ++ (if lo ≤ u then [u] else []) := by
        rw [List.take_succ, hu, List.filter_append]
        congr 1
        by_cases z : lo ≤ u
        · rw [if_pos z]; simp [z]
        · rw [if_neg z]; simp only [Option.toList_some, List.filter_cons, List.filter_nil]; rw [decide_eq_false z]; rfl
      have fl : ((ws.take j).filter (fun x => decide (lo ≤ x))).length ≤ ws.length := Nat.le_trans (List.length_filter_le _ _) (by rw [List.length_take]; omega)
      refine ⟨rfl, ?_⟩
      have yes : lo ≤ u → Same H1 (upd HL D (.lst (((ws.take j).filter (fun x => decide (lo ≤ x))).map V.int ++ [V.int u]))) ∧ (upd HL D (.lst (((ws.take j).filter (fun x => decide (lo ≤ x))).map V.int ++ [V.int u]))) D = some (.lst (((ws.take (j + 1)).filter (fun x => decide (lo ≤ x))).map V.int)) := fun z => ⟨same_mut smL nD, by rw [upd_same, fs, if_pos z, List.map_append]; rfl⟩
      have no : ¬ (lo ≤ u) → Same H1 HL ∧ HL D = some (.lst (((ws.take (j + 1)).filter (fun x => decide (lo ≤ x))).map V.int)) := fun z => ⟨smL, by rw [fs, if_neg z, List.append_nil]; exact hD⟩
      have ln : (((ws.take j).filter (fun x => decide (lo ≤ x))).map V.int).length < sizeLine := by rw [len_map]; exact rs_line (by omega)
      refine ⟨_, rfl, _, rfl, _, _, rfl, rfl, _, rfl, iteD (fun c1 => ?_) (fun c1 => ?_)⟩
      · exact ⟨_, rfl, _, hD, ln, yes c1⟩
      · exact no c1
    obtain ⟨s4, h4⟩ := hP
    rw [len_map, List.take_length] at h4
    exact q D H4 _ (s1.trans s4) (s1.free nD) h4 (R.filt _)

theorem ok_Term___init__ (T : Tx K mg) (O_Fraction_is_zero : OkF P w K mg base 1 (gtAd K (He.ga K "Fraction") "is_zero") ["self"] (spZero K)) (O_Quotient_is_zero : OkF P w K mg base 3 (gtAd K (He.ga K "Quotient") "is_zero") ["self"] (spQuZ K)) (O_roots_from : OkK P w K mg base 10 (He.fAd K ("roots_from", none)) ["p", "start"] 1 ["start"] (spRtS K)) : OkF P w K mg base 12 (He.fAd K ("Term", some "__init__")) ["self", "start", "first", "ratio"] (spTmI K) := by
  obtain ⟨_, G_Fraction_is_zero, b_Fraction_is_zero, k_Fraction_is_zero⟩ := O_Fraction_is_zero
  obtain ⟨_, G_Quotient_is_zero, b_Quotient_is_zero, k_Quotient_is_zero⟩ := O_Quotient_is_zero
  obtain ⟨_, G_roots_from, b_roots_from, k_roots_from⟩ := O_roots_from
  refine okF_of (d := d_Term___init__) T.d_Term___init__ rfl sc_Term___init__ (fun _ _ _ _ _ _ us hl => match us, hl with | [_, _, _, _], _ => rfl) (fun vs H Q E h => ?_) (fun cdv A outer s H vs Q E hr h => ?_)
  · (obtain ⟨_, _, _, _, _, _, _, _, _, _, _, _, rfl, _⟩ := h; rfl)
  · obtain ⟨x, dx, s, f, df, n, d, q, as, a, bs, b, rfl, hx, hf, hq, r, hE, hQ⟩ := h
    refine ⟨_, (pss_cons (ps_if (PW.pt (pw_or (pt_val (pe_prop (pv 2) T.cls_Fraction T.p_Fraction_is_zero G_Fraction_is_zero (hr.mono (by decide)) b_Fraction_is_zero .nil passL rfl)) (pw_or1 (pt_val (pe_prop (pv 3) T.cls_Quotient T.p_Quotient_is_zero G_Quotient_is_zero (hr.mono (by decide)) b_Quotient_is_zero .nil passL rfl))))) (pss_one (ps_raise rfl (takes_of rfl rfl rfl rfl) (pmk_own PySem.F.excBase_ValueError T.x_InvalidTerm T.g_InvalidTerm T.k_InvalidTerm (T.r_InvalidTerm rfl) rfl))) pss_nil)
      (pss_cons (ps_if (PW.pt (pw_or (pt_cmpR op_gt (pe_callB call_len_seq (by rfl) T.z_len PySem.boot_len (pa_cons (pe_callN G_roots_from (hr.mono (by decide)) (by rfl) T.g_roots_from k_roots_from b_roots_from (passes_call (takes_of rfl rfl rfl rfl) (fun _ _ _ _ h => h)) (pa_cons (pe_fld (pv 3) rfl) pa_nil) (pk_cons (pv 1) pk_nil)) pa_nil)) pe_int (nomark _)) (pw_or1 (pt_cmpR op_gt (pe_callB call_len_seq (by rfl) T.z_len PySem.boot_len (pa_cons (pe_callN G_roots_from (hr.mono (by decide)) (by rfl) T.g_roots_from k_roots_from b_roots_from (passes_call (takes_of rfl rfl rfl rfl) (fun _ _ _ _ h => h)) (pa_cons (pe_fld (pv 3) rfl) pa_nil) (pk_cons (pv 1) pk_nil)) pa_nil)) pe_int (nomark _))))) (pss_one (ps_raise rfl (takes_of rfl rfl rfl rfl) (pmk_own PySem.F.excBase_ValueError T.x_InvalidTerm T.g_InvalidTerm T.k_InvalidTerm (T.r_InvalidTerm rfl) rfl))) pss_nil)
      (pss_cons (ps_fld (pv 0) (pv 1) rfl)
      (pss_cons (ps_fld (pv 0) (pv 2) rfl)
      (pss_one (ps_fld (pv 0) (pv 3) rfl)))))), ?_⟩
    obtain ⟨dq, u, v, hqa, hu, hv⟩ := id hq
    refine ⟨_, rfl, _, _, _, rfl, hf, _, _, _, _, rfl, hf, _, rfl, iteEq (fun c => ?_) (fun c => ?_)⟩
    · exact hE (fun o => o.n c) H fun _ _ e => e
    refine ⟨_, rfl, _, _, _, rfl, hqa, q, as, a, bs, b, rfl, hq, _, rfl, iteEq (fun c2 => ?_) (fun c2 => ?_)⟩
    · exact hE (fun o => o.a (List.eq_nil_of_length_eq_zero (by omega))) H fun _ _ e => e
    have ane : as ≠ [] := fun w => c2 (by rw [w]; rfl)
    refine ⟨_, rfl, _, _, _, _, _, rfl, hqa, T.cls_Quotient, T.n_Quotient_num, rfl, _, rfl, rfl, rfl, u, as, a, s, rfl, hu, fun z => absurd z ane, fun _ => ⟨r.sa, r.la, r.ba, r.ga, fun q1 H1 us s1 nq1 hq1 R1 => ?_⟩⟩
    refine ⟨_, _, rfl, .inl (SqL.of hq1), _, _, rfl, rfl, _, rfl, iteD (fun c3 => ?_) (fun c3 => ?_)⟩
    · obtain ⟨z, z1, z2⟩ := rtF_some R1 c3
      exact hE (fun o => o.ra z z1 z2) H1 s1
    refine ⟨_, rfl, _, _, _, _, _, rfl, s1 _ _ hqa, T.cls_Quotient, T.n_Quotient_den, rfl, _, rfl, rfl, rfl, v, bs, b, s, rfl, hv.mono s1, fun z => absurd z r.bne, fun _ => ⟨r.sb, r.lb, r.bb, r.gb, fun q2 H2 ws s2 nq2 hq2 R2 => ?_⟩⟩
    refine ⟨_, _, rfl, .inl (SqL.of hq2), _, _, rfl, rfl, _, rfl, iteD (fun c4 => ?_) (fun c4 => ?_)⟩
    · obtain ⟨z, z1, z2⟩ := rtF_some R2 c4
      exact hE (fun o => o.rb z z1 z2) H2 (s1.trans s2)
    have ok : TmOk s n as bs := ⟨c, ane, rtF_none R1 c3, rtF_none R2 c4⟩
    have s12 := s1.trans s2
    have hx2 := s12 _ _ hx
    refine ⟨_, rfl, _, rfl, x, _, dx, [], rfl, hx2, T.cls_Term, T.n_Term_start, by decide, ?_⟩
    refine ⟨_, rfl, _, rfl, x, _, dx, _, rfl, upd_same, T.cls_Term, T.n_Term_first, (show (1 : Nat) < 1000 by decide), ?_⟩
    refine ⟨_, rfl, _, rfl, x, _, dx, _, rfl, upd_same, T.cls_Term, T.n_Term_ratio, (show (2 : Nat) < 1000 by decide), ?_⟩
    refine hQ ok _ (fun y o ne e => ?_) upd_same
    rw [upd_ne ne, upd_ne ne, upd_ne ne]
    exact s12 _ _ e

theorem ok_Poly_at (T : Tx K mg) (O_evaluated : OkF P w K mg base 1 (He.fAd K ("evaluated", none)) ["coefs", "at"] (spEvaB K)) (O_Fraction___init__ : OkD P w K mg base 1 (He.fAd K ("Fraction", some "__init__")) ["self", "num", "den"] (He.Dv.v K (.int 1)) (spInit K)) : OkF P w K mg base 3 (He.fAd K ("Poly", some "at")) ["self", "k"] (spPAt K) := by
  obtain ⟨_, G_evaluated, b_evaluated, k_evaluated⟩ := O_evaluated
  obtain ⟨_, G_Fraction___init__, b_Fraction___init__, ⟨_, v_Fraction___init__, bd_Fraction___init__⟩, k_Fraction___init__⟩ := O_Fraction___init__
  refine okF_of (d := d_Poly_at) T.d_Poly_at rfl sc_Poly_at (fun _ _ _ _ _ _ us hl => match us, hl with | [_, _], _ => rfl) (fun vs H Q E h => ?_) (fun cdv A outer s H vs Q E hr h => ?_)
  · first | (obtain ⟨_, rfl, _⟩ := h; rfl) | (obtain ⟨_, _, rfl, _⟩ := h; rfl) | (obtain ⟨_, _, _, rfl, _⟩ := h; rfl) | (obtain ⟨_, _, _, _, rfl, _⟩ := h; rfl) | (obtain ⟨_, _, _, _, _, rfl, _⟩ := h; rfl) | (obtain ⟨_, _, _, _, _, _, rfl, _⟩ := h; rfl) | (obtain ⟨_, _, _, _, _, _, _, rfl, _⟩ := h; rfl) | (obtain ⟨_, _, _, _, _, _, _, _, rfl, _⟩ := h; rfl) | (obtain ⟨_, _, _, _, _, _, _, _, _, rfl, _⟩ := h; rfl) | (obtain ⟨_, _, _, _, _, _, _, _, _, _, rfl, _⟩ := h; rfl)
  · obtain ⟨a, ks, e, x, k, j, rfl, hp, e0, eb, hb, hx, hk, q⟩ := h
    obtain ⟨da, t, ha, ht⟩ := hp
    refine ⟨_, (pss_one (ps_ret (pe_makeI T.mk_Fraction G_Fraction___init__ (hr.mono (by decide)) (by rfl) T.g_Fraction b_Fraction___init__ .nil passL (mkFr_conv K []) (pa_cons (pe_call G_evaluated (hr.mono (by decide)) (by rfl) T.g_evaluated k_evaluated b_evaluated .nil passL (pa_cons (pe_fld (pv 0) rfl) (pa_cons (pv 1) pa_nil))) (pa_cons (pe_fld (pv 0) rfl) pa_nil))))), ?_⟩
    refine ⟨_, rfl, _, _, _, _, _, rfl, ha, T.cls_Poly, T.n_Poly_coefs, rfl, _, rfl, _, ks, x, k, j, rfl, .inr (SqT.of ht), hb.all, hx, hk, ?_⟩
    exact ⟨_, rfl, _, _, _, _, _, rfl, ha, T.cls_Poly, T.n_Poly_den, rfl, _, _, 8000, rfl, eb, by decide, by omega, q⟩

theorem ok_Pole___init__ (T : Tx K mg) (hP : SupP P) : OkF P w K mg base 1 (He.fAd K ("Pole", some "__init__")) ["self", "where"] (spPoleI K) := sup_ok (x0 := "self") (x1 := "where") (fld := "where") T.sd_Pole___init__ rfl hP.file hP.top T.z_super sc_Pole___init__ rfl rfl T.nfld_Pole_where ⟨by decide, by decide, by decide, by decide⟩ (fun _ => rfl) (fun _ => ⟨_, rfl⟩) (fun _ _ _ _ _ _ _ us hl => match us, hl with | [_, _], _ => rfl)

theorem ok_Quotient_at (T : Tx K mg) (O_Poly_at : OkF P w K mg base 3 (He.fAd K ("Poly", some "at")) ["self", "k"] (spPAt K)) (O_Fraction_is_zero : OkF P w K mg base 1 (gtAd K (He.ga K "Fraction") "is_zero") ["self"] (spZero K)) (O_Pole___init__ : OkF P w K mg base 1 (He.fAd K ("Pole", some "__init__")) ["self", "where"] (spPoleI K)) (O_Fraction_over : OkF P w K mg base 5 (He.fAd K ("Fraction", some "over")) ["self", "other"] (spOver K)) : OkN P w K mg base 7 (He.fAd K ("Quotient", some "at")) ["self", "k"] (spQAt K) := by
  obtain ⟨_, G_Poly_at, b_Poly_at, k_Poly_at⟩ := O_Poly_at
  obtain ⟨_, G_Fraction_is_zero, b_Fraction_is_zero, k_Fraction_is_zero⟩ := O_Fraction_is_zero
  obtain ⟨_, G_Pole___init__, b_Pole___init__, k_Pole___init__⟩ := O_Pole___init__
  obtain ⟨_, G_Fraction_over, b_Fraction_over, k_Fraction_over⟩ := O_Fraction_over
  refine okN_of (d := d_Quotient_at) T.d_Quotient_at rfl sc_Quotient_at (fun _ _ _ _ _ _ us hl => match us, hl with | [_, _], _ => rfl) (fun vs H Q E h => ?_) (fun cdv A outer s H vs Q E hr h => ?_)
  · (obtain ⟨_, _, _, _, _, _, _, _, rfl, _⟩ := h; rfl)
  · obtain ⟨q, as, a, bs, b, x, k, j, rfl, hq, a0, b0, ab, bb, ha, hb, xb, la, lb, sz, hE, hQ⟩ := h
    obtain ⟨dq, u, v, hqa, hu, hv⟩ := id hq
    obtain ⟨du, tu, hu1, hu2⟩ := id hu
    obtain ⟨dv, tv, hv1, hv2⟩ := id hv
    have k8 : 2 ^ k ≤ 2 ^ 8000 := Nat.pow_le_pow_right (by decide) (by omega)
    have s1 : k + (j + 1) * (bs.length + 1) ≤ 900000 := by
      have : (j + 1) * (bs.length + 1) ≤ (j + 1) * 21 := Nat.mul_le_mul_left _ (by omega)
      omega
    have s2 : k + (j + 1) * (as.length + 1) ≤ 900000 := by
      have : (j + 1) * (as.length + 1) ≤ (j + 1) * 21 := Nat.mul_le_mul_left _ (by omega)
      omega
    refine ⟨_, (pss_cons (ps_set (i := 2) sc_Quotient_at.nd rfl (Or.inl rfl) (pe_meth (pe_fld (pv 0) rfl) T.cls_Poly T.m_Poly_at G_Poly_at (hr.mono (by decide)) b_Poly_at .nil passL (pa_cons (pv 1) pa_nil)))
      (pss_cons (ps_if (pt_val (pe_prop (pv 2) T.cls_Fraction T.p_Fraction_is_zero G_Fraction_is_zero (hr.mono (by decide)) b_Fraction_is_zero .nil passL rfl)) (pss_one (L2N.ps_raise rfl (L2N.takes_of rfl rfl rfl rfl) (pmkN T.sd_Pole___init__.T T.sd_Pole___init__.init T.sd_Pole___init__.ty G_Pole___init__ (hr.mono (by decide)) b_Pole___init__ passL rfl T.g_Pole (pa_cons (pv 1) pa_nil)))) pss_nil)
      (pss_one (ps_ret (pe_meth (pe_meth (pe_fld (pv 0) rfl) T.cls_Poly T.m_Poly_at G_Poly_at (hr.mono (by decide)) b_Poly_at .nil passL (pa_cons (pv 1) pa_nil)) T.cls_Fraction T.m_Fraction_over G_Fraction_over (hr.mono (by decide)) b_Fraction_over .nil passL (pa_cons (pv 2) pa_nil)))))), ?_⟩
    refine ⟨_, rfl, _, _, _, _, _, rfl, hqa, T.cls_Quotient, T.n_Quotient_den, rfl, _, _, _, rfl, hv1, rfl, _, rfl, v, bs, b, x, k, j, rfl, hv, b0, Nat.lt_of_lt_of_le bb k8, hb, xb, s1, fun p1 dp1 H1 n1 d1 t1 np1 hp1 q1 => ?_⟩
    refine ⟨_, rfl, _, _, _, rfl, hp1, _, _, _, _, rfl, hp1, _, rfl, iteEq (fun c => ?_) (fun c => ?_)⟩
    · have z : evL x bs = 0 := (q1.zero_iff (by omega)).mp c
      refine ⟨_, rfl, by show 1 ≤ 1000; decide, fun e ne_ => ?_⟩
      refine ⟨e, .int x, rfl, upd_same, fun dx nd nx => ?_⟩
      have ndx : H1 dx = none := by rw [upd_ne nx] at nd; exact nd
      refine ⟨rfl, dx, [("where", .int x)], upd_same, by rw [upd_ne nx, upd_same], ndx, ?_⟩
      refine hE z _ dx (fun y o hy => ?_) (t1.free ndx) upd_same
      have h1 := t1 _ _ hy
      have y1 : y ≠ dx := ne_of_none h1 ndx
      have y2 : y ≠ e := ne_of_none h1 ne_
      rw [upd_ne y1, del_ne y2, upd_ne y2, upd_ne y1, upd_ne y2]
      exact h1
    · have z : evL x bs ≠ 0 := fun w => c ((q1.zero_iff (by omega)).mpr w)
      have K0 : k + (j + 1) * 20 + 1 ≤ 8000 := by
        have : (j + 1) * 20 ≤ (j + 1) * 21 := Nat.mul_le_mul_left _ (by decide)
        omega
      have lw : ∀ {cs : List Int} {d n1 d1 : Int}, Fq (evL x cs) d n1 d1 → d ≠ 0 → d.natAbs < 2 ^ k → Bits k cs → cs.length ≤ 20 → Lw (k + (j + 1) * 20 + 1) n1 d1 := fun {cs d n1 d1} f d0 db cb l => by
        have e1 : (j + 1) * cs.length ≤ (j + 1) * 20 := Nat.mul_le_mul_left _ l
        have e2 := evL_bits xb cb.all
        exact ⟨f.pos, f.cop, Nat.lt_of_le_of_lt (f.num_le d0) (Nat.lt_of_lt_of_le e2 (Nat.pow_le_pow_right (by decide) (by omega))), Nat.lt_of_le_of_lt (f.den_le d0) (Nat.lt_of_lt_of_le db (Nat.pow_le_pow_right (by decide) (by omega)))⟩
      refine ⟨_, rfl, _, _, _, _, _, rfl, t1 _ _ hqa, T.cls_Quotient, T.n_Quotient_num, rfl, _, _, _, rfl, t1 _ _ hu1, rfl, _, rfl, u, as, a, x, k, j, rfl, hu.mono t1, a0, Nat.lt_of_lt_of_le ab k8, ha, xb, s2, fun p2 dp2 H2 n2 d2 t2 np2 hp2 q2 => ?_⟩
      refine ⟨_, _, _, rfl, hp2, rfl, _, rfl, _, _, _, _, _, _, _, _, k + (j + 1) * 20 + 1, rfl, hp2, t2 _ _ hp1, lw q2 (by omega) ab ha la, lw q1 (by omega) bb hb lb, K0, fun w => absurd w c, fun _ p3 dp3 H3 n3 d3 t3 np3 hp3 q3 => ?_⟩
      have d1p := q1.pos
      have d2p := q2.pos
      refine hQ z p3 dp3 H3 n3 d3 ((t1.trans t2).trans t3) (t1.free (t2.free np3)) hp3 (q3.conv (Int.mul_ne_zero (by omega) c) ?_)
      have e1 := q1.eq
      have e2 := q2.eq
      grind

theorem ok_BeforeStart___init__ (T : Tx K mg) (hP : SupP P) : OkF P w K mg base 1 (He.fAd K ("BeforeStart", some "__init__")) ["self", "index"] (spBeforeStartI K) := sup_ok (x0 := "self") (x1 := "index") (fld := "index") T.sd_BeforeStart___init__ rfl hP.file hP.top T.z_super sc_BeforeStart___init__ rfl rfl T.nfld_BeforeStart_index ⟨by decide, by decide, by decide, by decide⟩ (fun _ => rfl) (fun _ => ⟨_, rfl⟩) (fun _ _ _ _ _ _ _ us hl => match us, hl with | [_, _], _ => rfl)

theorem ok__steps (T : Tx K mg) (O_evaluated : OkF P w K mg base 1 (He.fAd K ("evaluated", none)) ["coefs", "at"] (spEvaB K)) : OkF P w K mg base 3 (He.fAd K ("_steps", none)) ["ratio", "low", "high"] (spStp K) := by
  obtain ⟨_, G_evaluated, b_evaluated, k_evaluated⟩ := O_evaluated
  refine okF_of (d := d__steps) T.d__steps rfl sc__steps (fun _ _ _ _ _ _ us hl => match us, hl with | [_, _, _], _ => rfl) (fun vs H Q E h => ?_) (fun cdv A outer s H vs Q E hr h => ?_)
  · (obtain ⟨_, _, _, _, _, _, _, _, _, _, rfl, _⟩ := h; rfl)
  · obtain ⟨q, as, a, bs, b, lo, hi, kb, xb, L, rfl, hq, ba, bb, ga, gb, la, lb, hx, sz, zl, zh, zn, hQ⟩ := h
    obtain ⟨dq, u, v, hqa, hu, hv⟩ := id hq
    obtain ⟨du, tu, hu1, hu2⟩ := id hu
    obtain ⟨dv, tv, hv1, hv2⟩ := id hv
    refine ⟨_, (pss_one (ps_ret (pe_lc (own := [("k", 3)]) (g := gName 3) rfl sc__steps.nd (pi_range2 rfl T.z_range (pa_cons (pv 1) (pa_cons (pv 2) pa_nil))) (blkOk_by (own := [("k", 3)]) (N := N__steps) (sc := defScope s__steps) (by decide +kernel)) (fun _ _ _ _ _ => (pg_name (i := 3) sc__steps.nd rfl (Or.inl rfl))) (fun _ _ _ _ _ => pts_nil) (fun _ _ _ _ _ => (pe_tup (pa_cons (pe_op op_mulW (pe_call G_evaluated (hr.mono (by decide)) (by rfl) T.g_evaluated k_evaluated b_evaluated .nil passL (pa_cons (pe_fldK (K := K) rfl (pe_fld (pe_fldK (K := K) rfl (pe_fld (pv 0) rfl)) rfl)) (pa_cons (pv 3) pa_nil))) (pe_fldK (K := K) rfl (pe_fld (pe_fldK (K := K) rfl (pe_fld (pv 0) rfl)) rfl))) (pa_cons (pe_op op_mulW (pe_call G_evaluated (hr.mono (by decide)) (by rfl) T.g_evaluated k_evaluated b_evaluated .nil passL (pa_cons (pe_fldK (K := K) rfl (pe_fld (pe_fldK (K := K) rfl (pe_fld (pv 0) rfl)) rfl)) (pa_cons (pv 3) pa_nil))) (pe_fldK (K := K) rfl (pe_fld (pe_fldK (K := K) rfl (pe_fld (pv 0) rfl)) rfl))) pa_nil))))))), ?_⟩
    have e61 : (2 : Nat) ^ 60 = 1152921504606846976 := by decide
    have m1 : (xb + 1) * (as.length + 1) ≤ (xb + 1) * (L + 1) := Nat.mul_le_mul_left _ (by omega)
    have m2 : (xb + 1) * (bs.length + 1) ≤ (xb + 1) * (L + 1) := Nat.mul_le_mul_left _ (by omega)
    have m3 : (xb + 1) * as.length ≤ (xb + 1) * (as.length + 1) := Nat.mul_le_mul_left _ (by omega)
    have m4 : (xb + 1) * bs.length ≤ (xb + 1) * (bs.length + 1) := Nat.mul_le_mul_left _ (by omega)
    refine ⟨_, rfl, _, rfl, _, _, rfl, ⟨by omega, by omega, by omega, by omega⟩, fun D nD => lc_range (lo := lo) (n := (hi - lo).toNat) (fun i H' => ∃ xs, Same H H' ∧ H' D = some (.lst xs) ∧ StL H' xs (stL as a bs b lo i)) ⟨[], sm_new nD, upd_same, .nil⟩ (fun i H' hi hP => ?_) (fun H2 hP => ?_)⟩
    · obtain ⟨xs, sm, hD, st⟩ := hP
      have xi := hx i hi
      have ea := evL_bits xi ba.all
      have eb := evL_bits xi bb.all
      have sl := st.len
      rw [stL_len] at sl
      refine ⟨rfl, ?_⟩
      unfold tYes
      refine iteK rfl ?_
      refine ⟨_, rfl, _, _, _, _, _, rfl, sm _ _ hqa, T.cls_Quotient, T.n_Quotient_num, rfl, _, _, _, _, _, rfl, sm _ _ hu1, T.cls_Poly, T.n_Poly_coefs, rfl, _, rfl, tu, as, lo + (i : Int), kb, xb, rfl, .inr (SqT.of (sm _ _ hu2)), ba.all, xi, by omega, _, rfl, _, _, _, _, _, rfl, sm _ _ hqa, T.cls_Quotient, T.n_Quotient_den, rfl, _, _, _, _, _, rfl, sm _ _ hv1, T.cls_Poly, T.n_Poly_den, rfl, _, _, rfl, rfl, mulW ea gb (by omega), ?_⟩
      refine ⟨_, rfl, _, _, _, _, _, rfl, sm _ _ hqa, T.cls_Quotient, T.n_Quotient_den, rfl, _, _, _, _, _, rfl, sm _ _ hv1, T.cls_Poly, T.n_Poly_coefs, rfl, _, rfl, tv, bs, lo + (i : Int), kb, xb, rfl, .inr (SqT.of (sm _ _ hv2)), bb.all, xi, by omega, _, rfl, _, _, _, _, _, rfl, sm _ _ hqa, T.cls_Quotient, T.n_Quotient_num, rfl, _, _, _, _, _, rfl, sm _ _ hu1, T.cls_Poly, T.n_Poly_den, rfl, _, _, rfl, rfl, mulW eb ga (by omega), by show 2 ≤ sizeLine; decide, fun t nt => ?_⟩
      have s3 := sm_new (o := prS (evL (lo + (i : Int)) as * b, evL (lo + (i : Int)) bs * a)) nt
      have ht : (upd H' t (prS (evL (lo + (i : Int)) as * b, evL (lo + (i : Int)) bs * a))) t = some (prS (evL (lo + (i : Int)) as * b, evL (lo + (i : Int)) bs * a)) := upd_same
      have hD3 := s3 _ _ hD
      exact ⟨xs, hD3, by rw [sl]; exact small1000 (by omega), xs ++ [.ref t], same_mut (sm.trans s3) nD, upd_same, ((st.mono s3).snoc ht).upd hD3⟩
    · obtain ⟨xs, sm, hD, st⟩ := hP
      exact hQ D H2 xs sm nD hD st

theorem ok__product_f (T : Tx K mg) : OkF P w K mg base 1 (He.fAd K ("_product", none)) ["steps"] (fun _ _ _ _ => False) := by
  refine okF_of (d := d__product) T.d__product rfl sc__product (fun _ _ _ _ _ _ us hl => match us, hl with | [_], _ => rfl) (fun vs H Q E h => ?_) (fun cdv A outer s H vs Q E hr h => ?_)
  · exact h.elim
  · exact h.elim
theorem ok__product_j (T : Tx K mg) (j : Nat) : OkF P w K mg base (j + 2) (He.fAd K ("_product", none)) ["steps"] (spPrd K j) := by
  induction j with
  | zero =>
    have O__product := ok__product_f (P := P) (w := w) (base := base) T
    obtain ⟨_, G__product, b__product, k__product⟩ := O__product
    refine okF_of (d := d__product) T.d__product rfl sc__product (fun _ _ _ _ _ _ us hl => match us, hl with | [_], _ => rfl) (fun vs H Q E h => ?_) (fun cdv A outer s H vs Q E hr h => ?_)
    · obtain ⟨_, _, _, _, rfl, _⟩ := h
      rfl
    · obtain ⟨a, xs, ps, S, rfl, hS, st, sb, hj, j9, sz, q⟩ := h
      refine ⟨_, (pss_cons (ps_if (pt_cmpR op_eq (pe_callB call_len_seq (by rfl) T.z_len PySem.boot_len (pa_cons (pv 0) pa_nil)) pe_int (nomark _)) (pss_one (ps_ret (pe_tup (pa_cons pe_int (pa_cons pe_int pa_nil))))) pss_nil)
      (pss_cons (ps_if (pt_cmpR op_eq (pe_callB call_len_seq (by rfl) T.z_len PySem.boot_len (pa_cons (pv 0) pa_nil)) pe_int (nomark _)) (pss_one (ps_ret (pe_ix ix_list (pv 0) pe_int (fun _ _ => rfl)))) pss_nil)
      (pss_cons (ps_setI (i := 1) sc__product.nd rfl (Or.inl rfl) (pe_op op_fdiv (pe_callB call_len_seq (by rfl) T.z_len PySem.boot_len (pa_cons (pv 0) pa_nil)) pe_int))
      (pss_cons (ps_asg (pe_call G__product (hr.mono (by omega)) (by rfl) T.g__product k__product b__product .nil passL (pa_cons (pe_slice sl_list (pv 0) po_none (po_some (pv 1))) pa_nil)) (pg_tup rfl (pgs_cons (pg_name (i := 2) sc__product.nd rfl (Or.inl rfl)) (pgs_cons (pg_name (i := 3) sc__product.nd rfl (Or.inl rfl)) pgs_nil))))
      (pss_cons (ps_asg (pe_call G__product (hr.mono (by omega)) (by rfl) T.g__product k__product b__product .nil passL (pa_cons (pe_slice sl_list (pv 0) (po_some (pv 1)) po_none) pa_nil)) (pg_tup rfl (pgs_cons (pg_name (i := 4) sc__product.nd rfl (Or.inl rfl)) (pgs_cons (pg_name (i := 5) sc__product.nd rfl (Or.inl rfl)) pgs_nil))))
      (pss_one (ps_ret (pe_tup (pa_cons (pe_op op_mulW (pv 2) (pv 4)) (pa_cons (pe_op op_mulW (pv 3) (pv 5)) pa_nil)))))))))), ?_⟩
      have sl := st.len
      refine ⟨_, rfl, _, _, rfl, .inl hS, rfl, _, rfl, iteEq (fun c => ?_) (fun c => ?_)⟩
      · have e : ps = [] := List.eq_nil_of_length_eq_zero (by omega)
        subst e
        refine ⟨by show 2 ≤ sizeLine; decide, fun t nt => ?_⟩
        exact q t _ (sm_new nt) upd_same
      refine ⟨_, rfl, _, _, rfl, .inl hS, rfl, _, rfl, iteEq (fun c2 => ?_) (fun c2 => ?_)⟩
      · obtain ⟨p, rfl⟩ := List.length_eq_one_iff.mp (show ps.length = 1 by omega)
        obtain ⟨t, e1, e2⟩ := st.at_ 0 p rfl
        refine ⟨_, rfl, _, _, _, _, rfl, rfl, hS, at_of (j := 0) (by omega) e1, ?_⟩
        refine q t H (fun _ _ e => e) ?_
        rw [e2]
        show some (HO.tup [.int p.1, .int p.2]) = some (HO.tup [.int (p.1 * 1), .int (p.2 * 1)])
        rw [Int.mul_one, Int.mul_one]
      · exact absurd (show (xs.length : Int) = 1 by have : ps.length ≤ 1 := hj; omega) c2
  | succ j ih =>
    have O__product := ih
    obtain ⟨_, G__product, b__product, k__product⟩ := O__product
    refine okF_of (d := d__product) T.d__product rfl sc__product (fun _ _ _ _ _ _ us hl => match us, hl with | [_], _ => rfl) (fun vs H Q E h => ?_) (fun cdv A outer s H vs Q E hr h => ?_)
    · obtain ⟨_, _, _, _, rfl, _⟩ := h
      rfl
    · obtain ⟨a, xs, ps, S, rfl, hS, st, sb, hj, j9, sz, q⟩ := h
      refine ⟨_, (pss_cons (ps_if (pt_cmpR op_eq (pe_callB call_len_seq (by rfl) T.z_len PySem.boot_len (pa_cons (pv 0) pa_nil)) pe_int (nomark _)) (pss_one (ps_ret (pe_tup (pa_cons pe_int (pa_cons pe_int pa_nil))))) pss_nil)
      (pss_cons (ps_if (pt_cmpR op_eq (pe_callB call_len_seq (by rfl) T.z_len PySem.boot_len (pa_cons (pv 0) pa_nil)) pe_int (nomark _)) (pss_one (ps_ret (pe_ix ix_list (pv 0) pe_int (fun _ _ => rfl)))) pss_nil)
      (pss_cons (ps_setI (i := 1) sc__product.nd rfl (Or.inl rfl) (pe_op op_fdiv (pe_callB call_len_seq (by rfl) T.z_len PySem.boot_len (pa_cons (pv 0) pa_nil)) pe_int))
      (pss_cons (ps_asg (pe_call G__product (hr.mono (by omega)) (by rfl) T.g__product k__product b__product .nil passL (pa_cons (pe_slice sl_list (pv 0) po_none (po_some (pv 1))) pa_nil)) (pg_tup rfl (pgs_cons (pg_name (i := 2) sc__product.nd rfl (Or.inl rfl)) (pgs_cons (pg_name (i := 3) sc__product.nd rfl (Or.inl rfl)) pgs_nil))))
      (pss_cons (ps_asg (pe_call G__product (hr.mono (by omega)) (by rfl) T.g__product k__product b__product .nil passL (pa_cons (pe_slice sl_list (pv 0) (po_some (pv 1)) po_none) pa_nil)) (pg_tup rfl (pgs_cons (pg_name (i := 4) sc__product.nd rfl (Or.inl rfl)) (pgs_cons (pg_name (i := 5) sc__product.nd rfl (Or.inl rfl)) pgs_nil))))
      (pss_one (ps_ret (pe_tup (pa_cons (pe_op op_mulW (pv 2) (pv 4)) (pa_cons (pe_op op_mulW (pv 3) (pv 5)) pa_nil)))))))))), ?_⟩
      have sl := st.len
      refine ⟨_, rfl, _, _, rfl, .inl hS, rfl, _, rfl, iteEq (fun c => ?_) (fun c => ?_)⟩
      · have e : ps = [] := List.eq_nil_of_length_eq_zero (by omega)
        subst e
        refine ⟨by show 2 ≤ sizeLine; decide, fun t nt => ?_⟩
        exact q t _ (sm_new nt) upd_same
      refine ⟨_, rfl, _, _, rfl, .inl hS, rfl, _, rfl, iteEq (fun c2 => ?_) (fun c2 => ?_)⟩
      · obtain ⟨p, rfl⟩ := List.length_eq_one_iff.mp (show ps.length = 1 by omega)
        obtain ⟨t, e1, e2⟩ := st.at_ 0 p rfl
        refine ⟨_, rfl, _, _, _, _, rfl, rfl, hS, at_of (j := 0) (by omega) e1, ?_⟩
        refine q t H (fun _ _ e => e) ?_
        rw [e2]
        show some (HO.tup [.int p.1, .int p.2]) = some (HO.tup [.int (p.1 * 1), .int (p.2 * 1)])
        rw [Int.mul_one, Int.mul_one]
      refine ⟨_, rfl, _, _, rfl, .inl hS, _, _, rfl, rfl, ⟨by decide, by decide⟩, _, rfl, fun mid em => ?_⟩
      obtain ⟨m, rfl⟩ : ∃ m : Nat, mid = m := ⟨ps.length / 2, by rw [em]; omega⟩
      have hm : m = ps.length / 2 := by omega
      have h2 : 2 ^ (j + 1) = 2 * 2 ^ j := by rw [Nat.pow_succ]; omega
      have lt1 : (ps.take m).length = m := by rw [List.length_take]; omega
      have lt2 : (ps.drop m).length = ps.length - m := List.length_drop ..
      have z1 : S * m ≤ S * ps.length := Nat.mul_le_mul_left _ (by omega)
      have z2 : S * (ps.length - m) ≤ S * ps.length := Nat.mul_le_mul_left _ (by omega)
      refine ⟨_, rfl, _, rfl, _, rfl, _, _, rfl, hS, fun p1 np1 => ?_⟩
      rw [cut_lo (show m ≤ xs.length by omega)]
      have s1 := sm_new (o := .lst (xs.take m)) np1
      refine ⟨p1, xs.take m, ps.take m, S, rfl, SqL.of upd_same, (st.mono s1).take, sb.take, by omega, by omega, by rw [lt1]; omega, fun t1 H2 s2 h1 => ?_⟩
      have sA := s1.trans s2
      refine ⟨t1, _, rfl, SqT.of h1, rfl, _, _, rfl, _, _, rfl, rfl, ?_⟩
      refine ⟨_, rfl, _, rfl, _, rfl, _, _, rfl, sA.seq hS, fun p3 np3 => ?_⟩
      rw [cut_hi (show m ≤ xs.length by omega)]
      have s3 := sm_new (o := .lst (xs.drop m)) np3
      have sB := sA.trans s3
      refine ⟨p3, xs.drop m, ps.drop m, S, rfl, SqL.of upd_same, (st.mono sB).drop, sb.drop, by omega, by omega, by rw [lt2]; omega, fun t2 H4 s4 h2_ => ?_⟩
      refine ⟨t2, _, rfl, SqT.of h2_, rfl, _, _, rfl, _, _, rfl, rfl, ?_⟩
      have x1 := prA_bits (ps := ps.take m) sb.take.a
      have x2 := prA_bits (ps := ps.drop m) sb.drop.a
      have x3 := prB_bits (ps := ps.take m) sb.take.b
      have x4 := prB_bits (ps := ps.drop m) sb.drop.b
      rw [lt1] at x1 x3
      rw [lt2] at x2 x4
      refine ⟨_, rfl, _, rfl, _, _, rfl, rfl, mulW x1 x2 (by omega), _, rfl, _, rfl, _, _, rfl, rfl, mulW x3 x4 (by omega), by show 2 ≤ sizeLine; decide, fun t nt => ?_⟩
      refine q t _ ((sB.trans s4).trans (sm_new nt)) ?_
      rw [upd_same]
      show some (HO.tup [V.int (prA (ps.take m) * prA (ps.drop m)), V.int (prB (ps.take m) * prB (ps.drop m))]) = _
      rw [← prA_app, ← prB_app, List.take_append_drop]
theorem ok__product (T : Tx K mg) : OkF P w K mg base 12 (He.fAd K ("_product", none)) ["steps"] (spPrd0 K) := ok__product_j T 10

theorem ok_Term_value (T : Tx K mg) (O_BeforeStart___init__ : OkF P w K mg base 1 (He.fAd K ("BeforeStart", some "__init__")) ["self", "index"] (spBeforeStartI K)) (O__steps : OkF P w K mg base 3 (He.fAd K ("_steps", none)) ["ratio", "low", "high"] (spStp K)) (O__product : OkF P w K mg base 12 (He.fAd K ("_product", none)) ["steps"] (spPrd0 K)) (O_Fraction___init__ : OkD P w K mg base 1 (He.fAd K ("Fraction", some "__init__")) ["self", "num", "den"] (He.Dv.v K (.int 1)) (spInit K)) (O_Fraction___mul__ : OkF P w K mg base 4 (He.fAd K ("Fraction", some "__mul__")) ["self", "other"] (spMul K)) : OkN P w K mg base 13 (He.fAd K ("Term", some "value")) ["self", "k"] (spTmV K) := by
  obtain ⟨_, G_BeforeStart___init__, b_BeforeStart___init__, k_BeforeStart___init__⟩ := O_BeforeStart___init__
  obtain ⟨_, G__steps, b__steps, k__steps⟩ := O__steps
  obtain ⟨_, G__product, b__product, k__product⟩ := O__product
  obtain ⟨_, G_Fraction___init__, b_Fraction___init__, ⟨_, v_Fraction___init__, bd_Fraction___init__⟩, k_Fraction___init__⟩ := O_Fraction___init__
  obtain ⟨_, G_Fraction___mul__, b_Fraction___mul__, k_Fraction___mul__⟩ := O_Fraction___mul__
  refine okN_of (d := d_Term_value) T.d_Term_value rfl sc_Term_value (fun _ _ _ _ _ _ us hl => match us, hl with | [_, _], _ => rfl) (fun vs H Q E h => ?_) (fun cdv A outer s H vs Q E hr h => ?_)
  · (obtain ⟨_, _, _, _, _, _, _, _, _, _, _, _, rfl, _⟩ := h; rfl)
  · obtain ⟨t, s, n, d, as, a, bs, b, k, kb, xb, L, rfl, ⟨dt, f, df, q, ht, hf, hq⟩, z, hE, hQ⟩ := h
    refine ⟨_, (pss_cons (ps_if (pt_cmpR op_lt (pv 1) (pe_fld (pv 0) rfl) (nomark _)) (pss_one (L2N.ps_raise rfl (L2N.takes_of rfl rfl rfl rfl) (pmkN T.sd_BeforeStart___init__.T T.sd_BeforeStart___init__.init T.sd_BeforeStart___init__.ty G_BeforeStart___init__ (hr.mono (by decide)) b_BeforeStart___init__ passL rfl T.g_BeforeStart (pa_cons (pv 1) pa_nil)))) pss_nil)
      (pss_cons (ps_asg (pe_call G__product (hr.mono (by decide)) (by rfl) T.g__product k__product b__product .nil passL (pa_cons (pe_call G__steps (hr.mono (by decide)) (by rfl) T.g__steps k__steps b__steps .nil passL (pa_cons (pe_fld (pv 0) rfl) (pa_cons (pe_fld (pv 0) rfl) (pa_cons (pv 1) pa_nil)))) pa_nil)) (pg_tup rfl (pgs_cons (pg_name (i := 2) sc_Term_value.nd rfl (Or.inl rfl)) (pgs_cons (pg_name (i := 3) sc_Term_value.nd rfl (Or.inl rfl)) pgs_nil))))
      (pss_one (ps_ret (pe_op (op_own2 T.first_Fraction T.s_Fraction___mul__ T.f_Fraction___mul__ G_Fraction___mul__ (hr.mono (by decide)) b_Fraction___mul__ passL) (pe_fld (pv 0) rfl) (pe_makeI T.mk_Fraction G_Fraction___init__ (hr.mono (by decide)) (by rfl) T.g_Fraction b_Fraction___init__ .nil passL (mkFr_conv K []) (pa_cons (pv 2) (pa_cons (pv 3) pa_nil)))))))), ?_⟩
    refine ⟨_, rfl, _, rfl, _, _, _, _, _, rfl, ht, T.cls_Term, T.n_Term_start, rfl, _, _, rfl, rfl, _, rfl, iteD (fun c => ?_) (fun c => ?_)⟩
    · refine ⟨_, rfl, by show 1 ≤ 1000; decide, fun e ne_ => ?_⟩
      refine ⟨e, .int k, rfl, upd_same, fun dx nd nx => ?_⟩
      have ndx : H dx = none := by rw [upd_ne nx] at nd; exact nd
      refine ⟨rfl, dx, [("index", .int k)], upd_same, by rw [upd_ne nx, upd_same], ndx, ?_⟩
      refine hE c _ dx (fun y o hy => ?_) ndx upd_same
      have y1 : y ≠ dx := ne_of_none hy ndx
      have y2 : y ≠ e := ne_of_none hy ne_
      rw [upd_ne y1, del_ne y2, upd_ne y2, upd_ne y1, upd_ne y2]
      exact hy
    have e59 : (2 : Nat) ^ 59 = 576460752303423488 := by decide
    have e60 : (2 : Nat) ^ 60 = 1152921504606846976 := by decide
    have z59 := z.s60
    have z900 := z.m900
    have zsz := z.sz
    have stb := z.stb
    have sl := stL_len as a bs b s (k - s).toNat
    refine ⟨_, rfl, _, _, _, _, _, rfl, ht, T.cls_Term, T.n_Term_ratio, rfl, _, rfl, _, _, _, _, _, rfl, ht, T.cls_Term, T.n_Term_start, rfl, _, rfl, q, as, a, bs, b, s, k, kb, xb, L, rfl, hq, z.ba, z.bb, z.ga, z.gb, z.la, z.lb, z.sx, z.k8, by omega, by omega, z.m900, fun p H1 xs s1 np hp st => ?_⟩
    refine ⟨p, xs, _, _, rfl, SqL.of hp, st, stb, by rw [sl]; show _ ≤ 1024; omega, by decide, by rw [sl]; omega, fun tt H2 s2 ht2 => ?_⟩
    refine ⟨tt, _, rfl, SqT.of ht2, rfl, _, _, rfl, _, _, rfl, rfl, ?_⟩
    have s12 := s1.trans s2
    have x1 := prA_bits stb.a
    have x2 := prB_bits stb.b
    have nz := z.nz
    rw [sl] at x1 x2
    refine ⟨_, rfl, _, _, _, _, _, rfl, s12 _ _ ht, T.cls_Term, T.n_Term_first, rfl, _, rfl, _, rfl, _, _, 8000, rfl, abs_mono x2 (by omega), by decide, nz, fun p3 dp3 H3 n3 d3 s3 np3 hp3 f3 => ?_⟩
    have lw3 : Lw 8000 n3 d3 := ⟨f3.pos, f3.cop, Nat.lt_of_le_of_lt (f3.num_le nz) (abs_mono x1 (by omega)), Nat.lt_of_le_of_lt (f3.den_le nz) (abs_mono x2 (by omega))⟩
    have lw := z.lw
    have lw8 : Lw 8000 n d := ⟨lw.pos, lw.cop, abs_mono lw.bn (by omega), abs_mono lw.bd (by omega)⟩
    have s13 := s12.trans s3
    refine ⟨_, _, _, _, _, _, rfl, rfl, s13 _ _ hf, hp3, f, p3, df, dp3, n, d, n3, d3, 8000, rfl, s13 _ _ hf, hp3, lw8, lw3, by decide, fun p4 dp4 H4 n4 d4 s4 np4 hp4 f4 => ?_⟩
    refine hQ (by omega) p4 dp4 H4 n4 d4 (s13.trans s4) (s13.free np4) hp4 (f4.conv (Int.mul_ne_zero lw.ne lw3.ne) ?_)
    have e3 := f3.eq
    grind

theorem ok_Fraction___neg__ (T : Tx K mg) (O__in_lowest_terms : OkF P w K mg base 3 (He.fAd K ("_in_lowest_terms", none)) ["num", "den"] (spLow K)) : OkF P w K mg base 4 (He.fAd K ("Fraction", some "__neg__")) ["self"] (spNeg K) := by
  obtain ⟨_, G__in_lowest_terms, b__in_lowest_terms, k__in_lowest_terms⟩ := O__in_lowest_terms
  refine okF_of (d := d_Fraction___neg__) T.d_Fraction___neg__ rfl sc_Fraction___neg__ (fun _ _ _ _ _ _ us hl => match us, hl with | [_], _ => rfl) (fun vs H Q E h => ?_) (fun cdv A outer s H vs Q E hr h => ?_)
  · first | (obtain ⟨_, rfl, _⟩ := h; rfl) | (obtain ⟨_, _, rfl, _⟩ := h; rfl) | (obtain ⟨_, _, _, rfl, _⟩ := h; rfl) | (obtain ⟨_, _, _, _, rfl, _⟩ := h; rfl) | (obtain ⟨_, _, _, _, _, rfl, _⟩ := h; rfl) | (obtain ⟨_, _, _, _, _, _, rfl, _⟩ := h; rfl) | (obtain ⟨_, _, _, _, _, _, _, rfl, _⟩ := h; rfl) | (obtain ⟨_, _, _, _, _, _, _, _, rfl, _⟩ := h; rfl) | (obtain ⟨_, _, _, _, _, _, _, _, _, rfl, _⟩ := h; rfl) | (obtain ⟨_, _, _, _, _, _, _, _, _, _, rfl, _⟩ := h; rfl)
  · obtain ⟨a, da, n1, d1, rfl, ha, q⟩ := h
    refine ⟨_, (pss_one (ps_ret (pe_call G__in_lowest_terms (hr.mono (by decide)) (by rfl) T.g__in_lowest_terms k__in_lowest_terms b__in_lowest_terms .nil passL (pa_cons (pe_un un_neg (pe_fld (pv 0) rfl)) (pa_cons (pe_fld (pv 0) rfl) pa_nil))))), ?_⟩
    refine ⟨_, rfl, _, _, _, _, _, rfl, ha, T.cls_Fraction, T.n_Fraction_num, rfl, _, rfl, _, rfl, _, _, _, _, _, rfl, ha, T.cls_Fraction, T.n_Fraction_den, rfl, _, _, rfl, fun p dp H' n d sm np hp e => ?_⟩
    exact q p dp H' _ _ sm np hp e

theorem ok_Fraction___add__ (T : Tx K mg) (O__in_lowest_terms : OkF P w K mg base 3 (He.fAd K ("_in_lowest_terms", none)) ["num", "den"] (spLow K)) : OkF P w K mg base 4 (He.fAd K ("Fraction", some "__add__")) ["self", "other"] (spAdd K) := by
  obtain ⟨_, G__in_lowest_terms, b__in_lowest_terms, k__in_lowest_terms⟩ := O__in_lowest_terms
  refine okF_of (d := d_Fraction___add__) T.d_Fraction___add__ rfl sc_Fraction___add__ (fun _ _ _ _ _ _ us hl => match us, hl with | [_, _], _ => rfl) (fun vs H Q E h => ?_) (fun cdv A outer s H vs Q E hr h => ?_)
  · first | (obtain ⟨_, rfl, _⟩ := h; rfl) | (obtain ⟨_, _, rfl, _⟩ := h; rfl) | (obtain ⟨_, _, _, rfl, _⟩ := h; rfl) | (obtain ⟨_, _, _, _, rfl, _⟩ := h; rfl) | (obtain ⟨_, _, _, _, _, rfl, _⟩ := h; rfl) | (obtain ⟨_, _, _, _, _, _, rfl, _⟩ := h; rfl) | (obtain ⟨_, _, _, _, _, _, _, rfl, _⟩ := h; rfl) | (obtain ⟨_, _, _, _, _, _, _, _, rfl, _⟩ := h; rfl) | (obtain ⟨_, _, _, _, _, _, _, _, _, rfl, _⟩ := h; rfl) | (obtain ⟨_, _, _, _, _, _, _, _, _, _, rfl, _⟩ := h; rfl)
  · obtain ⟨a, b, da, db, n1, d1, n2, d2, k, rfl, ha, hb, l1, l2, hk, q⟩ := h
    refine ⟨_, (pss_cons (ps_setI (i := 2) sc_Fraction___add__.nd rfl (Or.inl rfl) (pe_callBfun cr_gcd rfl T.g_gcd (pa_cons (pe_fld (pv 0) rfl) (pa_cons (pe_fld (pv 1) rfl) pa_nil))))
      (pss_cons (ps_setI (i := 3) sc_Fraction___add__.nd rfl (Or.inl rfl) (pe_op op_fdivW (pe_fld (pv 1) rfl) (pv 2)))
      (pss_cons (ps_setI (i := 4) sc_Fraction___add__.nd rfl (Or.inl rfl) (pe_op op_add (pe_op op_mulW (pe_fld (pv 0) rfl) (pv 3)) (pe_op op_mulW (pe_fld (pv 1) rfl) (pe_op op_fdivW (pe_fld (pv 0) rfl) (pv 2)))))
      (pss_cons (ps_setI (i := 5) sc_Fraction___add__.nd rfl (Or.inl rfl) (pe_callBfun cr_gcd rfl T.g_gcd (pa_cons (pv 4) (pa_cons (pv 2) pa_nil))))
      (pss_one (ps_ret (pe_call G__in_lowest_terms (hr.mono (by decide)) (by rfl) T.g__in_lowest_terms k__in_lowest_terms b__in_lowest_terms .nil passL (pa_cons (pe_op op_fdivW (pv 4) (pv 5)) (pa_cons (pe_op op_mulW (pe_op op_fdivW (pe_fld (pv 0) rfl) (pv 5)) (pv 3)) pa_nil))))))))), ?_⟩
    refine ⟨_, rfl, _, _, _, _, _, rfl, ha, T.cls_Fraction, T.n_Fraction_den, rfl, _, rfl, _, _, _, _, _, rfl, hb, T.cls_Fraction, T.n_Fraction_den, rfl, _, _, rfl, _, rfl, fun g eg => ?_⟩
    obtain ⟨g0, s0, f⟩ := fq_add l1.pos l2.pos l1.cop l2.cop eg rfl rfl rfl
    have gl : g.natAbs ≤ d1.natAbs := by
      rw [eg, Int.natAbs_natCast]
      exact Nat.le_of_dvd (by have := l1.pos; omega) (Nat.gcd_dvd_left _ _)
    have gb : g.natAbs < 2 ^ k := Nat.lt_of_le_of_lt gl l1.bd
    have b1 : (d1 / g).natAbs < 2 ^ k := Nat.lt_of_le_of_lt (Int.natAbs_ediv_le_natAbs _ _) l1.bd
    have b2 : (d2 / g).natAbs < 2 ^ k := Nat.lt_of_le_of_lt (Int.natAbs_ediv_le_natAbs _ _) l2.bd
    refine ⟨_, rfl, _, _, _, _, _, rfl, hb, T.cls_Fraction, T.n_Fraction_den, rfl, _, rfl, _, _, rfl, rfl, divW g0 gb hk, _, rfl, fun sc es => ?_⟩
    subst es
    refine ⟨_, rfl, _, _, _, _, _, rfl, ha, T.cls_Fraction, T.n_Fraction_num, rfl, _, rfl, _, _, rfl, rfl, mulW l1.bn b2 (by omega), _, rfl, _, _, _, _, _, rfl, hb, T.cls_Fraction, T.n_Fraction_num, rfl, _, rfl, _, _, _, _, _, rfl, ha, T.cls_Fraction, T.n_Fraction_den, rfl, _, rfl, _, _, rfl, rfl, divW g0 gb hk, _, _, rfl, rfl, mulW l2.bn b1 (by omega), _, _, rfl, rfl, _, rfl, fun num en => ?_⟩
    rw [← en] at s0 f
    refine ⟨_, rfl, _, rfl, _, _, rfl, _, rfl, fun sh eh => ?_⟩
    rw [← eh] at s0 f
    have shl : sh.natAbs ≤ g.natAbs := by
      rw [eh, Int.natAbs_natCast]
      exact Nat.le_of_dvd (by omega) (Nat.gcd_dvd_right _ _)
    have shb : sh.natAbs < 2 ^ k := Nat.lt_of_le_of_lt shl gb
    have b3 : (d1 / sh).natAbs < 2 ^ k := Nat.lt_of_le_of_lt (Int.natAbs_ediv_le_natAbs _ _) l1.bd
    refine ⟨_, rfl, _, rfl, _, _, rfl, rfl, divW s0 shb hk, _, rfl, _, _, _, _, _, rfl, ha, T.cls_Fraction, T.n_Fraction_den, rfl, _, rfl, _, _, rfl, rfl, divW s0 shb hk, _, rfl, _, _, rfl, rfl, mulW b3 b2 (by omega), _, _, rfl, fun p dp H' n d sm np hp e => ?_⟩
    obtain ⟨rfl, rfl⟩ := e
    exact q p dp H' _ _ sm np hp f

theorem ok_Fraction___sub__ (T : Tx K mg) (O_Fraction___neg__ : OkF P w K mg base 4 (He.fAd K ("Fraction", some "__neg__")) ["self"] (spNeg K)) (O_Fraction___add__ : OkF P w K mg base 4 (He.fAd K ("Fraction", some "__add__")) ["self", "other"] (spAdd K)) : OkF P w K mg base 5 (He.fAd K ("Fraction", some "__sub__")) ["self", "other"] (spSub K) := by
  obtain ⟨_, G_Fraction___neg__, b_Fraction___neg__, k_Fraction___neg__⟩ := O_Fraction___neg__
  obtain ⟨_, G_Fraction___add__, b_Fraction___add__, k_Fraction___add__⟩ := O_Fraction___add__
  refine okF_of (d := d_Fraction___sub__) T.d_Fraction___sub__ rfl sc_Fraction___sub__ (fun _ _ _ _ _ _ us hl => match us, hl with | [_, _], _ => rfl) (fun vs H Q E h => ?_) (fun cdv A outer s H vs Q E hr h => ?_)
  · first | (obtain ⟨_, rfl, _⟩ := h; rfl) | (obtain ⟨_, _, rfl, _⟩ := h; rfl) | (obtain ⟨_, _, _, rfl, _⟩ := h; rfl) | (obtain ⟨_, _, _, _, rfl, _⟩ := h; rfl) | (obtain ⟨_, _, _, _, _, rfl, _⟩ := h; rfl) | (obtain ⟨_, _, _, _, _, _, rfl, _⟩ := h; rfl) | (obtain ⟨_, _, _, _, _, _, _, rfl, _⟩ := h; rfl) | (obtain ⟨_, _, _, _, _, _, _, _, rfl, _⟩ := h; rfl) | (obtain ⟨_, _, _, _, _, _, _, _, _, rfl, _⟩ := h; rfl) | (obtain ⟨_, _, _, _, _, _, _, _, _, _, rfl, _⟩ := h; rfl)
  · obtain ⟨a, b, da, db, n1, d1, n2, d2, k, rfl, ha, hb, l1, l2, hk, q⟩ := h
    refine ⟨_, (pss_one (ps_ret (pe_op (op_own2 T.first_Fraction T.s_Fraction___add__ T.f_Fraction___add__ G_Fraction___add__ (hr.mono (by decide)) b_Fraction___add__ passL) (pv 0) (pe_un (un_ownNeg T.s_Fraction___neg__ T.f_Fraction___neg__ G_Fraction___neg__ (hr.mono (by decide)) b_Fraction___neg__ passL) (pv 1))))), ?_⟩
    refine ⟨_, rfl, _, rfl, _, _, _, rfl, hb, _, _, _, _, rfl, hb, fun p dp H1 n d sm np hp e => ?_⟩
    obtain ⟨rfl, rfl⟩ := e
    have ha1 := sm _ _ ha
    refine ⟨_, _, _, _, _, _, rfl, rfl, ha1, hp, _, _, _, _, _, _, _, _, k, rfl, ha1, hp, l1, lw_neg l2, hk, fun p2 dp2 H2 n d3 sm2 np2 hp2 e2 => ?_⟩
    refine q p2 dp2 H2 _ _ (sm.trans sm2) (sm.free np2) hp2 ?_
    have z : n1 * d - n2 * d1 = n1 * d + -n2 * d1 := by grind
    rw [z]
    exact e2

theorem ok_closed_value (T : Tx K mg) (O_Quotient_at : OkN P w K mg base 7 (He.fAd K ("Quotient", some "at")) ["self", "k"] (spQAt K)) (O_Term_value : OkN P w K mg base 13 (He.fAd K ("Term", some "value")) ["self", "k"] (spTmV K)) (O_Fraction___mul__ : OkF P w K mg base 4 (He.fAd K ("Fraction", some "__mul__")) ["self", "other"] (spMul K)) (O_Fraction___sub__ : OkF P w K mg base 5 (He.fAd K ("Fraction", some "__sub__")) ["self", "other"] (spSub K)) : OkF P w K mg base 14 (He.fAd K ("closed_value", none)) ["term", "y", "last"] (spCV K) := by
  obtain ⟨_, G_Quotient_at, b_Quotient_at, k_Quotient_at⟩ := O_Quotient_at
  obtain ⟨_, G_Term_value, b_Term_value, k_Term_value⟩ := O_Term_value
  obtain ⟨_, G_Fraction___mul__, b_Fraction___mul__, k_Fraction___mul__⟩ := O_Fraction___mul__
  obtain ⟨_, G_Fraction___sub__, b_Fraction___sub__, k_Fraction___sub__⟩ := O_Fraction___sub__
  refine okF_of (d := d_closed_value) T.d_closed_value rfl sc_closed_value (fun _ _ _ _ _ _ us hl => match us, hl with | [_, _, _], _ => rfl) (fun vs H Q E h => ?_) (fun cdv A outer s H vs Q E hr h => ?_)
  · (obtain ⟨_, _, _, _, _, _, _, _, _, _, _, _, _, _, _, _, _, _, _, rfl, _⟩ := h; rfl)
  · obtain ⟨t, s, n, d, as, a, bs, b, y, cs, c, ds, e, x, kb, xb, L, ky, j, rfl, ht, hy, tv, s5, sx, cv, q⟩ := h
    refine ⟨_, (pss_one (ps_ret (pe_op (op_own2 T.first_Fraction T.s_Fraction___sub__ T.f_Fraction___sub__ G_Fraction___sub__ (hr.mono (by decide)) b_Fraction___sub__ passL) (pe_op (op_own2 T.first_Fraction T.s_Fraction___mul__ T.f_Fraction___mul__ G_Fraction___mul__ (hr.mono (by decide)) b_Fraction___mul__ passL) (pe_meth (pv 1) T.cls_Quotient T.m_Quotient_at G_Quotient_at (hr.mono (by decide)) b_Quotient_at .nil passLN (pa_cons (pe_op op_add (pv 2) pe_int) pa_nil)) (pe_meth (pv 0) T.cls_Term T.m_Term_value G_Term_value (hr.mono (by decide)) b_Term_value .nil passLN (pa_cons (pe_op op_add (pv 2) pe_int) pa_nil))) (pe_op (op_own2 T.first_Fraction T.s_Fraction___mul__ T.f_Fraction___mul__ G_Fraction___mul__ (hr.mono (by decide)) b_Fraction___mul__ passL) (pe_meth (pv 1) T.cls_Quotient T.m_Quotient_at G_Quotient_at (hr.mono (by decide)) b_Quotient_at .nil passLN (pa_cons (pe_fld (pv 0) rfl) pa_nil)) (pe_meth (pv 0) T.cls_Term T.m_Term_value G_Term_value (hr.mono (by decide)) b_Term_value .nil passLN (pa_cons (pe_fld (pv 0) rfl) pa_nil)))))), ?_⟩
    obtain ⟨dt, pf, df, x0, hta, hf, hx⟩ := id ht
    obtain ⟨dqy, uy, vy, hya, _, _⟩ := id hy
    have ex : x - 1 + 1 = x := by omega
    have ss0 : (s - s).toNat = 0 := by omega
    have sz := cv.sz
    refine ⟨_, rfl, _, _, _, rfl, hya, rfl, _, rfl, _, _, rfl, rfl, y, cs, c, ds, e, x, ky, j, by show [V.ref y, V.int (x - 1 + 1)] = _; rw [ex], hy, cv.c0, cv.e0, cv.gc, cv.ge, cv.bc, cv.bd, cv.xj, cv.lc, cv.ld, by omega, fun w => absurd w cv.n1, fun _ p1 dp1 H1 y1 z1 s1 np1 hp1 f1 => ?_⟩
    refine ⟨_, rfl, _, _, _, rfl, s1 _ _ hta, rfl, _, rfl, _, _, rfl, rfl, t, s, n, d, as, a, bs, b, x, kb, xb, L, by show [V.ref t, V.int (x - 1 + 1)] = _; rw [ex], ht.mono s1, tv, fun w => absurd w (by omega), fun _ p2 dp2 H2 v1 w1 s2 np2 hp2 f2 => ?_⟩
    have l1 := cv.at_ cv.xj cv.n1 f1
    have l2 := tv.lw5 s5 f2
    have s12 := s1.trans s2
    refine ⟨_, _, _, _, _, _, rfl, rfl, s2 _ _ hp1, hp2, p1, p2, dp1, dp2, y1, z1, v1, w1, 8000, rfl, s2 _ _ hp1, hp2, ⟨l1.pos, l1.cop, abs_mono l1.bn (by decide), abs_mono l1.bd (by decide)⟩, ⟨l2.pos, l2.cop, abs_mono l2.bn (by decide), abs_mono l2.bd (by decide)⟩, by decide, fun p3 dp3 H3 a1 b1 s3 np3 hp3 f3 => ?_⟩
    have s13 := s12.trans s3
    have l3 := l1.mul l2 f3
    refine ⟨_, rfl, _, _, _, rfl, s13 _ _ hya, rfl, _, rfl, _, _, _, _, _, rfl, s13 _ _ hta, T.cls_Term, T.n_Term_start, rfl, y, cs, c, ds, e, s, ky, j, rfl, hy.mono s13, cv.c0, cv.e0, cv.gc, cv.ge, cv.bc, cv.bd, cv.sj, cv.lc, cv.ld, by omega, fun w => absurd w cv.n0, fun _ p4 dp4 H4 y0 z0 s4 np4 hp4 f4 => ?_⟩
    have s14 := s13.trans s4
    refine ⟨_, rfl, _, _, _, rfl, s14 _ _ hta, rfl, _, rfl, _, _, _, _, _, rfl, s14 _ _ hta, T.cls_Term, T.n_Term_start, rfl, t, s, n, d, as, a, bs, b, s, kb, xb, L, rfl, ht.mono s14, by rw [ss0]; exact tv.mono (Nat.zero_le _), fun w => absurd w (by omega), fun _ p5 dp5 H5 v0 w0 s5' np5 hp5 f5 => ?_⟩
    rw [ss0] at f5
    have l4 := cv.at_ cv.sj cv.n0 f4
    have l5 := (tv.mono (Nat.zero_le _)).lw5 (by omega) f5
    have s15 := s14.trans s5'
    refine ⟨_, _, _, _, _, _, rfl, rfl, s5' _ _ hp4, hp5, p4, p5, dp4, dp5, y0, z0, v0, w0, 8000, rfl, s5' _ _ hp4, hp5, ⟨l4.pos, l4.cop, abs_mono l4.bn (by decide), abs_mono l4.bd (by decide)⟩, ⟨l5.pos, l5.cop, abs_mono l5.bn (by decide), abs_mono l5.bd (by decide)⟩, by decide, fun p6 dp6 H6 a0 b0 s6 np6 hp6 f6 => ?_⟩
    have l6 := l4.mul l5 f6
    have s46 := (s4.trans s5').trans s6
    have s16 := s13.trans s46
    have g1 := fq_pro f1 f2 f3
    have g0 := fq_pro f4 f5 f6
    rw [show prA (stL as a bs b s 0) = 1 from rfl, show prB (stL as a bs b s 0) = 1 from rfl, Int.mul_one, Int.mul_one] at g0
    refine ⟨_, _, _, _, _, _, rfl, rfl, s46 _ _ hp3, hp6, p3, p6, dp3, dp6, a1, b1, a0, b0, 7000, rfl, s46 _ _ hp3, hp6, l3, l6, by decide, fun p7 dp7 H7 N D s7 np7 hp7 f7 => ?_⟩
    exact q p7 dp7 H7 N D (s16.trans s7) (s16.free np7) hp7 (fq_dif g1 g0 f7)

theorem ok__law_at (T : Tx K mg) : OkF P w K mg base 1 (He.fAd K ("_law_at", none)) ["xs", "k"] (spLAtL K) := by
  refine okF_of (d := d__law_at) T.d__law_at rfl sc__law_at (fun _ _ _ _ _ _ us hl => match us, hl with | [_, _], _ => rfl) (fun vs H Q E h => ?_) (fun cdv A outer s H vs Q E hr h => ?_)
  · first | (obtain ⟨_, rfl, _⟩ := h; rfl) | (obtain ⟨_, _, rfl, _⟩ := h; rfl) | (obtain ⟨_, _, _, rfl, _⟩ := h; rfl) | (obtain ⟨_, _, _, _, rfl, _⟩ := h; rfl) | (obtain ⟨_, _, _, _, _, rfl, _⟩ := h; rfl) | (obtain ⟨_, _, _, _, _, _, rfl, _⟩ := h; rfl) | (obtain ⟨_, _, _, _, _, _, _, rfl, _⟩ := h; rfl) | (obtain ⟨_, _, _, _, _, _, _, _, rfl, _⟩ := h; rfl) | (obtain ⟨_, _, _, _, _, _, _, _, _, rfl, _⟩ := h; rfl) | (obtain ⟨_, _, _, _, _, _, _, _, _, _, rfl, _⟩ := h; rfl)
  · obtain ⟨a, cs, x, k, j, rfl, hS, hb0, hx, hk, q⟩ := h
    have hb := hb0.all
    refine ⟨_, (pss_cons (ps_setI (i := 2) sc__law_at.nd rfl (Or.inl rfl) pe_int)
      (pss_cons (ps_for PassesOwn.leaving rfl (RT.pi_revA (by rfl) T.z_reversed (pv 0)) (pg_name (i := 3) sc__law_at.nd rfl (Or.inl rfl)) (pss_one (ps_setI (i := 2) sc__law_at.nd rfl (Or.inl rfl) (pe_op op_add (pe_op op_mulW (pv 2) (pv 1)) (pv 3)))))
      (pss_one (ps_ret (pv 2))))), ?_⟩
    refine ⟨_, rfl, fun t0 et => ?_⟩
    refine ⟨_, rfl, _, _, rfl, .inl ⟨hS, RT.for_Itv (K := K) (a := a) (xs := cs.map V.int) (fun i σ' H' => H = H' ∧ ∃ (t : Int) (y : Option V), σ' = [some (.ref a), some (.int x), some (.int t), y] ∧ t = evL x (cs.drop (cs.length - i)))
      ⟨rfl, t0, none, rfl, by rw [et, Nat.sub_zero, List.drop_length]; rfl⟩ (fun i σ' H' hI => ?_) (fun i y σ' H' hlt hi hI => ?_) (fun σ' H' hI => ?_)⟩⟩
    · obtain ⟨rfl, t, y, rfl, ht⟩ := hI
      exact hS
    · obtain ⟨rfl, t, y0, rfl, ht⟩ := hI
      rw [len_map] at hlt hi
      obtain ⟨c, hc, rfl⟩ : ∃ c, cs[cs.length - 1 - i]? = some c ∧ y = V.int c := by
        rw [List.getElem?_map] at hi
        cases e : cs[cs.length - 1 - i]? with
        | none => rw [e] at hi; cases hi
        | some u => rw [e] at hi; cases hi; exact ⟨u, rfl, rfl⟩
      have tb := evL_bits hx (k := k) (cs := cs.drop (cs.length - i)) fun z hz => hb z (List.mem_of_mem_drop hz)
      rw [← ht, List.length_drop] at tb
      have le : (j + 1) * (cs.length - (cs.length - i)) ≤ (j + 1) * cs.length := Nat.mul_le_mul_left _ (by omega)
      rw [Nat.mul_add] at hk
      refine ⟨_, rfl, _, rfl, _, _, rfl, rfl, mulW tb hx (by omega), _, rfl, _, _, rfl, rfl, _, rfl, fun t2 e2 => ?_⟩
      refine ⟨rfl, t2, _, rfl, ?_⟩
      rw [e2, ht, drop_rev hc hlt]
      rfl
    · obtain ⟨rfl, t, y, rfl, ht⟩ := hI
      rw [len_map, Nat.sub_self, List.drop_zero] at ht
      rw [← ht] at q
      exact ⟨_, rfl, q⟩

theorem ok__law_total (T : Tx K mg) (O__law_at : OkF P w K mg base 1 (He.fAd K ("_law_at", none)) ["xs", "k"] (spLAtL K)) : OkF P w K mg base 2 (He.fAd K ("_law_total", none)) ["first", "parts", "start", "last"] (spLTot K) := by
  obtain ⟨_, G__law_at, b__law_at, k__law_at⟩ := O__law_at
  refine okF_of (d := d__law_total) T.d__law_total rfl sc__law_total (fun _ _ _ _ _ _ us hl => match us, hl with | [_, _, _, _], _ => rfl) (fun vs H Q E h => ?_) (fun cdv A outer s H vs Q E hr h => ?_)
  · (obtain ⟨_, _, _, _, _, _, _, _, _, _, _, _, _, _, rfl, _⟩ := h; rfl)
  · obtain ⟨pf, pp, p0, p1, f1, f2, xs, dx, ys, dy, s, x, kb, jb, rfl, hf, hp, ⟨l0, h0, g0⟩, ⟨l1, h1, g1⟩, bx, by_, bdx, bdy, bf1, bf2, lx, ly, sb, sx, x19, k100, rfl, q⟩ := h
    refine ⟨_, (pss_cons (ps_setI (i := 4) sc__law_total.nd rfl (Or.inl rfl) (pe_ix ix_tup (pv 0) pe_int (fun _ _ => rfl)))
      (pss_cons (ps_setI (i := 5) sc__law_total.nd rfl (Or.inl rfl) (pe_ix ix_tup (pv 0) pe_int (fun _ _ => rfl)))
      (pss_cons (ps_setI (i := 6) sc__law_total.nd rfl (Or.inl rfl) pe_int)
      (pss_cons (ps_setI (i := 7) sc__law_total.nd rfl (Or.inl rfl) pe_int)
      (pss_cons (ps_for PassesOwn.leaving rfl (pi_range2 rfl T.z_range (pa_cons (pv 2) (pa_cons (pe_op op_add (pv 3) pe_int) pa_nil))) (pg_name (i := 8) sc__law_total.nd rfl (Or.inl rfl)) (pss_cons (ps_setI (i := 6) sc__law_total.nd rfl (Or.inl rfl) (pe_op op_add (pe_op op_mulW (pv 6) (pv 5)) (pe_op op_mulW (pv 4) (pv 7))))
      (pss_cons (ps_setI (i := 7) sc__law_total.nd rfl (Or.inl rfl) (pe_op op_mulW (pv 7) (pv 5)))
      (pss_cons (ps_setI (i := 4) sc__law_total.nd rfl (Or.inl rfl) (pe_op op_mulW (pe_op op_mulW (pv 4) (pe_call G__law_at (hr.mono (by decide)) (by rfl) T.g__law_at k__law_at b__law_at .nil passL (pa_cons (pe_ix ix_tup (pe_ix ix_list (pv 1) pe_int (fun _ _ => rfl)) pe_int (fun _ _ => rfl)) (pa_cons (pv 8) pa_nil)))) (pe_ix ix_tup (pe_ix ix_list (pv 1) pe_int (fun _ _ => rfl)) pe_int (fun _ _ => rfl))))
      (pss_one (ps_setI (i := 5) sc__law_total.nd rfl (Or.inl rfl) (pe_op op_mulW (pe_op op_mulW (pv 5) (pe_ix ix_tup (pe_ix ix_list (pv 1) pe_int (fun _ _ => rfl)) pe_int (fun _ _ => rfl))) (pe_call G__law_at (hr.mono (by decide)) (by rfl) T.g__law_at k__law_at b__law_at .nil passL (pa_cons (pe_ix ix_tup (pe_ix ix_list (pv 1) pe_int (fun _ _ => rfl)) pe_int (fun _ _ => rfl)) (pa_cons (pv 8) pa_nil))))))))))
      (pss_one (ps_ret (pe_tup (pa_cons (pv 6) (pa_cons (pv 7) pa_nil)))))))))), ?_⟩
    refine ⟨_, rfl, _, _, _, _, rfl, rfl, SqT.of hf, atI_nat (j := 0) rfl, _, rfl, fun n0 en => ?_⟩
    refine ⟨_, rfl, _, _, _, _, rfl, rfl, SqT.of hf, atI_nat (j := 1) rfl, _, rfl, fun d0 ed => ?_⟩
    refine ⟨_, rfl, fun tn0 etn => ?_⟩
    refine ⟨_, rfl, fun td0 etd => ?_⟩
    obtain ⟨N, eN⟩ : ∃ N, N = ttN (fun i => evL (s + (i : Int)) xs * dy) f1 := ⟨_, rfl⟩
    obtain ⟨D, eD⟩ : ∃ D, D = ttN (fun i => dx * evL (s + (i : Int)) ys) f2 := ⟨_, rfl⟩
    rw [← eN, ← eD] at q
    have e20 : (2 : Nat) ^ 20 = 1048576 := by decide
    have zb : ∀ i : Nat, i < 20 → (s + (i : Int)).natAbs < 2 ^ 22 := fun i hi => by omega
    have xb : ∀ i : Nat, i < 20 → (evL (s + (i : Int)) xs).natAbs < 2 ^ 600 := fun i hi => abs_mono (evL_bits (zb i hi) bx.all) (by omega)
    have yb : ∀ i : Nat, i < 20 → (evL (s + (i : Int)) ys).natAbs < 2 ^ 600 := fun i hi => abs_mono (evL_bits (zb i hi) by_.all) (by omega)
    have nb : ∀ i, i ≤ 20 → (N i).natAbs < 2 ^ (700 * (i + 1)) := by
      rw [eN]
      exact ttN_bits (abs_mono bf1 (by omega)) fun i hi => abs_mono (abs_lt_mul (xb i hi) bdy) (by omega)
    have db : ∀ i, i ≤ 20 → (D i).natAbs < 2 ^ (700 * (i + 1)) := by
      rw [eD]
      exact ttN_bits (abs_mono bf2 (by omega)) fun i hi => abs_mono (abs_lt_mul bdx (yb i hi)) (by omega)
    have nb2 : ∀ i, i < 20 → (N i).natAbs < 2 ^ (700 * 20) := fun i hi => abs_mono (nb i (by omega)) (by omega)
    have db2 : ∀ i, i < 20 → (D i).natAbs < 2 ^ (700 * 20) := fun i hi => abs_mono (db i (by omega)) (by omega)
    refine ⟨_, rfl, _, rfl, _, _, rfl, rfl, _, _, rfl, ⟨by omega, by omega, by omega, by omega⟩, for_range (lo := s) (n := (x - 1 + 1 - s).toNat) (fun i σ' H' => H = H' ∧ ∃ (n d tn td : Int) (y : Option V), σ' = [some (.ref pf), some (.ref pp), some (.int s), some (.int (x - 1)), some (.int n), some (.int d), some (.int tn), some (.int td), y] ∧ n = N i ∧ d = D i ∧ tn = ttS N D i ∧ td = ttD N D i)
      ⟨rfl, n0, d0, tn0, td0, none, rfl, by rw [en, eN]; rfl, by rw [ed, eD]; rfl, etn, etd⟩ (fun i σ' H' hi hI => ?_) (fun σ' H' hI => ?_)⟩
    · obtain ⟨rfl, n, d, tn, td, y, rfl, hn, hd, htn, htd⟩ := hI
      have i20 : i < 20 := by omega
      have bn : n.natAbs < 2 ^ 14000 := by rw [hn]; exact nb2 i i20
      have bd : d.natAbs < 2 ^ 14000 := by rw [hd]; exact db2 i i20
      have btn : tn.natAbs < 2 ^ 300000 := by rw [htn]; exact abs_mono (ttS_bits nb2 db2 i (by omega)) (by omega)
      have btd : td.natAbs < 2 ^ 300000 := by rw [htd]; exact abs_mono (ttD_bits (N := N) db2 i (by omega)) (by omega)
      refine ⟨_, rfl, _, rfl, _, _, rfl, rfl, mulW btn bd (by decide), _, rfl, _, rfl, _, _, rfl, rfl, mulW bn btd (by decide), _, _, rfl, rfl, _, rfl, fun tn2 e1 => ?_⟩
      refine ⟨_, rfl, _, rfl, _, _, rfl, rfl, mulW btd bd (by decide), _, rfl, fun td2 e2 => ?_⟩
      refine ⟨_, rfl, _, rfl, _, _, _, _, rfl, rfl, SqL.of (hp), atI_nat (j := 0) rfl, _, _, _, _, rfl, rfl, SqT.of (h0), atI_nat (j := 0) rfl, _, rfl, l0, xs, s + (i : Int), kb, 22, rfl, SqL.of g0, bx, zb i i20, by omega, ?_⟩
      refine ⟨_, _, rfl, rfl, mulW bn (xb i i20) (by decide), _, rfl, _, _, _, _, rfl, rfl, SqL.of (hp), atI_nat (j := 1) rfl, _, _, _, _, rfl, rfl, SqT.of (h1), atI_nat (j := 1) rfl, _, _, rfl, rfl, mulW (abs_lt_mul bn (xb i i20)) (abs_mono bdy (show kb ≤ 600 by omega)) (by decide), _, rfl, fun n2 e3 => ?_⟩
      refine ⟨_, rfl, _, rfl, _, _, _, _, rfl, rfl, SqL.of (hp), atI_nat (j := 0) rfl, _, _, _, _, rfl, rfl, SqT.of (h0), atI_nat (j := 1) rfl, _, _, rfl, rfl, mulW bd (abs_mono bdx (show kb ≤ 600 by omega)) (by decide), _, rfl, _, _, _, _, rfl, rfl, SqL.of (hp), atI_nat (j := 1) rfl, _, _, _, _, rfl, rfl, SqT.of (h1), atI_nat (j := 0) rfl, _, rfl, l1, ys, s + (i : Int), kb, 22, rfl, SqL.of g1, by_, zb i i20, by omega, ?_⟩
      refine ⟨_, _, rfl, rfl, mulW (abs_lt_mul bd (abs_mono bdx (show kb ≤ 600 by omega))) (yb i i20) (by decide), _, rfl, fun d2 e4 => ?_⟩
      refine ⟨rfl, n2, d2, tn2, td2, _, rfl, ?_, ?_, ?_, ?_⟩
      · rw [e3, hn, eN, Int.mul_assoc]; rfl
      · rw [e4, hd, eD, Int.mul_assoc]; rfl
      · rw [e1, htn, hn, hd, htd]; rfl
      · rw [e2, htd, hd]; rfl
    · obtain ⟨rfl, n, d, tn, td, y, rfl, hn, hd, htn, htd⟩ := hI
      have en : (x - 1 + 1 - s).toNat = (x - s).toNat := by omega
      rw [en] at htn htd
      refine ⟨_, rfl, _, rfl, by show 2 ≤ sizeLine; decide, fun t nt => ?_⟩
      exact q t _ (sm_new nt) nt (by rw [upd_same, htn, htd])

end
section
variable {P : Program} {w : World} {K : PySem.W.Frag} {mg : Str → Option Value}
theorem ok_law (T : Tx K mg) (O__law_cell : ∀ base, OkF P w K mg base 1 (He.fAd K ("_law_cell", none)) ["script", "k"] (spCell K)) (O__law_digits : ∀ base, OkF P w K mg base 1 (He.fAd K ("_law_digits", none)) ["cell", "limit", "count"] (spDigL K)) (O__law_closed_form : ∀ base, OkF P w K mg base 5 (He.fAd K ("_law_closed_form", none)) ["script", "at", "most"] (spLCF K)) (O__law_ratio : ∀ base, OkF P w K mg base 4 (He.fAd K ("_law_ratio", none)) ["s", "q"] (spLRat K)) (O__law_poly : ∀ base, OkF P w K mg base 4 (He.fAd K ("_law_poly", none)) ["part"] (spLPo K)) (O_Quotient___init__ : ∀ base, OkF P w K mg base 9 (He.fAd K ("Quotient", some "__init__")) ["self", "num", "den"] (spQuI K)) (O_Fraction___init__ : ∀ base, OkD P w K mg base 1 (He.fAd K ("Fraction", some "__init__")) ["self", "num", "den"] (He.Dv.v K (.int 1)) (spInit K)) (O_Term___init__ : ∀ base, OkF P w K mg base 12 (He.fAd K ("Term", some "__init__")) ["self", "start", "first", "ratio"] (spTmI K)) (O_closed_value : ∀ base, OkF P w K mg base 14 (He.fAd K ("closed_value", none)) ["term", "y", "last"] (spCV K)) (O__law_total : ∀ base, OkF P w K mg base 2 (He.fAd K ("_law_total", none)) ["first", "parts", "start", "last"] (spLTot K)) : ∃ fd : FuncData, (∀ (s : Shared) (v : Value), BindsTo s fd ⟨[v], []⟩ [("script", v)]) ∧ ∀ base : Heap, FnOk P w K mg base CX0 15 (He.fAd K ("law", none)) fd ["script"] (spLaw K) := by
  refine okLaw_of (d := d_law) T.d_law rfl sc_law (fun _ _ _ _ _ _ us hl => match us, hl with | [_], _ => rfl) (fun vs H Q E h => by obtain ⟨_, _, rfl, _⟩ := h; rfl) (fun base cdv A outer s H vs Q E hr h => ?_)
  · obtain ⟨_, G__law_cell, b__law_cell, k__law_cell⟩ := O__law_cell base
    obtain ⟨_, G__law_digits, b__law_digits, k__law_digits⟩ := O__law_digits base
    obtain ⟨_, G__law_closed_form, b__law_closed_form, k__law_closed_form⟩ := O__law_closed_form base
    obtain ⟨_, G__law_ratio, b__law_ratio, k__law_ratio⟩ := O__law_ratio base
    obtain ⟨_, G__law_poly, b__law_poly, k__law_poly⟩ := O__law_poly base
    obtain ⟨_, G_Quotient___init__, b_Quotient___init__, k_Quotient___init__⟩ := O_Quotient___init__ base
    obtain ⟨_, G_Fraction___init__, b_Fraction___init__, ⟨_, v_Fraction___init__, bd_Fraction___init__⟩, k_Fraction___init__⟩ := O_Fraction___init__ base
    obtain ⟨_, G_Term___init__, b_Term___init__, k_Term___init__⟩ := O_Term___init__ base
    obtain ⟨_, G_closed_value, b_closed_value, k_closed_value⟩ := O_closed_value base
    obtain ⟨_, G__law_total, b__law_total, k__law_total⟩ := O__law_total base
    obtain ⟨aS, ns, rfl, hS, hl, q⟩ := h
    refine ⟨_, (pss_cons (ps_set (i := 1) sc_law.nd rfl (Or.inl rfl) (pe_call G__law_digits (hr.mono (by decide)) (by rfl) T.g__law_digits k__law_digits b__law_digits .nil passL (pa_cons (pe_call G__law_cell (hr.mono (by decide)) (by rfl) T.g__law_cell k__law_cell b__law_cell .nil passL (pa_cons (pv 0) (pa_cons pe_int pa_nil))) (pa_cons pe_int (pa_cons pe_int pa_nil)))))
      (pss_cons (ps_set (i := 2) sc_law.nd rfl (Or.inl rfl) (pe_call G__law_closed_form (hr.mono (by decide)) (by rfl) T.g__law_closed_form k__law_closed_form b__law_closed_form .nil passL (pa_cons (pv 0) (pa_cons pe_int (pa_cons pe_int pa_nil)))))
      (pss_cons (ps_set (i := 3) sc_law.nd rfl (Or.inl rfl) (pe_call G__law_ratio (hr.mono (by decide)) (by rfl) T.g__law_ratio k__law_ratio b__law_ratio .nil passL (pa_cons (pe_ix ix_list (pv 2) pe_int (fun _ _ => rfl)) (pa_cons (pe_ix ix_list (pv 2) pe_int (fun _ _ => rfl)) pa_nil))))
      (pss_cons (ps_setI (i := 4) sc_law.nd rfl (Or.inl rfl) (pe_op op_add pe_int (pe_op op_mod (pe_callTy call_int1 (by rfl) T.z_int (by decide +kernel) (pa_cons (pe_ix ix_list (pv 1) pe_int (fun _ _ => rfl)) pa_nil)) pe_int)))
      (pss_cons (ps_setI (i := 5) sc_law.nd rfl (Or.inl rfl) (pe_op op_add (pe_op op_sub (pv 4) pe_int) (pe_op op_mod (pe_callTy call_int1 (by rfl) T.z_int (by decide +kernel) (pa_cons (pe_ix ix_list (pv 1) pe_int (fun _ _ => rfl)) pa_nil)) pe_int)))
      (pss_cons (ps_set (i := 6) sc_law.nd rfl (Or.inl rfl) (pe_tup (pa_cons (pe_ix ix_list (pe_lst (pa_cons (pe_un un_neg pe_int) (pa_cons (pe_un un_neg pe_int) (pa_cons (pe_un un_neg pe_int) (pa_cons pe_int (pa_cons pe_int (pa_cons pe_int pa_nil))))))) (pe_op op_mod (pe_callTy call_int1 (by rfl) T.z_int (by decide +kernel) (pa_cons (pe_ix ix_list (pv 1) pe_int (fun _ _ => rfl)) pa_nil)) pe_int) (fun _ _ => rfl)) (pa_cons (pe_op op_add (pe_op op_mod (pe_callTy call_int1 (by rfl) T.z_int (by decide +kernel) (pa_cons (pe_op op_fdiv (pe_ix ix_list (pv 1) pe_int (fun _ _ => rfl)) pe_int) pa_nil)) pe_int) pe_int) pa_nil))))
      (pss_cons (ps_set (i := 7) sc_law.nd rfl (Or.inl rfl) (pe_makeI T.mk_Quotient G_Quotient___init__ (hr.mono (by decide)) (by rfl) T.g_Quotient b_Quotient___init__ .nil passL (mkQu_conv K []) (pa_cons (pe_call G__law_poly (hr.mono (by decide)) (by rfl) T.g__law_poly k__law_poly b__law_poly .nil passL (pa_cons (pe_ix ix_list (pv 3) pe_int (fun _ _ => rfl)) pa_nil)) (pa_cons (pe_call G__law_poly (hr.mono (by decide)) (by rfl) T.g__law_poly k__law_poly b__law_poly .nil passL (pa_cons (pe_ix ix_list (pv 3) pe_int (fun _ _ => rfl)) pa_nil)) pa_nil))))
      (pss_cons (ps_set (i := 8) sc_law.nd rfl (Or.inl rfl) (pe_makeI T.mk_Term G_Term___init__ (hr.mono (by decide)) (by rfl) T.g_Term b_Term___init__ .nil passL (mkTm_conv K []) (pa_cons (pv 4) (pa_cons (pe_makeI T.mk_Fraction G_Fraction___init__ (hr.mono (by decide)) (by rfl) T.g_Fraction b_Fraction___init__ .nil passL (mkFr_conv K []) (pa_cons (pe_ix ix_tup (pv 6) pe_int (fun _ _ => rfl)) (pa_cons (pe_ix ix_tup (pv 6) pe_int (fun _ _ => rfl)) pa_nil))) (pa_cons (pv 7) pa_nil)))))
      (pss_cons (ps_set (i := 9) sc_law.nd rfl (Or.inl rfl) (pe_makeI T.mk_Quotient G_Quotient___init__ (hr.mono (by decide)) (by rfl) T.g_Quotient b_Quotient___init__ .nil passL (mkQu_conv K []) (pa_cons (pe_call G__law_poly (hr.mono (by decide)) (by rfl) T.g__law_poly k__law_poly b__law_poly .nil passL (pa_cons (pe_ix ix_list (pv 2) pe_int (fun _ _ => rfl)) pa_nil)) (pa_cons (pe_call G__law_poly (hr.mono (by decide)) (by rfl) T.g__law_poly k__law_poly b__law_poly .nil passL (pa_cons (pe_ix ix_list (pv 2) pe_int (fun _ _ => rfl)) pa_nil)) pa_nil))))
      (pss_cons (ps_set (i := 10) sc_law.nd rfl (Or.inl rfl) (pe_call G_closed_value (hr.mono (by decide)) (by rfl) T.g_closed_value k_closed_value b_closed_value .nil passL (pa_cons (pv 8) (pa_cons (pv 9) (pa_cons (pv 5) pa_nil)))))
      (pss_cons (ps_set (i := 11) sc_law.nd rfl (Or.inl rfl) (pe_call G__law_total (hr.mono (by decide)) (by rfl) T.g__law_total k__law_total b__law_total .nil passL (pa_cons (pv 6) (pa_cons (pv 3) (pa_cons (pv 4) (pa_cons (pv 5) pa_nil))))))
      (pss_cons (ps_if (PW.pt (pw_or (pt_not (pt_val (pe_callB call_isi (by rfl) T.z_isinstance (by decide +kernel) (pa_cons (pv 10) (pa_cons (pe_glob (v := .ref (He.ga K "Fraction")) rfl T.g_Fraction rfl) pa_nil))))) (pw_or (pt_not (pt_val (pe_callB call_isi (by rfl) T.z_isinstance (by decide +kernel) (pa_cons (pe_fld (pv 10) rfl) (pa_cons (pe_bltn (v := .ty "int") rfl T.z_int (by decide +kernel) rfl) pa_nil))))) (pw_or1 (pt_not (pt_val (pe_callB call_isi (by rfl) T.z_isinstance (by decide +kernel) (pa_cons (pe_fld (pv 10) rfl) (pa_cons (pe_bltn (v := .ty "int") rfl T.z_int (by decide +kernel) rfl) pa_nil))))))))) (pss_one (ps_ret pe_bl)) pss_nil)
      (pss_cons (ps_if (PW.pt (pw_or (pt_val (pe_callB call_isi (by rfl) T.z_isinstance (by decide +kernel) (pa_cons (pe_fld (pv 10) rfl) (pa_cons (pe_bltn (v := .ty "bool") rfl T.z_bool (by decide +kernel) rfl) pa_nil)))) (pw_or1 (pt_cmpR op_lt (pe_fld (pv 10) rfl) pe_int (nomark _))))) (pss_one (ps_ret pe_bl)) pss_nil)
      (pss_one (ps_ret (pe_cmpR op_eq (pe_op op_mulW (pe_fld (pv 10) rfl) (pe_ix ix_tup (pv 11) pe_int (fun _ _ => rfl))) (pe_op op_mulW (pe_ix ix_tup (pv 11) pe_int (fun _ _ => rfl)) (pe_fld (pv 10) rfl)) (nomark _))))))))))))))))), ?_⟩
    refine ⟨_, rfl, aS, ns, 0, rfl, hS, by decide, fun c0 => ?_⟩
    refine ⟨c0, 60, 3, rfl, by decide, by decide, by decide, by decide, fun pch H1 ms s1 npc hpc hl0 hb => ?_⟩
    have ml : ms.length = 3 := hl0
    have g0 := get_of_lt (xs := ms) (k := 0) (by omega)
    have g1 := get_of_lt (xs := ms) (k := 1) (by omega)
    have g2 := get_of_lt (xs := ms) (k := 2) (by omega)
    refine ⟨_, rfl, aS, ns, rfl, s1.seq hS, fun pfo H2 ps pq xs d ys e s2 npf hpf hs hq C => ?_⟩
    replace hpc := s2 _ _ hpc
    clear s1 s2 npc npf hS
    have d0 := C.d0
    have e0 := C.e0
    have dz := C.dz
    have ez := C.ez
    have lx := C.lx
    have ly := C.ly
    have bx : Bits 14 xs := bits_of_at fun i => Nat.lt_of_le_of_lt (C.xz i) (by decide)
    have by_ : Bits 14 ys := bits_of_at fun i => Nat.lt_of_le_of_lt (C.yz i) (by decide)
    refine ⟨_, rfl, _, _, _, _, rfl, rfl, SqL.of (hpf), atI_nat (j := 0) rfl, _, rfl, _, _, _, _, rfl, rfl, SqL.of (hpf), atI_nat (j := 1) rfl, ps, pq, xs, ys, d, e, 14, rfl, hs, hq, bx, by_, by omega, by omega, by omega, by omega, by decide, fun pr H3 p0 p1 zs g ws h us xs1 ys1 s3 npr hpr h0 h1 R => ?_⟩
    replace hpc := s3 _ _ hpc
    replace hpf := s3 _ _ hpf
    replace hs := hs.mono s3
    replace hq := hq.mono s3
    have A := raF C R
    have lz := R.lz
    have lw := R.lw
    clear s3 npr R
    refine ⟨_, rfl, _, _, _, _, rfl, rfl, SqL.of (hpc), at_of (j := 0) (by omega) (map_at g0), .inl ⟨_, rfl, _, _, rfl, rfl, (show (0 : Int) < 6 by decide), _, _, rfl, rfl, _, rfl, fun s es => ?_⟩⟩
    have s10 : 10 ≤ s := by omega
    have s15 : s ≤ 15 := by omega
    clear es
    refine ⟨_, rfl, _, _, rfl, rfl, _, rfl, _, _, _, _, rfl, rfl, SqL.of (hpc), at_of (j := 1) (by omega) (map_at g1), .inl ⟨_, rfl, _, _, rfl, rfl, (show (0 : Int) < 10 by decide), _, _, rfl, rfl, _, rfl, fun last el => ?_⟩⟩
    obtain ⟨x, rfl, x1, x2⟩ : ∃ x : Int, last = x - 1 ∧ s ≤ x ∧ x ≤ s + 9 := ⟨last + 1, by omega, by omega, by omega⟩
    clear el
    refine ⟨_, rfl, _, rfl, _, rfl, by show 6 ≤ sizeLine; decide, fun pl npl => ?_⟩
    have s4 := sm_new (o := .lst [V.int (-9), V.int (-2), V.int (-1), V.int 1, V.int 2, V.int 5]) npl
    have hpl : (upd H3 pl (.lst [V.int (-9), V.int (-2), V.int (-1), V.int 1, V.int 2, V.int 5])) pl = some (.lst (([-9, -2, -1, 1, 2, 5] : List Int).map V.int)) := upd_same
    generalize upd H3 pl (.lst [V.int (-9), V.int (-2), V.int (-1), V.int 1, V.int 2, V.int 5]) = H4 at s4 hpl ⊢
    replace hpc := s4 _ _ hpc
    replace hpf := s4 _ _ hpf
    replace hpr := s4 _ _ hpr
    replace hs := hs.mono s4
    replace hq := hq.mono s4
    replace h0 := h0.mono s4
    replace h1 := h1.mono s4
    clear s4 npl
    obtain ⟨j, ej, j6⟩ : ∃ j : Nat, (j : Int) = ms.getD 2 0 % 6 ∧ j < 6 := ⟨(ms.getD 2 0 % 6).toNat, by omega, by omega⟩
    have gl := get_of_lt (xs := [-9, -2, -1, 1, 2, 5]) (k := j) j6
    have al : ([-9, -2, -1, 1, 2, 5] : List Int).getD j 0 ≠ 0 ∧ (([-9, -2, -1, 1, 2, 5] : List Int).getD j 0).natAbs ≤ 9 := by
      rcases (by omega : j = 0 ∨ j = 1 ∨ j = 2 ∨ j = 3 ∨ j = 4 ∨ j = 5) with rfl | rfl | rfl | rfl | rfl | rfl <;> decide
    refine ⟨_, rfl, _, _, _, _, rfl, rfl, SqL.of (hpc), at_of (j := 2) (by omega) (map_at g2), .inl ⟨_, rfl, _, _, rfl, rfl, (show (0 : Int) < 6 by decide), _, _, _, _, rfl, rfl, SqL.of hpl, at_of (j := j) (by omega) (map_at gl), ?_⟩⟩
    refine ⟨_, rfl, _, _, _, _, rfl, rfl, SqL.of (hpc), at_of (j := 2) (by omega) (map_at g2), _, _, rfl, rfl, ⟨by decide, by decide⟩, .inl ⟨_, rfl, _, _, rfl, rfl, (show (0 : Int) < 4 by decide), _, _, rfl, rfl, by show 2 ≤ sizeLine; decide, fun pfi npi => ?_⟩⟩
    obtain ⟨f1, ef1⟩ : ∃ f1 : Int, ([-9, -2, -1, 1, 2, 5] : List Int).getD j 0 = f1 := ⟨_, rfl⟩
    obtain ⟨f2, ef2⟩ : ∃ f2 : Int, ms.getD 2 0 / 6 % 4 + 1 = f2 := ⟨_, rfl⟩
    rw [ef1] at al
    have f21 : 1 ≤ f2 := by omega
    have f24 : f2 ≤ 4 := by omega
    obtain ⟨f10, f19⟩ := al
    have s5 := sm_new (o := .tup [V.int (([-9, -2, -1, 1, 2, 5] : List Int).getD j 0), V.int (ms.getD 2 0 / 6 % 4 + 1)]) npi
    have hfi : (upd H4 pfi (.tup [V.int (([-9, -2, -1, 1, 2, 5] : List Int).getD j 0), V.int (ms.getD 2 0 / 6 % 4 + 1)])) pfi = some (.tup [.int f1, .int f2]) := by rw [ef1, ef2]; exact upd_same
    generalize upd H4 pfi (.tup [V.int (([-9, -2, -1, 1, 2, 5] : List Int).getD j 0), V.int (ms.getD 2 0 / 6 % 4 + 1)]) = H5 at s5 hfi ⊢
    replace hpf := s5 _ _ hpf
    replace hpr := s5 _ _ hpr
    replace hs := hs.mono s5
    replace hq := hq.mono s5
    replace h0 := h0.mono s5
    replace h1 := h1.mono s5
    clear s5 npi hpl hpc ej j6 gl ef1 ef2 hb
    have hz := A.hz
    have gz := A.gz
    have hh0 := A.h0
    have gg0 := A.g0
    refine ⟨_, rfl, _, _, _, _, rfl, rfl, SqL.of (hpr), atI_nat (j := 0) rfl, p0, zs, g, 14, rfl, h0, by omega, by omega, by decide, by omega, fun a1 H6 k1 e1 s6 na1 hp1 q1 => ?_⟩
    refine ⟨_, rfl, _, _, _, _, rfl, rfl, SqL.of (s6 _ _ hpr), atI_nat (j := 1) rfl, p1, ws, h, 14, rfl, h1.mono s6, by omega, by omega, by decide, by omega, fun a2 H7 k2 e2 s7 na2 hp2 q2 => ?_⟩
    obtain ⟨m, m5, DX⟩ := evZ A.zup (A.nz 10 (by decide))
    obtain ⟨nn, n5, DY⟩ := evZ A.wup (A.nw 10 (by decide))
    have jne : k2 ≠ [] := pq_neT q2 DY.top
    have bz : Bits 28 zs := bits_of_at fun i => Nat.lt_of_le_of_lt (A.zsz i) (by decide)
    have bw : Bits 28 ws := bits_of_at fun i => Nat.lt_of_le_of_lt (A.wsz i) (by decide)
    have k1l : k1.length ≤ 5 := pq_upT q1 (by omega) fun i hi => A.zup i hi
    have k2l : k2.length ≤ 5 := pq_upT q2 (by omega) fun i hi => A.wup i hi
    have ok : QuOk k1 e1 k2 e2 28 _ _ := mk_okT (q1.bits (by omega) bz) (q2.bits (by omega) bw) (by omega) (by omega) q1.last q2.last jne (Nat.lt_of_le_of_lt (q1.den_le (by omega)) (by omega)) (Nat.lt_of_le_of_lt (q2.den_le (by omega)) (by omega)) (by decide)
    refine ⟨a1, a2, k1, k2, e1, e2, _, _, _, rfl, hp1.mono s7, hp2, q1.self, q2.self, jne, ok, fun z H8 as a bs b s8 nz hzq qt => ?_⟩
    have qn := qn_of q1 q2 (by omega) (by omega) qt
    rw [← ff_sc, ← ff_sc] at qn
    have RT := rt43 A qn
    have s68 := (s6.trans s7).trans s8
    replace hpf := s68 _ _ hpf
    replace hpr := s68 _ _ hpr
    replace hs := hs.mono s68
    replace hq := hq.mono s68
    replace h0 := h0.mono s68
    replace h1 := h1.mono s68
    replace hfi := s68 _ _ hfi
    clear s6 s7 s8 s68 na1 na2 nz hp1 hp2 q1 q2 qt ok jne k1l k2l DX DY
    refine ⟨_, rfl, _, rfl, _, _, _, _, rfl, rfl, SqT.of (hfi), atI_nat (j := 0) rfl, _, rfl, _, _, _, _, rfl, rfl, SqT.of (hfi), atI_nat (j := 1) rfl, f1, f2, 8, rfl, by omega, by decide, by omega, fun pf df H9 n dn s9 npf1 hf fq => ?_⟩
    have n0 := fq_nz fq f10
    refine ⟨_, rfl, s, pf, df, n, dn, z, as, a, bs, b, rfl, hf, hzq.mono s9, RT.rt, ⟨n0, RT.ane, fun u hu => (RT.nz u (by omega)).1, fun u hu => (RT.nz u (by omega)).2⟩, fun t H10 s10' nt ht => ?_⟩
    have s910 := s9.trans s10'
    replace hpf := s910 _ _ hpf
    replace hpr := s910 _ _ hpr
    replace hs := hs.mono s910
    replace hq := hq.mono s910
    replace h0 := h0.mono s910
    replace h1 := h1.mono s910
    replace hfi := s910 _ _ hfi
    clear s9 s10' s910 npf1 nt hf hzq
    refine ⟨_, rfl, _, _, _, _, rfl, rfl, SqL.of (hpf), atI_nat (j := 0) rfl, ps, xs, d, 14, rfl, hs, by omega, by omega, by decide, by omega, fun a1 H11 k1 e1 s6 na1 hp1 q1 => ?_⟩
    refine ⟨_, rfl, _, _, _, _, rfl, rfl, SqL.of (s6 _ _ hpf), atI_nat (j := 1) rfl, pq, ys, e, 14, rfl, hq.mono s6, by omega, by omega, by decide, by omega, fun a2 H12 k2 e2 s7 na2 hp2 q2 => ?_⟩
    obtain ⟨m2, m5', DX⟩ := evZ (n := 3) (fun i hi => getD_end (xs := xs) (by omega)) (C.nx 10 (by decide))
    obtain ⟨nn2, n5', DY⟩ := evZ (n := 3) (fun i hi => getD_end (xs := ys) (by omega)) (C.ny 10 (by decide))
    have jne : k2 ≠ [] := pq_neT q2 DY.top
    have k1l : k1.length ≤ 3 := pq_upT q1 (by omega) fun i hi => getD_end (by omega)
    have k2l : k2.length ≤ 3 := pq_upT q2 (by omega) fun i hi => getD_end (by omega)
    have ok : QuOk k1 e1 k2 e2 14 _ _ := mk_okT (q1.bits (by omega) bx) (q2.bits (by omega) by_) (by omega) (by omega) q1.last q2.last jne (Nat.lt_of_le_of_lt (q1.den_le (by omega)) (by omega)) (Nat.lt_of_le_of_lt (q2.den_le (by omega)) (by omega)) (by decide)
    refine ⟨a1, a2, k1, k2, e1, e2, _, _, _, rfl, hp1.mono s7, hp2, q1.self, q2.self, jne, ok, fun y H13 cs c ds b2 s8 ny hy qt => ?_⟩
    have qy := qn_of q1 q2 (by omega) (by omega) qt
    rw [← ff_sc, ← ff_sc] at qy
    have CY := cy43 C qy
    have s68 := (s6.trans s7).trans s8
    replace ht := ht.mono s68
    replace hpr := s68 _ _ hpr
    replace h0 := h0.mono s68
    replace h1 := h1.mono s68
    replace hfi := s68 _ _ hfi
    clear s6 s7 s8 s68 na1 na2 ny hp1 hp2 q1 q2 qt ok jne k1l k2l DX DY hpf hs hq
    obtain ⟨mm, rfl⟩ : ∃ mm : Nat, x = s + mm := ⟨(x - s).toNat, by omega⟩
    have m9 : mm ≤ 9 := by omega
    have emm : (s + (mm : Int) - s).toNat = mm := by omega
    have r := RT.rt
    have tv : TvOk s n dn as a bs b 90 6 9 mm := ⟨⟨fq.pos, fq.cop, Nat.lt_of_le_of_lt (fq.num_le (by omega)) (by omega), Nat.lt_of_le_of_lt (fq.den_le (by omega)) (by omega)⟩, r.ba, r.bb, r.ga, r.gb, r.sa.pos, r.la, r.lb, fun u hu => (RT.nz u (by omega)).2, fun i hi => by omega, by omega, by omega, by omega, by decide⟩
    have cvk : CvOk s (s + mm) cs c ds b2 40 5 := ⟨CY.c0, CY.b0, CY.gc, CY.gb, CY.bc, CY.bd, by omega, by omega, by have := CY.lc; omega, by have := CY.ld; omega, by decide, CY.nz s s10, CY.nz _ (by omega)⟩
    refine ⟨_, rfl, _, rfl, _, rfl, t, s, n, dn, as, a, bs, b, y, cs, c, ds, b2, s + mm, 90, 6, 9, 40, 5, rfl, ht, hy, by rw [emm]; exact tv, by rw [emm]; omega, by omega, cvk, fun pa da H14 u v s14 npa hpa fu => ?_⟩
    rw [emm] at fu
    refine ⟨_, rfl, _, rfl, _, rfl, _, rfl, pfi, pr, p0, p1, f1, f2, zs, g, ws, h, s, s + mm, 28, 22, rfl, s14 _ _ hfi, s14 _ _ hpr, h0.mono s14, h1.mono s14, bz, bw, by omega, by omega, by omega, by omega, by omega, by omega, by omega, by omega, by omega, by decide, rfl, fun pe H15 s15' npe hpe => ?_⟩
    rw [emm] at hpe
    replace hpa := s15' _ _ hpa
    have sz := size43 bz bw lz lw s10 s15 (f1 := f1) (f2 := f2) (g := g) (h := h) (by omega) (by omega) (by omega) (by omega) m9
    have su := sizeU tv CY s10 s15 m9 (by have := fq.pos; omega) fu
    have key := fin43 C A qn qy fq s10 (by omega) (m := mm)
    have fe := fu.eq
    have vp := fu.pos
    have fin : u * ttD (ttN (fun i => evL (s + (i : Int)) zs * h) f1) (ttN (fun i => g * evL (s + (i : Int)) ws) f2) mm = ttS (ttN (fun i => evL (s + (i : Int)) zs * h) f1) (ttN (fun i => g * evL (s + (i : Int)) ws) f2) mm * v := by
      apply Int.eq_of_mul_eq_mul_left su.nz
      generalize ttD (ttN (fun i => evL (s + (i : Int)) zs * h) f1) (ttN (fun i => g * evL (s + (i : Int)) ws) f2) mm = P at key ⊢
      generalize ttS (ttN (fun i => evL (s + (i : Int)) zs * h) f1) (ttN (fun i => g * evL (s + (i : Int)) ws) f2) mm = S at key ⊢
      generalize (evL (s + (mm : Int)) cs * b2 * (n * prA (stL as a bs b s mm)) * (c * evL s ds * dn) - evL s cs * b2 * n * (c * evL (s + (mm : Int)) ds * (dn * prB (stL as a bs b s mm)))) = X at key fe
      generalize (c * evL (s + (mm : Int)) ds * (dn * prB (stL as a bs b s mm)) * (c * evL s ds * dn)) = Y at key fe ⊢
      calc Y * (u * P) = (u * Y) * P := by ac_rfl
        _ = X * v * P := by rw [fe]
        _ = (X * P) * v := by ac_rfl
        _ = S * Y * v := by rw [key]
        _ = Y * (S * v) := by ac_rfl
    obtain ⟨szS, szD⟩ := sz
    obtain ⟨_, suU, suV⟩ := su
    clear key fe fu cvk tv CY RT qn qy A C
    generalize ttD (ttN (fun i => evL (s + (i : Int)) zs * h) f1) (ttN (fun i => g * evL (s + (i : Int)) ws) f2) mm = P at *
    generalize ttS (ttN (fun i => evL (s + (i : Int)) zs * h) f1) (ttN (fun i => g * evL (s + (i : Int)) ws) f2) mm = S at *
    refine ⟨_, rfl, _, _, _, _, true, rfl, .own _, T.ty_Fraction hpa, kit_same _, _, rfl, iteN rfl ?_⟩
    refine ⟨_, rfl, _, _, _, _, _, rfl, hpa, T.cls_Fraction, T.n_Fraction_num, rfl, _, _, _, _, true, rfl, .ty _, .base (.int _), kit_ty (by decide +kernel), _, rfl, iteN rfl ?_⟩
    refine ⟨_, rfl, _, _, _, _, _, rfl, hpa, T.cls_Fraction, T.n_Fraction_den, rfl, _, _, _, _, true, rfl, .ty _, .base (.int _), kit_ty (by decide +kernel), _, rfl, iteN rfl ?_⟩
    refine ⟨_, rfl, _, _, _, _, _, rfl, hpa, T.cls_Fraction, T.n_Fraction_num, rfl, _, _, _, _, false, rfl, .ty _, .base (.int _), kit_ty (by decide +kernel), _, rfl, iteN rfl ?_⟩
    refine ⟨_, rfl, _, _, _, _, _, rfl, hpa, T.cls_Fraction, T.n_Fraction_den, rfl, _, _, rfl, rfl, _, rfl, iteN (decide_eq_false (by omega)) ?_⟩
    refine ⟨_, rfl, _, _, _, _, _, rfl, hpa, T.cls_Fraction, T.n_Fraction_num, rfl, _, rfl, _, _, _, _, rfl, rfl, SqT.of (hpe), atI_nat (j := 1) rfl, _, _, rfl, rfl, mulW suU szD (by decide), _, rfl, _, _, _, _, rfl, rfl, SqT.of (hpe), atI_nat (j := 0) rfl, _, rfl, _, _, _, _, _, rfl, hpa, T.cls_Fraction, T.n_Fraction_den, rfl, _, _, rfl, rfl, mulW szS suV (by decide), rfl, ?_⟩
    rw [veq fin]
    exact q _
theorem whole (T : Tx K mg) (hP : SupP P) : ∃ fd : FuncData, (∀ (s : Shared) (v : Value), BindsTo s fd ⟨[v], []⟩ [("script", v)]) ∧ ∀ base : Heap, FnOk P w K mg base CX0 15 (He.fAd K ("law", none)) fd ["script"] (spLaw K) := by
  have O__law_cell : ∀ base, OkF P w K mg base 1 (He.fAd K ("_law_cell", none)) ["script", "k"] (spCell K) := fun base => ok__law_cell T
  have O__law_digits : ∀ base, OkF P w K mg base 1 (He.fAd K ("_law_digits", none)) ["cell", "limit", "count"] (spDigL K) := fun base => ok__law_digits T
  have O__law_factors : ∀ base, OkF P w K mg base 2 (He.fAd K ("_law_factors", none)) ["cell", "most"] (spLFs K) := fun base => ok__law_factors T (O__law_digits base)
  have O__law_lead : ∀ base, OkF P w K mg base 2 (He.fAd K ("_law_lead", none)) ["cell"] (spLLd K) := fun base => ok__law_lead T (O__law_digits base)
  have O__law_trim : ∀ base, OkF P w K mg base 1 (He.fAd K ("_law_trim", none)) ["xs"] (spTri K) := fun base => ok__law_trim T
  have O__law_mul : ∀ base, OkF P w K mg base 2 (He.fAd K ("_law_mul", none)) ["xs", "ys"] (spLMl K) := fun base => ok__law_mul T (O__law_trim base)
  have O__law_expand : ∀ base, OkF P w K mg base 3 (He.fAd K ("_law_expand", none)) ["factors", "lead"] (spLEx K) := fun base => ok__law_expand T (O__law_mul base)
  have O__law_scale : ∀ base, OkF P w K mg base 2 (He.fAd K ("_law_scale", none)) ["xs", "factor"] (spLSc K) := fun base => ok__law_scale T (O__law_trim base)
  have O__law_sum : ∀ base, OkF P w K mg base 2 (He.fAd K ("_law_sum", none)) ["xs", "ys"] (spLSm K) := fun base => ok__law_sum T (O__law_trim base)
  have O__law_plus : ∀ base, OkF P w K mg base 3 (He.fAd K ("_law_plus", none)) ["a", "b"] (spLPp K) := fun base => ok__law_plus T (O__law_scale base) (O__law_sum base)
  have O__law_is_small : ∀ base, OkF P w K mg base 1 (He.fAd K ("_law_is_small", none)) ["xs"] (spLSml K) := fun base => ok__law_is_small T
  have O__law_closed_form : ∀ base, OkF P w K mg base 5 (He.fAd K ("_law_closed_form", none)) ["script", "at", "most"] (spLCF K) := fun base => ok__law_closed_form T (O__law_cell base) (O__law_factors base) (O__law_lead base) (O__law_expand base) (O__law_plus base) (O__law_is_small base) (O__law_scale base)
  have O__law_shift : ∀ base, OkF P w K mg base 1 (He.fAd K ("_law_shift", none)) ["xs", "step"] (spLSh K) := fun base => ok__law_shift T
  have O__law_move : ∀ base, OkF P w K mg base 3 (He.fAd K ("_law_move", none)) ["part", "step"] (spLMv K) := fun base => ok__law_move T (O__law_shift base)
  have O__law_times : ∀ base, OkF P w K mg base 3 (He.fAd K ("_law_times", none)) ["a", "b"] (spLTm K) := fun base => ok__law_times T (O__law_mul base)
  have O__law_ratio : ∀ base, OkF P w K mg base 4 (He.fAd K ("_law_ratio", none)) ["s", "q"] (spLRat K) := fun base => ok__law_ratio T (O__law_plus base) (O__law_move base) (O__law_times base)
  have O_trimmed : ∀ base, OkF P w K mg base 1 (He.fAd K ("trimmed", none)) ["coefs"] (spTrim K) := fun base => ok_trimmed T
  have O_common_factor : ∀ base, OkF P w K mg base 1 (He.fAd K ("common_factor", none)) ["numbers"] (spCom K) := fun base => ok_common_factor T
  have O_Poly___init__ : ∀ base, OkD P w K mg base 2 (He.fAd K ("Poly", some "__init__")) ["self", "coefs", "den"] (He.Dv.v K (.int 1)) (spPInit K) := fun base => ok_Poly___init__ T (O_trimmed base) (O_common_factor base)
  have O__law_poly : ∀ base, OkF P w K mg base 4 (He.fAd K ("_law_poly", none)) ["part"] (spLPo K) := fun base => ok__law_poly T (O_Poly___init__ base)
  have O_Poly_is_zero : ∀ base, OkF P w K mg base 1 (gtAd K (He.ga K "Poly") "is_zero") ["self"] (spPZer K) := fun base => ok_Poly_is_zero T
  have O_monic : ∀ base, OkF P w K mg base 4 (He.fAd K ("monic", none)) ["p"] (spMon K) := fun base => ok_monic T (O_Poly_is_zero base) (O_Poly___init__ base)
  have O_primitive : ∀ base, OkF P w K mg base 2 (He.fAd K ("primitive", none)) ["coefs"] (spPrm K) := fun base => ok_primitive T (O_common_factor base)
  have O_remainders : ∀ base, OkF P w K mg base 2 (He.fAd K ("remainders", none)) ["coefs", "modulus"] (spRems K) := fun base => ok_remainders T (O_trimmed base)
  have O_inverse_modulo : ∀ base, OkF P w K mg base 1 (He.fAd K ("inverse_modulo", none)) ["number", "modulus"] (spInv K) := fun base => ok_inverse_modulo T
  have O_divided_modulo : ∀ base, OkF P w K mg base 2 (He.fAd K ("divided_modulo", none)) ["first", "second", "modulus"] (spDMd K) := fun base => ok_divided_modulo T (O_inverse_modulo base) (O_trimmed base)
  have O_divisor_modulo : ∀ base, OkF P w K mg base 3 (He.fAd K ("divisor_modulo", none)) ["first", "second", "prime"] (spDvM K) := fun base => ok_divisor_modulo T (O_remainders base) (O_divided_modulo base)
  have O_coprime_modulo : ∀ base, OkF P w K mg base 4 (He.fAd K ("coprime_modulo", none)) ["first", "second", "prime"] (spCpM K) := fun base => ok_coprime_modulo T (O_divisor_modulo base)
  have O_height : ∀ base, OkF P w K mg base 1 (He.fAd K ("height", none)) ["coefs"] (spHeiB K) := fun base => ok_height T
  have O_evaluated : ∀ base, OkF P w K mg base 1 (He.fAd K ("evaluated", none)) ["coefs", "at"] (spEvaB K) := fun base => ok_evaluated T
  have O__digits : ∀ base, OkF P w K mg base 1 (He.fAd K ("_digits", none)) ["number", "base"] (spDig K) := fun base => ok__digits T
  have O__divide_coefs : ∀ base, OkF P w K mg base 1 (He.fAd K ("_divide_coefs", none)) ["first", "second"] (spDivC K) := fun base => ok__divide_coefs T
  have O_divide : ∀ base, OkF P w K mg base 4 (He.fAd K ("divide", none)) ["p", "q"] (spDivide K) := fun base => ok_divide T (O_Poly_is_zero base) (O__divide_coefs base) (O_Poly___init__ base)
  have O__divides : ∀ base, OkF P w K mg base 5 (He.fAd K ("_divides", none)) ["q", "coefs"] (spDvs K) := fun base => ok__divides T (O_Poly___init__ base) (O_divide base) (O_Poly_is_zero base)
  have O__divisor_by_values : ∀ base, OkF P w K mg base 6 (He.fAd K ("_divisor_by_values", none)) ["first", "second"] (spDBV K) := fun base => ok__divisor_by_values T (O_height base) (O_evaluated base) (O__digits base) (O_primitive base) (O_Poly___init__ base) (O__divides base)
  have O_common_divisor : ∀ base, OkF P w K mg base 7 (He.fAd K ("common_divisor", none)) ["p", "q"] (spCDv K) := fun base => ok_common_divisor T (O_Poly_is_zero base) (O_monic base) (O_primitive base) (O_coprime_modulo base) (O_Poly___init__ base) (O__divisor_by_values base)
  have O_exact : ∀ base, OkF P w K mg base 5 (He.fAd K ("exact", none)) ["p", "q"] (spExact K) := fun base => ok_exact T (O_divide base)
  have O_Fraction___init__ : ∀ base, OkD P w K mg base 1 (He.fAd K ("Fraction", some "__init__")) ["self", "num", "den"] (He.Dv.v K (.int 1)) (spInit K) := fun base => ok_Fraction___init__ T
  have O_Poly_degree : ∀ base, OkF P w K mg base 1 (gtAd K (He.ga K "Poly") "degree") ["self"] (spPDeg K) := fun base => ok_Poly_degree T
  have O_Poly_coefficient : ∀ base, OkF P w K mg base 3 (He.fAd K ("Poly", some "coefficient")) ["self", "index"] (spPCo K) := fun base => ok_Poly_coefficient T (O_Poly_degree base) (O_Fraction___init__ base)
  have O_Poly_lead : ∀ base, OkF P w K mg base 4 (gtAd K (He.ga K "Poly") "lead") ["self"] (spPLe K) := fun base => ok_Poly_lead T (O_Poly_degree base) (O_Poly_coefficient base)
  have O_Fraction_is_zero : ∀ base, OkF P w K mg base 1 (gtAd K (He.ga K "Fraction") "is_zero") ["self"] (spZero K) := fun base => ok_Fraction_is_zero T
  have O__in_lowest_terms : ∀ base, OkF P w K mg base 3 (He.fAd K ("_in_lowest_terms", none)) ["num", "den"] (spLow K) := fun base => ok__in_lowest_terms T (O_Fraction___init__ base)
  have O_Fraction___mul__ : ∀ base, OkF P w K mg base 4 (He.fAd K ("Fraction", some "__mul__")) ["self", "other"] (spMul K) := fun base => ok_Fraction___mul__ T (O__in_lowest_terms base)
  have O_Fraction_over : ∀ base, OkF P w K mg base 5 (He.fAd K ("Fraction", some "over")) ["self", "other"] (spOver K) := fun base => ok_Fraction_over T (O_Fraction_is_zero base) (O_Fraction___init__ base) (O_Fraction___mul__ base)
  have O_Poly_scaled : ∀ base, OkF P w K mg base 4 (He.fAd K ("Poly", some "scaled")) ["self", "factor"] (spPSca K) := fun base => ok_Poly_scaled T (O_Poly___init__ base)
  have O_Quotient___init__ : ∀ base, OkF P w K mg base 9 (He.fAd K ("Quotient", some "__init__")) ["self", "num", "den"] (spQuI K) := fun base => ok_Quotient___init__ T (O_Poly_is_zero base) (O_common_divisor base) (O_exact base) (O_Fraction___init__ base) (O_Poly_lead base) (O_Fraction_over base) (O_Poly_scaled base) (O_monic base)
  have O_Quotient_is_zero : ∀ base, OkF P w K mg base 3 (gtAd K (He.ga K "Quotient") "is_zero") ["self"] (spQuZ K) := fun base => ok_Quotient_is_zero T (O_Poly_is_zero base)
  have O__refuse_zero : ∀ base, OkF P w K mg base 3 (He.fAd K ("_refuse_zero", none)) ["p"] (spRefZ K) := fun base => ok__refuse_zero T (O_Poly_is_zero base)
  have O_derivative : ∀ base, OkF P w K mg base 1 (He.fAd K ("derivative", none)) ["coefs"] (spDer K) := fun base => ok_derivative T
  have O_without_multiple_roots : ∀ base, OkF P w K mg base 8 (He.fAd K ("without_multiple_roots", none)) ["p"] (spWMR K) := fun base => ok_without_multiple_roots T (O_derivative base) (O_Poly___init__ base) (O_common_divisor base) (O_exact base)
  have O__is_prime : ∀ base, OkF P w K mg base 1 (He.fAd K ("_is_prime", none)) ["number"] (spIsP K) := fun base => ok__is_prime T
  have O_next_prime : ∀ base, OkF P w K mg base 2 (He.fAd K ("next_prime", none)) ["number"] (spNxP K) := fun base => ok_next_prime T (O__is_prime base)
  have O__roots_modulo : ∀ base, OkF P w K mg base 2 (He.fAd K ("_roots_modulo", none)) ["coefs", "prime"] (spRtM K) := fun base => ok__roots_modulo T (O_evaluated base)
  have O__prime_with_simple_roots : ∀ base, OkF P w K mg base 3 (He.fAd K ("_prime_with_simple_roots", none)) ["coefs"] (spPwS K) := fun base => ok__prime_with_simple_roots T (O_derivative base) (O_next_prime base) (O__roots_modulo base) (O_evaluated base)
  have O_value_modulo : ∀ base, OkF P w K mg base 1 (He.fAd K ("value_modulo", none)) ["coefs", "at", "modulus"] (spVMo K) := fun base => ok_value_modulo T
  have O__lifted : ∀ base, OkF P w K mg base 2 (He.fAd K ("_lifted", none)) ["coefs", "residue", "prime"] (spLft K) := fun base => ok__lifted T (O_height base) (O_derivative base) (O_evaluated base) (O_inverse_modulo base) (O_value_modulo base)
  have O__whole_roots : ∀ base, OkF P w K mg base 9 (He.fAd K ("_whole_roots", none)) ["p"] (spWhR K) := fun base => ok__whole_roots T (O_Poly_degree base) (O_without_multiple_roots base) (O__prime_with_simple_roots base) (O__lifted base) (O_evaluated base)
  have O_roots_from : ∀ base, OkK P w K mg base 10 (He.fAd K ("roots_from", none)) ["p", "start"] 1 ["start"] (spRtS K) := fun base => ok_roots_from T (O__refuse_zero base) (O__whole_roots base)
  have O_Term___init__ : ∀ base, OkF P w K mg base 12 (He.fAd K ("Term", some "__init__")) ["self", "start", "first", "ratio"] (spTmI K) := fun base => ok_Term___init__ T (O_Fraction_is_zero base) (O_Quotient_is_zero base) (O_roots_from base)
  have O_Poly_at : ∀ base, OkF P w K mg base 3 (He.fAd K ("Poly", some "at")) ["self", "k"] (spPAt K) := fun base => ok_Poly_at T (O_evaluated base) (O_Fraction___init__ base)
  have O_Pole___init__ : ∀ base, OkF P w K mg base 1 (He.fAd K ("Pole", some "__init__")) ["self", "where"] (spPoleI K) := fun base => ok_Pole___init__ T hP
  have O_Quotient_at : ∀ base, OkN P w K mg base 7 (He.fAd K ("Quotient", some "at")) ["self", "k"] (spQAt K) := fun base => ok_Quotient_at T (O_Poly_at base) (O_Fraction_is_zero base) (O_Pole___init__ base) (O_Fraction_over base)
  have O_BeforeStart___init__ : ∀ base, OkF P w K mg base 1 (He.fAd K ("BeforeStart", some "__init__")) ["self", "index"] (spBeforeStartI K) := fun base => ok_BeforeStart___init__ T hP
  have O__steps : ∀ base, OkF P w K mg base 3 (He.fAd K ("_steps", none)) ["ratio", "low", "high"] (spStp K) := fun base => ok__steps T (O_evaluated base)
  have O__product : ∀ base, OkF P w K mg base 12 (He.fAd K ("_product", none)) ["steps"] (spPrd0 K) := fun base => ok__product T
  have O_Term_value : ∀ base, OkN P w K mg base 13 (He.fAd K ("Term", some "value")) ["self", "k"] (spTmV K) := fun base => ok_Term_value T (O_BeforeStart___init__ base) (O__steps base) (O__product base) (O_Fraction___init__ base) (O_Fraction___mul__ base)
  have O_Fraction___neg__ : ∀ base, OkF P w K mg base 4 (He.fAd K ("Fraction", some "__neg__")) ["self"] (spNeg K) := fun base => ok_Fraction___neg__ T (O__in_lowest_terms base)
  have O_Fraction___add__ : ∀ base, OkF P w K mg base 4 (He.fAd K ("Fraction", some "__add__")) ["self", "other"] (spAdd K) := fun base => ok_Fraction___add__ T (O__in_lowest_terms base)
  have O_Fraction___sub__ : ∀ base, OkF P w K mg base 5 (He.fAd K ("Fraction", some "__sub__")) ["self", "other"] (spSub K) := fun base => ok_Fraction___sub__ T (O_Fraction___neg__ base) (O_Fraction___add__ base)
  have O_closed_value : ∀ base, OkF P w K mg base 14 (He.fAd K ("closed_value", none)) ["term", "y", "last"] (spCV K) := fun base => ok_closed_value T (O_Quotient_at base) (O_Term_value base) (O_Fraction___mul__ base) (O_Fraction___sub__ base)
  have O__law_at : ∀ base, OkF P w K mg base 1 (He.fAd K ("_law_at", none)) ["xs", "k"] (spLAtL K) := fun base => ok__law_at T
  have O__law_total : ∀ base, OkF P w K mg base 2 (He.fAd K ("_law_total", none)) ["first", "parts", "start", "last"] (spLTot K) := fun base => ok__law_total T (O__law_at base)
  exact ok_law T O__law_cell O__law_digits O__law_closed_form O__law_ratio O__law_poly O_Quotient___init__ O_Fraction___init__ O_Term___init__ O_closed_value O__law_total
end
theorem tx_of {K : PySem.W.Frag} {h : Heap} {mg : Str → Option Value} (X : K.In h) (G : h.Ns mainGlobals mg) (c : SaysG faL fnL exL K) (cs : SupSays supL K) : Tx K mg :=
  ⟨He.cls_ok (c.fact 0),
   He.cls_ok (c.fact 1),
   He.cls_ok (c.fact 2),
   He.cls_ok (c.fact 3),
   c.dn DN_Fraction___add__,
   c.dn DN_Fraction___init__,
   c.dn DN_Fraction___mul__,
   c.dn DN_Fraction___neg__,
   c.dn DN_Fraction___sub__,
   c.dn DN_Fraction_is_zero,
   c.dn DN_Fraction_over,
   c.dn DN_Poly___init__,
   c.dn DN_Poly_at,
   c.dn DN_Poly_coefficient,
   c.dn DN_Poly_degree,
   c.dn DN_Poly_is_zero,
   c.dn DN_Poly_lead,
   c.dn DN_Poly_scaled,
   c.dn DN_Quotient___init__,
   c.dn DN_Quotient_at,
   c.dn DN_Quotient_is_zero,
   c.dn DN_Term___init__,
   c.dn DN_Term_value,
   c.dn DN__digits,
   c.dn DN__divide_coefs,
   c.dn DN__divides,
   c.dn DN__divisor_by_values,
   c.dn DN__in_lowest_terms,
   c.dn DN__is_prime,
   c.dn DN__law_at,
   c.dn DN__law_cell,
   c.dn DN__law_closed_form,
   c.dn DN__law_digits,
   c.dn DN__law_expand,
   c.dn DN__law_factors,
   c.dn DN__law_is_small,
   c.dn DN__law_lead,
   c.dn DN__law_move,
   c.dn DN__law_mul,
   c.dn DN__law_plus,
   c.dn DN__law_poly,
   c.dn DN__law_ratio,
   c.dn DN__law_scale,
   c.dn DN__law_shift,
   c.dn DN__law_sum,
   c.dn DN__law_times,
   c.dn DN__law_total,
   c.dn DN__law_trim,
   c.dn DN__lifted,
   c.dn DN__prime_with_simple_roots,
   c.dn DN__product,
   c.dn DN__refuse_zero,
   c.dn DN__roots_modulo,
   c.dn DN__steps,
   c.dn DN__whole_roots,
   c.dn DN_closed_value,
   c.dn DN_common_divisor,
   c.dn DN_common_factor,
   c.dn DN_coprime_modulo,
   c.dn DN_derivative,
   c.dn DN_divide,
   c.dn DN_divided_modulo,
   c.dn DN_divisor_modulo,
   c.dn DN_evaluated,
   c.dn DN_exact,
   c.dn DN_height,
   c.dn DN_inverse_modulo,
   c.dn DN_law,
   c.dn DN_monic,
   c.dn DN_next_prime,
   c.dn DN_primitive,
   c.dn DN_remainders,
   c.dn DN_roots_from,
   c.dn DN_trimmed,
   c.dn DN_value_modulo,
   c.dn DN_without_multiple_roots,
   (He.meth_ok (c.fact 4)).fn,
   (He.meth_ok (c.fact 5)).fn,
   (He.meth_ok (c.fact 6)).fn,
   (He.meth_ok (c.fact 7)).fn,
   c.more 0,
   He.glo_ok X G (c.fact 8),
   He.glo_ok X G (c.fact 9),
   He.glo_ok X G (c.fact 10),
   He.glo_ok X G (c.fact 11),
   He.int_ok X G (c.fact 12),
   He.glo_ok X G (c.fact 13),
   He.glo_ok X G (c.fact 14),
   He.glo_ok X G (c.fact 15),
   He.glo_ok X G (c.fact 16),
   He.glo_ok X G (c.fact 17),
   He.glo_ok X G (c.fact 18),
   He.glo_ok X G (c.fact 19),
   He.glo_ok X G (c.fact 20),
   He.glo_ok X G (c.fact 21),
   He.glo_ok X G (c.fact 22),
   He.glo_ok X G (c.fact 23),
   He.glo_ok X G (c.fact 24),
   He.glo_ok X G (c.fact 25),
   He.glo_ok X G (c.fact 26),
   He.glo_ok X G (c.fact 27),
   He.glo_ok X G (c.fact 28),
   He.glo_ok X G (c.fact 29),
   He.glo_ok X G (c.fact 30),
   He.glo_ok X G (c.fact 31),
   He.glo_ok X G (c.fact 32),
   He.glo_ok X G (c.fact 33),
   He.glo_ok X G (c.fact 34),
   He.glo_ok X G (c.fact 35),
   He.glo_ok X G (c.fact 36),
   He.glo_ok X G (c.fact 37),
   He.glo_ok X G (c.fact 38),
   He.glo_ok X G (c.fact 39),
   He.glo_ok X G (c.fact 40),
   He.glo_ok X G (c.fact 41),
   He.glo_ok X G (c.fact 42),
   He.glo_ok X G (c.fact 43),
   He.glo_ok X G (c.fact 44),
   He.glo_ok X G (c.fact 45),
   He.glo_ok X G (c.fact 46),
   He.glo_ok X G (c.fact 47),
   He.glo_ok X G (c.fact 48),
   He.glo_ok X G (c.fact 49),
   He.glo_ok X G (c.fact 50),
   He.glo_ok X G (c.fact 51),
   He.glo_ok X G (c.fact 52),
   He.glo_ok X G (c.fact 53),
   He.glo_ok X G (c.fact 54),
   He.glo_ok X G (c.fact 55),
   He.glo_ok X G (c.fact 56),
   He.glo_ok X G (c.fact 57),
   He.glo_ok X G (c.fact 58),
   He.glo_ok X G (c.fact 59),
   PySem.W.mg_of X G (He.eqO_ok (c.more 1)),
   He.glo_ok X G (c.fact 60),
   He.glo_ok X G (c.fact 61),
   He.glo_ok X G (c.fact 62),
   He.glo_ok X G (c.fact 63),
   He.glo_ok X G (c.fact 64),
   He.glo_ok X G (c.fact 65),
   He.glo_ok X G (c.fact 66),
   He.glo_ok X G (c.fact 67),
   He.glo_ok X G (c.fact 68),
   He.glo_ok X G (c.fact 69),
   He.glo_ok X G (c.fact 70),
   (He.exc_ok (c.fact 71)).2.1,
   (He.exc_ok (c.fact 72)).2.1,
   (He.exc_ok (c.fact 73)).2.1,
   He.meth_ok (c.fact 74),
   He.meth_ok (c.fact 75),
   He.meth_ok (c.fact 76),
   He.meth_ok (c.fact 77),
   He.meth_ok (c.fact 78),
   He.meth_ok (c.fact 79),
   He.mkr_ok (c.fact 80),
   He.mkr_ok (c.fact 81),
   He.mkr_ok (c.fact 82),
   He.mkr_ok (c.fact 83),
   He.noat_ok (c.fact 84),
   He.noat_ok (c.fact 85),
   He.noat_ok (c.fact 86),
   He.noat_ok (c.fact 87),
   He.noat_ok (c.fact 88),
   He.noat_ok (c.fact 89),
   He.noat_ok (c.fact 90),
   He.noat_ok (c.fact 91),
   He.noat_ok (c.fact 92),
   He.eqO_ok (c.more 2),
   He.eqO_ok (c.more 3),
   propB_ok (c.more 4),
   propB_ok (c.more 5),
   propB_ok (c.more 6),
   propB_ok (c.more 7),
   propB_ok (c.more 8),
   @fun X e => by subst e; exact raises_own (He.exc_ok (c.fact 71)).2.2.1 (He.exc_ok (c.fact 71)).2.2.2,
   @fun X e => by subst e; exact raises_own (He.exc_ok (c.fact 72)).2.2.1 (He.exc_ok (c.fact 72)).2.2.2,
   @fun X e => by subst e; exact raises_own (He.exc_ok (c.fact 73)).2.2.1 (He.exc_ok (c.fact 73)).2.2.2,
   (He.meth_ok (c.fact 4)).at_,
   (He.meth_ok (c.fact 5)).at_,
   (He.meth_ok (c.fact 6)).at_,
   (He.meth_ok (c.fact 7)).at_,
   supD (d := d_BeforeStart___init__) (cs.at_ 0) (c.more 9),
   supD (d := d_Pole___init__) (cs.at_ 1) (c.more 10),
   @fun H a dx fs e => .base (.ins e (He.cls_ok (c.fact 0)) (He.eqO_ok (c.more 11)) (He.eqO_ok (c.more 12)) (of_decide_eq_true (c.more 13)) (of_decide_eq_true (c.more 14))),
   (He.exc_ok (c.fact 71)).1,
   (He.exc_ok (c.fact 72)).1,
   (He.exc_ok (c.fact 73)).1,
   He.free_ok X G (c.fact 93),
   He.free_ok X G (c.fact 94),
   He.free_ok X G (c.fact 95),
   He.free_ok X G (c.fact 96),
   He.free_ok X G (c.fact 97),
   He.free_ok X G (c.fact 98),
   He.free_ok X G (c.fact 99),
   He.free_ok X G (c.fact 100),
   He.free_ok X G (c.fact 101),
   He.free_ok X G (c.fact 102),
   He.free_ok X G (c.fact 103),
   He.free_ok X G (c.fact 104),
   He.free_ok X G (c.fact 105),
   He.free_ok X G (c.fact 106)⟩
end CB
open PySem PySem.W PyProof.Rows
set_option maxHeartbeats 0 in
theorem PySem.Challenge.cw_certsums_k43_closed_value_holds : PySem.Challenge.rw_certsums_k43_closed_value.Holds := by
  refine CB.head0 ?_
  refine L2.walk_ofE (l := PySem.Challenge.rw_certsums_k43_closed_value) (n := 63) (k := 15) (x := "script") (CX := L2.CX0) rfl (by decide) (by kernel_rfl) ⟨rfl, by decide, by decide⟩ ?F (fun _ _ _ _ z => z)
  intro w mg fa h Y G hmg0
  obtain ⟨K, KX, c, cs⟩ := Y
  have hmg : mg ("law" : PySem.Str) = some (.ref fa) := by
    have e : (HandSHeadRun.topDef CB.R.prog 88).name = ("law" : PySem.Str) := by kernel_rfl
    rw [← e]
    exact hmg0
  have T : CB.Tx K mg := CB.tx_of KX G c cs
  obtain ⟨fd, hb, hF⟩ := CB.whole (P := (PySem.Challenge.rw_certsums_k43_closed_value).prog) (w := w) T ⟨by kernel_rfl, by kernel_rfl⟩
  cases (T.g_law.symm.trans hmg)
  exact ⟨K, fd, CB.spLaw K, KX, hb, fun H a ns hl _ hS => ⟨a, ns, rfl, hS, hl, fun _ => rfl⟩, fun base _ _ => hF base⟩
