import PyProof.Rows.All
import Wide.All
import OpenK.AllK
import Wide.FinOn
import KE.KStateDown
import KE.KMathGC
import KE.KOpsOwn
import Lean
import HandS.ForMost
import HandS.Exc
import HandS.ExcOwn
import HandS.ExcIs
import HandS.TryOnly
import HandS.WordsExc
import HandS.Defaults
import HandS.IsInst
import HandS.Wide
import HandS.WideBits
import HandS.Gcd
import HandS.Property
import HandS.OwnEq
import HandS.Flow
import HandS.Evl
import HandS.Head0
import HandS.Head1
import HandS.Head2
import HandS.Head3
import HandS.HeadEnd
import HandS.HeadHook1
import HandS.HeadHook2
import HandS.HeadHook3
import HandS.HeadHook4
import HandS.Iter
import HandS.TupAny
import HandS.List
import HandS.SortKw
import KE.DatumOrd
import HandS.Rev
import HandS.ClsMeth
import HandS.HeadNt
import KE.GoesEnumKw
import HandS.Deep
import HandS.Steps
import HandS.MakeKwOnly
import HandS.OwnEq
import HandS.Style
import PyProof.NeKinds
import HandS.SortInts
import HandS.ExcInit
import HandS.ExcField
import HandS.ExcIs
import KE.KExcSuper
import KE.KExcIs
import HandS.HotCalls
import HandS.ExcInitHot
import HandS.Zip
import Flt.RightSqrt
import KE.KMathG
import HandS.Conv
import HandS.More
import PySem.Challenge.RW_certsums_k25_kernel
set_option Elab.async false
set_option linter.all false
set_option maxRecDepth 100000
set_option maxHeartbeats 4000000
namespace CB
open PySem PySem.Spec PyProof.Rows L2

/-! ### readings made simpler -/
/-! ### a value is never NotImplemented -/
section
variable {X : Cx} {CX : CXT} {k : Nat} {f C : Addr} {fd : FuncData} {ps : List Str} {sp : Sp} {E : XK}

/-- x op y by the class's own method, both of the class -/
def rOwn2 (C : Addr) (sp : Sp) (E : XK) : R2 := fun x y H Q => ∃ a b dx dy fs gs, x = .ref a ∧ y = .ref b ∧ H a = some (.ins C dx fs) ∧ H b = some (.ins C dy gs) ∧ sp [.ref a, .ref b] H Q E
/-- - x by the class's own method -/
def rOwn1 (C : Addr) (sp : Sp) (E : XK) : V → Hp → VK → Prop := fun x H Q => ∃ a dx fs, x = .ref a ∧ H a = some (.ins C dx fs) ∧ sp [.ref a] H Q E
/-- the other side of an own ==: what it may be -/
inductive EqTy (K : PySem.W.Frag) (C : Addr) (H : Hp) : V → Prop where
  | int {i : Int} (h : PySem.W.notFirst K C (.type "int") = true) : EqTy K C H (.int i)
  | str {x : Str} (h : PySem.W.notFirst K C (.type "str") = true) : EqTy K C H (.str x)
  | tup {a : Addr} {xs : List V} (e : H a = some (.tup xs)) (h : PySem.W.notFirst K C (.type "tuple") = true) : EqTy K C H (.ref a)
  | lst {a : Addr} {xs : List V} (e : H a = some (.lst xs)) (h : PySem.W.notFirst K C (.type "list") = true) : EqTy K C H (.ref a)
  | own {a dy C' : Addr} {gs : List (Str × V)} (e : H a = some (.ins C' dy gs)) (h : PySem.W.notFirst K C (.ref C') = true) : EqTy K C H (.ref a)
theorem EqTy.look {pins : List (Addr × Obj)} {σ : L2.St} {H : Hp} {s : Shared} {y : V} {u : Value} (I : Inv X pins σ H s) (t : EqTy X.K C H y) (ry : RelV y u) :
    ∃ tb, PySem.W.Looks (model X.prog X.w) s.heap (typeOf u) tb ∧ PySem.W.notFirst X.K C tb = true := by
  cases t with
  | int h => obtain ⟨t, rfl⟩ := ry; exact ⟨_, PySem.W.Looks.of_pure rfl, h⟩
  | str h => obtain ⟨t, rfl⟩ := ry; exact ⟨_, PySem.W.Looks.of_pure rfl, h⟩
  | @tup a xs e h =>
    cases ry
    obtain ⟨_, its, r, o, e1, e2, _⟩ := (show ObjOk X.prog X.w H s.heap a (.tup xs) from I.hok a _ e)
    exact ⟨.type "tuple", fun A Q E s' k q => wpAny_typeOf_ref (k _ _ e1) (by rw [e2]; exact q), h⟩
  | @lst a xs e h =>
    cases ry
    obtain ⟨_, _, n, _, e1⟩ := (show ObjOk X.prog X.w H s.heap a (.lst xs) from I.hok a _ e)
    exact ⟨.type "list", fun A Q E s' k q => wpAny_typeOf_ref (k _ _ e1) q, h⟩
  | @own a dy C' gs e h =>
    cases ry
    obtain ⟨mB, J', _⟩ := ins_get I.hok e
    obtain ⟨od', J', _⟩ := J'.look
    exact ⟨_, J'.type, h⟩
def rOwnEq (K : PySem.W.Frag) (C : Addr) (sp : Sp) (E : XK) : R2 := fun x y H Q => ∃ a dx fs, x = .ref a ∧ H a = some (.ins C dx fs) ∧ EqTy K C H y ∧ sp [.ref a, y] H Q E
end

/-! ### whole numbers -/
/-- // by a divisor of any sign below 2 ^ 9000 -/
def CDivZ (_ j : Int) : Prop := j ≠ 0 ∧ j.natAbs.log2 < 9000
section
variable {X : Cx}
theorem op_fdivZ : OpR X (binaryOp .FloorDiv) (rI CDivZ fun i j => .int (i.fdiv j)) := opI fun i j _ _ _ _ _ hc q =>
  floordiv_int hc.1 q (.inl (PyProof.noPylong_of_log2 hc.2))
end

/-! ### small words -/
theorem iteK {c : Bool} {A B : Prop} (h : c = true) (a : A) : if c = true then A else B := by rw [h]; exact iteT a
theorem iteN {c : Bool} {A B : Prop} (h : c = false) (b : B) : if c = true then A else B := by rw [h]; exact iteF b
theorem iteB {c : Bool} {A B : Prop} (h1 : c = true → A) (h2 : c = false → B) : if c = true then A else B := by
  cases c with
  | true => exact iteT (h1 rfl)
  | false => exact iteF (h2 rfl)
theorem iteD {p : Prop} [Decidable p] {A B : Prop} (h1 : p → A) (h2 : ¬ p → B) : if decide p = true then A else B := by
  by_cases h : p
  · rw [decide_eq_true h]; exact iteT (h1 h)
  · rw [decide_eq_false h]; exact iteF (h2 h)
theorem iteDN {p : Prop} [Decidable p] {A B : Prop} (h1 : ¬ p → A) (h2 : p → B) : if (!decide p) = true then A else B := by
  by_cases h : p
  · rw [decide_eq_true h]; exact iteF (h2 h)
  · rw [decide_eq_false h]; exact iteT (h1 h)
theorem iteEq {i j : Int} {A B : Prop} (h1 : i = j → A) (h2 : i ≠ j → B) : if decide (V.int i = V.int j) = true then A else B :=
  iteD (fun h => h1 (V.int.inj h)) fun h => h2 fun e => h (by rw [e])
theorem iteEqN {i j : Int} {A B : Prop} (h1 : i ≠ j → A) (h2 : i = j → B) : if (!decide (V.int i = V.int j)) = true then A else B :=
  iteDN (fun h => h1 fun e => h (by rw [e])) fun h => h2 (V.int.inj h)
/-- both ways go on alike: the second way shown first -/
theorem iteShare {c : Bool} {A B : Prop} (hb : B) (ha : c = true → B → A) : if c = true then A else B := by
  cases c with
  | true => exact iteT (ha rfl hb)
  | false => exact iteF hb
theorem unF {A B : Prop} (h : if false = true then A else B) : B := by
  rw [if_neg Bool.false_ne_true] at h
  exact h
theorem veq {i j : Int} (h : i = j) : decide (V.int i = V.int j) = true := decide_eq_true (by rw [h])
theorem sm_tup {K : PySem.W.Frag} {H H' : Hp} {a : Addr} {xs : List V} (sm : Same H H') (h : SqT K H a xs) : SqT K H' a xs := by
  rcases h with (h | ⟨o, h⟩) | h
  · exact .inl (.inl (sm _ _ h))
  · exact .inl (.inr ⟨o, sm _ _ h⟩)
  · exact .inr h
theorem kit_same {K : PySem.W.Frag} (t : Value) : PySem.W.kitOne K t t = some true := by
  unfold PySem.W.kitOne
  rw [if_pos (by simp)]
theorem sm_new {H : Hp} {p : Addr} {o : HO} (h : H p = none) : Same H (upd H p o) := fun b x e => by
  rw [upd_ne (ne_of_none e h)]
  exact e
/-- x = e, e a whole number: behind it the number has a name -/
def tAsgI (te : TE) (i : Nat) : TS := fun D σ H => te σ H fun v H1 => ∃ m : Int, v = .int m ∧ ∀ n : Int, n = m → D.nx (σ.set i (some (.int n))) H1
theorem ps_setI {X : Cx} {i : Nat} {x : Str} {e : Expr} {te : TE} {pos pos' : Pos} (hN : X.N.Nodup) (hi : X.N[i]? = some x) (hx : Loc X.env.scope x) (he : PE X e te) (hs : swapsWith e (some (.Name x pos')) pos.line X.env = pure false := by rfl)
    (hf : X.fn x = true ∨ X.env.scope.names.lookup x = some .local := by first | exact .inl rfl | exact .inr rfl | assumption) : PS X (.Assign [.Name x pos'] e pos) (tAsgI te i) := by
  refine ⟨fun pins s σ H D I h => ?_⟩
  refine wpAny_Assign_Name (thn (he.run pins s σ H _ I h) fun v s1 h1 => ?_) hs
  obtain ⟨y, H1, I1, r1, m, rfl, q1⟩ := h1
  exact store_ok I1 hN hi hx r1 (fun s2 I2 => ⟨_, H1, I2, q1 m rfl⟩) hf

/-! ### defs by where they stand -/
abbrev FnW : Type := He.FnW
/-- one def of the text: where it stands (an address by the written part), its row's parts, its defaults -/
structure DefG where
  at_ : PySem.W.Frag → Addr
  name : Str
  qual : Str
  params : Arguments
  body : List Stmt
  scope : Scope
  dfl : List He.Dv := []
def fnG (K : PySem.W.Frag) (a : Addr) : FnW := match K.lookup a with
  | some ⟨_, _, .func fd, _⟩ => some (fd.name, fd.qualname, fd.params, fd.body, fd.scope, fd.globals, fd.closure, fd.builtins)
  | _ => none
def DefG.val (d : DefG) : FnW := some (d.name, d.qual, d.params, .stmts d.body, d.scope, mainGlobals, [], builtinsNs)
def DefG.dvs (K : PySem.W.Frag) (d : DefG) : List V := d.dfl.map (He.Dv.v K)
def DefG.ok (K : PySem.W.Frag) (d : DefG) : Bool := PySem.W.keepIn K (.ref (d.at_ K)) && (match K.lookup (d.at_ K) with
  | some ⟨_, _, .func fd, _⟩ => PySem.W.codeIn K fd.code d.qual && He.dflB K fd.defaults (d.dvs K)
  | _ => false)
/-- a def of the text, by its datum -/
def Dn (K : PySem.W.Frag) (d : DefG) : Prop := ∃ fd, FunD K d.name d.qual d.params d.body d.scope (d.dvs K) [] (d.at_ K) fd
theorem DefG.funD {K : PySem.W.Frag} {d : DefG} (e : fnG K (d.at_ K) = d.val) (c : d.ok K = true) : Dn K d := by
  obtain ⟨kp, c2⟩ := He.ba c
  unfold fnG at e
  cases q : K.lookup (d.at_ K) with
  | none =>
    rw [q] at c2
    cases c2
  | some o =>
    obtain ⟨oc, od, dt, osl⟩ := o
    rw [q] at c2 e
    cases dt with
    | func fd =>
      obtain ⟨n1, n2, n3, n4, n5, n6, n7, n8, n9, n10, n11, n12, n13, n14, n15⟩ := fd
      have e2 : (some (n1, n2, n3, n4, n5, n6, n7, n15) : FnW) = some (d.name, d.qual, d.params, .stmts d.body, d.scope, mainGlobals, [], builtinsNs) := e
      simp only [Option.some.injEq, Prod.mk.injEq] at e2
      obtain ⟨h1, h2, h3, h4, h5, h6, h7, h8⟩ := e2
      subst h1 h2 h3 h4 h5 h6 h7 h8
      have c3 : (PySem.W.codeIn K n13 d.qual && He.dflB K n8 (d.dvs K)) = true := c2
      obtain ⟨k1, k2⟩ := He.ba c3
      exact ⟨_, ⟨oc, od, n8, n9, n10, n11, n12, n13, n14, osl, rfl, q, k1, He.dflB_ok k2, .inl rfl⟩, kp⟩
    | _ => cases c2

/-! ### the shape of a def's promise: what a caller needs of the def at a -/
/-- the def at a is known by its promise (level k, parameters ps) -/
def OkF (P : Program) (w : World) (K : PySem.W.Frag) (mg : Str → Option Value) (base : Heap) (k : Nat) (a : Addr) (ps : List Str) (sp : Sp) : Prop :=
  ∃ fd : FuncData, FnOk P w K mg base (L2.CX P w) k a fd ps sp ∧ Binds K fd ps [] ∧ PySem.W.keepIn K (.ref a) = true
theorem okF_of {P : Program} {w : World} {K : PySem.W.Frag} {mg : Str → Option Value} {base : Heap} {k : Nat} {d : DefG} {N ps : List Str} {sp : Sp} (D : Dn K d) (hd : d.dfl = []) (S : FnScope N ps d.scope)
    (hb : ∀ (kV doc pm : Value) (an : Option Addr) (cdv ct : Value) (us : List Value), us.length = ps.length → bindArgs (PySem.W.fnOf d.name d.qual d.params d.body d.scope .none kV doc pm an cdv ct) ⟨us, []⟩ = pure (ps.zip us))
    (len : ∀ vs H Q E, sp vs H Q E → vs.length = ps.length)
    (hbody : ∀ (cdv : Value) (A : Around) (outer : List Env) (s : Shared) (H : Hp) (vs : List V) (Q : VK) (E : XK), Room k (A.deeper (envOfC d.qual d.scope s.heap.objs.size (d.at_ K) cdv)) → sp vs H Q E →
      ∃ t, PSs (cxOf (L2.CX P w) P w K mg base N d.qual d.scope (d.at_ K) cdv A outer s H E) d.body t ∧ t { nx := fun _ H' => Q .non H', rt := Q } (start N vs) H) :
    OkF P w K mg base (k + 1) (d.at_ K) ps sp := by
  obtain ⟨fd, F⟩ := D
  have e1 : d.dvs K = [] := by unfold DefG.dvs; rw [hd]; rfl
  rw [e1] at F
  exact ⟨fd, F.ok S len hbody, F.bindsN hb, F.kp⟩
/-- the same of a def with one default, of which all values or all but the last are written -/
def OkD (P : Program) (w : World) (K : PySem.W.Frag) (mg : Str → Option Value) (base : Heap) (k : Nat) (a : Addr) (ps : List Str) (dv : V) (sp : Sp) : Prop :=
  ∃ fd : FuncData, FnOk P w K mg base (L2.CX P w) k a fd ps sp ∧ Binds K fd ps [] ∧ (∃ ds, Vals [dv] ds ∧ Binds K fd ps ds) ∧ PySem.W.keepIn K (.ref a) = true
theorem okD_of {P : Program} {w : World} {K : PySem.W.Frag} {mg : Str → Option Value} {base : Heap} {k : Nat} {d : DefG} {N ps : List Str} {sp : Sp} {dv : He.Dv} (D : Dn K d) (hd : d.dfl = [dv]) (S : FnScope N ps d.scope)
    (hb0 : ∀ (T : Addr) (kV doc pm : Value) (an : Option Addr) (cdv ct : Value) (us its : List Value), us.length = ps.length → its.length = 1 →
      ∃ k, bindArgs (PySem.W.fnOf d.name d.qual d.params d.body d.scope (.ref T) kV doc pm an cdv ct) ⟨us, []⟩ = seqItems? (.ref T) >>= k ∧ k (some its.toArray) = pure (ps.zip (us ++ its.drop 1)))
    (hb1 : ∀ (T : Addr) (kV doc pm : Value) (an : Option Addr) (cdv ct : Value) (us its : List Value), us.length = ps.length - 1 → its.length = 1 →
      ∃ k, bindArgs (PySem.W.fnOf d.name d.qual d.params d.body d.scope (.ref T) kV doc pm an cdv ct) ⟨us, []⟩ = seqItems? (.ref T) >>= k ∧ k (some its.toArray) = pure (ps.zip (us ++ its.drop 0)))
    (hp : 0 < ps.length) (len : ∀ vs H Q E, sp vs H Q E → vs.length = ps.length)
    (hbody : ∀ (cdv : Value) (A : Around) (outer : List Env) (s : Shared) (H : Hp) (vs : List V) (Q : VK) (E : XK), Room k (A.deeper (envOfC d.qual d.scope s.heap.objs.size (d.at_ K) cdv)) → sp vs H Q E →
      ∃ t, PSs (cxOf (L2.CX P w) P w K mg base N d.qual d.scope (d.at_ K) cdv A outer s H E) d.body t ∧ t { nx := fun _ H' => Q .non H', rt := Q } (start N vs) H) :
    OkD P w K mg base (k + 1) (d.at_ K) ps (dv.v K) sp := by
  obtain ⟨fd, F⟩ := D
  have e1 : d.dvs K = [dv.v K] := by unfold DefG.dvs; rw [hd]; rfl
  rw [e1] at F
  obtain ⟨ds0, v0, b0⟩ := FunD.binds1 (ps := ps) F ps.length 1 (by simp) (by simp) fun T kV doc pm an cdv ct us its h1 h2 => hb0 T kV doc pm an cdv ct us its h1 (by simpa using h2)
  obtain ⟨ds1, v1, b1⟩ := FunD.binds1 (ps := ps) F (ps.length - 1) 0 (by simp) (by simp; omega) fun T kV doc pm an cdv ct us its h1 h2 => hb1 T kV doc pm an cdv ct us its h1 (by simpa using h2)
  have z : ds0 = [] := by
    have := v0.length
    simp at this
    exact List.eq_nil_of_length_eq_zero this.symm
  subst z
  exact ⟨fd, F.ok S len hbody, b0, ⟨ds1, v1, b1⟩, F.kp⟩

/-- the law's own def: no exception leaves it -/
theorem okLaw_of {P : Program} {w : World} {K : PySem.W.Frag} {mg : Str → Option Value} {k : Nat} {d : DefG} {N : List Str} {sp : Sp} (D : Dn K d) (hd : d.dfl = []) (S : FnScope N ["script"] d.scope)
    (hb : ∀ (kV doc pm : Value) (an : Option Addr) (cdv ct : Value) (us : List Value), us.length = 1 → bindArgs (PySem.W.fnOf d.name d.qual d.params d.body d.scope .none kV doc pm an cdv ct) ⟨us, []⟩ = pure ((["script"] : List Str).zip us))
    (len : ∀ vs H Q E, sp vs H Q E → vs.length = 1)
    (hbody : ∀ (base : Heap) (cdv : Value) (A : Around) (outer : List Env) (s : Shared) (H : Hp) (vs : List V) (Q : VK) (E : XK), Room k (A.deeper (envOfC d.qual d.scope s.heap.objs.size (d.at_ K) cdv)) → sp vs H Q E →
      ∃ t, PSs (cxOf CX0 P w K mg base N d.qual d.scope (d.at_ K) cdv A outer s H E) d.body t ∧ t { nx := fun _ H' => Q .non H', rt := Q } (start N vs) H) :
    ∃ fd : FuncData, (∀ (s : Shared) (v : Value), BindsTo s fd ⟨[v], []⟩ [("script", v)]) ∧ ∀ base : Heap, FnOk P w K mg base CX0 (k + 1) (d.at_ K) fd ["script"] sp := by
  obtain ⟨fd, F⟩ := D
  have e1 : d.dvs K = [] := by unfold DefG.dvs; rw [hd]; rfl
  rw [e1] at F
  exact ⟨fd, fun s v => FunD.bindsA (ps := ["script"]) F hb s [v] rfl, fun base => F.ok S len (hbody base)⟩
/-- what a law promises: True, of every script -/
def spLaw (K : PySem.W.Frag) : Sp := fun vs H Q _ => ∃ (a : Addr) (ns : List Int), vs = [.ref a] ∧ SqL K H a (ns.map V.int) ∧ ns.length ≤ 63 ∧ ∀ H', Q (.bl true) H'

/-! ### the head's facts by a Hook of our own: defs at any address -/
/-- the getter of a property of a class -/
def prAd (K : PySem.W.Frag) (C : Addr) (x : Str) : Addr := match PySem.W.findIn K (.ref C) x with
  | some (some (.ref p)) => p
  | _ => 0
def gtAd (K : PySem.W.Frag) (C : Addr) (x : Str) : Addr := match PySem.W.recIn K (prAd K C x) "property" with
  | some (.ref g :: _) => g
  | _ => 0
def propB (K : PySem.W.Frag) (C : Addr) (x : Str) : Bool :=
  He.eqO (PySem.W.findIn K (.ref C) x) (some (some (.ref (prAd K C x)))) && (He.eqO (PySem.W.specialIn K (.ref (prAd K C x)) "__get__") (some (some (.builtin "property.__get__"))) && (decide (PySem.W.takesIn K (.ref (prAd K C x)) = some true) &&
    (match PySem.W.recIn K (prAd K C x) "property" with
      | some (.ref _ :: _) => true
      | _ => false)))
abbrev AlG : Type := Bool × List FnW
def obsG (fa : List He.Fa) (fn : List DefG) (ex : PySem.W.Frag → List Bool) (K : PySem.W.Frag) : AlG := ((fa.all fun f => f.ok K) && ((fn.all fun d => d.ok K) && (ex K).all id), fn.map fun d => fnG K (d.at_ K))
def valG (fn : List DefG) : AlG := (true, fn.map DefG.val)
def SaysG (fa : List He.Fa) (fn : List DefG) (ex : PySem.W.Frag → List Bool) (K : PySem.W.Frag) : Prop := obsG fa fn ex K = valG fn
def obsGG (n : Nat) (fa : List He.Fa) (fn : List DefG) (ex : PySem.W.Frag → List Bool) (g : Addr → Option Obj) : AlG := obsG fa fn ex (He.frG g (He.asD g n ++ [PySem.cStatics]))
def hookG (n : Nat) (fa : List He.Fa) (fn : List DefG) (ex : PySem.W.Frag → List Bool) : PySem.W.Hook where
  α := AlG
  obs := fun s => obsGG n fa fn ex s.heap.get?
  val := fun _ => valG fn
  says := fun _ h => ∃ K : PySem.W.Frag, K.In h ∧ SaysG fa fn ex K
  of := fun _ _ e => ⟨_, He.frG_in, e⟩
  keeps := fun _ _ _ ⟨K, hK, c⟩ k => ⟨K, PySem.W.Frag.In.keeps hK k, c⟩
section
variable {fa : List He.Fa} {fn : List DefG} {ex : PySem.W.Frag → List Bool} {K : PySem.W.Frag}
theorem SaysG.fact (c : SaysG fa fn ex K) (i : Nat) {f : He.Fa} (h : fa[i]? = some f := by rfl) : f.ok K = true := by
  have c1 := (He.ba (show ((fa.all fun f => f.ok K) && ((fn.all fun d => d.ok K) && (ex K).all id)) = true from congrArg (fun z : AlG => z.1) c)).1
  exact List.all_eq_true.mp c1 f (List.mem_of_getElem? h)
theorem SaysG.more (c : SaysG fa fn ex K) (i : Nat) {b : Bool} (h : (ex K)[i]? = some b := by rfl) : b = true := by
  have c1 := (He.ba (He.ba (show ((fa.all fun f => f.ok K) && ((fn.all fun d => d.ok K) && (ex K).all id)) = true from congrArg (fun z : AlG => z.1) c)).2).2
  exact List.all_eq_true.mp c1 b (List.mem_of_getElem? h)
theorem SaysG.dn (c : SaysG fa fn ex K) (i : Nat) {d : DefG} (h : fn[i]? = some d := by rfl) : Dn K d := by
  have c2 := (He.ba (He.ba (show ((fa.all fun f => f.ok K) && ((fn.all fun d => d.ok K) && (ex K).all id)) = true from congrArg (fun z : AlG => z.1) c)).2).1
  have e : fn.map (fun d => fnG K (d.at_ K)) = fn.map DefG.val := congrArg (fun z : AlG => z.2) c
  have e2 : (fn.map fun d => fnG K (d.at_ K))[i]? = (fn.map DefG.val)[i]? := by rw [e]
  rw [List.getElem?_map, List.getElem?_map, h] at e2
  exact DefG.funD (Option.some.inj e2) (List.all_eq_true.mp c2 d (List.mem_of_getElem? h))
end

/-! ### sizes -/
theorem abs_lt_mul {i j : Int} {a b : Nat} (ha : i.natAbs < 2 ^ a) (hb : j.natAbs < 2 ^ b) : (i * j).natAbs < 2 ^ (a + b) := wide_lt ha hb
theorem abs_lt_add {i j : Int} {a : Nat} (ha : i.natAbs < 2 ^ a) (hb : j.natAbs < 2 ^ a) : (i + j).natAbs < 2 ^ (a + 1) := by
  have := Int.natAbs_add_le i j
  rw [Nat.pow_succ]; omega
theorem abs_mono {i : Int} {a b : Nat} (h : i.natAbs < 2 ^ a) (hab : a ≤ b) : i.natAbs < 2 ^ b := Nat.lt_of_lt_of_le h (Nat.pow_le_pow_right (by decide) hab)
theorem sz_add {i j : Int} {a b : Nat} (ha : i.natAbs < 2 ^ a) (hb : j.natAbs < 2 ^ b) : (i + j).natAbs < 2 ^ (max a b + 1) :=
  abs_lt_add (abs_mono ha (Nat.le_max_left _ _)) (abs_mono hb (Nat.le_max_right _ _))
theorem sz_neg {i : Int} {a : Nat} (ha : i.natAbs < 2 ^ a) : (-i).natAbs < 2 ^ a := by rw [Int.natAbs_neg]; exact ha
theorem sz_sub {i j : Int} {a b : Nat} (ha : i.natAbs < 2 ^ a) (hb : j.natAbs < 2 ^ b) : (i - j).natAbs < 2 ^ (max a b + 1) := by
  rw [Int.sub_eq_add_neg]; exact sz_add ha (sz_neg hb)
theorem mulW {i j : Int} {a b : Nat} (ha : i.natAbs < 2 ^ a) (hb : j.natAbs < 2 ^ b) (h : a + b + 2 ≤ 1000000) : CMulW i j := wide_mul (a := a + 1) (b := b + 1) (abs_mono ha (by omega)) (abs_mono hb (by omega)) (by omega) (by omega) (by omega)
theorem divW {i j : Int} {b : Nat} (h : 0 < j) (hb : j.natAbs < 2 ^ b) (h9 : b ≤ 8000) : CDivW i j := wide_div (b := b + 1) h (abs_mono hb (by omega)) (by omega) (by omega)
theorem divZ {i j : Int} {b : Nat} (h : j ≠ 0) (hb : j.natAbs < 2 ^ b) (h9 : b ≤ 8000) : CDivZ i j := ⟨h, Nat.lt_of_lt_of_le (PySem.Flt.log2_lt_of (k := b + 1) (by omega) (abs_mono hb (by omega))) (by omega)⟩

/-! ### a new instance, its __init__'s promise taken in another form -/
section
variable {X : Cx} {CX : CXT} {k : Nat} {f C : Addr} {fd : FuncData} {ps : List Str} {sp : Sp} {dvs : List V} {ds : List Value} {E : XK} {x : Str} {p pos : Pos} {e : Expr} {es : List Expr} {t : TA} {B : List V → Hp → VK → Prop}
def tMk (B : List V → Hp → VK → Prop) (t : TA) : TE := fun σ H Q => t σ H fun vs H1 => B vs H1 Q
theorem pe_makeI (M : Mk X.K C f) (F : FnOk X.prog X.w X.K X.mg X.base CX k f fd ps sp) (hr : Room (k + 1) X.A) (hg : Gl X x) (hm : X.mg x = some (.ref C)) (hb : Binds X.K fd ps ds) (hd : Vals dvs ds) (hx : Passes CX X E)
    (conv : ∀ vs H1 Q, B vs H1 Q → ∀ x dx, H1 x = none → H1 dx = none → dx ≠ x → sp (.ref x :: (vs ++ dvs)) (upd (upd H1 dx (.own x)) x (.ins C dx [])) (fun v H2 => v = .non ∧ Q (.ref x) H2) E)
    (ha : PA X (e :: es) t) (hdb : (x == ("__debug__" : Str)) = false := by decide) (he : starEach (e :: es) X.env = (false, eval e X.env) :: starEach es X.env := by rfl) (hpl : (backTo pos (starEach es X.env)).any (·.1) = false := by rfl) :
    PE X (.Call (.Name x p) (e :: es) [] pos) (tMk B t) := by
  refine ⟨fun pins s σ H Q I h => ?_⟩
  refine wpAny_Call_Name_kw (ld_glob I hg hm ?_ hdb)
  refine PySem.W.callWith_K (h₀ := X.base) I.ok.mod.kin M.kp (thn (ha.run pos pins s σ H _ I h) fun us s1 hh => ?_) he hpl
  obtain ⟨vs, H1, I1, r, q⟩ := hh
  exact ⟨I1.kIn, run_make M F hr hb hd hx I1 r (conv vs H1 Q q)⟩
def tMkS (B : L2.St → List V → Hp → VK → Prop) (t : TA) : TE := fun σ H Q => t σ H fun vs H1 => B σ vs H1 Q
end
/-- what a new instance's heap keeps -/
theorem same_made {H : Hp} {p dp C : Addr} {o : HO} (np : H p = none) (nd : H dp = none) (h : dp ≠ p) : Same H (upd (upd (upd H dp (.own p)) p (.ins C dp [])) p o) := fun b x e => by
  rw [upd_ne (ne_of_none e np), upd_ne (ne_of_none e np), upd_ne (ne_of_none e nd)]
  exact e
/-! ### caught errors -/
def excCB (K : PySem.W.Frag) (D : Addr) : Bool :=
  He.eqO (PySem.W.findIn K (.ref D) "__getattribute__") (some (some (.builtin "BaseException.__getattribute__"))) && (He.eqO (PySem.W.findIn K (.ref D) "__getattr__") (some none) && (decide (PySem.W.subIn K (.ref D) (.type "BaseException") = some true) &&
    (PySem.W.hasDictIn K D && (He.eqO (PySem.W.findIn K (.ref D) "__class__") (some (some (.builtin "object.__class__"))) && (He.eqO (PySem.W.specialIn K (.builtin "object.__class__") "__get__") (some (some (.builtin "getset_descriptor.__get__"))) &&
      (decide (PySem.W.takesIn K (.builtin "object.__class__") = some true) && decide (PySem.W.mroIn K D (.type "object") = some true)))))))
/-! ### o.m(e, ..) in a try's body: what is wished of an exception knows the slots -/
def tMethE (C : Addr) (m : Str) (sp : Sp) (E : L2.St → XK) (ta : TE) (t : TA) : TE := fun σ H Q => ta σ H fun x H1 => ∃ a dx fs, x = .ref a ∧ H1 a = some (.ins C dx fs) ∧ fs.lookup m = none ∧
  t σ H1 fun vs H2 => sp (x :: vs) H2 Q (E σ)
section
variable {X : Cx} {CX : CXT} {k : Nat} {f C : Addr} {fd : FuncData} {ps : List Str} {sp : Sp} {x m : Str} {p pos apos : Pos} {e o : Expr} {es : List Expr} {ta : TE} {t : TA} {E : L2.St → XK}
end
theorem bit_one (n : Nat) : PySem.Builtin.bitAnd (n : Int) 1 = ((n % 2 : Nat) : Int) := by
  show ((n &&& 1 : Nat) : Int) = _
  rw [Nat.and_one_is_mod]
/-- the size of a power -/
theorem pow_bits {b : Int} {k : Nat} (h : b.natAbs < 2 ^ k) (r : Nat) : (b ^ r).natAbs < 2 ^ (k * r + 1) := by
  rw [Int.natAbs_pow]
  have z := Nat.pow_le_pow_left (Nat.le_of_lt h) r
  rw [← Nat.pow_mul] at z
  have : 2 ^ (k * r) < 2 ^ (k * r + 1) := Nat.pow_lt_pow_right (by decide) (by omega)
  omega
theorem get_map {ns : List Int} {i : Nat} (h : i < ns.length) : ∃ x, ns[i]? = some x ∧ (ns.map V.int)[i]? = some (.int x) :=
  ⟨ns[i], List.getElem?_eq_getElem h, by rw [List.getElem?_map, List.getElem?_eq_getElem h]; rfl⟩
theorem len_map {ns : List Int} : (ns.map V.int).length = ns.length := List.length_map ..
theorem map_at {ns : List Int} {i : Nat} {x : Int} (h : ns[i]? = some x) : (ns.map V.int)[i]? = some (.int x) := by rw [List.getElem?_map, h]; rfl
theorem cut_lo {xs : List V} {m : Nat} (h : m ≤ xs.length) : cutV xs none (some (m : Int)) = xs.take m := by
  have e : HT.sIx xs.length xs.length (some (m : Int)) = m := by rw [HT.sIx_nat]; omega
  simp [cutV, e, HT.sIx_none]
theorem cut_hi {xs : List V} {m : Nat} (h : m ≤ xs.length) : cutV xs (some (m : Int)) none = xs.drop m := by
  have e : HT.sIx xs.length 0 (some (m : Int)) = m := by rw [HT.sIx_nat]; omega
  simp only [cutV, e, HT.sIx_none]
  exact List.take_of_length_le (by simp)
/-- within a comprehension: the written part said -/
theorem pe_fldK {X : Cx} {K : PySem.W.Frag} {o : Expr} {ta : TE} {f : Str} {pos : Pos} (hK : X.K = K) (h : PE X (.Attribute o f pos) (tFld X.K ta f)) : PE X (.Attribute o f pos) (tFld K ta f) := by
  subst hK
  exact h
end CB

namespace CB
/-- a / b is n / d in lowest terms, with a positive denominator -/
structure Fq (n d a b : Int) : Prop where
  eq : a * d = n * b
  pos : 0 < b
  cop : Nat.gcd a.natAbs b.natAbs = 1

theorem dvd_of_cop {a b c : Int} (h : b ∣ a * c) (g : Nat.gcd a.natAbs b.natAbs = 1) : b ∣ c := by
  have h1 : b.natAbs ∣ a.natAbs * c.natAbs := by rw [← Int.natAbs_mul]; exact Int.natAbs_dvd_natAbs.mpr h
  have h2 : Nat.Coprime b.natAbs a.natAbs := by rw [Nat.coprime_iff_gcd_eq_one, Nat.gcd_comm]; exact g
  exact Int.natAbs_dvd_natAbs.mp (h2.dvd_of_dvd_mul_left h1)
theorem Fq.den_dvd {n d a b : Int} (f : Fq n d a b) : b ∣ d := dvd_of_cop ⟨n, by have := f.eq; grind⟩ f.cop
theorem Fq.num_dvd {n d a b : Int} (f : Fq n d a b) : a ∣ n := by
  have h : a ∣ b * n := ⟨d, by have := f.eq; grind⟩
  exact dvd_of_cop h (by rw [Nat.gcd_comm]; exact f.cop)
theorem natAbs_le_of_dvd {a b : Int} (h : a ∣ b) (hb : b ≠ 0) : a.natAbs ≤ b.natAbs := Nat.le_of_dvd (by omega) (Int.natAbs_dvd_natAbs.mpr h)
theorem Fq.den_le {n d a b : Int} (f : Fq n d a b) (hd : d ≠ 0) : b.natAbs ≤ d.natAbs := natAbs_le_of_dvd f.den_dvd hd
theorem Fq.num_le {n d a b : Int} (f : Fq n d a b) (hd : d ≠ 0) : a.natAbs ≤ n.natAbs := by
  by_cases hn : n = 0
  · have e := f.eq
    rw [hn, Int.zero_mul] at e
    rcases Int.mul_eq_zero.mp e with e | e
    · rw [e]; exact Nat.zero_le _
    · exact absurd e hd
  · exact natAbs_le_of_dvd f.num_dvd hn
theorem Fq.uniq {n d a b a' b' : Int} (f : Fq n d a b) (f' : Fq n d a' b') (hd : d ≠ 0) : a = a' ∧ b = b' := by
  have h1 := f.eq
  have h2 := f'.eq
  have e : a * b' = a' * b := by
    have : (a * b') * d = (a' * b) * d := by grind
    exact Int.eq_of_mul_eq_mul_right hd this
  have p := f.pos
  have p' := f'.pos
  have d1 : b ∣ b' := dvd_of_cop (a := a) ⟨a', by grind⟩ f.cop
  have d2 : b' ∣ b := dvd_of_cop (a := a') ⟨a, by grind⟩ f'.cop
  have e2 : b = b' := by
    have x1 := natAbs_le_of_dvd d1 (by omega)
    have x2 := natAbs_le_of_dvd d2 (by omega)
    omega
  subst e2
  exact ⟨Int.eq_of_mul_eq_mul_right (by omega) e, rfl⟩
/-- the same number by another pair -/
theorem Fq.conv {n d a b n' d' : Int} (f : Fq n d a b) (hd : d ≠ 0) (h : n * d' = n' * d) : Fq n' d' a b := by
  refine ⟨?_, f.pos, f.cop⟩
  have e := f.eq
  have : (a * d') * d = (n' * b) * d := by grind
  exact Int.eq_of_mul_eq_mul_right hd this
theorem Fq.self {a b : Int} (p : 0 < b) (c : Nat.gcd a.natAbs b.natAbs = 1) : Fq a b a b := ⟨rfl, p, c⟩
/-- what __init__ stores -/
theorem fq_init {n d c : Int} (hd : d ≠ 0) (hc : c = if d < 0 then -((Nat.gcd n.natAbs d.natAbs : Nat) : Int) else ((Nat.gcd n.natAbs d.natAbs : Nat) : Int)) : c ≠ 0 ∧ c.natAbs ≤ d.natAbs ∧ Fq n d (n.fdiv c) (d.fdiv c) := by
  have gp : 0 < Nat.gcd n.natAbs d.natAbs := Nat.gcd_pos_of_pos_right _ (by omega)
  have g1 : c.natAbs = Nat.gcd n.natAbs d.natAbs := by rw [hc]; split <;> omega
  have c0 : c ≠ 0 := by omega
  have cn : c ∣ n := Int.natAbs_dvd_natAbs.mp (by rw [g1]; exact Nat.gcd_dvd_left _ _)
  have cd : c ∣ d := Int.natAbs_dvd_natAbs.mp (by rw [g1]; exact Nat.gcd_dvd_right _ _)
  obtain ⟨n', hn⟩ := cn
  obtain ⟨d', hd'⟩ := cd
  have e1 : n.fdiv c = n' := by rw [hn, Int.mul_fdiv_cancel_left _ c0]
  have e2 : d.fdiv c = d' := by rw [hd', Int.mul_fdiv_cancel_left _ c0]
  refine ⟨c0, natAbs_le_of_dvd ⟨d', hd'⟩ hd, ?_⟩
  rw [e1, e2]
  refine ⟨by grind, ?_, ?_⟩
  · refine Decidable.byContradiction fun hn => ?_
    have hn : d' ≤ 0 := by omega
    by_cases h : d < 0
    · have hc' : c < 0 := by rw [hc, if_pos h]; omega
      have z := Int.mul_nonneg (show 0 ≤ -c by omega) (show 0 ≤ -d' by omega)
      rw [Int.neg_mul_neg] at z
      omega
    · have hc' : 0 < c := by rw [hc, if_neg h]; omega
      have z := Int.mul_nonneg (show 0 ≤ c by omega) (show 0 ≤ -d' by omega)
      rw [Int.mul_neg] at z
      omega
  · have z := Nat.gcd_mul_left c.natAbs n'.natAbs d'.natAbs
    rw [← Int.natAbs_mul, ← Int.natAbs_mul, ← hn, ← hd', ← g1] at z
    have : 0 < c.natAbs := by omega
    exact Nat.eq_of_mul_eq_mul_left this (by omega)

abbrev Cop (a b : Int) : Prop := Nat.gcd a.natAbs b.natAbs = 1
theorem Cop.dvd {a b d : Int} (h : Cop a b) (h1 : d ∣ a) (h2 : d ∣ b) : d ∣ 1 := by
  have z := Nat.dvd_gcd (Int.natAbs_dvd_natAbs.mpr h1) (Int.natAbs_dvd_natAbs.mpr h2)
  have z2 : d.natAbs ∣ (1 : Int).natAbs := by rw [h] at z; exact z
  exact Int.natAbs_dvd_natAbs.mp z2
theorem cop_of {a b : Int} (h : ∀ d : Int, d ∣ a → d ∣ b → d ∣ 1) : Cop a b := by
  have z := h ((Nat.gcd a.natAbs b.natAbs : Nat) : Int) (Int.natAbs_dvd_natAbs.mp (by rw [Int.natAbs_natCast]; exact Nat.gcd_dvd_left _ _)) (Int.natAbs_dvd_natAbs.mp (by rw [Int.natAbs_natCast]; exact Nat.gcd_dvd_right _ _))
  have z2 := Int.natAbs_dvd_natAbs.mpr z
  rw [Int.natAbs_natCast] at z2
  exact Nat.eq_one_of_dvd_one z2
theorem Cop.symm {a b : Int} (h : Cop a b) : Cop b a := by unfold Cop; rw [Nat.gcd_comm]; exact h
theorem Cop.left {a a' b : Int} (h : Cop a b) (d : a' ∣ a) : Cop a' b := cop_of fun x h1 h2 => h.dvd (Int.dvd_trans h1 d) h2
theorem Cop.right {a b b' : Int} (h : Cop a b) (d : b' ∣ b) : Cop a b' := cop_of fun x h1 h2 => h.dvd h1 (Int.dvd_trans h2 d)
theorem Cop.mul {a b c : Int} (h1 : Cop a b) (h2 : Cop a c) : Cop a (b * c) := cop_of fun x k1 k2 => by
  have k3 : x ∣ c := dvd_of_cop (a := b) k2 (cop_of fun y y1 y2 => h1.dvd (Int.dvd_trans y2 k1) y1)
  exact h2.dvd k1 k3
/-- two numbers by their greatest common divisor -/
theorem gcd_parts {n d : Int} (h : n ≠ 0 ∨ d ≠ 0) : ∃ (g x y : Int), g = ((Nat.gcd n.natAbs d.natAbs : Nat) : Int) ∧ 0 < g ∧ n = g * x ∧ d = g * y ∧ Cop x y ∧ n / g = x ∧ d / g = y := by
  have gp : 0 < Nat.gcd n.natAbs d.natAbs := by
    rcases h with h | h
    · exact Nat.gcd_pos_of_pos_left _ (by omega)
    · exact Nat.gcd_pos_of_pos_right _ (by omega)
  obtain ⟨x, hx⟩ : ((Nat.gcd n.natAbs d.natAbs : Nat) : Int) ∣ n := Int.natAbs_dvd_natAbs.mp (by rw [Int.natAbs_natCast]; exact Nat.gcd_dvd_left _ _)
  obtain ⟨y, hy⟩ : ((Nat.gcd n.natAbs d.natAbs : Nat) : Int) ∣ d := Int.natAbs_dvd_natAbs.mp (by rw [Int.natAbs_natCast]; exact Nat.gcd_dvd_right _ _)
  generalize hg : ((Nat.gcd n.natAbs d.natAbs : Nat) : Int) = g at hx hy
  have g0 : 0 < g := by omega
  refine ⟨g, x, y, rfl, g0, hx, hy, ?_, ?_, ?_⟩
  · have z := Nat.gcd_mul_left g.natAbs x.natAbs y.natAbs
    rw [← Int.natAbs_mul, ← Int.natAbs_mul, ← hx, ← hy] at z
    have g1 : g.natAbs = Nat.gcd n.natAbs d.natAbs := by rw [← hg, Int.natAbs_natCast]
    rw [← g1] at z
    have : 0 < g.natAbs := by omega
    exact Nat.eq_of_mul_eq_mul_left this (by omega)
  · rw [hx, Int.mul_ediv_cancel_left _ (by omega)]
  · rw [hy, Int.mul_ediv_cancel_left _ (by omega)]
/-- two pairs in lowest terms of the same number -/
theorem Fq.same {n d a b n' d' a' b' : Int} (f : Fq n d a b) (f' : Fq n' d' a' b') (hd : d ≠ 0) (hd' : d' ≠ 0) (h : n * d' = n' * d) : a = a' ∧ b = b' :=
  (f.conv hd h).uniq f' hd'
theorem Fq.back {n d a b n' d' a' b' : Int} (f : Fq n d a b) (f' : Fq n' d' a' b') (h : a = a' ∧ b = b') : n * d' = n' * d := by
  obtain ⟨rfl, rfl⟩ := h
  have e1 := f.eq
  have e2 := f'.eq
  have p := f.pos
  have : (n * d') * b = (n' * d) * b := by grind
  exact Int.eq_of_mul_eq_mul_right (by omega) this
theorem Fq.zero_iff {n d a b : Int} (f : Fq n d a b) (hd : d ≠ 0) : a = 0 ↔ n = 0 := by
  have e := f.eq
  have p := f.pos
  constructor
  · rintro rfl
    rw [Int.zero_mul] at e
    rcases Int.mul_eq_zero.mp e.symm with z | z
    · exact z
    · omega
  · rintro rfl
    rw [Int.zero_mul] at e
    rcases Int.mul_eq_zero.mp e with z | z
    · exact z
    · exact absurd z hd
theorem pos_of_mul {a b : Int} (h : 0 < a * b) (hb : 0 < b) : 0 < a := Decidable.byContradiction fun c => by
  have z := Int.mul_nonneg (show 0 ≤ -a by omega) (show 0 ≤ b by omega)
  rw [Int.neg_mul] at z
  omega
theorem nonneg_of_mul {a b : Int} (h : 0 ≤ a * b) (hb : 0 < b) : 0 ≤ a := Decidable.byContradiction fun c => by
  have z := Int.mul_pos (show 0 < -a by omega) hb
  rw [Int.neg_mul] at z
  omega
/-- the floor, by the pair that was given -/
theorem Fq.low {n d a b : Int} (f : Fq n d a b) (hd : 0 < d) : a / b * d ≤ n ∧ n < (a / b + 1) * d := by
  have e := f.eq
  have p := f.pos
  have h1 := Int.ediv_mul_le a (show b ≠ 0 by omega)
  have h2 := Int.lt_ediv_add_one_mul_self a p
  generalize a / b = q at h1 h2 ⊢
  constructor
  · have z := nonneg_of_mul (a := n - q * d) (b := b) (by
      have z := Int.mul_nonneg (show 0 ≤ a - q * b by omega) (show 0 ≤ d by omega)
      have e2 : (n - q * d) * b = (a - q * b) * d := by grind
      omega) p
    omega
  · have z := pos_of_mul (a := (q + 1) * d - n) (b := b) (by
      have z := Int.mul_pos (show 0 < (q + 1) * b - a by omega) hd
      have e2 : ((q + 1) * d - n) * b = ((q + 1) * b - a) * d := by grind
      omega) p
    omega
theorem mul_pow_int (a b : Int) (n : Nat) : (a * b) ^ n = a ^ n * b ^ n := by
  induction n with
  | zero => rw [Int.pow_zero, Int.pow_zero, Int.pow_zero, Int.mul_one]
  | succ n ih => rw [Int.pow_succ, Int.pow_succ, Int.pow_succ, ih]; grind
theorem pow_ne {a : Int} (h : a ≠ 0) (n : Nat) : a ^ n ≠ 0 := by
  induction n with
  | zero => rw [Int.pow_zero]; decide
  | succ n ih => rw [Int.pow_succ]; exact Int.mul_ne_zero ih h
/-- the sum of two numbers, by other pairs of theirs -/
theorem Fq.add {a b n1 d1 x y n2 d2 n d : Int} (f1 : Fq a b n1 d1) (f2 : Fq x y n2 d2) (f : Fq (n1 * d2 + n2 * d1) (d1 * d2) n d) : Fq (a * y + x * b) (b * y) n d := by
  have p1 := f1.pos
  have p2 := f2.pos
  have e1 := f1.eq
  have e2 := f2.eq
  refine f.conv (Int.mul_ne_zero (by omega) (by omega)) ?_
  grind
theorem Fq.mul {a b n1 d1 x y n2 d2 n d : Int} (f1 : Fq a b n1 d1) (f2 : Fq x y n2 d2) (f : Fq (n1 * n2) (d1 * d2) n d) : Fq (a * x) (b * y) n d := by
  have p1 := f1.pos
  have p2 := f2.pos
  have e1 := f1.eq
  have e2 := f2.eq
  refine f.conv (Int.mul_ne_zero (by omega) (by omega)) ?_
  grind
end CB

namespace CB
open PySem PySem.Spec PyProof.Rows L2
def rComb : List V → Hp → VK → Prop := fun vs H Q => ∃ a b : Int, vs = [.int a, .int b] ∧ 0 ≤ a ∧ 0 ≤ b ∧ a < 2 ^ 64 ∧ (b ≤ 9000 ∨ a ≤ 18000) ∧ Q (.int (PySem.W.mcComb a b)) H
def rPerm : List V → Hp → VK → Prop := fun vs H Q => ∃ a b : Int, vs = [.int a, .int b] ∧ 0 ≤ a ∧ 0 ≤ b ∧ a < 2 ^ 64 ∧ b ≤ 20000 ∧ Q (.int (PySem.W.mcPerm a b)) H
def rLcm : List V → Hp → VK → Prop := fun vs H Q => ∃ a b : Int, vs = [.int a, .int b] ∧ a.natAbs < 2 ^ 64 ∧ b.natAbs < 2 ^ 64 ∧ Q (.int ((Nat.lcm a.natAbs b.natAbs : Nat) : Int)) H
theorem cr_lcm {X : Cx} : CallR X (.builtin "math.lcm") rLcm := by
  intro pins s σ H vs us Q I r h
  obtain ⟨a, b, rfl, h1, h2, q⟩ := h
  obtain ⟨t, u, rfl⟩ := Vals.int2 r
  exact PySem.W.mc_lcm h1 h2 fun _ => ⟨.int _, H, I.tok _, ⟨_, rfl⟩, q⟩
/-- the triangle's entry -/
def chs : Nat → Nat → Nat
  | _, 0 => 1
  | 0, _ + 1 => 0
  | n + 1, k + 1 => chs n k + chs n (k + 1)
def fac : Nat → Nat
  | 0 => 1
  | n + 1 => (n + 1) * fac n
end CB

namespace CB.Z
open PySem
abbrev TZ : String := "itertools.zip_longest"
/-! ### it is made -/
abbrev ItO (l : Addr) : Obj := { cls := .type "list_iterator", data := .fields #[.ref l, .int 0 0] }
abbrev TuO (a b : Value) : Obj := { cls := .type "tuple", data := .seq #[a, b] }
abbrev ZlO (f0 fill : Value) (run : Int) (TI TO : Addr) : Obj := { cls := .type "itertools.zip_longest", dict := none, data := .fields #[f0, .bool false, fill, rawInt run, .ref TI, .ref TO], slots := #[] }
abbrev zA (h : Heap) (l1 : Addr) : Heap := h.push (ItO l1)
abbrev zB (h : Heap) (l1 l2 : Addr) : Heap := (zA h l1).push (ItO l2)
abbrev zC (h : Heap) (l1 l2 : Addr) : Heap := (zB h l1 l2).push (TuO (.ref h.objs.size) (.ref (zA h l1).objs.size))
abbrev zD (h : Heap) (l1 l2 : Addr) : Heap := (zC h l1 l2).push (TuO .none .none)
abbrev zH (h : Heap) (l1 l2 : Addr) (c : Value) : Heap := (zD h l1 l2).push (ZlO .none c 2 (zB h l1 l2).objs.size (zC h l1 l2).objs.size)
end CB.Z

namespace CB.Z
open PySem
abbrev IsZl (h : Heap) (z TI TO : Addr) (f0 c : Value) (run : Int) : Prop := h.get? z = some (ZlO f0 c run TI TO)
abbrev IsTu (h : Heap) (T : Addr) (a b : Value) : Prop := h.get? T = some (TuO a b)
section
variable {prog : Program} {w : World} {A : Around} {E : Value → Shared → Prop} {s : Shared}
def Gone (h : Heap) (it : Addr) : Prop := ∃ o vs, h.get? it = some o ∧ o.data = .fields vs
/-- a column: its entry, live or not -/
def Col (h : Heap) (e : Value) (it l : Addr) (n i : Nat) : Prop := (e = .ref it ∧ h.IsListIter it l i ∧ i ≤ n) ∨ (e = .none ∧ n < i ∧ Gone h it)
theorem Col.ext {h h' : Heap} {e : Value} {it l : Addr} {n i : Nat} (c : Col h e it l n i) (k : ∀ o, h.get? it = some o → h'.get? it = some o) : Col h' e it l n i := by
  rcases c with ⟨e, q, le⟩ | ⟨e, lt, o, vs, g, d⟩
  · exact .inl ⟨e, q.at k, le⟩
  · exact .inr ⟨e, lt, o, vs, k _ g, d⟩
def lives (n i : Nat) : Int := if i ≤ n then 1 else 0
structure ZA (z TI TO i1 i2 l1 l2 : Addr) : Prop extends ZipApart z TI TO i1 i2 l1 l2 where
  l1TI : l1 ≠ TI
  l2TI : l2 ≠ TI
structure ZCol (h : Heap) (TI i1 i2 l1 l2 : Addr) (n1 j1 n2 j2 : Nat) : Prop where
  ex : ∃ a b, IsTu h TI a b ∧ Col h a i1 l1 n1 j1 ∧ Col h b i2 l2 n2 j2
/-- all but z, the tuples and the iterators stays -/
def Kp (z TI TO i1 i2 : Addr) (h h' : Heap) : Prop := ∀ b o, b ≠ z → b ≠ TI → b ≠ TO → b ≠ i1 → b ≠ i2 → h.get? b = some o → h'.get? b = some o
end
end CB.Z

namespace CB.Z
open PySem PySem.Spec PyProof.Rows L2
section
variable {prog : Program} {w : World} {A : Around} {E : Value → Shared → Prop} {s : Shared}
end
end CB.Z

namespace CB.Z
open PySem PySem.Spec PyProof.Rows L2
/-- the lists xs at a and ys at b in step, the shorter one filled up -/
def ItZl (K : PySem.W.Frag) (a b : Addr) (xs ys : List V) (n : Int) : It :=
  ⟨fun i H => SqL K H a xs ∧ SqL K H b ys ∧ (i < xs.length ∨ i < ys.length),
    fun i H v H' => ∃ T, v = .ref T ∧ H T = none ∧ H' = upd H T (.tup [xs.getD i (.int n), ys.getD i (.int n)]),
    fun i H => SqL K H a xs ∧ SqL K H b ys ∧ xs.length ≤ i ∧ ys.length ≤ i⟩
def iZipL (K : PySem.W.Frag) (ta tk : TA) : TI := fun σ H R => ta σ H fun vs H1 => tk σ H1 fun ks H2 => ∃ a b xs ys n, vs = [.ref a, .ref b] ∧ ks = [.int n] ∧ SqL K H2 a xs ∧ SqL K H2 b ys ∧ R (ItZl K a b xs ys n) H2
end CB.Z

namespace CB.Z
open PySem PySem.Spec PyProof.Rows L2
end CB.Z

namespace CB
open PySem PySem.Spec PyProof.Rows L2
/-- n is where xs ends without its last zeros -/
structure Trim (xs : List Int) (n : Nat) : Prop where
  le : n ≤ xs.length
  up : ∀ k, n ≤ k → xs.getD k 0 = 0
  at_ : n = 0 ∨ xs.getD (n - 1) 0 ≠ 0
theorem getD_take {xs : List Int} {n k : Nat} : (xs.take n).getD k 0 = if k < n then xs.getD k 0 else 0 := by
  rw [List.getD_eq_getElem?_getD, List.getD_eq_getElem?_getD, List.getElem?_take]
  split <;> rfl
theorem Trim.take {xs : List Int} {n : Nat} (t : Trim xs n) (k : Nat) : (xs.take n).getD k 0 = xs.getD k 0 := by
  rw [getD_take]
  split
  · rfl
  · exact (t.up k (by omega)).symm
theorem getD_map {f : Int → Int} (h : f 0 = 0) (xs : List Int) (k : Nat) : (xs.map f).getD k 0 = f (xs.getD k 0) := by
  rw [List.getD_eq_getElem?_getD, List.getD_eq_getElem?_getD, List.getElem?_map]
  cases xs[k]? with
  | none => exact h.symm
  | some x => rfl
theorem getD_mem {xs : List Int} {k : Nat} (h : k < xs.length) : xs.getD k 0 ∈ xs := by
  rw [List.getD_eq_getElem?_getD, List.getElem?_eq_getElem h]
  exact List.getElem_mem h
theorem getD_end {xs : List Int} {k : Nat} (h : xs.length ≤ k) : xs.getD k 0 = 0 := by rw [List.getD_eq_getElem?_getD, List.getElem?_eq_none h]; rfl
theorem get_of_lt {xs : List Int} {k : Nat} (h : k < xs.length) : xs[k]? = some (xs.getD k 0) := by rw [List.getD_eq_getElem?_getD, List.getElem?_eq_getElem h]; rfl
theorem list_ext {xs ys : List Int} (h : xs.length = ys.length) (e : ∀ k, xs.getD k 0 = ys.getD k 0) : xs = ys := by
  refine List.ext_getElem? fun k => ?_
  by_cases c : k < xs.length
  · rw [get_of_lt c, get_of_lt (by omega), e]
  · rw [List.getElem?_eq_none (by omega), List.getElem?_eq_none (by omega)]
/-! ### the greatest common divisor of a list -/
def gcdL (xs : List Int) : Nat := xs.foldl (fun g x => Nat.gcd g x.natAbs) 0
/-! ### the one form -/
/-- ks / e is the one form of cs / d -/
structure Pq (cs : List Int) (d : Int) (ks : List Int) (e : Int) : Prop where
  eq : ∀ i, ks.getD i 0 * d = cs.getD i 0 * e
  pos : 0 < e
  last : ks = [] ∨ ks.getD (ks.length - 1) 0 ≠ 0
  cop : ∀ g : Int, g ∣ e → (∀ i, g ∣ ks.getD i 0) → g ∣ 1
theorem Pq.len {cs : List Int} {d : Int} {ks : List Int} {e : Int} (p : Pq cs d ks e) (hd : d ≠ 0) : ks.length ≤ cs.length := Decidable.byContradiction fun c => by
  rcases p.last with h | h
  · rw [h] at c; simp at c
  · have z := p.eq (ks.length - 1)
    rw [getD_end (xs := cs) (by omega), Int.zero_mul] at z
    rcases Int.mul_eq_zero.mp z with z | z
    · exact h z
    · exact hd z
/-- the same polynomial by another pair -/
theorem Pq.conv {cs cs' : List Int} {d d' : Int} {ks : List Int} {e : Int} (p : Pq cs d ks e) (hd : d ≠ 0) (h : ∀ i, cs.getD i 0 * d' = cs'.getD i 0 * d) : Pq cs' d' ks e := by
  refine ⟨fun i => ?_, p.pos, p.last, p.cop⟩
  have z := p.eq i
  have z2 := h i
  have : (ks.getD i 0 * d') * d = (cs'.getD i 0 * e) * d := by grind
  exact Int.eq_of_mul_eq_mul_right hd this
theorem Pq.den_dvd {cs : List Int} {d : Int} {ks ks' : List Int} {e e' : Int} (p : Pq cs d ks e) (p' : Pq cs d ks' e') (hd : d ≠ 0) : e ∣ e' := by
  have cross : ∀ i, ks.getD i 0 * e' = ks'.getD i 0 * e := fun i => by
    have z := p.eq i
    have z2 := p'.eq i
    have : (ks.getD i 0 * e') * d = (ks'.getD i 0 * e) * d := by grind
    exact Int.eq_of_mul_eq_mul_right hd this
  have pe := p.pos
  obtain ⟨g, x, y, _, g0, ex, ey, cxy, _, _⟩ := gcd_parts (n := e) (d := e') (.inl (by omega))
  have hx : ∀ i, x ∣ ks.getD i 0 := fun i => by
    have z := cross i
    rw [ex, ey] at z
    have z2 : ks.getD i 0 * y = ks'.getD i 0 * x := by
      have : (ks.getD i 0 * y) * g = (ks'.getD i 0 * x) * g := by grind
      exact Int.eq_of_mul_eq_mul_right (by omega) this
    exact dvd_of_cop (a := y) ⟨ks'.getD i 0, by grind⟩ cxy.symm
  have h1 := p.cop x ⟨g, by rw [ex]; grind⟩ hx
  obtain ⟨u, hu⟩ := h1
  refine ⟨y * u, ?_⟩
  rw [ey, ex]
  grind
theorem Pq.uniq {cs : List Int} {d : Int} {ks ks' : List Int} {e e' : Int} (p : Pq cs d ks e) (p' : Pq cs d ks' e') (hd : d ≠ 0) : ks = ks' ∧ e = e' := by
  have h1 := p.den_dvd p' hd
  have h2 := p'.den_dvd p hd
  have q1 := p.pos
  have q2 := p'.pos
  have ee : e = e' := by
    have z1 := natAbs_le_of_dvd h1 (by omega)
    have z2 := natAbs_le_of_dvd h2 (by omega)
    omega
  subst ee
  have same : ∀ i, ks.getD i 0 = ks'.getD i 0 := fun i => by
    have z1 := p.eq i
    have z2 := p'.eq i
    exact Int.eq_of_mul_eq_mul_right hd (z1.trans z2.symm)
  refine ⟨list_ext ?_ same, rfl⟩
  have le : ∀ {as bs : List Int}, (∀ i, as.getD i 0 = bs.getD i 0) → (as = [] ∨ as.getD (as.length - 1) 0 ≠ 0) → as.length ≤ bs.length := fun {as bs} h l => Decidable.byContradiction fun c => by
    rcases l with l | l
    · rw [l] at c; simp at c
    · rw [h, getD_end (by omega)] at l
      exact l rfl
  exact Nat.le_antisymm (le same p.last) (le (fun i => (same i).symm) p'.last)
/-! ### == of tuples of whole numbers -/
/-! ### sums -/
def addL (xs ys : List Int) : List Int := (List.range (max xs.length ys.length)).map fun i => xs.getD i 0 + ys.getD i 0
theorem addL_at (xs ys : List Int) (i : Nat) : (addL xs ys).getD i 0 = xs.getD i 0 + ys.getD i 0 := by
  unfold addL
  by_cases h : i < max xs.length ys.length
  · rw [List.getD_eq_getElem?_getD, List.getElem?_map, List.getElem?_range h]
    rfl
  · rw [getD_end (by rw [List.length_map, List.length_range]; omega), getD_end (xs := xs) (by omega), getD_end (xs := ys) (by omega)]
    rfl
theorem mul_at (xs : List Int) (c : Int) (i : Nat) : (xs.map fun x => x * c).getD i 0 = xs.getD i 0 * c := getD_map (f := fun x => x * c) (Int.zero_mul c) xs i
theorem neg_at (xs : List Int) (i : Nat) : (xs.map fun x => -x).getD i 0 = -(xs.getD i 0) := getD_map (f := fun x => -x) rfl xs i
/-- cs / d + cs' / d' -/
abbrev sumP (cs : List Int) (d : Int) (cs' : List Int) (d' : Int) : List Int := addL (cs.map fun x => x * d') (cs'.map fun x => x * d)
theorem sumP_at (cs : List Int) (d : Int) (cs' : List Int) (d' : Int) (i : Nat) : (sumP cs d cs' d').getD i 0 = cs.getD i 0 * d' + cs'.getD i 0 * d := by rw [addL_at, mul_at, mul_at]
/-- sums by other pairs -/
theorem Pq.add {a b : Int} {as bs ks js ms : List Int} {e f g : Int} (p1 : Pq as a ks e) (p2 : Pq bs b js f) (p : Pq (sumP ks e js f) (e * f) ms g) : Pq (sumP as a bs b) (a * b) ms g := by
  have q1 := p1.pos
  have q2 := p2.pos
  refine p.conv (Int.mul_ne_zero (by omega) (by omega)) fun i => ?_
  rw [sumP_at, sumP_at]
  have e1 := p1.eq i
  have e2 := p2.eq i
  grind
theorem Pq.neg {as ks ms : List Int} {a e g : Int} (p1 : Pq as a ks e) (p : Pq (ks.map fun x => -x) e ms g) : Pq (as.map fun x => -x) a ms g := by
  refine p.conv (by have := p1.pos; omega) fun i => ?_
  rw [neg_at, neg_at]
  have e1 := p1.eq i
  grind
theorem Pq.self {cs : List Int} {d : Int} {ks : List Int} {e : Int} (p : Pq cs d ks e) : Pq ks e ks e := ⟨fun i => rfl, p.pos, p.last, p.cop⟩
/-- the denominator of the one form divides the one that was given -/
theorem Pq.den_dvd1 {cs ks : List Int} {d e : Int} (p : Pq cs d ks e) (hd : d ≠ 0) : e ∣ d := by
  have pe := p.pos
  obtain ⟨g, x, y, _, g0, ex, ey, cxy, _, _⟩ := gcd_parts (n := e) (d := d) (.inl (by omega))
  have hx : ∀ i, x ∣ ks.getD i 0 := fun i => by
    have z := p.eq i
    rw [ex, ey] at z
    have z2 : ks.getD i 0 * y = cs.getD i 0 * x := by
      have : (ks.getD i 0 * y) * g = (cs.getD i 0 * x) * g := by grind
      exact Int.eq_of_mul_eq_mul_right (by omega) this
    exact dvd_of_cop (a := y) ⟨cs.getD i 0, by grind⟩ cxy.symm
  obtain ⟨u, hu⟩ := p.cop x ⟨g, by rw [ex]; grind⟩ hx
  refine ⟨y * u, ?_⟩
  rw [ey, ex]
  grind
theorem Pq.den_le {cs ks : List Int} {d e : Int} (p : Pq cs d ks e) (hd : d ≠ 0) : e.natAbs ≤ d.natAbs := natAbs_le_of_dvd (p.den_dvd1 hd) hd
end CB

namespace CB
open PySem PySem.Spec PyProof.Rows L2
/-- the def of a staticmethod of a class -/
def stAd (K : PySem.W.Frag) (C : Addr) (m : Str) : Addr := He5.wf K C "staticmethod" m
def statB (K : PySem.W.Frag) (C : Addr) (m : Str) : Bool := He5.wrapB K C "staticmethod" "staticmethod.__get__" m && (PySem.W.readsIn K C (.type "type") && He.eqO (PySem.W.specialIn K (.ref C) "__getattribute__") (some (some (.builtin "type.__getattribute__"))))
structure Stat (K : PySem.W.Frag) (C : Addr) (m : Str) : Prop where
  at_ : PySem.W.findCls K (.ref C) (.type "type") m = some (.get (.builtin "staticmethod.__get__") (.ref (He.ma K C m)) .none (.ref C))
  rc : ∃ rest, PySem.W.recIn K (He.ma K C m) "staticmethod" = some (.ref (stAd K C m) :: rest)
  rd : ClX.CRead K C (.type "type")
def tSta (C : Addr) (sp : Sp) (E : XK) (ta : TE) (t : TA) : TE := fun σ H Q => ta σ H fun x H1 => x = .ref C ∧ t σ H1 fun vs H2 => sp vs H2 Q E
section
variable {X : Cx} {CX : CXT} {k : Nat} {C : Addr} {fd : FuncData} {ps : List Str} {sp : Sp} {E : XK} {m : Str} {p pos apos : Pos} {e o : Expr} {es : List Expr} {ta : TE} {t : TA}
end
end CB

namespace CB.Z
open PySem PySem.Spec PyProof.Rows L2
/-! ### enumerate(a tuple): own work -/
abbrev TuIt (t : Addr) : Obj := { cls := .type "tuple_iterator", data := .fields #[.ref t, .int 0 0] }
abbrev EnOb (it : Addr) : Obj := { cls := .type "enumerate", data := .fields #[.none, .bool false, .ref it, rawInt 0, .none, .none] }
/-- the tuple xs at a, each item in a new pair with its number -/
def IteT (K : PySem.W.Frag) (a : Addr) (xs : List V) : It :=
  ⟨fun i H => SqT K H a xs ∧ i < xs.length, fun i H v H' => ∃ T x, xs[i]? = some x ∧ v = .ref T ∧ H T = none ∧ H' = upd H T (.tup [.int (i : Nat), x]), fun i H => SqT K H a xs ∧ xs.length ≤ i⟩
def iEnumT (K : PySem.W.Frag) (ta : TA) : TI := fun σ H R => ta σ H fun vs H1 => ∃ a xs, vs = [.ref a] ∧ SqT K H1 a xs ∧ R (IteT K a xs) H1
end CB.Z

namespace CB
open PySem PySem.Spec PyProof.Rows L2
/-! ### products of polynomials -/
/-- what the first i coefficients of xs give to the coefficient k of the product -/
def cvS (xs ys : List Int) : Nat → Nat → Int
  | 0, _ => 0
  | i + 1, k => cvS xs ys i k + if i ≤ k then xs.getD i 0 * ys.getD (k - i) 0 else 0
/-- the coefficient k of the product -/
def cv (xs ys : List Int) (k : Nat) : Int := cvS xs ys xs.length k
theorem cvS_end {xs ys : List Int} (k n : Nat) : cvS xs ys (xs.length + n) k = cv xs ys k := by
  induction n with
  | zero => rfl
  | succ n ih =>
    show cvS xs ys (xs.length + n) k + _ = _
    rw [ih, getD_end (xs := xs) (by show xs.length ≤ xs.length + n; omega)]
    simp
theorem cvS_ge {xs ys : List Int} {k n : Nat} (h : xs.length ≤ n) : cvS xs ys n k = cv xs ys k := by
  obtain ⟨m, rfl⟩ : ∃ m, n = xs.length + m := ⟨n - xs.length, by omega⟩
  exact cvS_end k m
/-- the product of other pairs -/
theorem cvS_conv {as bs xs ys : List Int} {a b e f : Int} (h1 : ∀ i, as.getD i 0 * e = xs.getD i 0 * a) (h2 : ∀ i, bs.getD i 0 * f = ys.getD i 0 * b) (k : Nat) : ∀ n, cvS as bs n k * (e * f) = cvS xs ys n k * (a * b)
  | 0 => by simp [cvS]
  | n + 1 => by
    have ih := cvS_conv h1 h2 k n
    rw [cvS, cvS, Int.add_mul, Int.add_mul, ih]
    congr 1
    split
    · have e1 := h1 n
      have e2 := h2 (k - n)
      grind
    · simp
theorem cv_conv {as bs xs ys : List Int} {a b e f : Int} (h1 : ∀ i, as.getD i 0 * e = xs.getD i 0 * a) (h2 : ∀ i, bs.getD i 0 * f = ys.getD i 0 * b) (k : Nat) : cv as bs k * (e * f) = cv xs ys k * (a * b) := by
  have z := cvS_conv h1 h2 k (max as.length xs.length)
  rwa [cvS_ge (by omega), cvS_ge (by omega)] at z
/-- zs is the product of xs and ys -/
structure IsMul (zs xs ys : List Int) : Prop where
  at_ : ∀ k, zs.getD k 0 = cv xs ys k
  len : zs.length ≤ xs.length + ys.length
theorem Pq.mul {a b : Int} {as bs ks js ms zs ws : List Int} {e f g : Int} (p1 : Pq as a ks e) (p2 : Pq bs b js f) (z : IsMul zs ks js) (w : IsMul ws as bs) (p : Pq zs (e * f) ms g) : Pq ws (a * b) ms g := by
  have q1 := p1.pos
  have q2 := p2.pos
  refine p.conv (Int.mul_ne_zero (by omega) (by omega)) fun i => ?_
  rw [z.at_, w.at_]
  exact cv_conv p1.eq p2.eq i
/-- the list while it is made: i rows are added, and j items of the next one -/
structure MulAt (fs xs ys : List Int) (N i j : Nat) : Prop where
  len : fs.length = N
  at_ : ∀ k, fs.getD k 0 = cvS xs ys i k + if i ≤ k ∧ k - i < j then xs.getD i 0 * ys.getD (k - i) 0 else 0
theorem MulAt.start {xs ys : List Int} {N : Nat} : MulAt (List.replicate N 0) xs ys N 0 0 := ⟨List.length_replicate, fun k => by
  have z : (List.replicate N (0 : Int)).getD k 0 = 0 := by
    rw [List.getD_eq_getElem?_getD, List.getElem?_replicate]
    split <;> rfl
  rw [z]
  simp [cvS]⟩
theorem MulAt.row {fs xs ys : List Int} {N i j : Nat} (m : MulAt fs xs ys N i j) (h : ys.length ≤ j) : MulAt fs xs ys N (i + 1) 0 := ⟨m.len, fun k => by
  rw [m.at_ k, cvS]
  simp only [Nat.not_lt_zero, and_false, if_false, Int.add_zero]
  congr 1
  by_cases c : i ≤ k
  · by_cases c2 : k - i < j
    · rw [if_pos ⟨c, c2⟩, if_pos c]
    · rw [if_neg (fun z => c2 z.2), if_pos c, getD_end (xs := ys) (by omega), Int.mul_zero]
  · rw [if_neg (fun z => c z.1), if_neg c]⟩
theorem MulAt.skip {fs xs ys : List Int} {N i : Nat} (m : MulAt fs xs ys N i 0) (h : xs.getD i 0 = 0) : MulAt fs xs ys N (i + 1) 0 := ⟨m.len, fun k => by
  rw [m.at_ k, cvS, h]
  simp⟩
theorem getD_set {fs : List Int} {n k : Nat} {v : Int} (h : n < fs.length) : (fs.set n v).getD k 0 = if k = n then v else fs.getD k 0 := by
  rw [List.getD_eq_getElem?_getD, List.getD_eq_getElem?_getD, List.getElem?_set]
  by_cases c : n = k
  · subst c
    rw [if_pos rfl, if_pos h, if_pos rfl]
    rfl
  · rw [if_neg c, if_neg (fun z => c z.symm)]
theorem MulAt.step {fs xs ys : List Int} {N i j : Nat} {v : Int} (m : MulAt fs xs ys N i j) (h : i + j < N) (hv : v = fs.getD (i + j) 0 + xs.getD i 0 * ys.getD j 0) : MulAt (fs.set (i + j) v) xs ys N i (j + 1) := ⟨by rw [List.length_set, m.len], fun k => by
  rw [getD_set (by rw [m.len]; exact h)]
  by_cases c : k = i + j
  · subst c
    rw [if_pos rfl, hv, m.at_, if_neg (by omega), if_pos (by omega)]
    have e : i + j - i = j := by omega
    rw [e, Int.add_zero]
  · rw [if_neg c, m.at_]
    congr 1
    by_cases c2 : i ≤ k ∧ k - i < j
    · rw [if_pos c2, if_pos (by omega)]
    · rw [if_neg c2, if_neg (by omega)]⟩
theorem MulAt.fin {fs xs ys : List Int} {N i : Nat} (m : MulAt fs xs ys N i 0) (h : xs.length ≤ i) (hN : N ≤ xs.length + ys.length) : IsMul fs xs ys := ⟨fun k => by
  rw [m.at_, cvS_ge h]
  simp, by rw [m.len]; exact hN⟩
theorem get_map_int {xs : List Int} {i : Nat} {x : V} (h : (xs.map V.int)[i]? = some x) : ∃ c, xs[i]? = some c ∧ x = .int c := by
  rw [List.getElem?_map] at h
  cases e : xs[i]? with
  | none => rw [e] at h; cases h
  | some u => rw [e] at h; cases h; exact ⟨u, rfl, rfl⟩
/-- a name of the module that holds a number -/
theorem pe_globI {X : Cx} {x : Str} {n : Int} {p : Pos} (hg : Gl X x) (h : ∃ t, X.mg x = some (.int n t)) (hd : (x == ("__debug__" : Str)) = false := by decide) : PE X (.Name x p) (tC (.int n)) := by
  obtain ⟨t, h⟩ := h
  exact pe_glob (v := .int n) hg h ⟨_, rfl⟩ hd
/-- what no reading reaches -/
theorem pss_dead {X : Cx} {st : List Stmt} : PSs X st (fun _ _ _ => False) := ⟨fun _ _ _ _ _ _ h => h.elim⟩
theorem ixN_at {n j : Nat} {i : Int} (h : i = j) (l : j < n) : ixN n i = some j := by
  subst h
  unfold ixN
  rw [if_pos (by omega), if_pos (by omega)]
  rfl
end CB

namespace CB
open PySem PySem.Spec PyProof.Rows L2
/-! ### finite sums -/
def sumTo (f : Nat → Int) : Nat → Int
  | 0 => 0
  | n + 1 => sumTo f n + f n
theorem sumTo_congr {f g : Nat → Int} : ∀ n, (∀ i, i < n → f i = g i) → sumTo f n = sumTo g n
  | 0, _ => rfl
  | n + 1, h => by rw [sumTo, sumTo, sumTo_congr n fun i hi => h i (by omega), h n (by omega)]
theorem sumTo_add (f g : Nat → Int) : ∀ n, sumTo (fun i => f i + g i) n = sumTo f n + sumTo g n
  | 0 => rfl
  | n + 1 => by rw [sumTo, sumTo, sumTo, sumTo_add f g n]; omega
theorem sumTo_mul (c : Int) (f : Nat → Int) : ∀ n, sumTo (fun i => c * f i) n = c * sumTo f n
  | 0 => by simp [sumTo]
  | n + 1 => by rw [sumTo, sumTo, sumTo_mul c f n, Int.mul_add]
theorem sumTo_zero {f : Nat → Int} : ∀ n, (∀ i, i < n → f i = 0) → sumTo f n = 0
  | 0, _ => rfl
  | n + 1, h => by rw [sumTo, sumTo_zero n fun i hi => h i (by omega), h n (by omega)]; rfl
theorem sumTo_first (f : Nat → Int) : ∀ n, sumTo f (n + 1) = f 0 + sumTo (fun i => f (i + 1)) n
  | 0 => by simp [sumTo]
  | n + 1 => by rw [sumTo, sumTo_first f n, sumTo]; omega
theorem sumTo_swap (f : Nat → Nat → Int) (m : Nat) : ∀ n, sumTo (fun i => sumTo (fun j => f i j) m) n = sumTo (fun j => sumTo (fun i => f i j) n) m
  | 0 => (sumTo_zero m fun _ _ => rfl).symm
  | n + 1 => by
    rw [sumTo, sumTo_swap f m n, ← sumTo_add]
    exact sumTo_congr m fun i _ => rfl
theorem sumTo_one {f : Nat → Int} {k : Nat} : ∀ n, k < n → (∀ i, i < n → i ≠ k → f i = 0) → sumTo f n = f k
  | 0, h, _ => absurd h (Nat.not_lt_zero _)
  | n + 1, h, z => by
    rw [sumTo]
    by_cases c : k = n
    · subst c
      rw [sumTo_zero k fun i hi => z i (by omega) (by omega)]
      omega
    · rw [sumTo_one n (by omega) fun i hi ne => z i (by omega) ne, z n (by omega) (fun e => c e.symm)]
      omega
/-! ### the powers of x + s -/
def pw (s : Int) : Nat → Nat → Int
  | 0, 0 => 1
  | 0, _ + 1 => 0
  | i + 1, 0 => s * pw s i 0
  | i + 1, k + 1 => s * pw s i (k + 1) + pw s i k
theorem pw_high (s : Int) : ∀ i k, i < k → pw s i k = 0
  | 0, k + 1, _ => rfl
  | i + 1, k + 1, h => by
    rw [pw, pw_high s i (k + 1) (by omega), pw_high s i k (by omega)]
    simp
theorem pw_zero : ∀ i k, pw 0 i k = if i = k then 1 else 0
  | 0, 0 => rfl
  | 0, k + 1 => rfl
  | i + 1, 0 => by rw [pw, Int.zero_mul, if_neg (by omega)]
  | i + 1, k + 1 => by
    rw [pw, Int.zero_mul, pw_zero i k, Int.zero_add]
    by_cases c : i = k
    · rw [if_pos c, if_pos (by omega)]
    · rw [if_neg c, if_neg (by omega)]
/-- the coefficient k of f(x + s), f with n coefficients -/
def shV (s : Int) (f : Nat → Int) (n k : Nat) : Int := sumTo (fun i => f i * pw s i k) n
theorem shV_more {s : Int} {f : Nat → Int} {n : Nat} (k m : Nat) (h : ∀ i, n ≤ i → f i = 0) : shV s f (n + m) k = shV s f n k := by
  induction m with
  | zero => rfl
  | succ m ih =>
    show sumTo _ (n + m) + f (n + m) * _ = _
    rw [h (n + m) (by omega), Int.zero_mul, Int.add_zero]
    exact ih
theorem shV_ge {s : Int} {f : Nat → Int} {n m : Nat} (k : Nat) (h : ∀ i, n ≤ i → f i = 0) (l : n ≤ m) : shV s f m k = shV s f n k := by
  obtain ⟨j, rfl⟩ : ∃ j, m = n + j := ⟨m - n, by omega⟩
  exact shV_more k j h
theorem shV_mul {s c : Int} {f : Nat → Int} {n : Nat} (k : Nat) : shV s (fun i => c * f i) n k = c * shV s f n k := by
  unfold shV
  rw [← sumTo_mul]
  exact sumTo_congr n fun i _ => by grind
theorem shV_congr {s : Int} {f g : Nat → Int} {n : Nat} (k : Nat) (h : ∀ i, i < n → f i = g i) : shV s f n k = shV s g n k := sumTo_congr n fun i hi => by rw [h i hi]
/-! ### by the first coefficient -/
def shC (s : Int) : List Int → Nat → Int
  | [], _ => 0
  | c :: r, 0 => c + s * shC s r 0
  | c :: r, k + 1 => shC s r k + s * shC s r (k + 1)
/-- one pass of the division by x - s -/
def hornL (s : Int) : List Int → List Int
  | [] => []
  | c :: r => (c + s * shC s r 0) :: hornL s r
theorem hornL_len (s : Int) : ∀ r, (hornL s r).length = r.length
  | [] => rfl
  | c :: r => by rw [hornL, List.length_cons, List.length_cons, hornL_len s r]
theorem hornL_at (s : Int) : ∀ (r : List Int) (k : Nat), (hornL s r).getD k 0 = shC s (r.drop k) 0
  | [], k => by cases k <;> rfl
  | c :: r, 0 => rfl
  | c :: r, k + 1 => hornL_at s r k
theorem shC_step (s : Int) : ∀ (r : List Int) (c : Int) (k : Nat), shC s (c :: r) (k + 1) = shC s (hornL s r) k
  | [], c, k => by cases k <;> simp [shC, hornL]
  | d :: r, c, 0 => by
    have e := shC_step s r d 0
    show shC s (d :: r) 0 + s * shC s (d :: r) (0 + 1) = (d + s * shC s r 0) + s * shC s (hornL s r) 0
    rw [e]
    rfl
  | d :: r, c, k + 1 => by
    have e1 := shC_step s r d k
    have e2 := shC_step s r d (k + 1)
    show shC s (d :: r) (k + 1) + s * shC s (d :: r) (k + 1 + 1) = shC s (hornL s r) k + s * shC s (hornL s r) (k + 1)
    rw [e1, e2]
theorem drop_one {fs : List Int} {i : Nat} (h : i < fs.length) : fs.drop i = fs.getD i 0 :: fs.drop (i + 1) := by
  rw [List.drop_eq_getElem_cons h]
  congr 1
  rw [List.getD_eq_getElem?_getD, List.getElem?_eq_getElem h]
  rfl
/-- i passes are done -/
structure ShAt (s : Int) (cs fs : List Int) (i : Nat) : Prop where
  len : fs.length = cs.length
  lo : ∀ k, k < i → fs.getD k 0 = shC s cs k
  hi : ∀ k, shC s cs (i + k) = shC s (fs.drop i) k
/-- within a pass: the places from j on are done -/
structure ShIn (s : Int) (fs gs : List Int) (j : Nat) : Prop where
  len : gs.length = fs.length
  lo : ∀ k, k < j → gs.getD k 0 = fs.getD k 0
  hi : ∀ k, j ≤ k → gs.getD k 0 = shC s (fs.drop k) 0
theorem ShAt.start {s : Int} {cs : List Int} : ShAt s cs cs 0 := ⟨rfl, fun k h => absurd h (Nat.not_lt_zero _), fun k => by rw [Nat.zero_add, List.drop_zero]⟩
theorem ShIn.start {s : Int} {fs : List Int} : ShIn s fs fs (fs.length - 1) := ⟨rfl, fun _ _ => rfl, fun k h => by
  by_cases c : k < fs.length
  · rw [drop_one c, show fs.drop (k + 1) = [] from List.drop_of_length_le (by omega)]
    simp [shC]
  · rw [getD_end (by omega), List.drop_of_length_le (by omega)]
    rfl⟩
theorem ShIn.step {s v : Int} {fs gs : List Int} {j : Nat} (m : ShIn s fs gs (j + 1)) (h : j + 1 < fs.length) (hv : v = gs.getD j 0 + s * gs.getD (j + 1) 0) : ShIn s fs (gs.set j v) j := by
  have hj : j < gs.length := by rw [m.len]; omega
  refine ⟨by rw [List.length_set, m.len], fun k hk => ?_, fun k hk => ?_⟩
  · rw [getD_set hj, if_neg (by omega)]
    exact m.lo k (by omega)
  · rw [getD_set hj]
    by_cases c : k = j
    · subst c
      rw [if_pos rfl, hv, m.lo k (by omega), m.hi (k + 1) (Nat.le_refl _), drop_one (i := k) (by omega)]
      rfl
    · rw [if_neg c]
      exact m.hi k (by omega)
theorem ShAt.pass {s : Int} {cs fs gs : List Int} {i : Nat} (a : ShAt s cs fs i) (m : ShIn s fs gs i) (h : i < fs.length) : ShAt s cs gs (i + 1) := by
  refine ⟨by rw [m.len, a.len], fun k hk => ?_, fun k => ?_⟩
  · by_cases c : k = i
    · subst c
      rw [m.hi k (Nat.le_refl _)]
      exact (a.hi 0).symm
    · rw [m.lo k (by omega)]
      exact a.lo k (by omega)
  · have e : gs.drop (i + 1) = hornL s (fs.drop (i + 1)) := by
      refine list_ext (by rw [hornL_len, List.length_drop, List.length_drop, m.len]) fun k => ?_
      rw [hornL_at, List.drop_drop, List.getD_eq_getElem?_getD, List.getElem?_drop, ← List.getD_eq_getElem?_getD]
      exact m.hi _ (by omega)
    rw [e, ← shC_step s (fs.drop (i + 1)) (fs.getD i 0) k, ← drop_one h, ← a.hi (k + 1)]
    congr 1
    omega
theorem ShAt.fin {s : Int} {cs fs : List Int} {i : Nat} (a : ShAt s cs fs i) (h : cs.length ≤ i + 1) (k : Nat) : fs.getD k 0 = shC s cs k := by
  by_cases c : k < i
  · exact a.lo k c
  · have e := a.hi (k - i)
    rw [show i + (k - i) = k by omega] at e
    rw [e]
    by_cases c2 : i < fs.length
    · rw [drop_one c2, show fs.drop (i + 1) = [] from List.drop_of_length_le (by rw [a.len]; omega)]
      obtain ⟨m, hm⟩ : ∃ m, k - i = m := ⟨_, rfl⟩
      rw [hm]
      cases m with
      | zero => rw [show k = i by omega]; simp [shC]
      | succ m => rw [getD_end (by rw [a.len]; omega)]; simp [shC]
    · rw [List.drop_of_length_le (by omega), getD_end (by omega)]
      rfl
/-- zs is cs moved by s -/
structure IsSh (s : Int) (zs cs : List Int) : Prop where
  at_ : ∀ k, zs.getD k 0 = shV s (fun i => cs.getD i 0) cs.length k
  len : zs.length = cs.length
theorem shV_list {s : Int} {cs : List Int} {n : Nat} (h : cs.length ≤ n) (k : Nat) : shV s (fun i => cs.getD i 0) n k = shV s (fun i => cs.getD i 0) cs.length k := shV_ge k (fun i hi => getD_end hi) h
theorem shV_pair {s : Int} {as xs : List Int} {a e : Int} (h : ∀ i, as.getD i 0 * e = xs.getD i 0 * a) (k : Nat) :
    shV s (fun i => as.getD i 0) as.length k * e = shV s (fun i => xs.getD i 0) xs.length k * a := by
  rw [← shV_list (n := max as.length xs.length) (by omega), ← shV_list (cs := xs) (n := max as.length xs.length) (by omega), Int.mul_comm, Int.mul_comm _ a, ← shV_mul, ← shV_mul]
  exact shV_congr k fun i _ => by
    have := h i
    grind
theorem Pq.shift {s a e g : Int} {as ks zs ws ms : List Int} (p : Pq as a ks e) (z : IsSh s zs ks) (w : ∀ k, ws.getD k 0 = shV s (fun i => as.getD i 0) as.length k) (q : Pq zs e ms g) : Pq ws a ms g := by
  refine q.conv (by have := p.pos; omega) fun i => ?_
  rw [z.at_, w]
  exact shV_pair p.eq i
theorem IsSh.zero {zs cs : List Int} (z : IsSh 0 zs cs) (k : Nat) : zs.getD k 0 = cs.getD k 0 := by
  rw [z.at_]
  by_cases c : k < cs.length
  · unfold shV
    rw [sumTo_one (k := k) _ c fun i hi ne => by rw [pw_zero, if_neg ne, Int.mul_zero], pw_zero, if_pos rfl, Int.mul_one]
  · rw [getD_end (xs := cs) (by omega)]
    exact sumTo_zero _ fun i hi => by rw [pw_zero, if_neg (by omega), Int.mul_zero]
/-! ### the powers of x + s as products -/
end CB

namespace CB
open PySem PySem.Spec PyProof.Rows L2
/-! ### division with remainder -/
theorem cvS_set {xs ys : List Int} {a : Nat} {v : Int} (h : a < xs.length) (k : Nat) : ∀ n, cvS (xs.set a v) ys n k = cvS xs ys n k + if a < n ∧ a ≤ k then (v - xs.getD a 0) * ys.getD (k - a) 0 else 0
  | 0 => by rw [if_neg (by omega)]; rfl
  | n + 1 => by
    rw [cvS, cvS, cvS_set h k n, getD_set h]
    by_cases c : n = a
    · subst c
      rw [if_pos rfl, if_neg (show ¬ (n < n ∧ n ≤ k) by omega)]
      by_cases c2 : n ≤ k
      · rw [if_pos c2, if_pos c2, if_pos (show n < n + 1 ∧ n ≤ k by omega), Int.sub_mul]
        omega
      · rw [if_neg c2, if_neg c2, if_neg (show ¬ (n < n + 1 ∧ n ≤ k) by omega)]
    · rw [if_neg c]
      by_cases c2 : a < n ∧ a ≤ k
      · rw [if_pos c2, if_pos (show a < n + 1 ∧ a ≤ k by omega)]
        omega
      · rw [if_neg c2, if_neg (show ¬ (a < n + 1 ∧ a ≤ k) by omega)]
        omega
theorem cv_set {xs ys : List Int} {a : Nat} {v : Int} (h : a < xs.length) (k : Nat) : cv (xs.set a v) ys k = cv xs ys k + if a ≤ k then (v - xs.getD a 0) * ys.getD (k - a) 0 else 0 := by
  unfold cv
  rw [List.length_set, cvS_set h]
  congr 1
  by_cases c : a ≤ k
  · rw [if_pos ⟨h, c⟩, if_pos c]
  · rw [if_neg (fun z => c z.2), if_neg c]
theorem cv_scale {xs ys : List Int} {s : Int} (k : Nat) : cv (xs.map fun x => x * s) ys k = cv xs ys k * s := by
  have z := cv_conv (as := xs.map fun x => x * s) (bs := ys) (xs := xs) (ys := ys) (a := s) (b := 1) (e := 1) (f := 1) (fun i => by rw [mul_at, Int.mul_one]) (fun i => rfl) k
  rwa [Int.mul_one, Int.mul_one, Int.mul_one] at z
theorem cv_rep {ys : List Int} {n : Nat} (k : Nat) : cv (List.replicate n 0) ys k = 0 := by
  have z : ∀ m, cvS (List.replicate n (0 : Int)) ys m k = 0 := by
    intro m
    induction m with
    | zero => rfl
    | succ m ih =>
      rw [cvS, ih]
      have e : (List.replicate n (0 : Int)).getD m 0 = 0 := by
        rw [List.getD_eq_getElem?_getD, List.getElem?_replicate]
        split <;> rfl
      rw [e, Int.zero_mul]
      split <;> rfl
  exact z _
/-- the quotient and the rest while they are made: the places below n are still to do -/
structure DivAt (f : Int) (xs qs rs ys : List Int) (n : Nat) : Prop where
  f0 : f ≠ 0
  rl : rs.length = xs.length
  eq : ∀ k, f * xs.getD k 0 = cv qs ys k + rs.getD k 0
  lo : ∀ i, i < n → qs.getD i 0 = 0
  hi : ∀ k, n + ys.length ≤ k + 1 → rs.getD k 0 = 0
theorem DivAt.start {xs ys : List Int} {n : Nat} (h : (n : Int) = xs.length - ys.length + 1 ∨ (n = 0 ∧ xs.length + 1 ≤ ys.length)) : DivAt 1 xs (List.replicate n 0) xs ys n :=
  ⟨by decide, rfl, fun k => by rw [cv_rep]; omega, fun i _ => by
    rw [List.getD_eq_getElem?_getD, List.getElem?_replicate]
    split <;> rfl, fun k hk => getD_end (by omega)⟩
theorem DivAt.scale {f s : Int} {xs qs rs ys : List Int} {n : Nat} (m : DivAt f xs qs rs ys n) (h : s ≠ 0) : DivAt (f * s) xs (qs.map fun x => x * s) (rs.map fun x => x * s) ys n :=
  ⟨Int.mul_ne_zero m.f0 h, by rw [List.length_map, m.rl], fun k => by
    rw [cv_scale, mul_at]
    have := m.eq k
    grind, fun i hi => by rw [mul_at, m.lo i hi, Int.zero_mul], fun k hk => by rw [mul_at, m.hi k hk, Int.zero_mul]⟩
/-- the rest while a multiple is taken from it -/
structure SubAt (zs rs ys : List Int) (v : Int) (a j : Nat) : Prop where
  len : zs.length = rs.length
  at_ : ∀ k, zs.getD k 0 = rs.getD k 0 - if a ≤ k ∧ k - a < j then v * ys.getD (k - a) 0 else 0
theorem SubAt.start {rs ys : List Int} {v : Int} {a : Nat} : SubAt rs rs ys v a 0 := ⟨rfl, fun k => by rw [if_neg (by omega), Int.sub_zero]⟩
theorem SubAt.step {zs rs ys : List Int} {v u : Int} {a j : Nat} (m : SubAt zs rs ys v a j) (h : a + j < rs.length) (hu : u = zs.getD (a + j) 0 - v * ys.getD j 0) : SubAt (zs.set (a + j) u) rs ys v a (j + 1) := ⟨by rw [List.length_set, m.len], fun k => by
  rw [getD_set (by rw [m.len]; exact h)]
  by_cases c : k = a + j
  · subst c
    rw [if_pos rfl, hu, m.at_, if_neg (by omega), if_pos (by omega), show a + j - a = j by omega, Int.sub_zero]
  · rw [if_neg c, m.at_]
    congr 1
    by_cases c2 : a ≤ k ∧ k - a < j
    · rw [if_pos c2, if_pos (by omega)]
    · rw [if_neg c2, if_neg (by omega)]⟩
theorem SubAt.fin {zs rs ys : List Int} {v : Int} {a : Nat} (m : SubAt zs rs ys v a ys.length) (k : Nat) : zs.getD k 0 = rs.getD k 0 - if a ≤ k then v * ys.getD (k - a) 0 else 0 := by
  rw [m.at_]
  congr 1
  by_cases c : a ≤ k
  · by_cases c2 : k - a < ys.length
    · rw [if_pos ⟨c, c2⟩, if_pos c]
    · rw [if_neg (fun z => c2 z.2), if_pos c, getD_end (xs := ys) (by omega), Int.mul_zero]
  · rw [if_neg (fun z => c z.1), if_neg c]
theorem DivAt.step {f v : Int} {xs qs rs zs ys : List Int} {n : Nat} (m : DivAt f xs qs rs ys (n + 1)) (h : n < qs.length) (hy : 0 < ys.length) (hv : v * ys.getD (ys.length - 1) 0 = rs.getD (n + ys.length - 1) 0) (zl : zs.length = rs.length)
    (hz : ∀ k, zs.getD k 0 = rs.getD k 0 - if n ≤ k then v * ys.getD (k - n) 0 else 0) : DivAt f xs (qs.set n v) zs ys n :=
  ⟨m.f0, by rw [zl, m.rl], fun k => by
    rw [cv_set h, hz, m.eq k, m.lo n (by omega), Int.sub_zero]
    split <;> omega, fun i hi => by
    rw [getD_set h, if_neg (by omega)]
    exact m.lo i (by omega), fun k hk => by
    rw [hz, if_pos (show n ≤ k by omega)]
    by_cases c : k = n + ys.length - 1
    · subst c
      rw [show n + ys.length - 1 - n = ys.length - 1 by omega, hv]
      omega
    · rw [m.hi k (by omega), getD_end (xs := ys) (by omega), Int.mul_zero]
      rfl⟩
theorem SubAt.bits {zs rs ys : List Int} {v : Int} {a j p q : Nat} (m : SubAt zs rs ys v a j) (h1 : ∀ i, (rs.getD i 0).natAbs < 2 ^ (p + q)) (h2 : v.natAbs < 2 ^ p) (h3 : ∀ i, (ys.getD i 0).natAbs < 2 ^ q) (k : Nat) : (zs.getD k 0).natAbs < 2 ^ (p + q + 1) := by
  rw [m.at_]
  have t : (if a ≤ k ∧ k - a < j then v * ys.getD (k - a) 0 else 0).natAbs < 2 ^ (p + q) := by
    split
    · exact abs_lt_mul h2 (h3 _)
    · exact Nat.pow_pos (by decide)
  have z := sz_sub (h1 k) t
  rwa [Nat.max_self] at z
end CB
namespace CB
open PySem PySem.Spec PyProof.Rows L2
/-! ### a quotient is the only one -/
def linL (xs ys : List Int) (A B : Int) : List Int := (List.range (max xs.length ys.length)).map fun i => xs.getD i 0 * A - ys.getD i 0 * B
end CB

namespace CB
open PySem PySem.Spec PyProof.Rows L2
/-! ### products and powers of coefficient functions -/
def cf (f g : Nat → Int) (k : Nat) : Int := sumTo (fun i => f i * g (k - i)) (k + 1)
theorem sumTo_rev (F : Nat → Int) : ∀ n, sumTo F n = sumTo (fun i => F (n - 1 - i)) n
  | 0 => rfl
  | n + 1 => by
    rw [sumTo_first (fun i => F (n + 1 - 1 - i)) n]
    show sumTo F n + F n = F (n + 1 - 1 - 0) + sumTo (fun i => F (n + 1 - 1 - (i + 1))) n
    rw [sumTo_rev F n, Int.add_comm]
    have e : n + 1 - 1 - 0 = n := by omega
    rw [e]
    congr 1
    exact sumTo_congr n fun i hi => by
      have : n + 1 - 1 - (i + 1) = n - 1 - i := by omega
      rw [this]
theorem cf_comm (f g : Nat → Int) (k : Nat) : cf f g k = cf g f k := by
  unfold cf
  rw [sumTo_rev]
  exact sumTo_congr _ fun i hi => by
    have e1 : k + 1 - 1 - i = k - i := by omega
    have e2 : k - (k - i) = i := by omega
    rw [e1, e2, Int.mul_comm]
theorem sumTo_tri (F : Nat → Nat → Int) : ∀ n, sumTo (fun i => sumTo (fun j => F i j) (i + 1)) n = sumTo (fun j => sumTo (fun m => F (j + m) j) (n - j)) n
  | 0 => rfl
  | n + 1 => by
    show sumTo (fun i => sumTo (fun j => F i j) (i + 1)) n + sumTo (fun j => F n j) (n + 1) = _
    rw [sumTo_tri F n]
    have e : sumTo (fun j => sumTo (fun m => F (j + m) j) (n + 1 - j)) (n + 1) = sumTo (fun j => sumTo (fun m => F (j + m) j) (n - j) + F n j) (n + 1) := sumTo_congr _ fun j hj => by
      have z : n + 1 - j = (n - j) + 1 := by omega
      rw [z]
      show _ + F (j + (n - j)) j = _
      rw [show j + (n - j) = n by omega]
    rw [e, sumTo_add]
    congr 1
    show _ = sumTo (fun j => sumTo (fun m => F (j + m) j) (n - j)) n + sumTo (fun m => F (n + m) n) (n - n)
    rw [Nat.sub_self]
    exact (Int.add_zero _).symm
theorem sumTo_mulr (c : Int) (f : Nat → Int) (n : Nat) : sumTo (fun i => f i * c) n = sumTo f n * c := by
  rw [Int.mul_comm, ← sumTo_mul]
  exact sumTo_congr n fun i _ => Int.mul_comm _ _
theorem cf_assoc (f g h : Nat → Int) (k : Nat) : cf (cf f g) h k = cf f (cf g h) k := by
  unfold cf
  have e1 : sumTo (fun i => sumTo (fun i_1 => f i_1 * g (i - i_1)) (i + 1) * h (k - i)) (k + 1) = sumTo (fun i => sumTo (fun j => f j * g (i - j) * h (k - i)) (i + 1)) (k + 1) := sumTo_congr _ fun i _ => (sumTo_mulr _ _ _).symm
  rw [e1, sumTo_tri (fun i j => f j * g (i - j) * h (k - i)) (k + 1)]
  exact sumTo_congr _ fun j hj => by
    rw [← sumTo_mul, show k + 1 - j = k - j + 1 by omega]
    exact sumTo_congr _ fun m hm => by
      rw [show j + m - j = m by omega, show k - (j + m) = k - j - m by omega, Int.mul_assoc]
theorem cf_congr {f f' g g' : Nat → Int} (h1 : ∀ i, f i = f' i) (h2 : ∀ i, g i = g' i) (k : Nat) : cf f g k = cf f' g' k := by
  have e1 : f = f' := funext h1
  have e2 : g = g' := funext h2
  rw [e1, e2]
theorem cf_add (f g h : Nat → Int) (k : Nat) : cf f (fun i => g i + h i) k = cf f g k + cf f h k := by
  unfold cf
  rw [← sumTo_add]
  exact sumTo_congr _ fun i _ => Int.mul_add _ _ _
theorem cf_scale (f g : Nat → Int) (c : Int) (k : Nat) : cf f (fun i => c * g i) k = c * cf f g k := by
  unfold cf
  rw [← sumTo_mul]
  exact sumTo_congr _ fun i _ => by rw [Int.mul_left_comm]
/-- the derivative -/
def dv (f : Nat → Int) (k : Nat) : Int := ((k : Int) + 1) * f (k + 1)
/-- powers -/
def pwf (f : Nat → Int) : Nat → Nat → Int
  | 0, k => if k = 0 then 1 else 0
  | e + 1, k => cf (pwf f e) f k
/-- moved up by z places -/
def up (z : Nat) (f : Nat → Int) (k : Nat) : Int := if k < z then 0 else f (k - z)
theorem sumTo_app (F : Nat → Int) (p : Nat) : ∀ q, sumTo F (p + q) = sumTo F p + sumTo (fun i => F (p + i)) q
  | 0 => (Int.add_zero _).symm
  | q + 1 => by show sumTo F (p + q) + F (p + q) = _ + (_ + _); rw [sumTo_app F p q, Int.add_assoc]
/-- lists -/
abbrev ff (xs : List Int) : Nat → Int := fun i => xs.getD i 0
theorem cvS_sum (xs ys : List Int) (k : Nat) : ∀ n, cvS xs ys n k = sumTo (fun i => if i ≤ k then xs.getD i 0 * ys.getD (k - i) 0 else 0) n
  | 0 => rfl
  | n + 1 => by rw [cvS, cvS_sum xs ys k n]; rfl
theorem sumTo_more {F : Nat → Int} {n : Nat} (h : ∀ i, n ≤ i → F i = 0) : ∀ m, sumTo F (n + m) = sumTo F n
  | 0 => rfl
  | m + 1 => by
    show sumTo F (n + m) + F (n + m) = _
    rw [sumTo_more h m, h _ (by omega), Int.add_zero]
theorem cv_cf (xs ys : List Int) (k : Nat) : cv xs ys k = cf (ff xs) (ff ys) k := by
  have z : cv xs ys k = cvS xs ys (xs.length + (k + 1)) k := (cvS_end k (k + 1)).symm
  rw [z, cvS_sum, Nat.add_comm, sumTo_more fun i hi => if_neg (by omega)]
  unfold cf
  exact sumTo_congr _ fun i hi => if_pos (by omega)
/-- zs is the power e of cs -/
structure IsPow (zs cs : List Int) (e : Nat) : Prop where
  at_ : ∀ k, zs.getD k 0 = pwf (ff cs) e k
theorem IsPow.one {cs : List Int} : IsPow [1] cs 0 := ⟨fun k => by
  unfold pwf
  cases k with
  | zero => rfl
  | succ k => rw [if_neg (by omega), getD_end (by simp)]⟩
theorem IsPow.more {zs ps cs : List Int} {e : Nat} (p : IsPow ps cs e) (m : IsMul zs ps cs) : IsPow zs cs (e + 1) := ⟨fun k => by
  rw [m.at_, cv_cf]
  exact cf_congr p.at_ (fun _ => rfl) k⟩
/-- the power of another pair -/
theorem pwf_conv {f g : Nat → Int} {a b : Int} (h : ∀ i, f i * a = g i * b) : ∀ e k, pwf f e k * a ^ e = pwf g e k * b ^ e
  | 0, k => by rw [Int.pow_zero, Int.pow_zero]; rfl
  | e + 1, k => by
    have ih := pwf_conv h e
    show cf (pwf f e) f k * _ = cf (pwf g e) g k * _
    unfold cf
    rw [← sumTo_mulr, ← sumTo_mulr]
    exact sumTo_congr _ fun i _ => by
      have z1 := ih i
      have z2 := h (k - i)
      rw [Int.pow_succ, Int.pow_succ]
      grind
theorem Pq.power {as ks zs ws ms : List Int} {a b g : Int} {e : Nat} (p : Pq as a ks b) (z : IsPow zs ks e) (w : IsPow ws as e) (q : Pq zs (b ^ e) ms g) : Pq ws (a ^ e) ms g := by
  have b0 := p.pos
  refine q.conv (pow_ne (by omega) e) fun i => ?_
  rw [z.at_, w.at_]
  exact pwf_conv (f := ff ks) (g := ff as) p.eq e i
end CB

namespace CB.Z
open PySem PySem.Spec PyProof.Rows L2
end CB.Z
namespace CB
open PySem PySem.Spec PyProof.Rows L2 CB.Z
/-! ### the power's terms -/
def tS (g : Int → Int) : List (Addr × Int × Int) → Int
  | [] => 0
  | t :: r => g t.2.1 * t.2.2 + tS g r
theorem sumTo_bits {F : Nat → Int} {b : Nat} : ∀ n, (∀ i, i < n → (F i).natAbs < 2 ^ b) → (sumTo F n).natAbs < 2 ^ (b + n)
  | 0, _ => Nat.pow_pos (by decide)
  | n + 1, h => by
    have ih := sumTo_bits n fun i hi => h i (by omega)
    refine abs_mono (sz_add ih (h n (by omega))) ?_
    omega
end CB

namespace CB
open PySem PySem.Spec PyProof.Rows L2
/-! ### values of polynomials -/
/-- the value of a polynomial, from the highest power -/
def evL (x : Int) : List Int → Int
  | [] => 0
  | c :: r => evL x r * x + c
/-- the value at num / den, times den to the length -/
def vaL (num den : Int) : List Int → Int
  | [] => 0
  | c :: r => vaL num den r * num + c * den ^ (r.length + 1)
def vaT (num den : Int) (cs : List Int) (N : Nat) (j : Nat) : Int := cs.getD j 0 * num ^ j * den ^ (N - j)
theorem vaL_sum (num den : Int) : ∀ cs : List Int, vaL num den cs = sumTo (vaT num den cs cs.length) cs.length
  | [] => rfl
  | c :: r => by
    show vaL num den r * num + c * den ^ (r.length + 1) = sumTo _ (r.length + 1)
    rw [sumTo_first, vaL_sum num den r, ← sumTo_mulr, Int.add_comm]
    congr 1
    · show _ = c * num ^ 0 * den ^ (r.length + 1 - 0)
      rw [Int.pow_zero, Int.mul_one, Nat.sub_zero]
    · exact sumTo_congr _ fun i hi => by
        show r.getD i 0 * num ^ i * den ^ (r.length - i) * num = r.getD i 0 * num ^ (i + 1) * den ^ (r.length + 1 - (i + 1))
        rw [Int.pow_succ, show r.length + 1 - (i + 1) = r.length - i by omega]
        grind
/-- values of equal polynomials at equal numbers -/
theorem va_conv {ks cs : List Int} {n f u b d e : Int} (hc : ∀ i, ks.getD i 0 * d = cs.getD i 0 * e) (hx : n * b = u * f) (d0 : d ≠ 0) (e0 : e ≠ 0) :
    vaL n f ks * (d * b ^ cs.length) = vaL u b cs * (e * f ^ ks.length) := by
  have pw_ : ∀ j, n ^ j * b ^ j = u ^ j * f ^ j := fun j => by rw [← mul_pow_int, ← mul_pow_int, hx]
  have e1 : vaL n f ks = sumTo (vaT n f ks ks.length) (ks.length + cs.length) := by rw [vaL_sum, sumTo_more fun i hi => by unfold vaT; rw [getD_end hi]; simp]
  have e2 : vaL u b cs = sumTo (vaT u b cs cs.length) (ks.length + cs.length) := by rw [vaL_sum, Nat.add_comm, sumTo_more fun i hi => by unfold vaT; rw [getD_end hi]; simp]
  rw [e1, e2, ← sumTo_mulr, ← sumTo_mulr]
  refine sumTo_congr _ fun j _ => ?_
  unfold vaT
  have h := hc j
  by_cases c1 : j < ks.length
  · by_cases c2 : j < cs.length
    · have a1 : b ^ cs.length = b ^ j * b ^ (cs.length - j) := by rw [← Int.pow_add]; congr 1; omega
      have a2 : f ^ ks.length = f ^ j * f ^ (ks.length - j) := by rw [← Int.pow_add]; congr 1; omega
      rw [a1, a2]
      have a3 := pw_ j
      calc _ = (ks.getD j 0 * d) * (n ^ j * b ^ j) * (f ^ (ks.length - j) * b ^ (cs.length - j)) := by grind
        _ = (cs.getD j 0 * e) * (u ^ j * f ^ j) * (f ^ (ks.length - j) * b ^ (cs.length - j)) := by rw [h, a3]
        _ = _ := by grind
    · rw [getD_end (xs := cs) (by omega), Int.zero_mul] at h
      have z : ks.getD j 0 = 0 := by rcases Int.mul_eq_zero.mp h with z | z; exact z; exact absurd z d0
      rw [z, getD_end (xs := cs) (by omega)]
      simp
  · rw [getD_end (xs := ks) (by omega), Int.zero_mul] at h
    have z : cs.getD j 0 = 0 := by rcases Int.mul_eq_zero.mp h.symm with z | z; exact z; exact absurd z e0
    rw [z, getD_end (xs := ks) (by omega)]
    simp
/-- what the law's sum says -/
structure DuAt (num den : Int) (cs : List Int) (top bl : Int) : Prop where
  eq : top * den ^ cs.length = bl * vaL num den cs
  b0 : 0 < bl
  tb : top.natAbs < 2 ^ 4000
  bb : bl.natAbs < 2 ^ 2000
theorem DuAt.fq {n f u b d e top bl : Int} {ks cs : List Int} (m : DuAt u b cs top bl) (hc : ∀ i, ks.getD i 0 * d = cs.getD i 0 * e) (hx : n * b = u * f) (d0 : d ≠ 0) (e0 : e ≠ 0) (b0 : b ≠ 0) :
    vaL n f ks * (bl * d) = top * (e * f ^ ks.length) := by
  have h := va_conv hc hx d0 e0
  have h2 := m.eq
  apply Int.eq_of_mul_eq_mul_right (pow_ne b0 cs.length)
  calc _ = bl * (vaL n f ks * (d * b ^ cs.length)) := by grind
    _ = (bl * vaL u b cs) * (e * f ^ ks.length) := by rw [h]; grind
    _ = _ := by rw [← h2]; grind
end CB

namespace CB
open PySem PySem.Spec PyProof.Rows L2 PySem.W
/-! ### max(.., default=d) -/
theorem maxOf_spec : ∀ (xs : List Int) (x : Int), maxOf x xs ∈ x :: xs ∧ ∀ y ∈ x :: xs, y ≤ maxOf x xs
  | [], x => ⟨by simp [maxOf], fun y hy => by rw [List.mem_singleton.mp hy]; exact Int.le_refl _⟩
  | z :: r, x => by
    have e : maxOf x (z :: r) = maxOf (if DatumOrd.lt x z = true then z else x) r := rfl
    rw [e]
    have d : DatumOrd.lt x z = decide (x < z) := rfl
    rw [d]
    by_cases c : x < z
    · rw [decide_eq_true c, if_pos rfl]
      obtain ⟨h1, h2⟩ := maxOf_spec r z
      refine ⟨List.mem_cons_of_mem _ h1, fun y hy => ?_⟩
      rcases List.mem_cons.mp hy with rfl | hy
      · exact Int.le_trans (Int.le_of_lt c) (h2 z (List.mem_cons_self ..))
      · exact h2 y hy
    · rw [decide_eq_false c, if_neg (by decide)]
      obtain ⟨h1, h2⟩ := maxOf_spec r x
      refine ⟨?_, fun y hy => ?_⟩
      · rcases List.mem_cons.mp h1 with h | h
        · rw [h]; exact List.mem_cons_self ..
        · exact List.mem_cons_of_mem _ (List.mem_cons_of_mem _ h)
      · rcases List.mem_cons.mp hy with rfl | hy
        · exact h2 y (List.mem_cons_self ..)
        · rcases List.mem_cons.mp hy with rfl | hy
          · exact Int.le_trans (by omega) (h2 x (List.mem_cons_self ..))
          · exact h2 y (List.mem_cons_of_mem _ hy)
theorem holds_int_is {h : Heap} {v : Value} {n : Int} (H : Holds h v n) : ∃ t, v = .int n t := by
  obtain ⟨as, r⟩ := H
  cases r
  exact ⟨_, rfl⟩
section
variable {X : Cx}
def rMaxD (K : PySem.W.Frag) : List V → List V → Hp → VK → Prop := fun vs zs H Q => ∃ (a : Addr) (ns : List Int) (d : Int), vs = [V.ref a] ∧ zs = [V.int d] ∧ SqL K H a (ns.map V.int) ∧ (ns = [] → Q (.int d) H) ∧ ∀ m, m ∈ ns → (∀ y, y ∈ ns → y ≤ m) → Q (.int m) H
theorem cr_maxD (hc : X.calm = true) (hu : X.A.units + 64 < cLine) : CallRK X (.builtin "max") [Str.ofString "default"] (rMaxD X.K) := by
  intro pins s σ H vs zs us ws Q I r rz h
  obtain ⟨a, ns, d, rfl, rfl, hs, h0, q⟩ := h
  obtain ⟨its, rv, hl, _⟩ := I.list hs
  rw [Vals.ref1 r]
  cases rz with
  | cons r1 r2 =>
    cases r2
    obtain ⟨t, rfl⟩ := r1
    refine max_list_datum_default (α := Int) (xs := ns) (I.ok.hd hc) hl.isList (by rw [List.toList_toArray]; exact HoldAll.of_ints rv.ints) (by show X.A.units + 1 + 0 < cLine; omega) (fun e h' tk hk => ?_) (fun y ys i v h' tk e hi hv hk => ?_)
    · exact ⟨.int _, H, I.kept hk, ⟨_, rfl⟩, h0 e⟩
    · obtain ⟨t, rfl⟩ := holds_int_is hv
      subst e
      obtain ⟨h1, h2⟩ := maxOf_spec ys y
      exact ⟨.int _, H, I.kept hk, ⟨_, rfl⟩, q _ h1 h2⟩
end
end CB

namespace CB
open PySem PySem.Spec PyProof.Rows L2
/-! ### a def with keyword-only parameters without defaults -/
def OkK (P : Program) (w : World) (K : PySem.W.Frag) (mg : Str → Option Value) (base : Heap) (k : Nat) (a : Addr) (ps : List Str) (n : Nat) (ks : List Str) (sp : Sp) : Prop :=
  ∃ fd : FuncData, FnOk P w K mg base (L2.CX P w) k a fd ps sp ∧ KBn K fd ps n ks (fun us ws => us ++ ws) (fun vs zs => vs ++ zs) ∧ PySem.W.keepIn K (.ref a) = true
section
variable {X : Cx} {CX : CXT} {k n : Nat} {f : Addr} {fd : FuncData} {ps ks : List Str} {sp : Sp} {E : L2.St → XK} {x : Str} {p pos : Pos} {e : Expr} {es : List Expr} {kws : List Keyword} {t tk : TA} {g : List Value → List Value → List Value} {gV : List V → List V → List V}
def tCallNS (n m : Nat) (sp : Sp) (gV : List V → List V → List V) (E : L2.St → XK) (t tk : TA) : TE := fun σ H Q => t σ H fun vs H1 => tk σ H1 fun zs H2 => vs.length = n ∧ zs.length = m ∧ sp (gV vs zs) H2 Q (E σ)
end
end CB

namespace CB
open PySem PySem.Spec PyProof.Rows L2
/-! ### settled signs -/
theorem pw_nn {s : Int} (h : 0 ≤ s) : ∀ i k, 0 ≤ pw s i k
  | 0, 0 => by show (0 : Int) ≤ 1; decide
  | 0, _ + 1 => by simp [pw]
  | i + 1, 0 => by rw [pw]; exact Int.mul_nonneg h (pw_nn h i 0)
  | i + 1, k + 1 => by rw [pw]; exact Int.add_nonneg (Int.mul_nonneg h (pw_nn h i (k + 1))) (pw_nn h i k)
/-- no two coefficients have opposite signs, and the value at 0 is not 0 -/
def StF (g : Nat → Int) : Prop := g 0 ≠ 0 ∧ ((∀ k, 0 ≤ g k) ∨ ∀ k, g k ≤ 0)
theorem StF.congr {f g : Nat → Int} (h : ∀ k, f k = g k) (s : StF f) : StF g := by
  have : f = g := funext h
  rwa [← this]
theorem StF.neg {g : Nat → Int} (h : StF g) : StF fun k => -g k := ⟨fun z => h.1 (by have : -g 0 = 0 := z; omega), by
  rcases h.2 with p | p
  · exact .inr fun k => by have := p k; show -g k ≤ 0; omega
  · exact .inl fun k => by have := p k; show 0 ≤ -g k; omega⟩
theorem shV_neg {s : Int} {f : Nat → Int} {n k : Nat} : shV s (fun i => -f i) n k = -shV s f n k := by
  have e := shV_mul (s := s) (c := -1) (f := f) (n := n) k
  rw [show (fun i => -1 * f i) = (fun i => -f i) from funext fun i => by omega] at e
  omega
theorem sumTo_nn {F : Nat → Int} : ∀ n, (∀ i, i < n → 0 ≤ F i) → 0 ≤ sumTo F n
  | 0, _ => Int.le_refl _
  | n + 1, h => Int.add_nonneg (sumTo_nn n fun i hi => h i (by omega)) (h n (by omega))
theorem st_pos {t : Int} {g : Nat → Int} {n : Nat} (ht : 0 ≤ t) (hz : ∀ i, n ≤ i → g i = 0) (g0 : g 0 ≠ 0) (p : ∀ k, 0 ≤ g k) : StF fun k => shV t g n k := by
  refine ⟨?_, .inl fun k => sumTo_nn n fun i _ => Int.mul_nonneg (p i) (pw_nn ht i k)⟩
  show shV t g n 0 ≠ 0
  cases n with
  | zero => exact absurd (hz 0 (Nat.le_refl _)) g0
  | succ n =>
    unfold shV
    rw [sumTo_first]
    have a := sumTo_nn (F := fun i => g (i + 1) * pw t (i + 1) 0) n fun i _ => Int.mul_nonneg (p _) (pw_nn ht _ 0)
    have b := p 0
    have c : g 0 * pw t 0 0 = g 0 := by show g 0 * 1 = g 0; omega
    rw [c]
    omega
/-- settled from further numbers too -/
theorem StF.more {t : Int} {g : Nat → Int} {n : Nat} (s : StF g) (ht : 0 ≤ t) (hz : ∀ i, n ≤ i → g i = 0) : StF fun k => shV t g n k := by
  rcases s.2 with p | p
  · exact st_pos ht hz s.1 p
  · have z := (st_pos (t := t) (g := fun k => -g k) (n := n) ht (fun i hi => by rw [hz i hi]; rfl) (fun w => s.1 (by omega)) (fun k => by have := p k; omega)).neg
    exact z.congr fun k => by rw [shV_neg]; omega
/-- by the numbers of bits -/
theorem bits_up {c : Int} : c.natAbs < 2 ^ (Builtin.Int.intBits c) := by
  unfold Builtin.Int.intBits
  split
  · rename_i h
    rw [beq_iff_eq] at h
    rw [h]
    decide
  · exact Nat.lt_log2_self
theorem bits_le {c : Int} {k : Nat} (h : c.natAbs < 2 ^ k) : Builtin.Int.intBits c ≤ k := PyProof.Rows.intBits_le h
/-- sizes -/
theorem pw_bits {s : Int} {b : Nat} (h : s.natAbs < 2 ^ b) : ∀ i k, (pw s i k).natAbs < 2 ^ ((b + 1) * i + 1)
  | 0, 0 => by show 1 < 2 ^ ((b + 1) * 0 + 1); rw [Nat.mul_zero]; decide
  | 0, _ + 1 => Nat.pow_pos (by decide)
  | i + 1, 0 => by
    rw [pw, Nat.mul_add (b + 1), Nat.mul_one]
    exact abs_mono (abs_lt_mul h (pw_bits h i 0)) (by omega)
  | i + 1, k + 1 => by
    rw [pw, Nat.mul_add (b + 1), Nat.mul_one]
    exact abs_mono (sz_add (abs_lt_mul h (pw_bits h i (k + 1))) (pw_bits h i k)) (by omega)
theorem shV_bits {s : Int} {f : Nat → Int} {kb b n : Nat} (h : s.natAbs < 2 ^ b) (hf : ∀ i, (f i).natAbs < 2 ^ kb) (k : Nat) : (shV s f n k).natAbs < 2 ^ (kb + ((b + 1) * n + 1) + n) := by
  unfold shV
  exact sumTo_bits n fun i hi => abs_lt_mul (hf i) (abs_mono (pw_bits h i k) (by have := Nat.mul_le_mul_left (b + 1) (show i ≤ n by omega); omega))
end CB

namespace CB.Z
open PySem PySem.Spec PyProof.Rows L2
/-- the reading of a comprehension over enumerate of a list -/
theorem lc_en {K : PySem.W.Frag} {a : Addr} {xs : List V} {g : TG} {tt : TT} {te : TE} {vs : List Nat} {σ : L2.St} {H1 : Hp} {D : Addr} {Qd : Hp → Prop} (Pv : Nat → Hp → Prop) (h0 : Pv 0 (upd H1 D (.lst [])))
    (hq : ∀ i H, Pv i H → SqL K H a xs)
    (hs : ∀ i x T H, xs[i]? = some x → Pv i H → H T = none → g (.ref T) (wipe σ vs) (upd H T (.tup [.int (i : Nat), x])) fun σ2 H2 => wipe σ2 vs = wipe σ vs ∧ tt σ2 H2 fun k H3 =>
      if k = true then te σ2 H3 fun y H4 => ∃ acc, H4 D = some (.lst acc) ∧ acc.length < sizeLine ∧ Pv (i + 1) (upd H4 D (.lst (acc ++ [y]))) else Pv (i + 1) H3)
    (hd : ∀ H, Pv xs.length H → Qd H) :
    ∃ W : Nat → Nat → Hp → Prop, (∃ m, W 0 m (upd H1 D (.lst []))) ∧ ∀ i m H, W i m H →
      ((Ite K a).stop i H ∧ Qd H) ∨ ((Ite K a).go i H ∧ ∃ Nx : Hp → Prop, (∀ H', Nx H' → ∃ m', m' < m ∧ W (i + 1) m' H') ∧
        ∀ x H', (Ite K a).yld i H x H' → g x (wipe σ vs) H' fun σ2 H2 => wipe σ2 vs = wipe σ vs ∧ tt σ2 H2 fun k H3 =>
          if k = true then te σ2 H3 fun y H4 => ∃ acc, H4 D = some (.lst acc) ∧ acc.length < sizeLine ∧ Nx (upd H4 D (.lst (acc ++ [y]))) else Nx H3) := by
  refine ⟨fun i m H => m = xs.length - i ∧ i ≤ xs.length ∧ Pv i H, ⟨_, rfl, Nat.zero_le _, h0⟩, fun i m H hw => ?_⟩
  obtain ⟨rfl, hi, p⟩ := hw
  have qa := hq i H p
  by_cases lt : i < xs.length
  · refine .inr ⟨⟨xs, xs[i], qa, List.getElem?_eq_getElem lt⟩, Pv (i + 1), fun H' p' => ⟨_, by omega, rfl, lt, p'⟩, fun x H' y => ?_⟩
    obtain ⟨T, z, rfl, nT, rfl, hz⟩ := y
    exact hs i z T H (hz xs qa) p nT
  · have e : i = xs.length := by omega
    subst e
    exact .inl ⟨⟨xs, qa, Nat.le_refl _⟩, hd H p⟩
end CB.Z

namespace CB
open PySem PySem.Spec PyProof.Rows L2
/-- a hook that looks its facts up in a tree of the objects -/
def hkT (H : PySem.W.Hook) (ob : PySem.W.SharedT → H.α) (he : ∀ s : PySem.W.SharedT, ob s = H.obs s.abs) : PySem.W.Hook where
  α := Option H.α
  obs := fun s => match HandSHeadRun.treeOf s with
    | some x => HandSHeadRun.frS x fun x => some (ob x)
    | none => none
  val := fun w => some (H.val w)
  says := H.says
  of := fun w s e => by
    have e1 : (match HandSHeadRun.treeOf s with
      | some x => HandSHeadRun.frS x fun x => some (ob x)
      | none => none) = some (H.val w) := e
    cases h : HandSHeadRun.treeOf s with
    | none => rw [h] at e1; cases e1
    | some x =>
      rw [h] at e1
      have e2 : (HandSHeadRun.frS x fun x => some (ob x)) = some (H.val w) := e1
      rw [HandSHeadRun.frS_eq] at e2
      have e3 := Option.some.inj e2
      rw [he, (HandSHeadRun.treeOf_eq h).1] at e3
      exact H.of w s e3
  keeps := H.keeps
end CB

namespace CB
open PySem PySem.Spec PyProof.Rows L2
/-- a list without zeros at its end, with these coefficients -/
structure Tf (zs : List Int) (f : Nat → Int) : Prop where
  at_ : ∀ k, zs.getD k 0 = f k
  tr : zs.length = 0 ∨ zs.getD (zs.length - 1) 0 ≠ 0
theorem Tf.nil {f : Nat → Int} (h : ∀ k, f k = 0) : Tf [] f := ⟨fun k => by rw [h]; rfl, .inl rfl⟩
theorem Tf.self {zs : List Int} {f : Nat → Int} (t : Tf zs f) : Tf zs (ff zs) := ⟨fun _ => rfl, t.tr⟩
theorem Tf.congr {zs : List Int} {f g : Nat → Int} (t : Tf zs f) (h : ∀ k, f k = g k) : Tf zs g := ⟨fun k => by rw [t.at_, h], t.tr⟩
theorem Tf.len {zs : List Int} {f : Nat → Int} {n : Nat} (t : Tf zs f) (h : ∀ k, n ≤ k → f k = 0) : zs.length ≤ n := Decidable.byContradiction fun c => by
  rcases t.tr with z | z
  · omega
  · exact z (by rw [t.at_]; exact h _ (by omega))
theorem Tf.lenE {zs ws : List Int} {f g : Nat → Int} (a : Tf zs f) (b : Tf ws g) (h : ∀ k, f k = 0 ↔ g k = 0) : zs.length = ws.length := by
  have h1 : zs.length ≤ ws.length := a.len fun k hk => by rw [h, ← b.at_]; exact getD_end hk
  have h2 : ws.length ≤ zs.length := b.len fun k hk => by rw [← h, ← a.at_]; exact getD_end hk
  omega
theorem Tf.uniq {zs ws : List Int} {f g : Nat → Int} (a : Tf zs f) (b : Tf ws g) (h : ∀ k, f k = g k) : zs = ws :=
  list_ext (a.lenE b fun k => by rw [h]) fun k => by rw [a.at_, b.at_, h]
theorem Trim.tf {xs : List Int} {n : Nat} (t : Trim xs n) : Tf (xs.take n) (ff xs) := by
  have hl : (xs.take n).length = n := by rw [List.length_take]; have := t.le; omega
  refine ⟨t.take, ?_⟩
  rw [hl, t.take]
  exact t.at_
theorem Pq.tf {cs ks : List Int} {d e : Int} (p : Pq cs d ks e) : Tf ks (ff ks) := ⟨fun _ => rfl, p.last.elim (fun h => .inl (by rw [h]; rfl)) .inr⟩
/-- the size that is found so far -/
structure TrA (xs : List Int) (i n : Nat) : Prop where
  le : n ≤ i
  up : ∀ k, n ≤ k → k < i → xs.getD k 0 = 0
  at_ : n = 0 ∨ xs.getD (n - 1) 0 ≠ 0
theorem TrA.fin {xs : List Int} {n : Nat} (t : TrA xs xs.length n) : Trim xs n := ⟨t.le, fun k hk => if c : k < xs.length then t.up k hk c else getD_end (by omega), t.at_⟩
theorem TrA.no {xs : List Int} {i n : Nat} (t : TrA xs i n) (h : xs.getD i 0 = 0) : TrA xs (i + 1) n := ⟨by have := t.le; omega, fun k h1 h2 => by
  by_cases c : k = i
  · rw [c]; exact h
  · exact t.up k h1 (by omega), t.at_⟩
/-- a sum in the making -/
structure SuA (fs xs ys : List Int) (N i j : Nat) : Prop where
  len : fs.length = N
  at_ : ∀ k, fs.getD k 0 = (if k < i then xs.getD k 0 else 0) + if k < j then ys.getD k 0 else 0
theorem SuA.start {xs ys : List Int} {N : Nat} : SuA (List.replicate N 0) xs ys N 0 0 := ⟨List.length_replicate, fun k => by
  rw [List.getD_eq_getElem?_getD, List.getElem?_replicate]
  split <;> rfl⟩
theorem SuA.one {fs xs ys : List Int} {N i : Nat} (m : SuA fs xs ys N i 0) (h : i < N) : SuA (fs.set i (xs.getD i 0)) xs ys N (i + 1) 0 := ⟨by rw [List.length_set, m.len], fun k => by
  rw [getD_set (by rw [m.len]; exact h)]
  by_cases c : k = i
  · subst c
    rw [if_pos rfl, if_pos (show k < k + 1 by omega), if_neg (show ¬ k < 0 by omega)]
    omega
  · rw [if_neg c, m.at_]
    congr 1
    by_cases c2 : k < i
    · rw [if_pos c2, if_pos (by omega)]
    · rw [if_neg c2, if_neg (by omega)]⟩
theorem SuA.two {fs xs ys : List Int} {v : Int} {N i j : Nat} (m : SuA fs xs ys N i j) (h : j < N) (hv : v = fs.getD j 0 + ys.getD j 0) : SuA (fs.set j v) xs ys N i (j + 1) := ⟨by rw [List.length_set, m.len], fun k => by
  rw [getD_set (by rw [m.len]; exact h)]
  by_cases c : k = j
  · subst c
    rw [if_pos rfl, hv, m.at_, if_neg (show ¬ k < k by omega), if_pos (show k < k + 1 by omega)]
    omega
  · rw [if_neg c, m.at_]
    congr 1
    by_cases c2 : k < j
    · rw [if_pos c2, if_pos (by omega)]
    · rw [if_neg c2, if_neg (by omega)]⟩
theorem SuA.fin {fs xs ys : List Int} {N : Nat} (m : SuA fs xs ys N xs.length ys.length) (k : Nat) : fs.getD k 0 = xs.getD k 0 + ys.getD k 0 := by
  rw [m.at_]
  congr 1
  · split
    · rfl
    · rw [getD_end (by omega)]
  · split
    · rfl
    · rw [getD_end (by omega)]
/-! ### coefficients as rational numbers -/
def rv (cs : List Int) (d : Int) (i : Nat) : Rat := ((cs.getD i 0 : Int) : Rat) / ((d : Int) : Rat)
theorem ratc_ne {d : Int} (h : d ≠ 0) : ((d : Int) : Rat) ≠ 0 := by exact_mod_cast h
theorem rv_eq {cs ks : List Int} {d e : Int} {i : Nat} (hd : d ≠ 0) (he : e ≠ 0) : rv cs d i = rv ks e i ↔ cs.getD i 0 * e = ks.getD i 0 * d := by
  have h1 := ratc_ne hd
  have h2 := ratc_ne he
  have key : cs.getD i 0 * e = ks.getD i 0 * d ↔ ((cs.getD i 0 : Int) : Rat) * (e : Rat) = ((ks.getD i 0 : Int) : Rat) * (d : Rat) := by
    rw [← Rat.intCast_mul, ← Rat.intCast_mul, Rat.intCast_inj]
  rw [key]
  unfold rv
  constructor
  · intro h; grind
  · intro h; grind
theorem rv_zero {cs : List Int} {d : Int} {i : Nat} (hd : d ≠ 0) : rv cs d i = 0 ↔ cs.getD i 0 = 0 := by
  have h1 := ratc_ne hd
  have key : cs.getD i 0 = 0 ↔ ((cs.getD i 0 : Int) : Rat) = 0 := by
    rw [← Rat.intCast_zero, Rat.intCast_inj]
  rw [key]
  unfold rv
  constructor
  · intro h; grind
  · intro h; grind
theorem Pq.rv {cs ks : List Int} {d e : Int} (p : Pq cs d ks e) (hd : d ≠ 0) (i : Nat) : rv ks e i = CB.rv cs d i :=
  (rv_eq (by have := p.pos; omega) hd).mpr (p.eq i)
end CB

namespace CB
open PySem PySem.Spec PyProof.Rows L2
def sR (f : Nat → Rat) : Nat → Rat
  | 0 => 0
  | n + 1 => sR f n + f n
theorem sR_congr {f g : Nat → Rat} : ∀ n, (∀ i, i < n → f i = g i) → sR f n = sR g n
  | 0, _ => rfl
  | n + 1, h => by rw [sR, sR, sR_congr n fun i hi => h i (by omega), h n (by omega)]
theorem sR_zero {f : Nat → Rat} : ∀ n, (∀ i, i < n → f i = 0) → sR f n = 0
  | 0, _ => rfl
  | n + 1, h => by rw [sR, sR_zero n fun i hi => h i (by omega), h n (by omega)]; grind
theorem sR_add (f g : Nat → Rat) : ∀ n, sR (fun i => f i + g i) n = sR f n + sR g n
  | 0 => by show (0 : Rat) = 0 + 0; grind
  | n + 1 => by rw [sR, sR, sR, sR_add f g n]; grind
theorem sR_mul (c : Rat) (f : Nat → Rat) : ∀ n, sR (fun i => c * f i) n = c * sR f n
  | 0 => by show (0 : Rat) = c * 0; grind
  | n + 1 => by rw [sR, sR, sR_mul c f n]; grind
theorem sR_one {f : Nat → Rat} {k : Nat} : ∀ n, k < n → (∀ i, i < n → i ≠ k → f i = 0) → sR f n = f k
  | 0, h, _ => absurd h (Nat.not_lt_zero _)
  | n + 1, h, z => by
    rw [sR]
    by_cases c : k = n
    · subst c
      rw [sR_zero k fun i hi => z i (by omega) (by omega)]
      grind
    · rw [sR_one n (by omega) fun i hi ne => z i (by omega) ne, z n (by omega) (by omega)]
      grind
theorem sR_more {f : Nat → Rat} {n : Nat} (h : ∀ i, n ≤ i → f i = 0) : ∀ m, sR f (n + m) = sR f n
  | 0 => rfl
  | m + 1 => by rw [← Nat.add_assoc, sR, sR_more h m, h _ (by omega)]; grind
theorem sR_cast (f : Nat → Int) : ∀ n, ((sumTo f n : Int) : Rat) = sR (fun i => ((f i : Int) : Rat)) n
  | 0 => rfl
  | n + 1 => by rw [sumTo, sR, Rat.intCast_add, sR_cast f n]
/-- the product's coefficient -/
def cR (f g : Nat → Rat) (k : Nat) : Rat := sR (fun i => f i * g (k - i)) (k + 1)
theorem cR_congr {f f' g g' : Nat → Rat} (h1 : ∀ i, f i = f' i) (h2 : ∀ i, g i = g' i) (k : Nat) : cR f g k = cR f' g' k :=
  sR_congr _ fun i _ => by rw [h1, h2]
theorem cR_addl (f f' g : Nat → Rat) (k : Nat) : cR (fun i => f i + f' i) g k = cR f g k + cR f' g k := by
  unfold cR
  rw [← sR_add]
  exact sR_congr _ fun i _ => by grind
theorem cR_addr (f g g' : Nat → Rat) (k : Nat) : cR f (fun i => g i + g' i) k = cR f g k + cR f g' k := by
  unfold cR
  rw [← sR_add]
  exact sR_congr _ fun i _ => by grind
theorem cR_mull (c : Rat) (f g : Nat → Rat) (k : Nat) : cR (fun i => c * f i) g k = c * cR f g k := by
  unfold cR
  rw [← sR_mul]
  exact sR_congr _ fun i _ => by grind
theorem cR_mulr (c : Rat) (f g : Nat → Rat) (k : Nat) : cR f (fun i => c * g i) k = c * cR f g k := by
  unfold cR
  rw [← sR_mul]
  exact sR_congr _ fun i _ => by grind
theorem cR_zero {f g : Nat → Rat} {n m k : Nat} (hf : ∀ i, n ≤ i → f i = 0) (hg : ∀ i, m ≤ i → g i = 0) (h : n + m ≤ k + 1) : cR f g k = 0 :=
  sR_zero _ fun i hi => by
    by_cases c : n ≤ i
    · rw [hf i c]; grind
    · rw [hg (k - i) (by omega)]; grind
theorem cR_zl {f g : Nat → Rat} {k : Nat} (hf : ∀ i, f i = 0) : cR f g k = 0 := sR_zero _ fun i _ => by rw [hf i]; grind
theorem cR_zr {f g : Nat → Rat} {k : Nat} (hg : ∀ i, g i = 0) : cR f g k = 0 := sR_zero _ fun i _ => by rw [hg]; grind
theorem cR_top {f g : Nat → Rat} {n m : Nat} (hf : ∀ i, n < i → f i = 0) (hg : ∀ i, m < i → g i = 0) : cR f g (n + m) = f n * g m := by
  unfold cR
  rw [sR_one (k := n) _ (by omega) fun i hi ne => by
    by_cases c : n < i
    · rw [hf i c]; grind
    · rw [hg (n + m - i) (by omega)]; grind]
  rw [show n + m - n = m by omega]
/-- n is the degree plus 1 -/
structure Ln (P : Nat → Rat) (n : Nat) : Prop where
  up : ∀ i, n ≤ i → P i = 0
  at_ : n = 0 ∨ P (n - 1) ≠ 0
theorem Ln.congr {P Q : Nat → Rat} {n : Nat} (l : Ln P n) (h : ∀ i, P i = Q i) : Ln Q n := ⟨fun i hi => by rw [← h]; exact l.up i hi, l.at_.imp id fun z w => z (by rw [h]; exact w)⟩
theorem Ln.le {P : Nat → Rat} {n m : Nat} (l : Ln P n) (h : ∀ i, m ≤ i → P i = 0) : n ≤ m := Decidable.byContradiction fun c => by
  rcases l.at_ with z | z
  · omega
  · exact z (h _ (by omega))
theorem Ln.uniq {P : Nat → Rat} {n m : Nat} (a : Ln P n) (b : Ln P m) : n = m := Nat.le_antisymm (a.le b.up) (b.le a.up)
theorem Tf.ln {zs : List Int} {f : Nat → Int} {d : Int} (t : Tf zs f) (hd : d ≠ 0) : Ln (rv zs d) zs.length :=
  ⟨fun i hi => (rv_zero hd).mpr (getD_end hi), t.tr.imp id fun z w => z ((rv_zero hd).mp w)⟩
/-- v is the degree bound for c and for p = a - b and s = a + b -/
def DB (C p s : Nat → Rat) (v : Int) : Prop := ∃ mc mm mt : Nat, Ln C mc ∧ Ln p mm ∧ Ln s mt ∧
  ((mt ≤ mm ∧ v = max (-1) ((mc : Int) - mm)) ∨
   (mm < mt ∧ ((∃ w : Int, (w : Rat) * s (mt - 1) = -2 * (if 2 ≤ mt then p (mt - 2) else 0) ∧ v = max (-1) (max ((mc : Int) - mt + 1) w)) ∨
     ((∀ w : Int, (w : Rat) * s (mt - 1) ≠ -2 * (if 2 ≤ mt then p (mt - 2) else 0)) ∧ v = max (-1) ((mc : Int) - mt + 1)))))
theorem DB.uniq {C p s : Nat → Rat} {v v' : Int} (a : DB C p s v) (b : DB C p s v') : v = v' := by
  obtain ⟨mc, mm, mt, l1, l2, l3, h⟩ := a
  obtain ⟨mc', mm', mt', l1', l2', l3', h'⟩ := b
  cases l1.uniq l1'
  cases l2.uniq l2'
  cases l3.uniq l3'
  rcases h with ⟨h, e⟩ | ⟨h, e⟩ <;> rcases h' with ⟨h', e'⟩ | ⟨h', e'⟩
  · rw [e, e']
  · omega
  · omega
  · have s0 : s (mt - 1) ≠ 0 := l3.at_.resolve_left (by omega)
    rcases e with ⟨w, hw, e⟩ | ⟨hw, e⟩ <;> rcases e' with ⟨w', hw', e'⟩ | ⟨hw', e'⟩
    · have : (w : Rat) = (w' : Rat) := by grind
      rw [Rat.intCast_inj] at this
      rw [e, e', this]
    · exact absurd hw (hw' w)
    · exact absurd hw' (hw w')
    · rw [e, e']
theorem DB.congr {C p s C' p' s' : Nat → Rat} {v : Int} (a : DB C p s v) (h1 : ∀ i, C i = C' i) (h2 : ∀ i, p i = p' i) (h3 : ∀ i, s i = s' i) : DB C' p' s' v := by
  obtain ⟨mc, mm, mt, l1, l2, l3, h⟩ := a
  refine ⟨mc, mm, mt, l1.congr h1, l2.congr h2, l3.congr h3, ?_⟩
  rw [← h2, ← h3]
  exact h
theorem DB.least {A B C x y : Nat → Rat} {v : Int} {m nA nB : Nat} (hA : ∀ i, nA ≤ i → A i = 0) (hB : ∀ i, nB ≤ i → B i = 0) (lx : Ln x (m + 1)) (y0 : ∀ i, m < i → y i = 0) (y1 : y m = x m) (y2 : ∀ j, m = j + 1 → y j = x j + (m : Rat) * x m)
    (hC : ∀ i, C i = cR A y i - cR B x i) (nz : ∃ i, C i ≠ 0) (h : DB C (fun i => A i - B i) (fun i => A i + B i) v) : (m : Int) ≤ v := by
  obtain ⟨mc, mm, mt, l1, l2, l3, h⟩ := h
  have xm : x m ≠ 0 := lx.at_.resolve_left (by omega)
  have x0 : ∀ i, m < i → x i = 0 := fun i hi => lx.up i (by omega)
  have z0 : ∀ i, m ≤ i → y i - x i = 0 := fun i hi => by
    by_cases c : i = m
    · rw [c, y1]; grind
    · rw [y0 i (by omega), x0 i (by omega)]; grind
  have w0 : ∀ i, m < i → y i + x i = 0 := fun i hi => by rw [y0 i hi, x0 i hi]; grind
  have two : ∀ k, 2 * C k = cR (fun i => A i - B i) (fun i => y i + x i) k + cR (fun i => A i + B i) (fun i => y i - x i) k := fun k => by
    rw [hC]
    have e1 : cR (fun i => A i - B i) (fun i => y i + x i) k = cR A y k + cR A x k - cR B y k - cR B x k := by
      have z1 : ∀ i, (fun i => A i - B i) i = (fun i => A i + (-1) * B i) i := fun i => by show A i - B i = A i + (-1) * B i; grind
      rw [cR_congr z1 (fun _ => rfl), cR_addl, cR_addr, cR_addr, cR_mull, cR_mull]
      grind
    have e2 : cR (fun i => A i + B i) (fun i => y i - x i) k = cR A y k - cR A x k + cR B y k - cR B x k := by
      have z1 : ∀ i, (fun i => y i - x i) i = (fun i => y i + (-1) * x i) i := fun i => by show y i - x i = y i + (-1) * x i; grind
      rw [cR_congr (fun _ => rfl) z1, cR_addl, cR_addr, cR_addr, cR_mulr, cR_mulr]
      grind
    rw [e1, e2]
    grind
  generalize hp : (fun i => A i - B i) = p at *
  generalize hs : (fun i => A i + B i) = s at *
  have half : ∀ k, cR p (fun i => y i + x i) k + cR s (fun i => y i - x i) k = 0 → C k = 0 := fun k e => by
    have := two k
    grind
  have halfn : ∀ k, cR p (fun i => y i + x i) k + cR s (fun i => y i - x i) k ≠ 0 → C k ≠ 0 := fun k e w => e (by rw [← two, w]; grind)
  rcases h with ⟨h, e⟩ | ⟨h, e⟩
  · -- the degree of p is the greater one
    by_cases c : mm = 0
    · obtain ⟨i, hi⟩ := nz
      refine absurd (half i ?_) hi
      rw [cR_zl fun j => l2.up j (by omega), cR_zl fun j => l3.up j (by omega)]
      grind
    · obtain ⟨a, rfl⟩ : ∃ a, mm = a + 1 := ⟨mm - 1, by omega⟩
      have pa : p a ≠ 0 := l2.at_.resolve_left (by omega)
      have lc : Ln C (a + m + 1) := by
        refine ⟨fun i hi => half i ?_, .inr (halfn _ ?_)⟩
        · rw [cR_zero (n := a + 1) (m := m + 1) l2.up (fun j hj => w0 j (by omega)) (by omega), cR_zero (n := a + 1) (m := m) (fun j hj => l3.up j (by omega)) z0 (by omega)]
          grind
        · rw [show a + m + 1 - 1 = a + m by omega, cR_top (n := a) (m := m) (fun j hj => l2.up j (by omega)) w0, cR_zero (n := a + 1) (m := m) (fun j hj => l3.up j (by omega)) z0 (by omega), y1]
          intro z
          have : p a * x m = 0 := by grind
          grind
      cases l1.uniq lc
      omega
  · obtain ⟨t, rfl⟩ : ∃ t, mt = t + 1 := ⟨mt - 1, by omega⟩
    have st : s t ≠ 0 := l3.at_.resolve_left (by omega)
    have s0 : ∀ i, t < i → s i = 0 := fun i hi => l3.up i (by omega)
    have pt : ∀ i, t ≤ i → p i = 0 := fun i hi => l2.up i (by omega)
    have bound : (mc : Int) - ((t + 1 : Nat) : Int) + 1 ≤ v := by
      rcases e with ⟨w, _, e⟩ | ⟨_, e⟩ <;> omega
    -- the coefficient at t + m - 1
    have zm : ∀ j, m = j + 1 → y j - x j = (m : Rat) * x m := fun j hj => by rw [y2 j hj]; grind
    have zz : ∀ j, m = j + 1 → ∀ i, j < i → y i - x i = 0 := fun j hj i hi => z0 i (by omega)
    have above : ∀ i, t + m ≤ i → C i = 0 := fun i hi => half i (by
      rw [cR_zero (n := t) (m := m + 1) pt (fun j hj => w0 j (by omega)) (by omega), cR_zero (n := t + 1) (m := m) (fun j hj => s0 j (by omega)) z0 (by omega)]
      grind)
    by_cases c : t + m = 0
    · obtain ⟨i, hi⟩ := nz
      exact absurd (above i (by omega)) hi
    have key : cR p (fun i => y i + x i) (t + m - 1) + cR s (fun i => y i - x i) (t + m - 1) = x m * (2 * (if 2 ≤ t + 1 then p (t + 1 - 2) else 0) + (m : Rat) * s t) := by
      have k1 : cR p (fun i => y i + x i) (t + m - 1) = x m * (2 * (if 2 ≤ t + 1 then p (t + 1 - 2) else 0)) := by
        by_cases c1 : t = 0
        · subst c1
          rw [cR_zl fun j => pt j (by omega), if_neg (by omega)]
          grind
        · obtain ⟨u, rfl⟩ : ∃ u, t = u + 1 := ⟨t - 1, by omega⟩
          rw [show u + 1 + m - 1 = u + m by omega, cR_top (n := u) (m := m) (fun j hj => pt j (by omega)) w0, if_pos (by omega), show u + 1 + 1 - 2 = u by omega, y1]
          grind
      have k2 : cR s (fun i => y i - x i) (t + m - 1) = x m * ((m : Rat) * s t) := by
        by_cases c1 : m = 0
        · subst c1
          rw [cR_zr fun j => z0 j (by omega)]
          have : ((0 : Nat) : Rat) = 0 := rfl
          grind
        · obtain ⟨u, hu⟩ : ∃ u, m = u + 1 := ⟨m - 1, by omega⟩
          rw [show t + m - 1 = t + u by omega, cR_top (n := t) (m := u) s0 (zz u hu), zm u hu]
          grind
      rw [k1, k2]
      grind
    by_cases c2 : 2 * (if 2 ≤ t + 1 then p (t + 1 - 2) else 0) + (m : Rat) * s t = 0
    · rcases e with ⟨w, hw, e⟩ | ⟨hw, e⟩
      · rw [show t + 1 - 1 = t by omega] at hw
        have : (w : Rat) = (((m : Nat) : Int) : Rat) := by
          have h2 : (((m : Nat) : Int) : Rat) = (m : Rat) := rfl
          rw [h2]
          have : ((w : Rat) - (m : Rat)) * s t = 0 := by grind
          grind
        rw [Rat.intCast_inj] at this
        omega
      · refine absurd ?_ (hw (m : Int))
        rw [show t + 1 - 1 = t by omega]
        have h2 : (((m : Nat) : Int) : Rat) = (m : Rat) := rfl
        rw [h2]
        grind
    · have lc : Ln C (t + m) := by
        refine ⟨above, .inr (halfn _ ?_)⟩
        rw [key]
        intro z
        grind
      cases l1.uniq lc
      omega
theorem pw_diag (s : Int) : ∀ i, pw s i i = 1
  | 0 => rfl
  | i + 1 => by
    show s * pw s i (i + 1) + pw s i i = 1
    rw [pw_diag s i, pw_high s i (i + 1) (by omega)]
    omega
theorem pw_near (s : Int) : ∀ i, pw s (i + 1) i = ((i : Int) + 1) * s
  | 0 => by show s * 1 = _; simp
  | i + 1 => by
    show s * pw s (i + 1) (i + 1) + pw s (i + 1) i = _
    rw [pw_near s i, pw_diag s (i + 1)]
    push_cast
    grind
theorem IsSh.top {s : Int} {zs cs : List Int} (h : IsSh s zs cs) {m : Nat} (hl : cs.length = m + 1) : zs.getD m 0 = cs.getD m 0 ∧ ∀ j, m = j + 1 → zs.getD j 0 = cs.getD j 0 + (m : Int) * s * cs.getD m 0 := by
  constructor
  · rw [h.at_, hl]
    unfold shV
    rw [sumTo_one (k := m) _ (by omega) fun i hi ne => by rw [pw_high s i m (by omega), Int.mul_zero], pw_diag, Int.mul_one]
  · intro j hj
    subst hj
    rw [h.at_, hl]
    unfold shV
    rw [sumTo, sumTo_one (k := j) _ (by omega) fun i hi ne => by rw [pw_high s i j (by omega), Int.mul_zero], pw_diag, pw_near]
    push_cast
    grind
end CB

namespace CB
open PySem PySem.Spec PyProof.Rows L2
theorem sR_mulr (c : Rat) (f : Nat → Rat) (n : Nat) : sR (fun i => f i * c) n = sR f n * c := by
  rw [sR_congr (g := fun i => c * f i) n fun i _ => by grind, sR_mul]
  grind
theorem sR_le {f : Nat → Rat} {n m : Nat} (h : ∀ i, n ≤ i → f i = 0) (l : n ≤ m) : sR f m = sR f n := by
  obtain ⟨d, rfl⟩ : ∃ d, m = n + d := ⟨m - n, by omega⟩
  exact sR_more h d
/-- powers -/
def rp (x : Rat) : Nat → Rat
  | 0 => 1
  | n + 1 => rp x n * x
/-- no coefficient from n on -/
def Sup (f : Nat → Rat) (n : Nat) : Prop := ∀ i, n ≤ i → f i = 0
theorem Sup.le {f : Nat → Rat} {n m : Nat} (h : Sup f n) (l : n ≤ m) : Sup f m := fun i hi => h i (by omega)
theorem rv_sup {cs : List Int} {d : Int} {n : Nat} (hd : d ≠ 0) (h : cs.length ≤ n) : Sup (rv cs d) n := fun i hi => (rv_zero hd).mpr (getD_end (by omega))
/-- the value; never more than 400 coefficients -/
def ev (f : Nat → Rat) (x : Rat) : Rat := sR (fun i => f i * rp x i) 400
/-- moved by s -/
def sh (s : Int) (f : Nat → Rat) (k : Nat) : Rat := sR (fun i => f i * ((pw s i k : Int) : Rat)) 400
theorem sh_n {s : Int} {f : Nat → Rat} {n : Nat} (h : Sup f n) (l : n ≤ 400) (k : Nat) : sh s f k = sR (fun i => f i * ((pw s i k : Int) : Rat)) n :=
  sR_le (fun i hi => by rw [h i hi]; grind) l
theorem IsSh.sh {s : Int} {zs cs : List Int} {e : Int} (h : IsSh s zs cs) (he : e ≠ 0) (l : cs.length ≤ 400) (k : Nat) : rv zs e k = CB.sh s (rv cs e) k := by
  rw [sh_n (rv_sup he (Nat.le_refl _)) l]
  unfold rv
  rw [h.at_]
  unfold shV
  rw [sR_cast]
  have := ratc_ne he
  have e1 : sR (fun i => ((cs.getD i 0 * pw s i k : Int) : Rat)) cs.length / ((e : Int) : Rat) = sR (fun i => ((cs.getD i 0 * pw s i k : Int) : Rat)) cs.length * (1 / ((e : Int) : Rat)) := by grind
  rw [e1, ← sR_mulr]
  exact sR_congr _ fun i _ => by rw [Rat.intCast_mul]; grind
/-! ### operators: coefficients by the power of the shift -/
/-- the coefficient k of the composition -/
def opC (A B : Nat → Nat → Rat) (k : Nat) (e : Nat) : Rat := sR (fun i => cR (A i) (sh (i : Int) (B (k - i))) e) (k + 1)
theorem opC_zero {A B : Nat → Nat → Rat} {p q k : Nat} (hA : ∀ i e, p ≤ i → A i e = 0) (hB : ∀ i e, q ≤ i → B i e = 0) (h : p + q ≤ k + 1) (e : Nat) : opC A B k e = 0 :=
  sR_zero _ fun i hi => by
    by_cases c : p ≤ i
    · exact cR_zl fun j => hA i j c
    · exact cR_zr fun j => sR_zero _ fun m _ => by rw [hB (k - i) m (by omega)]; grind
/-- what an operator gives on values u 0, u 1, .. from x on -/
def opV (A : Nat → Nat → Rat) (x : Rat) (u : Nat → Rat) (n : Nat) : Rat := sR (fun j => ev (A j) x * u j) n
end CB

namespace CB
open PySem PySem.Spec PyProof.Rows L2
abbrev Prt := List Int × Int
abbrev p0 : Prt := ([], 1)
/-- the part at i as a polynomial -/
def pA (L : List Prt) (i : Nat) : Nat → Rat := rv (L.getD i p0).1 (L.getD i p0).2
theorem getDp_end {α : Type} {L : List α} {i : Nat} {d : α} (h : L.length ≤ i) : L.getD i d = d := by rw [List.getD_eq_getElem?_getD, List.getElem?_eq_none h]; rfl
theorem getDp_set {α : Type} {L : List α} {i k : Nat} {v d : α} (h : i < L.length) : (L.set i v).getD k d = if k = i then v else L.getD k d := by
  rw [List.getD_eq_getElem?_getD, List.getD_eq_getElem?_getD, List.getElem?_set]
  by_cases c : i = k
  · subst c
    rw [if_pos rfl, if_pos h, if_pos rfl]
    rfl
  · rw [if_neg c, if_neg fun z => c z.symm]
theorem rv_nil (d : Int) (e : Nat) : rv [] d e = 0 := by
  unfold rv
  show ((0 : Int) : Rat) / _ = 0
  rw [Rat.intCast_zero]
  grind
theorem pA_end {L : List Prt} {i : Nat} (h : L.length ≤ i) (e : Nat) : pA L i e = 0 := by unfold pA; rw [getDp_end h]; exact rv_nil _ _
/-- a part of these sizes, without zeros at its end -/
structure PB (kb db n : Nat) (c : Prt) : Prop where
  bits : ∀ x ∈ c.1, x.natAbs < 2 ^ kb
  pos : 1 ≤ c.2
  den : c.2.natAbs ≤ 2 ^ db
  len : c.1.length ≤ n
  tf : Tf c.1 (ff c.1)
theorem PB.at_ {kb db n : Nat} {c : Prt} (h : PB kb db n c) (i : Nat) : (c.1.getD i 0).natAbs < 2 ^ kb := by
  by_cases z : i < c.1.length
  · exact h.bits _ (getD_mem z)
  · rw [getD_end (by omega)]; exact Nat.pow_pos (by decide)
theorem pb0 {kb db n : Nat} : PB kb db n p0 := ⟨fun x h => absurd h (by simp), by decide, by show 1 ≤ 2 ^ db; exact Nat.pow_pos (by decide), Nat.zero_le _, ⟨fun _ => rfl, .inl rfl⟩⟩
theorem PB.mono {kb db n kb' db' n' : Nat} {c : Prt} (h : PB kb db n c) (h1 : kb ≤ kb') (h2 : db ≤ db') (h3 : n ≤ n') : PB kb' db' n' c :=
  ⟨fun x hx => abs_mono (h.bits x hx) h1, h.pos, Nat.le_trans h.den (Nat.pow_le_pow_right (by decide) h2), Nat.le_trans h.len h3, h.tf⟩
theorem PB.lt {kb db n : Nat} {c : Prt} (h : PB kb db n c) : c.2.natAbs < 2 ^ (db + 1) := Nat.lt_of_le_of_lt h.den (Nat.pow_lt_pow_right (by decide) (by omega))
theorem PB.ne {kb db n : Nat} {c : Prt} (h : PB kb db n c) : c.2 ≠ 0 := by have := h.pos; omega
theorem PB.sup {kb db n : Nat} {c : Prt} (h : PB kb db n c) : Sup (rv c.1 c.2) n := rv_sup h.ne h.len
/-- all of a list -/
def PBs (kb db n : Nat) (L : List Prt) : Prop := ∀ c ∈ L, PB kb db n c
theorem PBs.at_ {kb db n : Nat} {L : List Prt} (h : PBs kb db n L) (i : Nat) : PB kb db n (L.getD i p0) := by
  by_cases c : i < L.length
  · rw [List.getD_eq_getElem?_getD, List.getElem?_eq_getElem c]
    exact h _ (List.getElem_mem c)
  · rw [getDp_end (by omega)]; exact pb0
theorem PBs.sup {kb db n : Nat} {L : List Prt} (h : PBs kb db n L) (i : Nat) : Sup (pA L i) n := (h.at_ i).sup
theorem PBs.mono {kb db n kb' db' n' : Nat} {L : List Prt} (h : PBs kb db n L) (h1 : kb ≤ kb') (h2 : db ≤ db') (h3 : n ≤ n') : PBs kb' db' n' L := fun c hc => (h c hc).mono h1 h2 h3
theorem PBs.take {kb db n m : Nat} {L : List Prt} (h : PBs kb db n L) : PBs kb db n (L.take m) := fun c hc => h c (List.mem_of_mem_take hc)
theorem PBs.snoc {kb db n : Nat} {L : List Prt} {c : Prt} (h : PBs kb db n L) (hc : PB kb db n c) : PBs kb db n (L ++ [c]) := fun x hx => by
  rcases List.mem_append.mp hx with hx | hx
  · exact h x hx
  · rw [List.mem_singleton.mp hx]; exact hc
theorem PBs.set {kb db n i : Nat} {L : List Prt} {c : Prt} (h : PBs kb db n L) (hc : PB kb db n c) : PBs kb db n (L.set i c) := fun x hx => by
  rcases List.mem_or_eq_of_mem_set hx with hx | hx
  · exact h x hx
  · rw [hx]; exact hc
/-- n is where the parts end without the last zero ones -/
structure TrimL (L : List Prt) (n : Nat) : Prop where
  le : n ≤ L.length
  up : ∀ k, n ≤ k → (L.getD k p0).1 = []
  at_ : n = 0 ∨ (L.getD (n - 1) p0).1 ≠ []
structure TrL (L : List Prt) (i n : Nat) : Prop where
  le : n ≤ i
  up : ∀ k, n ≤ k → k < i → (L.getD k p0).1 = []
  at_ : n = 0 ∨ (L.getD (n - 1) p0).1 ≠ []
theorem TrL.fin {L : List Prt} {n : Nat} (t : TrL L L.length n) : TrimL L n := ⟨t.le, fun k hk => if c : k < L.length then t.up k hk c else by rw [getDp_end (by omega)], t.at_⟩
theorem TrL.no {L : List Prt} {i n : Nat} (t : TrL L i n) (h : (L.getD i p0).1 = []) : TrL L (i + 1) n := ⟨by have := t.le; omega, fun k h1 h2 => by
  by_cases c : k = i
  · rw [c]; exact h
  · exact t.up k h1 (by omega), t.at_⟩
/-- the sequence of polynomials ends at n -/
structure LnF (A : Nat → Nat → Rat) (n : Nat) : Prop where
  up : ∀ i, n ≤ i → ∀ e, A i e = 0
  at_ : n = 0 ∨ ∃ e, A (n - 1) e ≠ 0
theorem LnF.congr {A B : Nat → Nat → Rat} {n : Nat} (l : LnF A n) (h : ∀ i e, A i e = B i e) : LnF B n := ⟨fun i hi e => by rw [← h]; exact l.up i hi e, l.at_.imp id fun ⟨e, z⟩ => ⟨e, by rw [← h]; exact z⟩⟩
theorem LnF.uniq {A : Nat → Nat → Rat} {n m : Nat} (a : LnF A n) (b : LnF A m) : n = m := by
  have le : ∀ {n m}, LnF A n → LnF A m → n ≤ m := fun {n m} a b => Decidable.byContradiction fun c => by
    rcases a.at_ with z | ⟨e, z⟩
    · omega
    · exact z (b.up _ (by omega) e)
  exact Nat.le_antisymm (le a b) (le b a)
/-! ### the composition in the making -/
structure AfA (F : List Prt) (A B : Nat → Nat → Rat) (q N E pb n2 i j : Nat) : Prop where
  len : F.length = N
  val : ∀ k e, k < N → pA F k e = sR (fun t => if t ≤ k ∧ k - t < q then cR (A t) (sh (t : Int) (B (k - t))) e else 0) i + (if i ≤ k ∧ k - i < j then cR (A i) (sh (i : Int) (B (k - i))) e else 0)
  ok : ∀ k, k < N → PB (E * (i + if i ≤ k ∧ k - i < j then 1 else 0) + 1) (pb * (i + if i ≤ k ∧ k - i < j then 1 else 0)) n2 (F.getD k p0)
theorem AfA.start {A B : Nat → Nat → Rat} {q N E pb n2 : Nat} : AfA (List.replicate N p0) A B q N E pb n2 0 0 := by
  have z : ∀ k, (List.replicate N p0).getD k p0 = p0 := fun k => by
    rw [List.getD_eq_getElem?_getD, List.getElem?_replicate]
    split <;> rfl
  refine ⟨List.length_replicate, fun k e _ => ?_, fun k _ => ?_⟩
  · unfold pA
    rw [z, if_neg (by omega), rv_nil]
    show (0 : Rat) = 0 + 0
    grind
  · rw [z]; exact pb0
theorem AfA.row {F : List Prt} {A B : Nat → Nat → Rat} {q N E pb n2 i : Nat} (m : AfA F A B q N E pb n2 i q) : AfA F A B q N E pb n2 (i + 1) 0 := by
  refine ⟨m.len, fun k e hk => ?_, fun k hk => ?_⟩
  · rw [m.val k e hk, sR, if_neg (show ¬ (i + 1 ≤ k ∧ k - (i + 1) < 0) by omega)]
    grind
  · rw [if_neg (by omega)]
    refine (m.ok k hk).mono ?_ ?_ (Nat.le_refl _)
    · have : E * (i + if i ≤ k ∧ k - i < q then 1 else 0) ≤ E * (i + 1 + 0) := Nat.mul_le_mul_left _ (by split <;> omega)
      omega
    · exact Nat.mul_le_mul_left _ (by split <;> omega)
theorem AfA.step {F : List Prt} {A B : Nat → Nat → Rat} {q N E pb n2 i j : Nat} {c : Prt} (m : AfA F A B q N E pb n2 i j) (h : i + j < N)
    (hv : ∀ e, rv c.1 c.2 e = pA F (i + j) e + cR (A i) (sh (i : Int) (B j)) e) (hc : PB (E * (i + 1) + 1) (pb * (i + 1)) n2 c) : AfA (F.set (i + j) c) A B q N E pb n2 i (j + 1) := by
  have fl := m.len
  refine ⟨by rw [List.length_set, fl], fun k e hk => ?_, fun k hk => ?_⟩
  · unfold pA
    rw [getDp_set (by omega)]
    by_cases c1 : k = i + j
    · rw [if_pos c1, hv, c1, m.val (i + j) e (by omega), if_neg (by omega), if_pos (by omega), show i + j - i = j by omega]
      grind
    · rw [if_neg c1]
      show pA F k e = _
      rw [m.val k e hk]
      congr 1
      by_cases c2 : i ≤ k ∧ k - i < j
      · rw [if_pos c2, if_pos (by omega)]
      · rw [if_neg c2, if_neg (by omega)]
  · rw [getDp_set (by omega)]
    by_cases c1 : k = i + j
    · rw [if_pos c1, if_pos (by omega)]
      exact hc
    · rw [if_neg c1]
      by_cases c2 : i ≤ k ∧ k - i < j
      · have z := m.ok k hk
        rw [if_pos c2] at z
        rw [if_pos (by omega)]
        exact z
      · have z := m.ok k hk
        rw [if_neg c2] at z
        rw [if_neg (by omega)]
        exact z
theorem AfA.fin {F : List Prt} {A B : Nat → Nat → Rat} {p q N E pb n2 : Nat} (m : AfA F A B q N E pb n2 p 0) (hN : N = p + q) (hA : ∀ i e, p ≤ i → A i e = 0) (hB : ∀ i e, q ≤ i → B i e = 0) (k e : Nat) : pA F k e = opC A B k e := by
  by_cases hk : k < N
  · rw [m.val k e hk, if_neg (show ¬ (p ≤ k ∧ k - p < 0) by omega)]
    have e1 : sR (fun t => if t ≤ k ∧ k - t < q then cR (A t) (sh (t : Int) (B (k - t))) e else 0) p = sR (fun t => if t ≤ k ∧ k - t < q then cR (A t) (sh (t : Int) (B (k - t))) e else 0) (max p (k + 1)) :=
      (sR_le (fun t ht => by
        split
        · exact cR_zl fun x => hA t x ht
        · rfl) (by omega)).symm
    have e2 : opC A B k e = sR (fun t => if t ≤ k ∧ k - t < q then cR (A t) (sh (t : Int) (B (k - t))) e else 0) (k + 1) := sR_congr _ fun t ht => by
      by_cases c : k - t < q
      · rw [if_pos ⟨by omega, c⟩]
      · rw [if_neg fun z => c z.2]
        exact cR_zr fun x => sR_zero _ fun y _ => by rw [hB (k - t) y (by omega)]; grind
    rw [e1, e2, sR_le (n := k + 1) (fun t ht => by rw [if_neg (by omega)]) (by omega)]
    grind
  · rw [pA_end (by rw [m.len]; omega), opC_zero hA hB (by omega)]
/-! ### values as data -/
def prD (c : Prt) : PyData := .tuple [.list (c.1.map PyData.int), .int c.2]
end CB

namespace CB.EQ
open PySem PySem.SeqAt PySem.Spec PyProof.Rows
open AutoSeq1 (wpAny_loadPart')
open MeetsSeq MeetsSeq2 MeetsSeq3 SeqRoads2
section
variable {prog : Program} {w : World} {A : Around} {R : Result → Shared → Prop}
end
section
variable {prog : Program} {w : World} {A : Around} {E : Value → Shared → Prop} {s : Shared}
end
end CB.EQ
namespace CB
open PySem PySem.Spec PyProof.Rows L2
/-- == of two things, with its answer -/
abbrev EqvB := V → V → Hp → Bool → Prop
def MonB (D : EqvB) : Prop := ∀ x y H H' r, Ext H H' → D x y H r → D x y H' r
def EqB (X : Cx) (n : Nat) (D : EqvB) : Prop :=
  ∀ (A : Around) (pins : List (Addr × Obj)) (s : Shared) (σ : L2.St) (H : Hp) (x y : V) (u v : Value) (r : Bool), Sub X n A → Inv X pins σ H s → RelV x u → RelV y v → D x y H r →
    wpAny (model X.prog X.w) A (eqBool u v) (fun r' s' => r' = r ∧ ∃ H', Inv X pins σ H' s' ∧ Ext H H') X.xe s
def RcB (X : Cx) (n : Nat) (D : EqvB) : Prop :=
  ∀ (A : Around) (pins : List (Addr × Obj)) (s : Shared) (σ : L2.St) (H : Hp) (x y : V) (u v : Value) (r : Bool), Sub X n A → Inv X pins σ H s → RelV x u → RelV y v → D x y H r →
    wpAny (model X.prog X.w) A (richCompare .Eq u v) (fun r' s' => r' = .bool r ∧ ∃ H', Inv X pins σ H' s' ∧ Ext H H') X.xe s
section
variable {X : Cx} {n : Nat} {D : EqvB}
/-- tuples: the answer is rt -/
def DTupB (K : PySem.W.Frag) (D : EqvB) : EqvB := fun x y H rt => ∃ a b xs ys, ∃ rs : Nat → Bool, x = .ref a ∧ y = .ref b ∧ SqT K H a xs ∧ SqT K H b ys ∧ (∀ (i : Nat) u v, xs[i]? = some u → ys[i]? = some v → D u v H (rs i)) ∧
  (rt = true ↔ xs.length = ys.length ∧ ∀ i, i < xs.length → i < ys.length → rs i = true)
/-- instances with the text's own == -/
def DInsB (C : Addr) (R : Addr → Addr → Hp → Bool → Prop) : EqvB := fun x y H r => ∃ a b dx dy fs gs, x = .ref a ∧ y = .ref b ∧ H a = some (.ins C dx fs) ∧ H b = some (.ins C dy gs) ∧ R a b H r
/-- what the own == promises -/
def spEqB (R : Addr → Addr → Hp → Bool → Prop) : Sp := fun vs H Q _ => ∃ a b, ∃ r : Bool, vs = [.ref a, .ref b] ∧ R a b H r ∧ ∀ H', Ext H H' → Q (.bl r) H'
/-- x == y as an expression -/
def rEqB (D : EqvB) : R2 := fun x y H Q => ∃ r, D x y H r ∧ ∀ H', Ext H H' → Q (.bl r) H'
end
end CB

namespace CB
open PySem PySem.Spec PyProof.Rows L2
/-! ### many whole numbers in one -/
/-- the value at B, the power 0 first -/
def pkv (B : Int) : List Int → Int
  | [] => 0
  | x :: t => x + B * pkv B t
/-- two and two in one -/
def prs (B : Int) : List Int → List Int
  | [] => []
  | [x] => [x]
  | x :: y :: t => (x + y * B) :: prs B t
theorem pkv_prs {B : Int} : ∀ xs : List Int, pkv (B * B) (prs B xs) = pkv B xs
  | [] => rfl
  | [x] => by simp [prs, pkv]
  | x :: y :: t => by
    have ih := pkv_prs (B := B) t
    show (x + y * B) + B * B * pkv (B * B) (prs B t) = x + B * (y + B * pkv B t)
    rw [ih]
    grind
theorem prs_len {B : Int} : ∀ xs : List Int, (prs B xs).length = (xs.length + 1) / 2
  | [] => rfl
  | [x] => by simp [prs]
  | x :: y :: t => by
    have ih := prs_len (B := B) t
    show (prs B t).length + 1 = (t.length + 1 + 1 + 1) / 2
    rw [ih]
    omega
theorem prs_bound {B k : Nat} (b0 : 1 ≤ B) : ∀ xs : List Int, (∀ x ∈ xs, x.natAbs < 2 ^ (k + 2 * B)) → ∀ z ∈ prs (2 ^ B) xs, z.natAbs < 2 ^ (k + 2 * (2 * B))
  | [], _, z, hz => by simp [prs] at hz
  | [x], h, z, hz => by
    have e : z = x := by simpa [prs] using hz
    rw [e]
    exact Nat.lt_of_lt_of_le (h x (by simp)) (Nat.pow_le_pow_right (by decide) (by omega))
  | x :: y :: t, h, z, hz => by
    rcases List.mem_cons.mp hz with e | hz
    · have hx := h x (by simp)
      have hy := h y (by simp)
      have e4 : (2 : Nat) ^ (k + 2 * (2 * B)) = 2 ^ (k + 2 * B) * (2 ^ B * 2 ^ B) := by rw [← Nat.pow_add, ← Nat.pow_add]; congr 1; omega
      have eb : ((2 : Int) ^ B).natAbs = 2 ^ B := by
        rw [Int.natAbs_pow]; rfl
      have hp : 1 ≤ 2 ^ B := Nat.one_le_two_pow
      have hp2 : 2 ≤ 2 ^ B := by
        obtain ⟨c, rfl⟩ : ∃ c, B = c + 1 := ⟨B - 1, by omega⟩
        have := Nat.one_le_two_pow (n := c)
        rw [Nat.pow_succ]; omega
      rw [e4, e]
      have t1 : (x + y * 2 ^ B).natAbs ≤ x.natAbs + y.natAbs * 2 ^ B := by
        have := Int.natAbs_add_le x (y * 2 ^ B)
        rw [Int.natAbs_mul, eb] at this
        exact this
      generalize 2 ^ (k + 2 * B) = M at hx hy ⊢
      generalize 2 ^ B = P at hp2 t1 ⊢
      have t2 : y.natAbs * P < M * P := Nat.mul_lt_mul_of_pos_right hy (by omega)
      have t3 : M * 2 ≤ M * P := Nat.mul_le_mul_left M hp2
      have t4 : M * P * 2 ≤ M * P * P := Nat.mul_le_mul_left (M * P) hp2
      rw [← Nat.mul_assoc]
      omega
    · exact prs_bound b0 t (fun x hx => h x (by simp [hx])) z hz
/-- within half of 2 ^ B -/
def Hf (B : Nat) (x : Int) : Prop := 2 * x.natAbs < 2 ^ B
/-- t times two and two in one -/
def lay (b : Nat) : Nat → List Int → List Int
  | 0, xs => xs
  | t + 1, xs => prs (2 ^ (b * 2 ^ t)) (lay b t xs)
theorem pkv_sum {B : Int} : ∀ (xs : List Int) (N : Nat), xs.length ≤ N → pkv B xs = sumTo (fun k => xs.getD k 0 * B ^ k) N
  | [], N, _ => by
    rw [show (fun k => ([] : List Int).getD k 0 * B ^ k) = fun _ => 0 from funext fun k => by simp]
    induction N with
    | zero => rfl
    | succ n ih => rw [sumTo, ← ih (by simp)]; rfl
  | x :: t, N, h => by
    obtain ⟨M, rfl⟩ : ∃ M, N = 1 + M := ⟨N - 1, by simp only [List.length_cons] at h; omega⟩
    rw [sumTo_app, pkv, pkv_sum t M (by simp only [List.length_cons] at h; omega), Int.mul_comm B, ← sumTo_mulr]
    congr 1
    · simp [sumTo]
    · congr 1
      funext k
      rw [Nat.add_comm 1 k, Int.pow_succ, Int.mul_assoc]
      rfl
theorem cvS_val {B : Int} {xs ys : List Int} : ∀ n N, n + ys.length ≤ N → sumTo (fun k => cvS xs ys n k * B ^ k) N = sumTo (fun k => xs.getD k 0 * B ^ k) n * pkv B ys
  | 0, N, _ => by
    rw [sumTo_zero N fun k _ => by simp [cvS]]
    simp [sumTo]
  | n + 1, N, h => by
    have ih := cvS_val (B := B) (xs := xs) (ys := ys) n N (by omega)
    rw [sumTo, Int.add_mul, ← ih]
    rw [show (fun k => cvS xs ys (n + 1) k * B ^ k) = fun k => cvS xs ys n k * B ^ k + (if n ≤ k then xs.getD n 0 * ys.getD (k - n) 0 else 0) * B ^ k from funext fun k => by rw [cvS, Int.add_mul]]
    rw [sumTo_add]
    congr 1
    obtain ⟨M, rfl⟩ : ∃ M, N = n + M := ⟨N - n, by omega⟩
    rw [sumTo_app, pkv_sum ys M (by omega), Int.mul_comm (xs.getD n 0 * B ^ n), ← sumTo_mulr]
    have z : sumTo (fun k => (if n ≤ k then xs.getD n 0 * ys.getD (k - n) 0 else 0) * B ^ k) n = 0 := by
      have : ∀ m, m ≤ n → sumTo (fun k => (if n ≤ k then xs.getD n 0 * ys.getD (k - n) 0 else 0) * B ^ k) m = 0 := fun m => by
        induction m with
        | zero => intro _; rfl
        | succ m ihm =>
          intro hm
          rw [sumTo, ihm (by omega), if_neg (by omega)]
          simp
      exact this n (Nat.le_refl _)
    rw [z, Int.zero_add]
    congr 1
    funext k
    rw [if_pos (by omega), Nat.add_sub_cancel_left, Int.pow_add]
    grind
theorem IsMul.val {B : Int} {zs xs ys : List Int} (m : IsMul zs xs ys) : pkv B zs = pkv B xs * pkv B ys := by
  rw [pkv_sum zs _ m.len, pkv_sum xs _ (Nat.le_refl _), ← cvS_val xs.length (xs.length + ys.length) (Nat.le_refl _)]
  congr 1
  funext k
  rw [m.at_ k]
  rfl
/-- the product as a list -/
def mulL (xs ys : List Int) : List Int := (List.range (xs.length + ys.length - 1)).map (cv xs ys)
structure PkI (xs : List Int) (b k : Nat) (zs : List Int) (B : Nat) : Prop where
  val : pkv (2 ^ B) zs = pkv (2 ^ b) xs
  ne : 1 ≤ zs.length
  bd : ∀ z ∈ zs, z.natAbs < 2 ^ (k + 2 * B)
  lim : B * (zs.length - 1) ≤ b * (xs.length - 1)
  b1 : 1 ≤ B
  len : zs.length ≤ xs.length
theorem PkI.start {xs : List Int} {b k : Nat} (h : ∀ x ∈ xs, x.natAbs < 2 ^ k) (l : 1 ≤ xs.length) (b1 : 1 ≤ b) : PkI xs b k xs b := ⟨rfl, l, fun z hz => Nat.lt_of_lt_of_le (h z hz) (Nat.pow_le_pow_right (by decide) (by omega)), Nat.le_refl _, b1, Nat.le_refl _⟩
theorem PkI.next {xs zs : List Int} {b k B : Nat} (p : PkI xs b k zs B) (h : 2 ≤ zs.length) : PkI xs b k (prs (2 ^ B) zs) (2 * B) := by
  have e : (2 : Int) ^ (2 * B) = 2 ^ B * 2 ^ B := by rw [← Int.pow_add]; congr 1; omega
  refine ⟨by rw [e, pkv_prs]; exact p.val, by rw [prs_len]; omega, fun z hz => prs_bound p.b1 zs p.bd z hz, ?_, by have := p.b1; omega, by rw [prs_len]; have := p.len; omega⟩
  refine Nat.le_trans ?_ p.lim
  rw [prs_len, Nat.mul_comm 2, Nat.mul_assoc]
  exact Nat.mul_le_mul_left B (by omega)
theorem PkI.fin {xs zs : List Int} {b k B : Nat} (p : PkI xs b k zs B) (h : ¬ 2 ≤ zs.length) : zs.length = 1 ∧ zs.getD 0 0 = pkv (2 ^ b) xs := by
  have := p.ne
  rw [← p.val]
  match zs, this, h with
  | [z], _, _ => exact ⟨rfl, by simp [pkv]⟩
  | _ :: _ :: _, _, h => simp at h
/-- a walk over a list, whatever is done at each item -/
theorem walkL {K : PySem.W.Frag} {a : Addr} {xs : List V} {H0 : Hp} {Qd : Hp → Prop} {BODY : (Hp → Prop) → V → Hp → Prop} (Pv : Nat → Hp → Prop) (h0 : Pv 0 H0) (hl : ∀ i H, i ≤ xs.length → Pv i H → SqL K H a xs)
    (hs : ∀ i x H, xs[i]? = some x → Pv i H → BODY (Pv (i + 1)) x H) (hd : ∀ H, Pv xs.length H → Qd H) :
    ∃ W : Nat → Nat → Hp → Prop, (∃ m, W 0 m H0) ∧ ∀ i m H, W i m H → ((Itl K a).stop i H ∧ Qd H) ∨ ((Itl K a).go i H ∧ ∃ Nx : Hp → Prop, (∀ H', Nx H' → ∃ m', m' < m ∧ W (i + 1) m' H') ∧ ∀ x H', (Itl K a).yld i H x H' → BODY Nx x H') := by
  refine ⟨fun i m H => m = xs.length - i ∧ i ≤ xs.length ∧ Pv i H, ⟨xs.length, by simp, Nat.zero_le _, h0⟩, ?_⟩
  rintro i m H ⟨rfl, hi, p⟩
  have q := hl i H hi p
  by_cases hlt : i < xs.length
  · refine .inr ⟨⟨xs, xs[i], q, by simp [hlt]⟩, Pv (i + 1), fun H' p' => ⟨xs.length - (i + 1), by omega, rfl, hlt, p'⟩, fun x H' y => ?_⟩
    obtain ⟨e, y⟩ := y
    subst e
    exact hs i x _ (y xs q) p
  · have e : i = xs.length := by omega
    subst e
    exact .inl ⟨⟨xs, q, Nat.le_refl _⟩, hd H p⟩
theorem walkT {K : PySem.W.Frag} {a : Addr} {xs : List V} {H0 : Hp} {Qd : Hp → Prop} {BODY : (Hp → Prop) → V → Hp → Prop} (Pv : Nat → Hp → Prop) (h0 : Pv 0 H0) (hl : ∀ i H, i ≤ xs.length → Pv i H → SqT K H a xs)
    (hs : ∀ i x H, xs[i]? = some x → Pv i H → BODY (Pv (i + 1)) x H) (hd : ∀ H, Pv xs.length H → Qd H) :
    ∃ W : Nat → Nat → Hp → Prop, (∃ m, W 0 m H0) ∧ ∀ i m H, W i m H → ((Itt K a).stop i H ∧ Qd H) ∨ ((Itt K a).go i H ∧ ∃ Nx : Hp → Prop, (∀ H', Nx H' → ∃ m', m' < m ∧ W (i + 1) m' H') ∧ ∀ x H', (Itt K a).yld i H x H' → BODY Nx x H') := by
  refine ⟨fun i m H => m = xs.length - i ∧ i ≤ xs.length ∧ Pv i H, ⟨xs.length, by simp, Nat.zero_le _, h0⟩, ?_⟩
  rintro i m H ⟨rfl, hi, p⟩
  have q := hl i H hi p
  by_cases hlt : i < xs.length
  · refine .inr ⟨⟨xs, xs[i], q, by simp [hlt]⟩, Pv (i + 1), fun H' p' => ⟨xs.length - (i + 1), by omega, rfl, hlt, p'⟩, fun x H' y => ?_⟩
    obtain ⟨e, y⟩ := y
    subst e
    exact hs i x _ (y xs q) p
  · have e : i = xs.length := by omega
    subst e
    exact .inl ⟨⟨xs, q, Nat.le_refl _⟩, hd H p⟩
/-- a loop over enumerate of a list -/
theorem for_enL {K : PySem.W.Frag} {a : Addr} {xs : List V} {g : TG} {tb : TS} {D : Ends} {σ : L2.St} {H : Hp} (Pv : Nat → L2.St → Hp → Prop) (h0 : Pv 0 σ H) (hq : ∀ i σ H, Pv i σ H → SqL K H a xs)
    (hs : ∀ (i : Nat) (x : V) (T : Addr) (σ : L2.St) (H : Hp), xs[i]? = some x → Pv i σ H → H T = none → g (.ref T) σ (upd H T (.tup [.int (i : Nat), x])) fun σ2 H2 => tb { D with nx := Pv (i + 1), ct := Pv (i + 1), bk := D.nx } σ2 H2) (hd : ∀ σ H, Pv xs.length σ H → D.nx σ H) :
    ∃ W : Nat → Nat → L2.St → Hp → Prop, (∃ m, W 0 m σ H) ∧ ∀ i m σ H, W i m σ H →
      ((Ite K a).stop i H ∧ D.nx σ H) ∨ ((Ite K a).go i H ∧ ∃ N : L2.St → Hp → Prop, (∀ σ' H', N σ' H' → ∃ m', m' < m ∧ W (i + 1) m' σ' H') ∧ ∀ v H', (Ite K a).yld i H v H' → g v σ H' fun σ2 H2 => tb { D with nx := N, ct := N, bk := D.nx } σ2 H2) := by
  refine ⟨fun i m σ H => m = xs.length - i ∧ i ≤ xs.length ∧ Pv i σ H, ⟨_, rfl, Nat.zero_le _, h0⟩, fun i m σ H hw => ?_⟩
  obtain ⟨rfl, hi, p⟩ := hw
  have qa := hq i σ H p
  by_cases lt : i < xs.length
  · refine .inr ⟨⟨xs, xs[i], qa, List.getElem?_eq_getElem lt⟩, Pv (i + 1), fun σ' H' p' => ⟨_, by omega, rfl, lt, p'⟩, fun v H' y => ?_⟩
    obtain ⟨T, x, rfl, hT, rfl, hx⟩ := y
    exact hs i x T σ H (hx xs qa) p hT
  · have e : i = xs.length := by omega
    subst e
    exact .inl ⟨⟨xs, qa, Nat.le_refl _⟩, hd σ H p⟩
end CB

namespace CB
open PySem PySem.Spec PyProof.Rows L2
/-! ### rows in one list: the product, place by place -/
/-- list(x) within a comprehension -/
abbrev rLstOf (K : PySem.W.Frag) : List V → Hp → VK → Prop := fun xs H Q => ∃ (p : Addr) (ys : List V), xs = [.ref p] ∧ (SqL K H p ys ∨ SqT K H p ys) ∧ ∀ l, H l = none → Q (.ref l) (upd H l (.lst ys))
end CB

namespace CB
open PySem PySem.Spec PyProof.Rows L2
/-! ### tables of whole numbers as functions: values, products, powers -/
abbrev TF := Nat → Nat → Int
/-- the value of the first N coefficients -/
def e1 (f : Nat → Int) (x : Int) (N : Nat) : Int := sumTo (fun i => f i * x ^ i) N
theorem e1_more {f : Nat → Int} {x : Int} {N M : Nat} (h : ∀ i, N ≤ i → f i = 0) (l : N ≤ M) : e1 f x M = e1 f x N := by
  obtain ⟨m, rfl⟩ : ∃ m, M = N + m := ⟨M - N, by omega⟩
  exact sumTo_more (fun i hi => by rw [h i hi, Int.zero_mul]) m
theorem e1_congr {f g : Nat → Int} {x : Int} {N : Nat} (h : ∀ i, i < N → f i = g i) : e1 f x N = e1 g x N := sumTo_congr N fun i hi => by rw [h i hi]
theorem e1_cf {f g : Nat → Int} {x : Int} {N M : Nat} (hf : ∀ i, N ≤ i → f i = 0) (hg : ∀ i, M ≤ i → g i = 0) : e1 (cf f g) x (N + M) = e1 f x N * e1 g x M := by
  have key : ∀ n, sumTo (fun k => cf f g k * x ^ k) n = sumTo (fun i => f i * x ^ i * sumTo (fun m => g m * x ^ m) (n - i)) n := fun n => by
    have e : sumTo (fun k => cf f g k * x ^ k) n = sumTo (fun k => sumTo (fun i => f i * g (k - i) * x ^ k) (k + 1)) n := sumTo_congr n fun k _ => by
      unfold cf
      rw [← sumTo_mulr]
    rw [e, sumTo_tri (fun k i => f i * g (k - i) * x ^ k)]
    refine sumTo_congr n fun i hi => ?_
    rw [← sumTo_mul]
    refine sumTo_congr _ fun m hm => ?_
    rw [show i + m - i = m by omega, Int.pow_add]
    grind
  unfold e1
  rw [key (N + M), sumTo_more (n := N) (fun i hi => by rw [hf i hi]; simp) M, ← sumTo_mulr]
  refine sumTo_congr N fun i hi => ?_
  congr 1
  obtain ⟨d, hd⟩ : ∃ d, N + M - i = M + d := ⟨N - i, by omega⟩
  rw [hd]
  exact sumTo_more (fun m hm => by rw [hg m hm, Int.zero_mul]) d
theorem e1_scale (c : Int) (f : Nat → Int) (x : Int) (N : Nat) : e1 (fun i => c * f i) x N = c * e1 f x N := by
  unfold e1
  rw [← sumTo_mul]
  exact sumTo_congr N fun i _ => by grind
structure Sup2 (F : TF) (R W : Nat) : Prop where
  row : ∀ j i, R ≤ j → F j i = 0
  col : ∀ j i, W ≤ i → F j i = 0
theorem Sup2.mono {F : TF} {R W R' W' : Nat} (s : Sup2 F R W) (h1 : R ≤ R') (h2 : W ≤ W') : Sup2 F R' W' := ⟨fun j i h => s.row j i (by omega), fun j i h => s.col j i (by omega)⟩
def tbl (F : TF) (R W : Nat) : List (List Int) := (List.range R).map fun j => (List.range W).map fun i => F j i
def B2 (B : Nat) (F : TF) : Prop := ∀ j i, (F j i).natAbs < 2 ^ B
theorem B2.mono {B C : Nat} {F : TF} (h : B2 B F) (l : B ≤ C) : B2 C F := fun j i => Nat.lt_of_lt_of_le (h j i) (Nat.pow_le_pow_right (by decide) l)
/-- the value at two numbers -/
def e2 (F : TF) (n k : Int) (R W : Nat) : Int := e1 (fun j => e1 (F j) n W) k R
/-- the product -/
def c2 (F G : TF) : TF := fun j i => sumTo (fun a => cf (F a) (G (j - a)) i) (j + 1)
theorem cf_zero_l {f g : Nat → Int} (h : ∀ i, f i = 0) (k : Nat) : cf f g k = 0 := sumTo_zero _ fun i _ => by rw [h i, Int.zero_mul]
theorem cf_zero_r {f g : Nat → Int} (h : ∀ i, g i = 0) (k : Nat) : cf f g k = 0 := sumTo_zero _ fun i _ => by rw [h (k - i), Int.mul_zero]
theorem cf_endT {f g : Nat → Int} {al be k : Nat} (hf : ∀ s, al ≤ s → f s = 0) (hg : ∀ s, be ≤ s → g s = 0) (h : al + be ≤ k + 1) : cf f g k = 0 := by
  refine sumTo_zero _ fun i hi => ?_
  by_cases c : al ≤ i
  · rw [hf i c, Int.zero_mul]
  · rw [hg (k - i) (by omega), Int.mul_zero]
theorem Sup2.c2 {F G : TF} {R W S V : Nat} (a : Sup2 F R W) (b : Sup2 G S V) : Sup2 (c2 F G) (R + S - 1) (W + V - 1) :=
  ⟨fun j i h => sumTo_zero _ fun t ht => by
    by_cases c : R ≤ t
    · exact cf_zero_l (fun s => a.row t s c) i
    · exact cf_zero_r (fun s => b.row (j - t) s (by omega)) i,
  fun j i h => sumTo_zero _ fun t ht => cf_endT (a.col t) (b.col (j - t)) (by omega)⟩
theorem cf_bits {f g : Nat → Int} {B C : Nat} (hf : ∀ i, (f i).natAbs < 2 ^ B) (hg : ∀ i, (g i).natAbs < 2 ^ C) (k : Nat) : (cf f g k).natAbs < 2 ^ (B + C + (k + 1)) :=
  sumTo_bits _ fun i _ => by
    rw [Int.natAbs_mul, Nat.pow_add]
    exact Nat.mul_lt_mul'' (hf i) (hg (k - i))
theorem B2.c2 {F G : TF} {R W S V B C : Nat} (a : Sup2 F R W) (b : Sup2 G S V) (x : B2 B F) (y : B2 C G) : B2 (B + C + (W + V) + (R + S)) (c2 F G) := fun j i => by
  have s := a.c2 b
  by_cases h1 : R + S - 1 ≤ j
  · rw [s.row j i h1]; exact Nat.two_pow_pos _
  by_cases h2 : W + V - 1 ≤ i
  · rw [s.col j i h2]; exact Nat.two_pow_pos _
  have z := sumTo_bits (F := fun t => cf (F t) (G (j - t)) i) (b := B + C + (W + V)) (j + 1) fun t _ => Nat.lt_of_lt_of_le (cf_bits (x t) (y (j - t)) i) (Nat.pow_le_pow_right (by decide) (by omega))
  exact Nat.lt_of_lt_of_le z (Nat.pow_le_pow_right (by decide) (by omega))
/-- powers -/
def p2 (F : TF) : Nat → TF
  | 0 => fun j i => if j = 0 ∧ i = 0 then 1 else 0
  | e + 1 => c2 (p2 F e) F
theorem Sup2.p2 {F : TF} {R W : Nat} (s : Sup2 F (R + 1) (W + 1)) : ∀ e, Sup2 (p2 F e) (R * e + 1) (W * e + 1)
  | 0 => ⟨fun j i h => if_neg (by omega), fun j i h => if_neg (by omega)⟩
  | e + 1 => by
    have z := (Sup2.p2 s e).c2 s
    exact z.mono (by rw [Nat.mul_add]; omega) (by rw [Nat.mul_add]; omega)
/-- in one list -/
def fl2 (w : Nat) (F : TF) : Nat → Int := fun n => F (n / w) (n % w)
/-! ### moves -/
theorem pw_e1 (s x : Int) : ∀ (i N : Nat), i < N → e1 (pw s i) x N = (x + s) ^ i
  | 0, N, h => by
    obtain ⟨M, rfl⟩ : ∃ M, N = M + 1 := ⟨N - 1, by omega⟩
    unfold e1
    rw [sumTo_first, sumTo_zero M fun k _ => by show (0 : Int) * _ = 0; rw [Int.zero_mul]]
    show (1 : Int) * x ^ 0 + 0 = _
    rw [Int.pow_zero, Int.pow_zero]
    rfl
  | i + 1, N, h => by
    obtain ⟨M, rfl⟩ : ∃ M, N = M + 1 := ⟨N - 1, by omega⟩
    have i1 := pw_e1 s x i (M + 1) (by omega)
    have i2 := pw_e1 s x i M (by omega)
    have z1 : e1 (pw s i) x (M + 1) = pw s i 0 + sumTo (fun k => pw s i (k + 1) * x ^ (k + 1)) M := by
      unfold e1
      rw [sumTo_first, Int.pow_zero, Int.mul_one]
    have z2 : e1 (pw s (i + 1)) x (M + 1) = s * pw s i 0 + sumTo (fun k => s * (pw s i (k + 1) * x ^ (k + 1)) + x * (pw s i k * x ^ k)) M := by
      unfold e1
      rw [sumTo_first, Int.pow_zero, Int.mul_one]
      show s * pw s i 0 + _ = _
      congr 1
      refine sumTo_congr M fun k _ => ?_
      show (s * pw s i (k + 1) + pw s i k) * x ^ (k + 1) = _
      rw [Int.pow_succ]
      grind
    rw [z2, sumTo_add, sumTo_mul, sumTo_mul, Int.pow_succ]
    rw [i1] at z1
    have z3 : sumTo (fun k => pw s i k * x ^ k) M = (x + s) ^ i := i2
    rw [z3]
    have z4 : sumTo (fun k => pw s i (k + 1) * x ^ (k + 1)) M = (x + s) ^ i - pw s i 0 := by omega
    rw [z4]
    grind
theorem shV_high {s : Int} {f : Nat → Int} {n k : Nat} (h : n ≤ k) : shV s f n k = 0 := sumTo_zero n fun i hi => by rw [pw_high s i k (by omega), Int.mul_zero]
theorem e1_shV (s x : Int) (f : Nat → Int) (N : Nat) : e1 (shV s f N) x N = e1 f (x + s) N := by
  show sumTo (fun k => sumTo (fun i => f i * pw s i k) N * x ^ k) N = _
  have e : sumTo (fun k => sumTo (fun i => f i * pw s i k) N * x ^ k) N = sumTo (fun k => sumTo (fun i => f i * (pw s i k * x ^ k)) N) N := sumTo_congr N fun k _ => by
    rw [← sumTo_mulr]
    exact sumTo_congr N fun i _ => by grind
  rw [e, sumTo_swap (fun k i => f i * (pw s i k * x ^ k)) N N]
  refine sumTo_congr N fun i hi => ?_
  rw [sumTo_mul]
  congr 1
  exact pw_e1 s x i N hi
/-- the table of the moved one -/
def m2 (F : TF) (a b : Int) (R W : Nat) : TF := fun j i => shV b (fun t => shV a (F t) W i) R j
theorem Sup2.m2 {F : TF} {R W : Nat} (s : Sup2 F R W) (a b : Int) : Sup2 (m2 F a b R W) R W :=
  ⟨fun j i h => shV_high h, fun j i h => sumTo_zero R fun t _ => by
    show shV a (F t) W i * _ = 0
    rw [shV_high h, Int.zero_mul]⟩
/-- the bits of a move of n places -/
def mvB (b n : Nat) : Nat := (b + 1) * n + 1 + n
theorem B2.m2 {F : TF} {a b : Int} {R W B c : Nat} (h : B2 B F) (ha : a.natAbs < 2 ^ c) (hb : b.natAbs < 2 ^ c) : B2 (B + mvB c W + mvB c R) (m2 F a b R W) := fun j i => by
  have z : ∀ t, (shV a (F t) W i).natAbs < 2 ^ (B + mvB c W) := fun t => Nat.lt_of_lt_of_le (shV_bits ha (h t) i) (Nat.pow_le_pow_right (by decide) (by unfold mvB; omega))
  exact Nat.lt_of_lt_of_le (shV_bits (n := R) hb z j) (Nat.pow_le_pow_right (by decide) (by unfold mvB; omega))
/-! ### p(n + k) -/
/-- the table of f(n + k) -/
def sF (f : Nat → Int) : TF := fun i t => (chs (i + t) i : Int) * f (i + t)
theorem Sup2.sF {f : Nat → Int} {N : Nat} (h : ∀ i, N ≤ i → f i = 0) : Sup2 (sF f) N N :=
  ⟨fun j i hj => by show _ * f (j + i) = 0; rw [h _ (by omega), Int.mul_zero], fun j i hi => by show _ * f (j + i) = 0; rw [h _ (by omega), Int.mul_zero]⟩
/-! ### tables given as lists -/
theorem evL_e1 (x : Int) : ∀ (cs : List Int) (N : Nat), cs.length ≤ N → evL x cs = e1 (ff cs) x N
  | [], N, _ => (sumTo_zero N fun i _ => by simp [ff]).symm
  | c :: r, 0, h => absurd h (by simp)
  | c :: r, N + 1, h => by
    show evL x r * x + c = _
    rw [evL_e1 x r N (by simpa using h)]
    unfold e1
    rw [sumTo_first, Int.pow_zero, Int.mul_one, ← sumTo_mulr]
    show _ = c + _
    rw [Int.add_comm]
    congr 1
    refine sumTo_congr N fun i _ => ?_
    show r.getD i 0 * x ^ i * x = r.getD i 0 * x ^ (i + 1)
    rw [Int.pow_succ]
    grind
def tF (rs : List (List Int)) : TF := fun j i => (rs.getD j []).getD i 0
theorem Sup2.tF {rs : List (List Int)} {R W : Nat} (h1 : rs.length ≤ R) (h2 : ∀ r ∈ rs, r.length ≤ W) : Sup2 (tF rs) R W :=
  ⟨fun j i h => by unfold CB.tF; rw [List.getD_eq_getElem?_getD (l := rs), List.getElem?_eq_none (by omega)]; rfl, fun j i h => by
    unfold CB.tF
    by_cases c : j < rs.length
    · rw [List.getD_eq_getElem?_getD (l := rs), List.getElem?_eq_getElem c]
      exact getD_end (Nat.le_trans (h2 _ (List.getElem_mem c)) h)
    · rw [List.getD_eq_getElem?_getD (l := rs), List.getElem?_eq_none (by omega)]; rfl⟩
/-! ### the outermost places of products and powers -/
theorem cf_top {f g : Nat → Int} {a b : Nat} (hf : ∀ i, a < i → f i = 0) (hg : ∀ i, b < i → g i = 0) : cf f g (a + b) = f a * g b := by
  unfold cf
  rw [sumTo_one (k := a) (a + b + 1) (by omega) fun i _ ne => ?_, show a + b - a = b by omega]
  by_cases c : a < i
  · rw [hf i c, Int.zero_mul]
  · rw [hg (a + b - i) (by omega), Int.mul_zero]
/-- the bits of a power -/
def p2B (B R W : Nat) : Nat → Nat
  | 0 => 1
  | e + 1 => p2B B R W e + B + (W * e + 1 + (W + 1)) + (R * e + 1 + (R + 1))
theorem B2.p2 {F : TF} {R W B : Nat} (s : Sup2 F (R + 1) (W + 1)) (b : B2 B F) : ∀ e, B2 (p2B B R W e) (p2 F e)
  | 0 => fun j i => by
    show (if j = 0 ∧ i = 0 then (1 : Int) else 0).natAbs < 2 ^ 1
    split <;> decide
  | e + 1 => (B2.p2 s b e).c2 (Sup2.p2 s e) s b
end CB

namespace CB
open PySem PySem.Spec PyProof.Rows L2
/-! ### binomials, factorials and products that grow by 1 -/
/-- (z + lo) (z + lo + 1) .. : m factors -/
def rsP (z : Int) (lo : Nat) : Nat → Int
  | 0 => 1
  | m + 1 => rsP z lo m * (z + ((lo + m : Nat) : Int))
/-! ### the numbers of a binomial sum's summands, and their weighted sum -/
/-- the sum of c_i x ^ i y ^ (last - i) -/
def wtV (x y : Int) : List Int → Int
  | [] => 0
  | c :: r => c * y ^ r.length + x * wtV x y r
end CB

namespace CB
open PySem PySem.Spec PyProof.Rows L2
/-! ### C(.., k = v, ..) in a try's body -/
def tMakeKS (C : Addr) (n m : Nat) (sp : Sp) (gV : List V → List V → List V) (E : L2.St → XK) (t tk : TA) : TE := fun σ H Q => t σ H fun vs H1 => tk σ H1 fun zs H2 => vs.length = n ∧ zs.length = m ∧ ∀ x dx, H2 x = none → H2 dx = none → dx ≠ x →
  sp (gV (.ref x :: vs) zs) (upd (upd H2 dx (.own x)) x (.ins C dx [])) (fun v H3 => v = .non ∧ Q (.ref x) H3) (E σ)
section
variable {X : Cx} {CX : CXT} {k n : Nat} {f C : Addr} {fd : FuncData} {ps ks : List Str} {sp : Sp} {E : L2.St → XK} {x : Str} {p pos : Pos} {e : Expr} {es : List Expr} {kws : List Keyword} {t tk : TA} {g : List Value → List Value → List Value} {gV : List V → List V → List V}
end
end CB

namespace CB
open PySem PySem.Spec PyProof.Rows L2
/-! ### polynomials with whole coefficients, as functions -/
/-- nothing from n on -/
def Fz (f : Nat → Int) (n : Nat) : Prop := ∀ i, n ≤ i → f i = 0
theorem Fz.mono {f : Nat → Int} {n m : Nat} (h : Fz f n) (l : n ≤ m) : Fz f m := fun i hi => h i (by omega)
/-- the degree is n -/
structure Dg (f : Nat → Int) (n : Nat) : Prop where
  top : f n ≠ 0
  up : Fz f (n + 1)
theorem Dg.uniq {f : Nat → Int} {n m : Nat} (h : Dg f n) (k : Dg f m) : n = m := by
  rcases Nat.lt_trichotomy n m with c | c | c
  · exact absurd (h.up m (by omega)) k.top
  · exact c
  · exact absurd (k.up n (by omega)) h.top
theorem Dg.cf {f g : Nat → Int} {a b : Nat} (h : Dg f a) (k : Dg g b) : Dg (CB.cf f g) (a + b) := by
  refine ⟨?_, fun i hi => cf_endT (al := a + 1) (be := b + 1) (fun s hs => h.up s hs) (fun s hs => k.up s hs) (by omega)⟩
  rw [cf_top (fun i hi => h.up i hi) (fun i hi => k.up i hi)]
  exact Int.mul_ne_zero h.top k.top
/-- a polynomial is zero or has a degree -/
theorem zero_or_dg {f : Nat → Int} : ∀ n, Fz f n → (∀ i, f i = 0) ∨ ∃ m, m < n ∧ Dg f m
  | 0, h => .inl fun i => h i (Nat.zero_le _)
  | n + 1, h => by
    by_cases c : f n = 0
    · have h' : Fz f n := fun i hi => by
        by_cases e : i = n
        · rw [e, c]
        · exact h i (by omega)
      rcases zero_or_dg n h' with z | ⟨m, hm, d⟩
      · exact .inl z
      · exact .inr ⟨m, by omega, d⟩
    · exact .inr ⟨n, by omega, c, h⟩
theorem Fz.cf {f g : Nat → Int} {a b : Nat} (h : Fz f a) (k : Fz g b) : Fz (CB.cf f g) (a + b) := fun i hi => cf_endT (al := a) (be := b) (fun s hs => h s hs) (fun s hs => k s hs) (by omega)
theorem Fz.add {f g : Nat → Int} {a : Nat} (h : Fz f a) (k : Fz g a) : Fz (fun i => f i + g i) a := fun i hi => by show f i + g i = 0; rw [h i hi, k i hi]; rfl
theorem Fz.scale {f : Nat → Int} {a : Nat} (c : Int) (h : Fz f a) : Fz (fun i => c * f i) a := fun i hi => by show c * f i = 0; rw [h i hi, Int.mul_zero]
theorem cf_add_l (f g h : Nat → Int) (k : Nat) : cf (fun i => f i + g i) h k = cf f h k + cf g h k := by
  rw [cf_comm, cf_add, cf_comm h f, cf_comm h g]
theorem cf_scale_l (f g : Nat → Int) (c : Int) (k : Nat) : cf (fun i => c * f i) g k = c * cf f g k := by
  rw [cf_comm, cf_scale, cf_comm g f]
/-- 1 and the powers of x -/
def xp (n : Nat) : Nat → Int := fun i => if i = n then 1 else 0
theorem xp_fz (n : Nat) : Fz (xp n) (n + 1) := fun i hi => if_neg (by omega)
theorem cf_one (f : Nat → Int) (k : Nat) : cf (xp 0) f k = f k := by
  unfold cf
  rw [sumTo_one (k := 0) (k + 1) (by omega) fun i _ ne => by unfold xp; rw [if_neg ne, Int.zero_mul], Nat.sub_zero]
  show (if 0 = 0 then (1 : Int) else 0) * f k = f k
  rw [if_pos rfl, Int.one_mul]
theorem cf_xp (f : Nat → Int) (n k : Nat) : cf (xp n) f k = if n ≤ k then f (k - n) else 0 := by
  unfold cf
  by_cases c : n ≤ k
  · rw [if_pos c, sumTo_one (k := n) (k + 1) (by omega) fun i _ ne => by unfold xp; rw [if_neg ne, Int.zero_mul]]
    unfold xp
    rw [if_pos rfl, Int.one_mul]
  · rw [if_neg c]
    exact sumTo_zero _ fun i hi => by unfold xp; rw [if_neg (by omega), Int.zero_mul]
/-- no zero divisors -/
theorem cf_cancel {f g h : Nat → Int} {a n : Nat} (df : Dg f a) (hg : Fz g n) (hh : Fz h n) (e : ∀ k, cf f g k = cf f h k) (i : Nat) : g i = h i := by
  have hz : Fz (fun i => g i + -1 * h i) n := hg.add (hh.scale (-1))
  have z : ∀ k, cf f (fun i => g i + -1 * h i) k = 0 := fun k => by
    rw [cf_add, cf_scale, e k]
    omega
  rcases zero_or_dg n hz with zz | ⟨m, _, d⟩
  · have : g i + -1 * h i = 0 := zz i
    omega
  · exact absurd (z _) (df.cf d).top
/-! ### divisibility over the fractions -/
def Dv (d p : Nat → Int) : Prop := ∃ (m : Int) (s : Nat → Int) (N : Nat), m ≠ 0 ∧ Fz s N ∧ ∀ i, m * p i = cf s d i
theorem Dv.refl (d : Nat → Int) : Dv d d := ⟨1, xp 0, 1, by decide, xp_fz 0, fun i => by rw [cf_one, Int.one_mul]⟩
theorem Dv.zero {d p : Nat → Int} (h : ∀ i, p i = 0) : Dv d p := ⟨1, fun _ => 0, 0, by decide, fun i _ => rfl, fun i => by rw [h i, cf_zero_l fun _ => rfl, Int.mul_zero]⟩
theorem Dv.trans {a b c : Nat → Int} (h : Dv a b) (k : Dv b c) : Dv a c := by
  obtain ⟨m, s, N, m0, hs, e⟩ := h
  obtain ⟨m', s', N', m0', hs', e'⟩ := k
  refine ⟨m * m', cf s' s, N' + N, Int.mul_ne_zero m0 m0', hs'.cf hs, fun i => ?_⟩
  rw [Int.mul_assoc, e', ← cf_scale, cf_assoc]
  exact cf_congr (fun _ => rfl) e i
/-- of a combination -/
theorem Dv.comb {d a b x y : Nat → Int} {N M : Nat} (h : Dv d a) (k : Dv d b) (hx : Fz x N) (hy : Fz y M) : Dv d (fun i => cf x a i + cf y b i) := by
  obtain ⟨m, s, A, m0, hs, e⟩ := h
  obtain ⟨m', s', A', m0', hs', e'⟩ := k
  refine ⟨m * m', fun i => m' * cf x s i + m * cf y s' i, max (N + A) (M + A'), Int.mul_ne_zero m0 m0', Fz.add (Fz.scale _ ((hx.cf hs).mono (by omega))) (Fz.scale _ ((hy.cf hs').mono (by omega))), fun i => ?_⟩
  rw [cf_add_l (fun i => m' * cf x s i) (fun i => m * cf y s' i), cf_scale_l, cf_scale_l, cf_assoc, cf_assoc]
  rw [show cf x (cf s d) i = m * cf x a i by rw [← cf_scale]; exact cf_congr (fun _ => rfl) (fun j => (e j).symm) i]
  rw [show cf y (cf s' d) i = m' * cf y b i by rw [← cf_scale]; exact cf_congr (fun _ => rfl) (fun j => (e' j).symm) i]
  show m * m' * (cf x a i + cf y b i) = _
  grind
theorem Dv.scale {d a : Nat → Int} {c : Int} (c0 : c ≠ 0) (h : Dv d (fun i => c * a i)) : Dv d a := by
  obtain ⟨m, s, N, m0, hs, e⟩ := h
  exact ⟨m * c, s, N, Int.mul_ne_zero m0 c0, hs, fun i => by rw [← e, Int.mul_assoc]⟩
theorem Dv.congr {d d' a a' : Nat → Int} (h : Dv d a) (e : ∀ i, d' i = d i) (f : ∀ i, a' i = a i) : Dv d' a' := by
  have e1 : d' = d := funext e
  have e2 : a' = a := funext f
  rw [e1, e2]
  exact h
theorem Dv.deg {d a : Nat → Int} {n m : Nat} (h : Dv d a) (dd : Dg d n) (da : Dg a m) : n ≤ m := by
  obtain ⟨c, s, N, c0, hs, e⟩ := h
  have dc : Dg (fun i => c * a i) m := ⟨Int.mul_ne_zero c0 da.top, da.up.scale c⟩
  rcases zero_or_dg N hs with z | ⟨k, _, dk⟩
  · exact absurd ((e m).trans (cf_zero_l z m)) dc.top
  · have x := dk.cf dd
    have y : Dg (CB.cf s d) m := ⟨by rw [← e]; exact dc.top, fun i hi => by rw [← e]; exact dc.up i hi⟩
    have := x.uniq y
    omega
/-! ### the greatest common divisor, with its combination -/
/-- bits of all coefficients -/
def Bt (k : Nat) (f : Nat → Int) : Prop := ∀ i, (f i).natAbs < 2 ^ k
theorem Bt.mono {k j : Nat} {f : Nat → Int} (h : Bt k f) (l : k ≤ j) : Bt j f := fun i => Nat.lt_of_lt_of_le (h i) (Nat.pow_le_pow_right (by decide) l)
def fibb : Nat → Nat
  | 0 => 0
  | 1 => 1
  | n + 2 => fibb (n + 1) + fibb n
/-- what Euclid's way gives: a divisor of both that is a combination of them -/
structure Euc (A B : Nat → Int) (e : Nat → Int) : Prop where
  da : Dv e A
  db : Dv e B
  comb : ∃ (u v : Nat → Int) (N : Nat), Fz u N ∧ Fz v N ∧ ∀ i, e i = cf u A i + cf v B i
theorem Euc.symm {A B e : Nat → Int} (h : Euc A B e) : Euc B A e := by
  obtain ⟨u, v, N, hu, hv, c⟩ := h.comb
  exact ⟨h.db, h.da, v, u, N, hv, hu, fun i => by rw [c i, Int.add_comm]⟩
theorem Euc.max {A B e d : Nat → Int} (h : Euc A B e) (a : Dv d A) (b : Dv d B) : Dv d e := by
  obtain ⟨u, v, N, hu, hv, c⟩ := h.comb
  exact (Dv.comb a b hu hv).congr (fun _ => rfl) c
/-- one step: the greater one made shorter -/
theorem step_dg {A B : Nat → Int} {a b : Nat} (da : Dg A a) (db : Dg B b) (h : b ≤ a) : Fz (fun i => B b * A i + -A a * cf (xp (a - b)) B i) a := fun i hi => by
  show B b * A i + -A a * cf (xp (a - b)) B i = 0
  rw [cf_xp, if_pos (by omega)]
  by_cases c : i = a
  · subst c
    rw [show i - (i - b) = b by omega]
    grind
  · rw [da.up i (by omega), db.up (i - (a - b)) (by omega)]
    simp
theorem Euc.step {A B e : Nat → Int} {a b : Nat} (B0 : B b ≠ 0) (h : Euc (fun i => B b * A i + -A a * cf (xp (a - b)) B i) B e) : Euc A B e := by
  obtain ⟨u, v, N, hu, hv, c⟩ := h.comb
  refine ⟨?_, h.db, fun i => B b * u i, fun i => v i + -A a * cf u (xp (a - b)) i, N + (a - b + 1), (hu.scale _).mono (by omega), Fz.add (hv.mono (by omega)) (Fz.scale _ (hu.cf (xp_fz _))), fun i => ?_⟩
  · refine Dv.scale B0 ?_
    have z := Dv.comb (x := xp 0) (y := fun i => A a * xp (a - b) i) h.da h.db (xp_fz 0) ((xp_fz (a - b)).scale _)
    refine z.congr (fun _ => rfl) fun i => ?_
    rw [cf_one, cf_scale_l]
    grind
  · rw [c i, cf_scale_l, cf_add_l v (fun i => -A a * cf u (xp (a - b)) i) B, cf_scale_l, cf_assoc]
    have z : cf u (fun i => B b * A i + -A a * cf (xp (a - b)) B i) i = B b * cf u A i + -A a * cf u (cf (xp (a - b)) B) i := by
      rw [cf_add u (fun i => B b * A i) (fun i => -A a * cf (xp (a - b)) B i), cf_scale, cf_scale u (cf (xp (a - b)) B)]
    rw [z]
    omega
theorem fibb_pos : ∀ n, 0 < fibb (n + 1)
  | 0 => by decide
  | n + 1 => Nat.add_pos_left (fibb_pos n) _
/-- Euclid's way ends: with the bits of what it gives -/
theorem euclid : ∀ (n : Nat) {A B : Nat → Int} {a b x y : Nat}, Dg A a → Dg B b → a + b ≤ n → Bt x A → Bt y B → ∃ e k, Euc A B e ∧ (∃ m, m ≤ min a b ∧ Dg e m) ∧ Bt k e ∧ k + 1 ≤ fibb (n + 2) * (max x y + 1) + fibb (n + 1) * (min x y + 1) := by
  intro n
  induction n with
  | zero =>
    intro A B a b x y da db h bx by_
    obtain rfl : a = 0 := by omega
    obtain rfl : b = 0 := by omega
    refine ⟨A, x, ⟨Dv.refl A, ?_, xp 0, fun _ => 0, 1, xp_fz 0, fun i _ => rfl, fun i => by rw [cf_one, cf_zero_l fun _ => rfl]; omega⟩, ⟨0, by omega, da⟩, bx, ?_⟩
    · refine ⟨A 0, fun i => B 0 * xp 0 i, 1, da.top, (xp_fz 0).scale _, fun i => ?_⟩
      rw [cf_scale_l, cf_one]
      by_cases c : i = 0
      · rw [c, Int.mul_comm]
      · rw [db.up i (by omega), da.up i (by omega)]; simp
    · show x + 1 ≤ 1 * (max x y + 1) + 1 * (min x y + 1)
      omega
  | succ n ih =>
    have main : ∀ {A B : Nat → Int} {a b x y : Nat}, Dg A a → Dg B b → a + b ≤ n + 1 → b ≤ a → Bt x A → Bt y B → ∃ e k, Euc A B e ∧ (∃ m, m ≤ min a b ∧ Dg e m) ∧ Bt k e ∧ k + 1 ≤ fibb (n + 3) * (max x y + 1) + fibb (n + 2) * (min x y + 1) := by
      intro A B a b x y da db h hba bx by_
      have f1 : fibb (n + 3) = fibb (n + 2) + fibb (n + 1) := rfl
      have p1 := fibb_pos (n + 1)
      have bC : Bt (x + y + 1) (fun i => B b * A i + -A a * cf (xp (a - b)) B i) := fun i => by
        show (B b * A i + -A a * cf (xp (a - b)) B i).natAbs < _
        have z1 : (B b * A i).natAbs < 2 ^ (x + y) := by
          rw [Int.natAbs_mul, Nat.add_comm x y, Nat.pow_add]
          exact Nat.mul_lt_mul'' (by_ b) (bx i)
        have z2 : (-A a * cf (xp (a - b)) B i).natAbs < 2 ^ (x + y) := by
          rw [Int.natAbs_mul, Int.natAbs_neg, cf_xp, Nat.pow_add]
          split
          · exact Nat.mul_lt_mul'' (bx a) (by_ _)
          · rw [Int.natAbs_zero, Nat.mul_zero]
            exact Nat.mul_pos (Nat.two_pow_pos _) (Nat.two_pow_pos _)
        have := Int.natAbs_add_le (B b * A i) (-A a * cf (xp (a - b)) B i)
        rw [Nat.pow_succ]
        omega
      rcases zero_or_dg a (step_dg da db hba) with z | ⟨m, hm, dm⟩
      · refine ⟨B, y, Euc.step (a := a) (b := b) db.top ⟨Dv.zero z, Dv.refl B, fun _ => 0, xp 0, 1, fun i _ => rfl, xp_fz 0, fun i => by rw [cf_one, cf_zero_l fun _ => rfl]; omega⟩, ⟨b, by omega, db⟩, by_, ?_⟩
        have q1 : y + 1 ≤ max x y + 1 := by omega
        have q2 : 1 * (max x y + 1) ≤ fibb (n + 3) * (max x y + 1) := Nat.mul_le_mul_right _ (show 1 ≤ fibb (n + 3) from fibb_pos (n + 2))
        omega
      · obtain ⟨e, k, eu, ⟨m', hm', de⟩, bk, hk⟩ := ih dm db (by omega) bC by_
        refine ⟨e, k, Euc.step (a := a) (b := b) db.top eu, ⟨m', by omega, de⟩, bk, ?_⟩
        have e1 : max (x + y + 1) y + 1 = (max x y + 1) + (min x y + 1) := by omega
        have e2 : min (x + y + 1) y + 1 ≤ max x y + 1 := by omega
        have q1 := Nat.mul_le_mul_left (fibb (n + 1)) e2
        rw [e1, Nat.mul_add] at hk
        rw [f1, Nat.add_mul]
        omega
    intro A B a b x y da db h bx by_
    by_cases c : b ≤ a
    · exact main da db h c bx by_
    · obtain ⟨e, k, eu, ⟨m, hm, de⟩, bk, hk⟩ := main db da (by omega) (by omega) by_ bx
      refine ⟨e, k, eu.symm, ⟨m, by omega, de⟩, bk, ?_⟩
      rw [Nat.max_comm x y, Nat.min_comm x y]
      exact hk
/-! ### Gauss -/
/-- a number from 2 on has a prime divisor -/
structure Pr (p : Nat) : Prop where
  two : 2 ≤ p
  mul : ∀ a b : Int, (p : Int) ∣ a * b → (p : Int) ∣ a ∨ (p : Int) ∣ b
theorem pr_of_min {p : Nat} (h2 : 2 ≤ p) (h : ∀ q, 2 ≤ q → q ∣ p → q = p) : Pr p := ⟨h2, fun a b hab => by
  have g : Nat.gcd p a.natAbs ∣ p := Nat.gcd_dvd_left ..
  have gp : 0 < Nat.gcd p a.natAbs := Nat.gcd_pos_of_pos_left _ (by omega)
  by_cases c : Nat.gcd p a.natAbs = 1
  · right
    have d : p ∣ a.natAbs * b.natAbs := by
      rw [← Int.natAbs_mul]
      exact Int.ofNat_dvd_left.mp hab
    exact Int.ofNat_dvd_left.mpr (Nat.Coprime.dvd_of_dvd_mul_left c d)
  · left
    have e := h _ (by omega) g
    exact Int.ofNat_dvd_left.mpr (e ▸ Nat.gcd_dvd_right p a.natAbs)⟩
theorem pr_ex : ∀ n : Nat, 2 ≤ n → ∃ p, Pr p ∧ p ∣ n := fun n => by
  induction n using Nat.strongRecOn with
  | ind n ih =>
    intro h2
    by_cases c : ∃ q, 2 ≤ q ∧ q ∣ n ∧ q ≠ n
    · obtain ⟨q, q2, qd, qn⟩ := c
      have := Nat.le_of_dvd (by omega) qd
      obtain ⟨p, hp, pd⟩ := ih q (by omega) q2
      exact ⟨p, hp, Nat.dvd_trans pd qd⟩
    · exact ⟨n, pr_of_min h2 fun q q2 qd => Decidable.byContradiction fun qn => c ⟨q, q2, qd, qn⟩, Nat.dvd_refl _⟩
/-- the least place that p doesn't divide -/
theorem least_not {p : Int} {f : Nat → Int} (h : ∃ i, ¬ p ∣ f i) : ∃ i, ¬ p ∣ f i ∧ ∀ j, j < i → p ∣ f j := by
  obtain ⟨n, hn⟩ := h
  induction n using Nat.strongRecOn with
  | ind n ih =>
    by_cases c : ∃ j, j < n ∧ ¬ p ∣ f j
    · obtain ⟨j, hj, nj⟩ := c
      exact ih j hj nj
    · exact ⟨n, hn, fun j hj => Decidable.byContradiction fun z => c ⟨j, hj, z⟩⟩
theorem sumTo_dvd {p : Int} {F : Nat → Int} : ∀ n, (∀ i, i < n → p ∣ F i) → p ∣ sumTo F n
  | 0, _ => Int.dvd_zero _
  | n + 1, h => Int.dvd_add (sumTo_dvd n fun i hi => h i (by omega)) (h n (by omega))
theorem gauss_p {p : Nat} (hp : Pr p) {f g : Nat → Int} (h : ∀ k, (p : Int) ∣ cf f g k) (ng : ∃ i, ¬ (p : Int) ∣ g i) : ∀ i, (p : Int) ∣ f i := by
  refine fun i => Decidable.byContradiction fun c => ?_
  obtain ⟨a, na, la⟩ := least_not ⟨i, c⟩
  obtain ⟨b, nb, lb⟩ := least_not ng
  have z := h (a + b)
  unfold cf at z
  rw [show a + b + 1 = a + (1 + b) by omega, sumTo_app, sumTo_app] at z
  have z1 : (p : Int) ∣ sumTo (fun i => f i * g (a + b - i)) a := sumTo_dvd a fun i hi => Int.dvd_trans (la i hi) (Int.dvd_mul_right _ _)
  have z2 : (p : Int) ∣ sumTo (fun i => f (a + (1 + i)) * g (a + b - (a + (1 + i)))) b := sumTo_dvd b fun i hi => Int.dvd_trans (lb _ (by omega)) (Int.dvd_mul_left _ _)
  have z3 : (p : Int) ∣ sumTo (fun i => f (a + i) * g (a + b - (a + i))) 1 := by
    have y := Int.dvd_sub (Int.dvd_sub z z1) z2
    have e : sumTo (fun i => f i * g (a + b - i)) a + (sumTo (fun i => f (a + i) * g (a + b - (a + i))) 1 + sumTo (fun i => f (a + (1 + i)) * g (a + b - (a + (1 + i)))) b) - sumTo (fun i => f i * g (a + b - i)) a - sumTo (fun i => f (a + (1 + i)) * g (a + b - (a + (1 + i)))) b = sumTo (fun i => f (a + i) * g (a + b - (a + i))) 1 := by omega
    rwa [e] at y
  have z4 : (p : Int) ∣ f a * g b := by
    have e : sumTo (fun i => f (a + i) * g (a + b - (a + i))) 1 = f a * g b := by
      show 0 + f (a + 0) * g (a + b - (a + 0)) = _
      rw [Nat.add_zero, show a + b - a = b by omega, Int.zero_add]
    rwa [e] at z3
  rcases hp.mul _ _ z4 with y | y
  · exact na y
  · exact nb y
/-- no prime divides all coefficients -/
def Prim (f : Nat → Int) : Prop := ∀ p : Nat, Pr p → ∃ i, ¬ (p : Int) ∣ f i
theorem gauss : ∀ (n : Nat) {m : Int} {A s g : Nat → Int} {N : Nat}, m.natAbs = n → m ≠ 0 → Prim g → Fz s N → (∀ i, m * A i = cf s g i) → ∃ s', Fz s' N ∧ (∀ i, s i = m * s' i) ∧ ∀ i, A i = cf s' g i := fun n => by
  induction n using Nat.strongRecOn with
  | ind n ih =>
    intro m A s g N hn m0 pg hs e
    by_cases c : n = 1
    · rcases (show m = 1 ∨ m = -1 by omega) with rfl | rfl
      · exact ⟨s, hs, fun i => (Int.one_mul _).symm, fun i => by rw [← e, Int.one_mul]⟩
      · refine ⟨fun i => -1 * s i, hs.scale _, fun i => by show s i = -1 * (-1 * s i); omega, fun i => ?_⟩
        rw [cf_scale_l, ← e]
        omega
    · obtain ⟨p, hp, pd⟩ := pr_ex n (by omega)
      have pm : (p : Int) ∣ m := Int.ofNat_dvd_left.mpr (hn ▸ pd)
      obtain ⟨m', rfl⟩ := pm
      have p2 := hp.two
      have ps : ∀ i, (p : Int) ∣ s i := gauss_p hp (fun k => by rw [← e]; exact ⟨m' * A k, by rw [Int.mul_assoc]⟩) (pg p hp)
      obtain ⟨t, ht⟩ : ∃ t : Nat → Int, ∀ i, s i = (p : Int) * t i := Classical.axiomOfChoice fun i => ps i
      have p0 : (p : Int) ≠ 0 := by omega
      have hts : Fz t N := fun i hi => by
        have := hs i hi
        rw [ht i] at this
        rcases Int.mul_eq_zero.mp this with z | z
        · exact absurd z p0
        · exact z
      have m0' : m' ≠ 0 := fun z => m0 (by rw [z, Int.mul_zero])
      have e' : ∀ i, m' * A i = cf t g i := fun i => by
        apply Int.eq_of_mul_eq_mul_left p0
        rw [← Int.mul_assoc, e i, ← cf_scale_l]
        exact cf_congr ht (fun _ => rfl) i
      have lt : m'.natAbs < n := by
        rw [← hn, Int.natAbs_mul, Int.natAbs_natCast]
        have : 0 < m'.natAbs := by omega
        calc m'.natAbs = 1 * m'.natAbs := (Nat.one_mul _).symm
          _ < p * m'.natAbs := Nat.mul_lt_mul_of_pos_right (by omega) this
      obtain ⟨s', h1, h2, h3⟩ := ih m'.natAbs lt rfl m0' pg hts e'
      exact ⟨s', h1, fun i => by rw [ht, h2, Int.mul_assoc], h3⟩
/-- a primitive divisor divides over the whole numbers -/
theorem Dv.whole {g A : Nat → Int} (h : Dv g A) (pg : Prim g) : ∃ (s : Nat → Int) (N : Nat), Fz s N ∧ ∀ i, A i = cf s g i := by
  obtain ⟨m, s, N, m0, hs, e⟩ := h
  obtain ⟨s', h1, _, h3⟩ := gauss _ rfl m0 pg hs e
  exact ⟨s', N, h1, h3⟩
/-- the primitive part -/
theorem prim_part {f : Nat → Int} {n : Nat} (d : Dg f n) : ∃ (c : Int) (g : Nat → Int), c ≠ 0 ∧ Prim g ∧ Dg g n ∧ ∀ i, f i = c * g i := by
  have key : ∀ (k : Nat) (f : Nat → Int), (f n).natAbs = k → Dg f n → ∃ (c : Int) (g : Nat → Int), c ≠ 0 ∧ Prim g ∧ Dg g n ∧ ∀ i, f i = c * g i := fun k => by
    induction k using Nat.strongRecOn with
    | ind k ih =>
      intro f hk d
      by_cases c : Prim f
      · exact ⟨1, f, by decide, c, d, fun i => (Int.one_mul _).symm⟩
      · obtain ⟨p, hc⟩ := Classical.not_forall.mp c
        obtain ⟨hp, hc⟩ := Classical.not_imp.mp hc
        have pd : ∀ i, (p : Int) ∣ f i := fun i => Decidable.byContradiction fun z => hc ⟨i, z⟩
        obtain ⟨t, ht⟩ : ∃ t : Nat → Int, ∀ i, f i = (p : Int) * t i := Classical.axiomOfChoice fun i => pd i
        have p2 := hp.two
        have p0 : (p : Int) ≠ 0 := by omega
        have dt : Dg t n := ⟨fun z => d.top (by rw [ht, z, Int.mul_zero]), fun i hi => by
          have := d.up i hi
          rw [ht i] at this
          rcases Int.mul_eq_zero.mp this with z | z
          · exact absurd z p0
          · exact z⟩
        have lt : (t n).natAbs < k := by
          rw [← hk, ht n, Int.natAbs_mul, Int.natAbs_natCast]
          have h0 := dt.top
          have : 0 < (t n).natAbs := by omega
          calc (t n).natAbs = 1 * (t n).natAbs := (Nat.one_mul _).symm
            _ < p * (t n).natAbs := Nat.mul_lt_mul_of_pos_right (by omega) this
        obtain ⟨c', g, c0, pg, dg, e⟩ := ih _ lt t rfl dt
        exact ⟨p * c', g, Int.mul_ne_zero p0 c0, pg, dg, fun i => by rw [ht, e, Int.mul_assoc]⟩
  exact key _ f rfl d
end CB

namespace CB
open PySem PySem.Spec PyProof.Rows L2
/-! ### values, and how great a divisor's value is -/
theorem e1_first (f : Nat → Int) (x : Int) (N : Nat) : e1 f x (N + 1) = f 0 + x * e1 (fun i => f (i + 1)) x N := by
  unfold e1
  rw [sumTo_first, Int.pow_zero, Int.mul_one, ← sumTo_mul]
  congr 1
  exact sumTo_congr N fun i _ => by rw [Int.pow_succ]; grind
def cB : Nat → Nat
  | 0 => 1
  | s + 1 => 2 * cB s + 1
/-- sums of powers -/
def sg (x : Nat) : Nat → Nat
  | 0 => 0
  | n + 1 => sg x n + x ^ n
theorem sg_eq {x : Nat} (h : 1 ≤ x) : ∀ n, (x - 1) * sg x n + 1 = x ^ n
  | 0 => by simp [sg]
  | n + 1 => by
    have ih := sg_eq h n
    obtain ⟨y, rfl⟩ : ∃ y, x = y + 1 := ⟨x - 1, by omega⟩
    rw [Nat.add_sub_cancel] at ih ⊢
    show y * (sg (y + 1) n + (y + 1) ^ n) + 1 = (y + 1) ^ n * (y + 1)
    generalize (y + 1) ^ n = P at ih ⊢
    rw [Nat.mul_add, Nat.mul_succ]
    have : P * y = y * P := Nat.mul_comm _ _
    omega
theorem e1_le {f : Nat → Int} {H x : Nat} {h : Int} (hf : ∀ i, (f i).natAbs ≤ H) (hx : h.natAbs ≤ x) : ∀ N, (e1 f h N).natAbs ≤ H * sg x N
  | 0 => by simp [e1, sumTo]
  | N + 1 => by
    have ih := e1_le hf hx N
    show (e1 f h N + f N * h ^ N).natAbs ≤ H * (sg x N + x ^ N)
    have z := Int.natAbs_add_le (e1 f h N) (f N * h ^ N)
    have y : (f N * h ^ N).natAbs ≤ H * x ^ N := by
      rw [Int.natAbs_mul, Int.natAbs_pow]
      exact Nat.mul_le_mul (hf N) (Nat.pow_le_pow_left hx N)
    rw [Nat.mul_add]
    omega
/-- a value at a great number -/
theorem e1_big {A : Nat → Int} {n H X : Nat} (d : Dg A n) (hH : ∀ i, (A i).natAbs ≤ H) (hX : 2 ^ 24 * H + 29 ≤ X) : (2 ^ 24 - 1) * X ^ n < 2 ^ 24 * (e1 A (X : Int) (n + 1)).natAbs := by
  have l := e1_le (f := A) (h := (X : Int)) (x := X) hH (by omega) n
  have g := sg_eq (x := X) (by omega) n
  have t0 := d.top
  have top : X ^ n ≤ (A n * (X : Int) ^ n).natAbs := by
    rw [Int.natAbs_mul, Int.natAbs_pow, Int.natAbs_natCast]
    calc X ^ n = 1 * X ^ n := (Nat.one_mul _).symm
      _ ≤ _ := Nat.mul_le_mul_right _ (by omega)
  have e : e1 A (X : Int) (n + 1) = e1 A (X : Int) n + A n * (X : Int) ^ n := rfl
  have z := Int.natAbs_sub_le (e1 A (X : Int) (n + 1)) (e1 A (X : Int) n)
  rw [show e1 A (X : Int) (n + 1) - e1 A (X : Int) n = A n * (X : Int) ^ n by rw [e]; omega] at z
  have m1 : 2 ^ 24 * (H * sg X n) ≤ (X - 1) * sg X n := by
    rw [← Nat.mul_assoc]
    exact Nat.mul_le_mul_right _ (by omega)
  have m2 : 2 ^ 24 * (e1 A (X : Int) n).natAbs ≤ 2 ^ 24 * (H * sg X n) := Nat.mul_le_mul_left _ l
  generalize (e1 A (X : Int) n).natAbs = a at *
  generalize (e1 A (X : Int) (n + 1)).natAbs = b at *
  generalize (A n * (X : Int) ^ n).natAbs = c at *
  generalize X ^ n = p at *
  generalize (X - 1) * sg X n = q at *
  generalize 2 ^ 24 * (H * sg X n) = r at *
  omega
def pts : List Int := [-6, -5, -4, -3, -2, -1, 0, 1, 2, 3, 4, 5, 6]
theorem pts_pw : pts.Pairwise (· ≠ ·) := by decide
theorem pts_le : ∀ h ∈ pts, h.natAbs ≤ 6 := by decide
end CB

namespace CB
open PySem PySem.Spec PyProof.Rows L2
/-! ### the greatest common divisor by values -/
theorem e1_scale' (c : Int) (f : Nat → Int) (x : Int) (N : Nat) : e1 (fun i => c * f i) x N = c * e1 f x N := e1_scale c f x N
/-- one of the two is small, and of few coefficients -/
def SmO (A B : Nat → Int) (a b H : Nat) : Prop := (a ≤ 7 ∧ ∀ i, (A i).natAbs ≤ H) ∨ (b ≤ 7 ∧ ∀ i, (B i).natAbs ≤ H)
end CB

namespace CB
open PySem PySem.Spec PyProof.Rows L2
/-! ### a great prime -/
/-- x ^ k modulo n, by halves (f: enough turns) -/
def pwm (n : Nat) : Nat → Nat → Nat → Nat → Nat
  | 0, _, _, acc => acc
  | f + 1, x, k, acc => if k = 0 then acc else pwm n f (x * x % n) (k / 2) (if k % 2 = 1 then acc * x % n else acc)
theorem pwm_eq (n : Nat) : ∀ (f x k acc : Nat), k < 2 ^ f → pwm n f x k acc % n = acc * x ^ k % n
  | 0, x, k, acc, h => by
    obtain rfl : k = 0 := by
      have : k < 1 := h
      omega
    rw [Nat.pow_zero, Nat.mul_one]
    rfl
  | f + 1, x, k, acc, h => by
    unfold pwm
    by_cases c : k = 0
    · rw [if_pos c, c, Nat.pow_zero, Nat.mul_one]
    · rw [if_neg c, pwm_eq n f _ _ _ (by rw [Nat.pow_succ] at h; omega)]
      have e : x ^ k = (x * x) ^ (k / 2) * x ^ (k % 2) := by
        have : k = 2 * (k / 2) + k % 2 := by omega
        calc x ^ k = x ^ (2 * (k / 2) + k % 2) := by rw [← this]
          _ = _ := by rw [Nat.pow_add, Nat.pow_mul, Nat.pow_two]
      rw [e]
      rcases (show k % 2 = 0 ∨ k % 2 = 1 by omega) with z | z
      · rw [if_neg (by omega), z, Nat.pow_zero, Nat.mul_one, Nat.mul_mod, ← Nat.pow_mod, ← Nat.mul_mod]
      · rw [if_pos z, z, Nat.pow_one, Nat.mul_mod, Nat.mod_mod, ← Nat.pow_mod, ← Nat.mul_mod]
        congr 1
        rw [Nat.mul_assoc, Nat.mul_comm x]
/-- Pascal's numbers -/
def pas : Nat → Nat → Nat
  | _, 0 => 1
  | 0, _ + 1 => 0
  | n + 1, k + 1 => pas n k + pas n (k + 1)
theorem pas_big : ∀ {n k : Nat}, n < k → pas n k = 0
  | 0, k + 1, _ => rfl
  | n + 1, k + 1, h => by
    show pas n k + pas n (k + 1) = 0
    rw [pas_big (by omega), pas_big (by omega)]
theorem pas_up : ∀ n k : Nat, (k + 1) * pas (n + 1) (k + 1) = (n + 1) * pas n k
  | 0, 0 => rfl
  | 0, k + 1 => by
    show (k + 1 + 1) * (pas 0 (k + 1) + pas 0 (k + 1 + 1)) = _
    rw [pas_big (by omega), pas_big (by omega)]
    simp
  | n + 1, 0 => by
    have ih := pas_up n 0
    have e : pas (n + 1) 1 = 1 + pas n 1 := by
      show pas n 0 + pas n 1 = _
      cases n <;> rfl
    have e2 : pas (n + 1 + 1) 1 = 1 + pas (n + 1) 1 := by
      show pas (n + 1) 0 + pas (n + 1) 1 = _
      rfl
    have e3 : pas (n + 1) 0 = 1 := rfl
    have e4 : pas n 0 = 1 := by cases n <;> rfl
    rw [e4] at ih
    have ih' : 1 * pas (n + 1) 1 = (n + 1) * 1 := ih
    show 1 * pas (n + 1 + 1) 1 = (n + 1 + 1) * 1
    rw [e2]
    omega
  | n + 1, k + 1 => by
    have i1 := pas_up n k
    have i2 := pas_up n (k + 1)
    have e1 : pas (n + 1 + 1) (k + 1 + 1) = pas (n + 1) (k + 1) + pas (n + 1) (k + 1 + 1) := rfl
    have e2 : pas (n + 1) (k + 1) = pas n k + pas n (k + 1) := rfl
    rw [e1, Nat.mul_add, i2, Nat.add_mul (k + 1) 1, i1, e2]
    generalize pas n k = A
    generalize pas n (k + 1) = B
    grind
def smN (f : Nat → Nat) : Nat → Nat
  | 0 => 0
  | n + 1 => smN f n + f n
theorem smN_congr {f g : Nat → Nat} : ∀ n, (∀ i, i < n → f i = g i) → smN f n = smN g n
  | 0, _ => rfl
  | n + 1, h => by show smN f n + f n = smN g n + g n; rw [smN_congr n fun i hi => h i (by omega), h n (by omega)]
theorem smN_first (f : Nat → Nat) : ∀ n, smN f (n + 1) = f 0 + smN (fun i => f (i + 1)) n
  | 0 => by show 0 + f 0 = f 0 + 0; omega
  | n + 1 => by
    show smN f (n + 1) + f (n + 1) = f 0 + (smN (fun i => f (i + 1)) n + f (n + 1))
    rw [smN_first f n]
    omega
theorem smN_add (f g : Nat → Nat) : ∀ n, smN (fun i => f i + g i) n = smN f n + smN g n
  | 0 => rfl
  | n + 1 => by show smN _ n + (f n + g n) = smN f n + f n + (smN g n + g n); rw [smN_add f g n]; omega
theorem smN_mul (c : Nat) (f : Nat → Nat) : ∀ n, smN (fun i => f i * c) n = smN f n * c
  | 0 => (Nat.zero_mul _).symm
  | n + 1 => by show smN _ n + f n * c = (smN f n + f n) * c; rw [smN_mul c f n, Nat.add_mul]
theorem binom (a : Nat) : ∀ n, (a + 1) ^ n = smN (fun k => pas n k * a ^ k) (n + 1)
  | 0 => rfl
  | n + 1 => by
    rw [Nat.pow_succ, binom a n, smN_first (fun k => pas (n + 1) k * a ^ k) (n + 1)]
    have e : smN (fun i => pas (n + 1) (i + 1) * a ^ (i + 1)) (n + 1) = smN (fun k => pas n k * a ^ k * a) (n + 1) + smN (fun k => pas n (k + 1) * a ^ (k + 1)) (n + 1) := by
      rw [← smN_add]
      exact smN_congr _ fun i _ => by
        show (pas n i + pas n (i + 1)) * a ^ (i + 1) = _
        rw [Nat.add_mul, Nat.pow_succ, Nat.mul_assoc]
    have e2 : smN (fun k => pas n (k + 1) * a ^ (k + 1)) (n + 1) + 1 = smN (fun k => pas n k * a ^ k) (n + 1) := by
      have z := smN_first (fun k => pas n k * a ^ k) (n + 1)
      have t : smN (fun k => pas n k * a ^ k) (n + 1 + 1) = smN (fun k => pas n k * a ^ k) (n + 1) := by
        show smN _ (n + 1) + pas n (n + 1) * a ^ (n + 1) = _
        rw [pas_big (by omega)]
        omega
      have o : pas n 0 * a ^ 0 = 1 := by cases n <;> rfl
      omega
    rw [e, smN_mul]
    have o : pas (n + 1) 0 * a ^ 0 = 1 := rfl
    rw [o, Nat.mul_add, Nat.mul_one]
    omega
theorem pas_self : ∀ n, pas n n = 1
  | 0 => rfl
  | n + 1 => by show pas n n + pas n (n + 1) = 1; rw [pas_self n, pas_big (by omega)]
/-- p divides the inner ones -/
theorem pas_pr {p : Nat} (hp : Pr p) {k : Nat} (h1 : 1 ≤ k) (h2 : k < p) : p ∣ pas p k := by
  obtain ⟨q, rfl⟩ : ∃ q, p = q + 1 := ⟨p - 1, by omega⟩
  obtain ⟨j, rfl⟩ : ∃ j, k = j + 1 := ⟨k - 1, by omega⟩
  have e := pas_up q j
  have d : ((q + 1 : Nat) : Int) ∣ ((j + 1 : Nat) : Int) * (pas (q + 1) (j + 1) : Int) := by
    rw [← Int.natCast_mul, e]
    exact Int.natCast_dvd_natCast.mpr ⟨_, rfl⟩
  rcases hp.mul _ _ d with z | z
  · have := Nat.le_of_dvd (by omega) (Int.natCast_dvd_natCast.mp z)
    omega
  · exact Int.natCast_dvd_natCast.mp z
theorem smN_dvd {p : Nat} {f : Nat → Nat} : ∀ n, (∀ i, i < n → p ∣ f i) → p ∣ smN f n
  | 0, _ => Nat.dvd_zero _
  | n + 1, h => Nat.dvd_add (smN_dvd n fun i hi => h i (by omega)) (h n (by omega))
/-- Fermat's little theorem -/
theorem fermat {p : Nat} (hp : Pr p) : ∀ a : Nat, a ^ p % p = a % p
  | 0 => by
    have := hp.two
    rw [Nat.zero_pow (by omega)]
  | a + 1 => by
    have ih := fermat hp a
    have p2 := hp.two
    obtain ⟨q, hq⟩ : ∃ q, p = q + 1 := ⟨p - 1, by omega⟩
    have e : (a + 1) ^ p = 1 + smN (fun i => pas p (i + 1) * a ^ (i + 1)) q + a ^ p := by
      rw [binom a p, smN_first]
      have o : pas p 0 * a ^ 0 = 1 := by cases p <;> rfl
      rw [o, hq]
      show 1 + (smN _ q + pas (q + 1) (q + 1) * a ^ (q + 1)) = _
      rw [pas_self, Nat.one_mul]
      omega
    have d : p ∣ smN (fun i => pas p (i + 1) * a ^ (i + 1)) q := smN_dvd q fun i hi => Nat.dvd_mul_right_of_dvd (pas_pr hp (by omega) (by omega)) _
    obtain ⟨t, ht⟩ := d
    rw [e, ht, show 1 + p * t + a ^ p = 1 + a ^ p + p * t by omega, Nat.add_mul_mod_self_left, Nat.add_mod, ih, ← Nat.add_mod, Nat.add_comm]
theorem fermat1 {p a : Nat} (hp : Pr p) (h : ¬ p ∣ a) : a ^ (p - 1) % p = 1 := by
  have f := fermat hp a
  have p2 := hp.two
  obtain ⟨q, hq⟩ : ∃ q, p = q + 1 := ⟨p - 1, by omega⟩
  have d : (p : Int) ∣ (a : Int) * ((a ^ (p - 1) : Nat) - 1 : Int) := by
    have e : (a : Int) * ((a ^ (p - 1) : Nat) - 1 : Int) = ((a ^ p : Nat) : Int) - (a : Int) := by
      rw [show a ^ p = a * a ^ (p - 1) by rw [hq, Nat.add_sub_cancel, Nat.pow_succ, Nat.mul_comm], Int.mul_sub, Int.mul_one, Int.natCast_mul]
    rw [e]
    exact Int.dvd_of_emod_eq_zero (by
      rw [Int.sub_emod, ← Int.natCast_emod, ← Int.natCast_emod, f, Int.sub_self]
      rfl)
  rcases hp.mul _ _ d with z | z
  · exact absurd (Int.natCast_dvd_natCast.mp z) h
  · have := Int.emod_emod_of_dvd ((a ^ (p - 1) : Nat) : Int) (Int.dvd_refl (p : Int))
    obtain ⟨t, ht⟩ := z
    have e : ((a ^ (p - 1) : Nat) : Int) = 1 + (p : Int) * t := by omega
    have : (((a ^ (p - 1) : Nat) : Int)) % (p : Int) = 1 := by
      rw [e, Int.add_mul_emod_self_left]
      exact Int.emod_eq_of_lt (by decide) (by omega)
    rw [← Int.natCast_emod] at this
    exact Int.ofNat.inj (show Int.ofNat _ = Int.ofNat 1 from this)
/-- powers that are 1: of the greatest common divisor too -/
theorem pow_gcd {r g : Nat} (r2 : 2 ≤ r) : ∀ (n a b : Nat), a + b ≤ n → g ^ a % r = 1 → g ^ b % r = 1 → g ^ Nat.gcd a b % r = 1 := fun n => by
  induction n with
  | zero =>
    intro a b h ha hb
    obtain rfl : a = 0 := by omega
    obtain rfl : b = 0 := by omega
    exact ha
  | succ n ih =>
    intro a b h ha hb
    have sub : ∀ a b : Nat, b ≤ a → g ^ a % r = 1 → g ^ b % r = 1 → g ^ (a - b) % r = 1 := fun a b hab ha hb => by
      have e : g ^ a = g ^ (a - b) * g ^ b := by rw [← Nat.pow_add]; congr 1; omega
      rw [e, Nat.mul_mod, hb, Nat.mul_one, Nat.mod_mod] at ha
      exact ha
    by_cases a0 : a = 0
    · rw [a0, Nat.gcd_zero_left]; exact hb
    by_cases b0 : b = 0
    · rw [b0, Nat.gcd_zero_right]; exact ha
    by_cases c : b ≤ a
    · have z := ih (a - b) b (by omega) (sub a b c ha hb) hb
      rwa [Nat.gcd_sub_self_left c] at z
    · have z := ih a (b - a) (by omega) ha (sub b a (by omega) hb ha)
      rwa [Nat.gcd_sub_self_right (by omega)] at z
/-- Pocklington, for one prime factor q of n - 1 -/
theorem pock {n q k g r : Nat} (hq : Pr q) (hr : Pr r) (rn : r ∣ n) (nk : n - 1 = q * k) (qk : ¬ q ∣ k) (h1 : g ^ (n - 1) % n = 1) (h2 : Nat.gcd (g ^ k % n + (n - 1)) n = 1) (n2 : 2 ≤ n) : q ∣ r - 1 := by
  refine Decidable.byContradiction fun c => ?_
  have r2 := hr.two
  have rle := Nat.le_of_dvd (by omega) rn
  have g1 : g ^ (n - 1) % r = 1 := by
    have : g ^ (n - 1) % n % r = 1 % r := by rw [h1]
    rw [Nat.mod_mod_of_dvd _ rn] at this
    rw [this, Nat.mod_eq_of_lt (by omega)]
  have rg : ¬ r ∣ g := fun d => by
    have : g ^ (n - 1) % r = 0 := by
      obtain ⟨m, hm⟩ : ∃ m, n - 1 = m + 1 := ⟨n - 2, by omega⟩
      rw [hm, Nat.pow_succ]
      exact Nat.mod_eq_zero_of_dvd (Nat.dvd_trans d (Nat.dvd_mul_left _ _))
    omega
  have g2 := fermat1 hr rg
  have g3 := pow_gcd r2 _ (n - 1) (r - 1) (Nat.le_refl _) g1 g2
  -- the greatest common divisor divides k
  have tk : Nat.gcd (n - 1) (r - 1) ∣ k := by
    have t1 : Nat.gcd (n - 1) (r - 1) ∣ q * k := nk ▸ Nat.gcd_dvd_left _ _
    have co : Nat.gcd (Nat.gcd (n - 1) (r - 1)) q = 1 := by
      obtain ⟨s, hs⟩ : ∃ s, s = Nat.gcd (Nat.gcd (n - 1) (r - 1)) q := ⟨_, rfl⟩
      have s1 : s ∣ q := hs ▸ Nat.gcd_dvd_right _ _
      have s2 : s ∣ r - 1 := Nat.dvd_trans (hs ▸ Nat.gcd_dvd_left _ _) (Nat.gcd_dvd_right _ _)
      obtain ⟨u, hu⟩ := s1
      have d : (q : Int) ∣ (s : Int) * (u : Int) := by rw [← Int.natCast_mul, ← hu]; exact Int.dvd_refl _
      rw [← hs]
      rcases hq.mul _ _ d with z | z
      · exact absurd (Nat.dvd_trans (Int.natCast_dvd_natCast.mp z) s2) c
      · obtain ⟨v, hv⟩ := Int.natCast_dvd_natCast.mp z
        have q2 := hq.two
        rw [hv] at hu
        have e : q * 1 = q * (s * v) := by
          calc q * 1 = q := Nat.mul_one _
            _ = s * (q * v) := hu
            _ = _ := by grind
        have := Nat.eq_of_mul_eq_mul_left (by omega) e
        exact Nat.eq_one_of_mul_eq_one_right this.symm
    exact Nat.Coprime.dvd_of_dvd_mul_left co t1
  obtain ⟨u, hu⟩ := tk
  have g4 : g ^ k % r = 1 := by
    rw [hu, Nat.pow_mul, Nat.pow_mod, g3, Nat.one_pow, Nat.mod_eq_of_lt (by omega)]
  have d1 : r ∣ g ^ k % n + (n - 1) := by
    apply Nat.dvd_of_mod_eq_zero
    have e1 : g ^ k % n % r = 1 := by rw [Nat.mod_mod_of_dvd _ rn, g4]
    obtain ⟨w, hw⟩ := rn
    have e2 : (n - 1) % r = r - 1 := by
      obtain ⟨w', rfl⟩ : ∃ w', w = w' + 1 := ⟨w - 1, by
        have : w ≠ 0 := fun z => by rw [z] at hw; omega
        omega⟩
      have e3 : n - 1 = r - 1 + r * w' := by rw [hw, Nat.mul_succ]; omega
      rw [e3, Nat.add_mul_mod_self_left, Nat.mod_eq_of_lt (by omega)]
    rw [Nat.add_mod, e1, e2, show 1 + (r - 1) = r by omega, Nat.mod_self]
  have d2 : r ∣ 1 := h2 ▸ Nat.dvd_gcd d1 rn
  have := Nat.le_of_dvd (by decide) d2
  omega
/-- the data for one prime factor -/
structure PkD (n f g q k : Nat) : Prop where
  pr : Pr q
  nk : n - 1 = q * k
  qk : ¬ q ∣ k
  k62 : k < 2 ^ f
  co : Nat.gcd (pwm n f g k 1 % n + (n - 1)) n = 1
theorem PkD.dvd {n f g q k r : Nat} (d : PkD n f g q k) (n2 : 2 ≤ n) (nf : n < 2 ^ f) (w1 : pwm n f g (n - 1) 1 % n = 1) (hr : Pr r) (rn : r ∣ n) : q ∣ r - 1 := by
  have pw : ∀ k, k < 2 ^ f → g ^ k % n = pwm n f g k 1 % n := fun k hk => by rw [pwm_eq n f g k 1 hk, Nat.one_mul]
  refine pock (g := g) d.pr hr rn d.nk d.qk ?_ ?_ n2
  · rw [pw (n - 1) (by omega)]; exact w1
  · rw [pw k d.k62]; exact d.co
def M61 : Nat := 2305843009213693951
end CB

namespace CB
open PySem PySem.Spec PyProof.Rows L2
/-! ### modulo a prime -/
/-- G divides f modulo p -/
def MDv (p : Nat) (G f : Nat → Int) : Prop := ∃ (s : Nat → Int) (N : Nat), Fz s N ∧ ∀ k, (p : Int) ∣ f k - cf s G k
theorem MDv.rest {p : Nat} {G f g r s : Nat → Int} {N : Nat} (h : MDv p G f) (k : MDv p G g) (hs : Fz s N) (e : ∀ i, (p : Int) ∣ f i - cf s g i - r i) : MDv p G r := by
  obtain ⟨u, A, hu, du⟩ := h
  obtain ⟨v, B, hv, dv⟩ := k
  refine ⟨fun i => u i + -1 * cf s v i, A + (N + B), Fz.add (hu.mono (by omega)) (Fz.scale _ ((hs.cf hv).mono (by omega))), fun i => ?_⟩
  rw [cf_add_l u (fun i => -1 * cf s v i), cf_scale_l, cf_assoc]
  have z1 : (p : Int) ∣ cf s g i - cf s (cf v G) i := by
    have e1 : cf s g i - cf s (cf v G) i = cf s (fun k => g k + -1 * cf v G k) i := by
      rw [cf_add s g (fun k => -1 * cf v G k), cf_scale]
      omega
    rw [e1]
    exact sumTo_dvd _ fun j _ => Int.dvd_trans (by
      have := dv (i - j)
      have e2 : g (i - j) + -1 * cf v G (i - j) = g (i - j) - cf v G (i - j) := by omega
      show (p : Int) ∣ g (i - j) + -1 * cf v G (i - j)
      rw [e2]
      exact this) (Int.dvd_mul_left _ _)
  have z := Int.dvd_sub (Int.dvd_sub (du i) (e i)) z1
  have e3 : f i - cf u G i - (f i - cf s g i - r i) - (cf s g i - cf s (cf v G) i) = r i - (cf u G i + -1 * cf s (cf v G) i) := by omega
  rwa [e3] at z
theorem Dv.mod {e A : Nat → Int} {p : Nat} (h : Dv e A) (pe : Prim e) : MDv p e A := by
  obtain ⟨s, N, hs, e1⟩ := h.whole pe
  exact ⟨s, N, hs, fun k => by rw [e1, Int.sub_self]; exact Int.dvd_zero _⟩
/-- a number divides everything, and 1 -/
theorem Dv.const {d : Nat → Int} (dd : Dg d 0) : Dv d (xp 0) :=
  ⟨d 0, xp 0, 1, dd.top, xp_fz 0, fun i => by
    rw [cf_one]
    unfold xp
    by_cases c : i = 0
    · rw [if_pos c, c, Int.mul_one]
    · rw [if_neg c, dd.up i (by omega), Int.mul_zero]⟩
theorem Dv.one (A : Nat → Int) {N : Nat} (h : Fz A N) : Dv (xp 0) A := ⟨1, A, N, by decide, h, fun i => by rw [cf_comm, cf_one, Int.one_mul]⟩
/-! ### a division's steps modulo p -/
structure RsP (p : Nat) (zs : List Int) : Prop where
  rng : ∀ z ∈ zs, 0 ≤ z ∧ z < p
  last : zs = [] ∨ zs.getD (zs.length - 1) 0 ≠ 0
structure DmAt (p : Nat) (xs rs ys : List Int) (n : Nat) : Prop where
  rl : rs.length = xs.length
  rng : ∀ z ∈ rs, 0 ≤ z ∧ z < p
  eq : ∃ (s : Nat → Int) (N : Nat), Fz s N ∧ ∀ k, (p : Int) ∣ ff xs k - cf s (ff ys) k - ff rs k
  hi : ∀ k, n + ys.length ≤ k + 1 → ff rs k = 0
theorem DmAt.start {p : Nat} {xs ys : List Int} {n : Nat} (r : ∀ z ∈ xs, 0 ≤ z ∧ z < p) (h : xs.length ≤ n + ys.length - 1) : DmAt p xs xs ys n :=
  ⟨rfl, r, ⟨fun _ => 0, 0, fun _ _ => rfl, fun k => by rw [cf_zero_l fun _ => rfl, Int.sub_zero, Int.sub_self]; exact Int.dvd_zero _⟩, fun k hk => getD_end (by omega)⟩
structure SubM (p : Nat) (zs rs ys : List Int) (sh : Int) (n i : Nat) : Prop where
  len : zs.length = rs.length
  at_ : ∀ k, zs.getD k 0 = if n ≤ k ∧ k < n + i then (rs.getD k 0 - sh * ys.getD (k - n) 0) % (p : Int) else rs.getD k 0
theorem SubM.start {p : Nat} {rs ys : List Int} {sh : Int} {n : Nat} : SubM p rs rs ys sh n 0 := ⟨rfl, fun k => by rw [if_neg (by omega)]⟩
theorem SubM.step {p : Nat} {zs rs ys : List Int} {sh c : Int} {n i : Nat} (h : SubM p zs rs ys sh n i) (l : n + i < rs.length) (e : c = ys.getD i 0) : SubM p (zs.set (n + i) ((zs.getD (n + i) 0 - sh * c) % (p : Int))) rs ys sh n (i + 1) := ⟨by rw [List.length_set, h.len], fun k => by
  have l2 := h.len
  by_cases z : k = n + i
  · subst z
    rw [if_pos (by omega), List.getD_eq_getElem?_getD, List.getElem?_set_self (by omega)]
    show (zs.getD (n + i) 0 - sh * c) % (p : Int) = _
    rw [h.at_, if_neg (by omega), e, Nat.add_sub_cancel_left]
  · rw [List.getD_eq_getElem?_getD, List.getElem?_set_ne (by omega), ← List.getD_eq_getElem?_getD, h.at_]
    by_cases c1 : n ≤ k ∧ k < n + i
    · rw [if_pos c1, if_pos (by omega)]
    · rw [if_neg c1, if_neg (by omega)]⟩
theorem mod_sub_dvd (p : Nat) (x : Int) : (p : Int) ∣ x - x % (p : Int) := ⟨x / (p : Int), by have := Int.emod_add_mul_ediv x (p : Int); omega⟩
theorem DmAt.step {p : Nat} (p0 : 0 < p) {xs rs zs ys : List Int} {n : Nat} {inv sh : Int} (h : DmAt p xs rs ys (n + 1)) (y0 : 0 < ys.length) (hv : (p : Int) ∣ inv * ys.getD (ys.length - 1) 0 - 1) (es : sh = rs.getD (n + ys.length - 1) 0 * inv % (p : Int)) (m : SubM p zs rs ys sh n ys.length) : DmAt p xs zs ys n := by
  have topz : (p : Int) ∣ rs.getD (n + ys.length - 1) 0 - sh * ys.getD (ys.length - 1) 0 := by
    generalize rs.getD (n + ys.length - 1) 0 = r at es ⊢
    generalize ys.getD (ys.length - 1) 0 = y at hv ⊢
    obtain ⟨t, ht⟩ := hv
    obtain ⟨u, hu⟩ := mod_sub_dvd p (r * inv)
    rw [← es] at hu
    refine ⟨u * y - r * t, ?_⟩
    have e1 : inv * y = 1 + (p : Int) * t := by omega
    have e2 : sh = r * inv - (p : Int) * u := by omega
    rw [e2]
    grind
  refine ⟨by rw [m.len, h.rl], fun z hz => ?_, ?_, fun k hk => ?_⟩
  · obtain ⟨k, hk⟩ := List.mem_iff_getElem?.mp hz
    have e := m.at_ k
    rw [List.getD_eq_getElem?_getD, hk] at e
    have e' : z = if n ≤ k ∧ k < n + ys.length then (rs.getD k 0 - sh * ys.getD (k - n) 0) % (p : Int) else rs.getD k 0 := e
    rw [e']
    split
    · exact ⟨Int.emod_nonneg _ (by omega), Int.emod_lt_of_pos _ (by omega)⟩
    · have kl : k < rs.length := by rw [← m.len]; exact (List.getElem?_eq_some_iff.mp hk).1
      exact h.rng _ (getD_mem kl)
  · obtain ⟨s, N, hs, d⟩ := h.eq
    refine ⟨fun i => s i + sh * xp n i, N + (n + 1), Fz.add (hs.mono (by omega)) (Fz.scale _ ((xp_fz n).mono (by omega))), fun k => ?_⟩
    rw [cf_add_l s (fun i => sh * xp n i), cf_scale_l, cf_xp]
    show (p : Int) ∣ ff xs k - (cf s (ff ys) k + sh * (if n ≤ k then ff ys (k - n) else 0)) - zs.getD k 0
    rw [m.at_]
    have dk := d k
    by_cases c1 : n ≤ k ∧ k < n + ys.length
    · rw [if_pos c1, if_pos c1.1]
      have z := Int.dvd_add dk (mod_sub_dvd p (rs.getD k 0 - sh * ys.getD (k - n) 0))
      have e : ff xs k - cf s (ff ys) k - ff rs k + (rs.getD k 0 - sh * ys.getD (k - n) 0 - (rs.getD k 0 - sh * ys.getD (k - n) 0) % (p : Int)) = ff xs k - (cf s (ff ys) k + sh * ff ys (k - n)) - (rs.getD k 0 - sh * ys.getD (k - n) 0) % (p : Int) := by
        show xs.getD k 0 - cf s (ff ys) k - rs.getD k 0 + (rs.getD k 0 - sh * ys.getD (k - n) 0 - (rs.getD k 0 - sh * ys.getD (k - n) 0) % (p : Int)) = xs.getD k 0 - (cf s (ff ys) k + sh * ys.getD (k - n) 0) - (rs.getD k 0 - sh * ys.getD (k - n) 0) % (p : Int)
        omega
      rwa [e] at z
    · rw [if_neg c1]
      have yz : (if n ≤ k then ff ys (k - n) else 0) = 0 := by
        split
        · exact getD_end (by omega)
        · rfl
      rw [yz, Int.mul_zero, Int.add_zero]
      exact dk
  · show zs.getD k 0 = 0
    rw [m.at_]
    by_cases c1 : n ≤ k ∧ k < n + ys.length
    · rw [if_pos c1]
      have e : k = n + ys.length - 1 := by omega
      subst e
      rw [show n + ys.length - 1 - n = ys.length - 1 by omega]
      exact Int.emod_eq_zero_of_dvd topz
    · rw [if_neg c1]
      by_cases c2 : n + ys.length ≤ k
      · exact h.hi k (by omega)
      · omega
theorem DmAt.skip {p : Nat} (p0 : 0 < p) {xs rs ys : List Int} {n : Nat} {inv sh : Int} (h : DmAt p xs rs ys (n + 1)) (y0 : 0 < ys.length) (nl : n + ys.length - 1 < rs.length) (hv : (p : Int) ∣ inv * ys.getD (ys.length - 1) 0 - 1) (es : sh = rs.getD (n + ys.length - 1) 0 * inv % (p : Int)) (s0 : sh = 0) : DmAt p xs rs ys n := by
  refine ⟨h.rl, h.rng, h.eq, fun k hk => ?_⟩
  by_cases c : k = n + ys.length - 1
  · subst c
    have r := h.rng _ (getD_mem nl)
    show rs.getD (n + ys.length - 1) 0 = 0
    generalize rs.getD (n + ys.length - 1) 0 = x at es r ⊢
    generalize ys.getD (ys.length - 1) 0 = y at hv
    rw [s0] at es
    have d : (p : Int) ∣ x * inv := Int.dvd_of_emod_eq_zero es.symm
    have d2 : (p : Int) ∣ x := by
      obtain ⟨t, ht⟩ := hv
      obtain ⟨u, hu⟩ := d
      refine ⟨u * y - x * t, ?_⟩
      have e1 : inv * y = 1 + (p : Int) * t := by omega
      grind
    obtain ⟨t, ht⟩ := d2
    have e := Int.emod_eq_of_lt r.1 r.2
    rw [ht, Int.mul_emod_right] at e
    omega
  · exact h.hi k (by omega)
end CB

namespace CB.EQ
open PySem PySem.SeqAt PySem.Spec PyProof.Rows
open AutoSeq1 (wpAny_loadPart')
open MeetsSeq MeetsSeq2 MeetsSeq3 SeqRoads2
section
variable {prog : Program} {w : World} {A : Around} {R : Result → Shared → Prop}
end
section
variable {prog : Program} {w : World} {A : Around} {E : Value → Shared → Prop} {s : Shared}
end
end CB.EQ
namespace CB
open PySem PySem.Spec PyProof.Rows L2
section
variable {X : Cx} {n : Nat} {D : EqvB}
/-- lists of own objects, equal one by one: != says no -/
def rNeL (K : PySem.W.Frag) (D : EqvB) : R2 := fun x y H Q => ∃ (a b : Addr) (as bs : List Addr), x = .ref a ∧ y = .ref b ∧ H a = some (.lst (as.map V.ref)) ∧ H b = some (.lst (bs.map V.ref)) ∧ as.length = bs.length ∧
  (∀ (i : Nat) u v, as[i]? = some u → bs[i]? = some v → D (.ref u) (.ref v) H true) ∧ ∀ H', Ext H H' → Q (.bl false) H'
end
end CB

namespace CB
open PySem PySem.Spec PyProof.Rows L2
/-! ### a divisor's coefficients, by its values at small numbers -/
/-- division by x - h, with its coefficients -/
theorem syn2 (h : Int) : ∀ (N : Nat) (f : Nat → Int), Fz f (N + 1) → ∃ T, Fz T N ∧ (∀ x, e1 f x (N + 1) = e1 f h (N + 1) + (x - h) * e1 T x N) ∧ (∀ i, f i = (if i = 0 then e1 f h (N + 1) else T (i - 1)) - h * T i)
  | 0, f, hf => ⟨fun _ => 0, fun i _ => rfl, fun x => by
    show 0 + f 0 * x ^ 0 = 0 + f 0 * h ^ 0 + (x - h) * 0
    simp, fun i => by
    by_cases c : i = 0
    · subst c
      show f 0 = (0 + f 0 * h ^ 0) - h * 0
      simp
    · rw [if_neg c, hf i (by omega)]
      simp⟩
  | M + 1, f, hf => by
    obtain ⟨T', hT, e, ec⟩ := syn2 h M (fun i => f (i + 1)) (fun i hi => hf (i + 1) (by omega))
    refine ⟨fun i => if i = 0 then e1 (fun i => f (i + 1)) h (M + 1) else T' (i - 1), fun i hi => by
      show (if i = 0 then _ else T' (i - 1)) = 0
      rw [if_neg (by omega), hT (i - 1) (by omega)], fun x => ?_, fun i => ?_⟩
    · have e2 : e1 (fun i => if i = 0 then e1 (fun i => f (i + 1)) h (M + 1) else T' (i - 1)) x (M + 1) = e1 (fun i => f (i + 1)) h (M + 1) + x * e1 T' x M := by
        rw [e1_first]
        rfl
      rw [e1_first f x (M + 1), e1_first f h (M + 1), e2, e x]
      generalize e1 (fun i => f (i + 1)) h (M + 1) = A
      generalize e1 T' x M = B
      grind
    · match i with
      | 0 =>
        show f 0 = e1 f h (M + 1 + 1) - h * e1 (fun i => f (i + 1)) h (M + 1)
        rw [e1_first f h (M + 1)]
        omega
      | i + 1 => exact ec i
/-- the coefficients from values at enough places -/
theorem coef_le {K : Nat} : ∀ (n : Nat) {M : Nat} {f : Nat → Int} {l : List Int}, Fz f (n + 1) → l.Pairwise (· ≠ ·) → n + 1 ≤ l.length → (∀ h ∈ l, h.natAbs ≤ K ∧ (e1 f h (n + 1)).natAbs ≤ M) → ∀ i, (f i).natAbs ≤ M * (2 * K + 2) ^ n
  | 0, M, f, l, hf, _, ll, hl, i => by
    obtain ⟨h, r, rfl⟩ : ∃ h r, l = h :: r := by
      cases l with
      | nil => simp at ll
      | cons h r => exact ⟨h, r, rfl⟩
    have z : (e1 f h 1).natAbs ≤ M := (hl h (List.mem_cons_self ..)).2
    rw [Nat.pow_zero, Nat.mul_one]
    by_cases c : i = 0
    · subst c
      have e : e1 f h 1 = f 0 := by
        show 0 + f 0 * h ^ 0 = f 0
        simp
      rw [← e]
      exact z
    · rw [hf i (by omega)]
      exact Nat.zero_le _
  | n + 1, M, f, l, hf, pw, ll, hl, i => by
    obtain ⟨h, r, rfl⟩ : ∃ h r, l = h :: r := by
      cases l with
      | nil => simp at ll
      | cons h r => exact ⟨h, r, rfl⟩
    obtain ⟨T, hT, e, ec⟩ := syn2 h (n + 1) f hf
    have hh := hl h (List.mem_cons_self ..)
    have pw' := List.pairwise_cons.mp pw
    have ih := coef_le (K := K) n (M := 2 * M) (f := T) (l := r) hT pw'.2 (by simpa using ll) (fun g hg => by
      have hg2 := hl g (List.mem_cons_of_mem _ hg)
      refine ⟨hg2.1, ?_⟩
      have ne := pw'.1 g hg
      have eg := e g
      have d1 : 1 ≤ (g - h).natAbs := by omega
      have z : ((g - h) * e1 T g (n + 1)).natAbs ≤ 2 * M := by
        have : (g - h) * e1 T g (n + 1) = e1 f g (n + 1 + 1) - e1 f h (n + 1 + 1) := by omega
        rw [this]
        have := hg2.2
        have := hh.2
        omega
      rw [Int.natAbs_mul] at z
      calc (e1 T g (n + 1)).natAbs = 1 * (e1 T g (n + 1)).natAbs := (Nat.one_mul _).symm
        _ ≤ (g - h).natAbs * (e1 T g (n + 1)).natAbs := Nat.mul_le_mul_right _ d1
        _ ≤ 2 * M := z)
    have fi := ec i
    have p0 : (if i = 0 then e1 f h (n + 1 + 1) else T (i - 1)).natAbs ≤ 2 * M * (2 * K + 2) ^ n := by
      split
      · have q1 : 1 ≤ (2 * K + 2) ^ n := Nat.pow_pos (by omega)
        have q2 : 2 * M * 1 ≤ 2 * M * (2 * K + 2) ^ n := Nat.mul_le_mul_left _ q1
        have := hh.2
        omega
      · exact ih _
    have p1 : (h * T i).natAbs ≤ K * (2 * M * (2 * K + 2) ^ n) := by
      rw [Int.natAbs_mul]
      exact Nat.mul_le_mul hh.1 (ih i)
    have p2 := Int.natAbs_sub_le (if i = 0 then e1 f h (n + 1 + 1) else T (i - 1)) (h * T i)
    rw [← fi] at p2
    have e3 : M * (2 * K + 2) ^ (n + 1) = 2 * M * (2 * K + 2) ^ n + K * (2 * M * (2 * K + 2) ^ n) := by
      rw [Nat.pow_succ]
      generalize (2 * K + 2) ^ n = P
      grind
    rw [e3]
    omega
/-- a divisor's coefficients: A = Q S -/
theorem div_coef {A Q S : Nat → Int} {n m H : Nat} (dA : Dg A n) (hH : ∀ i, (A i).natAbs ≤ H) (dQ : Dg Q m) (nm : n + m ≤ 12) {N : Nat} (fS : Fz S N) (e : ∀ i, A i = cf Q S i) (i : Nat) : (Q i).natAbs ≤ H * sg 6 (n + 1) * 14 ^ m := by
  obtain ⟨s, dS⟩ : ∃ s, Dg S s := by
    rcases zero_or_dg N fS with z | ⟨s, _, d⟩
    · exact absurd (by rw [e, cf_zero_r z]) dA.top
    · exact ⟨s, d⟩
  have nms : n = m + s := by
    have d2 := dQ.cf dS
    have d3 : Dg (CB.cf Q S) n := ⟨by rw [← e]; exact dA.top, fun i hi => by rw [← e]; exact dA.up i hi⟩
    exact d3.uniq d2
  have sm : ∀ h ∈ pts, (e1 A h (n + 1)).natAbs ≤ H * sg 6 (n + 1) := fun h hh => e1_le (f := A) (h := h) (x := 6) hH (pts_le h hh) (n + 1)
  have few : (pts.filter fun h => decide (e1 A h (n + 1) = 0)).length ≤ n := by
    refine Decidable.byContradiction fun z => dA.top ?_
    have y := coef_le (K := 6) n (M := 0) (f := A) (l := pts.filter fun h => decide (e1 A h (n + 1) = 0)) dA.up (pts_pw.filter _) (by omega) (fun h hh => by
      obtain ⟨h1, h2⟩ := List.mem_filter.mp hh
      exact ⟨pts_le h h1, by rw [of_decide_eq_true h2]; decide⟩) n
    rw [Nat.zero_mul] at y
    omega
  have many : 13 - n ≤ (pts.filter fun h => !decide (e1 A h (n + 1) = 0)).length := by
    have z := List.length_eq_countP_add_countP (fun h => decide (e1 A h (n + 1) = 0)) (l := pts)
    rw [List.countP_eq_length_filter, List.countP_eq_length_filter] at z
    have e1_ : (pts.filter fun a => decide ¬ (fun h => decide (e1 A h (n + 1) = 0)) a = true) = pts.filter fun h => !decide (e1 A h (n + 1) = 0) := by
      congr 1
      funext a
      simp
    rw [e1_] at z
    have lp : pts.length = 13 := rfl
    omega
  have ev : ∀ x : Int, e1 A x (n + 1) = e1 Q x (m + 1) * e1 S x (s + 1) := fun x => by
    rw [← e1_cf (N := m + 1) (M := s + 1) dQ.up dS.up]
    have z : e1 A x (m + 1 + (s + 1)) = e1 A x (n + 1) := e1_more (fun i hi => dA.up i hi) (by omega)
    rw [← z]
    exact e1_congr fun i _ => e i
  refine coef_le (K := 6) m (M := H * sg 6 (n + 1)) (f := Q) (l := pts.filter fun h => !decide (e1 A h (n + 1) = 0)) dQ.up (pts_pw.filter _) (by omega) (fun h hh => ?_) i
  obtain ⟨h1, h2⟩ := List.mem_filter.mp hh
  refine ⟨pts_le h h1, ?_⟩
  have ne : e1 A h (n + 1) ≠ 0 := by simpa using h2
  have z := sm h h1
  rw [ev h, Int.natAbs_mul] at z
  have s0 : 1 ≤ (e1 S h (s + 1)).natAbs := by
    have : e1 S h (s + 1) ≠ 0 := fun w => ne (by rw [ev h, w, Int.mul_zero])
    omega
  calc (e1 Q h (m + 1)).natAbs = (e1 Q h (m + 1)).natAbs * 1 := (Nat.mul_one _).symm
    _ ≤ (e1 Q h (m + 1)).natAbs * (e1 S h (s + 1)).natAbs := Nat.mul_le_mul_left _ s0
    _ ≤ _ := z
end CB

namespace CB
open PySem PySem.Spec PyProof.Rows L2
/-! ### the sizes of a divisor in its one form -/
/-- the primitive part of a divisor is small -/
theorem prim_bits {f A : Nat → Int} {m n H : Nat} (df : Dg f m) (dA : Dg A n) (hH : ∀ i, (A i).natAbs ≤ H) (nm : n + m ≤ 12) (h : Dv f A) : ∃ (c : Int) (g : Nat → Int), c ≠ 0 ∧ Prim g ∧ Dg g m ∧ (∀ i, f i = c * g i) ∧ ∀ i, (g i).natAbs ≤ H * sg 6 (n + 1) * 14 ^ m := by
  obtain ⟨c, g, c0, pg, dg, e⟩ := prim_part df
  have hg : Dv g A := by
    have gf : Dv g f := ⟨1, fun i => c * xp 0 i, 1, by decide, (xp_fz 0).scale c, fun i => by rw [cf_scale_l, cf_one, Int.one_mul]; exact e i⟩
    exact gf.trans h
  obtain ⟨s, N, fs, ea⟩ := hg.whole pg
  exact ⟨c, g, c0, pg, dg, e, div_coef dA hH dg nm fs fun i => by rw [ea i, cf_comm]⟩
/-- a monic one: its numbers are small -/
theorem monic_bits {bs : List Int} {β : Int} {A : Nat → Int} {n H : Nat} (sb : Pq bs β bs β) (bne : bs ≠ []) (mon : bs.getD (bs.length - 1) 0 = β) (dA : Dg A n) (hH : ∀ i, (A i).natAbs ≤ H) (nm : n + (bs.length - 1) ≤ 12) (h : Dv (fun i => bs.getD i 0) A) (i : Nat) : (bs.getD i 0).natAbs ≤ H * sg 6 (n + 1) * 14 ^ (bs.length - 1) := by
  have bt : bs.getD (bs.length - 1) 0 ≠ 0 := sb.last.resolve_left bne
  have bl : 0 < bs.length := List.length_pos_iff.mpr bne
  have df : Dg (fun i => bs.getD i 0) (bs.length - 1) := ⟨bt, fun j hj => getD_end (by omega)⟩
  obtain ⟨c, g, c0, pg, dg, e, hb⟩ := prim_bits df dA hH nm h
  have c1 : c ∣ 1 := sb.cop c ⟨g (bs.length - 1), by rw [← mon]; exact e _⟩ fun j => ⟨g j, e j⟩
  have ca : c.natAbs = 1 := by
    have := Int.natAbs_dvd_natAbs.mpr c1
    exact Nat.dvd_one.mp this
  have e1 : bs.getD i 0 = c * g i := e i
  rw [e1, Int.natAbs_mul, ca, Nat.one_mul]
  exact hb i
/-- the numerator's numbers are small: as / a with its leading coefficients' equation -/
theorem num_bits {as : List Int} {a J L : Int} {A : Nat → Int} {n H : Nat} (sa : Pq as a as a) (ane : as ≠ []) (dA : Dg A n) (hH : ∀ i, (A i).natAbs ≤ H) (nm : n + (as.length - 1) ≤ 12) (h : Dv (fun i => as.getD i 0) A) (J0 : J ≠ 0) (L0 : L ≠ 0)
    (eq : as.getD (as.length - 1) 0 * J = L * a) : (∀ i, (as.getD i 0).natAbs ≤ L.natAbs * (H * sg 6 (n + 1) * 14 ^ (as.length - 1))) ∧ a.natAbs ≤ H * sg 6 (n + 1) * 14 ^ (as.length - 1) * J.natAbs := by
  have bt : as.getD (as.length - 1) 0 ≠ 0 := sa.last.resolve_left ane
  have bl : 0 < as.length := List.length_pos_iff.mpr ane
  have df : Dg (fun i => as.getD i 0) (as.length - 1) := ⟨bt, fun j hj => getD_end (by omega)⟩
  obtain ⟨c, g, c0, pg, dg, e, hb⟩ := prim_bits df dA hH nm h
  have a0 : a ≠ 0 := by have := sa.pos; omega
  have cp : Nat.gcd c.natAbs a.natAbs = 1 := by
    have d1 : ((Nat.gcd c.natAbs a.natAbs : Nat) : Int) ∣ a := Int.dvd_natAbs.mp (Int.natCast_dvd_natCast.mpr (Nat.gcd_dvd_right _ _))
    have d2 : ((Nat.gcd c.natAbs a.natAbs : Nat) : Int) ∣ c := Int.dvd_natAbs.mp (Int.natCast_dvd_natCast.mpr (Nat.gcd_dvd_left _ _))
    have d3 := sa.cop _ d1 fun j => by
      have : as.getD j 0 = c * g j := e j
      rw [this]
      exact Int.dvd_trans d2 ⟨g j, rfl⟩
    have := Int.natAbs_dvd_natAbs.mpr d3
    exact Nat.dvd_one.mp this
  have el : as.getD (as.length - 1) 0 = c * g (as.length - 1) := e _
  rw [el] at eq
  have cL : c ∣ L := by
    refine dvd_of_cop (a := a) (b := c) (c := L) ⟨g (as.length - 1) * J, ?_⟩ (by rw [Nat.gcd_comm]; exact cp)
    rw [Int.mul_comm a L, ← eq, Int.mul_assoc]
  have aJ : a ∣ g (as.length - 1) * J := by
    refine dvd_of_cop (a := c) (b := a) ⟨L, ?_⟩ cp
    rw [← Int.mul_assoc, eq, Int.mul_comm]
  have cl : c.natAbs ≤ L.natAbs := natAbs_le_of_dvd cL L0
  refine ⟨fun i => ?_, ?_⟩
  · have ei : as.getD i 0 = c * g i := e i
    rw [ei, Int.natAbs_mul]
    exact Nat.mul_le_mul cl (hb i)
  · have z := natAbs_le_of_dvd aJ (Int.mul_ne_zero dg.top J0)
    rw [Int.natAbs_mul] at z
    exact Nat.le_trans z (Nat.mul_le_mul_right _ (hb _))
end CB

namespace CB
open PySem PySem.Spec PyProof.Rows L2
/-! ### quotients: the one form is one -/
theorem bt_ex : ∀ xs : List Int, ∃ k, Bt k (ff xs)
  | [] => ⟨0, fun i => by show (0 : Int).natAbs < 2 ^ 0; decide⟩
  | x :: r => by
    obtain ⟨k, hk⟩ := bt_ex r
    refine ⟨max x.natAbs k, fun i => ?_⟩
    match i with
    | 0 => exact Nat.lt_of_lt_of_le (Nat.lt_two_pow_self (n := x.natAbs)) (Nat.pow_le_pow_right (by decide) (Nat.le_max_left _ _))
    | i + 1 => exact Nat.lt_of_lt_of_le (hk i) (Nat.pow_le_pow_right (by decide) (Nat.le_max_right _ _))
theorem dgl {js : List Int} (h : js.getD (js.length - 1) 0 ≠ 0) : Dg (ff js) (js.length - 1) := ⟨h, fun i hi => getD_end (by
  have : js ≠ [] := fun z => h (by rw [z]; rfl)
  have := List.length_pos_iff.mpr this
  omega)⟩
/-- coprime to as, a divisor of as bs' divides bs' -/
theorem cop_dv {as bs : List Int} {X : Nat → Int} (la : as = [] ∨ as.getD (as.length - 1) 0 ≠ 0) (lb : bs.getD (bs.length - 1) 0 ≠ 0) (cop : ∀ D m, Dg D m → Dv D (ff as) → Dv D (ff bs) → m = 0) {N : Nat} (fX : Fz X N) (h : Dv (ff bs) (cf (ff as) X)) : Dv (ff bs) X := by
  rcases la with z | la
  · have m0 := cop (ff bs) _ (dgl lb) (by rw [z]; exact Dv.zero fun _ => rfl) (Dv.refl _)
    have d := dgl lb
    rw [m0] at d
    exact (Dv.const d).trans (Dv.one X fX)
  · obtain ⟨k, hk⟩ := bt_ex as
    obtain ⟨l, hl⟩ := bt_ex bs
    obtain ⟨e0, _, E, ⟨m, _, D⟩, _, _⟩ := euclid _ (dgl la) (dgl lb) (Nat.le_refl _) hk hl
    have m0 := cop e0 m D E.da E.db
    rw [m0] at D
    obtain ⟨u, v, M, hu, hv, c⟩ := E.comb
    have c0 := D.top
    have ec : ∀ i, cf e0 X i = e0 0 * X i := fun i => by
      have : ∀ j, e0 j = e0 0 * xp 0 j := fun j => by
        by_cases z : j = 0
        · subst z
          show e0 0 = e0 0 * 1
          omega
        · rw [D.up j (by omega)]
          show 0 = e0 0 * (if j = 0 then 1 else 0)
          rw [if_neg z]; omega
      rw [cf_congr this (fun _ => rfl) i, cf_scale_l, cf_one]
    refine Dv.scale c0 ?_
    refine Dv.congr (Dv.comb h (Dv.refl (ff bs)) hu (hv.cf fX)) (fun _ => rfl) (fun i => ?_)
    rw [← ec i, cf_congr c (fun _ => rfl) i, cf_add_l, cf_assoc, cf_assoc]
    congr 1
    rw [cf_assoc]
    exact cf_congr (fun _ => rfl) (fun j => cf_comm _ _ j) i
/-- two that divide one another are proportional -/
theorem prop_dv2 {ms ks : List Int} (h1 : Dv (ff ms) (ff ks)) (h2 : Dv (ff ks) (ff ms)) (tm : ms.getD (ms.length - 1) 0 ≠ 0) (tk : ks.getD (ks.length - 1) 0 ≠ 0) (i : Nat) : ms.getD i 0 * ks.getD (ks.length - 1) 0 = ks.getD i 0 * ms.getD (ms.length - 1) 0 := by
  have dm := dgl tm
  have dk := dgl tk
  have a := h1.deg dm dk
  have b := h2.deg dk dm
  have ab : ms.length - 1 = ks.length - 1 := by omega
  obtain ⟨f, ef⟩ : ∃ f : Nat → Int, f = fun i => ks.getD (ks.length - 1) 0 * ff ms i + -(ms.getD (ms.length - 1) 0) * ff ks i := ⟨_, rfl⟩
  have fd : Dv (ff ms) f := (Dv.comb (Dv.refl (ff ms)) h1 ((xp_fz 0).scale (ks.getD (ks.length - 1) 0)) ((xp_fz 0).scale (-(ms.getD (ms.length - 1) 0)))).congr (fun _ => rfl) (fun i => by rw [ef, cf_scale_l, cf_one, cf_scale_l, cf_one])
  have fz : Fz f (ms.length - 1) := fun i hi => by
    rw [ef]
    show ks.getD (ks.length - 1) 0 * ff ms i + -(ms.getD (ms.length - 1) 0) * ff ks i = 0
    by_cases c : i = ms.length - 1
    · rw [c]
      show ks.getD (ks.length - 1) 0 * ms.getD (ms.length - 1) 0 + -(ms.getD (ms.length - 1) 0) * ks.getD (ms.length - 1) 0 = 0
      rw [← ab]
      grind
    · rw [dm.up i (by omega), dk.up i (by omega)]
      simp
  have f0 : ∀ i, f i = 0 := by
    rcases zero_or_dg _ fz with z | ⟨m, ml, dg⟩
    · exact z
    · have := fd.deg dm dg
      omega
  have w := f0 i
  rw [ef] at w
  have w2 : ks.getD (ks.length - 1) 0 * ms.getD i 0 + -(ms.getD (ms.length - 1) 0) * ks.getD i 0 = 0 := w
  grind
theorem quo_uniq {as bs cs ds : List Int} {a b c d : Int} (sa : Pq as a as a) (sb : Pq bs b bs b) (sc : Pq cs c cs c) (sd : Pq ds d ds d) (bne : bs ≠ []) (dne : ds ≠ []) (mb : bs.getD (bs.length - 1) 0 = b) (md : ds.getD (ds.length - 1) 0 = d)
    (cop : ∀ D m, Dg D m → Dv D (ff as) → Dv D (ff bs) → m = 0) (cop2 : ∀ D m, Dg D m → Dv D (ff cs) → Dv D (ff ds) → m = 0) (eq : ∀ i, cf (ff as) (ff ds) i * (c * b) = cf (ff cs) (ff bs) i * (a * d)) : (as = cs ∧ a = c) ∧ bs = ds ∧ b = d := by
  have bt := sb.last.resolve_left bne
  have dt := sd.last.resolve_left dne
  have a0 : a ≠ 0 := by have := sa.pos; omega
  have b0 : b ≠ 0 := by have := sb.pos; omega
  have c0 : c ≠ 0 := by have := sc.pos; omega
  have d0 : d ≠ 0 := by have := sd.pos; omega
  have h1 : Dv (ff bs) (cf (ff as) (ff ds)) := ⟨c * b, fun i => a * d * ff cs i, cs.length, Int.mul_ne_zero c0 b0, fun i hi => by show a * d * cs.getD i 0 = 0; rw [getD_end hi, Int.mul_zero], fun i => by rw [cf_scale_l, Int.mul_comm, eq i, Int.mul_comm]⟩
  have h2 : Dv (ff ds) (cf (ff cs) (ff bs)) := ⟨a * d, fun i => c * b * ff as i, as.length, Int.mul_ne_zero a0 d0, fun i hi => by show c * b * as.getD i 0 = 0; rw [getD_end hi, Int.mul_zero], fun i => by rw [cf_scale_l, Int.mul_comm, ← eq i, Int.mul_comm]⟩
  have v1 := cop_dv sa.last bt cop (N := ds.length) (fun i hi => getD_end hi) h1
  have v2 := cop_dv sc.last dt cop2 (N := bs.length) (fun i hi => getD_end hi) h2
  have pr := prop_dv2 v1 v2 bt dt
  obtain ⟨eb, ebd⟩ := sb.uniq (ks' := ds) (e' := d) ⟨fun i => by
    have := pr i
    rw [md, mb] at this
    exact this.symm, sd.pos, sd.last, sd.cop⟩ b0
  subst eb ebd
  refine ⟨?_, rfl, rfl⟩
  have e2 : ∀ i, ff as i * c = ff cs i * a := by
    have z := cf_cancel (f := ff bs) (g := fun i => c * ff as i) (h := fun i => a * ff cs i) (a := bs.length - 1) (n := max as.length cs.length) (dgl bt) (fun i hi => by show c * as.getD i 0 = 0; rw [getD_end (by omega), Int.mul_zero]) (fun i hi => by show a * cs.getD i 0 = 0; rw [getD_end (by omega), Int.mul_zero]) (fun k => by
      rw [cf_comm (ff bs), cf_comm (ff bs), cf_scale_l, cf_scale_l]
      apply Int.eq_of_mul_eq_mul_right b0
      have := eq k
      grind)
    exact fun i => by rw [Int.mul_comm, z i, Int.mul_comm]
  exact sa.uniq (ks' := cs) (e' := c) ⟨fun i => (e2 i).symm, sc.pos, sc.last, sc.cop⟩ a0
end CB

namespace CB
open PySem PySem.Spec PyProof.Rows L2
/-! ### quotients by a cross product -/
theorem cfC (f g : Nat → Int) : cf f g = cf g f := funext (cf_comm f g)
theorem cfA (f g h : Nat → Int) : cf (cf f g) h = cf f (cf g h) := funext (cf_assoc f g h)
instance cfComm : Std.Commutative cf := ⟨cfC⟩
instance cfAssoc : Std.Associative cf := ⟨cfA⟩
/-- a number as a polynomial -/
def cst (c : Int) : Nat → Int := fun i => c * xp 0 i
theorem cst_cf (c : Int) (f : Nat → Int) : cf (cst c) f = fun i => c * f i := funext fun i => by
  show cf (fun i => c * xp 0 i) f i = _
  rw [cf_scale_l, cf_one]
theorem cst_mul (a b : Int) : cf (cst a) (cst b) = cst (a * b) := by
  rw [cst_cf]
  funext i
  show a * (b * xp 0 i) = a * b * xp 0 i
  rw [Int.mul_assoc]
theorem cst_fz (c : Int) : Fz (cst c) 1 := (xp_fz 0).scale c
theorem ff_fz (xs : List Int) : Fz (ff xs) xs.length := fun i hi => getD_end hi
theorem sg_le {x : Nat} {n m : Nat} (h : n ≤ m) : sg x n ≤ sg x m := by
  induction h with
  | refl => exact Nat.le_refl _
  | step _ ih => exact Nat.le_trans ih (Nat.le_add_right _ _)
/-- (as / a) / (bs / b) is the one form of X / Y -/
structure Qn (X Y : Nat → Int) (as : List Int) (a : Int) (bs : List Int) (b : Int) : Prop where
  sa : Pq as a as a
  sb : Pq bs b bs b
  bne : bs ≠ []
  mon : bs.getD (bs.length - 1) 0 = b
  cop : ∀ D m, Dg D m → Dv D (ff as) → Dv D (ff bs) → m = 0
  eq : cf (cst b) (cf (ff as) Y) = cf (cst a) (cf X (ff bs))
theorem Qn.bt {X Y : Nat → Int} {as bs : List Int} {a b : Int} (q : Qn X Y as a bs b) : bs.getD (bs.length - 1) 0 ≠ 0 := q.sb.last.resolve_left q.bne
theorem Qn.a0 {X Y : Nat → Int} {as bs : List Int} {a b : Int} (q : Qn X Y as a bs b) : a ≠ 0 := by have := q.sa.pos; omega
theorem Qn.b0 {X Y : Nat → Int} {as bs : List Int} {a b : Int} (q : Qn X Y as a bs b) : b ≠ 0 := by have := q.sb.pos; omega
theorem Qn.at_ {X Y : Nat → Int} {as bs : List Int} {a b : Int} (q : Qn X Y as a bs b) (i : Nat) : cf (ff as) Y i * b = cf X (ff bs) i * a := by
  have e := congrFun q.eq i
  rw [cst_cf, cst_cf] at e
  have e2 : b * cf (ff as) Y i = a * cf X (ff bs) i := e
  rw [Int.mul_comm, e2, Int.mul_comm]
/-- equal values are equal forms -/
theorem Qn.same {X Y X' Y' : Nat → Int} {as bs cs ds : List Int} {a b c d : Int} {n n' : Nat} (q : Qn X Y as a bs b) (r : Qn X' Y' cs c ds d) (dY : Dg Y n) (dY' : Dg Y' n') (e : cf X Y' = cf X' Y) : (as = cs ∧ a = c) ∧ bs = ds ∧ b = d := by
  refine quo_uniq q.sa q.sb r.sa r.sb q.bne r.bne q.mon r.mon q.cop r.cop fun i => ?_
  have key : cf (cf Y Y') (cf (cst (c * b)) (cf (ff as) (ff ds))) = cf (cf Y Y') (cf (cst (a * d)) (cf (ff cs) (ff bs))) := by
    rw [← cst_mul, ← cst_mul]
    calc cf (cf Y Y') (cf (cf (cst c) (cst b)) (cf (ff as) (ff ds))) = cf (cf (cst b) (cf (ff as) Y)) (cf (cst c) (cf Y' (ff ds))) := by ac_rfl
      _ = cf (cf (cst a) (cf X (ff bs))) (cf (cst c) (cf Y' (ff ds))) := by rw [q.eq]
      _ = cf (cf X Y') (cf (cst a) (cf (cst c) (cf (ff bs) (ff ds)))) := by ac_rfl
      _ = cf (cf X' Y) (cf (cst a) (cf (cst c) (cf (ff bs) (ff ds)))) := by rw [e]
      _ = cf (cf (cst c) (cf X' (ff ds))) (cf (cst a) (cf Y (ff bs))) := by ac_rfl
      _ = cf (cf (cst d) (cf (ff cs) Y')) (cf (cst a) (cf Y (ff bs))) := by rw [r.eq]
      _ = cf (cf Y Y') (cf (cf (cst a) (cst d)) (cf (ff cs) (ff bs))) := by ac_rfl
  have z := cf_cancel (dY.cf dY') (n := 1 + (max (as.length + ds.length) (cs.length + bs.length))) (g := cf (cst (c * b)) (cf (ff as) (ff ds))) (h := cf (cst (a * d)) (cf (ff cs) (ff bs)))
    (((cst_fz _).cf ((ff_fz as).cf (ff_fz ds))).mono (by omega)) (((cst_fz _).cf ((ff_fz cs).cf (ff_fz bs))).mono (by omega)) (fun k => congrFun key k) i
  rw [cst_cf, cst_cf] at z
  have z2 : c * b * cf (ff as) (ff ds) i = a * d * cf (ff cs) (ff bs) i := z
  rw [Int.mul_comm, z2, Int.mul_comm]
theorem Qn.bs_dv {X Y : Nat → Int} {as bs : List Int} {a b : Int} {N M : Nat} (q : Qn X Y as a bs b) (fX : Fz X N) (fY : Fz Y M) : Dv (ff bs) Y :=
  cop_dv q.sa.last q.bt q.cop fY ⟨b, cf (cst a) X, 1 + N, q.b0, (cst_fz a).cf fX, fun i => by
    have z := congrFun q.eq i
    rw [cst_cf b] at z
    have z2 : b * cf (ff as) Y i = cf (cst a) (cf X (ff bs)) i := z
    rw [z2]
    exact congrFun (show cf (cst a) (cf X (ff bs)) = cf (cf (cst a) X) (ff bs) by ac_rfl) i⟩
theorem Qn.x_zero {X Y : Nat → Int} {as bs : List Int} {a b : Int} {N : Nat} (q : Qn X Y as a bs b) (fX : Fz X N) (z : as = []) (i : Nat) : X i = 0 := by
  rcases zero_or_dg N fX with w | ⟨m, _, d⟩
  · exact w i
  · exfalso
    have e := congrFun q.eq (m + (bs.length - 1))
    rw [cst_cf, cst_cf, z] at e
    have e2 : b * cf (ff []) Y (m + (bs.length - 1)) = a * cf X (ff bs) (m + (bs.length - 1)) := e
    rw [cf_zero_l (f := ff []) (fun _ => rfl), Int.mul_zero] at e2
    rcases Int.mul_eq_zero.mp e2.symm with y | y
    · exact q.a0 y
    · exact (d.cf (dgl q.bt)).top y
theorem Qn.as_zero {X Y : Nat → Int} {as bs : List Int} {a b : Int} {n : Nat} (q : Qn X Y as a bs b) (dY : Dg Y n) (z : ∀ i, X i = 0) : as = [] := by
  rcases q.sa.last with w | w
  · exact w
  · exfalso
    have e := congrFun q.eq (as.length - 1 + n)
    rw [cst_cf, cst_cf] at e
    have e2 : b * cf (ff as) Y (as.length - 1 + n) = a * cf X (ff bs) (as.length - 1 + n) := e
    rw [cf_zero_l z, Int.mul_zero] at e2
    rcases Int.mul_eq_zero.mp e2 with y | y
    · exact q.b0 y
    · exact ((dgl w).cf dY).top y
theorem Qn.as_dv {X Y : Nat → Int} {as bs : List Int} {a b : Int} {N M : Nat} (q : Qn X Y as a bs b) (fX : Fz X N) (fY : Fz Y M) : Dv (ff as) X := by
  rcases q.sa.last with w | w
  · exact Dv.zero (q.x_zero fX w)
  · refine cop_dv q.sb.last w (fun D m d h1 h2 => q.cop D m d h2 h1) fX ⟨a, cf (cst b) Y, 1 + M, q.a0, (cst_fz b).cf fY, fun i => ?_⟩
    have z := congrFun q.eq i
    rw [cst_cf (a)] at z
    have z2 : cf (cst b) (cf (ff as) Y) i = a * cf X (ff bs) i := z
    rw [cf_comm (ff bs) X, ← z2]
    exact congrFun (show cf (cst b) (cf (ff as) Y) = cf (cf (cst b) Y) (ff as) by ac_rfl) i
/-- the same form: two numerators that differ -/
theorem Qn.no {X X' Y : Nat → Int} {as bs : List Int} {a b : Int} {m : Nat} (q : Qn X Y as a bs b) (r : Qn X' Y as a bs b) (D : Dg (fun i => X' i + -1 * X i) m) : False := by
  have e : cf (cst a) (cf X (ff bs)) = cf (cst a) (cf X' (ff bs)) := q.eq.symm.trans r.eq
  have e2 := congrFun e (m + (bs.length - 1))
  rw [cst_cf, cst_cf] at e2
  have e3 : cf X (ff bs) (m + (bs.length - 1)) = cf X' (ff bs) (m + (bs.length - 1)) := Int.eq_of_mul_eq_mul_left q.a0 e2
  refine (D.cf (dgl q.bt)).top ?_
  rw [cf_add_l, cf_scale_l, ← e3]
  omega
theorem small_one {as : List Int} {a : Int} (s : Pq as a as a) (z : as = []) : a = 1 := by
  have c := s.cop a (Int.dvd_refl a) fun i => by rw [z]; exact Int.dvd_zero a
  have := Int.natAbs_dvd_natAbs.mpr c
  have := Nat.dvd_one.mp this
  have := s.pos
  omega
theorem le_mono3 {H n m N M t : Nat} (h : n ≤ N) (k : m ≤ M) : H * sg 6 (n + 1) * 14 ^ m ≤ H * sg 6 (N + 1) * 14 ^ M :=
  Nat.mul_le_mul (Nat.mul_le_mul_left _ (sg_le (by omega))) (Nat.pow_le_pow_right (by decide) k)
/-- the sizes of the one form -/
structure Qs (N M HX HY : Nat) (as : List Int) (a : Int) (bs : List Int) (b : Int) : Prop where
  la : as.length ≤ N + 1
  lb : bs.length ≤ M + 1
  ba : ∀ i, (as.getD i 0).natAbs ≤ HX * (HX * sg 6 (N + 1) * 14 ^ N)
  bb : ∀ i, (bs.getD i 0).natAbs ≤ HY * sg 6 (M + 1) * 14 ^ M
  ga : a.natAbs ≤ max 1 (HX * sg 6 (N + 1) * 14 ^ N * HY)
  gb : b.natAbs ≤ HY * sg 6 (M + 1) * 14 ^ M
theorem Qn.sizes {X Y : Nat → Int} {as bs : List Int} {a b : Int} {N M HX HY : Nat} {n : Nat} (q : Qn X Y as a bs b) (fX : Fz X (N + 1)) (dY : Dg Y n) (nM : n ≤ M) (hX : ∀ i, (X i).natAbs ≤ HX) (hY : ∀ i, (Y i).natAbs ≤ HY) (n6 : N ≤ 6) (m6 : M ≤ 6) : Qs N M HX HY as a bs b := by
  have db := q.bs_dv fX dY.up
  have lb := db.deg (dgl q.bt) dY
  have bl : 0 < bs.length := List.length_pos_iff.mpr q.bne
  have bb := fun i => Nat.le_trans (monic_bits q.sb q.bne q.mon dY hY (by omega) db i) (le_mono3 (t := 0) nM (show bs.length - 1 ≤ M by omega))
  have gb : b.natAbs ≤ HY * sg 6 (M + 1) * 14 ^ M := by rw [← q.mon]; exact bb _
  rcases zero_or_dg (N + 1) fX with z | ⟨m, mN, d⟩
  · have an := q.as_zero dY z
    have a1 := small_one q.sa an
    refine ⟨by rw [an]; exact Nat.zero_le _, by omega, fun i => by rw [an]; exact Nat.zero_le _, bb, ?_, gb⟩
    rw [a1]; exact Nat.le_max_left _ _
  · have ane : as ≠ [] := fun z => d.top (q.x_zero fX z m)
    have at_ : as.getD (as.length - 1) 0 ≠ 0 := q.sa.last.resolve_left ane
    have da := q.as_dv fX dY.up
    have la := da.deg (dgl at_) d
    have al : 0 < as.length := List.length_pos_iff.mpr ane
    have lead : as.getD (as.length - 1) 0 * Y n = X m * a := by
      have eqd : as.length - 1 + n = m + (bs.length - 1) := by
        have d1 := (dgl at_).cf dY
        have d2 := d.cf (dgl q.bt)
        have d3 : Dg (cf (cst b) (cf (ff as) Y)) (as.length - 1 + n) := by
          rw [cst_cf]
          exact ⟨Int.mul_ne_zero q.b0 d1.top, fun i hi => by show b * _ = 0; rw [d1.up i hi, Int.mul_zero]⟩
        have d4 : Dg (cf (cst a) (cf X (ff bs))) (m + (bs.length - 1)) := by
          rw [cst_cf]
          exact ⟨Int.mul_ne_zero q.a0 d2.top, fun i hi => by show a * _ = 0; rw [d2.up i hi, Int.mul_zero]⟩
        rw [q.eq] at d3
        exact d3.uniq d4
      have e := congrFun q.eq (as.length - 1 + n)
      rw [cst_cf, cst_cf] at e
      have e2 : b * cf (ff as) Y (as.length - 1 + n) = a * cf X (ff bs) (as.length - 1 + n) := e
      rw [cf_top (fun i hi => (dgl at_).up i hi) (fun i hi => dY.up i hi), eqd, cf_top (fun i hi => d.up i hi) (fun i hi => (dgl q.bt).up i hi)] at e2
      have e3 : ff bs (bs.length - 1) = b := q.mon
      rw [e3] at e2
      apply Int.eq_of_mul_eq_mul_left q.b0
      have : b * (as.getD (as.length - 1) 0 * Y n) = a * (X m * b) := e2
      rw [this]
      grind
    obtain ⟨h1, h2⟩ := num_bits q.sa ane d hX (by omega) da dY.top d.top lead
    have mm := le_mono3 (H := HX) (t := 0) (show m ≤ N by omega) (show as.length - 1 ≤ N by omega)
    refine ⟨by omega, by omega, fun i => Nat.le_trans (h1 i) (Nat.mul_le_mul (hX m) mm), bb, ?_, gb⟩
    exact Nat.le_trans h2 (Nat.le_trans (Nat.mul_le_mul mm (hY n)) (Nat.le_max_right _ _))
/-- a common factor goes -/
theorem Qn.cancel {X Y G X' Y' : Nat → Int} {as bs : List Int} {a b : Int} {g N M : Nat} (q : Qn X Y as a bs b) (dG : Dg G g) (hX : X = cf G X') (hY : Y = cf G Y') (fX : Fz X' N) (fY : Fz Y' M) : Qn X' Y' as a bs b := by
  refine ⟨q.sa, q.sb, q.bne, q.mon, q.cop, funext fun i => ?_⟩
  refine cf_cancel dG (n := 1 + max (as.length + M) (N + bs.length)) (((cst_fz b).cf ((ff_fz as).cf fY)).mono (by omega)) (((cst_fz a).cf (fX.cf (ff_fz bs))).mono (by omega)) (fun k => ?_) i
  have e := q.eq
  rw [hX, hY] at e
  have e1 : cf G (cf (cst b) (cf (ff as) Y')) = cf (cst b) (cf (ff as) (cf G Y')) := by ac_rfl
  have e2 : cf G (cf (cst a) (cf X' (ff bs))) = cf (cst a) (cf (cf G X') (ff bs)) := by ac_rfl
  rw [e1, e2, e]
end CB

namespace CB
open PySem PySem.Spec PyProof.Rows L2
/-! ### coefficient functions as a ring, so that grind can do their algebra -/
structure PS where
  f : Nat → Int
def pc (c : Int) : PS := ⟨cst c⟩
theorem PS.ext {a b : PS} (h : a.f = b.f) : a = b := by cases a; cases b; cases h; rfl
instance : Add PS := ⟨fun a b => ⟨fun i => a.f i + b.f i⟩⟩
instance : Mul PS := ⟨fun a b => ⟨cf a.f b.f⟩⟩
instance : Neg PS := ⟨fun a => ⟨fun i => -a.f i⟩⟩
instance : Sub PS := ⟨fun a b => ⟨fun i => a.f i + -b.f i⟩⟩
instance : NatCast PS := ⟨fun n => pc n⟩
instance : IntCast PS := ⟨pc⟩
instance (n : Nat) : OfNat PS n := ⟨pc n⟩
def PS.pw (a : PS) : Nat → PS
  | 0 => 1
  | n + 1 => PS.pw a n * a
instance : HPow PS Nat PS := ⟨PS.pw⟩
instance : SMul Nat PS := ⟨fun n a => (n : PS) * a⟩
instance : SMul Int PS := ⟨fun n a => (n : PS) * a⟩
theorem PS.mul_f (a b : PS) : (a * b).f = cf a.f b.f := rfl
theorem pc_add (a b : Int) : pc (a + b) = pc a + pc b := PS.ext (funext fun i => Int.add_mul a b _)
theorem pc_mul (a b : Int) : pc (a * b) = pc a * pc b := PS.ext (by rw [PS.mul_f]; exact (cst_mul a b).symm)
theorem pc_neg (a : Int) : pc (-a) = -pc a := PS.ext (funext fun i => Int.neg_mul a _)
theorem ps_one_mul (a : PS) : 1 * a = a := PS.ext (funext fun i => by
  show cf (cst 1) a.f i = a.f i
  rw [cst_cf]
  exact Int.one_mul _)
theorem ps_mul_comm (a b : PS) : a * b = b * a := PS.ext (cfC _ _)
theorem ps_zero_f (i : Nat) : (0 : PS).f i = 0 := Int.zero_mul _
theorem ps_zero_mul (a : PS) : 0 * a = 0 := PS.ext (funext fun i => by
  rw [ps_zero_f]
  show cf (0 : PS).f a.f i = 0
  exact cf_zero_l ps_zero_f i)
theorem ps_neg_smul (i : Int) (a : PS) : (-i) • a = -(i • a) := PS.ext (funext fun k => by
  show cf (cst (-i)) a.f k = -cf (cst i) a.f k
  rw [cst_cf, cst_cf]
  exact Int.neg_mul _ _)
instance psRing : Lean.Grind.CommRing PS where
  add_zero a := PS.ext (funext fun i => by show a.f i + (0 : PS).f i = a.f i; rw [ps_zero_f, Int.add_zero])
  add_comm a b := PS.ext (funext fun i => Int.add_comm _ _)
  add_assoc a b c := PS.ext (funext fun i => Int.add_assoc _ _ _)
  mul_assoc a b c := PS.ext (cfA _ _ _)
  mul_one a := by rw [ps_mul_comm, ps_one_mul]
  one_mul := ps_one_mul
  left_distrib a b c := PS.ext (funext fun i => cf_add _ _ _ i)
  right_distrib a b c := PS.ext (funext fun i => cf_add_l _ _ _ i)
  zero_mul := ps_zero_mul
  mul_zero a := by rw [ps_mul_comm, ps_zero_mul]
  pow_zero a := rfl
  pow_succ a n := rfl
  ofNat_succ a := pc_add a 1
  neg_add_cancel a := PS.ext (funext fun i => by show -a.f i + a.f i = (0 : PS).f i; rw [ps_zero_f]; omega)
  sub_eq_add_neg a b := rfl
  neg_zsmul := ps_neg_smul
  intCast_neg i := pc_neg i
  mul_comm := ps_mul_comm
/-- a degree allows cancelling -/
theorem PS.cancel {a b c : PS} {n N M : Nat} (d : Dg a.f n) (hb : Fz b.f N) (hc : Fz c.f M) (e : a * b = a * c) : b = c :=
  PS.ext (funext fun i => cf_cancel d (n := max N M) (hb.mono (Nat.le_max_left _ _)) (hc.mono (Nat.le_max_right _ _)) (fun k => congrFun (congrArg PS.f e) k) i)
theorem pc_dg {c : Int} (h : c ≠ 0) : Dg (pc c).f 0 := ⟨by show c * xp 0 0 ≠ 0; rw [show xp 0 0 = 1 from rfl, Int.mul_one]; exact h, (cst_fz c)⟩
abbrev pl (xs : List Int) : PS := ⟨ff xs⟩
example (a b c : PS) (h : a * b = c) : (a + b) * (a - b) * a = a ^ 3 - c * b := by grind
/-- two ways to say it -/
theorem Qn.ps {X Y : PS} {as bs : List Int} {a b : Int} (q : Qn X.f Y.f as a bs b) : pc b * (pl as * Y) = pc a * (X * pl bs) := PS.ext q.eq
/-- the same value by other polynomials -/
theorem Qn.move {X Y X' Y' : PS} {as bs : List Int} {a b : Int} {n N M : Nat} (q : Qn X.f Y.f as a bs b) (dY : Dg Y.f n) (fY : Fz Y'.f N) (fX : Fz X'.f M) (e : X * Y' = X' * Y) : Qn X'.f Y'.f as a bs b := by
  refine ⟨q.sa, q.sb, q.bne, q.mon, q.cop, ?_⟩
  have z := q.ps
  have k : Y * (pc b * (pl as * Y')) = Y * (pc a * (X' * pl bs)) := by grind
  exact congrArg PS.f (PS.cancel dY (((cst_fz b).cf ((ff_fz as).cf fY))) (((cst_fz a).cf (fX.cf (ff_fz bs)))) k)
end CB

namespace CB
open PySem PySem.Spec PyProof.Rows L2
/-! ### small solutions of linear equations, by the pigeonhole principle -/
theorem pig_class {α : Type} (f : α → Nat) (T : Nat) : ∀ (K : Nat) (L : List α), (∀ a ∈ L, f a < K) → K * T < L.length → ∃ c, c < K ∧ T < (L.filter fun a => decide (f a = c)).length
  | 0, L, h, hl => by
    match L, hl with
    | a :: r, _ => exact absurd (h a (List.mem_cons_self ..)) (Nat.not_lt_zero _)
  | K + 1, L, h, hl => by
    by_cases c : T < (L.filter fun a => decide (f a = K)).length
    · exact ⟨K, Nat.lt_succ_self _, c⟩
    · have z : (L.filter fun a => decide (f a = K)).length + (L.filter fun a => !decide (f a = K)).length = L.length := by
        have y := List.length_eq_countP_add_countP (fun a => decide (f a = K)) (l := L)
        rw [List.countP_eq_length_filter, List.countP_eq_length_filter] at y
        have e1_ : (L.filter fun a => decide ¬ (fun a => decide (f a = K)) a = true) = L.filter fun a => !decide (f a = K) := by
          congr 1
          funext a
          simp
        rw [e1_] at y
        omega
      rw [Nat.succ_mul] at hl
      obtain ⟨c2, h2, h3⟩ := pig_class f T K (L.filter fun a => !decide (f a = K)) (fun a ha => by
        obtain ⟨h1, h2⟩ := List.mem_filter.mp ha
        have := h a h1
        have : f a ≠ K := by simpa using h2
        omega) (by omega)
      refine ⟨c2, by omega, Nat.lt_of_lt_of_le h3 ?_⟩
      rw [List.filter_filter]
      rw [← List.countP_eq_length_filter, ← List.countP_eq_length_filter]
      exact List.countP_mono_left fun a _ ha => (Bool.and_eq_true _ _ ▸ ha).1
theorem pig_all {α : Type} (f : Nat → α → Nat) (K : Nat) : ∀ (M : Nat) (L : List α), (∀ e, e < M → ∀ a ∈ L, f e a < K) → K ^ M < L.length → ∃ L', List.Sublist L' L ∧ 1 < L'.length ∧ ∀ e, e < M → ∀ a ∈ L', ∀ b ∈ L', f e a = f e b
  | 0, L, _, hl => ⟨L, List.Sublist.refl _, by simpa using hl, fun e he => absurd he (Nat.not_lt_zero _)⟩
  | M + 1, L, h, hl => by
    obtain ⟨c, hc, h2⟩ := pig_class (f M) (K ^ M) K L (h M (Nat.lt_succ_self _)) (by rw [Nat.pow_succ, Nat.mul_comm] at hl; exact hl)
    obtain ⟨L', s, l1, eq⟩ := pig_all f K M (L.filter fun a => decide (f M a = c)) (fun e he a ha => h e (by omega) a (List.mem_filter.mp ha).1) h2
    refine ⟨L', s.trans List.filter_sublist, l1, fun e he a ha b hb => ?_⟩
    by_cases z : e = M
    · subst z
      have ea := of_decide_eq_true (List.mem_filter.mp (s.subset ha)).2
      have eb := of_decide_eq_true (List.mem_filter.mp (s.subset hb)).2
      rw [ea, eb]
    · exact eq e (by omega) a ha b hb
/-- the digits to the base B + 1 -/
def dgt (B t j : Nat) : Nat := t / (B + 1) ^ j % (B + 1)
theorem dgt_le (B t j : Nat) : dgt B t j ≤ B := by
  have := Nat.mod_lt (t / (B + 1) ^ j) (show 0 < B + 1 from Nat.succ_pos B)
  unfold dgt
  omega
theorem dgt_uniq (B : Nat) : ∀ (N t t' : Nat), t < (B + 1) ^ N → t' < (B + 1) ^ N → (∀ j, j < N → dgt B t j = dgt B t' j) → t = t'
  | 0, t, t', h, h', _ => by
    rw [Nat.pow_zero] at h h'
    omega
  | N + 1, t, t', h, h', e => by
    have z := e 0 (by omega)
    unfold dgt at z
    rw [Nat.pow_zero, Nat.div_one, Nat.div_one] at z
    rw [Nat.pow_succ] at h h'
    have ih := dgt_uniq B N (t / (B + 1)) (t' / (B + 1)) (Nat.div_lt_of_lt_mul (by rw [Nat.mul_comm]; exact h)) (Nat.div_lt_of_lt_mul (by rw [Nat.mul_comm]; exact h')) (fun j hj => by
      have y := e (j + 1) (by omega)
      unfold dgt at y ⊢
      rw [Nat.pow_succ, Nat.mul_comm, ← Nat.div_div_eq_div_mul, ← Nat.div_div_eq_div_mul] at y
      exact y)
    rw [← Nat.div_add_mod t (B + 1), ← Nat.div_add_mod t' (B + 1), ih, z]
theorem sum_sub (F G : Nat → Int) : ∀ n, sumTo (fun i => F i - G i) n = sumTo F n - sumTo G n
  | 0 => rfl
  | n + 1 => by
    show sumTo (fun i => F i - G i) n + (F n - G n) = sumTo F n + F n - (sumTo G n + G n)
    rw [sum_sub F G n]
    omega
theorem sum_le {F : Nat → Int} {C : Nat} : ∀ n, (∀ i, i < n → (F i).natAbs ≤ C) → (sumTo F n).natAbs ≤ n * C
  | 0, _ => by simp [sumTo]
  | n + 1, h => by
    have ih := sum_le n fun i hi => h i (by omega)
    have := h n (by omega)
    have z := Int.natAbs_add_le (sumTo F n) (F n)
    show (sumTo F n + F n).natAbs ≤ _
    rw [Nat.succ_mul]
    omega
theorem pow_le_mul {a b c : Nat} (h : a ≤ b * c) : ∀ n, a ^ n ≤ b ^ n * c ^ n := fun n => by
  rw [← Nat.mul_pow]
  exact Nat.pow_le_pow_left h n
/-- Siegel: fewer equations than unknowns have a small solution -/
theorem siegel (A : Nat → Nat → Int) {N M H : Nat} (hM : M < N) (H1 : 1 ≤ H) (hA : ∀ e j, (A e j).natAbs ≤ H) : ∃ x : Nat → Int, (∃ j, j < N ∧ x j ≠ 0) ∧ (∀ j, (x j).natAbs ≤ (2 * N * H) ^ M) ∧ (∀ e, e < M → sumTo (fun j => A e j * x j) N = 0) ∧ Fz x N := by
  obtain ⟨B, eB⟩ : ∃ B, B = (2 * N * H) ^ M := ⟨_, rfl⟩
  obtain ⟨V, eV⟩ : ∃ V : Nat → Nat → Int, V = fun e t => sumTo (fun j => A e j * (dgt B t j : Int)) N := ⟨_, rfl⟩
  have vb : ∀ e t, (V e t).natAbs ≤ N * (H * B) := fun e t => by
    rw [eV]
    refine sum_le N fun j _ => ?_
    rw [Int.natAbs_mul]
    exact Nat.mul_le_mul (hA e j) (by rw [Int.natAbs_natCast]; exact dgt_le B t j)
  have nh : 1 ≤ 2 * N * H := Nat.mul_pos (by omega) (by omega)
  obtain ⟨L', s, l1, eq⟩ := pig_all (fun e t => (V e t + ((N * (H * B) : Nat) : Int)).toNat) (2 * (N * (H * B)) + 1) M (List.range ((B + 1) ^ N)) (fun e _ t _ => by have := vb e t; omega) (by
    rw [List.length_range]
    have a1 : 2 * (N * (H * B)) + 1 ≤ 2 * N * H * (B + 1) := by
      have : 2 * (N * (H * B)) = 2 * N * H * B := by rw [Nat.mul_assoc, Nat.mul_assoc]
      rw [this, Nat.mul_add]
      omega
    have a2 := pow_le_mul a1 M
    rw [← eB] at a2
    have a3 : B * (B + 1) ^ M < (B + 1) * (B + 1) ^ M := Nat.mul_lt_mul_of_pos_right (Nat.lt_succ_self B) (Nat.pow_pos (Nat.succ_pos B))
    have a4 : (B + 1) * (B + 1) ^ M ≤ (B + 1) ^ N := by
      rw [Nat.mul_comm, ← Nat.pow_succ]
      exact Nat.pow_le_pow_right (Nat.succ_pos B) hM
    omega)
  obtain ⟨t, t', r, hr⟩ : ∃ t t' r, L' = t :: t' :: r := by
    match L', l1 with
    | t :: t' :: r, _ => exact ⟨t, t', r, rfl⟩
  have nd := s.nodup List.nodup_range
  rw [hr] at nd
  have ne : t ≠ t' := fun z => by
    rw [z] at nd
    simp at nd
  have m1 : t ∈ L' := by rw [hr]; simp
  have m2 : t' ∈ L' := by rw [hr]; simp
  have b1 := List.mem_range.mp (s.subset m1)
  have b2 := List.mem_range.mp (s.subset m2)
  have dif : ∃ j, j < N ∧ dgt B t j ≠ dgt B t' j := Classical.byContradiction fun c => ne (dgt_uniq B N t t' b1 b2 fun j hj => Classical.byContradiction fun d => c ⟨j, hj, d⟩)
  refine ⟨fun j => if j < N then (dgt B t j : Int) - dgt B t' j else 0, ?_, fun j => ?_, fun e he => ?_, fun j hj => if_neg (by omega)⟩
  · obtain ⟨j, hj, d⟩ := dif
    refine ⟨j, hj, ?_⟩
    show (if j < N then (dgt B t j : Int) - dgt B t' j else 0) ≠ 0
    rw [if_pos hj]
    omega
  · rw [← eB]
    show (if j < N then (dgt B t j : Int) - dgt B t' j else 0).natAbs ≤ B
    have := dgt_le B t j
    have := dgt_le B t' j
    split <;> omega
  · have z := eq e he t m1 t' m2
    have v1 := vb e t
    have v2 := vb e t'
    have z2 : V e t = V e t' := by
      have : (V e t + ((N * (H * B) : Nat) : Int)).toNat = (V e t' + ((N * (H * B) : Nat) : Int)).toNat := z
      omega
    rw [eV] at z2
    have z3 : sumTo (fun j => A e j * (if j < N then (dgt B t j : Int) - dgt B t' j else 0)) N = sumTo (fun j => A e j * (dgt B t j : Int) - A e j * (dgt B t' j : Int)) N := sumTo_congr N fun j hj => by rw [if_pos hj, Int.mul_sub]
    rw [z3, sum_sub]
    have z4 : sumTo (fun j => A e j * (dgt B t j : Int)) N = sumTo (fun j => A e j * (dgt B t' j : Int)) N := z2
    omega
end CB

namespace CB
open PySem PySem.Spec PyProof.Rows L2
/-! ### whole roots: values modulo, lifting, bounds -/
theorem pow_tay (x h : Int) : ∀ n : Nat, ∃ c, (x + h) ^ (n + 1) = x ^ (n + 1) + ((n : Int) + 1) * x ^ n * h + h * h * c
  | 0 => ⟨0, by rw [Int.pow_succ, Int.pow_succ, Int.pow_zero, Int.pow_zero]; simp⟩
  | n + 1 => by
    obtain ⟨c, e⟩ := pow_tay x h n
    refine ⟨((n : Int) + 1) * x ^ n + c * (x + h), ?_⟩
    rw [Int.pow_succ, e, Int.pow_succ x (n + 1), Int.pow_succ x n]
    push_cast
    generalize x ^ n = P
    grind
/-- the value at x + h up to h ^ 2 -/
theorem tay (f : Nat → Int) (x h : Int) : ∀ N, ∃ t, e1 f (x + h) (N + 1) = e1 f x (N + 1) + h * e1 (dv f) x N + h * h * t
  | 0 => ⟨0, by show 0 + f 0 * (x + h) ^ 0 = 0 + f 0 * x ^ 0 + h * 0 + h * h * 0; simp⟩
  | N + 1 => by
    obtain ⟨t, e⟩ := tay f x h N
    obtain ⟨c, ec⟩ := pow_tay x h N
    refine ⟨t + f (N + 1) * c, ?_⟩
    show e1 f (x + h) (N + 1) + f (N + 1) * (x + h) ^ (N + 1) = e1 f x (N + 1) + f (N + 1) * x ^ (N + 1) + h * (e1 (dv f) x N + dv f N * x ^ N) + h * h * (t + f (N + 1) * c)
    rw [e, ec]
    unfold dv
    generalize x ^ (N + 1) = P
    generalize x ^ N = R
    grind
theorem e1_mod (f : Nat → Int) {m x y : Int} (h : m ∣ x - y) : ∀ N, m ∣ e1 f x N - e1 f y N
  | 0 => by show m ∣ 0 - 0; simp
  | N + 1 => by
    have ih := e1_mod f h N
    have hp : ∀ n : Nat, m ∣ x ^ n - y ^ n := fun n => by
      induction n with
      | zero => simp
      | succ n ih =>
        have : x ^ (n + 1) - y ^ (n + 1) = x * (x ^ n - y ^ n) + y ^ n * (x - y) := by rw [Int.pow_succ, Int.pow_succ]; generalize x ^ n = P; generalize y ^ n = R; grind
        rw [this]
        exact Int.dvd_add (Int.dvd_trans ih ⟨x, Int.mul_comm _ _⟩) (Int.dvd_trans h ⟨y ^ n, Int.mul_comm _ _⟩)
    have : e1 f x (N + 1) - e1 f y (N + 1) = (e1 f x N - e1 f y N) + f N * (x ^ N - y ^ N) := by
      show e1 f x N + f N * x ^ N - (e1 f y N + f N * y ^ N) = _
      rw [Int.mul_sub]
      omega
    rw [this]
    exact Int.dvd_add ih (Int.dvd_trans (hp N) ⟨f N, Int.mul_comm _ _⟩)
theorem lift_a {m q w p v D t F : Int} (hF : F = m * q + m * m * p) (hD : v * D = 1 + m * w) : m * q + -(F * v) * D + -(F * v) * -(F * v) * t = m * m * (q * -w + -(p * v * D) + (q + m * p) * (q + m * p) * v * v * t) := by
  subst hF
  have : (m * q + m * m * p) * v * D = (m * q + m * m * p) * (v * D) := Int.mul_assoc _ _ _
  grind
theorem lift_b {m v D g G y w : Int} (h1 : v * D - 1 = m * w) (h3 : G = D + m * m * g) : (v * (2 - G * v) + m * m * y) * D - 1 = m * m * (y * D - v * v * g * D - w * w) := by
  subst h3
  grind
theorem lift_c {m k p v D w t s : Int} (h : v * D = 1 + m * w) : m * k + (-(m * k * D) - m * k * (m * k) * t + m * m * p) * v - m * m * s = m * m * (-s + p * v - k * w - k * k * t * v) := by
  grind
/-- the state of the lifting: m the modulus, r the root, v the inverse of the slope -/
structure Lft (f : Nat → Int) (N : Nat) (m r v : Int) : Prop where
  m2 : 2 ≤ m
  r0 : 0 ≤ r
  r1 : r < m
  a : m ∣ e1 f r (N + 1)
  b : m ∣ v * e1 (dv f) r N - 1
theorem Lft.step {f : Nat → Int} {N : Nat} {m r v F r2 G v2 : Int} (L : Lft f N m r v) (hF : m * m ∣ F - e1 f r (N + 1)) (e2 : r2 = (r - F * v) % (m * m)) (hG : m * m ∣ G - e1 (dv f) r2 N) (e3 : v2 = v * (2 - G * v) % (m * m)) : Lft f N (m * m) r2 v2 ∧ (m ∣ r2 - r) ∧ ∀ z : Int, e1 f z (N + 1) = 0 → m ∣ z - r → m * m ∣ z - r2 := by
  have m2 := L.m2
  have M0 : 0 < m * m := Int.mul_pos (by omega) (by omega)
  have M2 : 2 ≤ m * m := by
    have : 2 * 2 ≤ m * m := Int.mul_le_mul m2 m2 (by decide) (by omega)
    omega
  have mM : m ∣ m * m := ⟨m, rfl⟩
  obtain ⟨p, hp⟩ := hF
  obtain ⟨q, hq⟩ := L.a
  obtain ⟨w, hw⟩ := L.b
  have d2 : m * m ∣ r2 - (r - F * v) := by
    rw [e2]
    have := Int.emod_add_mul_ediv (r - F * v) (m * m)
    exact ⟨-((r - F * v) / (m * m)), by rw [Int.mul_neg]; omega⟩
  obtain ⟨s, hs⟩ := d2
  have mr : m ∣ r2 - r := ⟨m * s - (q + m * p) * v, by grind⟩
  -- the value at the new root
  obtain ⟨t, ht⟩ := tay f r (-(F * v)) N
  have a2 : m * m ∣ e1 f r2 (N + 1) := by
    have c := e1_mod f (m := m * m) (x := r2) (y := r + -(F * v)) ⟨s, by rw [← hs]; omega⟩ (N + 1)
    have k : m * m ∣ e1 f (r + -(F * v)) (N + 1) := by
      rw [ht, hq]
      exact ⟨_, lift_a (w := w) (p := p) (by omega) (by omega)⟩
    have := Int.dvd_add c k
    rwa [Int.sub_add_cancel] at this
  have dd := e1_mod (dv f) mr N
  obtain ⟨u, hu⟩ := dd
  obtain ⟨g, hg⟩ := hG
  have b2 : m * m ∣ v2 * e1 (dv f) r2 N - 1 := by
    have d3 : m * m ∣ v2 - v * (2 - G * v) := by
      rw [e3]
      have := Int.emod_add_mul_ediv (v * (2 - G * v)) (m * m)
      exact ⟨-(v * (2 - G * v) / (m * m)), by rw [Int.mul_neg]; omega⟩
    obtain ⟨y, hy⟩ := d3
    -- 1 - v F'2 = - m (w + v u)
    have h1 : v * e1 (dv f) r2 N - 1 = m * (w + v * u) := by
      have : e1 (dv f) r2 N = e1 (dv f) r N + m * u := by omega
      rw [this, Int.mul_add, Int.mul_add, ← hw]
      have : v * (m * u) = m * (v * u) := by rw [← Int.mul_assoc, Int.mul_comm v m, Int.mul_assoc]
      omega
    have h2 : v2 = v * (2 - G * v) + m * m * y := by omega
    rw [h2]
    exact ⟨_, lift_b (g := g) h1 (by omega)⟩
  refine ⟨⟨M2, by rw [e2]; exact Int.emod_nonneg _ (by omega), by rw [e2]; exact Int.emod_lt_of_pos _ M0, a2, b2⟩, mr, fun z hz hzr => ?_⟩
  obtain ⟨k, hk⟩ := hzr
  obtain ⟨t2, ht2⟩ := tay f r (z - r) N
  rw [show r + (z - r) = z by omega, hz] at ht2
  -- z - r2 = (z - r) + F v - m m s
  have e5 : z - r2 = (z - r) + F * v - m * m * s := by omega
  have e6 : F = e1 f r (N + 1) + m * m * p := by omega
  have e7 : e1 f r (N + 1) = -((z - r) * e1 (dv f) r N) - (z - r) * (z - r) * t2 := by omega
  rw [e5, e6, e7, hk]
  exact ⟨_, lift_c (w := w) (by omega)⟩
/-! ### derivatives, roots of a product -/
def PS.d (a : PS) : PS := ⟨dv a.f⟩
theorem dv_fz {f : Nat → Int} {N : Nat} (h : Fz f (N + 1)) : Fz (dv f) N := fun i hi => by
  show ((i : Int) + 1) * f (i + 1) = 0
  rw [h _ (by omega), Int.mul_zero]
/-- x - z -/
def lin (z : Int) : PS := ⟨xp 1⟩ + pc (-z)
theorem lin_dg (z : Int) : Dg (lin z).f 1 := ⟨by show xp 1 1 + -z * xp 0 1 ≠ 0; unfold xp; simp, fun i hi => by
  show xp 1 i + -z * xp 0 i = 0
  unfold xp
  rw [if_neg (by omega), if_neg (by omega)]
  simp⟩
/-- the value at a number -/
def Ev (a : PS) (x v : Int) : Prop := ∃ N, Fz a.f N ∧ e1 a.f x N = v
theorem Ev.uniq {a : PS} {x v w : Int} (h : Ev a x v) (k : Ev a x w) : v = w := by
  obtain ⟨N, hN, e⟩ := h
  obtain ⟨M, hM, e2⟩ := k
  rw [← e, ← e2, ← e1_more hN (Nat.le_max_left N M), ← e1_more hM (Nat.le_max_right N M)]
theorem Ev.mul {a b : PS} {x v w : Int} (h : Ev a x v) (k : Ev b x w) : Ev (a * b) x (v * w) := by
  obtain ⟨N, hN, e⟩ := h
  obtain ⟨M, hM, e2⟩ := k
  exact ⟨N + M, hN.cf hM, by rw [← e, ← e2]; exact e1_cf hN hM⟩
theorem e1_plus (f g : Nat → Int) (x : Int) : ∀ N, e1 (fun i => f i + g i) x N = e1 f x N + e1 g x N
  | 0 => rfl
  | N + 1 => by
    show e1 (fun i => f i + g i) x N + (f N + g N) * x ^ N = e1 f x N + f N * x ^ N + (e1 g x N + g N * x ^ N)
    rw [e1_plus f g x N, Int.add_mul]
    omega
theorem Ev.add {a b : PS} {x v w : Int} (h : Ev a x v) (k : Ev b x w) : Ev (a + b) x (v + w) := by
  obtain ⟨N, hN, e⟩ := h
  obtain ⟨M, hM, e2⟩ := k
  refine ⟨max N M, (hN.mono (Nat.le_max_left _ _)).add (hM.mono (Nat.le_max_right _ _)), ?_⟩
  rw [← e, ← e2, ← e1_more hN (Nat.le_max_left N M), ← e1_more hM (Nat.le_max_right N M)]
  exact e1_plus _ _ _ _
theorem Ev.pc (c x : Int) : Ev (pc c) x c := ⟨1, cst_fz c, by show 0 + c * xp 0 0 * x ^ 0 = c; unfold xp; simp⟩
theorem Ev.lin (z : Int) : Ev (lin z) z 0 := ⟨2, (lin_dg z).up, by
  show 0 + (xp 1 0 + -z * xp 0 0) * z ^ 0 + (xp 1 1 + -z * xp 0 1) * z ^ 1 = 0
  unfold xp
  rw [Int.pow_zero, Int.pow_succ, Int.pow_zero]
  simp
  omega⟩
theorem Ev.ex {a : PS} {N : Nat} (h : Fz a.f N) (x : Int) : ∃ v, Ev a x v := ⟨_, N, h, rfl⟩
theorem Ev.of {a : PS} {N : Nat} (h : Fz a.f N) (x : Int) : Ev a x (e1 a.f x N) := ⟨N, h, rfl⟩
theorem pc_fz (c : Int) : Fz (CB.pc c).f 1 := cst_fz c
theorem ps_fz_mul {a b : PS} {N M : Nat} (h : Fz a.f N) (k : Fz b.f M) : Fz (a * b).f (N + M) := h.cf k
theorem ps_fz_add {a b : PS} {N M : Nat} (h : Fz a.f N) (k : Fz b.f M) : Fz (a + b).f (max N M) := (h.mono (Nat.le_max_left _ _)).add (k.mono (Nat.le_max_right _ _))
theorem ps_pw_succ (a : PS) (n : Nat) : a ^ (n + 1) = a ^ n * a := rfl
theorem ps_pw_zero (a : PS) : a ^ 0 = 1 := rfl
end CB

namespace CB
open PySem PySem.Spec PyProof.Rows L2
/-! ### p / gcd(p, p') has no factor twice -/
/-- Dv in the ring -/
theorem Dv.ps {d p : PS} (h : Dv d.f p.f) : ∃ (c : Int) (s : PS) (N : Nat), c ≠ 0 ∧ Fz s.f N ∧ pc c * p = s * d := by
  obtain ⟨m, s, N, m0, hs, e⟩ := h
  refine ⟨m, ⟨s⟩, N, m0, hs, PS.ext (funext fun i => ?_)⟩
  show cf (cst m) p.f i = cf s d.f i
  rw [cst_cf]
  exact e i
theorem Dv.of_ps {d p s : PS} {c : Int} {N : Nat} (c0 : c ≠ 0) (fs : Fz s.f N) (e : pc c * p = s * d) : Dv d.f p.f := ⟨c, s.f, N, c0, fs, fun i => by
  have z := congrFun (congrArg PS.f e) i
  have z2 : cf (cst c) p.f i = cf s.f d.f i := z
  rw [cst_cf] at z2
  exact z2⟩
/-- a divisor of one degree: both divide each other -/
theorem Dv.back {d p : Nat → Int} {n : Nat} (h : Dv d p) (dd : Dg d n) (dp : Dg p n) : Dv p d := by
  obtain ⟨c, s, M, c0, hs, es⟩ := h
  rcases zero_or_dg M hs with z | ⟨j, _, dj⟩
  · exfalso
    have y := es n
    rw [cf_zero_l z] at y
    rcases Int.mul_eq_zero.mp y with y | y
    · exact c0 y
    · exact dp.top y
  · have jd := dj.cf dd
    have ja : Dg (cf s d) n := ⟨by rw [← es]; exact Int.mul_ne_zero c0 dp.top, fun i hi => by rw [← es, dp.up i hi, Int.mul_zero]⟩
    have := jd.uniq ja
    have j0 : j = 0 := by omega
    subst j0
    have sc : ∀ i, s i = s 0 * xp 0 i := fun i => by
      by_cases z : i = 0
      · subst z
        show s 0 = s 0 * 1
        omega
      · rw [dj.up i (by omega)]
        show 0 = s 0 * (if i = 0 then 1 else 0)
        rw [if_neg z]; omega
    refine ⟨s 0, fun i => c * xp 0 i, 1, dj.top, (xp_fz 0).scale c, fun i => ?_⟩
    rw [cf_scale_l, cf_one, es, cf_congr sc (fun _ => rfl) i, cf_scale_l, cf_one]
theorem bt_fz {f : Nat → Int} : ∀ N, Fz f N → ∃ k, Bt k f
  | 0, h => ⟨0, fun i => by rw [h i (Nat.zero_le _)]; decide⟩
  | N + 1, h => by
    obtain ⟨k, hk⟩ := bt_fz (f := fun i => if i < N then f i else 0) N (fun i hi => if_neg (by omega))
    refine ⟨max k (f N).natAbs, fun i => ?_⟩
    by_cases c : i < N
    · have : (if i < N then f i else 0).natAbs < 2 ^ k := hk i
      rw [if_pos c] at this
      exact Nat.lt_of_lt_of_le this (Nat.pow_le_pow_right (by decide) (Nat.le_max_left _ _))
    · by_cases c2 : i = N
      · subst c2
        exact Nat.lt_of_lt_of_le Nat.lt_two_pow_self (Nat.pow_le_pow_right (by decide) (Nat.le_max_right _ _))
      · rw [h i (by omega)]
        exact Nat.pow_pos (by decide)
/-- any two have a greatest common divisor -/
theorem euc_ex {A B : Nat → Int} {a b : Nat} (dA : Dg A a) (dB : Dg B b) : ∃ e m, Euc A B e ∧ Dg e m := by
  obtain ⟨k, hk⟩ := bt_fz _ dA.up
  obtain ⟨l, hl⟩ := bt_fz _ dB.up
  obtain ⟨e, _, E, ⟨m, _, D⟩, _, _⟩ := euclid _ dA dB (Nat.le_refl _) hk hl
  exact ⟨e, m, E, D⟩
/-- of least degree: it divides a polynomial or has nothing in common with it -/
structure Irr (d : PS) (m : Nat) : Prop where
  dg : Dg d.f m
  m1 : 1 ≤ m
  min : ∀ e k, Dg e k → Dv e d.f → 1 ≤ k → m ≤ k
theorem Irr.two {d : PS} {m : Nat} (h : Irr d m) {a : PS} {N : Nat} (fa : Fz a.f N) : Dv d.f a.f ∨ ∃ (c : Int) (u v : PS) (M : Nat), c ≠ 0 ∧ Fz u.f M ∧ Fz v.f M ∧ pc c = u * d + v * a := by
  rcases zero_or_dg N fa with z | ⟨k, _, da⟩
  · exact .inl (Dv.zero z)
  · obtain ⟨e, n, E, D⟩ := euc_ex h.dg da
    by_cases n0 : n = 0
    · subst n0
      right
      obtain ⟨u, v, M, hu, hv, c⟩ := E.comb
      refine ⟨e 0, ⟨u⟩, ⟨v⟩, M, D.top, hu, hv, PS.ext (funext fun i => ?_)⟩
      show e 0 * xp 0 i = cf u d.f i + cf v a.f i
      rw [← c]
      by_cases z : i = 0
      · subst z
        show e 0 * 1 = e 0
        omega
      · rw [D.up i (by omega)]
        show e 0 * (if i = 0 then 1 else 0) = 0
        rw [if_neg z]; omega
    · left
      have mn := h.min e n D E.da (by omega)
      have nm := E.da.deg D h.dg
      have : n = m := by omega
      subst this
      exact (E.da.back D h.dg).trans E.db
/-- and so it is prime -/
theorem Irr.prime {d : PS} {m : Nat} (h : Irr d m) {a b : PS} {N M : Nat} (fa : Fz a.f N) (fb : Fz b.f M) (hd : Dv d.f (a * b).f) : Dv d.f a.f ∨ Dv d.f b.f := by
  rcases h.two fa with z | ⟨c, u, v, L, c0, fu, fv, e⟩
  · exact .inl z
  · right
    obtain ⟨k, s, K, k0, fs, es⟩ := hd.ps
    refine Dv.of_ps (c := k * c) (s := pc k * (u * b) + v * s) (N := max (1 + (L + M)) (L + K)) (Int.mul_ne_zero k0 c0) (ps_fz_add (ps_fz_mul (pc_fz k) (ps_fz_mul fu fb)) (ps_fz_mul fv fs)) ?_
    rw [pc_mul]
    grind
theorem dv_dg {f : Nat → Int} {n : Nat} (h : Dg f (n + 1)) : Dg (dv f) n := ⟨by
  show ((n : Int) + 1) * f (n + 1) ≠ 0
  exact Int.mul_ne_zero (by omega) h.top, dv_fz h.up⟩
/-- it does not divide its derivative -/
theorem Irr.slope {d : PS} {m : Nat} (h : Irr d m) : ¬ Dv d.f d.d.f := fun z => by
  obtain ⟨n, rfl⟩ : ∃ n, m = n + 1 := ⟨m - 1, by have := h.m1; omega⟩
  have := z.deg h.dg (dv_dg h.dg)
  omega
/-- its powers taken out -/
theorem Irr.split {d : PS} {m : Nat} (h : Irr d m) : ∀ (N : Nat) (g : PS), Fz g.f N → (∃ i, g.f i ≠ 0) → ∃ (c : Int) (j : Nat) (r : PS) (M : Nat), c ≠ 0 ∧ Fz r.f M ∧ pc c * g = d ^ j * r ∧ ¬ Dv d.f r.f := fun N => by
  induction N using Nat.strongRecOn with
  | ind N ih =>
    intro g fg ne
    by_cases c : Dv d.f g.f
    · obtain ⟨k, s, K, k0, fs, es⟩ := c.ps
      have gd : ∃ n, n < N ∧ Dg g.f n := by
        rcases zero_or_dg N fg with z | ⟨n, hn, D⟩
        · obtain ⟨i, hi⟩ := ne
          exact absurd (z i) hi
        · exact ⟨n, hn, D⟩
      obtain ⟨n, nN, D⟩ := gd
      have sd : ∃ t, Dg s.f t := by
        rcases zero_or_dg K fs with z | ⟨t, _, D2⟩
        · exfalso
          have y := congrFun (congrArg PS.f es) n
          have y2 : cf (cst k) g.f n = cf s.f d.f n := y
          rw [cst_cf, cf_zero_l z] at y2
          rcases Int.mul_eq_zero.mp y2 with y | y
          · exact k0 y
          · exact D.top y
        · exact ⟨t, D2⟩
      obtain ⟨t, D2⟩ := sd
      have dk : Dg (pc k * g).f n := by
        have := (pc_dg k0).cf D
        rw [Nat.zero_add] at this
        exact this
      rw [es] at dk
      have := (D2.cf h.dg).uniq dk
      have m1 := h.m1
      obtain ⟨c2, j, r, M, c20, fr, er, nr⟩ := ih (t + 1) (by omega) s D2.up ⟨t, D2.top⟩
      refine ⟨c2 * k, j + 1, r, M, Int.mul_ne_zero c20 k0, fr, ?_, nr⟩
      rw [pc_mul, ps_pw_succ]
      grind
    · exact ⟨1, 0, g, N, by decide, fg, by rw [ps_pw_zero]; rfl, c⟩
end CB

namespace CB
open PySem PySem.Spec PyProof.Rows L2
/-! ### enough primes -/
def noSmall (n : Nat) : Bool := (List.range 60).all fun q => decide (q < 2) || decide (n < q * q) || decide (n % q ≠ 0)
def prsL : List Nat := (List.range 3600).filter fun n => decide (53 ≤ n) && noSmall n
def prodL : List Nat → Nat
  | [] => 1
  | p :: r => p * prodL r
theorem Pr.dvd {p : Nat} (h : Pr p) (a b : Nat) (d : p ∣ a * b) : p ∣ a ∨ p ∣ b := by
  have z := h.mul (a : Int) (b : Int) (by rw [← Int.natCast_mul]; exact Int.natCast_dvd_natCast.mpr d)
  rcases z with z | z
  · exact .inl (Int.natCast_dvd_natCast.mp z)
  · exact .inr (Int.natCast_dvd_natCast.mp z)
theorem pr_dvd {p q : Nat} (hp : Pr p) (hq : Pr q) (h : p ∣ q) : p = q := by
  obtain ⟨r, hr⟩ := h
  have z := hq.dvd p r (by rw [← hr]; exact Nat.dvd_refl q)
  have p2 := hp.two
  have q2 := hq.two
  rcases z with z | z
  · exact Nat.dvd_antisymm ⟨r, hr⟩ z
  · obtain ⟨t, ht⟩ := z
    exfalso
    have r0 : 0 < r := Nat.pos_of_ne_zero fun w => by rw [w, Nat.mul_zero] at hr; omega
    rw [ht, ← Nat.mul_assoc, Nat.mul_comm p q, Nat.mul_assoc] at hr
    have : q * (p * t) = q * 1 := by rw [Nat.mul_one]; exact hr.symm
    have e := Nat.eq_of_mul_eq_mul_left (by omega) this
    have : p ∣ 1 := ⟨t, e.symm⟩
    have := Nat.dvd_one.mp this
    omega
end CB

namespace CB
open PySem PySem.Spec PyProof.Rows L2 PySem.W
/-! ### min(.., default=d) -/
section
variable {X : Cx}
def rMinD (K : PySem.W.Frag) : List V → List V → Hp → VK → Prop := fun vs zs H Q => ∃ (a : Addr) (ns : List Int) (d : Int), vs = [V.ref a] ∧ zs = [V.int d] ∧ SqL K H a (ns.map V.int) ∧ (ns = [] → Q (.int d) H) ∧ ∀ m, m ∈ ns → (∀ y, y ∈ ns → m ≤ y) → Q (.int m) H
end
end CB

namespace CB
open PySem PySem.Spec PyProof.Rows L2
/-! ### sizes of divisors by seventeen places -/
def pts8 : List Int := [-8, -7, -6, -5, -4, -3, -2, -1, 0, 1, 2, 3, 4, 5, 6, 7, 8]
end CB

namespace CB
open PySem PySem.Spec PyProof.Rows L2
/-! ### polynomials by their values; moved ones -/
theorem bounded (f : Nat → Int) : ∀ N, ∃ H : Nat, ∀ i, i < N → (f i).natAbs ≤ H
  | 0 => ⟨0, fun i hi => absurd hi (by omega)⟩
  | N + 1 => by
    obtain ⟨H, h⟩ := bounded f N
    refine ⟨max H (f N).natAbs, fun i hi => ?_⟩
    by_cases c : i = N
    · rw [c]; omega
    · have := h i (by omega); omega
theorem zero_of_values {f : Nat → Int} {N : Nat} (fz : Fz f N) (h : ∀ x : Int, e1 f x N = 0) : ∀ i, f i = 0 := by
  rcases zero_or_dg _ fz with z | ⟨m, ml, dg⟩
  · exact z
  · exfalso
    obtain ⟨H, hH⟩ := bounded f N
    have hH2 : ∀ i, (f i).natAbs ≤ H := fun i => by
      by_cases c : i < N
      · exact hH i c
      · rw [fz i (by omega)]; exact Nat.zero_le _
    have big := e1_big dg hH2 (X := 2 ^ 24 * H + 29) (Nat.le_refl _)
    have e : e1 f ((2 ^ 24 * H + 29 : Nat) : Int) (m + 1) = e1 f ((2 ^ 24 * H + 29 : Nat) : Int) N := (e1_more (fun i hi => dg.up i (by omega)) (by omega)).symm
    rw [e, h] at big
    have : (0 : Int).natAbs = 0 := rfl
    rw [this, Nat.mul_zero] at big
    exact absurd big (Nat.not_lt_zero _)
/-- two of finite length with the same values are the same -/
theorem ps_values {a b : PS} {N M : Nat} (fa : Fz a.f N) (fb : Fz b.f M) (h : ∀ x v, Ev a x v → Ev b x v) : a = b := by
  have z := zero_of_values (f := fun i => a.f i + (-1) * b.f i) (N := max N M) (fun i hi => by show a.f i + -1 * b.f i = 0; rw [fa i (by omega), fb i (by omega)]; rfl) fun x => by
    have e := e1_plus a.f (fun i => (-1) * b.f i) x (max N M)
    rw [e, e1_scale', e1_more (N := N) (fun i hi => fa i hi) (by omega), e1_more (N := M) (fun i hi => fb i hi) (by omega)]
    have := (h x _ (Ev.of fa x)).uniq (Ev.of fb x)
    omega
  refine PS.ext (funext fun i => ?_)
  have := z i
  omega
/-- b is a moved by s -/
def Mv (s : Int) (a b : PS) : Prop := ∀ x v, Ev a (x + s) v → Ev b x v
theorem Mv.mul {s : Int} {a b c d : PS} {N M : Nat} (fa : Fz a.f N) (fc : Fz c.f M) (h : Mv s a b) (k : Mv s c d) : Mv s (a * c) (b * d) := fun x v e => by
  have e1 := Ev.of fa (x + s)
  have e2 := Ev.of fc (x + s)
  rw [e.uniq (e1.mul e2)]
  exact (h x _ e1).mul (k x _ e2)
theorem Mv.pc {s : Int} (c : Int) : Mv s (pc c) (pc c) := fun x v e => by
  rw [e.uniq (Ev.pc c (x + s))]
  exact Ev.pc c x
theorem IsSh.mv {s : Int} {zs ks : List Int} (h : IsSh s zs ks) : Mv s (pl ks) (pl zs) := fun x v e => by
  rw [e.uniq (Ev.of (a := pl ks) (ff_fz ks) (x + s))]
  have z := Ev.of (a := pl zs) (ff_fz zs) x
  have w : e1 (pl zs).f x zs.length = e1 (pl ks).f (x + s) ks.length := by
    rw [h.len, ← e1_shV]
    exact e1_congr fun i _ => h.at_ i
  rw [w] at z
  exact z
/-- an equation of polynomials stays so when all are moved -/
theorem mv_eq {s : Int} {L R L' R' : PS} {N M K : Nat} (fL : Fz L.f N) (fL' : Fz L'.f M) (fR' : Fz R'.f K) (h : L = R) (mL : Mv s L L') (mR : Mv s R R') : L' = R' := ps_values fL' fR' fun x v e => by
  have z := Ev.of fL (x + s)
  rw [e.uniq (mL x _ z)]
  exact mR x _ (h ▸ z)
/-- the quotient of the moved parts is the moved quotient -/
theorem Qn.moved {s : Int} {X Y X' Y' : PS} {as bs zs ws es ts : List Int} {a b ε τ : Int} {n m : Nat} {N M K : Nat} (q : Qn X.f Y.f as a bs b) (mX : Mv s X X') (mY : Mv s Y Y') (hz : IsSh s zs as) (hw : IsSh s ws bs)
    (fX : Fz X.f n) (fY : Fz Y.f m) (fX' : Fz X'.f N) (fY' : Fz Y'.f M) (dw : Dg (pl ws).f K) (q0 : Qn (pc b * pl zs).f (pc a * pl ws).f es ε ts τ) : Qn X'.f Y'.f es ε ts τ := by
  have e : pc b * (pl zs * Y') = pc a * (X' * pl ws) := by
    refine mv_eq (s := s) (L := pc b * (pl as * Y)) (R := pc a * (X * pl bs)) ((cst_fz b).cf ((ff_fz as).cf fY)) ((cst_fz b).cf ((ff_fz zs).cf fY')) ((cst_fz a).cf (fX'.cf (ff_fz ws))) q.ps ?_ ?_
    · exact (Mv.pc b).mul (cst_fz b) ((ff_fz as).cf fY) (hz.mv.mul (ff_fz as) fY mY)
    · exact (Mv.pc a).mul (cst_fz a) (fX.cf (ff_fz bs)) (mX.mul fX (ff_fz bs) hw.mv)
  have dY : Dg (pc a * pl ws).f (0 + K) := (pc_dg q.a0).cf dw
  refine q0.move dY fY' fX' ?_
  grind
end CB

namespace CB
open PySem PySem.Spec PyProof.Rows L2
/-! ### super().__init__(..) in an own exception's __init__ -/
/-- the context of a def that closes over its class -/
def cxK (CX : CXT) (P : Program) (w : World) (K : PySem.W.Frag) (mg : Str → Option Value) (base : Heap) (N : List Str) (qual : Str) (scope : Scope) (f : Addr) (cd : Value) (cc : Addr) (A : Around) (outer : List Env) (s : Shared) (H : Hp) (E : XK) : Cx where
  prog := P
  w := w
  K := K
  mg := mg
  base := base
  A := A.deeper (PySem.W.ksEnv qual scope s.heap.objs.size f cd cc)
  N := N
  s_0 := s
  H_0 := H
  env := PySem.W.ksEnv qual scope s.heap.objs.size f cd cc
  outer := outer
  stack := PySem.W.ksEnv qual scope s.heap.objs.size f cd cc :: outer
  ex := []
  calm := true
  fn := fun _ => false
  pn := []
  xe := fun e s' => wpAny (model P w) (A.deeper (PySem.W.ksEnv qual scope s.heap.objs.size f cd cc)) (leaving (PySem.W.ksEnv qual scope s.heap.objs.size f cd cc) e) (fun _ s'' => CX outer H s E e s'') (fun e' s'' => CX outer H s E e' s'') s'
/-- what such a scope holds: self and one more -/
structure SupScope (x0 x1 : Str) (sc : Scope) : Prop where
  kind : sc.kind = .function
  co : sc.isCoroutine = false
  gen : sc.isGenerator = false
  ne : x0 ≠ x1
  l0 : sc.names.lookup x0 = some .local
  l1 : sc.names.lookup x1 = some .local
  nocell : ∀ y ∈ sc.names, y.2 ≠ .cell
  free : ∀ y ∈ sc.names, y.2 = .free → y.1 = "__class__"
  cls : sc.names.lookup ("__class__" : Str) = some .free
  sup : sc.names.lookup ("super" : Str) = some .globalImplicit
section
variable {CX : CXT} {P : Program} {w : World} {K : PySem.W.Frag} {mg : Str → Option Value} {base : Heap} {x0 x1 : Str} {qual : Str} {scope : Scope} {f : Addr} {cd : Value} {cc D : Addr} {A : Around} {outer : List Env} {s : Shared} {H : Hp} {E : XK} {us : List Value} {v0 v1 : V} {cl : Value} {cld : Option Addr} {csl : Array (Option Value)} {h0 : Heap} {tk : Nat}
end
section
open PySem.W PySem.Calls
variable {P : Program} {w : World} {A : Around} {E : Value → Shared → Prop} {h : Heap} {g : Array GenState} {d : Drawn} {t : Nat} {os : OsState}
end
section
open PySem.W PySem.Calls
variable {CX : CXT} {P : Program} {w : World} {K : PySem.W.Frag} {mg : Str → Option Value} {base : Heap} {x0 x1 : Str} {name qual : Str} {params : Arguments} {scope : Scope} {f cda : Addr} {cc C : Addr} {k : Nat} {sp : Sp}
  {dV kV doc pm ct oc ccl cl : Value} {an od cdd cld : Option Addr} {osl ccs csl : Array (Option Value)} {ar : Arg} {vs : Array Value} {file : Str} {tf : Tok} {cdC : ClassData} {msg : Expr} {rest : List Stmt} {p0 p1 p2 p4 p5 : Pos}
end
section
open PySem.W
/-- the class at C is an own exception over ValueError whose objects have a dict -/
def oexB (K : Frag) (C : Addr) : Bool := (match K.lookup C with
  | some ⟨.type "type", _, .cls cd, sl⟩ => (match cd.mro, sl.toList with
    | .ref C' :: bm, [_, _, _, _, some (.builtin n), _] => C' == C && n == "ValueError.__new__" && !cd.hasDel && cd.hasDict && PySem.HandSPX.refsVE bm
    | _, _ => false)
  | _ => false) && He.eqO (findIn K (.ref C) "__setattr__") (some (some (.builtin "object.__setattr__"))) && decide (subIn K (.ref C) (.type "BaseException") = some true) && decide (typeIn K (.ref C) = some (.type "type")) && keepIn K (.ref C)
abbrev FnS : Type := Option (Str × Str × Arguments × FuncBody × Scope × Addr × List Str × Addr)
/-- a def's datum without the addresses of its cells -/
def fnS (K : Frag) (a : Addr) : FnS := match K.lookup a with
  | some ⟨_, _, .func fd, _⟩ => some (fd.name, fd.qualname, fd.params, fd.body, fd.scope, fd.globals, fd.closure.map (·.1), fd.builtins)
  | _ => none
def _root_.CB.DefG.valS (d : DefG) : FnS := some (d.name, d.qual, d.params, FuncBody.stmts d.body, d.scope, mainGlobals, [("__class__" : Str)], builtinsNs)
def supB (K : Frag) (C f : Addr) (qual fl : Str) : Bool := oexB K C && keepIn K (.ref f) && He.eqO (findIn K (.ref C) "__init__") (some (some (.ref f))) && decide (typeIn K (.ref f) = some (.type "function")) &&
  decide (mroIn K C (.ref C) = some true) && He.eqO (nsIn K cStatics "thirdparty.any") (some none) && He.eqO (ks_superIn K C C "__init__") (some (some (.builtin "ValueError.__init__"))) && decide (subIn K (.ref C) (.type "ValueError") = some true) &&
  (match K.lookup f with
  | some ⟨_, _, .func fd, _⟩ => (match fd.closure, fd.code with
    | [(_, cc)], .ref cda => codeIn K (.ref cda) qual && decide (fd.defaults = .none) && (match K.lookup cc with | some ⟨_, _, .cell (some (.ref c)), _⟩ => c == C | _ => false) &&
      (match K.lookup cda with | some ⟨_, _, .fields vs, _⟩ => (match (vs[2]? : Option Value) with | some (.str file _) => fl == file | _ => false) | _ => false)
    | _, _ => false)
  | _ => false)
/-- what is known of such an __init__ -/
structure SupD (K : Frag) (C f : Addr) (name qual : Str) (params : Arguments) (body : List Stmt) (scope : Scope) (fl : Str) : Prop where
  T : OexC K C
  kp : keepIn K (.ref f) = true
  init : findIn K (.ref C) "__init__" = some (some (.ref f))
  ty : typeIn K (.ref f) = some (.type "function")
  mro : mroIn K C (.ref C) = some true
  opq : nsIn K cStatics "thirdparty.any" = some none
  sup : ks_superIn K C C "__init__" = some (some (.builtin "ValueError.__init__"))
  ve : subIn K (.ref C) (.type "ValueError") = some true
  ex : ∃ (oc : Value) (od : Option Addr) (kV doc pm : Value) (an : Option Addr) (cda : Addr) (ct : Value) (cc : Addr) (osl : Array (Option Value)), K.lookup f = some ⟨oc, od, .func (ksFn name qual params body scope .none kV doc pm an (.ref cda) ct cc), osl⟩ ∧ codeIn K (.ref cda) qual = true ∧
    (∃ cl cld csl, K.lookup cc = some ⟨cl, cld, .cell (some (.ref C)), csl⟩) ∧ ∃ ccl cdd vs ccs file tf, K.lookup cda = some ⟨ccl, cdd, .fields vs, ccs⟩ ∧ vs[2]? = some (.str file tf) ∧ fl = file
end
/-- such an __init__(self, x): it keeps x as its field -/
def spExI (K : PySem.W.Frag) (C : Addr) (fld : Str) : Sp := fun vs H Q _ => ∃ (a : Addr) (v : V), vs = [.ref a, v] ∧ H a = some (exo a C none) ∧ ∀ dx, H dx = none → dx ≠ a → Q .non (upd (upd H dx (exd dx [(fld, v)])) a (exo a C (some dx)))
section
variable {P : Program} {w : World} {K : PySem.W.Frag} {mg : Str → Option Value} {base : Heap} {x0 x1 : Str} {name qual : Str} {params : Arguments} {scope : Scope} {body : List Stmt} {f C : Addr} {k : Nat} {ar : Arg} {fl fld text : Str} {j : Nat} {p0 p1 p2 p3 p4 p5 p6 p7 p8 p9 : Pos}
end
/-- isinstance(e, c), e the exception that the suite holds, with a field -/
def rIsED (K : PySem.W.Frag) (D a : Addr) (cls : Value) (d : Option Addr) : List V → Hp → VK → Prop := fun xs H Q => ∃ (c : V) (cv : Value) (b : Bool) (dx : Addr) (fs : List (Str × V)), xs = [.ref a, c] ∧ (∀ u, RelV c u → u = cv) ∧ PySem.W.kitOne K (.ref D) cv = some b ∧ cls = .ref D ∧ d = some dx ∧ H dx = some (.xd fs) ∧ Q (.bl b) H
/-- what such an __init__ asks of the program -/
structure SupP (P : Program) : Prop where
  file : P.main.file = "/claim/cut.py"
  top : (P.main.scope.names.lookup ("super" : Str)).isSome = false
/-- the defs that close over their class, as they are seen -/
def SupSays (sup : List DefG) (K : PySem.W.Frag) : Prop := sup.map (fun d => fnS K (d.at_ K)) = sup.map DefG.valS
theorem SupSays.at_ {sup : List DefG} {K : PySem.W.Frag} (c : SupSays sup K) (i : Nat) {d : DefG} (h : sup[i]? = some d := by rfl) : fnS K (d.at_ K) = d.valS := by
  have e : (sup.map fun d => fnS K (d.at_ K))[i]? = (sup.map DefG.valS)[i]? := by rw [show sup.map (fun d => fnS K (d.at_ K)) = sup.map DefG.valS from c]
  rw [List.getElem?_map, List.getElem?_map, h] at e
  exact Option.some.inj e
end CB

namespace CB
open PySem PySem.Spec PyProof.Rows L2
/-! ### calls of own defs in an except suite -/
/-- what a def promises to a caller in an except suite -/
def OkH (P : Program) (w : World) (K : PySem.W.Frag) (mg : Str → Option Value) (base : Heap) (k : Nat) (a : Addr) (ps : List Str) (sp : Sp) : Prop :=
  ∃ fd : FuncData, L2H.FnH P w K mg base (L2.CX P w) k a fd ps sp ∧ Binds K fd ps [] ∧ PySem.W.keepIn K (.ref a) = true
/-- a def that raises, its exceptions without a context -/
def OkN (P : Program) (w : World) (K : PySem.W.Frag) (mg : Str → Option Value) (base : Heap) (k : Nat) (a : Addr) (ps : List Str) (sp : Sp) : Prop :=
  ∃ fd : FuncData, FnOk P w K mg base (L2N.CX P w) k a fd ps sp ∧ Binds K fd ps [] ∧ PySem.W.keepIn K (.ref a) = true
section
variable {X : Cx} {e : Expr} {es : List Expr} {ta : TA} {p pos : Pos}
end
end CB

namespace CB
open PySem PySem.Spec PyProof.Rows L2
/-! ### terms: products of the ratio's values -/
theorem evLp (z : Int) (us : List Int) : Ev (pl us) z (evL z us) := by
  rw [evL_e1 z us us.length (Nat.le_refl _)]
  exact Ev.of (a := pl us) (ff_fz us) z
/-- the one form of a quotient, by values -/
theorem Qn.ev {xs ys as bs : List Int} {a b : Int} (q : Qn (ff xs) (ff ys) as a bs b) (z : Int) : b * (evL z as * evL z ys) = a * (evL z xs * evL z bs) := by
  have e : pc b * (pl as * pl ys) = pc a * (pl xs * pl bs) := PS.ext q.eq
  have h1 := (Ev.pc b z).mul ((evLp z as).mul (evLp z ys))
  rw [e] at h1
  exact h1.uniq ((Ev.pc a z).mul ((evLp z xs).mul (evLp z bs)))
theorem dv_root {as xs : List Int} {z : Int} (h : Dv (ff as) (ff xs)) (r : evL z as = 0) : evL z xs = 0 := by
  obtain ⟨m, s, N, m0, fs, e⟩ := h
  have e2 : pc m * pl xs = (⟨s⟩ : PS) * pl as := PS.ext (funext fun i => by
    show cf (cst m) (ff xs) i = cf s (ff as) i
    rw [cst_cf]
    exact e i)
  have h1 := (Ev.pc m z).mul (evLp z xs)
  rw [e2] at h1
  have h2 := h1.uniq ((Ev.of (a := (⟨s⟩ : PS)) (N := N) fs z).mul (evLp z as))
  rw [r, Int.mul_zero] at h2
  exact (Int.mul_eq_zero.mp h2).resolve_left m0
theorem Qn.nz {xs ys as bs : List Int} {a b : Int} (q : Qn (ff xs) (ff ys) as a bs b) {z : Int} (hx : evL z xs ≠ 0) (hy : evL z ys ≠ 0) : evL z as ≠ 0 ∧ evL z bs ≠ 0 :=
  ⟨fun r => hx (dv_root (q.as_dv (ff_fz xs) (ff_fz ys)) r), fun r => hy (dv_root (q.bs_dv (ff_fz xs) (ff_fz ys)) r)⟩
/-- the pairs of a ratio at s, s + 1, .. -/
def stL (as : List Int) (a : Int) (bs : List Int) (b s : Int) : Nat → List (Int × Int)
  | 0 => []
  | n + 1 => stL as a bs b s n ++ [(evL (s + n) as * b, evL (s + n) bs * a)]
def prA : List (Int × Int) → Int
  | [] => 1
  | p :: r => p.1 * prA r
def prB : List (Int × Int) → Int
  | [] => 1
  | p :: r => p.2 * prB r
/-- the sizes of pairs -/
structure StB (S : Nat) (ps : List (Int × Int)) : Prop where
  a : ∀ p ∈ ps, p.1.natAbs < 2 ^ S
  b : ∀ p ∈ ps, p.2.natAbs < 2 ^ S
theorem StB.take {S n : Nat} {ps : List (Int × Int)} (h : StB S ps) : StB S (ps.take n) := ⟨fun p hp => h.a p (List.mem_of_mem_take hp), fun p hp => h.b p (List.mem_of_mem_take hp)⟩
theorem StB.drop {S n : Nat} {ps : List (Int × Int)} (h : StB S ps) : StB S (ps.drop n) := ⟨fun p hp => h.a p (List.mem_of_mem_drop hp), fun p hp => h.b p (List.mem_of_mem_drop hp)⟩
/-- the product of the values at s, .., s + n - 1 -/
def prV (xs : List Int) (s : Int) : Nat → Int
  | 0 => 1
  | n + 1 => prV xs s n * evL (s + n) xs
/-- the sum of the first products, over the product of the second parts -/
def prT : List (Int × Int) → Int
  | [] => 0
  | p :: r => p.2 * prB r + p.1 * prT r
/-! ### lists of pairs -/
abbrev prS (p : Int × Int) : HO := .tup [.int p.1, .int p.2]
structure StL (H : Hp) (xs : List V) (ps : List (Int × Int)) : Prop where
  len : xs.length = ps.length
  at_ : ∀ (i : Nat) (p : Int × Int), ps[i]? = some p → ∃ a, xs[i]? = some (.ref a) ∧ H a = some (prS p)
theorem StL.mono {H H' : Hp} {xs : List V} {ps : List (Int × Int)} (f : StL H xs ps) (sm : Same H H') : StL H' xs ps :=
  ⟨f.len, fun i q h => by obtain ⟨a, e, h2⟩ := f.at_ i q h; exact ⟨a, e, sm _ _ h2⟩⟩
theorem StL.nil {H : Hp} : StL H [] [] := ⟨rfl, fun i q h => by simp at h⟩
theorem StL.snoc {H : Hp} {xs : List V} {ps : List (Int × Int)} {a : Addr} {p : Int × Int} (f : StL H xs ps) (h : H a = some (prS p)) : StL H (xs ++ [.ref a]) (ps ++ [p]) := by
  refine ⟨by simp [f.len], fun i q hq => ?_⟩
  by_cases c : i < ps.length
  · rw [List.getElem?_append_left c] at hq
    obtain ⟨b, e, h2⟩ := f.at_ i q hq
    exact ⟨b, by rw [List.getElem?_append_left (by rw [f.len]; exact c)]; exact e, h2⟩
  · rw [List.getElem?_append_right (by omega)] at hq
    have c0 : i - ps.length = 0 := by
      refine Decidable.byContradiction fun z => ?_
      rw [List.getElem?_eq_none (by simp; omega)] at hq
      cases hq
    rw [c0] at hq
    cases hq
    exact ⟨a, by rw [List.getElem?_append_right (by rw [f.len]; omega), f.len, c0]; rfl, h⟩
theorem StL.upd {H : Hp} {xs : List V} {ps : List (Int × Int)} {D : Addr} {ys : List V} {o : HO} (f : StL H xs ps) (h : H D = some (.lst ys)) : StL (upd H D o) xs ps :=
  ⟨f.len, fun i q e => by
    obtain ⟨a, e1, e2⟩ := f.at_ i q e
    have ne : a ≠ D := fun z => by rw [z, h] at e2; cases e2
    exact ⟨a, e1, by rw [upd_ne ne]; exact e2⟩⟩
theorem StL.take {H : Hp} {xs : List V} {ps : List (Int × Int)} {n : Nat} (f : StL H xs ps) : StL H (xs.take n) (ps.take n) := by
  refine ⟨by rw [List.length_take, List.length_take, f.len], fun i p h => ?_⟩
  rw [List.getElem?_take] at h ⊢
  split at h
  · rename_i c
    rw [if_pos c]
    exact f.at_ i p h
  · cases h
theorem StL.drop {H : Hp} {xs : List V} {ps : List (Int × Int)} {n : Nat} (f : StL H xs ps) : StL H (xs.drop n) (ps.drop n) := by
  refine ⟨by rw [List.length_drop, List.length_drop, f.len], fun i p h => ?_⟩
  rw [List.getElem?_drop] at h ⊢
  exact f.at_ _ p h
end CB

namespace CB
open PySem PySem.Spec PyProof.Rows L2
/-! ### sizes of the one form up to degree 8 -/
/-- the sizes of the one form; LX, LY: bounds of the leading coefficients -/
structure Qs8 (N M HX HY LX LY : Nat) (as : List Int) (a : Int) (bs : List Int) (b : Int) : Prop where
  la : as.length ≤ N + 1
  lb : bs.length ≤ M + 1
  ba : ∀ i, (as.getD i 0).natAbs ≤ LX * (HX * sg 8 (N + 1) * 18 ^ N)
  bb : ∀ i, (bs.getD i 0).natAbs ≤ HY * sg 8 (M + 1) * 18 ^ M
  ga : a.natAbs ≤ max 1 (HX * sg 8 (N + 1) * 18 ^ N * LY)
  gb : b.natAbs ≤ HY * sg 8 (M + 1) * 18 ^ M
end CB

namespace CB
open PySem PySem.Spec PyProof.Rows L2
/-! ### a divisor's coefficients, by the weighted squares: k! c_k ^ 2 -/
def xv : PS := ⟨xp 1⟩
/-- the derivatives over a!, of the polynomial with these coefficients -/
def hE : List Int → Nat → PS
  | [], _ => 0
  | c :: r, 0 => pc c + xv * hE r 0
  | c :: r, a + 1 => xv * hE r (a + 1) + hE r a
/-- .. as operators, the derivative in the variable's place -/
def hD : List Int → Nat → PS → PS
  | [], _, _ => 0
  | c :: r, 0, f => pc c * f + (hD r 0 f).d
  | c :: r, a + 1, f => (hD r (a + 1) f).d + hD r a f
def fa : Nat → Int
  | 0 => 1
  | n + 1 => ((n : Int) + 1) * fa n
def psS (F : Nat → PS) : Nat → PS
  | 0 => 0
  | n + 1 => psS F n + F n
/-- the weighted product -/
def ip (f g : PS) (N : Nat) : Int := sumTo (fun k => fa k * (f.f k * g.f k)) N
/-- the sum of the factorials -/
def sf (n : Nat) : Int := sumTo fa n
end CB

namespace CB
open PySem PySem.Spec PyProof.Rows L2
/-- one of the two is small, and of few coefficients -/
def SmP (A B : Nat → Int) (a b H : Nat) : Prop := (a ≤ 16 ∧ ∀ i, (A i).natAbs ≤ H) ∨ (b ≤ 16 ∧ ∀ i, (B i).natAbs ≤ H)
end CB

namespace CB
open PySem PySem.Spec PyProof.Rows L2
/-! ### sizes of the one form, degrees up to 8, by weighted squares -/
/-- the sizes of the one form; LX, LY: bounds of the leading coefficients -/
structure QsF (N M HX HY LX LY : Nat) (as : List Int) (a : Int) (bs : List Int) (b : Int) : Prop where
  la : as.length ≤ N + 1
  lb : bs.length ≤ M + 1
  ba : ∀ i, (as.getD i 0).natAbs ≤ LX * (HX * 216)
  bb : ∀ i, (bs.getD i 0).natAbs ≤ HY * 216
  ga : a.natAbs ≤ max 1 (HX * 216 * LY)
  gb : b.natAbs ≤ HY * 216
end CB

namespace CB
open PySem PySem.Spec PyProof.Rows L2
/-! ### products of values; moved polynomials -/
/-- the one form is a quotient of its own parts -/
theorem Qn.own {X Y : Nat → Int} {as bs : List Int} {a b : Int} (q : Qn X Y as a bs b) : Qn (pc b * pl as).f (pc a * pl bs).f as a bs b := by
  refine ⟨q.sa, q.sb, q.bne, q.mon, q.cop, ?_⟩
  have e : pc b * (pl as * (pc a * pl bs)) = pc a * (pc b * pl as * pl bs) := by grind
  exact congrArg PS.f e
end CB

namespace CB
open PySem PySem.Spec PyProof.Rows L2
/-! ### Euclid's end where the fraction is known to be short; divisors up to degree 16 -/
end CB

namespace CB
open PySem PySem.Spec PyProof.Rows L2
/-! ### linear algebra by rows: values of a row on a vector, elimination modulo m -/
/-- Σ row[i] z(t + i) -/
def dI : List Int → (Nat → Int) → Nat → Int
  | [], _, _ => 0
  | a :: r, z, t => a * z t + dI r z (t + 1)
theorem dI_add (z y : Nat → Int) : ∀ (r : List Int) (t : Nat), dI r (fun i => z i + y i) t = dI r z t + dI r y t
  | [], _ => rfl
  | a :: r, t => by
    show a * (z t + y t) + dI r (fun i => z i + y i) (t + 1) = a * z t + dI r z (t + 1) + (a * y t + dI r y (t + 1))
    rw [dI_add z y r]
    grind
theorem dI_mul (c : Int) (z : Nat → Int) : ∀ (r : List Int) (t : Nat), dI r (fun i => c * z i) t = c * dI r z t
  | [], _ => by show (0 : Int) = c * 0; rw [Int.mul_zero]
  | a :: r, t => by
    show a * (c * z t) + dI r (fun i => c * z i) (t + 1) = c * (a * z t + dI r z (t + 1))
    rw [dI_mul c z r]
    grind
theorem dI_congr {z y : Nat → Int} : ∀ {r : List Int} {t : Nat}, (∀ i, t ≤ i → i < t + r.length → z i = y i) → dI r z t = dI r y t
  | [], _, _ => rfl
  | a :: r, t, h => by
    have l : (a :: r).length = r.length + 1 := rfl
    show a * z t + dI r z (t + 1) = a * y t + dI r y (t + 1)
    rw [h t (Nat.le_refl _) (by omega), dI_congr fun i h1 h2 => h i (by omega) (by omega)]
theorem dI_zero {z : Nat → Int} : ∀ {r : List Int} {t : Nat}, (∀ i, t ≤ i → i < t + r.length → z i = 0) → dI r z t = 0
  | [], _, _ => rfl
  | a :: r, t, h => by
    have l : (a :: r).length = r.length + 1 := rfl
    show a * z t + dI r z (t + 1) = 0
    rw [h t (Nat.le_refl _) (by omega), dI_zero fun i h1 h2 => h i (by omega) (by omega), Int.mul_zero]
    rfl
/-- modulo m -/
theorem dvd_iff {m a b : Int} (h : m ∣ a - b) : m ∣ a ↔ m ∣ b := by
  obtain ⟨c, h⟩ := h
  constructor
  · rintro ⟨d, e⟩; exact ⟨d - c, by grind⟩
  · rintro ⟨d, e⟩; exact ⟨d + c, by grind⟩
theorem dvd_comb {m a b : Int} (x y : Int) (h : m ∣ a) (k : m ∣ b) : m ∣ x * a + y * b := by
  obtain ⟨c, h⟩ := h
  obtain ⟨d, k⟩ := k
  exact ⟨x * c + y * d, by rw [h, k]; grind⟩
theorem dI_dvd {m : Int} {z : Nat → Int} : ∀ {r : List Int} {t : Nat}, (∀ i, t ≤ i → i < t + r.length → m ∣ z i) → m ∣ dI r z t
  | [], _, _ => ⟨0, by rw [Int.mul_zero]; rfl⟩
  | a :: r, t, h => by
    have l : (a :: r).length = r.length + 1 := rfl
    have := dvd_comb a 1 (h t (Nat.le_refl _) (by omega)) (dI_dvd (r := r) (t := t + 1) fun i h1 h2 => h i (by omega) (by omega))
    show m ∣ a * z t + dI r z (t + 1)
    rw [Int.one_mul] at this
    exact this
theorem dI_get {r : List Int} {z : Nat → Int} : ∀ {t j : Nat}, (∀ i, i ≠ t + j → z i = 0) → dI r z t = r.getD j 0 * z (t + j) := by
  induction r with
  | nil => intro t j h; show (0 : Int) = ([] : List Int).getD j 0 * _; rw [show ([] : List Int).getD j 0 = 0 from by simp, Int.zero_mul]
  | cons a r ih =>
    intro t j h
    show a * z t + dI r z (t + 1) = _
    cases j with
    | zero =>
      rw [dI_zero fun i h1 _ => h i (by omega)]
      show a * z t + 0 = a * z t
      omega
    | succ j =>
      rw [h t (by omega), ih (t := t + 1) (j := j) fun i hi => h i (by omega), Int.mul_zero, Int.zero_add, show t + 1 + j = t + (j + 1) by omega]
      rfl
theorem dI_sum (z : Nat → Int) : ∀ (r : List Int) (t N : Nat), r.length ≤ N → dI r z t = sumTo (fun j => r.getD j 0 * z (t + j)) N
  | [], t, N, _ => by
    symm
    exact sumTo_zero N fun i _ => by rw [show ([] : List Int).getD i 0 = 0 from by simp, Int.zero_mul]
  | a :: r, t, N, h => by
    have l : (a :: r).length = r.length + 1 := rfl
    obtain ⟨n, rfl⟩ : ∃ n, N = n + 1 := ⟨N - 1, by omega⟩
    have e := dI_sum z r (t + 1) n (by omega)
    have s : ∀ (f : Nat → Int) n, sumTo f (n + 1) = f 0 + sumTo (fun i => f (i + 1)) n := fun f n => by
      induction n with
      | zero => show 0 + f 0 = f 0 + 0; omega
      | succ n ih => show sumTo f (n + 1) + f (n + 1) = f 0 + (sumTo (fun i => f (i + 1)) n + f (n + 1)); rw [ih]; omega
    rw [s]
    show a * z t + dI r z (t + 1) = a * z (t + 0) + _
    rw [e]
    congr 1
    exact sumTo_congr n fun i _ => by
      show r.getD i 0 * z (t + 1 + i) = r.getD i 0 * z (t + (i + 1))
      rw [show t + 1 + i = t + (i + 1) by omega]
/-! the steps of elimination -/
/-- a row divided by its first entry, modulo m -/
structure LinR (m : Int) (P line : List Int) : Prop where
  len : P.length = line.length + 1
  unit : ∃ v, m ∣ P.getD 0 0 * v - 1
  at_ : ∀ j, m ∣ P.getD 0 0 * line.getD j 0 - P.getD (j + 1) 0
/-- a row less its share of the line -/
structure ClrR (m : Int) (line x y : List Int) : Prop where
  len : x.length = y.length + 1
  at_ : ∀ j, m ∣ y.getD j 0 - (x.getD (j + 1) 0 - x.getD 0 0 * line.getD j 0)
theorem dI_lin {m : Int} : ∀ {y u v : List Int} {c : Int}, y.length = u.length → u.length = v.length → (∀ j, m ∣ y.getD j 0 - (u.getD j 0 - c * v.getD j 0)) → ∀ (z : Nat → Int) (t : Nat), m ∣ dI y z t - (dI u z t - c * dI v z t)
  | [], [], [], c, _, _, _, z, t => ⟨0, by show (0 : Int) - (0 - c * 0) = m * 0; rw [Int.mul_zero, Int.mul_zero]; rfl⟩
  | a :: y, b :: u, d :: v, c, l1, l2, h, z, t => by
    have ih := dI_lin (y := y) (u := u) (v := v) (c := c) (Nat.succ.inj l1) (Nat.succ.inj l2) (fun j => h (j + 1)) z (t + 1)
    have h0 : m ∣ a - (b - c * d) := h 0
    have := dvd_comb (z t) 1 h0 ih
    have e : dI (a :: y) z t - (dI (b :: u) z t - c * dI (d :: v) z t) = z t * (a - (b - c * d)) + 1 * (dI y z (t + 1) - (dI u z (t + 1) - c * dI v z (t + 1))) := by
      show a * z t + dI y z (t + 1) - (b * z t + dI u z (t + 1) - c * (d * z t + dI v z (t + 1))) = _
      grind
    rw [e]
    exact this
theorem ClrR.sem {m : Int} {line x y : List Int} (h : ClrR m line x y) (l : line.length = y.length) (z : Nat → Int) (t : Nat) : m ∣ dI x z t - (x.getD 0 0 * (z t + dI line z (t + 1)) + dI y z (t + 1)) := by
  cases x with
  | nil => have := h.len; simp at this
  | cons a u =>
    have ul : u.length = y.length := Nat.succ.inj h.len
    have k := dI_lin (m := m) (y := y) (u := u) (v := line) (c := a) ul.symm (by omega) h.at_ z (t + 1)
    have := dvd_comb (-1) 0 k k
    have e : dI (a :: u) z t - ((a :: u).getD 0 0 * (z t + dI line z (t + 1)) + dI y z (t + 1)) = -1 * (dI y z (t + 1) - (dI u z (t + 1) - a * dI line z (t + 1))) + 0 * (dI y z (t + 1) - (dI u z (t + 1) - a * dI line z (t + 1))) := by
      show a * z t + dI u z (t + 1) - (a * (z t + dI line z (t + 1)) + dI y z (t + 1)) = _
      grind
    rw [e]
    exact this
theorem LinR.sem {m : Int} {P line : List Int} (h : LinR m P line) (z : Nat → Int) (t : Nat) : m ∣ dI P z t ↔ m ∣ z t + dI line z (t + 1) := by
  cases P with
  | nil => have := h.len; simp at this
  | cons a u =>
    have ul : u.length = line.length := Nat.succ.inj h.len
    obtain ⟨v, hv⟩ := h.unit
    have hv : m ∣ a * v - 1 := hv
    have k := dI_lin (m := m) (y := u) (u := u) (v := u) (c := 0) rfl rfl (fun j => ⟨0, by rw [Int.zero_mul, Int.mul_zero]; omega⟩) z (t + 1)
    have k2 : m ∣ a * dI line z (t + 1) - dI u z (t + 1) := by
      have g := dI_lin (m := m) (y := u) (u := (List.replicate u.length (0 : Int))) (v := line) (c := -a) (by rw [List.length_replicate]) (by rw [List.length_replicate]; exact ul) (fun j => by
        have z0 : (List.replicate u.length (0 : Int)).getD j 0 = 0 := by rw [List.getD_eq_getElem?_getD, List.getElem?_replicate]; split <;> rfl
        rw [z0]
        have := h.at_ j
        have h2 : m ∣ a * line.getD j 0 - u.getD j 0 := this
        have := dvd_comb (-1) 0 h2 h2
        have e : u.getD j 0 - (0 - -a * line.getD j 0) = -1 * (a * line.getD j 0 - u.getD j 0) + 0 * (a * line.getD j 0 - u.getD j 0) := by grind
        rw [e]
        exact this) z (t + 1)
      have z1 : dI (List.replicate u.length (0 : Int)) z (t + 1) = 0 := by
        generalize u.length = n
        generalize t + 1 = s
        induction n generalizing s with
        | zero => rfl
        | succ n ih => show 0 * z s + dI (List.replicate n 0) z (s + 1) = 0; rw [ih, Int.zero_mul]; rfl
      rw [z1] at g
      have := dvd_comb (-1) 0 g g
      have e : a * dI line z (t + 1) - dI u z (t + 1) = -1 * (dI u z (t + 1) - (0 - -a * dI line z (t + 1))) + 0 * (dI u z (t + 1) - (0 - -a * dI line z (t + 1))) := by grind
      rw [e]
      exact this
    constructor
    · intro w
      have w : m ∣ a * z t + dI u z (t + 1) := w
      have s1 := dvd_comb 1 1 w k2
      have s2 := dvd_comb v (-(z t + dI line z (t + 1))) s1 hv
      have e : z t + dI line z (t + 1) = v * (1 * (a * z t + dI u z (t + 1)) + 1 * (a * dI line z (t + 1) - dI u z (t + 1))) + -(z t + dI line z (t + 1)) * (a * v - 1) := by grind
      rw [e]
      exact s2
    · intro w
      have s1 := dvd_comb a (-1) w k2
      have e : dI (a :: u) z t = a * (z t + dI line z (t + 1)) + -1 * (a * dI line z (t + 1) - dI u z (t + 1)) := by
        show a * z t + dI u z (t + 1) = _
        grind
      rw [e]
      exact s1
/-- rows cleared, one by one -/
structure ClrL (m : Int) (line : List Int) (xs ys : List (List Int)) : Prop where
  len : xs.length = ys.length
  at_ : ∀ (i : Nat) (x y : List Int), xs[i]? = some x → ys[i]? = some y → ClrR m line x y ∧ line.length = y.length
/-- what inverse_matrix keeps -/
def InvI (m : Int) (rows0 : List (List Int)) (k : Nat) (found rest : List (List Int)) : Prop :=
  ∀ z : Nat → Int, (∀ row ∈ rows0, m ∣ dI row z 0) ↔ ((∀ (j : Nat) (f : List Int), found[j]? = some f → m ∣ z j + dI f z k) ∧ ∀ row ∈ rest, m ∣ dI row z k)
theorem InvI.start (m : Int) (rows0 : List (List Int)) : InvI m rows0 0 [] rows0 := fun z => ⟨fun h => ⟨fun j f e => by simp at e, h⟩, fun h => h.2⟩
theorem InvI.step {m : Int} {rows0 found found' rest rest1 rest2 : List (List Int)} {k : Nat} {P line : List Int} (h : InvI m rows0 k found rest) (fl : found.length = k) (pop : ∀ Φ : List Int → Prop, (∀ row ∈ rest, Φ row) ↔ (Φ P ∧ ∀ row ∈ rest1, Φ row))
    (L : LinR m P line) (cf : ClrL m line found found') (cr : ClrL m line rest1 rest2) : InvI m rows0 (k + 1) (found' ++ [line]) rest2 := fun z => by
  rw [h z, pop, L.sem z k]
  have fl2 : found'.length = k := by have := cf.len; omega
  have rs : (m ∣ z k + dI line z (k + 1)) → ∀ {x y : List Int}, ClrR m line x y → line.length = y.length → (m ∣ dI x z k ↔ m ∣ dI y z (k + 1)) := fun w {x y} c l => by
    have s := c.sem l z k
    have s2 := dvd_comb 1 (x.getD 0 0) s w
    refine dvd_iff ?_
    have e : dI x z k - dI y z (k + 1) = 1 * (dI x z k - (x.getD 0 0 * (z k + dI line z (k + 1)) + dI y z (k + 1))) + x.getD 0 0 * (z k + dI line z (k + 1)) := by grind
    rw [e]
    exact s2
  constructor
  · rintro ⟨hf, w, hr⟩
    refine ⟨fun j f e => ?_, fun row hrow => ?_⟩
    · by_cases c : j < k
      · rw [List.getElem?_append_left (by omega)] at e
        obtain ⟨g, hg⟩ : ∃ g, found[j]? = some g := ⟨_, List.getElem?_eq_getElem (show j < found.length by omega)⟩
        obtain ⟨c1, c2⟩ := cf.at_ j g f hg e
        have s := c1.sem c2 z k
        have w2 := hf j g hg
        have s2 := dvd_comb (-1) (-(g.getD 0 0)) s w
        have s3 := dvd_comb 1 1 s2 w2
        have e2 : z j + dI f z (k + 1) = 1 * (-1 * (dI g z k - (g.getD 0 0 * (z k + dI line z (k + 1)) + dI f z (k + 1))) + -(g.getD 0 0) * (z k + dI line z (k + 1))) + 1 * (z j + dI g z k) := by grind
        rw [e2]
        exact s3
      · have jk : j = k := by
          have := (List.getElem?_eq_some_iff.mp e).1
          rw [List.length_append, List.length_singleton] at this
          omega
        subst jk
        rw [List.getElem?_append_right (by omega), fl2, Nat.sub_self] at e
        cases e
        exact w
    · obtain ⟨i, hi, e⟩ := List.mem_iff_getElem.mp hrow
      have l := cr.len
      have h1 := List.getElem?_eq_getElem (show i < rest1.length by omega)
      obtain ⟨c1, c2⟩ := cr.at_ i _ row h1 (by rw [← e]; exact List.getElem?_eq_getElem hi)
      exact (rs w c1 c2).mp (hr _ (List.getElem_mem _))
  · rintro ⟨hf, hr⟩
    have w : m ∣ z k + dI line z (k + 1) := hf k line (by rw [List.getElem?_append_right (by omega), fl2, Nat.sub_self]; rfl)
    refine ⟨fun j g e => ?_, w, fun row hrow => ?_⟩
    · have jl := (List.getElem?_eq_some_iff.mp e).1
      obtain ⟨f, hf2⟩ : ∃ f, found'[j]? = some f := ⟨_, List.getElem?_eq_getElem (show j < found'.length by omega)⟩
      obtain ⟨c1, c2⟩ := cf.at_ j g f e hf2
      have s := c1.sem c2 z k
      have w2 := hf j f (by rw [List.getElem?_append_left (by omega)]; exact hf2)
      have s2 := dvd_comb 1 (g.getD 0 0) s w
      have s3 := dvd_comb 1 1 s2 w2
      have e2 : z j + dI g z k = 1 * (1 * (dI g z k - (g.getD 0 0 * (z k + dI line z (k + 1)) + dI f z (k + 1))) + g.getD 0 0 * (z k + dI line z (k + 1))) + 1 * (z j + dI f z (k + 1)) := by grind
      rw [e2]
      exact s3
    · obtain ⟨i, hi, e⟩ := List.mem_iff_getElem.mp hrow
      have l := cr.len
      have h2 := List.getElem?_eq_getElem (show i < rest2.length by omega)
      obtain ⟨c1, c2⟩ := cr.at_ i row _ (by rw [← e]; exact List.getElem?_eq_getElem hi) h2
      exact (rs w c1 c2).mpr (hr _ (List.getElem_mem _))
end CB

namespace CB
open PySem PySem.Spec PyProof.Rows L2
/-! ### elimination: its end, pivots that are there, the pivots' columns -/
theorem dI_append (z : Nat → Int) : ∀ (a b : List Int) (t : Nat), dI (a ++ b) z t = dI a z t + dI b z (t + a.length)
  | [], b, t => by show dI b z t = 0 + dI b z (t + 0); rw [Nat.add_zero, Int.zero_add]
  | x :: a, b, t => by
    show x * z t + dI (a ++ b) z (t + 1) = x * z t + dI a z (t + 1) + dI b z (t + (a.length + 1))
    rw [dI_append z a b (t + 1), show t + 1 + a.length = t + (a.length + 1) by omega]
    omega
theorem dI_unit {z : Nat → Int} : ∀ {e : List Int} {i t : Nat}, i < e.length → (∀ j, e.getD j 0 = if j = i then 1 else 0) → dI e z t = z (t + i)
  | [], i, t, hi, _ => absurd hi (Nat.not_lt_zero _)
  | a :: e, 0, t, _, h => by
    have h0 : a = 1 := h 0
    have z0 : ∀ (e : List Int) (t : Nat), (∀ j, e.getD j 0 = 0) → dI e z t = 0 := fun e => by
      induction e with
      | nil => intro t _; rfl
      | cons x e ih =>
        intro t hz
        have x0 : x = 0 := hz 0
        show x * z t + dI e z (t + 1) = 0
        rw [x0, ih (t + 1) fun j => hz (j + 1), Int.zero_mul]
        rfl
    show a * z t + dI e z (t + 1) = z (t + 0)
    rw [h0, z0 e (t + 1) fun j => h (j + 1)]
    rw [Int.one_mul]
    show z t + 0 = z t
    omega
  | a :: e, i + 1, t, hi, h => by
    have h0 : a = 0 := h 0
    have ih := dI_unit (z := z) (e := e) (i := i) (t := t + 1) (Nat.lt_of_succ_lt_succ hi) fun j => by
      have := h (j + 1)
      by_cases c : j = i
      · rw [if_pos (by omega)] at this; rw [if_pos c]; exact this
      · rw [if_neg (by omega)] at this; rw [if_neg c]; exact this
    show a * z t + dI e z (t + 1) = z (t + (i + 1))
    rw [h0, ih, Int.zero_mul, show t + 1 + i = t + (i + 1) by omega]
    omega
theorem dI_mod {m : Int} {a b : List Int} (l : a.length = b.length) (h : ∀ j, m ∣ a.getD j 0 - b.getD j 0) (z : Nat → Int) (t : Nat) : m ∣ dI a z t - dI b z t := by
  have := dI_lin (m := m) (y := a) (u := b) (v := b) (c := 0) l rfl (fun j => by rw [Int.zero_mul, Int.sub_zero]; exact h j) z t
  rw [Int.zero_mul, Int.sub_zero] at this
  exact this
/-- the rows of [S | 1], modulo M -/
structure Aug (M : Int) (S rows0 : List (List Int)) : Prop where
  len : rows0.length = S.length
  at_ : ∀ (i : Nat) (s row : List Int), S[i]? = some s → rows0[i]? = some row → s.length = S.length ∧ ∃ s' e, row = s' ++ e ∧ s'.length = S.length ∧ e.length = S.length ∧ (∀ j, M ∣ s'.getD j 0 - s.getD j 0) ∧ ∀ j, e.getD j 0 = if j = i then 1 else 0
theorem Aug.sem {m M : Int} {S rows0 : List (List Int)} (h : Aug M S rows0) (hm : m ∣ M) {i : Nat} {s row : List Int} (hs : S[i]? = some s) (hr : rows0[i]? = some row) (z : Nat → Int) : m ∣ dI row z 0 - (dI s z 0 + z (S.length + i)) := by
  obtain ⟨sl, s', e, rfl, l1, l2, c, u⟩ := h.at_ i s row hs hr
  have il := (List.getElem?_eq_some_iff.mp hs).1
  rw [dI_append, dI_unit (i := i) (by omega) u, l1, Nat.zero_add]
  have := dI_mod (m := m) (a := s') (b := s) (by omega) (fun j => Int.dvd_trans hm (c j)) z 0
  have e2 : dI s' z 0 + z (S.length + i) - (dI s z 0 + z (S.length + i)) = dI s' z 0 - dI s z 0 := by omega
  rw [e2]
  exact this
/-- no vector but 0 is sent to 0 modulo p -/
def NS (p : Int) (S : List (List Int)) : Prop := ∀ z : Nat → Int, (∀ j, S.length ≤ j → z j = 0) → (∀ s ∈ S, p ∣ dI s z 0) → ∀ j, p ∣ z j
/-- a pivot is there -/
theorem InvI.unit {p M : Int} {S rows0 found rest : List (List Int)} {k : Nat} (h : InvI p rows0 k found rest) (A : Aug M S rows0) (pM : p ∣ M) (ns : NS p S) (kl : k < S.length) (fl : found.length = k) (p2 : ¬ p ∣ 1) : ∃ row ∈ rest, ¬ p ∣ row.getD 0 0 := by
  refine Classical.byContradiction fun w => ?_
  have all : ∀ row ∈ rest, p ∣ row.getD 0 0 := fun row hr => Classical.byContradiction fun c => w ⟨row, hr, c⟩
  obtain ⟨y, hy⟩ : ∃ y : Nat → Int, y = fun i => if i = k then 1 else 0 := ⟨_, rfl⟩
  have yk : y k = 1 := by rw [hy]; exact if_pos rfl
  have y0 : ∀ i, i ≠ k → y i = 0 := fun i hi => by rw [hy]; exact if_neg hi
  obtain ⟨z, hz⟩ : ∃ z : Nat → Int, z = fun i => if i < k then -dI (found.getD i []) y k else y i := ⟨_, rfl⟩
  have zge : ∀ i, k ≤ i → z i = y i := fun i hi => by rw [hz]; exact if_neg (by omega)
  have zlt : ∀ i, i < k → z i = -dI (found.getD i []) y k := fun i hi => by rw [hz]; exact if_pos hi
  have e1 : ∀ f : List Int, dI f z k = dI f y k := fun f => dI_congr fun i h1 _ => zge i h1
  have sat := (h z).mpr ⟨fun j f e => by
      have jl := (List.getElem?_eq_some_iff.mp e).1
      have ef : found.getD j [] = f := by rw [List.getD_eq_getElem?_getD, e]; rfl
      rw [zlt j (by omega), ef, e1]
      exact ⟨0, by rw [Int.mul_zero]; omega⟩, fun row hr => by
      rw [e1, dI_get (j := 0) fun i hi => y0 i (by omega)]
      show p ∣ row.getD 0 0 * y k
      rw [yk, Int.mul_one]
      exact all row hr⟩
  have zz := ns z (fun j hj => by rw [zge j (by omega)]; exact y0 j (by omega)) (fun s hs => by
    obtain ⟨i, hi, e⟩ := List.mem_iff_getElem.mp hs
    have l := A.len
    have hS : S[i]? = some s := by rw [← e]; exact List.getElem?_eq_getElem hi
    have hR := List.getElem?_eq_getElem (show i < rows0.length by omega)
    have d := A.sem pM hS hR z
    have r := sat _ (List.getElem_mem (show i < rows0.length by omega))
    have z0 : z (S.length + i) = 0 := by rw [zge _ (by omega)]; exact y0 _ (by omega)
    rw [z0] at d
    have := (dvd_iff d).mp r
    rw [Int.add_zero] at this
    exact this) k
  rw [zge k (Nat.le_refl _), yk] at zz
  exact p2 zz
/-- the end: S times what was found is 1 -/
theorem InvI.done {m M : Int} {S rows0 B : List (List Int)} (h : InvI m rows0 S.length B []) (A : Aug M S rows0) (mM : m ∣ M) (bl : B.length = S.length) (y : Nat → Int) {i : Nat} {s : List Int} (hs : S[i]? = some s) : m ∣ dI s (fun j => dI (B.getD j []) y 0) 0 - y i := by
  have il := (List.getElem?_eq_some_iff.mp hs).1
  have sh : ∀ (f : List Int) (t : Nat) (u v : Nat → Int) (a : Nat), (∀ i, u (t + i) = -(v (a + i))) → dI f u t = -(dI f v a) := fun f => by
    induction f with
    | nil => intro t u v a _; rfl
    | cons x f ih =>
      intro t u v a e
      show x * u t + dI f u (t + 1) = -(x * v a + dI f v (a + 1))
      rw [ih (t + 1) u v (a + 1) fun i => by rw [show t + 1 + i = t + (1 + i) by omega, show a + 1 + i = a + (1 + i) by omega]; exact e _, show u t = -(v a) from e 0]
      grind
  obtain ⟨z, hz⟩ : ∃ z : Nat → Int, z = fun i => if i < S.length then dI (B.getD i []) y 0 else -y (i - S.length) := ⟨_, rfl⟩
  have zlt : ∀ i, i < S.length → z i = dI (B.getD i []) y 0 := fun i hi => by rw [hz]; exact if_pos hi
  have zge : ∀ i, z (S.length + i) = -y i := fun i => by
    rw [hz]
    show (if S.length + i < S.length then _ else -y (S.length + i - S.length)) = _
    rw [if_neg (by omega), show S.length + i - S.length = i by omega]
  have sat := (h z).mpr ⟨fun j f e => by
      have jl := (List.getElem?_eq_some_iff.mp e).1
      have ef : B.getD j [] = f := by rw [List.getD_eq_getElem?_getD, e]; rfl
      rw [zlt j (by omega), ef, sh f S.length z y 0 fun i => by rw [zge, Nat.zero_add]]
      exact ⟨0, by rw [Int.mul_zero]; omega⟩, fun row hr => absurd hr (by simp)⟩
  have l := A.len
  have hR := List.getElem?_eq_getElem (show i < rows0.length by omega)
  have d := A.sem mM hs hR z
  have r := sat _ (List.getElem_mem (show i < rows0.length by omega))
  have q := (dvd_iff d).mp r
  obtain ⟨sl, _⟩ := A.at_ i s _ hs hR
  rw [zge, dI_congr (y := fun j => dI (B.getD j []) y 0) fun j _ h2 => zlt j (by omega)] at q
  have e : dI s (fun j => dI (B.getD j []) y 0) 0 + -y i = dI s (fun j => dI (B.getD j []) y 0) 0 - y i := by omega
  rw [← e]
  exact q
/-! the pivots -/
structure PInv (p : Int) (W : Nat) (Ms : List (List Int)) (t : Nat) (idx cols : List Nat) (rest : List (Nat × List Int)) : Prop where
  b : ∀ q ∈ rest, ∀ z : Nat → Int, (∀ i ∈ idx, p ∣ dI (Ms.getD i []) z 0) → p ∣ dI (Ms.getD q.1 []) z 0 - dI q.2 z t
  ns : ∀ z : Nat → Int, (∀ j, j ∉ cols → z j = 0) → (∀ i ∈ idx, p ∣ dI (Ms.getD i []) z 0) → ∀ j, p ∣ z j
  cov : ∀ i, i < Ms.length → i ∈ idx ∨ ∃ R, (i, R) ∈ rest
  lt : ∀ c ∈ cols, c < t
  nd : cols.Nodup
  dis : (idx ++ rest.map (·.1)).Nodup
  bnd : ∀ i ∈ idx ++ rest.map (·.1), i < Ms.length
  len : idx.length = cols.length
  lr : ∀ q ∈ rest, q.2.length = W - t
theorem dI_succ {r : List Int} (h : 0 < r.length) (z : Nat → Int) (t : Nat) : dI r z t = r.getD 0 0 * z t + dI r.tail z (t + 1) := by
  cases r with
  | nil => simp at h
  | cons a r => rfl
theorem PInv.start {p : Int} {W : Nat} {Ms : List (List Int)} {rest : List (Nat × List Int)} (rl : rest.length = Ms.length) (h : ∀ (i : Nat) (q : Nat × List Int), rest[i]? = some q → q.1 = i ∧ q.2.length = W ∧ q.2.length = (Ms.getD i []).length ∧ ∀ j, p ∣ q.2.getD j 0 - (Ms.getD i []).getD j 0) : PInv p W Ms 0 [] [] rest := by
  have e1 : rest.map (·.1) = List.range Ms.length := by
    refine List.ext_getElem? fun i => ?_
    rw [List.getElem?_map]
    by_cases c : i < Ms.length
    · obtain ⟨q, hq⟩ : ∃ q, rest[i]? = some q := ⟨_, List.getElem?_eq_getElem (show i < rest.length by omega)⟩
      rw [hq, List.getElem?_range c]
      exact congrArg some (h i q hq).1
    · rw [List.getElem?_eq_none (by omega), List.getElem?_eq_none (by rw [List.length_range]; omega)]
      rfl
  refine ⟨fun q hq z _ => ?_, fun z hz _ j => by rw [hz j (by simp)]; exact ⟨0, by rw [Int.mul_zero]⟩, fun i hi => .inr ?_, fun c hc => absurd hc (by simp), List.nodup_nil, ?_, ?_, rfl, fun q hq => ?_⟩
  · obtain ⟨i, hi, e⟩ := List.mem_iff_getElem.mp hq
    obtain ⟨a1, a2, a3, a4⟩ := h i q (by rw [← e]; exact List.getElem?_eq_getElem hi)
    rw [a1]
    exact dI_mod a3.symm (fun j => by
      have := dvd_comb (-1) 0 (a4 j) (a4 j)
      have e2 : (Ms.getD i []).getD j 0 - q.2.getD j 0 = -1 * (q.2.getD j 0 - (Ms.getD i []).getD j 0) + 0 * (q.2.getD j 0 - (Ms.getD i []).getD j 0) := by grind
      rw [e2]
      exact this) z 0
  · obtain ⟨q, hq⟩ : ∃ q, rest[i]? = some q := ⟨_, List.getElem?_eq_getElem (show i < rest.length by omega)⟩
    have := (h i q hq).1
    exact ⟨q.2, by rw [← this]; exact List.mem_of_getElem? hq⟩
  · rw [e1]
    exact List.nodup_range
  · rw [e1]
    intro i hi
    exact List.mem_range.mp hi
  · obtain ⟨i, hi, e⟩ := List.mem_iff_getElem.mp hq
    exact (h i q (by rw [← e]; exact List.getElem?_eq_getElem hi)).2.1
theorem PInv.none {p : Int} {W t : Nat} {Ms : List (List Int)} {idx cols : List Nat} {rest rest' : List (Nat × List Int)} (h : PInv p W Ms t idx cols rest) (tW : t < W) (z0 : ∀ q ∈ rest, p ∣ q.2.getD 0 0) (e : rest' = rest.map fun q => (q.1, q.2.tail)) : PInv p W Ms (t + 1) idx cols rest' := by
  have e1 : rest'.map (·.1) = rest.map (·.1) := by rw [e, List.map_map]; rfl
  refine ⟨fun q hq z hz => ?_, h.ns, fun i hi => ?_, fun c hc => Nat.lt_succ_of_lt (h.lt c hc), h.nd, by rw [e1]; exact h.dis, by rw [e1]; exact h.bnd, h.len, fun q hq => ?_⟩
  · rw [e] at hq
    obtain ⟨q0, h0, rfl⟩ := List.mem_map.mp hq
    have l := h.lr q0 h0
    have := h.b q0 h0 z hz
    rw [dI_succ (r := q0.2) (by omega)] at this
    have := dvd_comb 1 (z t) this (z0 q0 h0)
    have e2 : dI (Ms.getD q0.1 []) z 0 - dI q0.2.tail z (t + 1) = 1 * (dI (Ms.getD q0.1 []) z 0 - (q0.2.getD 0 0 * z t + dI q0.2.tail z (t + 1))) + z t * q0.2.getD 0 0 := by grind
    show p ∣ dI (Ms.getD q0.1 []) z 0 - dI q0.2.tail z (t + 1)
    rw [e2]
    exact this
  · rcases h.cov i hi with c | ⟨R, c⟩
    · exact .inl c
    · exact .inr ⟨R.tail, by rw [e]; exact List.mem_map.mpr ⟨_, c, rfl⟩⟩
  · rw [e] at hq
    obtain ⟨q0, h0, rfl⟩ := List.mem_map.mp hq
    have := h.lr q0 h0
    show q0.2.tail.length = _
    rw [List.length_tail]
    omega
/-- rows cleared, with their numbers -/
structure ClrN (m : Int) (line : List Int) (xs ys : List (Nat × List Int)) : Prop where
  len : xs.length = ys.length
  at_ : ∀ (i : Nat) (x y : Nat × List Int), xs[i]? = some x → ys[i]? = some y → x.1 = y.1 ∧ ClrR m line x.2 y.2 ∧ line.length = y.2.length
theorem ClrN.fst {m : Int} {line : List Int} {xs ys : List (Nat × List Int)} (h : ClrN m line xs ys) : ys.map (·.1) = xs.map (·.1) := by
  have l := h.len
  refine List.ext_getElem? fun i => ?_
  rw [List.getElem?_map, List.getElem?_map]
  by_cases c : i < xs.length
  · have h1 := List.getElem?_eq_getElem c
    have h2 := List.getElem?_eq_getElem (show i < ys.length by omega)
    rw [h1, h2]
    exact congrArg some (h.at_ i _ _ h1 h2).1.symm
  · rw [List.getElem?_eq_none (by omega), List.getElem?_eq_none (by omega)]
theorem PInv.step {p : Int} {W t at_ : Nat} {Ms : List (List Int)} {idx cols : List Nat} {rest rest2 : List (Nat × List Int)} {P : Nat × List Int} {line : List Int} (h : PInv p W Ms t idx cols rest) (tW : t < W) (hP : rest[at_]? = some P) (L : LinR p P.2 line) (cr : ClrN p line (rest.eraseIdx at_) rest2) : PInv p W Ms (t + 1) (idx ++ [P.1]) (cols ++ [t]) rest2 := by
  have al := (List.getElem?_eq_some_iff.mp hP).1
  have pm := List.mem_of_getElem? hP
  have spl : rest = rest.take at_ ++ P :: rest.drop (at_ + 1) := by
    have e := (List.getElem?_eq_some_iff.mp hP).2
    rw [← e, List.getElem_cons_drop_succ_eq_drop al, List.take_append_drop]
  have er : rest.eraseIdx at_ = rest.take at_ ++ rest.drop (at_ + 1) := List.eraseIdx_eq_take_drop_succ ..
  have sub : ∀ q ∈ rest.eraseIdx at_, q ∈ rest := fun q hq => by
    rw [er] at hq
    rw [spl]
    rcases List.mem_append.mp hq with c | c
    · exact List.mem_append.mpr (.inl c)
    · exact List.mem_append.mpr (.inr (List.mem_cons_of_mem _ c))
  have back : ∀ q ∈ rest, q = P ∨ q ∈ rest.eraseIdx at_ := fun q hq => by
    rw [spl] at hq
    rw [er]
    rcases List.mem_append.mp hq with c | c
    · exact .inr (List.mem_append.mpr (.inl c))
    · rcases List.mem_cons.mp c with c | c
      · exact .inl c
      · exact .inr (List.mem_append.mpr (.inr c))
  have f1 := cr.fst
  have perm : ((idx ++ [P.1]) ++ rest2.map (·.1)).Perm (idx ++ rest.map (·.1)) := by
    rw [f1, er, List.append_assoc]
    refine List.Perm.append_left _ ?_
    have e2 : rest.map (·.1) = (rest.take at_).map (·.1) ++ P.1 :: (rest.drop (at_ + 1)).map (·.1) := by
      have := congrArg (List.map (·.1)) spl
      rw [List.map_append, List.map_cons] at this
      exact this
    rw [e2, List.map_append, List.singleton_append]
    exact List.perm_middle.symm
  refine ⟨fun q hq z hz => ?_, fun z hz hi j => ?_, fun i hi => ?_, fun c hc => ?_, ?_, perm.nodup_iff.mpr h.dis, fun i hi => h.bnd i (perm.mem_iff.mp hi), by rw [List.length_append, List.length_append, h.len]; rfl, fun q hq => ?_⟩
  · obtain ⟨i, hi, e⟩ := List.mem_iff_getElem.mp hq
    have l := cr.len
    have h1 := List.getElem?_eq_getElem (show i < (rest.eraseIdx at_).length by omega)
    obtain ⟨a1, a2, a3⟩ := cr.at_ i _ q h1 (by rw [← e]; exact List.getElem?_eq_getElem hi)
    have m1 := sub _ (List.getElem_mem (show i < (rest.eraseIdx at_).length by omega))
    generalize (rest.eraseIdx at_)[i] = x at a1 a2 a3 m1 h1
    have hz0 : ∀ i ∈ idx, p ∣ dI (Ms.getD i []) z 0 := fun i hi => hz i (List.mem_append.mpr (.inl hi))
    have bP := h.b P pm z hz0
    have vP := hz P.1 (List.mem_append.mpr (.inr (List.mem_singleton.mpr rfl)))
    have w := (L.sem z t).mp ((dvd_iff bP).mp vP)
    have bx := h.b x m1 z hz0
    have s := a2.sem a3 z t
    have s1 := dvd_comb 1 1 bx s
    have s2 := dvd_comb 1 (x.2.getD 0 0) s1 w
    rw [← a1]
    have e2 : dI (Ms.getD x.1 []) z 0 - dI q.2 z (t + 1) = 1 * (1 * (dI (Ms.getD x.1 []) z 0 - dI x.2 z t) + 1 * (dI x.2 z t - (x.2.getD 0 0 * (z t + dI line z (t + 1)) + dI q.2 z (t + 1)))) + x.2.getD 0 0 * (z t + dI line z (t + 1)) := by grind
    rw [e2]
    exact s2
  · have hz0 : ∀ i ∈ idx, p ∣ dI (Ms.getD i []) z 0 := fun i hi' => hi i (List.mem_append.mpr (.inl hi'))
    have bP := h.b P pm z hz0
    have vP := hi P.1 (List.mem_append.mpr (.inr (List.mem_singleton.mpr rfl)))
    have w := (L.sem z t).mp ((dvd_iff bP).mp vP)
    have zb : ∀ j, t + 1 ≤ j → z j = 0 := fun j hj => hz j fun c => by
      rcases List.mem_append.mp c with c | c
      · have := h.lt j c; omega
      · have := List.mem_singleton.mp c; omega
    rw [dI_zero fun j h1 _ => zb j h1, Int.add_zero] at w
    obtain ⟨y, hy⟩ : ∃ y : Nat → Int, y = fun j => if j = t then 0 else z j := ⟨_, rfl⟩
    obtain ⟨u, hu⟩ : ∃ u : Nat → Int, u = fun j => if j = t then z t else 0 := ⟨_, rfl⟩
    have zs : z = fun j => y j + u j := funext fun j => by
      rw [hy, hu]
      by_cases c : j = t
      · simp [c]
      · simp [c]
    have du : ∀ r : List Int, p ∣ dI r u 0 := fun r => dI_dvd fun j _ _ => by
      rw [hu]
      by_cases c : j = t
      · simp only [c, if_true]; exact w
      · simp only [c, if_false]; exact ⟨0, by rw [Int.mul_zero]⟩
    by_cases c : j = t
    · rw [c]; exact w
    · have := h.ns y (fun j hj => by
          rw [hy]
          by_cases c2 : j = t
          · simp [c2]
          · simp only [c2, if_false]
            exact hz j fun c3 => by
              rcases List.mem_append.mp c3 with c3 | c3
              · exact hj c3
              · exact c2 (List.mem_singleton.mp c3)) (fun i hi' => by
          have v := hz0 i hi'
          rw [zs, dI_add] at v
          have := dvd_comb 1 (-1) v (du (Ms.getD i []))
          have e2 : dI (Ms.getD i []) y 0 = 1 * (dI (Ms.getD i []) y 0 + dI (Ms.getD i []) u 0) + -1 * dI (Ms.getD i []) u 0 := by grind
          rw [e2]
          exact this) j
      rw [hy] at this
      simp only [c, if_false] at this
      exact this
  · rcases h.cov i hi with c | ⟨R, c⟩
    · exact .inl (List.mem_append.mpr (.inl c))
    · rcases back _ c with c | c
      · exact .inl (List.mem_append.mpr (.inr (List.mem_singleton.mpr (by rw [← c]))))
      · obtain ⟨k, hk, e⟩ := List.mem_iff_getElem.mp c
        have l := cr.len
        have h2 := List.getElem?_eq_getElem (show k < rest2.length by omega)
        obtain ⟨a1, _⟩ := cr.at_ k _ _ ((List.getElem?_eq_getElem hk).trans (congrArg some e)) h2
        refine .inr ⟨rest2[k].2, ?_⟩
        have e3 : (i, rest2[k].2) = rest2[k] := Prod.ext a1 rfl
        rw [e3]
        exact List.getElem_mem _
  · rcases List.mem_append.mp hc with c2 | c2
    · exact Nat.lt_succ_of_lt (h.lt c c2)
    · rw [List.mem_singleton.mp c2]; exact Nat.lt_succ_self _
  · refine List.nodup_append.mpr ⟨h.nd, by simp, fun a ha b hb => ?_⟩
    have := h.lt a ha
    rw [List.mem_singleton.mp hb]
    omega
  · obtain ⟨i, hi, e⟩ := List.mem_iff_getElem.mp hq
    have l := cr.len
    have h1 := List.getElem?_eq_getElem (show i < (rest.eraseIdx at_).length by omega)
    obtain ⟨_, a2, a3⟩ := cr.at_ i _ q h1 (by rw [← e]; exact List.getElem?_eq_getElem hi)
    have m1 := sub _ (List.getElem_mem (show i < (rest.eraseIdx at_).length by omega))
    have := h.lr _ m1
    have := a2.len
    omega
end CB

namespace CB
open PySem PySem.Spec PyProof.Rows L2
/-! ### a square part that no vector escapes; ranks -/
def mat (Ms : List (List Int)) (i c : Nat) : Int := (Ms.getD i []).getD c 0
def sq (Ms : List (List Int)) (idx cols : List Nat) : List (List Int) := idx.map fun i => cols.map fun c => mat Ms i c
def sqT (Ms : List (List Int)) (idx cols : List Nat) : List (List Int) := cols.map fun c => idx.map fun i => mat Ms i c
/-- a vector by its values at cols -/
def spr : List Nat → (Nat → Int) → Nat → (Nat → Int)
  | [], _, _ => fun _ => 0
  | c :: cs, z, t => fun x => (if x = c then z t else 0) + spr cs z (t + 1) x
theorem spr_dI (row : List Int) (z : Nat → Int) : ∀ (cols : List Nat) (t : Nat), dI row (spr cols z t) 0 = dI (cols.map fun c => row.getD c 0) z t
  | [], t => dI_zero fun _ _ _ => rfl
  | c :: cs, t => by
    show dI row (fun x => (if x = c then z t else 0) + spr cs z (t + 1) x) 0 = row.getD c 0 * z t + dI (cs.map fun c => row.getD c 0) z (t + 1)
    rw [dI_add, spr_dI row z cs (t + 1), dI_get (j := c) fun i hi => if_neg (by omega)]
    congr 1
    rw [Nat.zero_add, if_pos rfl]
theorem spr_out {z : Nat → Int} : ∀ {cols : List Nat} {t x : Nat}, x ∉ cols → spr cols z t x = 0
  | [], _, _, _ => rfl
  | c :: cs, t, x, h => by
    show (if x = c then z t else 0) + spr cs z (t + 1) x = 0
    rw [if_neg fun e => h (by rw [e]; exact List.mem_cons_self), spr_out fun w => h (List.mem_cons_of_mem _ w)]
    rfl
theorem spr_at {z : Nat → Int} : ∀ {cols : List Nat} {t j c : Nat}, cols.Nodup → cols[j]? = some c → spr cols z t c = z (t + j)
  | [], _, _, _, _, h => by simp at h
  | c :: cs, t, 0, x, nd, h => by
    cases h
    show (if c = c then z t else 0) + spr cs z (t + 1) c = z (t + 0)
    rw [if_pos rfl, spr_out (List.nodup_cons.mp nd).1]
    show z t + 0 = z t
    omega
  | c :: cs, t, j + 1, x, nd, h => by
    have h : cs[j]? = some x := h
    have nd2 := List.nodup_cons.mp nd
    show (if x = c then z t else 0) + spr cs z (t + 1) x = z (t + (j + 1))
    rw [if_neg fun e => nd2.1 (by rw [← e]; exact List.mem_of_getElem? h), spr_at nd2.2 h, show t + 1 + j = t + (j + 1) by omega]
    omega
theorem ns_of_piv {p : Int} {W t : Nat} {Ms : List (List Int)} {idx cols : List Nat} {rest : List (Nat × List Int)} (h : PInv p W Ms t idx cols rest) : NS p (sq Ms idx cols) := fun z hz hs j => by
  have il : (sq Ms idx cols).length = cols.length := by unfold sq; rw [List.length_map, h.len]
  have k := h.ns (spr cols z 0) (fun x hx => spr_out hx) fun i hi => by
    rw [spr_dI]
    exact hs _ (List.mem_map.mpr ⟨i, hi, rfl⟩)
  by_cases c : j < cols.length
  · obtain ⟨x, hx⟩ : ∃ x, cols[j]? = some x := ⟨_, List.getElem?_eq_getElem c⟩
    have := k x
    rw [spr_at h.nd hx, Nat.zero_add] at this
    exact this
  · rw [hz j (by omega)]
    exact ⟨0, by rw [Int.mul_zero]⟩
/-- the common factor taken out -/
theorem scale_out {p : Int} (p2 : 2 ≤ p) : ∀ (n : Nat) (z : Nat → Int) (j0 : Nat), (z j0).natAbs ≤ n → z j0 ≠ 0 → ∃ (z' : Nat → Int) (c : Int), c ≠ 0 ∧ (∀ j, z j = c * z' j) ∧ ∃ j, ¬ p ∣ z' j
  | 0, z, j0, h, h0 => absurd (Int.natAbs_eq_zero.mp (Nat.le_zero.mp h)) h0
  | n + 1, z, j0, h, h0 => by
    by_cases w : ∃ j, ¬ p ∣ z j
    · exact ⟨z, 1, by decide, fun j => by rw [Int.one_mul], w⟩
    · have all : ∀ j, p ∣ z j := fun j => Classical.byContradiction fun c => w ⟨j, c⟩
      have e : ∀ j, z j = p * (z j / p) := fun j => (Int.mul_ediv_cancel' (all j)).symm
      have y0 : z j0 / p ≠ 0 := fun c => h0 (by rw [e j0, c, Int.mul_zero])
      have lt : (z j0 / p).natAbs ≤ n := by
        have e2 := congrArg Int.natAbs (e j0)
        rw [Int.natAbs_mul] at e2
        have : 1 ≤ (z j0 / p).natAbs := Int.natAbs_pos.mpr y0
        have : 2 * (z j0 / p).natAbs ≤ p.natAbs * (z j0 / p).natAbs := Nat.mul_le_mul_right _ (by omega)
        omega
      obtain ⟨z', c, c0, hc, hj⟩ := scale_out p2 n (fun j => z j / p) j0 lt y0
      exact ⟨z', p * c, Int.mul_ne_zero (by omega) c0, fun j => by rw [e j, hc j]; grind, hj⟩
theorem ns_exact {p : Int} {S : List (List Int)} (ns : NS p S) (p2 : 2 ≤ p) {z : Nat → Int} (hz : ∀ j, S.length ≤ j → z j = 0) (h : ∀ s ∈ S, dI s z 0 = 0) (j : Nat) : z j = 0 := Classical.byContradiction fun w => by
  obtain ⟨z', c, c0, hc, i, hi⟩ := scale_out p2 _ z j (Nat.le_refl _) w
  refine hi (ns z' (fun k hk => ?_) (fun s hs => ?_) i)
  · have := hz k hk
    rw [hc k] at this
    exact (Int.mul_eq_zero.mp this).resolve_left c0
  · have e := h s hs
    rw [show z = fun j => c * z' j from funext hc, dI_mul] at e
    rw [(Int.mul_eq_zero.mp e).resolve_left c0]
    exact ⟨0, by rw [Int.mul_zero]⟩
/-- inverses modulo p -/
def InvP (p : Int) : Prop := ∀ a : Int, ¬ p ∣ a → ∃ v, p ∣ a * v - 1
def clrF (line x : List Int) : List Int := List.zipWith (fun u v => u - x.getD 0 0 * v) x.tail line
end CB

namespace CB
open PySem PySem.Spec PyProof.Rows L2
/-! ### bad primes divide one number -/
theorem comb_eq {u x : Nat → Int} {L : List (List Int)} (N : Nat) (hN : ∀ r ∈ L, r.length ≤ N) : sumTo (fun i => u i * dI (L.getD i []) x 0) L.length = sumTo (fun c => dI (L.map fun r => r.getD c 0) u 0 * x c) N := by
  have e1 : ∀ i, i < L.length → u i * dI (L.getD i []) x 0 = sumTo (fun c => (L.getD i []).getD c 0 * u i * x c) N := fun i hi => by
    have l : (L.getD i []).length ≤ N := by
      rw [List.getD_eq_getElem?_getD, List.getElem?_eq_getElem hi]
      exact hN _ (List.getElem_mem hi)
    rw [dI_sum x _ 0 N l, ← sumTo_mul]
    exact sumTo_congr N fun c _ => by rw [Nat.zero_add]; grind
  rw [sumTo_congr L.length e1, sumTo_swap]
  refine sumTo_congr N fun c _ => ?_
  rw [dI_sum u _ 0 L.length (by rw [List.length_map]; exact Nat.le_refl _), ← sumTo_mulr]
  refine sumTo_congr L.length fun i hi => ?_
  rw [Nat.zero_add]
  congr 1
  congr 1
  have e5 : ∀ f : List Int → Int, (L.map f).getD i 0 = f (L.getD i []) := fun f => by
    rw [List.getD_eq_getElem?_getD, List.getElem?_map, List.getD_eq_getElem?_getD, List.getElem?_eq_getElem hi]
    rfl
  exact (e5 fun r => r.getD c 0).symm
/-- rows and columns whose square part is not singular -/
structure Wit (W : Nat) (Ms : List (List Int)) (I J : List Nat) : Prop where
  len : I.length = J.length
  lt : ∀ c ∈ J, c < W
  ind : ∀ u : Nat → Int, (∀ j, I.length ≤ j → u j = 0) → (∀ s ∈ sqT Ms I J, dI s u 0 = 0) → ∀ j, u j = 0
theorem map_getD {f : Nat → Int} {I : List Nat} {j : Nat} (h : j < I.length) : (I.map f).getD j 0 = f (I.getD j 0) := by
  rw [List.getD_eq_getElem?_getD, List.getElem?_map, List.getD_eq_getElem?_getD, List.getElem?_eq_getElem h]
  rfl
theorem wit_le {W H : Nat} {Ms : List (List Int)} {I J : List Nat} (h : Wit W Ms I J) (H1 : 1 ≤ H) (hH : ∀ i c, (mat Ms i c).natAbs ≤ H) : I.length ≤ W := Decidable.byContradiction fun w => by
  obtain ⟨x, ⟨j, jl, xj⟩, _, eq, fz⟩ := siegel (fun e j => if j < I.length then mat Ms (I.getD j 0) e else 0) (N := I.length) (M := W) (H := H) (by omega) H1 (fun e j => by
    show (if j < I.length then mat Ms (I.getD j 0) e else 0).natAbs ≤ H
    split
    · exact hH _ _
    · exact Nat.zero_le _)
  refine xj (h.ind x (fun j hj => fz j hj) (fun s hs => ?_) j)
  obtain ⟨c, hc, rfl⟩ := List.mem_map.mp hs
  rw [dI_sum x _ 0 I.length (by rw [List.length_map]; exact Nat.le_refl _)]
  refine Eq.trans (sumTo_congr _ fun i hi => ?_) (eq c (h.lt c hc))
  rw [Nat.zero_add, map_getD hi, if_pos hi]
theorem max_ex {P : Nat → Prop} : ∀ B : Nat, P 0 → (∀ n, P n → n ≤ B) → ∃ R, P R ∧ ∀ n, P n → n ≤ R
  | 0, h0, hb => ⟨0, h0, hb⟩
  | B + 1, h0, hb => by
    by_cases c : P (B + 1)
    · exact ⟨B + 1, c, hb⟩
    · exact max_ex B h0 fun n hn => by
        have := hb n hn
        have : n ≠ B + 1 := fun e => c (by rw [← e]; exact hn)
        omega
def prd (f : Nat → Int) : Nat → Int
  | 0 => 1
  | n + 1 => prd f n * f n
theorem prd_ne {f : Nat → Int} : ∀ n, (∀ j, j < n → f j ≠ 0) → prd f n ≠ 0
  | 0, _ => show (1 : Int) ≠ 0 by decide
  | n + 1, h => Int.mul_ne_zero (prd_ne n fun j hj => h j (by omega)) (h n (by omega))
theorem prd_le {f : Nat → Int} {B : Nat} : ∀ n, (∀ j, j < n → (f j).natAbs ≤ B) → (prd f n).natAbs ≤ B ^ n
  | 0, _ => Nat.le_refl _
  | n + 1, h => by
    show (prd f n * f n).natAbs ≤ _
    rw [Int.natAbs_mul, Nat.pow_succ]
    exact Nat.mul_le_mul (prd_le n fun j hj => h j (by omega)) (h n (by omega))
theorem prd_dvd {f : Nat → Int} {p : Int} : ∀ {n j : Nat}, j < n → p ∣ f j → p ∣ prd f n
  | n + 1, j, hj, h => by
    obtain ⟨c, hc⟩ : p ∣ prd f n ∨ p ∣ f n := by
      by_cases k : j = n
      · exact .inr (k ▸ h)
      · exact .inl (prd_dvd (by omega) h)
    · exact ⟨c * f n, by show prd f n * f n = _; rw [hc]; grind⟩
    · rename_i k
      obtain ⟨c, hc⟩ := k
      exact ⟨prd f n * c, by show prd f n * f n = _; rw [hc]; grind⟩
end CB

namespace CB
open PySem PySem.Spec PyProof.Rows L2
/-! ### the denominator of a residue, by half of Euclid's algorithm -/
structure HeS (M R B : Int) (high low before factor : Int) : Prop where
  ex : ∃ σ s0 s : Int, (σ = 1 ∨ σ = -1) ∧ low = σ * (factor * R - s * M) ∧ s0 * factor - s * before = σ
  mm : high * factor + low * before = M
  hB : B < high
  l0 : 0 ≤ low
  lh : low < high
  f1 : 1 ≤ factor
  b0 : 0 ≤ before
  ex2 : ∃ σ s0 s : Int, (σ = 1 ∨ σ = -1) ∧ low = σ * (factor * R - s * M) ∧ high = -σ * (before * R - s0 * M) ∧ s0 * factor - s * before = σ
theorem HeS.start {M R B : Int} (r0 : 0 ≤ R) (rm : R < M) (hB : B < M) : HeS M R B M R 0 1 := ⟨⟨1, 1, 0, .inl rfl, by grind, by decide⟩, by grind, hB, r0, rm, by decide, by decide, ⟨1, 1, 0, .inl rfl, by grind, by grind, by decide⟩⟩
theorem HeS.step {M R B high low before factor : Int} (h : HeS M R B high low before factor) (hb : 0 ≤ B) (lb : B < low) : HeS M R B low (high - high / low * low) factor (before + high / low * factor) := by
  obtain ⟨σ, s0, s, hσ, e1, e2, e3⟩ := h.ex2
  have mm := h.mm
  have l0 : 0 < low := by omega
  have q1 : 1 ≤ high / low := by
    have := h.lh
    exact Int.le_ediv_of_mul_le l0 (by omega)
  have m0 := Int.emod_nonneg high (show low ≠ 0 by omega)
  have ml := Int.emod_lt_of_pos high l0
  have em : high - high / low * low = high % low := by
    have := Int.mul_ediv_add_emod high low
    rw [Int.mul_comm] at this
    omega
  have f1 := h.f1
  have b0 := h.b0
  obtain ⟨q, hq⟩ : ∃ q, high / low = q := ⟨_, rfl⟩
  have X : ∃ σ' s0' s' : Int, (σ' = 1 ∨ σ' = -1) ∧ high - q * low = σ' * ((before + q * factor) * R - s' * M) ∧ low = -σ' * (factor * R - s0' * M) ∧ s0' * (before + q * factor) - s' * factor = σ' := ⟨-σ, s, s0 + q * s, by rcases hσ with e | e <;> omega, by rw [e2, e1]; grind, by rw [e1]; grind, by rw [← e3]; grind⟩
  have qf : 1 * 1 ≤ q * factor := by rw [← hq]; exact Int.mul_le_mul q1 f1 (by decide) (by omega)
  rw [hq] at em ⊢
  obtain ⟨σ', a, b, c1, c2, c3, c4⟩ := X
  exact ⟨⟨σ', a, b, c1, c2, c4⟩, by rw [← mm]; grind, lb, by omega, by omega, by omega, by omega, ⟨σ', a, b, c1, c2, c3, c4⟩⟩
theorem HeS.bd {M R B high low before factor : Int} (h : HeS M R B high low before factor) (hb : 0 ≤ B) (hM : M < (B + 1) * (B + 1)) : factor ≤ B := Decidable.byContradiction fun w => by
  have mm := h.mm
  have hB := h.hB
  have b1 : 0 ≤ low * before := Int.mul_nonneg h.l0 h.b0
  have b2 : (B + 1) * (B + 1) ≤ high * factor := Int.mul_le_mul (by omega) (by omega) (by omega) (by omega)
  omega
theorem dvd_small {M x : Int} (h : M ∣ x) (l : x.natAbs < M.natAbs) : x = 0 := by
  obtain ⟨c, rfl⟩ := h
  rw [Int.natAbs_mul] at l
  by_cases z : c = 0
  · rw [z, Int.mul_zero]
  · have : 1 ≤ c.natAbs := Int.natAbs_pos.mpr z
    have : M.natAbs * 1 ≤ M.natAbs * c.natAbs := Nat.mul_le_mul_left _ this
    omega
/-- it is the fraction's own -/
theorem HeS.fin {M R B high low before factor a b : Int} (h : HeS M R B high low before factor) (hb : 0 ≤ B) (hM : M < (B + 1) * (B + 1)) (lb : low ≤ B) (b1 : 1 ≤ b) (cop : Nat.gcd a.natAbs b.natAbs = 1) (ab : M ∣ b * R - a) (sm : B.natAbs * (a.natAbs + b.natAbs) < M.natAbs) : factor = b := by
  have fb := h.bd hb hM
  have f1 := h.f1
  have l0 := h.l0
  obtain ⟨σ, s0, s, hσ, e1, e3⟩ := h.ex
  obtain ⟨w, hw⟩ := ab
  have M0 : M ≠ 0 := fun z => by rw [z] at sm; simp at sm
  have key : low * b - σ * factor * a = 0 := by
    refine dvd_small (M := M) ⟨σ * factor * w - σ * s * b, by rw [e1]; grind⟩ ?_
    have h1 : (low * b).natAbs ≤ B.natAbs * b.natAbs := by rw [Int.natAbs_mul]; exact Nat.mul_le_mul_right _ (by omega)
    have h2 : (σ * factor * a).natAbs ≤ B.natAbs * a.natAbs := by
      rw [Int.natAbs_mul, Int.natAbs_mul]
      have : σ.natAbs = 1 := by rcases hσ with e | e <;> rw [e] <;> rfl
      rw [this, Nat.one_mul]
      exact Nat.mul_le_mul_right _ (by omega)
    rw [Nat.mul_add] at sm
    omega
  have db : b ∣ factor := by
    refine dvd_of_cop (a := a) (b := b) ⟨σ * low, ?_⟩ cop
    rcases hσ with e | e <;> rw [e] at key ⊢ <;> grind
  obtain ⟨g, hg⟩ := db
  have g1 : 0 < g := by
    rcases Int.lt_trichotomy g 0 with c | c | c
    · have : b * g ≤ b * (-1) := Int.mul_le_mul_of_nonneg_left (by omega) (by omega)
      omega
    · rw [c, Int.mul_zero] at hg; omega
    · exact c
  have elow : low = σ * g * a := by
    have : b * (low - σ * g * a) = 0 := by rw [hg] at key; grind
    have := (Int.mul_eq_zero.mp this).resolve_left (by omega)
    omega
  have es : s = g * w := by
    have : M * (s - g * w) = 0 := by
      have k2 : σ * (factor * R - s * M) = σ * g * a := by rw [← e1]; exact elow
      rcases hσ with e | e <;> rw [e, hg] at k2 <;> grind
    have := (Int.mul_eq_zero.mp this).resolve_left M0
    omega
  have gd : g ∣ σ := ⟨s0 * b - w * before, by rw [← e3, hg, es]; grind⟩
  have : g = 1 := by
    have := Int.natAbs_dvd_natAbs.mpr gd
    have s1 : σ.natAbs = 1 := by rcases hσ with e | e <;> rw [e] <;> rfl
    rw [s1] at this
    have := Nat.dvd_one.mp this
    omega
  rw [hg, this, Int.mul_one]
/-! the fractions of residues over one denominator -/
/-- the fractions N / D behind residues x modulo M -/
structure Rec (A : Nat) (M B L : Int) (xs : List Int) (N : Nat → Int) (D : Int) : Prop where
  D1 : 1 ≤ D
  cong : ∀ i, i < xs.length → M ∣ D * xs.getD i 0 - N i
  cop : ∀ c w : Int, c ∣ D → M ∣ c * w → M ∣ w
  szN : ∀ i, (N i).natAbs < A
  szD : D.natAbs < A
  B1 : (A : Int) ≤ B
  MB : M < (B + 1) * (B + 1)
  BM : B.natAbs * (A + A) < M.natAbs
  LM : L.natAbs * A + A * A < M.natAbs
  M1 : 2 * (A : Int) < M
/-- what the loop keeps: a part of D, and a value over it -/
structure RecP (N : Nat → Int) (D : Int) (i : Nat) (num den : Int) : Prop where
  d1 : 1 ≤ den
  eq : num * D = N i * den
theorem Rec.take {A : Nat} {M B L : Int} {xs : List Int} {N : Nat → Int} {D : Int} (h : Rec A M B L xs N D) {i : Nat} {d num : Int} (hi : i < xs.length) (dD : d ∣ D) (d1 : 1 ≤ d) (c : M ∣ num - xs.getD i 0 * d) (lim : num.natAbs ≤ L.natAbs) : RecP N D i num d := by
  refine ⟨d1, ?_⟩
  obtain ⟨w, hw⟩ := c
  obtain ⟨v, hv⟩ := h.cong i hi
  have D1 := h.D1
  have dl : d.natAbs ≤ D.natAbs := natAbs_le_of_dvd dD (by omega)
  have e : num * D - N i * d = 0 := by
    refine dvd_small (M := M) ⟨w * D + v * d, by grind⟩ ?_
    have h1 : (num * D).natAbs ≤ L.natAbs * A := by rw [Int.natAbs_mul]; exact Nat.mul_le_mul lim (Nat.le_of_lt h.szD)
    have h2 : (N i * d).natAbs ≤ A * A := by rw [Int.natAbs_mul]; exact Nat.mul_le_mul (Nat.le_of_lt (h.szN i)) (Nat.le_trans dl (Nat.le_of_lt h.szD))
    have h3 := h.LM
    omega
  omega
/-- the next part of the denominator -/
theorem Rec.more {A : Nat} {M B L : Int} {xs : List Int} {N : Nat → Int} {D : Int} (h : Rec A M B L xs N D) {i : Nat} {d num : Int} (hi : i < xs.length) (dD : d ∣ D) (d1 : 1 ≤ d) (c : M ∣ num - xs.getD i 0 * d) :
    ∃ a b : Int, 1 ≤ b ∧ Nat.gcd a.natAbs b.natAbs = 1 ∧ M ∣ b * num - a ∧ B.natAbs * (a.natAbs + b.natAbs) < M.natAbs ∧ d * b ∣ D ∧ (∀ n2 : Int, M ∣ n2 - xs.getD i 0 * (d * b) → 2 * n2.natAbs ≤ M.natAbs → RecP N D i n2 (d * b)) := by
  obtain ⟨e, he⟩ := dD
  have D1 := h.D1
  have e1 : 0 < e := by
    rcases Int.lt_trichotomy e 0 with k | k | k
    · have : d * e ≤ d * (-1) := Int.mul_le_mul_of_nonneg_left (by omega) (by omega)
      omega
    · rw [k, Int.mul_zero] at he; omega
    · exact k
  obtain ⟨g, hg⟩ : ∃ g : Nat, g = Nat.gcd e.natAbs (N i).natAbs := ⟨_, rfl⟩
  have g0 : 0 < g := by rw [hg]; exact Nat.gcd_pos_of_pos_left _ (by omega)
  have ge : (g : Int) ∣ e := by rw [hg]; exact Int.dvd_natAbs.mp (Int.natCast_dvd_natCast.mpr (Nat.gcd_dvd_left _ _))
  have gn : (g : Int) ∣ N i := by rw [hg]; exact Int.dvd_natAbs.mp (Int.natCast_dvd_natCast.mpr (Nat.gcd_dvd_right _ _))
  obtain ⟨b, hb⟩ := ge
  obtain ⟨a, ha⟩ := gn
  have b1 : 1 ≤ b := by
    rcases Int.lt_trichotomy b 0 with k | k | k
    · have : (g : Int) * b ≤ (g : Int) * (-1) := Int.mul_le_mul_of_nonneg_left (by omega) (by omega)
      omega
    · rw [k, Int.mul_zero] at hb; omega
    · omega
  have gD : (g : Int) ∣ D := ⟨d * b, by rw [he, hb]; grind⟩
  obtain ⟨v, hv⟩ := h.cong i hi
  obtain ⟨w, hw⟩ := c
  have cg : M ∣ b * (xs.getD i 0 * d) - a := h.cop g _ gD ⟨v, by rw [← hv, he, hb, ha]; grind⟩
  have an : a.natAbs < A := by
    have := h.szN i
    rw [ha, Int.natAbs_mul] at this
    have : 1 * a.natAbs ≤ (g : Int).natAbs * a.natAbs := Nat.mul_le_mul_right _ (by omega)
    omega
  have bn : b.natAbs < A := by
    have h1 : (d * b).natAbs ≤ D.natAbs := natAbs_le_of_dvd ⟨g, by rw [he, hb]; grind⟩ (by omega)
    have := h.szD
    rw [Int.natAbs_mul] at h1
    have : 1 * b.natAbs ≤ d.natAbs * b.natAbs := Nat.mul_le_mul_right _ (by omega)
    omega
  refine ⟨a, b, b1, ?_, ?_, ?_, ⟨g, by rw [he, hb]; grind⟩, fun n2 h2 l2 => ⟨?_, ?_⟩⟩
  · have q : Nat.gcd (g * b.natAbs) (g * a.natAbs) = g := by
      have x1 : e.natAbs = g * b.natAbs := by rw [hb, Int.natAbs_mul]; rfl
      have x2 : (N i).natAbs = g * a.natAbs := by rw [ha, Int.natAbs_mul]; rfl
      rw [← x1, ← x2]; exact hg.symm
    rw [Nat.gcd_mul_left] at q
    have : g * Nat.gcd b.natAbs a.natAbs = g * 1 := by omega
    have := Nat.eq_of_mul_eq_mul_left g0 this
    rw [Nat.gcd_comm]; exact this
  · obtain ⟨k, hk⟩ := cg
    exact ⟨b * w + k, by grind⟩
  · exact Nat.lt_of_le_of_lt (Nat.mul_le_mul_left _ (show a.natAbs + b.natAbs ≤ A + A by omega)) h.BM
  · have : 1 * 1 ≤ d * b := Int.mul_le_mul d1 b1 (by decide) (by omega)
    omega
  · obtain ⟨k, hk⟩ := cg
    obtain ⟨l, hl⟩ := h2
    have ea : n2 - a = 0 := by
      refine dvd_small (M := M) ⟨l + k, by grind⟩ ?_
      have M1 := h.M1
      omega
    have : n2 = a := by omega
    rw [this, he, hb, ha]
    grind
end CB

namespace CB
open PySem PySem.Spec PyProof.Rows L2
/-! ### primes from 2147483647 on -/
def pr31 : List Nat := [2147483647, 2147483659, 2147483693, 2147483713, 2147483743, 2147483777, 2147483783, 2147483813, 2147483857, 2147483867, 2147483869, 2147483887, 2147483893, 2147483929, 2147483951, 2147483993, 2147483999, 2147484007, 2147484037, 2147484041, 2147484043, 2147484061, 2147484083, 2147484109, 2147484161, 2147484167, 2147484197, 2147484203, 2147484221, 2147484223, 2147484233, 2147484239, 2147484259, 2147484271, 2147484277, 2147484331, 2147484337, 2147484349, 2147484377, 2147484433, 2147484439, 2147484461, 2147484491, 2147484499, 2147484517, 2147484527, 2147484541, 2147484553, 2147484569, 2147484601, 2147484611, 2147484613, 2147484617, 2147484641, 2147484679, 2147484697, 2147484721, 2147484733, 2147484751, 2147484791, 2147484821, 2147484851, 2147484869, 2147484877, 2147484919, 2147484929]
/-- the product of 2 ^ d numbers from lo -/
def rprod : Nat → Nat → Nat
  | 0, lo => lo
  | d + 1, lo => rprod d lo * rprod d (lo + 2 ^ d)
theorem rprod_dvd : ∀ {d lo t : Nat}, lo ≤ t → t < lo + 2 ^ d → t ∣ rprod d lo
  | 0, lo, t, h1, h2 => by
    have : t = lo := by simp at h2; omega
    rw [this]
    exact Nat.dvd_refl _
  | d + 1, lo, t, h1, h2 => by
    rw [Nat.pow_succ] at h2
    by_cases c : t < lo + 2 ^ d
    · exact Nat.dvd_trans (rprod_dvd h1 c) (Nat.dvd_mul_right _ _)
    · exact Nat.dvd_trans (rprod_dvd (d := d) (lo := lo + 2 ^ d) (by omega) (by omega)) (Nat.dvd_mul_left _ _)
theorem pr31_gcd : Nat.gcd (prodL pr31) (rprod 16 2) = 1 := by decide +kernel
theorem mem_prodL {q : Nat} : ∀ {l : List Nat}, q ∈ l → q ∣ prodL l
  | a :: l, h => by
    rcases List.mem_cons.mp h with e | h
    · rw [e]; exact Nat.dvd_mul_right _ _
    · exact Nat.dvd_trans (mem_prodL h) (Nat.dvd_mul_left _ _)
theorem pr31_rng : ∀ q ∈ pr31, 2 ≤ q ∧ q < 2 ^ 32 := by decide +kernel
theorem pr31_pr {q : Nat} (h : q ∈ pr31) : Pr q := by
  obtain ⟨q2, q32⟩ := pr31_rng q h
  have bad : ∀ t, 2 ≤ t → t < 65538 → ¬ t ∣ q := fun t t2 tl d => by
    have d1 := Nat.dvd_trans d (mem_prodL h)
    have d2 : t ∣ rprod 16 2 := rprod_dvd t2 (by show t < 2 + 65536; omega)
    have := Nat.dvd_gcd d1 d2
    rw [pr31_gcd] at this
    have := Nat.dvd_one.mp this
    omega
  refine pr_of_min q2 fun r r2 ⟨s, hs⟩ => Decidable.byContradiction fun ne => ?_
  have s0 : s ≠ 0 := fun z => by rw [z, Nat.mul_zero] at hs; omega
  have s1 : s ≠ 1 := fun z => by rw [z, Nat.mul_one] at hs; omega
  by_cases c : r < 65538
  · exact bad r r2 c ⟨s, hs⟩
  · by_cases c2 : s < 65538
    · exact bad s (by omega) c2 ⟨r, by rw [hs, Nat.mul_comm]⟩
    · have : 65538 * 65538 ≤ r * s := Nat.mul_le_mul (by omega) (by omega)
      have : (2 : Nat) ^ 32 < 65538 * 65538 := by decide
      omega
theorem pr31_inc : ∀ k, k < 65 → pr31.getD k 0 < pr31.getD (k + 1) 0 := by decide +kernel
theorem pr31_at {k : Nat} (h : k < 66) : pr31.getD k 0 ∈ pr31 := by
  rw [List.getD_eq_getElem?_getD, List.getElem?_eq_getElem (show k < pr31.length from h)]
  exact List.getElem_mem _
/-- a prime that divides a product divides a factor -/
theorem pr_prodL {p : Nat} (hp : Pr p) : ∀ {l : List Nat}, p ∣ prodL l → ∃ b ∈ l, p ∣ b
  | [], h => by
    have := Nat.dvd_one.mp (show p ∣ 1 from h)
    have := hp.two
    omega
  | a :: l, h => by
    rcases hp.dvd a (prodL l) h with c | c
    · exact ⟨a, List.mem_cons_self, c⟩
    · obtain ⟨b, hb, d⟩ := pr_prodL hp c
      exact ⟨b, List.mem_cons_of_mem _ hb, d⟩
theorem prodL_ge {B : Nat} : ∀ {l : List Nat}, (∀ b ∈ l, B ≤ b) → B ^ l.length ≤ prodL l
  | [], _ => Nat.le_refl _
  | a :: l, h => by
    show B ^ (l.length + 1) ≤ a * prodL l
    rw [Nat.pow_succ, Nat.mul_comm]
    exact Nat.mul_le_mul (h a List.mem_cons_self) (prodL_ge fun b hb => h b (List.mem_cons_of_mem _ hb))
theorem pr_selfI {p q : Nat} (hp : Pr p) (hq : Pr q) (h : p ∣ q) : p = q := by
  obtain ⟨c, hc⟩ := h
  have h2 : (q : Int) ∣ (p : Int) * (c : Int) := ⟨1, by rw [Int.mul_one, ← Int.natCast_mul, ← hc]⟩
  have q2 := hq.two
  have p2 := hp.two
  rcases hq.mul _ _ h2 with k | k
  · exact Nat.dvd_antisymm ⟨c, hc⟩ (Int.natCast_dvd_natCast.mp k)
  · have k := Int.natCast_dvd_natCast.mp k
    have c0 : 0 < c := Nat.pos_of_ne_zero fun z => by rw [z, Nat.mul_zero] at hc; omega
    have := Nat.le_of_dvd c0 k
    have : 2 * c ≤ p * c := Nat.mul_le_mul_right _ p2
    omega
/-- the primes tried so far -/
structure Tried (D : Int) (k p : Nat) : Prop where
  pp : Pr p
  ge : 2147483647 ≤ p
  le : p ≤ pr31.getD k 0
  k6 : k < 65
  ex : ∃ bs : List Nat, bs.length = k ∧ (∀ b ∈ bs, Pr b ∧ b < p ∧ 2 ^ 30 ≤ b) ∧ prodL bs ∣ D.natAbs
theorem Tried.start (D : Int) : Tried D 0 2147483647 := ⟨pr31_pr (by decide), Nat.le_refl _, by decide, by decide, [], rfl, fun b hb => absurd hb (by simp), ⟨D.natAbs, (Nat.one_mul _).symm⟩⟩
theorem Tried.lt {D : Int} {k p : Nat} (h : Tried D k p) : p < 2 ^ 32 := Nat.lt_of_le_of_lt h.le (pr31_rng _ (pr31_at (by have := h.k6; omega))).2
theorem Tried.next {D : Int} {k p : Nat} (h : Tried D k p) (d : (p : Int) ∣ D) (D0 : D ≠ 0) (Db : D.natAbs < 2 ^ 1900) : k < 64 ∧ (∃ P, Pr P ∧ p < P ∧ P < 2 ^ 50) ∧ ∀ p' : Nat, Pr p' → p < p' → (∀ q, Pr q → p < q → p' ≤ q) → Tried D (k + 1) p' := by
  obtain ⟨bs, bl, hb, ⟨c, hc⟩⟩ := h.ex
  have pp := h.pp
  have k6 := h.k6
  have pd : p ∣ c := by
    have z : p ∣ prodL bs * c := by rw [← hc]; exact Int.natCast_dvd_natCast.mp (Int.dvd_natAbs.mpr d)
    rcases pp.dvd _ _ z with w | w
    · obtain ⟨b, hbm, hd⟩ := pr_prodL pp w
      have := pr_selfI pp (hb b hbm).1 hd
      have := (hb b hbm).2.1
      omega
    · exact w
  obtain ⟨e, he⟩ := pd
  have dv : prodL (p :: bs) ∣ D.natAbs := ⟨e, by rw [hc, he]; show prodL bs * (p * e) = p * prodL bs * e; rw [Nat.mul_comm p (prodL bs), Nat.mul_assoc]⟩
  have ge := h.ge
  have big : (2 ^ 30) ^ (k + 1) ≤ D.natAbs := by
    have := prodL_ge (B := 2 ^ 30) (l := p :: bs) fun b hbm => by
      rcases List.mem_cons.mp hbm with e | hbm
      · rw [e]; exact Nat.le_trans (by decide) ge
      · exact (hb b hbm).2.2
    rw [List.length_cons, bl] at this
    exact Nat.le_trans this (Nat.le_of_dvd (Int.natAbs_pos.mpr D0) dv)
  have kl : k < 64 := Decidable.byContradiction fun w => by
    have l1 : 2 ^ 1900 ≤ (2 ^ 30) ^ (k + 1) := by
      rw [← Nat.pow_mul]
      exact Nat.pow_le_pow_right (by decide) (by omega)
    exact absurd (Nat.lt_of_le_of_lt (Nat.le_trans l1 big) Db) (Nat.lt_irrefl _)
  have nx := pr31_inc k (by omega)
  have nm := pr31_at (k := k + 1) (by omega)
  have le := h.le
  refine ⟨kl, ⟨_, pr31_pr nm, by omega, Nat.lt_trans (pr31_rng _ nm).2 (by decide)⟩, fun p' hp' lt least => ⟨hp', by omega, least _ (pr31_pr nm) (by omega), by omega, p :: bs, by rw [List.length_cons, bl], fun b hbm => ?_, dv⟩⟩
  rcases List.mem_cons.mp hbm with e | hbm
  · rw [e]; exact ⟨pp, lt, Nat.le_trans (by decide) ge⟩
  · obtain ⟨a1, a2, a3⟩ := hb b hbm
    exact ⟨a1, by omega, a3⟩
end CB

namespace CB
open PySem PySem.Spec PyProof.Rows L2
/-! ### math.isqrt of long numbers; the gcd of a cut -/
theorem log_le {n k : Nat} (h : n < 2 ^ (k + 1)) : n.log2 ≤ k := by
  by_cases h0 : n = 0
  · subst h0
    rw [Nat.log2_zero]
    exact Nat.zero_le _
  · exact Nat.le_of_lt_succ ((Nat.log2_lt h0).mpr h)
def rIsq : List V → Hp → VK → Prop := fun vs H Q => ∃ a : Nat, vs = [.int (a : Int)] ∧ a < 2 ^ 13000 ∧ ∀ r : Nat, r * r ≤ a → a < (r + 1) * (r + 1) → Q (.int (r : Int)) H
theorem cr_isqrt {X : Cx} : CallR X (.builtin "math.isqrt") rIsq := by
  intro pins s σ H vs us Q I r h
  obtain ⟨a, rfl, hb, q⟩ := h
  obtain ⟨t, u, rfl⟩ : ∃ t, ∃ u : Unit, us = [.int (a : Int) t] := by
    obtain ⟨u, rfl, ru⟩ := r.one
    obtain ⟨t, rfl⟩ := ru
    exact ⟨t, (), rfl⟩
  have hl : (a : Int).toNat.log2 ≤ 12999 := log_le hb
  have sp := Float64.isqrt_spec a
  refine PySem.call_function_meets PySem.W.MGF.kind_isqrt PySem.W.MGF.plain_isqrt PySem.W.MGF.entry_isqrt (PySem.W.MGF.args_isqrt _) (PySem.W.mg_run_isqrt (a : Int) t (by omega) (by omega) (by omega)).meets ?_
  exact ⟨.int (Float64.isqrt a : Int), H, I.tok _, ⟨_, rfl⟩, q _ sp.1 sp.2⟩
end CB

namespace CB
open PySem PySem.Spec PyProof.Rows L2
/-! ### lifting: powers of the prime; the sizes at p ^ 32 -/
theorem ns_pow {p : Int} {S : List (List Int)} (ns : NS p S) (p0 : p ≠ 0) : ∀ (k : Nat) (z : Nat → Int), (∀ j, S.length ≤ j → z j = 0) → (∀ s ∈ S, p ^ k ∣ dI s z 0) → ∀ j, p ^ k ∣ z j
  | 0, z, _, _, j => ⟨z j, by rw [Int.pow_zero, Int.one_mul]⟩
  | k + 1, z, hz, hs, j => by
    have all : ∀ j, p ∣ z j := ns z hz fun s h => Int.dvd_trans ⟨p ^ k, by rw [Int.pow_succ, Int.mul_comm]⟩ (hs s h)
    have e : ∀ j, z j = p * (z j / p) := fun j => (Int.mul_ediv_cancel' (all j)).symm
    have ih := ns_pow ns p0 k (fun j => z j / p) (fun j hj => by show z j / p = 0; rw [hz j hj]; exact Int.zero_ediv _) (fun s h => by
      have := hs s h
      rw [show z = fun j => p * (z j / p) from funext e, dI_mul] at this
      obtain ⟨c, hc⟩ := this
      refine ⟨c, ?_⟩
      have h2 : p * dI s (fun j => z j / p) 0 = p * (p ^ k * c) := by rw [hc, Int.pow_succ]; grind
      exact Int.eq_of_mul_eq_mul_left p0 h2) j
    obtain ⟨c, hc⟩ := ih
    exact ⟨c, by rw [e j, hc, Int.pow_succ]; grind⟩
theorem cop_pow {p D : Int} (cp : ∀ c w : Int, c ∣ D → p ∣ c * w → p ∣ w) (p0 : p ≠ 0) : ∀ (k : Nat) (c w : Int), c ∣ D → p ^ k ∣ c * w → p ^ k ∣ w
  | 0, c, w, _, _ => ⟨w, by rw [Int.pow_zero, Int.one_mul]⟩
  | k + 1, c, w, hc, h => by
    have h1 : p ∣ w := cp c w hc (Int.dvd_trans ⟨p ^ k, by rw [Int.pow_succ, Int.mul_comm]⟩ h)
    obtain ⟨v, rfl⟩ := h1
    obtain ⟨d, hd⟩ := h
    have h2 : p ^ k ∣ c * v := ⟨d, Int.eq_of_mul_eq_mul_left p0 (by rw [Int.pow_succ] at hd; grind)⟩
    obtain ⟨e, he⟩ := cop_pow cp p0 k c v hc h2
    exact ⟨e, by rw [he, Int.pow_succ]; grind⟩
theorem fin_aux {X Y Z M : Nat} (a : 256 * X ≤ M) (b : Y * 4 < Z) (c : Z ≤ M) : X + Y < M := by omega
end CB

namespace CB
open PySem PySem.Spec PyProof.Rows L2
/-! ### one step of the lifting -/
theorem dI_le {z : Nat → Int} {X Y : Nat} (hz : ∀ j, (z j).natAbs ≤ Y) : ∀ {r : List Int} {t : Nat}, (∀ x ∈ r, x.natAbs ≤ X) → (dI r z t).natAbs ≤ r.length * (X * Y)
  | [], _, _ => by show (0 : Int).natAbs ≤ _; simp
  | a :: r, t, h => by
    have ih := dI_le hz (r := r) (t := t + 1) fun x hx => h x (List.mem_cons_of_mem _ hx)
    have h1 : (a * z t).natAbs ≤ X * Y := by rw [Int.natAbs_mul]; exact Nat.mul_le_mul (h a (List.mem_cons_self ..)) (hz t)
    have e : (r.length + 1) * (X * Y) = r.length * (X * Y) + X * Y := by rw [Nat.add_mul, Nat.one_mul]
    show (a * z t + dI r z (t + 1)).natAbs ≤ (r.length + 1) * (X * Y)
    omega
/-- congruent vectors, congruent values -/
theorem dI_cong {m : Int} {z y : Nat → Int} {r : List Int} {t : Nat} (h : ∀ i, t ≤ i → i < t + r.length → m ∣ z i - y i) : m ∣ dI r z t - dI r y t := by
  have e : dI r (fun i => z i + (-1) * y i) t = dI r z t + dI r (fun i => (-1) * y i) t := dI_add ..
  rw [dI_mul] at e
  have d : m ∣ dI r (fun i => z i + (-1) * y i) t := dI_dvd fun i a b => by
    have := h i a b
    rwa [show z i + (-1) * y i = z i - y i by omega]
  rwa [e, show dI r z t + (-1) * dI r y t = dI r z t - dI r y t by omega] at d
/-- what the steps keep -/
structure LfS (M : Int) (S : List (List Int)) (rs rest res : List Int) (s : Nat) (t : Int) : Prop where
  l1 : rest.length = S.length
  l2 : res.length = S.length
  b1 : ∀ i, (rest.getD i 0).natAbs < 2 ^ 100
  b2 : ∀ i, 0 ≤ res.getD i 0 ∧ (res.getD i 0 < M ^ s)
  eq : ∀ (i : Nat) (w : List Int), S[i]? = some w → dI w (fun j => res.getD j 0) 0 + M ^ s * rest.getD i 0 = rs.getD i 0
  st : (s = 0 ∧ t = 1) ∨ (s = 1 ∧ t = 2) ∨ (s = 2 ∧ t = 4) ∨ (s = 3 ∧ t = 4) ∨ (s = 4 ∧ t = 7)
theorem zw_get {f : Int → α → Int} {xs : List Int} {ys : List α} {i : Nat} {y : α} (hi : i < xs.length) (hy : ys[i]? = some y) : (List.zipWith f xs ys).getD i 0 = f (xs.getD i 0) y := by
  rw [List.getD_eq_getElem?_getD, List.getElem?_zipWith, List.getElem?_eq_getElem hi, hy, List.getD_eq_getElem?_getD, List.getElem?_eq_getElem hi]
  rfl
theorem zw_end {f : Int → α → Int} {xs : List Int} {ys : List α} {i : Nat} (hi : xs.length ≤ i) : (List.zipWith f xs ys).getD i 0 = 0 := by
  rw [List.getD_eq_getElem?_getD, List.getElem?_eq_none (by rw [List.length_zipWith]; omega)]
  rfl
theorem div_small {x y M : Int} (M0 : 2 ^ 200 ≤ M) (hx : x.natAbs < 2 ^ 100) (hy : y.natAbs ≤ 2 ^ 65 * M.natAbs) : ((x - y) / M).natAbs < 2 ^ 100 := by
  have c : (2 : Int) ^ 100 < 2 ^ 200 := by decide +kernel
  obtain ⟨P, hP⟩ : ∃ P : Int, P = 2 ^ 200 := ⟨_, rfl⟩
  obtain ⟨q, hq⟩ : ∃ q, (x - y) / M = q := ⟨_, rfl⟩
  have c2 : (2 : Nat) ^ 100 = 1267650600228229401496703205376 := by decide +kernel
  have c3 : (2 : Int) ^ 100 = 1267650600228229401496703205376 := by decide +kernel
  have c4 : (2 : Nat) ^ 65 = 36893488147419103232 := by decide +kernel
  rw [← hP] at M0 c
  rw [hq, c2]
  have Mp : 0 < M := by omega
  have lo : -36893488147419103234 ≤ q := by
    rw [← hq]
    refine Int.le_ediv_of_mul_le Mp ?_
    omega
  have hi : q < 36893488147419103234 := by
    rw [← hq]
    refine Int.ediv_lt_of_lt_mul Mp ?_
    omega
  omega
theorem zw_congr {f g : Int → α → Int} : ∀ {xs : List Int} {ys : List α}, (∀ x, ∀ y ∈ ys, f x y = g x y) → List.zipWith f xs ys = List.zipWith g xs ys
  | [], _, _ => rfl
  | _ :: _, [], _ => rfl
  | x :: xs, y :: ys, h => by
    rw [List.zipWith_cons_cons, List.zipWith_cons_cons, h x y (List.mem_cons_self ..), zw_congr fun x' y' hy => h x' y' (List.mem_cons_of_mem _ hy)]
/-- digits by the inverse -/
theorem dig_dvd {M : Int} {S B : List (List Int)} {rest dg : List Int} (ls : ∀ w ∈ S, w.length = S.length) (inv : ∀ (y : Nat → Int) (i : Nat) (w : List Int), S[i]? = some w → M ∣ dI w (fun j => dI (B.getD j []) y 0) 0 - y i) (dv : ∀ j, j < S.length → dg.getD j 0 = dI (B.getD j []) (fun i => rest.getD i 0) 0 % M) (i : Nat) (w : List Int) (hw : S[i]? = some w) : M ∣ dI w (fun j => dg.getD j 0) 0 - rest.getD i 0 := by
  have h1 := inv (fun i => rest.getD i 0) i w hw
  have h2 : M ∣ dI w (fun j => dg.getD j 0) 0 - dI w (fun j => dI (B.getD j []) (fun i => rest.getD i 0) 0) 0 := dI_cong fun j _ hj => by
    have l := ls w (List.mem_of_getElem? hw)
    show M ∣ dg.getD j 0 - dI (B.getD j []) (fun i => rest.getD i 0) 0
    rw [dv j (by omega)]
    obtain ⟨x, hx⟩ : ∃ x, dI (B.getD j []) (fun i => rest.getD i 0) 0 = x := ⟨_, rfl⟩
    rw [hx]
    have e := Int.mul_ediv_add_emod x M
    exact ⟨-(x / M), by rw [Int.mul_neg]; omega⟩
  have h := Int.dvd_add h1 h2
  rwa [show dI w (fun j => dI (B.getD j []) (fun i => rest.getD i 0) 0) 0 - rest.getD i 0 + (dI w (fun j => dg.getD j 0) 0 - dI w (fun j => dI (B.getD j []) (fun i => rest.getD i 0) 0) 0) = dI w (fun j => dg.getD j 0) 0 - rest.getD i 0 by omega] at h
theorem LfS.next {M : Int} {S : List (List Int)} {rs rest res dg : List Int} {s : Nat} {t t' : Int} (L : LfS M S rs rest res s t) (M0 : 2 ^ 200 ≤ M) (n30 : S.length ≤ 30) (ls : ∀ w ∈ S, w.length = S.length ∧ ∀ x ∈ w, x.natAbs < 2 ^ 60) (dl : dg.length = S.length) (d0r : ∀ j, 0 ≤ dg.getD j 0 ∧ dg.getD j 0 < M) (dv : ∀ (i : Nat) (w : List Int), S[i]? = some w → M ∣ dI w (fun j => dg.getD j 0) 0 - rest.getD i 0) (st : (s + 1 = 0 ∧ t' = 1) ∨ (s + 1 = 1 ∧ t' = 2) ∨ (s + 1 = 2 ∧ t' = 4) ∨ (s + 1 = 3 ∧ t' = 4) ∨ (s + 1 = 4 ∧ t' = 7)) : LfS M S rs (List.zipWith (fun x w => (x - dI w (fun j => dg.getD j 0) 0) / M) rest S) (List.zipWith (fun r d => r + M ^ s * d) res dg) (s + 1) t' := by
  have Mp : 0 < M := by
    have : (0 : Int) < 2 ^ 200 := by decide +kernel
    omega
  have Ps : 0 < M ^ s := Int.pow_pos Mp
  have ng : ∀ i, i < S.length → (List.zipWith (fun r d => r + M ^ s * d) res dg).getD i 0 = res.getD i 0 + M ^ s * dg.getD i 0 := fun i hi => by
    have hd := List.getElem?_eq_getElem (show i < dg.length by omega)
    rw [zw_get (by have := L.l2; omega) hd, List.getD_eq_getElem?_getD (l := dg), hd]
    rfl
  have l1 := L.l1
  have l2 := L.l2
  refine ⟨by rw [List.length_zipWith]; omega, by rw [List.length_zipWith]; omega, fun i => ?_, fun i => ?_, fun i w hw => ?_, st⟩
  · by_cases c : i < S.length
    · have hw := List.getElem?_eq_getElem c
      rw [zw_get (by omega) hw]
      obtain ⟨wl, wb⟩ := ls _ (List.getElem_mem c)
      refine div_small M0 (L.b1 i) ?_
      have h := dI_le (z := fun j => dg.getD j 0) (X := 2 ^ 60) (Y := M.natAbs) (fun j => by have := d0r j; omega) (r := S[i]) (t := 0) fun x hx => Nat.le_of_lt (wb x hx)
      rw [wl] at h
      refine Nat.le_trans h ?_
      rw [← Nat.mul_assoc]
      refine Nat.mul_le_mul_right _ ?_
      have c1 : (30 : Nat) * 2 ^ 60 ≤ 2 ^ 65 := by decide +kernel
      exact Nat.le_trans (Nat.mul_le_mul_right _ n30) c1
    · rw [zw_end (by omega)]
      exact (by decide +kernel : (0 : Int).natAbs < 2 ^ 100)
  · by_cases c : i < S.length
    · rw [ng i c]
      obtain ⟨a1, a2⟩ := L.b2 i
      obtain ⟨e1, e2⟩ := d0r i
      have h1 : 0 ≤ M ^ s * dg.getD i 0 := Int.mul_nonneg (Int.le_of_lt Ps) e1
      have h2 : M ^ s * dg.getD i 0 ≤ M ^ s * (M - 1) := Int.mul_le_mul_of_nonneg_left (by omega) (Int.le_of_lt Ps)
      rw [Int.mul_sub, Int.mul_one] at h2
      rw [Int.pow_succ]
      omega
    · rw [zw_end (by omega)]
      exact ⟨Int.le_refl _, Int.pow_pos Mp⟩
  · have c := (List.getElem?_eq_some_iff.mp hw).1
    obtain ⟨wl, _⟩ := ls w (List.mem_of_getElem? hw)
    rw [zw_get (by omega) hw, dI_congr (y := fun j => res.getD j 0 + M ^ s * dg.getD j 0) (fun j _ h => ng j (by omega)), dI_add (fun j => res.getD j 0) (fun j => M ^ s * dg.getD j 0), dI_mul]
    have e := L.eq i w hw
    obtain ⟨v, hv⟩ := dv i w hw
    have q : (rest.getD i 0 - dI w (fun j => dg.getD j 0) 0) / M = -v := by
      rw [show rest.getD i 0 - dI w (fun j => dg.getD j 0) 0 = M * (-v) by rw [Int.mul_neg]; omega]
      exact Int.mul_ediv_cancel_left _ (by omega)
    rw [q, Int.pow_succ]
    grind
/-- its solution -/
structure SolN (S : List (List Int)) (rs : List Int) (p : Nat) (N : Nat → Int) (D : Int) : Prop where
  D1 : 1 ≤ D
  DA : D.natAbs < 2 ^ 240
  NA : ∀ i, (N i).natAbs < 2 ^ 240
  eq : ∀ (i : Nat) (w : List Int), S[i]? = some w → dI w N 0 = rs.getD i 0 * D
  z : ∀ j, S.length ≤ j → N j = 0
  cop : ∀ c w : Int, c ∣ D → (p : Int) ∣ c * w → (p : Int) ∣ w
/-- what is found stands for the solution -/
theorem LfS.cong {M : Int} {S : List (List Int)} {rs rest res : List Int} {s : Nat} {t : Int} {p e : Nat} {N : Nat → Int} {D : Int} (L : LfS M S rs rest res s t) (sol : SolN S rs p N D) (hM : (p : Int) ^ e = M) (ns : NS (p : Int) S) (p0 : (p : Int) ≠ 0) (i : Nat) : M ^ s ∣ D * res.getD i 0 - N i := by
  have e2 : M ^ s = (p : Int) ^ (e * s) := by rw [← hM, ← Int.pow_mul]
  rw [e2]
  refine ns_pow ns p0 (e * s) (fun j => D * res.getD j 0 - N j) (fun j hj => ?_) (fun w hw => ?_) i
  · show D * res.getD j 0 - N j = 0
    rw [getD_end (by have := L.l2; omega), sol.z j hj]
    omega
  · obtain ⟨k, hk⟩ := List.getElem?_of_mem hw
    have h1 := L.eq k w hk
    have h2 := sol.eq k w hk
    rw [← e2]
    have h3 : dI w (fun j => D * res.getD j 0 - N j) 0 = D * dI w (fun j => res.getD j 0) 0 + (-1) * dI w N 0 := by
      rw [← dI_mul D, ← dI_mul (-1) N, ← dI_add]
      exact dI_congr fun j _ _ => by show D * res.getD j 0 - N j = D * res.getD j 0 + -1 * N j; omega
    exact ⟨-(D * rest.getD k 0), by rw [h3, h2]; grind⟩
theorem SolN.solves {S : List (List Int)} {rs nums : List Int} {p : Nat} {N : Nat → Int} {D d : Int} (sol : SolN S rs p N D) (ln : ∀ w ∈ S, w.length = S.length) (h : ∀ i, i < S.length → nums.getD i 0 * D = N i * d) (i : Nat) (w : List Int) (hw : S[i]? = some w) : dI w (fun j => nums.getD j 0) 0 = rs.getD i 0 * d := by
  have h1 := sol.eq i w hw
  have wl := ln w (List.mem_of_getElem? hw)
  have e : dI w (fun j => D * nums.getD j 0) 0 = dI w (fun j => d * N j) 0 := dI_congr fun j _ hj => by
    have := h j (by omega)
    show D * nums.getD j 0 = d * N j
    rw [Int.mul_comm, this, Int.mul_comm]
  rw [dI_mul, dI_mul, h1] at e
  have D0 : D ≠ 0 := by have := sol.D1; omega
  exact Int.eq_of_mul_eq_mul_left D0 (by rw [e]; grind)
end CB

namespace CB
open PySem PySem.Spec PyProof.Rows L2
/-! ### a square system that a prime does not spoil has a solution in small numbers -/
theorem sol_red {S : List (List Int)} {rs : List Int} {p : Nat} (hp : Pr p) (ns : NS (p : Int) S) : ∀ (k : Nat) (N : Nat → Int) (D : Int), D.natAbs ≤ k → 1 ≤ D → D.natAbs < 2 ^ 240 → (∀ i, (N i).natAbs < 2 ^ 240) → (∀ (i : Nat) (w : List Int), S[i]? = some w → dI w N 0 = rs.getD i 0 * D) → (∀ j, S.length ≤ j → N j = 0) → ∃ N D, SolN S rs p N D
  | 0, N, D, h, h1, _, _, _, _ => by omega
  | k + 1, N, D, h, h1, hD, hN, eq, hz => by
    have p2 := hp.two
    by_cases c : (p : Int) ∣ D
    · have all : ∀ j, (p : Int) ∣ N j := ns N hz fun w hw => by
        obtain ⟨i, hi⟩ := List.getElem?_of_mem hw
        rw [eq i w hi]
        exact Int.dvd_mul_of_dvd_right c
      obtain ⟨d, hd⟩ := c
      have nb : ∀ j, (N j / (p : Int)).natAbs ≤ (N j).natAbs := fun j => Int.natAbs_ediv_le_natAbs _ _
      have ed : (p : Int) * (N 0 / (p : Int)) = (p : Int) * (N 0 / (p : Int)) := rfl
      have d1 : 1 ≤ d := by
        refine Decidable.byContradiction fun z => ?_
        have : (p : Int) * d ≤ (p : Int) * 0 := Int.mul_le_mul_of_nonneg_left (by omega) (by omega)
        rw [Int.mul_zero] at this
        omega
      have d2 : 2 * d ≤ (p : Int) * d := Int.mul_le_mul_of_nonneg_right (by omega) (by omega)
      refine sol_red hp ns k (fun j => N j / (p : Int)) d (by omega) d1 (by omega) (fun i => Nat.lt_of_le_of_lt (nb i) (hN i)) (fun i w hi => ?_) (fun j hj => ?_)
      · have e := eq i w hi
        have e2 : dI w N 0 = (p : Int) * dI w (fun j => N j / (p : Int)) 0 := by
          rw [← dI_mul]
          exact dI_congr fun j _ _ => by
            show N j = (p : Int) * (N j / (p : Int))
            rw [Int.mul_ediv_cancel' (all j)]
        rw [e2, hd] at e
        exact Int.eq_of_mul_eq_mul_left (show (p : Int) ≠ 0 by omega) (by rw [e]; grind)
      · show N j / (p : Int) = 0
        rw [hz j hj, Int.zero_ediv]
    · refine ⟨N, D, h1, hD, hN, eq, hz, fun a w ha hw => ?_⟩
      have hn : p ∣ a.natAbs * w.natAbs := by
        rw [← Int.natAbs_mul]
        have := Int.natAbs_dvd_natAbs.mpr hw
        rwa [Int.natAbs_natCast] at this
      rcases hp.dvd _ _ hn with k1 | k1
      · exact absurd (Int.dvd_trans (Int.natAbs_dvd_natAbs.mp (by rw [Int.natAbs_natCast]; exact k1)) ha) c
      · exact Int.natAbs_dvd_natAbs.mp (by rw [Int.natAbs_natCast]; exact k1)
theorem sol_ex {S : List (List Int)} {rs : List Int} {p H : Nat} (hp : Pr p) (ns : NS (p : Int) S) (sl : ∀ w ∈ S, w.length = S.length) (n11 : S.length ≤ 11) (H1 : 1 ≤ H) (HB : H ≤ 2 ^ 17) (hS : ∀ i j, ((S.getD i []).getD j 0).natAbs ≤ H) (hr : ∀ i, (rs.getD i 0).natAbs ≤ H) : ∃ N D, SolN S rs p N D := by
  have p2 := hp.two
  obtain ⟨n, hn⟩ : ∃ n, S.length = n := ⟨_, rfl⟩
  obtain ⟨x, ⟨j0, jl, xj⟩, xb, eq, fz⟩ := siegel (fun e j => if j < n then (S.getD e []).getD j 0 else - rs.getD e 0) (N := n + 1) (M := n) (H := H) (by omega) H1 (fun e j => by
    show (if j < n then (S.getD e []).getD j 0 else - rs.getD e 0).natAbs ≤ H
    split
    · exact hS _ _
    · rw [Int.natAbs_neg]; exact hr _)
  have B : ∀ j, (x j).natAbs < 2 ^ 240 := fun j => by
    have h1 : 2 * (n + 1) * H ≤ 2 * 12 * 2 ^ 17 := Nat.mul_le_mul (by omega) HB
    have h2 : (2 * (n + 1) * H) ^ n ≤ (2 * 12 * 2 ^ 17) ^ n := Nat.pow_le_pow_left h1 n
    have h3 : (2 * 12 * 2 ^ 17) ^ n ≤ (2 * 12 * 2 ^ 17) ^ 11 := Nat.pow_le_pow_right (by decide) (by omega)
    have h4 : (2 * 12 * 2 ^ 17) ^ 11 < 2 ^ 240 := by decide +kernel
    exact Nat.lt_of_le_of_lt (Nat.le_trans (xb j) (Nat.le_trans h2 h3)) h4
  obtain ⟨N, hN⟩ : ∃ N : Nat → Int, N = fun j => if j < n then x j else 0 := ⟨_, rfl⟩
  have Nj : ∀ j, j < n → N j = x j := fun j h => by rw [hN]; exact if_pos h
  have Nz : ∀ j, n ≤ j → N j = 0 := fun j h => by rw [hN]; exact if_neg (by omega)
  have e1 : ∀ (i : Nat) (w : List Int), S[i]? = some w → dI w N 0 = rs.getD i 0 * x n := fun i w hw => by
    have il := (List.getElem?_eq_some_iff.mp hw).1
    have wl := sl w (List.mem_of_getElem? hw)
    have ew : S.getD i [] = w := by rw [List.getD_eq_getElem?_getD, hw]; rfl
    have e := eq i (by omega)
    rw [dI_sum N w 0 n (by omega)]
    have s : sumTo (fun j => (if j < n then (S.getD i []).getD j 0 else - rs.getD i 0) * x j) (n + 1) = sumTo (fun j => (if j < n then (S.getD i []).getD j 0 else - rs.getD i 0) * x j) n + (if n < n then (S.getD i []).getD n 0 else - rs.getD i 0) * x n := rfl
    rw [s, if_neg (Nat.lt_irrefl n)] at e
    have c : sumTo (fun j => w.getD j 0 * N (0 + j)) n = sumTo (fun j => (if j < n then (S.getD i []).getD j 0 else - rs.getD i 0) * x j) n := sumTo_congr _ fun j hj => by
      rw [Nat.zero_add, Nj j hj, if_pos hj, ew]
    rw [c]
    grind
  have D0 : x n ≠ 0 := fun z => by
    have h0 := ns_exact ns (by omega) (z := N) (fun j hj => Nz j (by omega)) (fun w hw => by
      obtain ⟨i, hi⟩ := List.getElem?_of_mem hw
      rw [e1 i w hi, z, Int.mul_zero])
    by_cases c : j0 < n
    · exact xj (by rw [← Nj j0 c]; exact h0 j0)
    · have : j0 = n := by omega
      exact xj (by rw [this]; exact z)
  have bN : ∀ i, (N i).natAbs < 2 ^ 240 := fun i => by
    by_cases c : i < n
    · rw [Nj i c]; exact B i
    · rw [Nz i (by omega)]; exact Nat.two_pow_pos _
  by_cases c : 0 < x n
  · exact sol_red hp ns _ N (x n) (Nat.le_refl _) (by omega) (B n) bN e1 (fun j hj => Nz j (by omega))
  · refine sol_red hp ns _ (fun j => (-1) * N j) (-(x n)) (Nat.le_refl _) (by omega) (by rw [Int.natAbs_neg]; exact B n) (fun i => ?_) (fun i w hw => ?_) (fun j hj => ?_)
    · show ((-1) * N i).natAbs < _
      rw [show (-1) * N i = - N i by omega, Int.natAbs_neg]; exact bN i
    · rw [dI_mul, e1 i w hw]; grind
    · show (-1) * N j = 0
      rw [Nz j (by omega)]; rfl
end CB

namespace CB
open PySem PySem.Spec PyProof.Rows L2
/-! ### a refutation's value at the right side -/
end CB

namespace CB
open PySem PySem.Spec PyProof.Rows L2
/-! ### a system, and what is known of its primes -/
theorem pr31_small : ∀ q ∈ pr31, q < 2148532224 := by decide +kernel
theorem pr31_le {k : Nat} (h : k < 66) : pr31.getD k 0 < 2148532224 := pr31_small _ (pr31_at h)
theorem PInv.nd1 {p : Int} {W t : Nat} {Ms : List (List Int)} {idx cols : List Nat} {rest : List (Nat × List Int)} (h : PInv p W Ms t idx cols rest) : idx.Nodup := (List.nodup_append.mp h.dis).1
theorem PInv.lt1 {p : Int} {W t : Nat} {Ms : List (List Int)} {idx cols : List Nat} {rest : List (Nat × List Int)} (h : PInv p W Ms t idx cols rest) : ∀ i ∈ idx, i < Ms.length := fun i hi => h.bnd i (List.mem_append.mpr (.inl hi))
theorem nodup_le : ∀ {W : Nat} {l : List Nat}, l.Nodup → (∀ c ∈ l, c < W) → l.length ≤ W
  | 0, [], _, _ => Nat.le_refl _
  | 0, a :: l, _, h => absurd (h a (List.mem_cons_self ..)) (Nat.not_lt_zero _)
  | W + 1, l, nd, h => by
    have ih := nodup_le (W := W) (l := l.filter fun c => !decide (c = W)) (nd.filter _) fun c hc => by
      obtain ⟨h1, h2⟩ := List.mem_filter.mp hc
      have := h c h1
      have : c ≠ W := by simpa using h2
      omega
    have cnt : (l.filter fun c => decide (c = W)).length ≤ 1 := by
      rw [← List.countP_eq_length_filter]
      have : l.countP (fun c => decide (c = W)) = l.count W := by
        rw [List.count]
        congr 1
      rw [this]
      exact List.nodup_iff_count.mp nd W
    have z : (l.filter fun a => decide (a = W)).length + (l.filter fun a => !decide (a = W)).length = l.length := by
      have y := List.length_eq_countP_add_countP (fun a => decide (a = W)) (l := l)
      rw [List.countP_eq_length_filter, List.countP_eq_length_filter] at y
      have e1_ : (l.filter fun a => decide ¬ (fun a => decide (a = W)) a = true) = l.filter fun a => !decide (a = W) := by
        congr 1
        funext a
        simp
      rw [e1_] at y
      omega
    omega
theorem SolN.uniq {S : List (List Int)} {rs nums : List Int} {p : Nat} {N : Nat → Int} {D d : Int} (sol : SolN S rs p N D) (ns : NS (p : Int) S) (p2 : 2 ≤ p) (nl : nums.length = S.length) (h : ∀ (i : Nat) (w : List Int), S[i]? = some w → dI w (fun j => nums.getD j 0) 0 = rs.getD i 0 * d) (j : Nat) : nums.getD j 0 * D = N j * d := by
  have e := ns_exact ns (by omega) (z := fun j => D * nums.getD j 0 + (-d) * N j) (fun j hj => by
    show D * nums.getD j 0 + (-d) * N j = 0
    rw [getD_end (by omega), sol.z j hj, Int.mul_zero, Int.mul_zero]; rfl) (fun s hs => by
    obtain ⟨i, hi⟩ := List.getElem?_of_mem hs
    have h1 := h i s hi
    have h2 := sol.eq i s hi
    rw [dI_add, dI_mul, dI_mul, h1, h2]
    grind) j
  have e : D * nums.getD j 0 + (-d) * N j = 0 := e
  grind
theorem col_getD (Ms : List (List Int)) (j c : Nat) : (Ms.map fun r => r.getD j 0).getD c 0 = mat Ms c j := by
  unfold mat
  rw [List.getD_eq_getElem?_getD, List.getElem?_map, List.getD_eq_getElem?_getD (l := Ms)]
  cases e : Ms[c]? with
  | none => show (0 : Int) = ([] : List Int).getD j 0; simp
  | some r => rfl
/-- a system of whole rows, the last column its right side; D is not 0 modulo any prime that serves it -/
structure SysD (W : Nat) (Ms : List (List Int)) (D : Int) : Prop where
  w12 : W ≤ 12
  m20 : Ms.length ≤ 20
  ls : ∀ s ∈ Ms, s.length = W + 1 ∧ ∀ x ∈ s, x.natAbs < 2 ^ 60
  ex1 : ∀ (p : Nat) (idx cols : List Nat), Pr p → 2147483647 ≤ p → NS (p : Int) (sq Ms idx cols) → idx.length = cols.length → idx.Nodup → cols.Nodup → (∀ c ∈ cols, c < W) → ∃ N D, SolN (sq Ms idx cols) (idx.map fun i => mat Ms i W) p N D
  ex2 : ∀ (p : Nat) (idx cols : List Nat) (l : Nat), Pr p → 2147483647 ≤ p → NS (p : Int) (sqT Ms idx cols) → idx.length = cols.length → idx.Nodup → cols.Nodup → (∀ c ∈ cols, c < W) → l ∉ idx → ∃ N D, SolN (sqT Ms idx cols) (cols.map fun c => mat Ms l c) p N D
  bad : ∀ (p : Nat) (idx cols : List Nat) (rest : List (Nat × List Int)) (i j : Nat) (q : Nat → Int) (den : Int), Pr p → PInv (p : Int) W (Ms.map (·.take W)) W idx cols rest → j < W → den ≠ 0 → (∀ c ∈ cols, dI (idx.map fun i => mat Ms i c) q 0 = den * mat Ms i c) → dI (idx.map fun i => mat Ms i j) q 0 ≠ den * mat Ms i j → (p : Int) ∣ D
theorem getD_mem0 {Ms : List (List Int)} {H : Nat} (h : ∀ s ∈ Ms, ∀ x ∈ s, x.natAbs ≤ H) (i c : Nat) : (mat Ms i c).natAbs ≤ H := by
  unfold mat
  rw [List.getD_eq_getElem?_getD (l := Ms)]
  cases e : Ms[i]? with
  | none => show (([] : List Int).getD c 0).natAbs ≤ _; simp
  | some r =>
    show (r.getD c 0).natAbs ≤ _
    rw [List.getD_eq_getElem?_getD]
    cases e2 : r[c]? with
    | none => exact Nat.zero_le _
    | some x => exact h r (List.mem_of_getElem? e) x (List.mem_of_getElem? e2)
theorem mapmap_at {f : Nat → Nat → Int} {I J : List Nat} {H : Nat} (h : ∀ i c, (f i c).natAbs ≤ H) (i j : Nat) : (((I.map fun i => J.map fun c => f i c).getD i []).getD j 0).natAbs ≤ H := by
  rw [List.getD_eq_getElem?_getD (l := I.map _), List.getElem?_map]
  cases e : I[i]? with
  | none => show (([] : List Int).getD j 0).natAbs ≤ _; simp
  | some r =>
    show ((J.map fun c => f r c).getD j 0).natAbs ≤ _
    rw [List.getD_eq_getElem?_getD, List.getElem?_map]
    cases e2 : J[j]? with
    | none => exact Nat.zero_le _
    | some x => exact h r x
theorem map_at0 {f : Nat → Int} {J : List Nat} {H : Nat} (h : ∀ c, (f c).natAbs ≤ H) (j : Nat) : ((J.map f).getD j 0).natAbs ≤ H := by
  rw [List.getD_eq_getElem?_getD, List.getElem?_map]
  cases e2 : J[j]? with
  | none => exact Nat.zero_le _
  | some x => exact h x
end CB

namespace CB
open PySem PySem.Spec PyProof.Rows L2
/-! ### small solutions where one unknown, or one equation, is heavier than the rest -/
def prodN (f : Nat → Nat) : Nat → Nat
  | 0 => 1
  | n + 1 => prodN f n * f n
theorem prodN_mono {f g : Nat → Nat} : ∀ {n : Nat}, (∀ e, e < n → f e ≤ g e) → prodN f n ≤ prodN g n
  | 0, _ => Nat.le_refl _
  | n + 1, h => Nat.mul_le_mul (prodN_mono fun e he => h e (by omega)) (h n (by omega))
theorem prodN_const (X : Nat) : ∀ n, prodN (fun _ => X) n = X ^ n
  | 0 => rfl
  | n + 1 => by show prodN (fun _ => X) n * X = X ^ (n + 1); rw [prodN_const X n, Nat.pow_succ]
theorem prodN_mul (f g : Nat → Nat) : ∀ n, prodN (fun e => f e * g e) n = prodN f n * prodN g n
  | 0 => rfl
  | n + 1 => by
    show prodN (fun e => f e * g e) n * (f n * g n) = prodN f n * f n * (prodN g n * g n)
    rw [prodN_mul f g n]
    simp only [Nat.mul_assoc, Nat.mul_left_comm]
theorem prodN_one {K j0 : Nat} : ∀ n, prodN (fun j => if j = j0 then K else 1) n = if j0 < n then K else 1
  | 0 => by rw [if_neg (Nat.not_lt_zero _)]; rfl
  | n + 1 => by
    show prodN (fun j => if j = j0 then K else 1) n * (if n = j0 then K else 1) = _
    rw [prodN_one n]
    by_cases c : n = j0
    · rw [if_neg (by omega), if_pos c, if_pos (by omega), Nat.one_mul]
    · rw [if_neg c, Nat.mul_one]
      by_cases d : j0 < n
      · rw [if_pos d, if_pos (by omega)]
      · rw [if_neg d, if_neg (by omega)]
theorem prodN_oneK {K j0 : Nat} (K1 : 1 ≤ K) (n : Nat) : prodN (fun j => if j = j0 then K else 1) n ≤ K := by
  rw [prodN_one]
  split <;> omega
theorem prodN_heavy {f : Nat → Nat} {X K e0 n : Nat} (K1 : 1 ≤ K) (h : ∀ e, e < n → f e ≤ X * (if e = e0 then K else 1)) : prodN f n ≤ K * X ^ n := by
  refine Nat.le_trans (prodN_mono h) ?_
  rw [prodN_mul (fun _ => X) (fun e => if e = e0 then K else 1), prodN_const, Nat.mul_comm]
  exact Nat.mul_le_mul_right _ (prodN_oneK K1 n)
theorem pig_allW {α : Type} (f : Nat → α → Nat) (K : Nat → Nat) : ∀ (M : Nat) (L : List α), (∀ e, e < M → ∀ a ∈ L, f e a < K e) → prodN K M < L.length → ∃ L', List.Sublist L' L ∧ 1 < L'.length ∧ ∀ e, e < M → ∀ a ∈ L', ∀ b ∈ L', f e a = f e b
  | 0, L, _, hl => ⟨L, List.Sublist.refl _, by simpa [prodN] using hl, fun e he => absurd he (Nat.not_lt_zero _)⟩
  | M + 1, L, h, hl => by
    obtain ⟨c, hc, h2⟩ := pig_class (f M) (prodN K M) (K M) L (h M (Nat.lt_succ_self _)) (by rw [Nat.mul_comm]; exact hl)
    obtain ⟨L', s, l1, eq⟩ := pig_allW f K M (L.filter fun a => decide (f M a = c)) (fun e he a ha => h e (by omega) a (List.mem_filter.mp ha).1) h2
    refine ⟨L', s.trans List.filter_sublist, l1, fun e he a ha b hb => ?_⟩
    by_cases z : e = M
    · subst z
      have ea := of_decide_eq_true (List.mem_filter.mp (s.subset ha)).2
      have eb := of_decide_eq_true (List.mem_filter.mp (s.subset hb)).2
      rw [ea, eb]
    · exact eq e (by omega) a ha b hb
/-- the digits to mixed bases -/
def dgW (b : Nat → Nat) (t j : Nat) : Nat := t / prodN b j % b j
theorem dgW_mod (b : Nat → Nat) {t t' : Nat} : ∀ N, (∀ j, j < N → dgW b t j = dgW b t' j) → t % prodN b N = t' % prodN b N
  | 0, _ => by show t % 1 = t' % 1; rw [Nat.mod_one, Nat.mod_one]
  | N + 1, h => by
    show t % (prodN b N * b N) = t' % (prodN b N * b N)
    have e : t / prodN b N % b N = t' / prodN b N % b N := h N (by omega)
    rw [Nat.mod_mul, Nat.mod_mul, dgW_mod b N fun j hj => h j (by omega), e]
theorem siegelW (A : Nat → Nat → Int) {N M K j0 : Nat} (r : Nat → Nat) (hM : M < N) (r1 : ∀ e, 1 ≤ r e) (K1 : 1 ≤ K) (hA : ∀ e j, e < M → j < N → (A e j).natAbs ≤ r e * (if j = j0 then K else 1)) : ∃ x : Nat → Int, (∃ j, j < N ∧ x j ≠ 0) ∧ (∀ j, (x j).natAbs ≤ K * prodN (fun e => 2 * N * r e) M) ∧ (∀ e, e < M → sumTo (fun j => A e j * x j) N = 0) ∧ Fz x N := by
  obtain ⟨T, eT⟩ : ∃ T, T = prodN (fun e => 2 * N * r e) M := ⟨_, rfl⟩
  obtain ⟨B, eB⟩ : ∃ B, B = K * T := ⟨_, rfl⟩
  obtain ⟨c, ec⟩ : ∃ c : Nat → Nat, c = fun j => if j = j0 then K else 1 := ⟨_, rfl⟩
  have c1 : ∀ j, 1 ≤ c j := fun j => by rw [ec]; show 1 ≤ if j = j0 then K else 1; split <;> omega
  obtain ⟨b, eb⟩ : ∃ b : Nat → Nat, b = fun j => B / c j + 1 := ⟨_, rfl⟩
  have b1 : ∀ j, 0 < b j := fun j => by rw [eb]; exact Nat.succ_pos _
  have cb : ∀ j, B + 1 ≤ c j * b j := fun j => by
    rw [eb]
    exact Nat.lt_mul_div_succ B (c1 j)
  have dle : ∀ t j, c j * dgW b t j ≤ B := fun t j => by
    have h1 : dgW b t j < b j := Nat.mod_lt _ (b1 j)
    have h2 : dgW b t j ≤ B / c j := by rw [eb] at h1 ⊢; exact Nat.lt_succ_iff.mp h1
    exact Nat.le_trans (Nat.mul_le_mul_left _ h2) (Nat.mul_div_le B (c j))
  have dB : ∀ t j, dgW b t j ≤ B := fun t j => Nat.le_trans (Nat.le_mul_of_pos_left _ (c1 j)) (dle t j)
  have cK : prodN c N ≤ K := by rw [ec]; exact prodN_oneK K1 N
  have big : (B + 1) ^ N ≤ K * prodN b N := by
    have h1 : prodN (fun _ => B + 1) N ≤ prodN (fun j => c j * b j) N := prodN_mono fun j _ => cb j
    rw [prodN_const, prodN_mul] at h1
    exact Nat.le_trans h1 (Nat.mul_le_mul_right _ cK)
  obtain ⟨V, eV⟩ : ∃ V : Nat → Nat → Int, V = fun e t => sumTo (fun j => A e j * (dgW b t j : Int)) N := ⟨_, rfl⟩
  have vb : ∀ e, e < M → ∀ t, (V e t).natAbs ≤ N * (r e * B) := fun e he t => by
    rw [eV]
    refine sum_le N fun j hj => ?_
    rw [Int.natAbs_mul, Int.natAbs_natCast]
    refine Nat.le_trans (Nat.mul_le_mul_right _ (hA e j he hj)) ?_
    rw [Nat.mul_assoc]
    refine Nat.mul_le_mul_left _ ?_
    have := dle t j
    rw [ec] at this
    exact this
  have a1 : ∀ e, e < M → 2 * (N * (r e * B)) + 1 ≤ (2 * N * r e) * (B + 1) := fun e _ => by
    have h1 : 2 * (N * (r e * B)) = 2 * N * r e * B := by rw [Nat.mul_assoc, Nat.mul_assoc]
    have h2 : 1 ≤ 2 * N * r e := Nat.mul_pos (by omega) (r1 e)
    rw [h1, Nat.mul_add]
    omega
  obtain ⟨L', s, l1, eq⟩ := pig_allW (fun e t => (V e t + ((N * (r e * B) : Nat) : Int)).toNat) (fun e => 2 * (N * (r e * B)) + 1) M (List.range (prodN b N)) (fun e he t _ => by have := vb e he t; omega) (by
    rw [List.length_range]
    have a2 := prodN_mono a1
    rw [prodN_mul, prodN_const, ← eT] at a2
    have a3 : B * (B + 1) ^ M < (B + 1) * (B + 1) ^ M := Nat.mul_lt_mul_of_pos_right (Nat.lt_succ_self B) (Nat.pow_pos (Nat.succ_pos B))
    have a4 : (B + 1) * (B + 1) ^ M ≤ (B + 1) ^ N := by
      rw [Nat.mul_comm, ← Nat.pow_succ]
      exact Nat.pow_le_pow_right (Nat.succ_pos B) hM
    have a5 : K * (T * (B + 1) ^ M) = B * (B + 1) ^ M := by rw [eB, Nat.mul_assoc]
    have a6 : K * (T * (B + 1) ^ M) < K * prodN b N := by rw [a5]; omega
    exact Nat.lt_of_le_of_lt a2 (Nat.lt_of_mul_lt_mul_left a6))
  obtain ⟨t, t', q, hr⟩ : ∃ t t' q, L' = t :: t' :: q := by
    match L', l1 with
    | t :: t' :: q, _ => exact ⟨t, t', q, rfl⟩
  have nd := s.nodup List.nodup_range
  rw [hr] at nd
  have ne : t ≠ t' := fun z => by
    rw [z] at nd
    simp at nd
  have m1 : t ∈ L' := by rw [hr]; simp
  have m2 : t' ∈ L' := by rw [hr]; simp
  have l1' := List.mem_range.mp (s.subset m1)
  have l2' := List.mem_range.mp (s.subset m2)
  have dif : ∃ j, j < N ∧ dgW b t j ≠ dgW b t' j := Classical.byContradiction fun c => ne (by
    have h := dgW_mod b (t := t) (t' := t') N fun j hj => Classical.byContradiction fun d => c ⟨j, hj, d⟩
    rw [Nat.mod_eq_of_lt l1', Nat.mod_eq_of_lt l2'] at h
    exact h)
  refine ⟨fun j => if j < N then (dgW b t j : Int) - dgW b t' j else 0, ?_, fun j => ?_, fun e he => ?_, fun j hj => if_neg (by omega)⟩
  · obtain ⟨j, hj, d⟩ := dif
    refine ⟨j, hj, ?_⟩
    show (if j < N then (dgW b t j : Int) - dgW b t' j else 0) ≠ 0
    rw [if_pos hj]
    omega
  · show (if j < N then (dgW b t j : Int) - dgW b t' j else 0).natAbs ≤ _
    rw [← eT, ← eB]
    split
    · have h1 := dB t j
      have h2 := dB t' j
      omega
    · exact Nat.zero_le _
  · have h := eq e he t m1 t' m2
    have v1 := vb e he t
    have v2 := vb e he t'
    have h2 : V e t = V e t' := by
      have h : (V e t + ((N * (r e * B) : Nat) : Int)).toNat = (V e t' + ((N * (r e * B) : Nat) : Int)).toNat := h
      omega
    rw [eV] at h2
    have h3 : sumTo (fun j => A e j * (dgW b t j : Int)) N = sumTo (fun j => A e j * (dgW b t' j : Int)) N := h2
    have h4 := sum_sub (fun j => A e j * (dgW b t j : Int)) (fun j => A e j * (dgW b t' j : Int)) N
    rw [h3, Int.sub_self] at h4
    refine Eq.trans (sumTo_congr _ fun j hj => ?_) h4
    show A e j * (if j < N then (dgW b t j : Int) - dgW b t' j else 0) = A e j * (dgW b t j : Int) - A e j * (dgW b t' j : Int)
    rw [if_pos hj, Int.mul_sub]
theorem dI_pt {r : List Int} (a : Nat) : dI r (fun j => if j = a then 1 else 0) 0 = r.getD a 0 := by
  rw [dI_get (j := a) (fun i hi => if_neg (by omega)), Nat.zero_add, if_pos rfl, Int.mul_one]
theorem Wit.inj {W : Nat} {Ms : List (List Int)} {I J : List Nat} (h : Wit W Ms I J) {a b : Nat} (ha : a < I.length) (hb : b < I.length) (e : I.getD a 0 = I.getD b 0) : a = b := Classical.byContradiction fun ne => by
  have z := h.ind (fun j => (if j = a then 1 else 0) + (-1) * (if j = b then 1 else 0)) (fun j hj => by
    show (if j = a then (1 : Int) else 0) + (-1) * (if j = b then 1 else 0) = 0
    rw [if_neg (by omega), if_neg (by omega)]; rfl) (fun s hs => by
    obtain ⟨c, _, rfl⟩ := List.mem_map.mp hs
    rw [dI_add, dI_mul, dI_pt, dI_pt, map_getD ha, map_getD hb, e]
    omega) a
  have z : (if a = a then (1 : Int) else 0) + (-1) * (if a = b then 1 else 0) = 0 := z
  rw [if_pos rfl, if_neg ne] at z
  omega
end CB

namespace CB
open PySem PySem.Spec PyProof.Rows L2
/-! ### several right sides over one denominator -/
/-- the fractions N / D behind residues x modulo M -/
structure Rec2 (A C : Nat) (M B L : Int) (xs : List Int) (N : Nat → Int) (D : Int) : Prop where
  D1 : 1 ≤ D
  cong : ∀ i, i < xs.length → M ∣ D * xs.getD i 0 - N i
  cop : ∀ c w : Int, c ∣ D → M ∣ c * w → M ∣ w
  szN : ∀ i, (N i).natAbs < C
  szD : D.natAbs < A
  B1 : (A : Int) ≤ B
  MB : M < (B + 1) * (B + 1)
  BM : B.natAbs * (C + A) < M.natAbs
  LM : L.natAbs * A + C * A < M.natAbs
  M1 : 2 * (C : Int) < M
theorem Rec2.take {A C : Nat} {M B L : Int} {xs : List Int} {N : Nat → Int} {D : Int} (h : Rec2 A C M B L xs N D) {i : Nat} {d num : Int} (hi : i < xs.length) (dD : d ∣ D) (d1 : 1 ≤ d) (c : M ∣ num - xs.getD i 0 * d) (lim : num.natAbs ≤ L.natAbs) : RecP N D i num d := by
  refine ⟨d1, ?_⟩
  obtain ⟨w, hw⟩ := c
  obtain ⟨v, hv⟩ := h.cong i hi
  have D1 := h.D1
  have dl : d.natAbs ≤ D.natAbs := natAbs_le_of_dvd dD (by omega)
  have e : num * D - N i * d = 0 := by
    refine dvd_small (M := M) ⟨w * D + v * d, by grind⟩ ?_
    have h1 : (num * D).natAbs ≤ L.natAbs * A := by rw [Int.natAbs_mul]; exact Nat.mul_le_mul lim (Nat.le_of_lt h.szD)
    have h2 : (N i * d).natAbs ≤ C * A := by rw [Int.natAbs_mul]; exact Nat.mul_le_mul (Nat.le_of_lt (h.szN i)) (Nat.le_trans dl (Nat.le_of_lt h.szD))
    have h3 := h.LM
    omega
  omega
/-- the next part of the denominator -/
theorem Rec2.more {A C : Nat} {M B L : Int} {xs : List Int} {N : Nat → Int} {D : Int} (h : Rec2 A C M B L xs N D) {i : Nat} {d num : Int} (hi : i < xs.length) (dD : d ∣ D) (d1 : 1 ≤ d) (c : M ∣ num - xs.getD i 0 * d) :
    ∃ a b : Int, 1 ≤ b ∧ Nat.gcd a.natAbs b.natAbs = 1 ∧ M ∣ b * num - a ∧ B.natAbs * (a.natAbs + b.natAbs) < M.natAbs ∧ d * b ∣ D ∧ (∀ n2 : Int, M ∣ n2 - xs.getD i 0 * (d * b) → 2 * n2.natAbs ≤ M.natAbs → RecP N D i n2 (d * b)) := by
  obtain ⟨e, he⟩ := dD
  have D1 := h.D1
  have e1 : 0 < e := by
    rcases Int.lt_trichotomy e 0 with k | k | k
    · have : d * e ≤ d * (-1) := Int.mul_le_mul_of_nonneg_left (by omega) (by omega)
      omega
    · rw [k, Int.mul_zero] at he; omega
    · exact k
  obtain ⟨g, hg⟩ : ∃ g : Nat, g = Nat.gcd e.natAbs (N i).natAbs := ⟨_, rfl⟩
  have g0 : 0 < g := by rw [hg]; exact Nat.gcd_pos_of_pos_left _ (by omega)
  have ge : (g : Int) ∣ e := by rw [hg]; exact Int.dvd_natAbs.mp (Int.natCast_dvd_natCast.mpr (Nat.gcd_dvd_left _ _))
  have gn : (g : Int) ∣ N i := by rw [hg]; exact Int.dvd_natAbs.mp (Int.natCast_dvd_natCast.mpr (Nat.gcd_dvd_right _ _))
  obtain ⟨b, hb⟩ := ge
  obtain ⟨a, ha⟩ := gn
  have b1 : 1 ≤ b := by
    rcases Int.lt_trichotomy b 0 with k | k | k
    · have : (g : Int) * b ≤ (g : Int) * (-1) := Int.mul_le_mul_of_nonneg_left (by omega) (by omega)
      omega
    · rw [k, Int.mul_zero] at hb; omega
    · omega
  have gD : (g : Int) ∣ D := ⟨d * b, by rw [he, hb]; grind⟩
  obtain ⟨v, hv⟩ := h.cong i hi
  obtain ⟨w, hw⟩ := c
  have cg : M ∣ b * (xs.getD i 0 * d) - a := h.cop g _ gD ⟨v, by rw [← hv, he, hb, ha]; grind⟩
  have an : a.natAbs < C := by
    have := h.szN i
    rw [ha, Int.natAbs_mul] at this
    have : 1 * a.natAbs ≤ (g : Int).natAbs * a.natAbs := Nat.mul_le_mul_right _ (by omega)
    omega
  have bn : b.natAbs < A := by
    have h1 : (d * b).natAbs ≤ D.natAbs := natAbs_le_of_dvd ⟨g, by rw [he, hb]; grind⟩ (by omega)
    have := h.szD
    rw [Int.natAbs_mul] at h1
    have : 1 * b.natAbs ≤ d.natAbs * b.natAbs := Nat.mul_le_mul_right _ (by omega)
    omega
  refine ⟨a, b, b1, ?_, ?_, ?_, ⟨g, by rw [he, hb]; grind⟩, fun n2 h2 l2 => ⟨?_, ?_⟩⟩
  · have q : Nat.gcd (g * b.natAbs) (g * a.natAbs) = g := by
      have x1 : e.natAbs = g * b.natAbs := by rw [hb, Int.natAbs_mul]; rfl
      have x2 : (N i).natAbs = g * a.natAbs := by rw [ha, Int.natAbs_mul]; rfl
      rw [← x1, ← x2]; exact hg.symm
    rw [Nat.gcd_mul_left] at q
    have : g * Nat.gcd b.natAbs a.natAbs = g * 1 := by omega
    have := Nat.eq_of_mul_eq_mul_left g0 this
    rw [Nat.gcd_comm]; exact this
  · obtain ⟨k, hk⟩ := cg
    exact ⟨b * w + k, by grind⟩
  · exact Nat.lt_of_le_of_lt (Nat.mul_le_mul_left _ (show a.natAbs + b.natAbs ≤ C + A by omega)) h.BM
  · have : 1 * 1 ≤ d * b := Int.mul_le_mul d1 b1 (by decide) (by omega)
    omega
  · obtain ⟨k, hk⟩ := cg
    obtain ⟨l, hl⟩ := h2
    have ea : n2 - a = 0 := by
      refine dvd_small (M := M) ⟨l + k, by grind⟩ ?_
      have M1 := h.M1
      omega
    have : n2 = a := by omega
    rw [this, he, hb, ha]
    grind
/-- the sizes that a reconstruction wants -/
theorem rec_sizes2 {M B : Int} (h1 : (2 : Int) ^ 991 ≤ M) (h2 : M < 2 ^ 1000) (B0 : 0 ≤ B) (b1 : B * B ≤ M) (b2 : M < (B + 1) * (B + 1)) : (((2 ^ 240 : Nat)) : Int) ≤ B ∧ B.natAbs * (2 ^ 440 + 2 ^ 240) < M.natAbs ∧ (M / 2 ^ (Builtin.Int.intBits M / 4)).natAbs * 2 ^ 240 + 2 ^ 440 * 2 ^ 240 < M.natAbs ∧ 2 * (((2 ^ 440 : Nat)) : Int) < M := by
  have c1 : (((2 ^ 240 : Nat)) : Int) = (2 : Int) ^ 240 := by decide +kernel
  have hB1 : (2 : Int) ^ 495 ≤ B := by
    refine Int.not_lt.mp fun w => ?_
    have : (B + 1) * (B + 1) ≤ (2 : Int) ^ 495 * 2 ^ 495 := Int.mul_le_mul (by omega) (by omega) (by omega) (by decide +kernel)
    have e : (2 : Int) ^ 495 * 2 ^ 495 ≤ 2 ^ 991 := by decide +kernel
    omega
  have hB2 : B < (2 : Int) ^ 500 := by
    refine Int.not_le.mp fun w => ?_
    have : (2 : Int) ^ 500 * 2 ^ 500 ≤ B * B := Int.mul_le_mul w w (by decide +kernel) (by omega)
    have e : (2 : Int) ^ 1000 ≤ (2 : Int) ^ 500 * 2 ^ 500 := by decide +kernel
    omega
  have k1 : (2 : Int) ^ 240 ≤ 2 ^ 495 := by decide +kernel
  have k2 : 2 * (2 : Int) ^ 440 < 2 ^ 991 := by decide +kernel
  have c2 : (((2 ^ 440 : Nat)) : Int) = (2 : Int) ^ 440 := by decide +kernel
  have bits : 992 ≤ Builtin.Int.intBits M := by
    refine Decidable.byContradiction fun w => ?_
    have up := bits_up (c := M)
    have : (2 : Nat) ^ Builtin.Int.intBits M ≤ 2 ^ 991 := Nat.pow_le_pow_right (by decide) (by omega)
    have e : ((2 ^ 991 : Nat) : Int) = (2 : Int) ^ 991 := by decide +kernel
    omega
  have nB : B.natAbs < 2 ^ 500 := by
    have e : ((2 ^ 500 : Nat) : Int) = (2 : Int) ^ 500 := by decide +kernel
    omega
  have nM : 2 ^ 991 ≤ M.natAbs := by
    have e : ((2 ^ 991 : Nat) : Int) = (2 : Int) ^ 991 := by decide +kernel
    omega
  refine ⟨by rw [c1]; omega, ?_, ?_, by rw [c2]; omega⟩
  · have a : B.natAbs * (2 ^ 440 + 2 ^ 240) ≤ 2 ^ 500 * (2 ^ 440 + 2 ^ 240) := Nat.mul_le_mul_right _ (Nat.le_of_lt nB)
    have b : 2 ^ 500 * (2 ^ 440 + 2 ^ 240) < 2 ^ 991 := by decide +kernel
    exact Nat.lt_of_le_of_lt a (Nat.lt_of_lt_of_le b nM)
  · have q : (M / 2 ^ (Builtin.Int.intBits M / 4)).natAbs ≤ M.natAbs / 2 ^ 248 := by
      have p1 : (0 : Int) < 2 ^ (Builtin.Int.intBits M / 4) := Int.pow_pos (by decide)
      have Mp : (0 : Int) < 2 ^ 991 := by decide +kernel
      obtain ⟨m, hm⟩ : ∃ m : Nat, M = (m : Int) := ⟨M.toNat, by omega⟩
      clear h1 h2 b1 b2 c1 hB1 hB2 k1 k2 nB Mp nM
      subst hm
      have e1 : ((m : Int) / 2 ^ (Builtin.Int.intBits (m : Int) / 4)).natAbs = m / 2 ^ (Builtin.Int.intBits (m : Int) / 4) := by
        have : (m : Int) / 2 ^ (Builtin.Int.intBits (m : Int) / 4) = ((m / 2 ^ (Builtin.Int.intBits (m : Int) / 4) : Nat) : Int) := by
          rw [Int.natCast_ediv, Int.natCast_pow]
          rfl
        rw [this]
        rfl
      rw [e1]
      exact Nat.div_le_div_left (Nat.pow_le_pow_right (by decide) (by omega)) (Nat.pow_pos (by decide))
    have a : (M / 2 ^ (Builtin.Int.intBits M / 4)).natAbs * 2 ^ 248 ≤ M.natAbs := Nat.le_trans (Nat.mul_le_mul_right _ q) (Nat.div_mul_le_self _ _)
    have e1 : (2 : Nat) ^ 248 = 256 * 2 ^ 240 := by decide +kernel
    have e2 : (2 : Nat) ^ 440 * 2 ^ 240 * 4 < 2 ^ 991 := by decide +kernel
    rw [e1] at a
    have a2 : 256 * ((M / 2 ^ (Builtin.Int.intBits M / 4)).natAbs * 2 ^ 240) ≤ M.natAbs := by
      have e3 : (M / 2 ^ (Builtin.Int.intBits M / 4)).natAbs * (256 * 2 ^ 240) = 256 * ((M / 2 ^ (Builtin.Int.intBits M / 4)).natAbs * 2 ^ 240) := Nat.mul_left_comm ..
      rw [← e3]
      exact a
    exact fin_aux a2 e2 nM
/-- its solution -/
structure SolC (S : List (List Int)) (rs : List Int) (p : Nat) (N : Nat → Int) (D : Int) : Prop where
  D1 : 1 ≤ D
  DA : D.natAbs < 2 ^ 240
  NA : ∀ i, (N i).natAbs < 2 ^ 440
  eq : ∀ (i : Nat) (w : List Int), S[i]? = some w → dI w N 0 = rs.getD i 0 * D
  z : ∀ j, S.length ≤ j → N j = 0
  cop : ∀ c w : Int, c ∣ D → (p : Int) ∣ c * w → (p : Int) ∣ w
/-- what is found stands for the solution -/
theorem LfS.congC {M : Int} {S : List (List Int)} {rs rest res : List Int} {s : Nat} {t : Int} {p e : Nat} {N : Nat → Int} {D : Int} (L : LfS M S rs rest res s t) (sol : SolC S rs p N D) (hM : (p : Int) ^ e = M) (ns : NS (p : Int) S) (p0 : (p : Int) ≠ 0) (i : Nat) : M ^ s ∣ D * res.getD i 0 - N i := by
  have e2 : M ^ s = (p : Int) ^ (e * s) := by rw [← hM, ← Int.pow_mul]
  rw [e2]
  refine ns_pow ns p0 (e * s) (fun j => D * res.getD j 0 - N j) (fun j hj => ?_) (fun w hw => ?_) i
  · show D * res.getD j 0 - N j = 0
    rw [getD_end (by have := L.l2; omega), sol.z j hj]
    omega
  · obtain ⟨k, hk⟩ := List.getElem?_of_mem hw
    have h1 := L.eq k w hk
    have h2 := sol.eq k w hk
    rw [← e2]
    have h3 : dI w (fun j => D * res.getD j 0 - N j) 0 = D * dI w (fun j => res.getD j 0) 0 + (-1) * dI w N 0 := by
      rw [← dI_mul D, ← dI_mul (-1) N, ← dI_add]
      exact dI_congr fun j _ _ => by show D * res.getD j 0 - N j = D * res.getD j 0 + -1 * N j; omega
    exact ⟨-(D * rest.getD k 0), by rw [h3, h2]; grind⟩
theorem SolC.solves {S : List (List Int)} {rs nums : List Int} {p : Nat} {N : Nat → Int} {D d : Int} (sol : SolC S rs p N D) (ln : ∀ w ∈ S, w.length = S.length) (h : ∀ i, i < S.length → nums.getD i 0 * D = N i * d) (i : Nat) (w : List Int) (hw : S[i]? = some w) : dI w (fun j => nums.getD j 0) 0 = rs.getD i 0 * d := by
  have h1 := sol.eq i w hw
  have wl := ln w (List.mem_of_getElem? hw)
  have e : dI w (fun j => D * nums.getD j 0) 0 = dI w (fun j => d * N j) 0 := dI_congr fun j _ hj => by
    have := h j (by omega)
    show D * nums.getD j 0 = d * N j
    rw [Int.mul_comm, this, Int.mul_comm]
  rw [dI_mul, dI_mul, h1] at e
  have D0 : D ≠ 0 := by have := sol.D1; omega
  exact Int.eq_of_mul_eq_mul_left D0 (by rw [e]; grind)
theorem SolC.uniq {S : List (List Int)} {rs nums : List Int} {p : Nat} {N : Nat → Int} {D d : Int} (sol : SolC S rs p N D) (ns : NS (p : Int) S) (p2 : 2 ≤ p) (nl : nums.length = S.length) (h : ∀ (i : Nat) (w : List Int), S[i]? = some w → dI w (fun j => nums.getD j 0) 0 = rs.getD i 0 * d) (j : Nat) : nums.getD j 0 * D = N j * d := by
  have e := ns_exact ns (by omega) (z := fun j => D * nums.getD j 0 + (-d) * N j) (fun j hj => by
    show D * nums.getD j 0 + (-d) * N j = 0
    rw [getD_end (by omega), sol.z j hj, Int.mul_zero, Int.mul_zero]; rfl) (fun s hs => by
    obtain ⟨i, hi⟩ := List.getElem?_of_mem hs
    have h1 := h i s hi
    have h2 := sol.eq i s hi
    rw [dI_add, dI_mul, dI_mul, h1, h2]
    grind) j
  have e : D * nums.getD j 0 + (-d) * N j = 0 := e
  grind

/-- the half Euclid's factor and its cofactor have no common part -/
theorem HeS.bez {M R B high low before factor : Int} (h : HeS M R B high low before factor) : ∃ s u v : Int, (low = factor * R - s * M ∨ low = -(factor * R - s * M)) ∧ u * factor + v * s = 1 := by
  obtain ⟨σ, s0, s, hσ, e1, e3⟩ := h.ex
  rcases hσ with rfl | rfl
  · exact ⟨s, s0, -before, .inl (by rw [e1, Int.one_mul]), by rw [← e3]; grind⟩
  · exact ⟨s, -s0, before, .inr (by rw [e1]; grind), by grind⟩
/-- a factor that Euclid found, and that stands the test, divides what the denominators divide -/
theorem exact_fac {M D N den f nu n2 s L x u v : Int} (D1 : 1 ≤ D) (cop : ∀ c w : Int, c ∣ D → M ∣ c * w → M ∣ w) (M0 : M ≠ 0) (cong : M ∣ D * x - N) (hnu : M ∣ nu - x * den) (hn2 : n2 = f * nu - s * M) (bez : u * f + v * s = 1) (ver : n2 * D = N * (den * f)) (f1 : 1 ≤ f) (d1 : 1 ≤ den) (dL : den ∣ L) (DL : D ∣ L) : den * f ∣ L := by
  obtain ⟨g, hg⟩ : ∃ g : Nat, g = Nat.gcd (N * den).natAbs D.natAbs := ⟨_, rfl⟩
  have g0 : 0 < g := by rw [hg]; exact Nat.gcd_pos_of_pos_right _ (by omega)
  have gn : (g : Int) ∣ N * den := by rw [hg]; exact Int.dvd_natAbs.mp (Int.natCast_dvd_natCast.mpr (Nat.gcd_dvd_left _ _))
  have gd : (g : Int) ∣ D := by rw [hg]; exact Int.dvd_natAbs.mp (Int.natCast_dvd_natCast.mpr (Nat.gcd_dvd_right _ _))
  obtain ⟨a, ha⟩ := gn
  obtain ⟨b, hb⟩ := gd
  have gi : (g : Int) ≠ 0 := by omega
  have cp : Nat.gcd a.natAbs b.natAbs = 1 := by
    have e1 : (N * den).natAbs = g * a.natAbs := by rw [ha, Int.natAbs_mul]; rfl
    have e2 : D.natAbs = g * b.natAbs := by rw [hb, Int.natAbs_mul]; rfl
    rw [e1, e2, Nat.gcd_mul_left] at hg
    have : g * 1 = g * Nat.gcd a.natAbs b.natAbs := by omega
    exact (Nat.eq_of_mul_eq_mul_left g0 this).symm
  have b0 : b ≠ 0 := fun z => by rw [z, Int.mul_zero] at hb; omega
  have e1 : n2 * b = a * f := by
    refine Int.eq_of_mul_eq_mul_left gi ?_
    calc (g : Int) * (n2 * b) = n2 * (g * b) := by grind
      _ = n2 * D := by rw [← hb]
      _ = N * den * f := by rw [ver]; grind
      _ = (g : Int) * (a * f) := by rw [ha]; grind
  have bf : b ∣ f := dvd_of_cop ⟨n2, by rw [Int.mul_comm b n2, e1, Int.mul_comm]⟩ cp
  obtain ⟨t, ht⟩ := bf
  have e2 : n2 = a * t := by
    refine Int.eq_of_mul_eq_mul_right b0 ?_
    rw [e1, ht]; grind
  obtain ⟨w1, hw1⟩ := cong
  obtain ⟨w2, hw2⟩ := hnu
  have md : M ∣ b * nu - a := cop g _ ⟨b, hb⟩ ⟨D * w2 + den * w1, by
    have : (g : Int) * (b * nu - a) = D * nu - N * den := by rw [hb, ha]; grind
    rw [this]
    have e3 : D * nu - N * den = D * (nu - x * den) + den * (D * x - N) := by grind
    rw [e3, hw1, hw2]; grind⟩
  obtain ⟨k, hk⟩ := md
  have es : s = k * t := by
    refine Int.eq_of_mul_eq_mul_right M0 ?_
    have h1 : s * M = f * nu - n2 := by omega
    rw [h1, ht, e2]
    have : b * t * nu - a * t = (b * nu - a) * t := by grind
    rw [this, hk]; grind
  have t1 : t ∣ 1 := ⟨u * b + v * k, by rw [← bez, ht, es]; grind⟩
  obtain ⟨t', ht'⟩ := t1
  have fb : f ∣ b := ⟨t', by
    have h3 : b * t * t' = b * (t * t') := by grind
    rw [ht, h3, ← ht', Int.mul_one]⟩
  obtain ⟨e, he⟩ := dL
  obtain ⟨l, hl⟩ := DL
  have be : b ∣ e := dvd_of_cop ⟨N * l, by
    refine Int.eq_of_mul_eq_mul_left gi ?_
    calc (g : Int) * (a * e) = g * a * e := by grind
      _ = N * (den * e) := by rw [← ha]; grind
      _ = N * (D * l) := by rw [← he, hl]
      _ = (g : Int) * (b * (N * l)) := by rw [hb]; grind⟩ cp
  obtain ⟨q, hq⟩ := Int.dvd_trans fb be
  exact ⟨q, by rw [he, hq]; grind⟩
end CB

namespace CB
open PySem PySem.Spec PyProof.Rows L2
/-! ### the number of classes modulo a square matrix makes every vector a combination -/
theorem dgt_ex (B : Nat) : ∀ (n : Nat) (d : Nat → Nat), (∀ j, j < n → d j ≤ B) → ∃ t, t < (B + 1) ^ n ∧ ∀ j, j < n → dgt B t j = d j
  | 0, d, _ => ⟨0, by simp, fun j h => absurd h (Nat.not_lt_zero _)⟩
  | n + 1, d, h => by
    obtain ⟨t, tl, ht⟩ := dgt_ex B n (fun j => d (j + 1)) (fun j hj => h (j + 1) (by omega))
    have d0 := h 0 (by omega)
    refine ⟨d 0 + (B + 1) * t, ?_, fun j hj => ?_⟩
    · have h1 : (B + 1) * t + (B + 1) ≤ (B + 1) * (B + 1) ^ n := by
        rw [← Nat.mul_succ]
        exact Nat.mul_le_mul_left _ tl
      rw [Nat.pow_succ, Nat.mul_comm ((B + 1) ^ n)]
      omega
    · cases j with
      | zero =>
        unfold dgt
        rw [Nat.pow_zero, Nat.div_one, Nat.add_mul_mod_self_left]
        exact Nat.mod_eq_of_lt (by omega)
      | succ j =>
        have q := ht j (by omega)
        unfold dgt at q ⊢
        rw [Nat.pow_succ, Nat.mul_comm ((B + 1) ^ j), ← Nat.div_div_eq_div_mul, Nat.add_mul_div_left _ _ (Nat.succ_pos B), Nat.div_eq_of_lt (show d 0 < B + 1 by omega), Nat.zero_add]
        exact q
def sL (g : Nat → Int) : List Nat → Int
  | [] => 0
  | a :: l => g a + sL g l
theorem sL_perm {g : Nat → Int} {a b : List Nat} (h : a.Perm b) : sL g a = sL g b := by
  induction h with
  | nil => rfl
  | cons x _ ih => show g x + _ = g x + _; rw [ih]
  | swap x y l => show g y + (g x + sL g l) = g x + (g y + sL g l); omega
  | trans _ _ h1 h2 => rw [h1, h2]
theorem sL_map (g : Nat → Int) (f : Nat → Nat) : ∀ l : List Nat, sL g (l.map f) = sL (fun t => g (f t)) l
  | [] => rfl
  | a :: l => by show g (f a) + _ = g (f a) + _; rw [sL_map g f l]
theorem sL_sub (g k : Nat → Int) : ∀ l : List Nat, sL (fun t => g t - k t) l = sL g l - sL k l
  | [] => rfl
  | a :: l => by show g a - k a + sL _ l = g a + sL g l - (k a + sL k l); rw [sL_sub g k l]; omega
theorem sL_addc (g : Nat → Int) (c : Int) : ∀ l : List Nat, sL (fun t => g t + c) l = sL g l + (l.length : Int) * c
  | [] => by show (0 : Int) = 0 + ((0 : Nat) : Int) * c; simp
  | a :: l => by
    show g a + c + sL _ l = g a + sL g l + ((l.length + 1 : Nat) : Int) * c
    rw [sL_addc g c l, Int.natCast_add]
    grind
theorem sL_congr {g k : Nat → Int} : ∀ {l : List Nat}, (∀ t ∈ l, g t = k t) → sL g l = sL k l
  | [], _ => rfl
  | a :: l, h => by show g a + _ = k a + _; rw [h a (List.mem_cons_self ..), sL_congr fun t ht => h t (List.mem_cons_of_mem _ ht)]
theorem dI_sL (r : List Int) (v : Nat → Nat → Int) : ∀ l : List Nat, dI r (fun j => sL (fun t => v t j) l) 0 = sL (fun t => dI r (v t) 0) l
  | [] => dI_zero fun _ _ _ => rfl
  | a :: l => by
    show dI r (fun j => v a j + sL (fun t => v t j) l) 0 = dI r (v a) 0 + sL (fun t => dI r (v t) 0) l
    rw [dI_add, dI_sL r v l]
theorem least_ex {P : Nat → Prop} : ∀ k, (∃ t, t ≤ k ∧ P t) → ∃ t, P t ∧ ∀ t', t' < t → ¬ P t'
  | 0, ⟨t, h, p⟩ => ⟨t, p, fun t' h' => by omega⟩
  | k + 1, ⟨t, h, p⟩ => by
    by_cases c : ∃ t', t' ≤ k ∧ P t'
    · exact least_ex k c
    · exact ⟨t, p, fun t' h' q => c ⟨t', by omega, q⟩⟩
/-- the same but for a combination -/
def EqS (S : List (List Int)) (n : Nat) (x y : Nat → Int) : Prop := ∃ v : Nat → Int, (∀ j, n ≤ j → v j = 0) ∧ ∀ i, i < n → dI (S.getD i []) v 0 = x i - y i
theorem EqS.symm {S : List (List Int)} {n : Nat} {x y : Nat → Int} (h : EqS S n x y) : EqS S n y x := by
  obtain ⟨v, h1, h2⟩ := h
  refine ⟨fun j => (-1) * v j, fun j hj => by show (-1) * v j = 0; rw [h1 j hj]; rfl, fun i hi => ?_⟩
  rw [dI_mul, h2 i hi]
  omega
theorem EqS.trans {S : List (List Int)} {n : Nat} {x y z : Nat → Int} (h : EqS S n x y) (k : EqS S n y z) : EqS S n x z := by
  obtain ⟨v, h1, h2⟩ := h
  obtain ⟨w, k1, k2⟩ := k
  refine ⟨fun j => v j + w j, fun j hj => by show v j + w j = 0; rw [h1 j hj, k1 j hj]; rfl, fun i hi => ?_⟩
  rw [dI_add, h2 i hi, k2 i hi]
  omega
theorem EqS.shift {S : List (List Int)} {n : Nat} {x y : Nat → Int} (h : EqS S n x y) (z : Nat → Int) : EqS S n (fun i => x i + z i) (fun i => y i + z i) := by
  obtain ⟨v, h1, h2⟩ := h
  refine ⟨v, h1, fun i hi => ?_⟩
  rw [h2 i hi]
  show x i - y i = x i + z i - (y i + z i)
  omega
theorem EqS.congr {S : List (List Int)} {n : Nat} {x y x' y' : Nat → Int} (h : EqS S n x y) (e1 : ∀ i, i < n → x i = x' i) (e2 : ∀ i, i < n → y i = y' i) : EqS S n x' y' := by
  obtain ⟨v, h1, h2⟩ := h
  exact ⟨v, h1, fun i hi => by rw [h2 i hi, e1 i hi, e2 i hi]⟩
theorem grp_ex {S : List (List Int)} {n H : Nat} (wl : ∀ i, (S.getD i []).length ≤ n) (hS : ∀ i, ∀ x ∈ S.getD i [], x.natAbs ≤ H) (solv : ∃ Δ : Int, 1 ≤ Δ ∧ ∀ y : Nat → Int, ∃ u : Nat → Int, (∀ j, n ≤ j → u j = 0) ∧ ∀ i, i < n → dI (S.getD i []) u 0 = Δ * y i) : ∃ m : Nat, 1 ≤ m ∧ m ≤ (2 * (n * H) + 1) ^ n ∧ ∀ y : Nat → Int, ∃ N : Nat → Int, (∀ j, n ≤ j → N j = 0) ∧ ∀ i, i < n → dI (S.getD i []) N 0 = (m : Int) * y i := by
  obtain ⟨Δ, Δ1, sv⟩ := solv
  obtain ⟨B, eB⟩ : ∃ B, B = 2 * (n * H) := ⟨_, rfl⟩
  rw [← eB]
  obtain ⟨vec, evec⟩ : ∃ vec : Nat → Nat → Int, vec = fun t i => (dgt B t i : Int) - ((n * H : Nat) : Int) := ⟨_, rfl⟩
  have box : ∀ x : Nat → Int, ∃ t, t < (B + 1) ^ n ∧ EqS S n (vec t) x := fun x => by
    obtain ⟨u, u1, u2⟩ := sv x
    obtain ⟨v, ev⟩ : ∃ v : Nat → Int, v = fun j => u j / Δ := ⟨_, rfl⟩
    have v0 : ∀ j, n ≤ j → v j = 0 := fun j hj => by rw [ev]; show u j / Δ = 0; rw [u1 j hj]; exact Int.zero_ediv Δ
    have zb : ∀ i, i < n → (x i - dI (S.getD i []) v 0).natAbs ≤ n * H := fun i hi => by
      have r1 : dI (S.getD i []) (fun j => u j % Δ) 0 = Δ * (x i - dI (S.getD i []) v 0) := by
        have e : dI (S.getD i []) (fun j => u j % Δ) 0 = dI (S.getD i []) (fun j => u j + (-Δ) * v j) 0 := dI_congr fun j _ _ => by
          show u j % Δ = u j + (-Δ) * v j
          rw [ev]
          have := Int.mul_ediv_add_emod (u j) Δ
          show u j % Δ = u j + (-Δ) * (u j / Δ)
          rw [Int.neg_mul]
          omega
        rw [e, dI_add, dI_mul, u2 i hi]
        grind
      have r2 := dI_le (z := fun j => u j % Δ) (X := H) (Y := Δ.natAbs) (fun j => by
        show (u j % Δ).natAbs ≤ Δ.natAbs
        have h1 := Int.emod_nonneg (u j) (show Δ ≠ 0 by omega)
        have h2 := Int.emod_lt_of_pos (u j) (show 0 < Δ by omega)
        omega) (r := S.getD i []) (t := 0) (hS i)
      rw [r1, Int.natAbs_mul] at r2
      have r3 : (S.getD i []).length * (H * Δ.natAbs) ≤ Δ.natAbs * (n * H) := by
        have := Nat.mul_le_mul_right (H * Δ.natAbs) (wl i)
        rw [Nat.mul_comm Δ.natAbs, Nat.mul_assoc]
        exact this
      exact Nat.le_of_mul_le_mul_left (Nat.le_trans r2 r3) (by omega)
    obtain ⟨t, t1, t2⟩ := dgt_ex B n (fun i => (x i - dI (S.getD i []) v 0 + ((n * H : Nat) : Int)).toNat) (fun i hi => by have := zb i hi; omega)
    refine ⟨t, t1, fun j => (-1) * v j, fun j hj => by show (-1) * v j = 0; rw [v0 j hj]; rfl, fun i hi => ?_⟩
    rw [dI_mul, evec]
    show -1 * _ = (dgt B t i : Int) - _ - x i
    rw [t2 i hi]
    have := zb i hi
    omega
  obtain ⟨isR, eR⟩ : ∃ isR : Nat → Prop, isR = fun t => t < (B + 1) ^ n ∧ ∀ t', t' < t → ¬ EqS S n (vec t') (vec t) := ⟨_, rfl⟩
  have rep : ∀ x : Nat → Int, ∃ t, isR t ∧ EqS S n (vec t) x := fun x => by
    obtain ⟨t0, h0, e0⟩ := box x
    obtain ⟨t, ⟨h1, h2⟩, h3⟩ := least_ex (P := fun t => t < (B + 1) ^ n ∧ EqS S n (vec t) x) t0 ⟨t0, Nat.le_refl _, h0, e0⟩
    refine ⟨t, ?_, h2⟩
    rw [eR]
    exact ⟨h1, fun t' l e => h3 t' l ⟨by omega, e.trans h2⟩⟩
  obtain ⟨L, eL⟩ : ∃ L, L = (List.range ((B + 1) ^ n)).filter fun t => @decide (isR t) (Classical.propDecidable _) := ⟨_, rfl⟩
  have mem : ∀ t, t ∈ L ↔ isR t := fun t => by
    rw [eL, List.mem_filter, List.mem_range]
    constructor
    · intro h
      exact @of_decide_eq_true _ (Classical.propDecidable _) h.2
    · intro h
      refine ⟨?_, @decide_eq_true _ (Classical.propDecidable _) h⟩
      rw [eR] at h
      exact h.1
  have nd : L.Nodup := by rw [eL]; exact List.nodup_range.filter _
  have uq : ∀ t t', isR t → isR t' → EqS S n (vec t) (vec t') → t = t' := fun t t' h h' e => by
    rw [eR] at h h'
    rcases Nat.lt_trichotomy t t' with c | c | c
    · exact absurd e (h'.2 t c)
    · exact c
    · exact absurd e.symm (h.2 t' c)
  obtain ⟨t0, r0, _⟩ := rep fun _ => 0
  refine ⟨L.length, List.length_pos_of_mem ((mem t0).mpr r0), ?_, fun y => ?_⟩
  · rw [eL]
    have := List.length_filter_le (fun t => @decide (isR t) (Classical.propDecidable _)) (List.range ((B + 1) ^ n))
    rw [List.length_range] at this
    exact this
  obtain ⟨f, hf⟩ := Classical.axiomOfChoice fun t : Nat => rep fun i => vec t i + y i
  have pm : (L.map f).Perm L := by
    refine (List.perm_ext_iff_of_nodup ?_ nd).mpr fun a => ⟨fun h => ?_, fun h => ?_⟩
    · refine List.pairwise_map.mpr (nd.imp_of_mem fun {a b} ha hb ne e => ne ?_)
      refine uq a b ((mem a).mp ha) ((mem b).mp hb) ?_
      have h1 := (hf a).2.symm.trans (by rw [e]; exact (hf b).2)
      exact (h1.shift fun i => - y i).congr (fun i _ => by show vec a i + y i + - y i = vec a i; omega) (fun i _ => by show vec b i + y i + - y i = vec b i; omega)
    · obtain ⟨t, _, rfl⟩ := List.mem_map.mp h
      exact (mem _).mpr (hf t).1
    · obtain ⟨t, rt, et⟩ := rep fun i => vec a i + - y i
      refine List.mem_map.mpr ⟨t, (mem t).mpr rt, uq _ _ (hf t).1 ((mem a).mp h) ((hf t).2.trans ?_)⟩
      exact (et.shift y).congr (fun i _ => rfl) (fun i _ => by show vec a i + - y i + y i = vec a i; omega)
  obtain ⟨v, hv⟩ := Classical.axiomOfChoice fun t : Nat => (hf t).2
  refine ⟨fun j => (-1) * sL (fun t => v t j) L, fun j hj => ?_, fun i hi => ?_⟩
  · show (-1) * sL (fun t => v t j) L = 0
    rw [sL_congr (k := fun _ => 0) fun t _ => (hv t).1 j hj]
    have z : ∀ l : List Nat, sL (fun _ => 0) l = 0 := fun l => by
      induction l with
      | nil => rfl
      | cons a l ih => show (0 : Int) + _ = 0; rw [ih]; rfl
    rw [z]; rfl
  · rw [dI_mul, dI_sL, sL_congr (k := fun t => vec (f t) i - (vec t i + y i)) fun t _ => (hv t).2 i hi, sL_sub (fun t => vec (f t) i) (fun t => vec t i + y i), sL_addc, ← sL_map (fun t => vec t i) f, sL_perm pm]
    grind
end CB

namespace CB
open PySem PySem.Spec PyProof.Rows L2
/-! ### kernels: the primes that don't serve, and one denominator for an inverse -/
theorem wit_moreX {W : Nat} {Ms : List (List Int)} {idx cols : List Nat} {i j : Nat} {q : Nat → Int} {den : Int} (len : idx.length = cols.length) (lt : ∀ c ∈ cols, c < W) (jW : j < W) (ind : ∀ u : Nat → Int, (∀ j, idx.length ≤ j → u j = 0) → (∀ s ∈ sqT Ms idx cols, dI s u 0 = 0) → ∀ j, u j = 0) (d0 : den ≠ 0) (h1 : ∀ c ∈ cols, dI (idx.map fun i => mat Ms i c) q 0 = den * mat Ms i c) (h2 : dI (idx.map fun i => mat Ms i j) q 0 ≠ den * mat Ms i j) : Wit W Ms (idx ++ [i]) (cols ++ [j]) := by
  have tl : (sqT Ms idx cols).length = idx.length := by unfold sqT; rw [List.length_map, len]
  refine ⟨by rw [List.length_append, List.length_append, len]; rfl, fun c hc => ?_, fun u hu hs x => ?_⟩
  · rcases List.mem_append.mp hc with c2 | c2
    · exact lt c c2
    · rw [List.mem_singleton.mp c2]; exact jW
  · have val : ∀ c, c ∈ cols ++ [j] → dI (idx.map fun i => mat Ms i c) u 0 + mat Ms i c * u idx.length = 0 := fun c hc => by
      have := hs _ (List.mem_map.mpr ⟨c, hc, rfl⟩)
      rw [List.map_append, dI_append, List.length_map, Nat.zero_add] at this
      have e : dI ([i].map fun i => mat Ms i c) u idx.length = mat Ms i c * u idx.length := by
        show mat Ms i c * u idx.length + 0 = _
        omega
      rw [e] at this
      exact this
    obtain ⟨v, hv⟩ : ∃ v : Nat → Int, v = fun e => if e < idx.length then den * u e + u idx.length * q e else 0 := ⟨_, rfl⟩
    have vl : ∀ c, dI (idx.map fun i => mat Ms i c) v 0 = den * dI (idx.map fun i => mat Ms i c) u 0 + u idx.length * dI (idx.map fun i => mat Ms i c) q 0 := fun c => by
      rw [← dI_mul, ← dI_mul, ← dI_add]
      refine dI_congr fun e _ he => ?_
      rw [List.length_map] at he
      rw [hv]
      exact if_pos (by omega)
    have v0 := ind v (fun e he => by rw [hv]; exact if_neg (by omega)) (fun s hs => by
      obtain ⟨c, hc, rfl⟩ := List.mem_map.mp hs
      rw [vl, h1 c hc]
      have := val c (List.mem_append.mpr (.inl hc))
      have e : den * dI (idx.map fun i => mat Ms i c) u 0 + u idx.length * (den * mat Ms i c) = den * (dI (idx.map fun i => mat Ms i c) u 0 + mat Ms i c * u idx.length) := by grind
      rw [e, this, Int.mul_zero])
    have vj := val j (List.mem_append.mpr (.inr (List.mem_singleton.mpr rfl)))
    have e1 : dI (idx.map fun i => mat Ms i j) v 0 = 0 := dI_zero fun e _ _ => v0 e
    rw [vl] at e1
    have uk : u idx.length = 0 := by
      have e2 : u idx.length * (dI (idx.map fun i => mat Ms i j) q 0 - den * mat Ms i j) = 0 := by grind
      rcases Int.mul_eq_zero.mp e2 with c | c
      · exact c
      · exact absurd (by omega) h2
    by_cases c : x < idx.length
    · have := v0 x
      rw [hv] at this
      have this : (if x < idx.length then den * u x + u idx.length * q x else 0) = 0 := this
      rw [if_pos c, uk, Int.zero_mul, Int.add_zero] at this
      exact (Int.mul_eq_zero.mp this).resolve_left d0
    · by_cases c2 : x = idx.length
      · rw [c2]; exact uk
      · exact hu x (by rw [List.length_append]; show idx.length + 1 ≤ x; omega)

/-- the columns below n are independent -/
def IndC (Ms : List (List Int)) (n : Nat) : Prop := ∀ z : Nat → Int, (∀ j, n ≤ j → z j = 0) → (∀ i, dI (Ms.getD i []) z 0 = 0) → ∀ j, z j = 0
theorem dI_mat {Ms : List (List Int)} {i n : Nat} {z : Nat → Int} (hz : ∀ j, n ≤ j → z j = 0) : dI (Ms.getD i []) z 0 = sumTo (fun c => mat Ms i c * z c) n := by
  rw [dI_sum z (Ms.getD i []) 0 (max (Ms.getD i []).length n) (Nat.le_max_left ..)]
  have h : ∀ k, sumTo (fun j => (Ms.getD i []).getD j 0 * z (0 + j)) (n + k) = sumTo (fun c => mat Ms i c * z c) n := fun k => by
    induction k with
    | zero => exact sumTo_congr _ fun j _ => by rw [Nat.zero_add]; rfl
    | succ k ih =>
      show sumTo (fun j => (Ms.getD i []).getD j 0 * z (0 + j)) (n + k) + (Ms.getD i []).getD (n + k) 0 * z (0 + (n + k)) = _
      rw [ih, Nat.zero_add, hz (n + k) (by omega), Int.mul_zero, Int.add_zero]
  obtain ⟨k, hk⟩ : ∃ k, max (Ms.getD i []).length n = n + k := ⟨max (Ms.getD i []).length n - n, by have := Nat.le_max_right (Ms.getD i []).length n; omega⟩
  rw [hk]
  exact h k
/-- rows that show it -/
theorem ind_wit {R H : Nat} {Ms : List (List Int)} (H1 : 1 ≤ H) (hH : ∀ i c, (mat Ms i c).natAbs ≤ H) (hi : IndC Ms R) : ∃ I : List Nat, I.length = R ∧ Wit R Ms I (List.range R) := by
  obtain ⟨r, ⟨I, J, w, rl⟩, mx⟩ := max_ex (P := fun n => ∃ I J, Wit R Ms I J ∧ I.length = n) R ⟨[], [], ⟨rfl, fun c hc => absurd hc (by simp), fun u hu _ j => hu j (Nat.zero_le _)⟩, rfl⟩ (fun n ⟨I, J, w, e⟩ => by rw [← e]; exact wit_le w H1 hH)
  have rR : r ≤ R := by rw [← rl]; exact wit_le w H1 hH
  have full : r = R := Classical.byContradiction fun ne => by
    have lt : r < R := by omega
    obtain ⟨z, ⟨j0, jl, z0⟩, _, eq, fz⟩ := siegel (fun e c => if e < I.length then mat Ms (I.getD e 0) c else 0) (N := R) (M := r) (H := H) lt H1 (fun e c => by
      show (if e < I.length then mat Ms (I.getD e 0) c else 0).natAbs ≤ H
      split
      · exact hH _ _
      · exact Nat.zero_le _)
    obtain ⟨l, hl⟩ : ∃ l, dI (Ms.getD l []) z 0 ≠ 0 := Classical.byContradiction fun k => z0 (hi z (fun j hj => fz j hj) (fun i => Classical.byContradiction fun c => k ⟨i, c⟩) j0)
    obtain ⟨x, ⟨k0, kl, xk⟩, _, eq2, fx⟩ := siegel (fun e i => if i < I.length then mat Ms (I.getD i 0) (J.getD e 0) else - mat Ms l (J.getD e 0)) (N := I.length + 1) (M := I.length) (H := H) (by omega) H1 (fun e i => by
      show (if i < I.length then mat Ms (I.getD i 0) (J.getD e 0) else - mat Ms l (J.getD e 0)).natAbs ≤ H
      split
      · exact hH _ _
      · rw [Int.natAbs_neg]; exact hH _ _)
    have wl := w.len
    have val : ∀ e, e < I.length → dI (I.map fun i => mat Ms i (J.getD e 0)) x 0 = x I.length * mat Ms l (J.getD e 0) := fun e he => by
      have q := eq2 e he
      have q2 : sumTo (fun i => (if i < I.length then mat Ms (I.getD i 0) (J.getD e 0) else - mat Ms l (J.getD e 0)) * x i) I.length + (if I.length < I.length then mat Ms (I.getD I.length 0) (J.getD e 0) else - mat Ms l (J.getD e 0)) * x I.length = 0 := q
      rw [if_neg (Nat.lt_irrefl _)] at q2
      rw [dI_sum x _ 0 I.length (by rw [List.length_map]; exact Nat.le_refl _)]
      have e2 : sumTo (fun i => (I.map fun i => mat Ms i (J.getD e 0)).getD i 0 * x (0 + i)) I.length = sumTo (fun i => (if i < I.length then mat Ms (I.getD i 0) (J.getD e 0) else - mat Ms l (J.getD e 0)) * x i) I.length := sumTo_congr _ fun i hi => by rw [Nat.zero_add, map_getD hi, if_pos hi]
      rw [e2]
      grind
    have colv : ∀ c ∈ J, dI (I.map fun i => mat Ms i c) x 0 = x I.length * mat Ms l c := fun c hc => by
      obtain ⟨e, he, ec⟩ := List.mem_iff_getElem.mp hc
      have ge : J.getD e 0 = c := by rw [List.getD_eq_getElem?_getD, List.getElem?_eq_getElem he, ← ec]; rfl
      have := val e (by omega)
      rwa [ge] at this
    have d0 : x I.length ≠ 0 := fun k => by
      have all := w.ind (fun i => if i < I.length then x i else 0) (fun j hj => if_neg (by omega)) (fun s hs => by
        obtain ⟨c, hc, rfl⟩ := List.mem_map.mp hs
        have := colv c hc
        rw [k, Int.zero_mul] at this
        rw [← this]
        exact dI_congr fun j _ hj => by rw [List.length_map] at hj; exact if_pos (by omega))
      by_cases c : k0 < I.length
      · have := all k0
        have this : (if k0 < I.length then x k0 else 0) = 0 := this
        rw [if_pos c] at this
        exact xk this
      · have : k0 = I.length := by omega
        exact xk (by rw [this]; exact k)
    obtain ⟨j, jR, hj⟩ : ∃ j, j < R ∧ dI (I.map fun i => mat Ms i j) x 0 ≠ x I.length * mat Ms l j := Classical.byContradiction fun k => hl (by
      have all : ∀ j, j < R → dI (I.map fun i => mat Ms i j) x 0 = x I.length * mat Ms l j := fun j hj => Classical.byContradiction fun c => k ⟨j, hj, c⟩
      rw [dI_mat (n := R) fz]
      have e1 : x I.length * sumTo (fun c => mat Ms l c * z c) R = sumTo (fun c => dI (I.map fun i => mat Ms i c) x 0 * z c) R := by
        rw [← sumTo_mul]
        exact sumTo_congr _ fun c hc => by rw [all c hc]; grind
      have ce := comb_eq (u := x) (x := z) (L := I.map fun i => (List.range R).map fun c => mat Ms i c) R fun r hr => by
        obtain ⟨i, _, rfl⟩ := List.mem_map.mp hr
        rw [List.length_map, List.length_range]; exact Nat.le_refl _
      have e2 : sumTo (fun i => x i * dI ((I.map fun i => (List.range R).map fun c => mat Ms i c).getD i []) z 0) (I.map fun i => (List.range R).map fun c => mat Ms i c).length = 0 := sumTo_zero _ fun e he => by
        rw [List.length_map] at he
        have g : (I.map fun i => (List.range R).map fun c => mat Ms i c).getD e [] = (List.range R).map fun c => mat Ms (I.getD e 0) c := by
          rw [List.getD_eq_getElem?_getD, List.getElem?_map, List.getD_eq_getElem?_getD, List.getElem?_eq_getElem he]
          rfl
        have q := eq e (by omega)
        have q2 : sumTo (fun c => (if e < I.length then mat Ms (I.getD e 0) c else 0) * z c) R = 0 := q
        rw [g, dI_sum z _ 0 R (by rw [List.length_map, List.length_range]; exact Nat.le_refl _)]
        have e3 : sumTo (fun j => ((List.range R).map fun c => mat Ms (I.getD e 0) c).getD j 0 * z (0 + j)) R = sumTo (fun c => (if e < I.length then mat Ms (I.getD e 0) c else 0) * z c) R := sumTo_congr _ fun c hc => by
          rw [if_pos he, Nat.zero_add, List.getD_eq_getElem?_getD, List.getElem?_map, List.getElem?_range hc]
          rfl
        rw [e3, q2, Int.mul_zero]
      have e4 : sumTo (fun c => dI (I.map fun i => mat Ms i c) x 0 * z c) R = 0 := by
        rw [← e2, ce]
        refine sumTo_congr _ fun c hc => ?_
        have : ((I.map fun i => (List.range R).map fun c => mat Ms i c).map fun r => r.getD c 0) = I.map fun i => mat Ms i c := by
          rw [List.map_map]
          refine List.map_congr_left fun i _ => ?_
          show ((List.range R).map fun c => mat Ms i c).getD c 0 = mat Ms i c
          rw [List.getD_eq_getElem?_getD, List.getElem?_map, List.getElem?_range hc]
          rfl
        rw [this]
      rw [e4] at e1
      exact (Int.mul_eq_zero.mp e1).resolve_left d0)
    have wm := wit_moreX w.len w.lt jR w.ind d0 colv hj
    have := mx _ ⟨_, _, wm, rfl⟩
    rw [List.length_append] at this
    have : I.length + 1 ≤ r := this
    omega
  refine ⟨I, by omega, by rw [List.length_range]; omega, fun c hc => List.mem_range.mp hc, fun u hu hs => w.ind u hu fun s hs' => ?_⟩
  obtain ⟨c, hc, rfl⟩ := List.mem_map.mp hs'
  exact hs _ (List.mem_map.mpr ⟨c, List.mem_range.mpr (w.lt c hc), rfl⟩)
/-- the primes that make an independent column look dependent divide one number -/
theorem ker_bad {W H K cp : Nat} {Ms : List (List Int)} (H1 : 1 ≤ H) (K1 : 1 ≤ K) (hH : ∀ i c, (mat Ms i c).natAbs ≤ H * (if c = cp then K else 1)) : ∃ D : Int, D ≠ 0 ∧ D.natAbs ≤ (K * (2 * (W + 1) * H) ^ W) ^ W ∧
    ∀ (p count : Nat) (w : Nat → Int), Pr p → count < W → IndC Ms (count + 1) → (∀ j, count < j → w j = 0) → (∀ i, (p : Int) ∣ dI (Ms.getD i []) w 0) → (∃ j, ¬ (p : Int) ∣ w j) → (p : Int) ∣ D := by
  have hH' : ∀ i c, (mat Ms i c).natAbs ≤ H * K := fun i c => Nat.le_trans (hH i c) (Nat.mul_le_mul_left _ (by split <;> omega))
  have HK1 : 1 ≤ H * K := Nat.mul_pos H1 K1
  obtain ⟨R, ⟨RW, iR⟩, mx⟩ := max_ex (P := fun n => n ≤ W ∧ IndC Ms n) W ⟨Nat.zero_le _, fun z hz _ j => hz j (Nat.zero_le _)⟩ (fun n h => h.1)
  obtain ⟨I, Il, w⟩ := ind_wit HK1 hH' iR
  have pick : ∀ j, ∃ (u : Nat → Int) (D : Int), j < R → D ≠ 0 ∧ D.natAbs ≤ K * (2 * (R + 1) * H) ^ R ∧ ∀ e, e < R → dI (I.map fun i => mat Ms i e) u 0 = if e = j then D else 0 := fun j => by
    by_cases c : j < R
    · obtain ⟨x, ⟨l, ll, xl⟩, bx, eq, fz⟩ := siegelW (fun e i => if i < R then mat Ms (I.getD i 0) e else if e = j then -1 else 0) (N := R + 1) (M := R) (K := 1) (j0 := 0) (fun e => H * (if e = cp then K else 1)) (by omega) (fun e => Nat.mul_pos H1 (by split <;> omega)) (by decide) (fun e i he hi => by
        show (if i < R then mat Ms (I.getD i 0) e else if e = j then (-1 : Int) else 0).natAbs ≤ _
        have k1 : 1 ≤ H * (if e = cp then K else 1) := Nat.mul_pos H1 (by split <;> omega)
        have : (if i = 0 then 1 else 1) = 1 := by split <;> rfl
        rw [this, Nat.mul_one]
        by_cases d : i < R
        · rw [if_pos d]; exact hH _ _
        · rw [if_neg d]
          split
          · exact k1
          · exact Nat.zero_le _)
      have val : ∀ e, e < R → dI (I.map fun i => mat Ms i e) x 0 = if e = j then x R else 0 := fun e he => by
        have q := eq e he
        have q2 : sumTo (fun i => (if i < R then mat Ms (I.getD i 0) e else if e = j then (-1 : Int) else 0) * x i) R + (if R < R then mat Ms (I.getD R 0) e else if e = j then (-1 : Int) else 0) * x R = 0 := q
        rw [if_neg (Nat.lt_irrefl _)] at q2
        rw [dI_sum x _ 0 R (by rw [List.length_map]; omega)]
        have e2 : sumTo (fun i => (I.map fun i => mat Ms i e).getD i 0 * x (0 + i)) R = sumTo (fun i => (if i < R then mat Ms (I.getD i 0) e else if e = j then (-1 : Int) else 0) * x i) R := sumTo_congr _ fun i hi => by rw [Nat.zero_add, map_getD (by omega), if_pos hi]
        rw [e2]
        by_cases c : e = j
        · rw [if_pos c] at q2 ⊢
          omega
        · rw [if_neg c, Int.zero_mul] at q2
          rw [if_neg c]
          omega
      refine ⟨x, x R, fun _ => ⟨fun z => ?_, ?_, val⟩⟩
      · have all := w.ind x (fun i hi => by
          by_cases c : i = R
          · rw [c]; exact z
          · exact fz i (by omega)) (fun s hs => by
          obtain ⟨c, hc, rfl⟩ := List.mem_map.mp hs
          have := val c (List.mem_range.mp hc)
          rw [z] at this
          rw [this]
          split <;> rfl) l
        exact xl all
      · refine Nat.le_trans (bx R) ?_
        rw [Nat.one_mul]
        refine prodN_heavy (e0 := cp) K1 fun e he => ?_
        show 2 * (R + 1) * (H * (if e = cp then K else 1)) ≤ _
        rw [← Nat.mul_assoc]
        exact Nat.le_refl _
    · exact ⟨fun _ => 0, 0, fun k => absurd k c⟩
  obtain ⟨us, hus⟩ := Classical.axiomOfChoice pick
  obtain ⟨Ds, hDs⟩ := Classical.axiomOfChoice hus
  have HB : 1 ≤ 2 * (W + 1) * H := Nat.mul_pos (by omega) (by omega)
  have bj : ∀ j, j < R → (Ds j).natAbs ≤ K * (2 * (W + 1) * H) ^ W := fun j hj => by
    refine Nat.le_trans (hDs j hj).2.1 (Nat.mul_le_mul_left _ (Nat.le_trans (Nat.pow_le_pow_left (Nat.mul_le_mul_right _ (by omega)) _) (Nat.pow_le_pow_right HB (by omega))))
  refine ⟨prd Ds R, prd_ne _ fun j hj => (hDs j hj).1, Nat.le_trans (prd_le _ bj) (Nat.pow_le_pow_right (Nat.mul_pos K1 (Nat.pow_pos HB)) (by omega)), fun p count y pp cW ic hy h1 ⟨j, hj⟩ => ?_⟩
  have cR := mx (count + 1) ⟨by omega, ic⟩
  have jc : j ≤ count := Decidable.byContradiction fun k => hj (by rw [hy j (by omega)]; exact ⟨0, by rw [Int.mul_zero]⟩)
  have fy : ∀ k, R ≤ k → y k = 0 := fun k hk => hy k (by omega)
  have ce := comb_eq (u := us j) (x := y) (L := I.map fun i => (List.range R).map fun c => mat Ms i c) R fun r hr => by
    obtain ⟨i, _, rfl⟩ := List.mem_map.mp hr
    rw [List.length_map, List.length_range]; exact Nat.le_refl _
  have lhs : (p : Int) ∣ sumTo (fun i => us j i * dI ((I.map fun i => (List.range R).map fun c => mat Ms i c).getD i []) y 0) (I.map fun i => (List.range R).map fun c => mat Ms i c).length := sumTo_dvd _ fun e he => by
    rw [List.length_map] at he
    have g : (I.map fun i => (List.range R).map fun c => mat Ms i c).getD e [] = (List.range R).map fun c => mat Ms (I.getD e 0) c := by
      rw [List.getD_eq_getElem?_getD, List.getElem?_map, List.getD_eq_getElem?_getD, List.getElem?_eq_getElem he]
      rfl
    have e3 : dI ((List.range R).map fun c => mat Ms (I.getD e 0) c) y 0 = dI (Ms.getD (I.getD e 0) []) y 0 := by
      rw [dI_mat (n := R) fy, dI_sum y _ 0 R (by rw [List.length_map, List.length_range]; exact Nat.le_refl _)]
      refine sumTo_congr _ fun c hc => ?_
      rw [Nat.zero_add, List.getD_eq_getElem?_getD, List.getElem?_map, List.getElem?_range hc]
      rfl
    obtain ⟨d, hd⟩ := h1 (I.getD e 0)
    rw [g, e3]
    exact ⟨us j e * d, by rw [hd]; grind⟩
  have rhs : sumTo (fun c => dI ((I.map fun i => (List.range R).map fun c => mat Ms i c).map fun r => r.getD c 0) (us j) 0 * y c) R = Ds j * y j := by
    have e1 : ∀ e, e < R → dI ((I.map fun i => (List.range R).map fun c => mat Ms i c).map fun r => r.getD e 0) (us j) 0 = if e = j then Ds j else 0 := fun e he => by
      have em : ((I.map fun i => (List.range R).map fun c => mat Ms i c).map fun r => r.getD e 0) = I.map fun i => mat Ms i e := by
        rw [List.map_map]
        refine List.map_congr_left fun i _ => ?_
        show ((List.range R).map fun c => mat Ms i c).getD e 0 = mat Ms i e
        rw [List.getD_eq_getElem?_getD, List.getElem?_map, List.getElem?_range he]
        rfl
      rw [em]
      exact (hDs j (by omega)).2.2 e he
    rw [sumTo_one R (k := j) (by omega) fun e he ne => by rw [e1 e he, if_neg ne, Int.zero_mul], e1 j (by omega), if_pos rfl]
  rw [ce, rhs] at lhs
  rcases pp.mul _ _ lhs with k | k
  · exact prd_dvd (j := j) (by omega) k
  · exact absurd k hj
end CB

namespace CB
open PySem PySem.Spec PyProof.Rows L2
theorem dI_sumTo (r : List Int) (c : Nat → Int) (N : Nat → Nat → Int) : ∀ n, dI r (fun j => sumTo (fun k => c k * N k j) n) 0 = sumTo (fun k => c k * dI r (N k) 0) n
  | 0 => dI_zero fun _ _ _ => rfl
  | n + 1 => by
    show dI r (fun j => sumTo (fun k => c k * N k j) n + c n * N n j) 0 = sumTo (fun k => c k * dI r (N k) 0) n + c n * dI r (N n) 0
    rw [dI_add, dI_mul, dI_sumTo r c N n]
theorem dI_range (f : Nat → Int) (y : Nat → Int) (n : Nat) : dI ((List.range n).map f) y 0 = sumTo (fun c => f c * y c) n := by
  rw [dI_sum y _ 0 n (by rw [List.length_map, List.length_range]; exact Nat.le_refl _)]
  refine sumTo_congr _ fun c hc => ?_
  rw [Nat.zero_add, List.getD_eq_getElem?_getD, List.getElem?_map, List.getElem?_range hc]
  rfl
theorem prd_pos {f : Nat → Int} : ∀ n, (∀ j, j < n → 1 ≤ f j) → 1 ≤ prd f n
  | 0, _ => show (1 : Int) ≤ 1 by decide
  | n + 1, h => by
    have h1 := prd_pos n fun j hj => h j (by omega)
    have h2 := h n (by omega)
    have : 1 * 1 ≤ prd f n * f n := Int.mul_le_mul h1 h2 (by decide) (by omega)
    show 1 ≤ prd f n * f n
    omega
theorem p_free {p : Nat} (p2 : 2 ≤ p) : ∀ k m : Nat, m ≤ k → 1 ≤ m → ∃ e m' : Nat, m = p ^ e * m' ∧ ¬ p ∣ m' ∧ 1 ≤ m'
  | 0, m, h, h1 => by omega
  | k + 1, m, h, h1 => by
    by_cases c : p ∣ m
    · obtain ⟨q, rfl⟩ := c
      have q1 : 1 ≤ q := by
        rcases Nat.eq_zero_or_pos q with z | z
        · rw [z, Nat.mul_zero] at h1; omega
        · exact z
      have ql : q < p * q := by
        have : 2 * q ≤ p * q := Nat.mul_le_mul_right _ p2
        omega
      obtain ⟨e, m', h2, h3⟩ := p_free p2 k q (by omega) q1
      exact ⟨e + 1, m', by rw [h2, Nat.pow_succ, Nat.mul_comm (p ^ e) p, Nat.mul_assoc], h3⟩
    · exact ⟨0, m, by rw [Nat.pow_zero, Nat.one_mul], c, h1⟩
/-- one denominator for all right sides -/
theorem solC_all {S : List (List Int)} {p : Nat} (hp : Pr p) (ns : NS (p : Int) S) (sl : ∀ w ∈ S, w.length = S.length) (n11 : S.length ≤ 11) (hS : ∀ i j, ((S.getD i []).getD j 0).natAbs ≤ 11664) : ∃ L : Int, 1 ≤ L ∧ L < 2 ^ 200 ∧ ∀ rs : List Int, (∀ i, (rs.getD i 0).natAbs ≤ 2 ^ 17) → ∃ N, SolC S rs p N L := by
  have p2 := hp.two
  obtain ⟨n, hn⟩ : ∃ n, S.length = n := ⟨_, rfl⟩
  have one : ∀ rs : List Int, (∀ i, (rs.getD i 0).natAbs ≤ 2 ^ 17) → ∃ N D, SolN S rs p N D := fun rs hr => sol_ex hp ns sl n11 (H := 2 ^ 17) (by decide) (Nat.le_refl _) (fun i j => Nat.le_trans (hS i j) (by decide)) hr
  have un : ∀ k i : Nat, i < n → ((List.range n).map fun i => if i = k then (1 : Int) else 0).getD i 0 = if i = k then 1 else 0 := fun k i hi => by
    rw [List.getD_eq_getElem?_getD, List.getElem?_map, List.getElem?_range hi]
    rfl
  obtain ⟨Ns, hNs⟩ := Classical.axiomOfChoice fun k : Nat => one ((List.range n).map fun i => if i = k then (1 : Int) else 0) fun i => by
    by_cases c : i < n
    · rw [un k i c]; split <;> decide
    · rw [List.getD_eq_getElem?_getD, List.getElem?_eq_none (by rw [List.length_map, List.length_range]; omega)]; decide
  obtain ⟨Ds, hDs⟩ := Classical.axiomOfChoice hNs
  have Sget : ∀ i, i < n → S[i]? = some (S.getD i []) := fun i hi => by
    rw [List.getD_eq_getElem?_getD, List.getElem?_eq_getElem (show i < S.length by omega)]; rfl
  have solv : ∃ Δ : Int, 1 ≤ Δ ∧ ∀ y : Nat → Int, ∃ u : Nat → Int, (∀ j, n ≤ j → u j = 0) ∧ ∀ i, i < n → dI (S.getD i []) u 0 = Δ * y i := by
    refine ⟨prd Ds n, prd_pos n fun j _ => (hDs j).D1, fun y => ⟨fun j => sumTo (fun k => y k * (prd Ds n / Ds k) * Ns k j) n, fun j hj => ?_, fun i hi => ?_⟩⟩
    · exact sumTo_zero n fun k _ => by rw [(hDs k).z j (by omega), Int.mul_zero]
    · rw [dI_sumTo]
      have e1 : ∀ k, k < n → y k * (prd Ds n / Ds k) * dI (S.getD i []) (Ns k) 0 = if i = k then prd Ds n * y i else 0 := fun k hk => by
        rw [(hDs k).eq i _ (Sget i hi), un k i hi]
        obtain ⟨q, hq⟩ := prd_dvd (f := Ds) (p := Ds k) hk (Int.dvd_refl _)
        have D1 := (hDs k).D1
        rw [hq, Int.mul_ediv_cancel_left _ (by omega)]
        by_cases c : i = k
        · rw [if_pos c, if_pos c, c]; grind
        · rw [if_neg c, if_neg c]; grind
      rw [sumTo_one n (k := i) hi fun k hk ne => by rw [e1 k hk, if_neg (fun z => ne z.symm)], e1 i hi, if_pos rfl]
  obtain ⟨m, m1, mb, hm⟩ := grp_ex (S := S) (n := n) (H := 11664) (fun i => by
    by_cases c : i < n
    · rw [sl _ (List.mem_of_getElem? (Sget i c))]; omega
    · rw [List.getD_eq_getElem?_getD, List.getElem?_eq_none (by omega)]; exact Nat.zero_le _) (fun i x hx => by
    obtain ⟨j, hj⟩ := List.getElem?_of_mem hx
    have := hS i j
    rw [List.getD_eq_getElem?_getD (l := S.getD i []), hj] at this
    exact this) solv
  have m198 : m < 2 ^ 198 := by
    have h1 : (2 * (n * 11664) + 1) ^ n ≤ (2 * (11 * 11664) + 1) ^ 11 := Nat.le_trans (Nat.pow_le_pow_left (show 2 * (n * 11664) + 1 ≤ 2 * (11 * 11664) + 1 by omega) n) (Nat.pow_le_pow_right (by decide) (by omega))
    have h2 : (2 * (11 * 11664) + 1) ^ 11 < 2 ^ 198 := by decide +kernel
    omega
  obtain ⟨e, m', em, pm, m1'⟩ := p_free p2 m m (Nat.le_refl _) m1
  have ml : m' ≤ m := by rw [em]; exact Nat.le_mul_of_pos_left _ (Nat.pow_pos (by omega))
  have c200 : (((2 ^ 200 : Nat)) : Int) = (2 : Int) ^ 200 := by decide +kernel
  have n198 : (2 : Nat) ^ 198 < 2 ^ 200 := by decide +kernel
  refine ⟨(m' : Int), by omega, by rw [← c200]; exact Int.ofNat_lt.mpr (by omega), fun rs hr => ?_⟩
  obtain ⟨N0, D0, s0⟩ := one rs hr
  obtain ⟨N, N1, N2⟩ := hm fun i => rs.getD i 0
  have pe : (m : Int) = (p : Int) ^ e * (m' : Int) := by rw [em, Int.natCast_mul, Int.natCast_pow]
  have pd : ∀ j, (p : Int) ^ e ∣ N j := ns_pow ns (by omega) e N (fun j hj => N1 j (by omega)) fun s hs => by
    obtain ⟨i, hi⟩ := List.getElem?_of_mem hs
    have il := (List.getElem?_eq_some_iff.mp hi).1
    have es : S.getD i [] = s := by rw [List.getD_eq_getElem?_getD, hi]; rfl
    have := N2 i (by omega)
    rw [es, pe] at this
    exact ⟨(m' : Int) * rs.getD i 0, by rw [this, Int.mul_assoc]⟩
  obtain ⟨M, hM⟩ := Classical.axiomOfChoice pd
  have ppos : (0 : Int) < (p : Int) ^ e := Int.pow_pos (by omega)
  have eqM : ∀ (i : Nat) (w : List Int), S[i]? = some w → dI w M 0 = rs.getD i 0 * (m' : Int) := fun i w hi => by
    have il := (List.getElem?_eq_some_iff.mp hi).1
    have es : S.getD i [] = w := by rw [List.getD_eq_getElem?_getD, hi]; rfl
    have h1 := N2 i (by omega)
    rw [es, pe] at h1
    have h2 : dI w N 0 = (p : Int) ^ e * dI w M 0 := by rw [← dI_mul]; exact dI_congr fun j _ _ => hM j
    rw [h2, Int.mul_assoc] at h1
    rw [Int.eq_of_mul_eq_mul_left (by omega) h1, Int.mul_comm]
  have zM : ∀ j, S.length ≤ j → M j = 0 := fun j hj => by
    have h1 := hM j
    rw [N1 j (by omega)] at h1
    exact (Int.mul_eq_zero.mp h1.symm).resolve_left (by omega)
  have D01 := s0.D1
  have rel : ∀ j, D0 * M j = (m' : Int) * N0 j := fun j => by
    have z := ns_exact ns (by omega) (z := fun j => D0 * M j + (-(m' : Int)) * N0 j) (fun j hj => by
      show D0 * M j + (-(m' : Int)) * N0 j = 0
      rw [zM j hj, s0.z j hj, Int.mul_zero, Int.mul_zero]; rfl) (fun s hs => by
      obtain ⟨i, hi⟩ := List.getElem?_of_mem hs
      rw [dI_add, dI_mul, dI_mul, eqM i s hi, s0.eq i s hi]
      grind) j
    have z : D0 * M j + (-(m' : Int)) * N0 j = 0 := z
    rw [Int.neg_mul] at z
    omega
  have c240 : (2 : Nat) ^ 200 ≤ 2 ^ 240 := by decide +kernel
  refine ⟨M, by omega, ?_, fun i => ?_, eqM, zM, fun c w hc hw => ?_⟩
  · show ((m' : Int)).natAbs < 2 ^ 240
    rw [Int.natAbs_natCast]; omega
  · have h1 : D0.natAbs * (M i).natAbs = m' * (N0 i).natAbs := by rw [← Int.natAbs_mul, rel i, Int.natAbs_mul, Int.natAbs_natCast]
    have h2 : 1 * (M i).natAbs ≤ D0.natAbs * (M i).natAbs := Nat.mul_le_mul_right _ (by omega)
    have h3 : m' * (N0 i).natAbs ≤ 2 ^ 198 * 2 ^ 240 := Nat.mul_le_mul (by omega) (Nat.le_of_lt (s0.NA i))
    have h4 : (2 : Nat) ^ 198 * 2 ^ 240 < 2 ^ 440 := by decide +kernel
    omega
  · rcases hp.mul _ _ hw with k | k
    · exact absurd (Int.natCast_dvd_natCast.mp (Int.dvd_trans k hc)) pm
    · exact k
/-- a column that elimination passed over is dependent modulo the prime -/
theorem ker_w {p W count H : Nat} {Ms : List (List Int)} {idx cols : List Nat} {rest : List (Nat × List Int)} (hp : Pr p) (h : PInv (p : Int) W Ms (count + 1) idx cols rest) (il : idx.length = count) (H1 : 1 ≤ H) (hH : ∀ i c, (mat Ms i c).natAbs ≤ H) : ∃ w : Nat → Int, (∀ j, count < j → w j = 0) ∧ (∀ i, (p : Int) ∣ dI (Ms.getD i []) w 0) ∧ ∃ j, ¬ (p : Int) ∣ w j := by
  have p2 := hp.two
  obtain ⟨z, ⟨j0, jl, z0⟩, _, eq, fz⟩ := siegel (fun e c => mat Ms (idx.getD e 0) c) (N := count + 1) (M := count) (H := H) (by omega) H1 (fun e c => hH _ _)
  obtain ⟨z', c, c0, hc, j1, hj1⟩ := scale_out (p := (p : Int)) (by omega) _ z j0 (Nat.le_refl _) z0
  have fz' : ∀ j, count + 1 ≤ j → z' j = 0 := fun j hj => by
    have := fz j hj
    rw [hc j] at this
    exact (Int.mul_eq_zero.mp this).resolve_left c0
  have ex : ∀ i ∈ idx, dI (Ms.getD i []) z' 0 = 0 := fun i hi => by
    obtain ⟨e, he, ei⟩ := List.mem_iff_getElem.mp hi
    have ge : idx.getD e 0 = i := by rw [List.getD_eq_getElem?_getD, List.getElem?_eq_getElem he, ← ei]; rfl
    have q := eq e (by omega)
    rw [ge] at q
    rw [dI_mat (n := count + 1) fz']
    have q2 : sumTo (fun k => mat Ms i k * z k) (count + 1) = 0 := q
    rw [sumTo_congr (g := fun k => c * (mat Ms i k * z' k)) _ fun k _ => by rw [hc k]; grind, sumTo_mul] at q2
    exact (Int.mul_eq_zero.mp q2).resolve_left c0
  refine ⟨z', fun j hj => fz' j (by omega), fun i => ?_, j1, hj1⟩
  by_cases il2 : i < Ms.length
  · rcases h.cov i il2 with k | ⟨R, k⟩
    · rw [ex i k]; exact ⟨0, by rw [Int.mul_zero]⟩
    · have b := h.b _ k z' fun i hi => by rw [ex i hi]; exact ⟨0, by rw [Int.mul_zero]⟩
      have r0 : dI R z' (count + 1) = 0 := dI_zero fun j hj _ => fz' j hj
      have b2 : (p : Int) ∣ dI (Ms.getD i []) z' 0 - dI R z' (count + 1) := b
      rw [r0, Int.sub_zero] at b2
      exact b2
  · have : Ms.getD i [] = [] := by rw [List.getD_eq_getElem?_getD, List.getElem?_eq_none (by omega)]; rfl
    rw [this]
    exact ⟨0, by rw [Int.mul_zero]; rfl⟩
/-- a vector that fails at a row shows the columns independent -/
theorem ker_ind {p : Int} {count l : Nat} {Ms : List (List Int)} {idx : List Nat} {u : Nat → Int} {den : Int} (p2 : 2 ≤ p) (il : idx.length = count) (ns : NS p (sq Ms idx (List.range count))) (d0 : den ≠ 0) (sol : ∀ i ∈ idx, dI ((List.range count).map fun c => mat Ms i c) u 0 = -(mat Ms i count) * den) (fail : dI ((List.range count).map fun c => mat Ms l c) u 0 + mat Ms l count * den ≠ 0) : IndC Ms (count + 1) := fun z hz hr => by
  have row : ∀ i, sumTo (fun c => mat Ms i c * z c) count + mat Ms i count * z count = 0 := fun i => by
    have := hr i
    rw [dI_mat (n := count + 1) hz] at this
    exact this
  have sl : (sq Ms idx (List.range count)).length = count := by unfold sq; rw [List.length_map, il]
  have y0 := ns_exact ns p2 (z := fun c => if c < count then den * z c + (-(z count)) * u c else 0) (fun j hj => if_neg (by omega)) (fun s hs => by
    obtain ⟨i, hi, rfl⟩ := List.mem_map.mp hs
    have e1 : dI ((List.range count).map fun c => mat Ms i c) (fun c => if c < count then den * z c + (-(z count)) * u c else 0) 0 = dI ((List.range count).map fun c => mat Ms i c) (fun c => den * z c + (-(z count)) * u c) 0 := dI_congr fun j _ hj => by
      rw [List.length_map, List.length_range] at hj
      exact if_pos (by omega)
    rw [e1, dI_add, dI_mul, dI_mul, sol i hi, dI_range]
    have := row i
    have e2 : sumTo (fun c => mat Ms i c * z c) count = -(mat Ms i count * z count) := by omega
    rw [e2]
    grind)
  have yc : ∀ c, c < count → den * z c = z count * u c := fun c hc => by
    have := y0 c
    have this : (if c < count then den * z c + (-(z count)) * u c else 0) = 0 := this
    rw [if_pos hc, Int.neg_mul] at this
    omega
  have zc : z count = 0 := by
    have e1 : den * sumTo (fun c => mat Ms l c * z c) count = z count * dI ((List.range count).map fun c => mat Ms l c) u 0 := by
      rw [dI_range, ← sumTo_mul, ← sumTo_mul]
      exact sumTo_congr _ fun c hc => by
        have := yc c hc
        calc den * (mat Ms l c * z c) = mat Ms l c * (den * z c) := by grind
          _ = z count * (mat Ms l c * u c) := by rw [this]; grind
    have e2 := row l
    have e3 : sumTo (fun c => mat Ms l c * z c) count = -(mat Ms l count * z count) := by omega
    rw [e3] at e1
    have e4 : z count * (dI ((List.range count).map fun c => mat Ms l c) u 0 + mat Ms l count * den) = 0 := by
      rw [Int.mul_add, ← e1]; grind
    exact (Int.mul_eq_zero.mp e4).resolve_right fail
  intro j
  by_cases c : j < count
  · have := yc j c
    rw [zc, Int.zero_mul] at this
    exact (Int.mul_eq_zero.mp this).resolve_left d0
  · by_cases c2 : j = count
    · rw [c2]; exact zc
    · exact hz j (by omega)
end CB

namespace CB
open PySem PySem.Spec PyProof.Rows L2
/-- a right inverse is a left one -/
theorem inv_left {S : List (List Int)} {n : Nat} {p L : Int} {N : Nat → Nat → Int} (p2 : 2 ≤ p) (sl : S.length = n) (ns : NS p S) (eq : ∀ (i r : Nat) (w : List Int), i < n → S[r]? = some w → dI w (N i) 0 = if r = i then L else 0) (fz : ∀ i j, i < n → n ≤ j → N i j = 0) {k j : Nat} (hk : k < n) (hj : j < n) : sumTo (fun i => (S.getD i []).getD k 0 * N i j) n = if j = k then L else 0 := by
  have z := ns_exact ns p2 (z := fun j => sumTo (fun i => (S.getD i []).getD k 0 * N i j) n + (-L) * (if j = k then 1 else 0)) (fun j hj => by
    show sumTo (fun i => (S.getD i []).getD k 0 * N i j) n + (-L) * (if j = k then 1 else 0) = 0
    rw [sumTo_zero n fun i hi => by rw [fz i j hi (by omega), Int.mul_zero], if_neg (by omega)]
    rw [Int.mul_zero]; rfl) (fun s hs => by
    obtain ⟨r, hr⟩ := List.getElem?_of_mem hs
    have rl := (List.getElem?_eq_some_iff.mp hr).1
    have es : S.getD r [] = s := by rw [List.getD_eq_getElem?_getD, hr]; rfl
    rw [dI_add, dI_sumTo, dI_mul, dI_pt, sumTo_one n (k := r) (by omega) fun i hi ne => by rw [eq i r s hi hr, if_neg (fun q => ne q.symm), Int.mul_zero], eq r r s (by omega) hr, if_pos rfl, es]
    grind) j
  have z : sumTo (fun i => (S.getD i []).getD k 0 * N i j) n + (-L) * (if j = k then 1 else 0) = 0 := z
  by_cases c : j = k
  · rw [if_pos c] at z ⊢
    omega
  · rw [if_neg c] at z ⊢
    omega
/-- full columns -/
theorem full_cols {W : Nat} {cols : List Nat} (nd : cols.Nodup) (lt : ∀ c ∈ cols, c < W) (l : cols.length = W) {j : Nat} (hj : j < W) : j ∈ cols := Classical.byContradiction fun n => by
  have := nodup_le (W := W) (l := j :: cols) (List.nodup_cons.mpr ⟨n, nd⟩) fun c hc => by
    rcases List.mem_cons.mp hc with k | k
    · rw [k]; exact hj
    · exact lt c k
  rw [List.length_cons] at this
  omega
theorem ns_full {p : Int} {W t : Nat} {Ms : List (List Int)} {idx cols : List Nat} {rest : List (Nat × List Int)} (h : PInv p W Ms t idx cols rest) (tW : t = W) (l : cols.length = W) (hw : ∀ i ∈ idx, (Ms.getD i []).length = W) : NS p (idx.map fun i => Ms.getD i []) := fun z hz hs j => by
  have il := h.len
  have sl : (idx.map fun i => Ms.getD i []).length = W := by rw [List.length_map]; omega
  refine h.ns z (fun j hj => hz j (by
    rw [sl]
    refine Nat.le_of_not_lt fun c => hj (full_cols h.nd (fun c hc => by have := h.lt c hc; omega) l c))) (fun i hi => hs _ (List.mem_map.mpr ⟨i, hi, rfl⟩)) j
end CB

namespace CB
open PySem PySem.Spec PyProof.Rows L2 CB.Z
local macro_rules | `(tactic| walk_at "cb sz") => `(tactic| first
  | assumption
  | (apply abs_lt_mul <;> walk_at "cb sz")
  | (apply sz_add <;> walk_at "cb sz")
  | (apply sz_sub <;> walk_at "cb sz")
  | (apply sz_neg <;> walk_at "cb sz")
  | (show _ < 2 ^ 64; decide)
  | (show _ < 2 ^ 128; decide)
  | (show _ < 2 ^ 144; decide)
  | (show _ < 2 ^ 250; decide))
local macro_rules | `(tactic| walk_at "cb size") => `(tactic| (apply abs_mono <;> first | walk_at "cb sz" | decide))
local macro_rules | `(tactic| walk_at "cb mul") => `(tactic| (apply mulW <;> first | walk_at "cb sz" | decide))
local macro_rules | `(tactic| walk_at "cb ne") => `(tactic| first
  | omega
  | (apply Int.mul_ne_zero <;> walk_at "cb ne"))
def top (i : Nat) : Stmt := PySem.Challenge.pw_certsums_k25_kernel.main.body.getD i (.Pass ⟨0, 0, 0, 0⟩)
abbrev mth (i j : Nat) : Stmt := inClass (top i) j
abbrev s__law_cell : Stmt := top 39
abbrev N__law_cell : List Str := ["script", "k"]
theorem sc__law_cell : FnScope N__law_cell ["script", "k"] (defScope s__law_cell) := ⟨rfl, rfl, rfl, by decide +kernel, rfl, by decide +kernel, by decide +kernel⟩
abbrev d__law_cell : DefG := ⟨fun K => He.fAd K ("_law_cell", none), "_law_cell", "_law_cell", defArgs s__law_cell, defBody s__law_cell, defScope s__law_cell, []⟩
abbrev s__law_digits : Stmt := top 40
abbrev N__law_digits : List Str := ["cell", "limit", "count", "rest", "whole", "found", "k", "mixed"]
theorem sc__law_digits : FnScope N__law_digits ["cell", "limit", "count"] (defScope s__law_digits) := ⟨rfl, rfl, rfl, by decide +kernel, rfl, by decide +kernel, by decide +kernel⟩
abbrev d__law_digits : DefG := ⟨fun K => He.fAd K ("_law_digits", none), "_law_digits", "_law_digits", defArgs s__law_digits, defBody s__law_digits, defScope s__law_digits, []⟩
abbrev s__law_size : Stmt := top 41
abbrev N__law_size : List Str := ["d"]
theorem sc__law_size : FnScope N__law_size ["d"] (defScope s__law_size) := ⟨rfl, rfl, rfl, by decide +kernel, rfl, by decide +kernel, by decide +kernel⟩
abbrev d__law_size : DefG := ⟨fun K => He.fAd K ("_law_size", none), "_law_size", "_law_size", defArgs s__law_size, defBody s__law_size, defScope s__law_size, []⟩
abbrev s__law_pair : Stmt := top 42
abbrev N__law_pair : List Str := ["d", "style"]
theorem sc__law_pair : FnScope N__law_pair ["d", "style"] (defScope s__law_pair) := ⟨rfl, rfl, rfl, by decide +kernel, rfl, by decide +kernel, by decide +kernel⟩
abbrev d__law_pair : DefG := ⟨fun K => He.fAd K ("_law_pair", none), "_law_pair", "_law_pair", defArgs s__law_pair, defBody s__law_pair, defScope s__law_pair, []⟩
abbrev s__law_pairs : Stmt := top 43
abbrev N__law_pairs : List Str := ["cell", "count", "style", "d"]
theorem sc__law_pairs : FnScope N__law_pairs ["cell", "count", "style"] (defScope s__law_pairs) := ⟨rfl, rfl, rfl, by decide +kernel, rfl, by decide +kernel, by decide +kernel⟩
abbrev d__law_pairs : DefG := ⟨fun K => He.fAd K ("_law_pairs", none), "_law_pairs", "_law_pairs", defArgs s__law_pairs, defBody s__law_pairs, defScope s__law_pairs, []⟩
abbrev s__law_times : Stmt := top 45
abbrev N__law_times : List Str := ["a", "b"]
theorem sc__law_times : FnScope N__law_times ["a", "b"] (defScope s__law_times) := ⟨rfl, rfl, rfl, by decide +kernel, rfl, by decide +kernel, by decide +kernel⟩
abbrev d__law_times : DefG := ⟨fun K => He.fAd K ("_law_times", none), "_law_times", "_law_times", defArgs s__law_times, defBody s__law_times, defScope s__law_times, []⟩
abbrev s__law_planted : Stmt := top 57
abbrev N__law_planted : List Str := ["rows", "width", "plant", "pairs", "row", "k", "i"]
theorem sc__law_planted : FnScope N__law_planted ["rows", "width", "plant", "pairs"] (defScope s__law_planted) := ⟨rfl, rfl, rfl, by decide +kernel, rfl, by decide +kernel, by decide +kernel⟩
abbrev d__law_planted : DefG := ⟨fun K => He.fAd K ("_law_planted", none), "_law_planted", "_law_planted", defArgs s__law_planted, defBody s__law_planted, defScope s__law_planted, []⟩
abbrev s_Fraction___init__ : Stmt := mth 20 0
abbrev N_Fraction___init__ : List Str := ["self", "num", "den", "common"]
theorem sc_Fraction___init__ : FnScope N_Fraction___init__ ["self", "num", "den"] (defScope s_Fraction___init__) := ⟨rfl, rfl, rfl, by decide +kernel, rfl, by decide +kernel, by decide +kernel⟩
abbrev d_Fraction___init__ : DefG := ⟨fun K => He.fAd K ("Fraction", some "__init__"), "__init__", "Fraction.__init__", defArgs s_Fraction___init__, defBody s_Fraction___init__, defScope s_Fraction___init__, [.int 1]⟩
abbrev s__law_vector : Stmt := top 47
abbrev N__law_vector : List Str := ["pairs", "pair"]
theorem sc__law_vector : FnScope N__law_vector ["pairs"] (defScope s__law_vector) := ⟨rfl, rfl, rfl, by decide +kernel, rfl, by decide +kernel, by decide +kernel⟩
abbrev d__law_vector : DefG := ⟨fun K => He.fAd K ("_law_vector", none), "_law_vector", "_law_vector", defArgs s__law_vector, defBody s__law_vector, defScope s__law_vector, []⟩
abbrev s__law_matrix : Stmt := top 48
abbrev N__law_matrix : List Str := ["rows", "row"]
theorem sc__law_matrix : FnScope N__law_matrix ["rows"] (defScope s__law_matrix) := ⟨rfl, rfl, rfl, by decide +kernel, rfl, by decide +kernel, by decide +kernel⟩
abbrev d__law_matrix : DefG := ⟨fun K => He.fAd K ("_law_matrix", none), "_law_matrix", "_law_matrix", defArgs s__law_matrix, defBody s__law_matrix, defScope s__law_matrix, []⟩
abbrev s_common_den : Stmt := top 17
abbrev N_common_den : List Str := ["parts", "found", "part"]
theorem sc_common_den : FnScope N_common_den ["parts"] (defScope s_common_den) := ⟨rfl, rfl, rfl, by decide +kernel, rfl, by decide +kernel, by decide +kernel⟩
abbrev d_common_den : DefG := ⟨fun K => He.fAd K ("common_den", none), "common_den", "common_den", defArgs s_common_den, defBody s_common_den, defScope s_common_den, []⟩
abbrev s__whole_rows : Stmt := top 24
abbrev N__whole_rows : List Str := ["rows", "scales", "row", "scale", "x"]
theorem sc__whole_rows : FnScope N__whole_rows ["rows"] (defScope s__whole_rows) := ⟨rfl, rfl, rfl, by decide +kernel, rfl, by decide +kernel, by decide +kernel⟩
abbrev d__whole_rows : DefG := ⟨fun K => He.fAd K ("_whole_rows", none), "_whole_rows", "_whole_rows", defArgs s__whole_rows, defBody s__whole_rows, defScope s__whole_rows, []⟩
abbrev s__first_unit : Stmt := top 31
abbrev N__first_unit : List Str := ["rows", "prime", "at", "row"]
theorem sc__first_unit : FnScope N__first_unit ["rows", "prime"] (defScope s__first_unit) := ⟨rfl, rfl, rfl, by decide +kernel, rfl, by decide +kernel, by decide +kernel⟩
abbrev d__first_unit : DefG := ⟨fun K => He.fAd K ("_first_unit", none), "_first_unit", "_first_unit", defArgs s__first_unit, defBody s__first_unit, defScope s__first_unit, []⟩
abbrev s_inverse_modulo : Stmt := top 8
abbrev N_inverse_modulo : List Str := ["number", "modulus", "first", "second", "factor", "following", "share"]
theorem sc_inverse_modulo : FnScope N_inverse_modulo ["number", "modulus"] (defScope s_inverse_modulo) := ⟨rfl, rfl, rfl, by decide +kernel, rfl, by decide +kernel, by decide +kernel⟩
abbrev d_inverse_modulo : DefG := ⟨fun K => He.fAd K ("inverse_modulo", none), "inverse_modulo", "inverse_modulo", defArgs s_inverse_modulo, defBody s_inverse_modulo, defScope s_inverse_modulo, []⟩
abbrev s_inverse_of_unit : Stmt := top 9
abbrev N_inverse_of_unit : List Str := ["number", "prime", "modulus", "inverse", "known"]
theorem sc_inverse_of_unit : FnScope N_inverse_of_unit ["number", "prime", "modulus"] (defScope s_inverse_of_unit) := ⟨rfl, rfl, rfl, by decide +kernel, rfl, by decide +kernel, by decide +kernel⟩
abbrev d_inverse_of_unit : DefG := ⟨fun K => He.fAd K ("inverse_of_unit", none), "inverse_of_unit", "inverse_of_unit", defArgs s_inverse_of_unit, defBody s_inverse_of_unit, defScope s_inverse_of_unit, []⟩
abbrev s__divided : Stmt := top 32
abbrev N__divided : List Str := ["row", "prime", "modulus", "inverse", "x"]
theorem sc__divided : FnScope N__divided ["row", "prime", "modulus"] (defScope s__divided) := ⟨rfl, rfl, rfl, by decide +kernel, rfl, by decide +kernel, by decide +kernel⟩
abbrev d__divided : DefG := ⟨fun K => He.fAd K ("_divided", none), "_divided", "_divided", defArgs s__divided, defBody s__divided, defScope s__divided, []⟩
abbrev s__cleared : Stmt := top 33
abbrev N__cleared : List Str := ["row", "line", "modulus", "share", "x", "y"]
theorem sc__cleared : FnScope N__cleared ["row", "line", "modulus"] (defScope s__cleared) := ⟨rfl, rfl, rfl, by decide +kernel, rfl, by decide +kernel, by decide +kernel⟩
abbrev d__cleared : DefG := ⟨fun K => He.fAd K ("_cleared", none), "_cleared", "_cleared", defArgs s__cleared, defBody s__cleared, defScope s__cleared, []⟩
abbrev s_pivots_modulo : Stmt := top 30
abbrev N_pivots_modulo : List Str := ["matrix", "width", "prime", "rest", "indexes", "columns", "column", "at", "index", "pivot", "line", "i", "row", "x", "_"]
theorem sc_pivots_modulo : FnScope N_pivots_modulo ["matrix", "width", "prime"] (defScope s_pivots_modulo) := ⟨rfl, rfl, rfl, by decide +kernel, rfl, by decide +kernel, by decide +kernel⟩
abbrev d_pivots_modulo : DefG := ⟨fun K => He.fAd K ("pivots_modulo", none), "pivots_modulo", "pivots_modulo", defArgs s_pivots_modulo, defBody s_pivots_modulo, defScope s_pivots_modulo, []⟩
abbrev s_height : Stmt := top 18
abbrev N_height : List Str := ["coefs", "c"]
theorem sc_height : FnScope N_height ["coefs"] (defScope s_height) := ⟨rfl, rfl, rfl, by decide +kernel, rfl, by decide +kernel, by decide +kernel⟩
abbrev d_height : DefG := ⟨fun K => He.fAd K ("height", none), "height", "height", defArgs s_height, defBody s_height, defScope s_height, []⟩
abbrev s_power_of : Stmt := top 7
abbrev N_power_of : List Str := ["base", "exponent", "found"]
theorem sc_power_of : FnScope N_power_of ["base", "exponent"] (defScope s_power_of) := ⟨rfl, rfl, rfl, by decide +kernel, rfl, by decide +kernel, by decide +kernel⟩
abbrev d_power_of : DefG := ⟨fun K => He.fAd K ("power_of", none), "power_of", "power_of", defArgs s_power_of, defBody s_power_of, defScope s_power_of, []⟩
abbrev s_inverse_matrix : Stmt := top 34
abbrev N_inverse_matrix : List Str := ["square", "prime", "modulus", "size", "rest", "found", "_", "pivot", "line", "i", "row", "x", "j"]
theorem sc_inverse_matrix : FnScope N_inverse_matrix ["square", "prime", "modulus"] (defScope s_inverse_matrix) := ⟨rfl, rfl, rfl, by decide +kernel, rfl, by decide +kernel, by decide +kernel⟩
abbrev d_inverse_matrix : DefG := ⟨fun K => He.fAd K ("inverse_matrix", none), "inverse_matrix", "inverse_matrix", defArgs s_inverse_matrix, defBody s_inverse_matrix, defScope s_inverse_matrix, []⟩
abbrev s_inner : Stmt := top 12
abbrev N_inner : List Str := ["first", "second", "x", "y"]
theorem sc_inner : FnScope N_inner ["first", "second"] (defScope s_inner) := ⟨rfl, rfl, rfl, by decide +kernel, rfl, by decide +kernel, by decide +kernel⟩
abbrev d_inner : DefG := ⟨fun K => He.fAd K ("inner", none), "inner", "inner", defArgs s_inner, defBody s_inner, defScope s_inner, []⟩
abbrev s__nearest_zero : Stmt := top 14
abbrev N__nearest_zero : List Str := ["number", "modulus", "rest"]
theorem sc__nearest_zero : FnScope N__nearest_zero ["number", "modulus"] (defScope s__nearest_zero) := ⟨rfl, rfl, rfl, by decide +kernel, rfl, by decide +kernel, by decide +kernel⟩
abbrev d__nearest_zero : DefG := ⟨fun K => He.fAd K ("_nearest_zero", none), "_nearest_zero", "_nearest_zero", defArgs s__nearest_zero, defBody s__nearest_zero, defScope s__nearest_zero, []⟩
abbrev s__first_steps : Stmt := top 16
abbrev N__first_steps : List Str := ["high", "low", "bound", "places", "top", "rest", "first", "second", "share", "third", "left"]
theorem sc__first_steps : FnScope N__first_steps ["high", "low", "bound"] (defScope s__first_steps) := ⟨rfl, rfl, rfl, by decide +kernel, rfl, by decide +kernel, by decide +kernel⟩
abbrev d__first_steps : DefG := ⟨fun K => He.fAd K ("_first_steps", none), "_first_steps", "_first_steps", defArgs s__first_steps, defBody s__first_steps, defScope s__first_steps, []⟩
abbrev s__denominator : Stmt := top 15
abbrev N__denominator : List Str := ["residue", "modulus", "bound", "high", "low", "before", "factor", "first", "second"]
theorem sc__denominator : FnScope N__denominator ["residue", "modulus", "bound"] (defScope s__denominator) := ⟨rfl, rfl, rfl, by decide +kernel, rfl, by decide +kernel, by decide +kernel⟩
abbrev d__denominator : DefG := ⟨fun K => He.fAd K ("_denominator", none), "_denominator", "_denominator", defArgs s__denominator, defBody s__denominator, defScope s__denominator, []⟩
abbrev s_common_fractions : Stmt := top 13
abbrev N_common_fractions : List Str := ["residues", "modulus", "den", "limit", "bound", "parts", "residue", "number", "known"]
theorem sc_common_fractions : FnScope N_common_fractions ["residues", "modulus", "den"] (defScope s_common_fractions) := ⟨rfl, rfl, rfl, by decide +kernel, rfl, by decide +kernel, by decide +kernel⟩
abbrev d_common_fractions : DefG := ⟨fun K => He.fAd K ("common_fractions", none), "common_fractions", "common_fractions", defArgs s_common_fractions, defBody s_common_fractions, defScope s_common_fractions, []⟩
abbrev s__solves : Stmt := top 37
abbrev N__solves : List Str := ["square", "right", "answer", "numerators", "den", "row", "value"]
theorem sc__solves : FnScope N__solves ["square", "right", "answer"] (defScope s__solves) := ⟨rfl, rfl, rfl, by decide +kernel, rfl, by decide +kernel, by decide +kernel⟩
abbrev d__solves : DefG := ⟨fun K => He.fAd K ("_solves", none), "_solves", "_solves", defArgs s__solves, defBody s__solves, defScope s__solves, []⟩
abbrev s__lifted_solution : Stmt := top 36
abbrev N__lifted_solution : List Str := ["square", "right", "inverse", "modulus", "den", "rest", "residues", "scale", "steps", "try_at", "digits", "answer", "_", "row", "x", "residue", "digit"]
theorem sc__lifted_solution : FnScope N__lifted_solution ["square", "right", "inverse", "modulus", "den"] (defScope s__lifted_solution) := ⟨rfl, rfl, rfl, by decide +kernel, rfl, by decide +kernel, by decide +kernel⟩
abbrev d__lifted_solution : DefG := ⟨fun K => He.fAd K ("_lifted_solution", none), "_lifted_solution", "_lifted_solution", defArgs s__lifted_solution, defBody s__lifted_solution, defScope s__lifted_solution, []⟩
abbrev s_solved : Stmt := top 35
abbrev N_solved : List Str := ["square", "rights", "prime", "entry_bits", "modulus", "inverse", "found", "den", "right", "numerators", "row", "x"]
theorem sc_solved : FnScope N_solved ["square", "rights", "prime"] (defScope s_solved) := ⟨rfl, rfl, rfl, by decide +kernel, rfl, by decide +kernel, by decide +kernel⟩
abbrev d_solved : DefG := ⟨fun K => He.fAd K ("solved", none), "solved", "solved", defArgs s_solved, defBody s_solved, defScope s_solved, []⟩
abbrev s__spread : Stmt := top 25
abbrev N__spread : List Str := ["places", "entries", "length", "found", "place", "entry", "_"]
theorem sc__spread : FnScope N__spread ["places", "entries", "length"] (defScope s__spread) := ⟨rfl, rfl, rfl, by decide +kernel, rfl, by decide +kernel, by decide +kernel⟩
abbrev d__spread : DefG := ⟨fun K => He.fAd K ("_spread", none), "_spread", "_spread", defArgs s__spread, defBody s__spread, defScope s__spread, []⟩
abbrev s__inverse : Stmt := top 29
abbrev N__inverse : List Str := ["matrix", "scales", "indexes", "prime", "size", "units", "parts", "lines", "i", "j", "line", "numerators", "den"]
theorem sc__inverse : FnScope N__inverse ["matrix", "scales", "indexes", "prime"] (defScope s__inverse) := ⟨rfl, rfl, rfl, by decide +kernel, rfl, by decide +kernel, by decide +kernel⟩
abbrev d__inverse : DefG := ⟨fun K => He.fAd K ("_inverse", none), "_inverse", "_inverse", defArgs s__inverse, defBody s__inverse, defScope s__inverse, []⟩
abbrev s_first_gap : Stmt := top 27
abbrev N_first_gap : List Str := ["columns", "count"]
theorem sc_first_gap : FnScope N_first_gap ["columns"] (defScope s_first_gap) := ⟨rfl, rfl, rfl, by decide +kernel, rfl, by decide +kernel, by decide +kernel⟩
abbrev d_first_gap : DefG := ⟨fun K => He.fAd K ("first_gap", none), "first_gap", "first_gap", defArgs s_first_gap, defBody s_first_gap, defScope s_first_gap, []⟩
abbrev s__kernel_vector : Stmt := top 28
abbrev N__kernel_vector : List Str := ["matrix", "width", "indexes", "count", "prime", "used", "numerators", "den", "vector", "row", "i", "x"]
theorem sc__kernel_vector : FnScope N__kernel_vector ["matrix", "width", "indexes", "count", "prime"] (defScope s__kernel_vector) := ⟨rfl, rfl, rfl, by decide +kernel, rfl, by decide +kernel, by decide +kernel⟩
abbrev d__kernel_vector : DefG := ⟨fun K => He.fAd K ("_kernel_vector", none), "_kernel_vector", "_kernel_vector", defArgs s__kernel_vector, defBody s__kernel_vector, defScope s__kernel_vector, []⟩
abbrev s__is_prime : Stmt := top 11
abbrev N__is_prime : List Str := ["number", "divisor"]
theorem sc__is_prime : FnScope N__is_prime ["number"] (defScope s__is_prime) := ⟨rfl, rfl, rfl, by decide +kernel, rfl, by decide +kernel, by decide +kernel⟩
abbrev d__is_prime : DefG := ⟨fun K => He.fAd K ("_is_prime", none), "_is_prime", "_is_prime", defArgs s__is_prime, defBody s__is_prime, defScope s__is_prime, []⟩
abbrev s_next_prime : Stmt := top 10
abbrev N_next_prime : List Str := ["number", "candidate"]
theorem sc_next_prime : FnScope N_next_prime ["number"] (defScope s_next_prime) := ⟨rfl, rfl, rfl, by decide +kernel, rfl, by decide +kernel, by decide +kernel⟩
abbrev d_next_prime : DefG := ⟨fun K => He.fAd K ("next_prime", none), "next_prime", "next_prime", defArgs s_next_prime, defBody s_next_prime, defScope s_next_prime, []⟩
abbrev s_kernel : Stmt := top 26
abbrev N_kernel : List Str := ["rows", "width", "scales", "matrix", "prime", "indexes", "columns", "vector"]
theorem sc_kernel : FnScope N_kernel ["rows", "width"] (defScope s_kernel) := ⟨rfl, rfl, rfl, by decide +kernel, rfl, by decide +kernel, by decide +kernel⟩
abbrev d_kernel : DefG := ⟨fun K => He.fAd K ("kernel", none), "kernel", "kernel", defArgs s_kernel, defBody s_kernel, defScope s_kernel, []⟩
abbrev s__law_is_whole : Stmt := top 49
abbrev N__law_is_whole : List Str := ["x"]
theorem sc__law_is_whole : FnScope N__law_is_whole ["x"] (defScope s__law_is_whole) := ⟨rfl, rfl, rfl, by decide +kernel, rfl, by decide +kernel, by decide +kernel⟩
abbrev d__law_is_whole : DefG := ⟨fun K => He.fAd K ("_law_is_whole", none), "_law_is_whole", "_law_is_whole", defArgs s__law_is_whole, defBody s__law_is_whole, defScope s__law_is_whole, []⟩
abbrev s__law_is_number : Stmt := top 50
abbrev N__law_is_number : List Str := ["x"]
theorem sc__law_is_number : FnScope N__law_is_number ["x"] (defScope s__law_is_number) := ⟨rfl, rfl, rfl, by decide +kernel, rfl, by decide +kernel, by decide +kernel⟩
abbrev d__law_is_number : DefG := ⟨fun K => He.fAd K ("_law_is_number", none), "_law_is_number", "_law_is_number", defArgs s__law_is_number, defBody s__law_is_number, defScope s__law_is_number, []⟩
abbrev s__law_read : Stmt := top 54
abbrev N__law_read : List Str := ["xs", "count", "x"]
theorem sc__law_read : FnScope N__law_read ["xs", "count"] (defScope s__law_read) := ⟨rfl, rfl, rfl, by decide +kernel, rfl, by decide +kernel, by decide +kernel⟩
abbrev d__law_read : DefG := ⟨fun K => He.fAd K ("_law_read", none), "_law_read", "_law_read", defArgs s__law_read, defBody s__law_read, defScope s__law_read, []⟩
abbrev s__law_plus : Stmt := top 44
abbrev N__law_plus : List Str := ["a", "b"]
theorem sc__law_plus : FnScope N__law_plus ["a", "b"] (defScope s__law_plus) := ⟨rfl, rfl, rfl, by decide +kernel, rfl, by decide +kernel, by decide +kernel⟩
abbrev d__law_plus : DefG := ⟨fun K => He.fAd K ("_law_plus", none), "_law_plus", "_law_plus", defArgs s__law_plus, defBody s__law_plus, defScope s__law_plus, []⟩
abbrev s__law_dot : Stmt := top 46
abbrev N__law_dot : List Str := ["xs", "ys", "total", "k"]
theorem sc__law_dot : FnScope N__law_dot ["xs", "ys"] (defScope s__law_dot) := ⟨rfl, rfl, rfl, by decide +kernel, rfl, by decide +kernel, by decide +kernel⟩
abbrev d__law_dot : DefG := ⟨fun K => He.fAd K ("_law_dot", none), "_law_dot", "_law_dot", defArgs s__law_dot, defBody s__law_dot, defScope s__law_dot, []⟩
abbrev s__law_is_vector_of : Stmt := top 55
abbrev N__law_is_vector_of : List Str := ["found", "rows", "nonzero", "pair", "row"]
theorem sc__law_is_vector_of : FnScope N__law_is_vector_of ["found", "rows"] (defScope s__law_is_vector_of) := ⟨rfl, rfl, rfl, by decide +kernel, rfl, by decide +kernel, by decide +kernel⟩
abbrev d__law_is_vector_of : DefG := ⟨fun K => He.fAd K ("_law_is_vector_of", none), "_law_is_vector_of", "_law_is_vector_of", defArgs s__law_is_vector_of, defBody s__law_is_vector_of, defScope s__law_is_vector_of, []⟩
abbrev s__law_is_inverse : Stmt := top 56
abbrev N__law_is_inverse : List Str := ["inverse", "rows", "width", "i", "found", "k", "entry", "row"]
theorem sc__law_is_inverse : FnScope N__law_is_inverse ["inverse", "rows", "width"] (defScope s__law_is_inverse) := ⟨rfl, rfl, rfl, by decide +kernel, rfl, by decide +kernel, by decide +kernel⟩
abbrev d__law_is_inverse : DefG := ⟨fun K => He.fAd K ("_law_is_inverse", none), "_law_is_inverse", "_law_is_inverse", defArgs s__law_is_inverse, defBody s__law_is_inverse, defScope s__law_is_inverse, []⟩
abbrev s__law_is : Stmt := top 51
abbrev N__law_is : List Str := ["x", "pair"]
theorem sc__law_is : FnScope N__law_is ["x", "pair"] (defScope s__law_is) := ⟨rfl, rfl, rfl, by decide +kernel, rfl, by decide +kernel, by decide +kernel⟩
abbrev d__law_is : DefG := ⟨fun K => He.fAd K ("_law_is", none), "_law_is", "_law_is", defArgs s__law_is, defBody s__law_is, defScope s__law_is, []⟩
abbrev s__law_is_vector : Stmt := top 52
abbrev N__law_is_vector : List Str := ["xs", "pairs", "k"]
theorem sc__law_is_vector : FnScope N__law_is_vector ["xs", "pairs"] (defScope s__law_is_vector) := ⟨rfl, rfl, rfl, by decide +kernel, rfl, by decide +kernel, by decide +kernel⟩
abbrev d__law_is_vector : DefG := ⟨fun K => He.fAd K ("_law_is_vector", none), "_law_is_vector", "_law_is_vector", defArgs s__law_is_vector, defBody s__law_is_vector, defScope s__law_is_vector, []⟩
abbrev s__law_is_matrix : Stmt := top 53
abbrev N__law_is_matrix : List Str := ["xs", "rows", "k"]
theorem sc__law_is_matrix : FnScope N__law_is_matrix ["xs", "rows"] (defScope s__law_is_matrix) := ⟨rfl, rfl, rfl, by decide +kernel, rfl, by decide +kernel, by decide +kernel⟩
abbrev d__law_is_matrix : DefG := ⟨fun K => He.fAd K ("_law_is_matrix", none), "_law_is_matrix", "_law_is_matrix", defArgs s__law_is_matrix, defBody s__law_is_matrix, defScope s__law_is_matrix, []⟩
abbrev s_law : Stmt := top 58
abbrev N_law : List Str := ["script", "sizes", "width", "style", "plant", "rows", "pairs", "handed", "turn", "actual", "found", "row", "d", "k"]
theorem sc_law : FnScope N_law ["script"] (defScope s_law) := ⟨rfl, rfl, rfl, by decide +kernel, rfl, by decide +kernel, by decide +kernel⟩
abbrev d_law : DefG := ⟨fun K => He.fAd K ("law", none), "law", "law", defArgs s_law, defBody s_law, defScope s_law, []⟩
/-! ### the head -/
abbrev DN__law_cell : Nat := 0
abbrev DN__law_digits : Nat := 1
abbrev DN__law_size : Nat := 2
abbrev DN__law_pair : Nat := 3
abbrev DN__law_pairs : Nat := 4
abbrev DN__law_times : Nat := 5
abbrev DN__law_planted : Nat := 6
abbrev DN_Fraction___init__ : Nat := 7
abbrev DN__law_vector : Nat := 8
abbrev DN__law_matrix : Nat := 9
abbrev DN_common_den : Nat := 10
abbrev DN__whole_rows : Nat := 11
abbrev DN__first_unit : Nat := 12
abbrev DN_inverse_modulo : Nat := 13
abbrev DN_inverse_of_unit : Nat := 14
abbrev DN__divided : Nat := 15
abbrev DN__cleared : Nat := 16
abbrev DN_pivots_modulo : Nat := 17
abbrev DN_height : Nat := 18
abbrev DN_power_of : Nat := 19
abbrev DN_inverse_matrix : Nat := 20
abbrev DN_inner : Nat := 21
abbrev DN__nearest_zero : Nat := 22
abbrev DN__first_steps : Nat := 23
abbrev DN__denominator : Nat := 24
abbrev DN_common_fractions : Nat := 25
abbrev DN__solves : Nat := 26
abbrev DN__lifted_solution : Nat := 27
abbrev DN_solved : Nat := 28
abbrev DN__spread : Nat := 29
abbrev DN__inverse : Nat := 30
abbrev DN_first_gap : Nat := 31
abbrev DN__kernel_vector : Nat := 32
abbrev DN__is_prime : Nat := 33
abbrev DN_next_prime : Nat := 34
abbrev DN_kernel : Nat := 35
abbrev DN__law_is_whole : Nat := 36
abbrev DN__law_is_number : Nat := 37
abbrev DN__law_read : Nat := 38
abbrev DN__law_plus : Nat := 39
abbrev DN__law_dot : Nat := 40
abbrev DN__law_is_vector_of : Nat := 41
abbrev DN__law_is_inverse : Nat := 42
abbrev DN__law_is : Nat := 43
abbrev DN__law_is_vector : Nat := 44
abbrev DN__law_is_matrix : Nat := 45
abbrev DN_law : Nat := 46
def fnL : List DefG := [d__law_cell, d__law_digits, d__law_size, d__law_pair, d__law_pairs, d__law_times, d__law_planted, d_Fraction___init__, d__law_vector, d__law_matrix, d_common_den, d__whole_rows, d__first_unit, d_inverse_modulo, d_inverse_of_unit, d__divided, d__cleared, d_pivots_modulo, d_height, d_power_of, d_inverse_matrix, d_inner, d__nearest_zero, d__first_steps, d__denominator, d_common_fractions, d__solves, d__lifted_solution, d_solved, d__spread, d__inverse, d_first_gap, d__kernel_vector, d__is_prime, d_next_prime, d_kernel, d__law_is_whole, d__law_is_number, d__law_read, d__law_plus, d__law_dot, d__law_is_vector_of, d__law_is_inverse, d__law_is, d__law_is_vector, d__law_is_matrix, d_law]
def faL : List He.Fa := [.cls "Fraction", .int "CHUNK" 500, .glo "DivisionByZero", .glo "Fraction", .int "PRIME" 2147483647, .glo "_cleared", .glo "_denominator", .glo "_divided", .glo "_first_steps", .glo "_first_unit", .glo "_inverse", .glo "_is_prime", .glo "_kernel_vector", .glo "_law_cell", .glo "_law_digits", .glo "_law_dot", .glo "_law_is", .glo "_law_is_inverse", .glo "_law_is_matrix", .glo "_law_is_number", .glo "_law_is_vector", .glo "_law_is_vector_of", .glo "_law_is_whole", .glo "_law_matrix", .glo "_law_pair", .glo "_law_pairs", .glo "_law_planted", .glo "_law_plus", .glo "_law_read", .glo "_law_size", .glo "_law_times", .glo "_law_vector", .glo "_lifted_solution", .glo "_nearest_zero", .glo "_solves", .glo "_spread", .glo "_whole_rows", .glo "common_den", .glo "common_fractions", .glo "first_gap", .glo "height", .glo "inner", .glo "inverse_matrix", .glo "inverse_modulo", .glo "inverse_of_unit", .glo "kernel", .glo "law", .glo "next_prime", .glo "pivots_modulo", .glo "power_of", .glo "solved", .exc "DivisionByZero", .mkr "Fraction", .noat "Fraction" "den", .noat "Fraction" "num", .free "abs", .free "bool", .free "enumerate", .free "int", .free "isinstance", .free "len", .free "list", .free "max", .free "range", .free "sum", .free "tuple", .free "zip"]
def exL (K : PySem.W.Frag) : List Bool := [He.eqO (PySem.W.nsIn K mainGlobals "gcd") (some (some (.builtin "math.gcd"))),
  He.eqO (PySem.W.nsIn K mainGlobals "isqrt") (some (some (.builtin "math.isqrt"))),
  He.eqO (PySem.W.nsIn K mainGlobals "lcm") (some (some (.builtin "math.lcm"))),
  He.eqO (PySem.W.findIn K (.ref (He.ga K "Fraction")) "__class__") (some (some (.builtin "object.__class__"))),
  He.eqO (PySem.W.specialIn K (.builtin "object.__class__") "__get__") (some (some (.builtin "getset_descriptor.__get__"))),
  decide (PySem.W.takesIn K (.builtin "object.__class__") = some true),
  decide (PySem.W.mroIn K (He.ga K "Fraction") (.type "object") = some true)]
abbrev R : PySem.W.OpenRow := PySem.W.OpenLaw.row PySem.Challenge.rw_certsums_k25_kernel
def hookL (as : List Addr) (fa : List He.Fa) (fn : List DefG) (ex : PySem.W.Frag → List Bool) : PySem.W.Hook where
  α := AlG
  obs := fun s => obsG fa fn ex (He.frG s.heap.get? as)
  val := fun _ => valG fn
  says := fun _ h => ∃ K : PySem.W.Frag, K.In h ∧ SaysG fa fn ex K
  of := fun _ _ e => ⟨_, He.frG_in, e⟩
  keeps := fun _ _ _ ⟨K, hK, c⟩ k => ⟨K, PySem.W.Frag.In.keeps hK k, c⟩
def asL : List Addr := [6, 0, 1, 2, 3, 4, 5, 7, 8, 9, 10, 11, 12, 13, 14, 15, 16, 17, 18, 19, 20, 21, 22, 23, 24, 25, 26, 27, 28, 29, 30, 31, 32, 33, 34, 35, 36, 37, 38, 39, 40, 41, 42, 43, 44, 45, 46, 47, 48, 49, 50, 51, 52, 53, 54, 55, 56, 57, 58, 59, 60, 61, 62, 63, 64, 65, 66, 67, 68, 69, 70, 71, 72, 73, 74, 75, 76, 77, 78, 79, 80, 81, 82, 83, 84, 85, 86, 87, 88, 89, 90, 91, 92, 93, 94, 95, 96, 97, 98, 99, 100, 101, 102, 103, 104, 105, 106, 107, 108, 109, 110, 111, 112, 113, 114, 115, 116, 117, 118, 119, 120, 121, 122, 123, 124, 125, 126, 127, 128, 129, 130, 131, 132, 133, 134, 135, 136, 137, 138, 139, 140, 141, 142, 143, 144, 145, 146, 147, 148, 149, 150, 151, 152, 153, 154, 155, 156, 157, 158, 159, 160, 161, 162, 163, 164, 165, 166, 167, 168, 169, 170, 171, 172, 173, 174, 175, 176, 177, 178, 179, 180, 181, 182, 183, 184, 185, 186, 187, 188, 189, 190, 191, 192, 193, 194, 195, 196, 197, 198, 199, 200, 201, 202, 203, 204, 205, 206, 207, 208, 209, 210, 211, 212, 213, 214, 215, 216, 217, 218, 219, 220, 221, 222, 223, 224, 225, 226, 227, 228, 229, 230, 231, 232, 233, 234, 235, 236, 237, 238, 239, 240, 241, 242, 243, 244, 245, 246, 247, 248, 249, 250, 251, 252, 253, 254, 255, 256, 257, 258, 259, 260, 261, 262, 263, 264, 265, 266, 267, 268, 269, 270, 271, 272, 273, 274, 275, 276, 277, 278, 279, 280, 281, 282, 283, 284, 285, 286, 287, 288, 289, 290, 291, 292, 293, 294, 295, 296, 297, 298, 299, 300, 301, 302, 303, 304, 305, 306, 307, 308, 309, 310, 311, 312, 313, 314, 315, 316, 317, 318, 319, 320, 321, 322, 323, 324, 325, 326, 327, 328, 329, 330, 331, 332, 333, 334, 335, 336, 337, 338, 339, 340, 341, 342, 343, 344, 345, 346, 347, 348, 349, 350, 351, 352, 353, 354, 355, 356, 357, 358, 359, 360, 361, 362, 363, 364, 365, 366, 367, 368, 369, 370, 371, 372, 373, 374, 375, 376, 377, 378, 379, 380, 381, 382, 383, 384, 385, 386, 387, 388, 389, 390, 391, 392, 393, 394, 395, 396, 397, 398, 399, 400, 401, 402, 403, 404, 405, 406, 407, 408, 409, 410, 411, 412, 413, 414, 415, 416, 417, 418, 419, 420, 421, 422, 423, 424, 425, 426, 427, 428, 429, 430, 431, 432, 433, 434, 435, 436, 437, 438, 439, 440, 441, 442, 443, 444, 445, 446, 447, 448, 449, 450, 451, 452, 453, 454, 455, 456, 457, 458, 459, 460, 461, 462, 463, 464, 465, 466, 467, 468, 469, 470, 471, 472, 473, 474, 475, 476, 477, 478, 479, 480, 481, 482, 483, 484, 485, 486, 487, 488, 489, 490, 491, 492, 493, 494, 495, 496, 497, 498, 499, 500, 501, 502, 503, 504, 505, 506, 507, 508, 509, 510, 511, 512, 513, 514, 515, 516, 517, 518, 519, 520, 521, 522, 523, 524, 525, 526, 527, 528, 529, 530, 531, 532, 533, 534, 535, 536, 537, 538, 539, 540, 541, 542, 543, 544, 545, 546, 547, 548, 549, 550, 551, 552, 553, 554, 555, 556, 557, 558, 559, 560, 561, 562, 563, 564, 565, 566, 567, 568, 569, 570, 571, 572, 573, 574, 575, 576, 577, 578, 579, 580, 581, 582, 583, 584, 585, 586, 587, 588, 589, 590, 591, 592, 593, 594, 595, 596, 597, 598, 599, 600, 601, 602, 603, 604, 605, 606, 607, 608, 609, 610, 611, 612, 613, 614, 615, 616, 617, 618, 619, 620, 621, 622, 623, 624, 625, 626, 627, 628, 629, 630, 631, 632, 633, 634, 635, 636, 637, 638, 639, 640, 641, 642, 643, 644, 645, 646, 647, 648, 649, 650, 651, 652, 653, 654, 655, 656, 657, 658, 659, 660, 661, 662, 663, 664, 665, 666, 667, 668, 669, 670, 671, 672, 673, 674, 675, 676, 677, 678, 679, 680, 681, 682, 683, 684, 685, 686, 687, 688, 689, 690, 691, 692, 693, 694, 695, 696, 697, 698, 699, 700, 701, 702, 703, 704, 705, 706, 707, 708, 709, 710, 711, 712, 713, 714, 715, 716, 717, 718, 719, 720, 721, 722, 723, 724, 725, 726, 727, 728, 729, 730, 731, 732, 733, 734, 735, 736, 737, 738, 739, 740, 741, 742, 743, 744, 745, 746, 747, 748, 749, 750, 751, 752, 753, 754, 755, 756, 757, 758, 759, 760, 761, 762, 763, 764, 765, 766, 767, 768, 769, 770, 771, 772, 773, 774, 775, 776, 777, 778, 779, 780, 781, 782, 783, 784, 785, 786, 787, 788, 789, 790, 791, 792, 793, 794, 795, 796, 797, 798, 799, 800, 801, 802, 803, 804, 805, 806, 807, 808, 809, 810, 811, 812, 813, 814, 815, 816, 817, 818, 819, 820, 821, 822, 823, 824, 825, 826, 827, 828, 829, 830, 831, 832, 833, 834, 835, 836, 837, 838, 839, 840, 841, 842, 843, 844, 845, 846, 847, 848, 849, 850, 851, 852, 853, 854, 855, 856, 857, 858, 859, 860, 861, 862, 863, 864, 865, 866, 867, 868, 869, 870, 871, 872, 873, 874, 875, 876, 877, 878, 879, 880, 881, 882, 883, 884, 885, 886, 887, 888, 889, 890, 891, 892, 893, 894, 895, 896, 897, 898, 899, 900, 901, 902, 903, 904, 905, 906, 907, 908, 909, 910, 911, 912, 913, 914, 915, 916, 917, 918, 919, 920, 921, 922, 923, 924, 925, 926, 927, 928, 929, 930, 931, 932, 933, 934, 935, 936, 937, 938, 939, 940, 941, 942, 943, 944, 945, 946, 947, 948, 949, 950, 951, 952, 953, 954, 955, 956, 957, 958, 959, 960, 961, 962, 963, 964, 965, 966, 967, 968, 969, 970, 971, 972, 973, 974, 975, 976, 977, 978, 979, 980, 981, 982, 983, 984, 985, 986, 987, 988, 989, 990, 991, 992, 993, 994, 995, 996, 997, 998, 999, 1000, 1001, 1002, 1003, 1004, 1005, 1006, 1007, 1008, 1009, 1010, 1011, 1012, 1013, 1014, 1015, 1016, 1017, 1018, 1019, 1020, 1021, 1022, 1023, 1024, 1025, 1026, 1027, 1028, 1029, 1030, 1031, 1032, 1033, 1034, 1035, 1036, 1037, 1038, 1039, 1040, 1041, 1042, 1043, 1044, 1045, 1046, 1047, 1048, 1049, 1050, 1051, 1052, 1053, 1054, 1055, 1056, 1057, 1058, 1059, 1060, 1061, 1062, 1063, 1064, 1065, 1066, 1067, 1068, 1069, 1070, 1071, 1072, 1073, 1074, 1075, 1076, 1077, 1078, 1079, 1080, 1081, 1082, 1083, 1084, 1085, 1086, 1087, 1088, 1089, 1090, 1091, 1092, 1093, 1094, 1095, 1096, 1097, 1098, 1099, 1100, 1101, 1102, 1103, 1104, 1105, 1106, 1107, 1108, 1109, 1110, 1111, 1112, 1113, 1114, 1115, 1116, 1117, 1118, 1119, 1120, 1121, 1122, 1123, 1124, 1125, 1126, 1127, 1128, 1129, 1130, 1131, 1132, 1133, 1134, 1135, 1136, 1137, 1138, 1139, 1140, 1141, 1142, 1143, 1144, 1145, 1146, 1147, 1148, 1149, 1150, 1151, 1152, 1153, 1154, 1155, 1156, 1157, 1158, 1159, 1160, 1161, 1162, 1163, 1164, 1165, 1166, 1167, 1168, 1169, 1170, 1171, 1172, 1173, 1174, 1175, 1176, 1177, 1178, 1179, 1180, 1181, 1182, 1183, 1184, 1185, 1186, 1187, 1188, 1189, 1190, 1191, 1192, 1193, 1194, 1195, 1196, 1197, 1198, 1199, 1200, 1201, 1202, 1203, 1204, 1205, 1206, 1207, 1208, 1209, 1210, 1211, 1212, 1213, 1214, 1215, 1216, 1217, 1218, 1219, 1220, 1221, 1222, 1223, 1224, 1225, 1226, 1227, 1228, 1229, 1230, 1231, 1232, 1233, 1234, 1235, 1236, 1237, 1238, 1239, 1240, 1241, 1242, 1243, 1244, 1245, 1246, 1247, 1248, 1249, 1250, 1251, 1252, 1253, 1254, 1255, 1256, 1257, 1258, 1259, 1260, 1261, 1262, 1263, 1264, 1265, 1266, 1267, 1268, 1269, 1270, 1271, 1272, 1273, 1274, 1275, 1276, 1277, 1278, 1279, 1280, 1281, 1282, 1283, 1284, 1285, 1286, 1287, 1288, 1289, 1290, 1291, 1292, 1293, 1294, 1295, 1296, 1297, 1298, 1299, 1300, 1301, 1302, 1303, 1304, 1305, 1306, 1307, 1308, 1309, 1310, 1311, 1312, 1313, 1314, 1315, 1316, 1317, 1318, 1319, 1320, 1321, 1322, 1323, 1324, 1325, 1326, 1327, 1328, 1329, 1330, 1331, 1332, 1333, 1334, 1335, 1336, 1337, 1338, 1339, 1340, 1341, 1342, 1343, 1344, 1345, 1346, 1347, 1348, 1349, 1350, 1351, 1352, 1353, 1354, 1355, 1356, 1357, 1358, 1359, 1360, 1361, 1362, 1363, 1364, 1365, 1366, 1367, 1368, 1369, 1370, 1371, 1372, 1373, 1374, 1375, 1376, 1377, 1378, 1379, 1380, 1381, 1382, 1383, 1384, 1385, 1386, 1387, 1388, 1389, 1390, 1391, 1392, 1393, 1394, 1395, 1396, 1397, 1398, 1399, 1400, 1401, 1402, 1403, 1404, 1405, 1406, 1407, 1408, 1409, 1410, 1411, 1412, 1413, 1414, 1415, 1416, 1417, 1418, 1419, 1420, 1421, 1422, 1423, 1424, 1425, 1426, 1427, 1428, 1429, 1430, 1431, 1432, 1433, 1434, 1435, 1436, 1437, 1438, 1439, 1440, 1441, 1442, 1443, 1444, 1445, 1446, 1447, 1448, 1449, 1450, 1451, 1452, 1453, 1454, 1455, 1456, 1457, 1458, 1459, 1460, 1461, 1462, 1463, 1464, 1465, 1466, 1467, 1468, 1469, 1470, 1471, 1472, 1473, 1474, 1475, 1476, 1477, 1478, 1479, 1480, 1481, 1482, 1483, 1484, 1485, 1486, 1487, 1488, 1489, 1490, 1491, 1492, 1493, 1494, 1495, 1496, 1497, 1498, 1499, 1500, 1501, 1502, 1503, 1504, 1505, 1506, 1507, 1508, 1509, 1510, 1511, 1512, 1513, 1514, 1515, 1516, 1517, 1518, 1519, 1520, 1521, 1522, 1523, 1524, 1525, 1526, 1527, 1528, 1529, 1530, 1531, 1532, 1533, 1534, 1535, 1536, 1537, 1538, 1539, 1540, 1541, 1542, 1543, 1544, 1545, 1546, 1547, 1548, 1549, 1550, 1551, 1552, 1553, 1554, 1555, 1556, 1557, 1558, 1559, 1560, 1561, 1562, 1563, 1564, 1565, 1566, 1567, 1568, 1569, 1570, 1571, 1572, 1573, 1574, 1575, 1576, 1577, 1578, 1579, 1580, 1581, 1582, 1583, 1584, 1585, 1586, 1587, 1588, 1589, 1590, 1591, 1592, 1593, 1594, 1595, 1596, 1597, 1598, 1599]
abbrev hk : PySem.W.Hook := hookL asL faL fnL exL
def ob (s : PySem.W.SharedT) : AlG := obsG faL fnL exL (He.frG (HandSHeadRun.getT s) asL)
theorem ob_eq (s : PySem.W.SharedT) : ob s = hk.obs s.abs := by
  have e : HandSHeadRun.getT s = s.abs.heap.get? := funext (HandSHeadRun.getT_eq s)
  show obsG faL fnL exL (He.frG (HandSHeadRun.getT s) asL) = obsG faL fnL exL (He.frG s.abs.heap.get? asL)
  rw [e]
def names : List Str := (["_wall", "SummationError", "DivisionByZero", "CHUNK", "power_of", "inverse_modulo", "inverse_of_unit", "next_prime", "_is_prime", "inner", "common_fractions", "_nearest_zero", "_denominator", "_first_steps", "common_den", "height", "Fraction", "_in_lowest_terms", "PRIME", "_whole_rows", "_spread", "kernel", "first_gap", "_kernel_vector", "_inverse", "pivots_modulo", "_first_unit", "_divided", "_cleared", "inverse_matrix"] : List Str) ++ (["solved", "_lifted_solution", "_solves", "_law_cell", "_law_digits", "_law_size", "_law_pair", "_law_pairs", "_law_plus", "_law_times", "_law_dot", "_law_vector", "_law_matrix", "_law_is_whole", "_law_is_number", "_law_is", "_law_is_vector", "_law_is_matrix", "_law_read", "_law_is_vector_of", "_law_is_inverse", "_law_planted"] : List Str)
abbrev vw : Program := PySem.W.view R.prog [0, 58]
theorem map3 {α β γ δ : Type} {o : Option α} {f : α → β} {g : α → γ} {h : α → δ} {a : β} {b : γ} {c : δ} (h1 : o.map f = some a) (h2 : o.map g = some b) (h3 : o.map h = some c) : o.map (fun x => (f x, g x, h x)) = some (a, b, c) := by
  cases o with
  | none => cases h1
  | some x =>
    have e1 : f x = a := Option.some.inj h1
    have e2 : g x = b := Option.some.inj h2
    have e3 : h x = c := Option.some.inj h3
    show some (f x, g x, h x) = _
    rw [e1, e2, e3]
set_option maxHeartbeats 0 in
theorem run1 (w : World) : (HandSHeadRun.wholeF (fun p => HandSHeadRun.stepQ (HandSHeadRun.denQ HandSHeadRun.tabQ) p w) HandSHeadRun.fenceQ 20000 R.prog).map (fun x => HandSHeadRun.looksF R.prog x.1.heap x.2.abs) = some true := by
  kernel_rfl
set_option maxHeartbeats 0 in
theorem run2 (w : World) : (HandSHeadRun.wholeF (fun p => HandSHeadRun.stepQ (HandSHeadRun.denQ HandSHeadRun.tabQ) p w) HandSHeadRun.fenceQ 20000 R.prog).map (fun x => HandSHeadRun.seenQ vw names (importedModules R.prog.main.body) (fun s => PySem.W.xlAt vw [] s && PySem.W.recOk R.toRowW.records s) x.2.abs) = some (PySem.W.openGood vw names) := by
  kernel_rfl
def obA (s : PySem.W.SharedT) : Bool := faL.all fun f => f.ok (He.frG (HandSHeadRun.getT s) asL)
def obB0 (s : PySem.W.SharedT) : Bool := ((fnL.drop 0).take 15).all fun d => d.ok (He.frG (HandSHeadRun.getT s) asL)
def obD0 (s : PySem.W.SharedT) : List FnW := ((fnL.drop 0).take 15).map fun d => fnG (He.frG (HandSHeadRun.getT s) asL) (d.at_ (He.frG (HandSHeadRun.getT s) asL))
def obB1 (s : PySem.W.SharedT) : Bool := ((fnL.drop 15).take 16).all fun d => d.ok (He.frG (HandSHeadRun.getT s) asL)
def obD1 (s : PySem.W.SharedT) : List FnW := ((fnL.drop 15).take 16).map fun d => fnG (He.frG (HandSHeadRun.getT s) asL) (d.at_ (He.frG (HandSHeadRun.getT s) asL))
def obB2 (s : PySem.W.SharedT) : Bool := ((fnL.drop 31).take 16).all fun d => d.ok (He.frG (HandSHeadRun.getT s) asL)
def obD2 (s : PySem.W.SharedT) : List FnW := ((fnL.drop 31).take 16).map fun d => fnG (He.frG (HandSHeadRun.getT s) asL) (d.at_ (He.frG (HandSHeadRun.getT s) asL))
def obX (s : PySem.W.SharedT) : Bool := (exL (He.frG (HandSHeadRun.getT s) asL)).all id
theorem fnL_cut : fnL = ((fnL.drop 0).take 15) ++ (((fnL.drop 15).take 16) ++ ((fnL.drop 31).take 16)) := rfl
theorem ob_parts (s : PySem.W.SharedT) : ob s = (obA s && ((obB0 s && (obB1 s && (obB2 s))) && obX s), obD0 s ++ (obD1 s ++ obD2 s)) := by
  show ((faL.all fun f => f.ok (He.frG (HandSHeadRun.getT s) asL)) && ((fnL.all fun d => d.ok (He.frG (HandSHeadRun.getT s) asL)) && (exL (He.frG (HandSHeadRun.getT s) asL)).all id), fnL.map fun d => fnG (He.frG (HandSHeadRun.getT s) asL) (d.at_ (He.frG (HandSHeadRun.getT s) asL))) = _
  rw [fnL_cut, List.all_append, List.all_append, List.map_append, List.map_append]
  rfl
set_option maxHeartbeats 0 in
theorem run3A (w : World) : (HandSHeadRun.wholeF (fun p => HandSHeadRun.stepQ (HandSHeadRun.denQ HandSHeadRun.tabQ) p w) HandSHeadRun.fenceQ 20000 R.prog).map (fun x => obA x.2) = some (true) := by
  kernel_rfl
set_option maxHeartbeats 0 in
theorem run3B0 (w : World) : (HandSHeadRun.wholeF (fun p => HandSHeadRun.stepQ (HandSHeadRun.denQ HandSHeadRun.tabQ) p w) HandSHeadRun.fenceQ 20000 R.prog).map (fun x => obB0 x.2) = some (true) := by
  kernel_rfl
set_option maxHeartbeats 0 in
theorem run3B1 (w : World) : (HandSHeadRun.wholeF (fun p => HandSHeadRun.stepQ (HandSHeadRun.denQ HandSHeadRun.tabQ) p w) HandSHeadRun.fenceQ 20000 R.prog).map (fun x => obB1 x.2) = some (true) := by
  kernel_rfl
set_option maxHeartbeats 0 in
theorem run3B2 (w : World) : (HandSHeadRun.wholeF (fun p => HandSHeadRun.stepQ (HandSHeadRun.denQ HandSHeadRun.tabQ) p w) HandSHeadRun.fenceQ 20000 R.prog).map (fun x => obB2 x.2) = some (true) := by
  kernel_rfl
set_option maxHeartbeats 0 in
theorem run3X (w : World) : (HandSHeadRun.wholeF (fun p => HandSHeadRun.stepQ (HandSHeadRun.denQ HandSHeadRun.tabQ) p w) HandSHeadRun.fenceQ 20000 R.prog).map (fun x => obX x.2) = some (true) := by
  kernel_rfl
set_option maxHeartbeats 0 in
theorem run3D0 (w : World) : (HandSHeadRun.wholeF (fun p => HandSHeadRun.stepQ (HandSHeadRun.denQ HandSHeadRun.tabQ) p w) HandSHeadRun.fenceQ 20000 R.prog).map (fun x => obD0 x.2) = some (((fnL.drop 0).take 15).map DefG.val) := by
  kernel_rfl
set_option maxHeartbeats 0 in
theorem run3D1 (w : World) : (HandSHeadRun.wholeF (fun p => HandSHeadRun.stepQ (HandSHeadRun.denQ HandSHeadRun.tabQ) p w) HandSHeadRun.fenceQ 20000 R.prog).map (fun x => obD1 x.2) = some (((fnL.drop 15).take 16).map DefG.val) := by
  kernel_rfl
set_option maxHeartbeats 0 in
theorem run3D2 (w : World) : (HandSHeadRun.wholeF (fun p => HandSHeadRun.stepQ (HandSHeadRun.denQ HandSHeadRun.tabQ) p w) HandSHeadRun.fenceQ 20000 R.prog).map (fun x => obD2 x.2) = some (((fnL.drop 31).take 16).map DefG.val) := by
  kernel_rfl
theorem map4 {α : Type} {o : Option α} {f : α → PySem.W.SharedT} (hA : o.map (fun x => obA (f x)) = some (true)) (hB0 : o.map (fun x => obB0 (f x)) = some (true)) (hB1 : o.map (fun x => obB1 (f x)) = some (true)) (hB2 : o.map (fun x => obB2 (f x)) = some (true)) (hX : o.map (fun x => obX (f x)) = some (true)) (hD0 : o.map (fun x => obD0 (f x)) = some (((fnL.drop 0).take 15).map DefG.val)) (hD1 : o.map (fun x => obD1 (f x)) = some (((fnL.drop 15).take 16).map DefG.val)) (hD2 : o.map (fun x => obD2 (f x)) = some (((fnL.drop 31).take 16).map DefG.val)) : o.map (fun x => ob (f x)) = some (true, fnL.map DefG.val) := by
  cases o with
  | none => cases hA
  | some x =>
    have eA : obA (f x) = true := Option.some.inj hA
    have eB0 : obB0 (f x) = true := Option.some.inj hB0
    have eB1 : obB1 (f x) = true := Option.some.inj hB1
    have eB2 : obB2 (f x) = true := Option.some.inj hB2
    have eX : obX (f x) = true := Option.some.inj hX
    have eD0 : obD0 (f x) = ((fnL.drop 0).take 15).map DefG.val := Option.some.inj hD0
    have eD1 : obD1 (f x) = ((fnL.drop 15).take 16).map DefG.val := Option.some.inj hD1
    have eD2 : obD2 (f x) = ((fnL.drop 31).take 16).map DefG.val := Option.some.inj hD2
    show some (ob (f x)) = _
    rw [ob_parts, eA, eB0, eB1, eB2, eX, eD0, eD1, eD2]
    rfl
set_option maxHeartbeats 0 in
theorem run (w : World) : HandSHeadRun.RunEqI R vw hk ob 20000 names w := by
  have h1 := run1 w
  have h2 := run2 w
  have rA := run3A w
  have rB0 := run3B0 w
  have rB1 := run3B1 w
  have rB2 := run3B2 w
  have rX := run3X w
  have rD0 := run3D0 w
  have rD1 := run3D1 w
  have rD2 := run3D2 w
  unfold HandSHeadRun.RunEqI
  generalize (HandSHeadRun.wholeF (fun p => HandSHeadRun.stepQ (HandSHeadRun.denQ HandSHeadRun.tabQ) p w) HandSHeadRun.fenceQ 20000 R.prog) = o at h1 h2 rA rB0 rB1 rB2 rX rD0 rD1 rD2 ⊢
  exact map3 h1 h2 (map4 rA rB0 rB1 rB2 rX rD0 rD1 rD2)
set_option maxHeartbeats 0 in
theorem head0 (hc : PySem.W.WalkO vw names (PySem.W.XL vw []) hk.says R.toRowW (HandSHeadRun.topDef R.prog 58) [] (fun f vs => PySem.call f vs)) : PySem.Challenge.rw_certsums_k25_kernel.Holds := by
  w_on; o_law
  refine HandSHeadRun.head_imp (r := CB.R) (q := vw) (H := CB.hk) (ob := CB.ob) (M := 20000) (loose := CB.names) (d := HandSHeadRun.topDef CB.R.prog 58) (kwd := []) CB.ob_eq
    CB.run (by kernel_rfl) (by kernel_rfl) (by kernel_rfl) (by rfl) (by first | assumption | decide +kernel) (by decide +kernel) ⟨rfl, rfl, rfl, rfl, rfl, by decide +kernel⟩ ?hw hc
  case hw => w_witness2
/-- what the written part says of this text -/
structure Tx (K : PySem.W.Frag) (mg : Str → Option Value) : Prop where
  cls_Fraction : Cls K (He.ga K "Fraction")
  d_Fraction___init__ : Dn K d_Fraction___init__
  d__cleared : Dn K d__cleared
  d__denominator : Dn K d__denominator
  d__divided : Dn K d__divided
  d__first_steps : Dn K d__first_steps
  d__first_unit : Dn K d__first_unit
  d__inverse : Dn K d__inverse
  d__is_prime : Dn K d__is_prime
  d__kernel_vector : Dn K d__kernel_vector
  d__law_cell : Dn K d__law_cell
  d__law_digits : Dn K d__law_digits
  d__law_dot : Dn K d__law_dot
  d__law_is : Dn K d__law_is
  d__law_is_inverse : Dn K d__law_is_inverse
  d__law_is_matrix : Dn K d__law_is_matrix
  d__law_is_number : Dn K d__law_is_number
  d__law_is_vector : Dn K d__law_is_vector
  d__law_is_vector_of : Dn K d__law_is_vector_of
  d__law_is_whole : Dn K d__law_is_whole
  d__law_matrix : Dn K d__law_matrix
  d__law_pair : Dn K d__law_pair
  d__law_pairs : Dn K d__law_pairs
  d__law_planted : Dn K d__law_planted
  d__law_plus : Dn K d__law_plus
  d__law_read : Dn K d__law_read
  d__law_size : Dn K d__law_size
  d__law_times : Dn K d__law_times
  d__law_vector : Dn K d__law_vector
  d__lifted_solution : Dn K d__lifted_solution
  d__nearest_zero : Dn K d__nearest_zero
  d__solves : Dn K d__solves
  d__spread : Dn K d__spread
  d__whole_rows : Dn K d__whole_rows
  d_common_den : Dn K d_common_den
  d_common_fractions : Dn K d_common_fractions
  d_first_gap : Dn K d_first_gap
  d_height : Dn K d_height
  d_inner : Dn K d_inner
  d_inverse_matrix : Dn K d_inverse_matrix
  d_inverse_modulo : Dn K d_inverse_modulo
  d_inverse_of_unit : Dn K d_inverse_of_unit
  d_kernel : Dn K d_kernel
  d_law : Dn K d_law
  d_next_prime : Dn K d_next_prime
  d_pivots_modulo : Dn K d_pivots_modulo
  d_power_of : Dn K d_power_of
  d_solved : Dn K d_solved
  g_CHUNK : ∃ t, mg "CHUNK" = some (.int 500 t)
  g_DivisionByZero : mg "DivisionByZero" = some (.ref (He.ga K "DivisionByZero"))
  g_Fraction : mg "Fraction" = some (.ref (He.ga K "Fraction"))
  g_PRIME : ∃ t, mg "PRIME" = some (.int 2147483647 t)
  g__cleared : mg "_cleared" = some (.ref (He.fAd K ("_cleared", none)))
  g__denominator : mg "_denominator" = some (.ref (He.fAd K ("_denominator", none)))
  g__divided : mg "_divided" = some (.ref (He.fAd K ("_divided", none)))
  g__first_steps : mg "_first_steps" = some (.ref (He.fAd K ("_first_steps", none)))
  g__first_unit : mg "_first_unit" = some (.ref (He.fAd K ("_first_unit", none)))
  g__inverse : mg "_inverse" = some (.ref (He.fAd K ("_inverse", none)))
  g__is_prime : mg "_is_prime" = some (.ref (He.fAd K ("_is_prime", none)))
  g__kernel_vector : mg "_kernel_vector" = some (.ref (He.fAd K ("_kernel_vector", none)))
  g__law_cell : mg "_law_cell" = some (.ref (He.fAd K ("_law_cell", none)))
  g__law_digits : mg "_law_digits" = some (.ref (He.fAd K ("_law_digits", none)))
  g__law_dot : mg "_law_dot" = some (.ref (He.fAd K ("_law_dot", none)))
  g__law_is : mg "_law_is" = some (.ref (He.fAd K ("_law_is", none)))
  g__law_is_inverse : mg "_law_is_inverse" = some (.ref (He.fAd K ("_law_is_inverse", none)))
  g__law_is_matrix : mg "_law_is_matrix" = some (.ref (He.fAd K ("_law_is_matrix", none)))
  g__law_is_number : mg "_law_is_number" = some (.ref (He.fAd K ("_law_is_number", none)))
  g__law_is_vector : mg "_law_is_vector" = some (.ref (He.fAd K ("_law_is_vector", none)))
  g__law_is_vector_of : mg "_law_is_vector_of" = some (.ref (He.fAd K ("_law_is_vector_of", none)))
  g__law_is_whole : mg "_law_is_whole" = some (.ref (He.fAd K ("_law_is_whole", none)))
  g__law_matrix : mg "_law_matrix" = some (.ref (He.fAd K ("_law_matrix", none)))
  g__law_pair : mg "_law_pair" = some (.ref (He.fAd K ("_law_pair", none)))
  g__law_pairs : mg "_law_pairs" = some (.ref (He.fAd K ("_law_pairs", none)))
  g__law_planted : mg "_law_planted" = some (.ref (He.fAd K ("_law_planted", none)))
  g__law_plus : mg "_law_plus" = some (.ref (He.fAd K ("_law_plus", none)))
  g__law_read : mg "_law_read" = some (.ref (He.fAd K ("_law_read", none)))
  g__law_size : mg "_law_size" = some (.ref (He.fAd K ("_law_size", none)))
  g__law_times : mg "_law_times" = some (.ref (He.fAd K ("_law_times", none)))
  g__law_vector : mg "_law_vector" = some (.ref (He.fAd K ("_law_vector", none)))
  g__lifted_solution : mg "_lifted_solution" = some (.ref (He.fAd K ("_lifted_solution", none)))
  g__nearest_zero : mg "_nearest_zero" = some (.ref (He.fAd K ("_nearest_zero", none)))
  g__solves : mg "_solves" = some (.ref (He.fAd K ("_solves", none)))
  g__spread : mg "_spread" = some (.ref (He.fAd K ("_spread", none)))
  g__whole_rows : mg "_whole_rows" = some (.ref (He.fAd K ("_whole_rows", none)))
  g_common_den : mg "common_den" = some (.ref (He.fAd K ("common_den", none)))
  g_common_fractions : mg "common_fractions" = some (.ref (He.fAd K ("common_fractions", none)))
  g_first_gap : mg "first_gap" = some (.ref (He.fAd K ("first_gap", none)))
  g_gcd : mg "gcd" = some (.builtin "math.gcd")
  g_height : mg "height" = some (.ref (He.fAd K ("height", none)))
  g_inner : mg "inner" = some (.ref (He.fAd K ("inner", none)))
  g_inverse_matrix : mg "inverse_matrix" = some (.ref (He.fAd K ("inverse_matrix", none)))
  g_inverse_modulo : mg "inverse_modulo" = some (.ref (He.fAd K ("inverse_modulo", none)))
  g_inverse_of_unit : mg "inverse_of_unit" = some (.ref (He.fAd K ("inverse_of_unit", none)))
  g_isqrt : mg "isqrt" = some (.builtin "math.isqrt")
  g_kernel : mg "kernel" = some (.ref (He.fAd K ("kernel", none)))
  g_law : mg "law" = some (.ref (He.fAd K ("law", none)))
  g_lcm : mg "lcm" = some (.builtin "math.lcm")
  g_next_prime : mg "next_prime" = some (.ref (He.fAd K ("next_prime", none)))
  g_pivots_modulo : mg "pivots_modulo" = some (.ref (He.fAd K ("pivots_modulo", none)))
  g_power_of : mg "power_of" = some (.ref (He.fAd K ("power_of", none)))
  g_solved : mg "solved" = some (.ref (He.fAd K ("solved", none)))
  k_DivisionByZero : PySem.W.keepIn K (.ref (He.ga K "DivisionByZero")) = true
  mk_Fraction : Mk K (He.ga K "Fraction") (He.fAd K ("Fraction", some "__init__"))
  n_Fraction_den : NoAttr K (He.ga K "Fraction") "den"
  n_Fraction_num : NoAttr K (He.ga K "Fraction") "num"
  r_DivisionByZero : ∀ {X : Cx}, X.K = K → Raises X (.ref (He.ga K "DivisionByZero"))
  ty_Fraction : ∀ {H : Hp} {a dx : Addr} {fs : List (Str × V)}, H a = some (.ins (He.ga K "Fraction") dx fs) → TyX K H (.ref a) (.ref (He.ga K "Fraction"))
  x_DivisionByZero : PySem.W.excIn K (He.ga K "DivisionByZero") He.veBase "ValueError.__new__" = true
  z_abs : mg "abs" = none
  z_bool : mg "bool" = none
  z_enumerate : mg "enumerate" = none
  z_int : mg "int" = none
  z_isinstance : mg "isinstance" = none
  z_len : mg "len" = none
  z_list : mg "list" = none
  z_max : mg "max" = none
  z_range : mg "range" = none
  z_sum : mg "sum" = none
  z_tuple : mg "tuple" = none
  z_zip : mg "zip" = none

/-! ### what the defs promise -/
abbrev CF (K : PySem.W.Frag) : Addr := He.ga K "Fraction"
abbrev CD (K : PySem.W.Frag) : Value := .ref (He.ga K "DivisionByZero")
/-- a Fraction at a: its numerator and denominator -/
abbrev fsF (n d : Int) : List (Str × V) := [("num", .int n), ("den", .int d)]
/-- in lowest terms and of at most k bits -/
structure Lw (k : Nat) (n d : Int) : Prop where
  pos : 0 < d
  cop : Cop n d
  bn : n.natAbs < 2 ^ k
  bd : d.natAbs < 2 ^ k
theorem Lw.fq {k : Nat} {n d : Int} (l : Lw k n d) : Fq n d n d := ⟨rfl, l.pos, l.cop⟩
theorem Lw.ne {k : Nat} {n d : Int} (l : Lw k n d) : d ≠ 0 := by have := l.pos; omega
theorem Lw.mono {k j : Nat} {n d : Int} (l : Lw k n d) (h : k ≤ j) : Lw j n d := ⟨l.pos, l.cop, abs_mono l.bn h, abs_mono l.bd h⟩
theorem lw_of {k : Nat} {n d a b : Int} (f : Fq n d a b) (hd : d ≠ 0) (hn : n.natAbs < 2 ^ k) (hk : d.natAbs < 2 ^ k) : Lw k a b :=
  ⟨f.pos, f.cop, Nat.lt_of_le_of_lt (f.num_le hd) hn, Nat.lt_of_le_of_lt (f.den_le hd) hk⟩
/-- the value is a new Fraction n / d -/
theorem same_mut {H H2 : Hp} {p : Addr} {o : HO} (sm : Same H H2) (np : H p = none) : Same H (upd H2 p o) := fun b x e => by
  rw [upd_ne (ne_of_none e np)]
  exact sm _ _ e
/-- Fraction(..), its values all written or with the default; nothing is raised -/
def mkFr (K : PySem.W.Frag) (dvs : List V) : List V → Hp → VK → Prop := fun vs H1 Q => ∃ (n d : Int) (k : Nat), vs ++ dvs = [.int n, .int d] ∧ d.natAbs < 2 ^ k ∧ k ≤ 8000 ∧ d ≠ 0 ∧
  ∀ p dp H2 a b, Same H1 H2 → H1 p = none → H2 p = some (.ins (CF K) dp (fsF a b)) → Fq n d a b → Q (.ref p) H2
/-- .. in a try's body: W is wished of an exception, with the slots -/
def mkFrS (K : PySem.W.Frag) (dvs : List V) (W : WX) : L2.St → List V → Hp → VK → Prop := fun σ vs H1 Q => ∃ (n d : Int) (k : Nat), vs ++ dvs = [.int n, .int d] ∧ d.natAbs < 2 ^ k ∧ k ≤ 8000 ∧ (d = 0 → ∀ H2, Same H1 H2 → W (CD K) none σ H2) ∧
  (d ≠ 0 → ∀ p dp H2 a b, Same H1 H2 → H1 p = none → H2 p = some (.ins (CF K) dp (fsF a b)) → Fq n d a b → Q (.ref p) H2)
def RF (K : PySem.W.Frag) (H : Hp) (Q : VK) (R : Int → Int → Prop) : Prop := ∀ p dp H' n d, Same H H' → H p = none → H' p = some (.ins (CF K) dp (fsF n d)) → R n d → Q (.ref p) H'


/-! ### lists of fractions -/
/-- the list's items are the fractions qs -/
structure FrL (K : PySem.W.Frag) (H : Hp) (xs : List V) (qs : List (Int × Int)) : Prop where
  len : xs.length = qs.length
  at_ : ∀ (i : Nat) (q : Int × Int), qs[i]? = some q → ∃ a dx, xs[i]? = some (.ref a) ∧ H a = some (.ins (CF K) dx (fsF q.1 q.2))
theorem FrL.mono {K : PySem.W.Frag} {H H' : Hp} {xs : List V} {qs : List (Int × Int)} (f : FrL K H xs qs) (sm : Same H H') : FrL K H' xs qs :=
  ⟨f.len, fun i q h => by obtain ⟨a, dx, e, h2⟩ := f.at_ i q h; exact ⟨a, dx, e, sm _ _ h2⟩⟩
theorem FrL.nil {K : PySem.W.Frag} {H : Hp} : FrL K H [] [] := ⟨rfl, fun i q h => by simp at h⟩
theorem FrL.snoc {K : PySem.W.Frag} {H : Hp} {xs : List V} {qs : List (Int × Int)} {a dx : Addr} {n d : Int} (f : FrL K H xs qs) (h : H a = some (.ins (CF K) dx (fsF n d))) : FrL K H (xs ++ [.ref a]) (qs ++ [(n, d)]) := by
  refine ⟨by simp [f.len], fun i q hq => ?_⟩
  by_cases c : i < qs.length
  · rw [List.getElem?_append_left c] at hq
    obtain ⟨b, dy, e, h2⟩ := f.at_ i q hq
    exact ⟨b, dy, by rw [List.getElem?_append_left (by rw [f.len]; exact c)]; exact e, h2⟩
  · rw [List.getElem?_append_right (by omega)] at hq
    have c0 : i - qs.length = 0 := by
      refine Decidable.byContradiction fun z => ?_
      rw [List.getElem?_eq_none (by simp; omega)] at hq
      cases hq
    rw [c0] at hq
    cases hq
    exact ⟨a, dx, by rw [List.getElem?_append_right (by rw [f.len]; omega), f.len, c0]; rfl, h⟩
theorem FrL.upd {K : PySem.W.Frag} {H : Hp} {xs : List V} {qs : List (Int × Int)} {D : Addr} {ys : List V} {o : HO} (f : FrL K H xs qs) (h : H D = some (.lst ys)) : FrL K (upd H D o) xs qs :=
  ⟨f.len, fun i q e => by
    obtain ⟨a, dx, e1, e2⟩ := f.at_ i q e
    have ne : a ≠ D := fun z => by rw [z, h] at e2; cases e2
    exact ⟨a, dx, e1, by rw [upd_ne ne]; exact e2⟩⟩
theorem FrL.take {K : PySem.W.Frag} {H : Hp} {xs : List V} {qs : List (Int × Int)} (f : FrL K H xs qs) (m : Nat) : FrL K H (xs.take m) (qs.take m) := by
  refine ⟨by simp [f.len], fun i q h => ?_⟩
  rw [List.getElem?_take] at h
  by_cases c : i < m
  · rw [if_pos c] at h
    obtain ⟨a, dx, e, h2⟩ := f.at_ i q h
    exact ⟨a, dx, by rw [List.getElem?_take, if_pos c]; exact e, h2⟩
  · rw [if_neg c] at h
    cases h
theorem FrL.drop {K : PySem.W.Frag} {H : Hp} {xs : List V} {qs : List (Int × Int)} (f : FrL K H xs qs) (m : Nat) : FrL K H (xs.drop m) (qs.drop m) := by
  refine ⟨by simp [f.len], fun i q h => ?_⟩
  rw [List.getElem?_drop] at h
  obtain ⟨a, dx, e, h2⟩ := f.at_ _ q h
  exact ⟨a, dx, by rw [List.getElem?_drop]; exact e, h2⟩
/-- the sum of pairs, not in lowest terms -/
def sumQ : List (Int × Int) → Int × Int
  | [] => (0, 1)
  | q :: r => (q.1 * (sumQ r).2 + (sumQ r).1 * q.2, q.2 * (sumQ r).2)
def prodQ : List (Int × Int) → Int × Int
  | [] => (1, 1)
  | q :: r => (q.1 * (prodQ r).1, q.2 * (prodQ r).2)
theorem sumQ_append (xs ys : List (Int × Int)) : sumQ (xs ++ ys) = ((sumQ xs).1 * (sumQ ys).2 + (sumQ ys).1 * (sumQ xs).2, (sumQ xs).2 * (sumQ ys).2) := by
  induction xs with
  | nil => simp [sumQ]
  | cons q r ih =>
    rw [List.cons_append, sumQ, ih, sumQ]
    refine Prod.ext ?_ ?_ <;> dsimp only <;> grind
abbrev AllLw (k : Nat) (qs : List (Int × Int)) : Prop := ∀ q ∈ qs, Lw k q.1 q.2
theorem AllLw.take {k : Nat} {qs : List (Int × Int)} (h : AllLw k qs) (m : Nat) : AllLw k (qs.take m) := fun q hq => h q (List.mem_of_mem_take hq)
theorem AllLw.drop {k : Nat} {qs : List (Int × Int)} (h : AllLw k qs) (m : Nat) : AllLw k (qs.drop m) := fun q hq => h q (List.mem_of_mem_drop hq)
/-- the answer is a fraction, new or not -/
def RS (K : PySem.W.Frag) (H : Hp) (Q : VK) (R : Int → Int → Prop) : Prop := ∀ p dp H' n d, Same H H' → H' p = some (.ins (CF K) dp (fsF n d)) → R n d → Q (.ref p) H'


theorem lcm_dvd_int {a b B : Int} (h1 : a ∣ B) (h2 : b ∣ B) : ((Nat.lcm a.natAbs b.natAbs : Nat) : Int) ∣ B :=
  Int.natAbs_dvd_natAbs.mp (by rw [Int.natAbs_natCast]; exact Nat.lcm_dvd (Int.natAbs_dvd_natAbs.mpr h1) (Int.natAbs_dvd_natAbs.mpr h2))
def DenAt (K : PySem.W.Frag) (H : Hp) (v : V) (d : Int) : Prop := ∃ (b : Addr) (C : Addr) (dx : Addr) (fs : List (Str × V)), v = .ref b ∧ H b = some (.ins C dx fs) ∧ Cls K C ∧ NoAttr K C "den" ∧ fs.lookup ("den" : Str) = some (V.int d)


/-! ### polynomials -/
abbrev CP (K : PySem.W.Frag) : Addr := He.ga K "Poly"
abbrev fsP (t : Addr) (e : Int) : List (Str × V) := [("coefs", .ref t), ("den", .int e)]
/-- a Poly at p: its coefficients and denominator -/
def PoA (K : PySem.W.Frag) (H : Hp) (p : Addr) (ks : List Int) (e : Int) : Prop := ∃ dp t, H p = some (.ins (CP K) dp (fsP t e)) ∧ H t = some (.tup (ks.map V.int))
theorem PoA.mono {K : PySem.W.Frag} {H H' : Hp} {p : Addr} {ks : List Int} {e : Int} (h : PoA K H p ks e) (sm : Same H H') : PoA K H' p ks e := by
  obtain ⟨dp, t, h1, h2⟩ := h
  exact ⟨dp, t, sm _ _ h1, sm _ _ h2⟩
/-- a list or a tuple of whole numbers -/
def Sq (K : PySem.W.Frag) (H : Hp) (a : Addr) (xs : List Int) : Prop := SqL K H a (xs.map V.int) ∨ SqT K H a (xs.map V.int)
structure Bits (k : Nat) (xs : List Int) : Prop where
  all : ∀ x ∈ xs, x.natAbs < 2 ^ k
theorem Bits.getD {k : Nat} {xs : List Int} (h : Bits k xs) (i : Nat) : (xs.getD i 0).natAbs < 2 ^ k := by
  by_cases c : i < xs.length
  · exact h.all _ (getD_mem c)
  · rw [getD_end (by omega)]
    exact Nat.pow_pos (by decide)
theorem bits_of_at {k : Nat} {xs : List Int} (h : ∀ i, (xs.getD i 0).natAbs < 2 ^ k) : Bits k xs := ⟨fun x hx => by
  obtain ⟨i, hi, rfl⟩ := List.mem_iff_getElem.mp hx
  have z := h i
  rwa [List.getD_eq_getElem?_getD, List.getElem?_eq_getElem hi] at z⟩
theorem Bits.mono {k j : Nat} {xs : List Int} (h : Bits k xs) (c : k ≤ j) : Bits j xs := ⟨fun x hx => abs_mono (h.all x hx) c⟩
theorem Bits.neg {k : Nat} {xs : List Int} (h : Bits k xs) : Bits k (xs.map fun x => -x) := ⟨fun x hx => by
  obtain ⟨y, hy, rfl⟩ := List.mem_map.mp hx
  rw [Int.natAbs_neg]
  exact h.all y hy⟩
theorem Bits.mul {k j : Nat} {xs : List Int} {c : Int} (h : Bits k xs) (hc : c.natAbs < 2 ^ j) : Bits (k + j) (xs.map fun x => x * c) := ⟨fun x hx => by
  obtain ⟨y, hy, rfl⟩ := List.mem_map.mp hx
  exact abs_lt_mul (h.all y hy) hc⟩
theorem Bits.add {k : Nat} {xs ys : List Int} (h : Bits k xs) (h2 : Bits k ys) : Bits (k + 1) (addL xs ys) := ⟨fun x hx => by
  unfold addL at hx
  obtain ⟨i, _, rfl⟩ := List.mem_map.mp hx
  have z := sz_add (h.getD i) (h2.getD i)
  rw [Nat.max_self] at z
  exact z⟩
theorem Pq.bits {cs ks : List Int} {d e : Int} {k : Nat} (p : Pq cs d ks e) (hd : d ≠ 0) (h : Bits k cs) : Bits k ks := ⟨fun x hx => by
  obtain ⟨i, hi, rfl⟩ := List.mem_iff_getElem.mp hx
  have z : ks[i] = ks.getD i 0 := by rw [List.getD_eq_getElem?_getD, List.getElem?_eq_getElem hi]; rfl
  have c := h.getD i
  have q := p.eq i
  rw [z]
  have p0 := p.pos
  -- e divides d
  have dv := p.den_dvd1 hd
  obtain ⟨u, hu⟩ := dv
  have u0 : u ≠ 0 := fun w => by rw [w] at hu; omega
  have e1 : cs.getD i 0 = ks.getD i 0 * u := by
    rw [hu] at q
    have : cs.getD i 0 * e = (ks.getD i 0 * u) * e := by grind
    exact Int.eq_of_mul_eq_mul_right (by omega) this
  rw [e1, Int.natAbs_mul] at c
  exact Nat.lt_of_le_of_lt (Nat.le_mul_of_pos_right _ (by omega)) c⟩
/-- all that a check of a polynomial asks -/
structure POk (k : Nat) (cs : List Int) (den : Int) (ks : List Int) (e : Int) : Prop where
  pq : Pq cs den ks e
  l1 : ks.length ≤ 400
  l2 : cs.length ≤ 400
  b1 : ∀ x ∈ ks, x.natAbs < 2 ^ k
  b2 : ∀ x ∈ cs, x.natAbs < 2 ^ k
  b3 : e.natAbs < 2 ^ k
  b4 : den.natAbs < 2 ^ k
theorem PoA.upd {K : PySem.W.Frag} {H : Hp} {p D : Addr} {ks : List Int} {e : Int} {ys : List V} {o : HO} (h : PoA K H p ks e) (hD : H D = some (.lst ys)) : PoA K (upd H D o) p ks e := by
  obtain ⟨dp, t, h1, h2⟩ := h
  have n1 : p ≠ D := fun z => by rw [z, hD] at h1; cases h1
  have n2 : t ≠ D := fun z => by rw [z, hD] at h2; cases h2
  exact ⟨dp, t, by rw [upd_ne n1]; exact h1, by rw [upd_ne n2]; exact h2⟩
def mkPo (K : PySem.W.Frag) (dvs : List V) : List V → Hp → VK → Prop := fun vs H1 Q => ∃ (a : Addr) (cs : List Int) (d : Int) (k : Nat), vs ++ dvs = [.ref a, .int d] ∧ Sq K H1 a cs ∧ cs.length ≤ 900 ∧ d.natAbs < 2 ^ k ∧ k ≤ 8000 ∧ d ≠ 0 ∧
  ∀ p H2 ks e, Same H1 H2 → H1 p = none → PoA K H2 p ks e → Pq cs d ks e → Q (.ref p) H2
/-- .. in a try's body -/
def mkPoS (K : PySem.W.Frag) (dvs : List V) (W : WX) : L2.St → List V → Hp → VK → Prop := fun σ vs H1 Q => ∃ (a : Addr) (cs : List Int) (d : Int) (k : Nat), vs ++ dvs = [.ref a, .int d] ∧ Sq K H1 a cs ∧ cs.length ≤ 900 ∧ d.natAbs < 2 ^ k ∧ k ≤ 8000 ∧ (d = 0 → ∀ H2, Same H1 H2 → W (CD K) none σ H2) ∧
  (d ≠ 0 → ∀ p H2 ks e, Same H1 H2 → H1 p = none → PoA K H2 p ks e → Pq cs d ks e → Q (.ref p) H2)
/-- the answer is a new polynomial -/
def RP (K : PySem.W.Frag) (H : Hp) (Q : VK) (R : List Int → Int → Prop) : Prop := ∀ p H' ks e, Same H H' → H p = none → PoA K H' p ks e → R ks e → Q (.ref p) H'


theorem yes_ok {σ : L2.St} {H : Hp} {Q : Bool → Hp → Prop} (h : Q true H) : tYes σ H Q := h
/-! ### lists of pairs -/
structure PrOk (p : Int × Int) : Prop where
  l : -9 ≤ p.1 ∧ p.1 ≤ 9
  d : 1 ≤ p.2 ∧ p.2 ≤ 4
abbrev prO (p : Int × Int) : HO := .tup [.int p.1, .int p.2]
structure PrL (H : Hp) (xs : List V) (ps : List (Int × Int)) : Prop where
  len : xs.length = ps.length
  at_ : ∀ (i : Nat) (q : Int × Int), ps[i]? = some q → ∃ a, xs[i]? = some (.ref a) ∧ H a = some (prO q)
theorem PrL.mono {H H' : Hp} {xs : List V} {ps : List (Int × Int)} (f : PrL H xs ps) (sm : Same H H') : PrL H' xs ps :=
  ⟨f.len, fun i q h => by obtain ⟨a, e, h2⟩ := f.at_ i q h; exact ⟨a, e, sm _ _ h2⟩⟩
theorem PrL.nil {H : Hp} : PrL H [] [] := ⟨rfl, fun i q h => by simp at h⟩
theorem PrL.snoc {H : Hp} {xs : List V} {ps : List (Int × Int)} {a : Addr} {p : Int × Int} (f : PrL H xs ps) (h : H a = some (prO p)) : PrL H (xs ++ [.ref a]) (ps ++ [p]) := by
  refine ⟨by simp [f.len], fun i q hq => ?_⟩
  by_cases c : i < ps.length
  · rw [List.getElem?_append_left c] at hq
    obtain ⟨b, e, h2⟩ := f.at_ i q hq
    exact ⟨b, by rw [List.getElem?_append_left (by rw [f.len]; exact c)]; exact e, h2⟩
  · rw [List.getElem?_append_right (by omega)] at hq
    have c0 : i - ps.length = 0 := by
      refine Decidable.byContradiction fun z => ?_
      rw [List.getElem?_eq_none (by simp; omega)] at hq
      cases hq
    rw [c0] at hq
    cases hq
    exact ⟨a, by rw [List.getElem?_append_right (by rw [f.len]; omega), f.len, c0]; rfl, h⟩
theorem PrL.upd {H : Hp} {xs : List V} {ps : List (Int × Int)} {D : Addr} {ys : List V} {o : HO} (f : PrL H xs ps) (h : H D = some (.lst ys)) : PrL (upd H D o) xs ps :=
  ⟨f.len, fun i q e => by
    obtain ⟨a, e1, e2⟩ := f.at_ i q e
    have ne : a ≠ D := fun z => by rw [z, h] at e2; cases e2
    exact ⟨a, e1, by rw [upd_ne ne]; exact e2⟩⟩
theorem PrL.item {H : Hp} {xs : List V} {ps : List (Int × Int)} {i : Nat} {x : V} (f : PrL H xs ps) (h : xs[i]? = some x) : ∃ q b, ps[i]? = some q ∧ x = .ref b ∧ H b = some (prO q) := by
  have hi : i < ps.length := by
    rw [← f.len]
    exact (List.getElem?_eq_some_iff.mp h).1
  obtain ⟨a, e, h2⟩ := f.at_ i _ (List.getElem?_eq_getElem hi)
  rw [h] at e
  cases e
  exact ⟨_, a, List.getElem?_eq_getElem hi, rfl, h2⟩
/-- both numbers have at most k bits -/
structure PrB (k : Nat) (p : Int × Int) : Prop where
  a : p.1.natAbs < 2 ^ k
  b : p.2.natAbs < 2 ^ k

/-- the list's items are the fractions that the pairs tell, of at most k bits -/
def VF (K : PySem.W.Frag) (k : Nat) (H : Hp) (xs : List V) (ps : List (Int × Int)) : Prop :=
  ∃ qs, FrL K H xs qs ∧ AllLw k qs ∧ qs.length = ps.length ∧ ∀ (i : Nat) (x q : Int × Int), ps[i]? = some x → qs[i]? = some q → Fq x.1 x.2 q.1 q.2
theorem VF.mono {K : PySem.W.Frag} {k : Nat} {H H' : Hp} {xs : List V} {ps : List (Int × Int)} (f : VF K k H xs ps) (sm : Same H H') : VF K k H' xs ps := by
  obtain ⟨qs, h1, h2⟩ := f
  exact ⟨qs, h1.mono sm, h2⟩
theorem VF.len {K : PySem.W.Frag} {k : Nat} {H : Hp} {xs : List V} {ps : List (Int × Int)} (f : VF K k H xs ps) : xs.length = ps.length := by
  obtain ⟨qs, h1, _, h3, _⟩ := f
  rw [h1.len, h3]
theorem VF.nil {K : PySem.W.Frag} {k : Nat} {H : Hp} : VF K k H [] [] := ⟨[], .nil, fun q h => absurd h (by simp), rfl, fun i x q h => by simp at h⟩
theorem VF.upd {K : PySem.W.Frag} {k : Nat} {H : Hp} {xs : List V} {ps : List (Int × Int)} {D : Addr} {ys : List V} {o : HO} (f : VF K k H xs ps) (h : H D = some (.lst ys)) : VF K k (upd H D o) xs ps := by
  obtain ⟨qs, h1, h2⟩ := f
  exact ⟨qs, h1.upd h, h2⟩
theorem VF.snoc {K : PySem.W.Frag} {k : Nat} {H : Hp} {xs : List V} {ps : List (Int × Int)} {a dx : Addr} {n d : Int} {x : Int × Int} (f : VF K k H xs ps) (h : H a = some (.ins (CF K) dx (fsF n d))) (l : Lw k n d) (e : Fq x.1 x.2 n d) : VF K k H (xs ++ [.ref a]) (ps ++ [x]) := by
  obtain ⟨qs, h1, h2, h3, h4⟩ := f
  refine ⟨qs ++ [(n, d)], h1.snoc h, fun q hq => ?_, by simp [h3], fun i x' q hx hq => ?_⟩
  · rcases List.mem_append.mp hq with hq | hq
    · exact h2 q hq
    · rw [List.mem_singleton.mp hq]; exact l
  · by_cases c : i < ps.length
    · rw [List.getElem?_append_left c] at hx
      rw [List.getElem?_append_left (by rw [h3]; exact c)] at hq
      exact h4 i x' q hx hq
    · rw [List.getElem?_append_right (by omega)] at hx
      rw [List.getElem?_append_right (by omega), h3] at hq
      have c0 : i - ps.length = 0 := by
        refine Decidable.byContradiction fun z => ?_
        rw [List.getElem?_eq_none (by simp; omega)] at hx
        cases hx
      rw [c0] at hx hq
      cases hx
      cases hq
      exact e
theorem VF.item {K : PySem.W.Frag} {k : Nat} {H : Hp} {xs : List V} {ps : List (Int × Int)} {i : Nat} {v : V} (f : VF K k H xs ps) (h : xs[i]? = some v) : ∃ x n d b dx, ps[i]? = some x ∧ v = .ref b ∧ H b = some (.ins (CF K) dx (fsF n d)) ∧ Lw k n d ∧ Fq x.1 x.2 n d := by
  obtain ⟨qs, h1, h2, h3, h4⟩ := f
  have hi : i < qs.length := by
    rw [← h1.len]
    exact (List.getElem?_eq_some_iff.mp h).1
  obtain ⟨a, dx, e, hx⟩ := h1.at_ i _ (List.getElem?_eq_getElem hi)
  rw [h] at e
  cases e
  have e2 := List.getElem?_eq_getElem (show i < ps.length by omega)
  exact ⟨_, _, _, a, dx, e2, rfl, hx, h2 _ (List.getElem_mem hi), h4 i _ _ e2 (List.getElem?_eq_getElem hi)⟩
theorem PrOk.lw {x : Int × Int} {n d : Int} (h : PrOk x) (f : Fq x.1 x.2 n d) : Lw 4 n d := lw_of f (by have := h.d; omega) (by have := h.l; omega) (by have := h.d; omega)
theorem PrOk.bits {x : Int × Int} (h : PrOk x) : PrB 4 x := ⟨by have := h.l; omega, by have := h.d; omega⟩
/-- a list of lists of pairs; of fractions; of new lists of fractions -/
structure MatP (H : Hp) (xs : List V) (ts : List (List (Int × Int))) : Prop where
  len : xs.length = ts.length
  at_ : ∀ (i : Nat) (r : List (Int × Int)), ts[i]? = some r → ∃ a ys, xs[i]? = some (V.ref a) ∧ H a = some (.lst ys) ∧ PrL H ys r
structure MatF (K : PySem.W.Frag) (k : Nat) (H : Hp) (xs : List V) (ts : List (List (Int × Int))) : Prop where
  len : xs.length = ts.length
  at_ : ∀ (i : Nat) (r : List (Int × Int)), ts[i]? = some r → ∃ a ys, xs[i]? = some (V.ref a) ∧ H a = some (.lst ys) ∧ VF K k H ys r
structure MatN (K : PySem.W.Frag) (k : Nat) (H0 : Hp) (D : Addr) (H : Hp) (xs : List V) (ts : List (List (Int × Int))) : Prop where
  len : xs.length = ts.length
  at_ : ∀ (i : Nat) (r : List (Int × Int)), ts[i]? = some r → ∃ a ys, xs[i]? = some (V.ref a) ∧ H0 a = none ∧ a ≠ D ∧ H a = some (.lst ys) ∧ VF K k H ys r
theorem MatP.mono {H H' : Hp} {xs : List V} {ts : List (List (Int × Int))} (f : MatP H xs ts) (sm : Same H H') : MatP H' xs ts :=
  ⟨f.len, fun i r h => by obtain ⟨a, ys, e, h1, h2⟩ := f.at_ i r h; exact ⟨a, ys, e, sm _ _ h1, h2.mono sm⟩⟩
theorem MatF.mono {K : PySem.W.Frag} {k : Nat} {H H' : Hp} {xs : List V} {ts : List (List (Int × Int))} (f : MatF K k H xs ts) (sm : Same H H') : MatF K k H' xs ts :=
  ⟨f.len, fun i r h => by obtain ⟨a, ys, e, h1, h2⟩ := f.at_ i r h; exact ⟨a, ys, e, sm _ _ h1, h2.mono sm⟩⟩
theorem MatN.mono {K : PySem.W.Frag} {k : Nat} {H0 H H' : Hp} {D : Addr} {xs : List V} {ts : List (List (Int × Int))} (f : MatN K k H0 D H xs ts) (sm : Same H H') : MatN K k H0 D H' xs ts :=
  ⟨f.len, fun i r h => by obtain ⟨a, ys, e, h0, n, h1, h2⟩ := f.at_ i r h; exact ⟨a, ys, e, h0, n, sm _ _ h1, h2.mono sm⟩⟩
theorem MatN.mat {K : PySem.W.Frag} {k : Nat} {H0 H : Hp} {D : Addr} {xs : List V} {ts : List (List (Int × Int))} (f : MatN K k H0 D H xs ts) : MatF K k H xs ts :=
  ⟨f.len, fun i r h => by obtain ⟨a, ys, e, h0, n, h1, h2⟩ := f.at_ i r h; exact ⟨a, ys, e, h1, h2⟩⟩
theorem MatP.item {H : Hp} {xs : List V} {ts : List (List (Int × Int))} {i : Nat} {v : V} (f : MatP H xs ts) (h : xs[i]? = some v) : ∃ r a ys, ts[i]? = some r ∧ v = V.ref a ∧ H a = some (.lst ys) ∧ PrL H ys r := by
  have hi : i < ts.length := by
    rw [← f.len]
    exact (List.getElem?_eq_some_iff.mp h).1
  obtain ⟨a, ys, e, h1, h2⟩ := f.at_ i _ (List.getElem?_eq_getElem hi)
  rw [h] at e
  cases e
  exact ⟨_, a, ys, List.getElem?_eq_getElem hi, rfl, h1, h2⟩
theorem MatF.item {K : PySem.W.Frag} {k : Nat} {H : Hp} {xs : List V} {ts : List (List (Int × Int))} {i : Nat} {v : V} (f : MatF K k H xs ts) (h : xs[i]? = some v) : ∃ r a ys, ts[i]? = some r ∧ v = V.ref a ∧ H a = some (.lst ys) ∧ VF K k H ys r := by
  have hi : i < ts.length := by
    rw [← f.len]
    exact (List.getElem?_eq_some_iff.mp h).1
  obtain ⟨a, ys, e, h1, h2⟩ := f.at_ i _ (List.getElem?_eq_getElem hi)
  rw [h] at e
  cases e
  exact ⟨_, a, ys, List.getElem?_eq_getElem hi, rfl, h1, h2⟩
theorem MatN.nil {K : PySem.W.Frag} {k : Nat} {H0 H : Hp} {D : Addr} : MatN K k H0 D H [] [] := ⟨rfl, fun i r h => by simp at h⟩
/-- one more row, D itself being changed -/
theorem MatN.snoc {K : PySem.W.Frag} {k : Nat} {H0 H : Hp} {xs : List V} {ts : List (List (Int × Int))} {D a : Addr} {zs ys : List V} {r : List (Int × Int)} {o : HO} (f : MatN K k H0 D H xs ts) (hD : H D = some (.lst zs)) (h0 : H0 a = none) (n : a ≠ D) (h1 : H a = some (.lst ys)) (h2 : VF K k H ys r) : MatN K k H0 D (upd H D o) (xs ++ [.ref a]) (ts ++ [r]) := by
  refine ⟨by simp [f.len], fun i r' hr => ?_⟩
  by_cases c : i < ts.length
  · rw [List.getElem?_append_left c] at hr
    obtain ⟨b, ws, e, h3, h4, h5, h6⟩ := f.at_ i r' hr
    exact ⟨b, ws, by rw [List.getElem?_append_left (by rw [f.len]; exact c)]; exact e, h3, h4, by rw [upd_ne h4]; exact h5, h6.upd hD⟩
  · rw [List.getElem?_append_right (by omega)] at hr
    have c0 : i - ts.length = 0 := by
      refine Decidable.byContradiction fun z => ?_
      rw [List.getElem?_eq_none (by simp; omega)] at hr
      cases hr
    rw [c0] at hr
    cases hr
    exact ⟨a, ys, by rw [List.getElem?_append_right (by rw [f.len]; omega), f.len, c0]; rfl, h0, n, by rw [upd_ne n]; exact h1, h2.upd hD⟩

/-- the same number -/
def REq (x y : Int × Int) : Prop := x.1 * y.2 = y.1 * x.2
def mulP (x y : Int × Int) : Int × Int := (x.1 * y.1, x.2 * y.2)
def addP (x y : Int × Int) : Int × Int := (x.1 * y.2 + y.1 * x.2, x.2 * y.2)
def dotP (xs ys : List (Int × Int)) : Int × Int := sumQ (List.zipWith mulP xs ys)
theorem sumQ_one (m : Int × Int) : sumQ [m] = m := by simp [sumQ]
theorem sumQ_snoc (zs : List (Int × Int)) (m : Int × Int) : sumQ (zs ++ [m]) = addP (sumQ zs) m := by
  rw [sumQ_append, sumQ_one]
  rfl
theorem zip_more {xs ys : List (Int × Int)} {i : Nat} {x y : Int × Int} (f : Int × Int → Int × Int → Int × Int) (hx : xs[i]? = some x) (hy : ys[i]? = some y) : List.zipWith f (xs.take (i + 1)) (ys.take (i + 1)) = List.zipWith f (xs.take i) (ys.take i) ++ [f x y] := by
  have h1 : i < xs.length := (List.getElem?_eq_some_iff.mp hx).1
  have h2 : i < ys.length := (List.getElem?_eq_some_iff.mp hy).1
  rw [List.take_succ, List.take_succ, hx, hy, List.zipWith_append (by rw [List.length_take, List.length_take]; omega)]
  rfl
theorem dotP_more {xs ys : List (Int × Int)} {i : Nat} {x y : Int × Int} (hx : xs[i]? = some x) (hy : ys[i]? = some y) : dotP (xs.take (i + 1)) (ys.take (i + 1)) = addP (dotP (xs.take i) (ys.take i)) (mulP x y) := by
  rw [dotP, zip_more mulP hx hy, sumQ_snoc]
  rfl
theorem REq.add {z d m : Int × Int} (h : REq z d) : REq (addP z m) (addP d m) := by
  have e : z.1 * d.2 = d.1 * z.2 := h
  show (z.1 * m.2 + m.1 * z.2) * (d.2 * m.2) = (d.1 * m.2 + m.1 * d.2) * (z.2 * m.2)
  grind
theorem REq.skip {z d m : Int × Int} (h : REq z d) (h0 : m.1 = 0) : REq z (addP d m) := by
  have e : z.1 * d.2 = d.1 * z.2 := h
  show z.1 * (d.2 * m.2) = (d.1 * m.2 + m.1 * d.2) * z.2
  rw [h0]
  grind
theorem PrB.mono {k j : Nat} {x : Int × Int} (h : PrB k x) (l : k ≤ j) : PrB j x := ⟨abs_mono h.a l, abs_mono h.b l⟩
theorem PrB.mul {k j : Nat} {x y : Int × Int} (h : PrB k x) (l : PrB j y) : PrB (k + j) (mulP x y) := ⟨abs_lt_mul h.a l.a, abs_lt_mul h.b l.b⟩
theorem PrB.add {k j : Nat} {x y : Int × Int} (h : PrB k x) (l : PrB j y) : PrB (k + j + 1) (addP x y) := by
  have z := sz_add (abs_lt_mul h.a l.b) (abs_lt_mul l.a h.b)
  exact ⟨abs_mono z (by omega), abs_mono (abs_lt_mul h.b l.b) (by omega)⟩
theorem lc_zip {K : PySem.W.Frag} {a b : Addr} {xs ys : List V} {g : TG} {tt : TT} {te : TE} {vs : List Nat} {σ : L2.St} {H1 : Hp} {D : Addr} {Qd : Hp → Prop} (hl : xs.length = ys.length) (Pv : Nat → Hp → Prop) (h0 : Pv 0 (upd H1 D (.lst [])))
    (hq : ∀ i H, Pv i H → SqL K H a xs ∧ SqL K H b ys)
    (hs : ∀ i x y T H, xs[i]? = some x → ys[i]? = some y → Pv i H → H T = none → g (.ref T) (wipe σ vs) (upd H T (.tup [x, y])) fun σ2 H2 => wipe σ2 vs = wipe σ vs ∧ tt σ2 H2 fun k H3 =>
      if k = true then te σ2 H3 fun y H4 => ∃ acc, H4 D = some (.lst acc) ∧ acc.length < sizeLine ∧ Pv (i + 1) (upd H4 D (.lst (acc ++ [y]))) else Pv (i + 1) H3)
    (hd : ∀ H, Pv xs.length H → Qd H) :
    ∃ W : Nat → Nat → Hp → Prop, (∃ m, W 0 m (upd H1 D (.lst []))) ∧ ∀ i m H, W i m H →
      ((Itz K a b).stop i H ∧ Qd H) ∨ ((Itz K a b).go i H ∧ ∃ Nx : Hp → Prop, (∀ H', Nx H' → ∃ m', m' < m ∧ W (i + 1) m' H') ∧
        ∀ x H', (Itz K a b).yld i H x H' → g x (wipe σ vs) H' fun σ2 H2 => wipe σ2 vs = wipe σ vs ∧ tt σ2 H2 fun k H3 =>
          if k = true then te σ2 H3 fun y H4 => ∃ acc, H4 D = some (.lst acc) ∧ acc.length < sizeLine ∧ Nx (upd H4 D (.lst (acc ++ [y]))) else Nx H3) := by
  refine ⟨fun i m H => m = xs.length - i ∧ i ≤ xs.length ∧ Pv i H, ⟨_, rfl, Nat.zero_le _, h0⟩, fun i m H hw => ?_⟩
  obtain ⟨rfl, hi, p⟩ := hw
  obtain ⟨qa, qb⟩ := hq i H p
  by_cases lt : i < xs.length
  · have lt2 : i < ys.length := by omega
    refine .inr ⟨⟨xs, ys, xs[i], ys[i], qa, qb, List.getElem?_eq_getElem lt, List.getElem?_eq_getElem lt2⟩, Pv (i + 1), fun H' p' => ⟨_, by omega, rfl, lt, p'⟩, fun x H' y => ?_⟩
    obtain ⟨T, z, z2, rfl, nT, rfl, hz, hz2⟩ := y
    exact hs i z z2 T H (hz xs qa) (hz2 ys qb) p nT
  · have e : i = xs.length := by omega
    subst e
    exact .inl ⟨⟨xs, ys, qa, qb, .inl (Nat.le_refl _)⟩, hd H p⟩
/-- the j-th numbers of the rows -/
def colP (ts : List (List (Int × Int))) (j : Nat) : List (Int × Int) := ts.map fun r => r.getD j (0, 1)
def combP (xs : List (Int × Int)) (ts : List (List (Int × Int))) (w : Nat) : List (Int × Int) := (List.range w).map fun j => dotP xs (colP ts j)

def unitP (n : Nat) : List (List (Int × Int)) := (List.range n).map fun i => (List.range n).map fun j => if i = j then (1, 1) else (0, 1)
theorem PrL.set {H : Hp} {xs : List V} {ps : List (Int × Int)} {a : Addr} {p : Int × Int} (i : Nat) (f : PrL H xs ps) (h : H a = some (prO p)) : PrL H (xs.set i (.ref a)) (ps.set i p) := by
  refine ⟨by simp [f.len], fun j q hq => ?_⟩
  by_cases c : j = i
  · subst c
    have lj : j < ps.length := by
      have := (List.getElem?_eq_some_iff.mp hq).1
      rwa [List.length_set] at this
    rw [List.getElem?_set_self lj] at hq
    cases hq
    exact ⟨a, by rw [List.getElem?_set_self (by rw [f.len]; exact lj)], h⟩
  · rw [List.getElem?_set_ne (by omega)] at hq
    obtain ⟨b, e, h2⟩ := f.at_ j q hq
    exact ⟨b, by rw [List.getElem?_set_ne (by omega)]; exact e, h2⟩
theorem MatP.nil {H : Hp} : MatP H [] [] := ⟨rfl, fun i r h => by simp at h⟩
/-- one more row, D itself being changed -/
theorem MatP.snoc {H : Hp} {xs : List V} {ts : List (List (Int × Int))} {D a : Addr} {zs ys : List V} {r : List (Int × Int)} {o : HO} (f : MatP H xs ts) (ne : ∀ (j : Nat) (b : Addr), xs[j]? = some (V.ref b) → b ≠ D) (hD : H D = some (.lst zs)) (n : a ≠ D) (h1 : H a = some (.lst ys)) (h2 : PrL H ys r) : MatP (upd H D o) (xs ++ [.ref a]) (ts ++ [r]) := by
  refine ⟨by simp [f.len], fun i r' hr => ?_⟩
  by_cases c : i < ts.length
  · rw [List.getElem?_append_left c] at hr
    obtain ⟨b, ws, e, h5, h6⟩ := f.at_ i r' hr
    exact ⟨b, ws, by rw [List.getElem?_append_left (by rw [f.len]; exact c)]; exact e, by rw [upd_ne (ne i b e)]; exact h5, h6.upd hD⟩
  · rw [List.getElem?_append_right (by omega)] at hr
    have c0 : i - ts.length = 0 := by
      refine Decidable.byContradiction fun z => ?_
      rw [List.getElem?_eq_none (by simp; omega)] at hr
      cases hr
    rw [c0] at hr
    cases hr
    exact ⟨a, ys, by rw [List.getElem?_append_right (by rw [f.len]; omega), f.len, c0]; rfl, by rw [upd_ne n]; exact h1, h2.upd hD⟩
/-- a list of lists of numbers -/
structure LsL (H : Hp) (xs : List V) (ws : List (List Int)) : Prop where
  len : xs.length = ws.length
  at_ : ∀ (i : Nat) (w : List Int), ws[i]? = some w → ∃ a, xs[i]? = some (.ref a) ∧ H a = some (.lst (w.map V.int))
theorem LsL.mono {H H' : Hp} {xs : List V} {ws : List (List Int)} (f : LsL H xs ws) (sm : Same H H') : LsL H' xs ws :=
  ⟨f.len, fun i q h => by obtain ⟨a, e, h2⟩ := f.at_ i q h; exact ⟨a, e, sm _ _ h2⟩⟩
theorem LsL.nil {H : Hp} : LsL H [] [] := ⟨rfl, fun i q h => by simp at h⟩
theorem LsL.snoc {H : Hp} {xs : List V} {ws : List (List Int)} {a : Addr} {w : List Int} (f : LsL H xs ws) (h : H a = some (.lst (w.map V.int))) : LsL H (xs ++ [.ref a]) (ws ++ [w]) := by
  refine ⟨by simp [f.len], fun i q hq => ?_⟩
  by_cases c : i < ws.length
  · rw [List.getElem?_append_left c] at hq
    obtain ⟨b, e, h2⟩ := f.at_ i q hq
    exact ⟨b, by rw [List.getElem?_append_left (by rw [f.len]; exact c)]; exact e, h2⟩
  · rw [List.getElem?_append_right (by omega)] at hq
    have c0 : i - ws.length = 0 := by
      refine Decidable.byContradiction fun z => ?_
      rw [List.getElem?_eq_none (by simp; omega)] at hq
      cases hq
    rw [c0] at hq
    cases hq
    exact ⟨a, by rw [List.getElem?_append_right (by rw [f.len]; omega), f.len, c0]; rfl, h⟩
theorem LsL.upd {H : Hp} {xs : List V} {ws : List (List Int)} {D : Addr} {o : HO} (f : LsL H xs ws) (h : ∀ a, .ref a ∈ xs → a ≠ D) : LsL (upd H D o) xs ws :=
  ⟨f.len, fun i q e => by
    obtain ⟨a, e1, e2⟩ := f.at_ i q e
    exact ⟨a, e1, by rw [upd_ne (h a (List.mem_of_getElem? e1))]; exact e2⟩⟩

theorem LsL.item {H : Hp} {xs : List V} {ws : List (List Int)} {i : Nat} {v : V} (f : LsL H xs ws) (h : xs[i]? = some v) : ∃ r a, ws[i]? = some r ∧ v = V.ref a ∧ H a = some (.lst (r.map V.int)) := by
  have l := f.len
  have il := (List.getElem?_eq_some_iff.mp h).1
  obtain ⟨r, hr⟩ : ∃ r, ws[i]? = some r := ⟨_, List.getElem?_eq_getElem (by omega)⟩
  obtain ⟨a, e, h2⟩ := f.at_ i r hr
  rw [h] at e
  cases e
  exact ⟨r, a, hr, rfl, h2⟩


/-- at most k bits, over a number that is not 0 -/
structure PrW (k : Nat) (p : Int × Int) : Prop where
  b : PrB k p
  p : p.2 ≠ 0
theorem PrW.mono {k j : Nat} {x : Int × Int} (h : PrW k x) (l : k ≤ j) : PrW j x := ⟨h.b.mono l, h.p⟩
theorem PrOk.w {x : Int × Int} (h : PrOk x) : PrW 4 x := ⟨h.bits, by have := h.d; omega⟩

/-- some number -/
def spCell (K : PySem.W.Frag) : Sp := fun vs H Q _ => ∃ (a : Addr) (ns : List Int) (k : Int), vs = [.ref a, .int k] ∧ SqL K H a (ns.map V.int) ∧ 0 ≤ k ∧ ∀ c : Int, Q (.int c) H
def spDig (K : PySem.W.Frag) : Sp := fun vs H Q _ => ∃ c l n : Int, vs = [.int c, .int l, .int n] ∧ 0 < l ∧ l ≤ 100000 ∧ 0 ≤ n ∧ n ≤ 100 ∧
  ∀ p H' (ms : List Int), Same H H' → H p = none → H' p = some (.lst (ms.map V.int)) → ms.length = n.toNat → (∀ m ∈ ms, 0 ≤ m ∧ m < l) → Q (.ref p) H'
def spSize (K : PySem.W.Frag) : Sp := fun vs H Q _ => ∃ d : Int, vs = [.int d] ∧ ∀ c : Int, 0 ≤ c → c ≤ 11 → Q (.int c) H
/-- a new pair: a number of at most two digits over 1 to 4 -/
def spPair (K : PySem.W.Frag) : Sp := fun vs H Q _ => ∃ d s : Int, vs = [.int d, .int s] ∧ ∀ p H' (x : Int × Int), Same H H' → H p = none → H' p = some (prO x) → PrOk x → Q (.ref p) H'
/-- a new list of c pairs -/
def spPairs (K : PySem.W.Frag) : Sp := fun vs H Q _ => ∃ c n s : Int, vs = [.int c, .int n, .int s] ∧ 0 ≤ n ∧ n ≤ 100 ∧
  ∀ p H' (xs : List V) (ps : List (Int × Int)), Same H H' → H p = none → H' p = some (.lst xs) → PrL H' xs ps → ps.length = n.toNat → (∀ x ∈ ps, PrOk x) → Q (.ref p) H'
def spLTi (K : PySem.W.Frag) : Sp := fun vs H Q _ => ∃ (a b : Addr) (x y : Int × Int) (k : Nat), vs = [.ref a, .ref b] ∧ H a = some (prO x) ∧ H b = some (prO y) ∧ PrB k x ∧ PrB k y ∧ k ≤ 30000 ∧
  ∀ p H', Same H H' → H p = none → H' p = some (prO (x.1 * y.1, x.2 * y.2)) → Q (.ref p) H'
/-- rows that may be changed -/
structure MatD (H0 H : Hp) (xs : List V) (ts : List (List (Int × Int))) : Prop where
  m : MatP H xs ts
  nw : ∀ (j : Nat) (b : Addr), xs[j]? = some (V.ref b) → H0 b = none
  nd : ∀ (i j : Nat) (b : Addr), xs[i]? = some (V.ref b) → xs[j]? = some (V.ref b) → i = j
theorem MatD.put {H0 H : Hp} {b : Addr} {i : Nat} {xs ys zs : List V} {ts : List (List (Int × Int))} {r : List (Int × Int)} (f : MatD H0 H xs ts) (hb : xs[i]? = some (V.ref b)) (h1 : H b = some (.lst zs)) (h2 : PrL H ys r) : MatD H0 (upd H b (.lst ys)) xs (ts.set i r) := by
  refine ⟨⟨by rw [List.length_set]; exact f.m.len, fun j r' hr => ?_⟩, f.nw, f.nd⟩
  by_cases c : j = i
  · subst c
    have il := (List.getElem?_eq_some_iff.mp hr).1
    rw [List.length_set] at il
    rw [List.getElem?_set_self il] at hr
    cases hr
    exact ⟨b, ys, hb, upd_same, h2.upd h1⟩
  · rw [List.getElem?_set_ne (fun z => c z.symm)] at hr
    obtain ⟨b', zs', e1, e2, e3⟩ := f.m.at_ j r' hr
    exact ⟨b', zs', e1, by rw [upd_ne (fun z => c (f.nd j i b (by rw [← z]; exact e1) hb))]; exact e2, e3.upd h1⟩
/-- 0 at all places but j -/
def UnitR (j : Nat) (t : List (Int × Int)) : Prop := (t.getD j (0, 1)).1 ≠ 0 ∧ ∀ j', j' ≠ j → (t.getD j' (0, 1)).1 = 0
theorem MatP.ins {H : Hp} {xs ys : List V} {ts : List (List (Int × Int))} {a : Addr} {r : List (Int × Int)} (f : MatP H xs ts) (n : Nat) (h1 : H a = some (.lst ys)) (h2 : PrL H ys r) : MatP H (xs.take n ++ [.ref a] ++ xs.drop n) (ts.take n ++ [r] ++ ts.drop n) := by
  have l := f.len
  refine ⟨by simp [l], fun i r' hr => ?_⟩
  rw [List.append_assoc] at hr ⊢
  have tl : (ts.take n).length = (xs.take n).length := by rw [List.length_take, List.length_take, l]
  by_cases c : i < (ts.take n).length
  · rw [List.getElem?_append_left c] at hr
    have c2 := c
    rw [List.length_take] at c2
    rw [List.getElem?_take, if_pos (by omega)] at hr
    obtain ⟨b, zs, e1, e2⟩ := f.at_ i r' hr
    exact ⟨b, zs, by rw [List.getElem?_append_left (by omega), List.getElem?_take, if_pos (by omega)]; exact e1, e2⟩
  · rw [List.getElem?_append_right (by omega)] at hr
    rw [List.getElem?_append_right (by omega), ← tl]
    obtain ⟨k, hk⟩ : ∃ k, i - (ts.take n).length = k := ⟨_, rfl⟩
    rw [hk] at hr ⊢
    cases k with
    | zero =>
      cases hr
      exact ⟨a, ys, rfl, h1, h2⟩
    | succ k =>
      have hr : (ts.drop n)[k]? = some r' := hr
      rw [List.getElem?_drop] at hr
      obtain ⟨b, zs, e1, e2⟩ := f.at_ _ r' hr
      refine ⟨b, zs, ?_, e2⟩
      show (xs.drop n)[k]? = _
      rw [List.getElem?_drop]
      exact e1
theorem unit_set {W m : Nat} {x : Int × Int} (h : m < W) (x0 : x.1 ≠ 0) : UnitR m ((List.replicate W ((0 : Int), (1 : Int))).set m x) := by
  refine ⟨?_, fun j' ne => ?_⟩
  · rw [List.getD_eq_getElem?_getD, List.getElem?_set_self (by rw [List.length_replicate]; exact h)]
    exact x0
  · rw [List.getD_eq_getElem?_getD, List.getElem?_set_ne (fun z => ne z.symm), List.getElem?_replicate]
    split <;> rfl
theorem repl_ok {W m : Nat} {x : Int × Int} (ok : PrOk x) : ∀ y ∈ (List.replicate W ((0 : Int), (1 : Int))).set m x, PrOk y := fun y hy => by
  rcases List.mem_or_eq_of_mem_set hy with c | c
  · rw [List.eq_of_mem_replicate c]; exact ⟨⟨by decide, by decide⟩, by decide, by decide⟩
  · rw [c]; exact ok
def spPlant (K : PySem.W.Frag) : Sp := fun vs H Q _ => ∃ (a b : Addr) (xs us : List V) (ts : List (List (Int × Int))) (prs : List (Int × Int)) (W : Nat) (pl : Int) (H0 : Hp) (_ _ _ : Unit), vs = [.ref a, .int (W : Int), .int pl, .ref b] ∧ H a = some (.lst xs) ∧ MatD H0 H xs ts ∧ (∀ t ∈ ts, t.length = W ∧ ∀ x ∈ t, PrOk x) ∧ (∀ (j : Nat) (c : Addr), xs[j]? = some (V.ref c) → c ≠ a ∧ c ≠ b) ∧ H0 a = none ∧ Same H0 H ∧ a ≠ b ∧ H b = some (.lst us) ∧ PrL H us prs ∧ prs.length = W + 1 ∧ (∀ x ∈ prs, PrOk x) ∧ ts.length ≤ 12 ∧ W ≤ 11 ∧ 0 ≤ pl ∧ pl < 1000 ∧
  ∀ H' xs' ts', Same H0 H' → H' a = some (.lst xs') → MatP H' xs' ts' → (∀ t ∈ ts', t.length = W ∧ ∀ (j : Nat) (x : Int × Int), t[j]? = some x → PrOk x ∨ (j = W - 1 ∧ ∃ u v, PrOk u ∧ PrOk v ∧ x = mulP u v)) → ts'.length ≤ ts.length + W → (pl % 3 = 1 → 2 ≤ W → ∃ f : Int × Int, PrOk f ∧ ∀ t ∈ ts', t.getD (W - 1) (0, 1) = mulP (t.getD 0 (0, 1)) f) → (pl % 3 = 2 → ∀ j, j < W → ∃ t ∈ ts', UnitR j t) → Q (.ref a) H'
def spInit (K : PySem.W.Frag) : Sp := fun vs H Q E => ∃ (x dx : Addr) (n d : Int) (k : Nat), vs = [.ref x, .int n, .int d] ∧ H x = some (.ins (CF K) dx []) ∧ d.natAbs < 2 ^ k ∧ k ≤ 8000 ∧
  (d = 0 → E (CD K) none H) ∧ (d ≠ 0 → ∀ a b, Fq n d a b → Q .non (upd H x (.ins (CF K) dx (fsF a b))))
theorem mkFr_conv (K : PySem.W.Frag) (dvs : List V) (vs : List V) (H1 : Hp) (Q : VK) (h : mkFr K dvs vs H1 Q) (x dx : Addr) (nx : H1 x = none) (nd : H1 dx = none) (ne : dx ≠ x) :
    spInit K (.ref x :: (vs ++ dvs)) (upd (upd H1 dx (.own x)) x (.ins (CF K) dx [])) (fun v H2 => v = .non ∧ Q (.ref x) H2) E0 := by
  obtain ⟨n, d, k, e, hb, hk, hd, q⟩ := h
  rw [e]
  exact ⟨x, dx, n, d, k, rfl, upd_same, hb, hk, fun z => absurd z hd, fun _ a b f => ⟨rfl, q x dx _ a b (same_made nx nd ne) nx upd_same f⟩⟩
/-- a new list of the fractions -/
def spLVec (K : PySem.W.Frag) : Sp := fun vs H Q _ => ∃ (a : Addr) (xs : List V) (ps : List (Int × Int)) (k : Nat), vs = [.ref a] ∧ SqL K H a xs ∧ PrL H xs ps ∧ (∀ x ∈ ps, PrW k x) ∧ ps.length ≤ 100 ∧ k ≤ 1000 ∧
  ∀ p H' (ys : List V), Same H H' → H p = none → H' p = some (.lst ys) → VF K k H' ys ps → Q (.ref p) H'
/-- a new list of new lists of fractions -/
def spLMat (K : PySem.W.Frag) : Sp := fun vs H Q _ => ∃ (a : Addr) (xs : List V) (ts : List (List (Int × Int))) (k : Nat), vs = [.ref a] ∧ SqL K H a xs ∧ MatP H xs ts ∧ (∀ r ∈ ts, r.length ≤ 100 ∧ ∀ x ∈ r, PrW k x) ∧ ts.length ≤ 100 ∧ k ≤ 1000 ∧
  ∀ p H' (ys : List V), Same H H' → H p = none → H' p = some (.lst ys) → MatN K k H p H' ys ts → Q (.ref p) H'
def spComDen (K : PySem.W.Frag) : Sp := fun vs H Q _ => ∃ (a : Addr) (xs : List V) (ds : List Int) (B : Int), vs = [.ref a] ∧ (SqL K H a xs ∨ SqT K H a xs) ∧ xs.length = ds.length ∧ (∀ (i : Nat) (d : Int), ds[i]? = some d → ∃ v, xs[i]? = some v ∧ DenAt K H v d) ∧ (∀ d ∈ ds, 0 < d ∧ d ∣ B) ∧ 0 < B ∧ B.natAbs < 2 ^ 60 ∧
  ∀ D, 0 < D → D ∣ B → (∀ d ∈ ds, d ∣ D) → Q (.int D) H
/-- rows of fractions, as they stand in the heap -/
structure MatQ (K : PySem.W.Frag) (H : Hp) (xs : List V) (R : List (List (Int × Int))) : Prop where
  len : xs.length = R.length
  at_ : ∀ (i : Nat) (r : List (Int × Int)), R[i]? = some r → ∃ a ys, xs[i]? = some (V.ref a) ∧ H a = some (.lst ys) ∧ FrL K H ys r
theorem MatQ.mono {K : PySem.W.Frag} {H H' : Hp} {xs : List V} {R : List (List (Int × Int))} (f : MatQ K H xs R) (sm : Same H H') : MatQ K H' xs R :=
  ⟨f.len, fun i r h => by obtain ⟨a, ys, e, h1, h2⟩ := f.at_ i r h; exact ⟨a, ys, e, sm _ _ h1, h2.mono sm⟩⟩
theorem MatQ.item {K : PySem.W.Frag} {H : Hp} {xs : List V} {R : List (List (Int × Int))} {i : Nat} {v : V} (f : MatQ K H xs R) (h : xs[i]? = some v) : ∃ r a ys, R[i]? = some r ∧ v = V.ref a ∧ H a = some (.lst ys) ∧ FrL K H ys r := by
  have il := (List.getElem?_eq_some_iff.mp h).1
  have hr := List.getElem?_eq_getElem (show i < R.length by have := f.len; omega)
  obtain ⟨a, ys, e, h1, h2⟩ := f.at_ i _ hr
  rw [h] at e
  cases e
  exact ⟨_, a, ys, hr, rfl, h1, h2⟩
def OffA (D : Addr) (xs : List V) : Prop := ∀ a, V.ref a ∈ xs → a ≠ D
theorem OffA.snoc {D p : Addr} {xs : List V} (h : OffA D xs) (ne : p ≠ D) : OffA D (xs ++ [.ref p]) := fun a ha => by
  rcases List.mem_append.mp ha with c | c
  · exact h a c
  · rw [List.mem_singleton] at c; cases c; exact ne
/-- a row's scale: a multiple of all its denominators, a divisor of B -/
structure ScQ (B : Int) (r : List (Int × Int)) (c : Int) : Prop where
  c0 : 0 < c
  dv : c ∣ B
  al : ∀ q ∈ r, q.2 ∣ c
def whR (r : List (Int × Int)) (c : Int) : List Int := r.map fun q => q.1 * (c / q.2)
def spWhR (K : PySem.W.Frag) : Sp := fun vs H Q _ => ∃ (a : Addr) (xs : List V) (R : List (List (Int × Int))) (B : Nat → Int) (k : Nat) (_ : Unit), vs = [.ref a] ∧ SqL K H a xs ∧ MatQ K H xs R ∧ (∀ (i : Nat) (r : List (Int × Int)), R[i]? = some r → r.length ≤ 100 ∧ ∀ q ∈ r, 0 < q.2 ∧ q.2 ∣ B i ∧ q.1.natAbs < 2 ^ k) ∧ (∀ i, 0 < B i) ∧ (∀ i, (B i).natAbs < 2 ^ 60) ∧ k ≤ 1000 ∧ R.length ≤ 100 ∧
  ∀ (q qs qm : Addr) (zs : List V) (cs : List Int) (Ms : List (List Int)) (H' : Hp), Same H H' → H' q = some (.tup [.ref qs, .ref qm]) → H' qs = some (.lst (cs.map V.int)) → H' qm = some (.lst zs) → LsL H' zs Ms → cs.length = R.length → Ms.length = R.length → (∀ (i : Nat) (r : List (Int × Int)) (c : Int), R[i]? = some r → cs[i]? = some c → ScQ (B i) r c ∧ Ms[i]? = some (whR r c)) → Q (.ref q) H'
def spFiU (K : PySem.W.Frag) : Sp := fun vs H Q _ => ∃ (a : Addr) (xs : List V) (R : List (List Int)) (p : Int) (_ : Unit), vs = [.ref a, .int p] ∧ SqL K H a xs ∧ LsL H xs R ∧ (∀ r ∈ R, 0 < r.length) ∧ 0 < p ∧
  ((∀ r ∈ R, p ∣ r.getD 0 0) → ∀ H', Same H H' → Q .non H') ∧
  ∀ (at_ : Nat) (r : List Int) H', Same H H' → R[at_]? = some r → ¬ p ∣ r.getD 0 0 → Q (.int (at_ : Int)) H'
def spInv (K : PySem.W.Frag) : Sp := fun vs H Q _ => ∃ (n : Int) (p : Nat), vs = [.int n, .int (p : Int)] ∧ Pr p ∧ p < 2 ^ 62 ∧ ¬ (p : Int) ∣ n ∧ ∀ (r : Int) H', Same H H' → 0 ≤ r → r < p → (p : Int) ∣ r * n - 1 → Q (.int r) H'
def spInvU (K : PySem.W.Frag) : Sp := fun vs H Q _ => ∃ (n : Int) (p e : Nat), vs = [.int n, .int (p : Int), .int ((p : Int) ^ e)] ∧ Pr p ∧ p < 2 ^ 62 ∧ 1 ≤ e ∧ (p : Int) ^ e < 2 ^ 1000 ∧ ¬ (p : Int) ∣ n ∧ n.natAbs < 2 ^ 1000 ∧
  ∀ v H', Same H H' → 0 ≤ v → v < (p : Int) ^ e → (p : Int) ^ e ∣ v * n - 1 → Q (.int v) H'
def spDivd (K : PySem.W.Frag) : Sp := fun vs H Q _ => ∃ (a : Addr) (x : List Int) (p e : Nat), vs = [.ref a, .int (p : Int), .int ((p : Int) ^ e)] ∧ SqL K H a (x.map V.int) ∧ 0 < x.length ∧ x.length ≤ 100 ∧ Bits 1000 x ∧ Pr p ∧ p < 2 ^ 62 ∧ 1 ≤ e ∧ (p : Int) ^ e < 2 ^ 1000 ∧ ¬ (p : Int) ∣ x.getD 0 0 ∧
  ∀ q H' line, Same H H' → H q = none → H' q = some (.lst (line.map V.int)) → LinR ((p : Int) ^ e) x line → Bits 1000 line → Q (.ref q) H'
theorem zw_at {f : Int → Int → Int} : ∀ {a b : List Int} {j : Nat}, a.length = b.length → f 0 0 = 0 → (List.zipWith f a b).getD j 0 = f (a.getD j 0) (b.getD j 0)
  | [], [], j, _, h => by show (0 : Int) = f 0 0; rw [h]
  | x :: a, y :: b, 0, _, _ => rfl
  | x :: a, y :: b, j + 1, h, h0 => zw_at (a := a) (b := b) (j := j) (Nat.succ.inj h) h0
def spClrd (K : PySem.W.Frag) : Sp := fun vs H Q _ => ∃ (a b : Addr) (x line : List Int) (m : Int), vs = [.ref a, .ref b, .int m] ∧ SqL K H a (x.map V.int) ∧ SqL K H b (line.map V.int) ∧ x.length = line.length + 1 ∧ x.length ≤ 100 ∧ Bits 1000 x ∧ Bits 1000 line ∧ 0 < m ∧ m < 2 ^ 1000 ∧
  ∀ p H' ys, Same H H' → H p = none → H' p = some (.lst (ys.map V.int)) → ClrR m line x ys → line.length = ys.length → Bits 1000 ys → Q (.ref p) H'
/-- rows with their numbers, none of them one of X -/
structure NR (H : Hp) (X : List Addr) (xs : List V) (R : List (Nat × List Int)) : Prop where
  len : xs.length = R.length
  at_ : ∀ (i : Nat) (q : Nat × List Int), R[i]? = some q → ∃ t a, xs[i]? = some (.ref t) ∧ H t = some (.tup [.int (q.1 : Int), .ref a]) ∧ H a = some (.lst (q.2.map V.int)) ∧ a ∉ X
theorem NR.nil {H : Hp} {X : List Addr} : NR H X [] [] := ⟨rfl, fun i q h => by simp at h⟩
theorem NR.mono {H H' : Hp} {X : List Addr} {xs : List V} {R : List (Nat × List Int)} (h : NR H X xs R) (s : Same H H') : NR H' X xs R := ⟨h.len, fun i q e => by obtain ⟨t, a, h1, h2, h3, h4⟩ := h.at_ i q e; exact ⟨t, a, h1, s _ _ h2, s _ _ h3, h4⟩⟩
theorem NR.upd {H : Hp} {X : List Addr} {xs : List V} {R : List (Nat × List Int)} {D : Addr} {o : HO} {ys : List V} (h : NR H X xs R) (m : D ∈ X) (hD : H D = some (.lst ys)) : NR (upd H D o) X xs R := ⟨h.len, fun i q e => by
  obtain ⟨t, a, h1, h2, h3, h4⟩ := h.at_ i q e
  exact ⟨t, a, h1, by rw [upd_ne (fun z => by rw [z, hD] at h2; cases h2)]; exact h2, by rw [upd_ne (fun z => h4 (by rw [z]; exact m))]; exact h3, h4⟩⟩
theorem NR.erase {H : Hp} {X : List Addr} {xs : List V} {R : List (Nat × List Int)} (h : NR H X xs R) (k : Nat) : NR H X (xs.eraseIdx k) (R.eraseIdx k) := by
  have l := h.len
  refine ⟨by rw [List.length_eraseIdx, List.length_eraseIdx, l], fun i w e => ?_⟩
  rw [List.getElem?_eraseIdx] at e
  rw [List.getElem?_eraseIdx]
  split at e
  · rename_i c; rw [if_pos c]; exact h.at_ _ _ e
  · rename_i c; rw [if_neg c]; exact h.at_ _ _ e
theorem NR.snoc {H : Hp} {X : List Addr} {xs : List V} {R : List (Nat × List Int)} {t a : Addr} {q : Nat × List Int} (h : NR H X xs R) (h1 : H t = some (.tup [.int (q.1 : Int), .ref a])) (h2 : H a = some (.lst (q.2.map V.int))) (h3 : a ∉ X) : NR H X (xs ++ [.ref t]) (R ++ [q]) := by
  have l := h.len
  refine ⟨by rw [List.length_append, List.length_append, l]; rfl, fun i w e => ?_⟩
  by_cases c : i < R.length
  · rw [List.getElem?_append_left c] at e
    obtain ⟨t', a', k1, k2⟩ := h.at_ i w e
    exact ⟨t', a', by rw [List.getElem?_append_left (by omega)]; exact k1, k2⟩
  · have jl := (List.getElem?_eq_some_iff.mp e).1
    rw [List.length_append, List.length_singleton] at jl
    have ji : i = R.length := by omega
    subst ji
    rw [List.getElem?_append_right (Nat.le_refl _), Nat.sub_self] at e
    cases e
    exact ⟨t, a, by rw [List.getElem?_append_right (by omega), l, Nat.sub_self]; rfl, h1, h2, h3⟩
theorem NR.item {H : Hp} {X : List Addr} {xs : List V} {R : List (Nat × List Int)} {i : Nat} {v : V} (h : NR H X xs R) (e : xs[i]? = some v) : ∃ q t a, R[i]? = some q ∧ v = .ref t ∧ H t = some (.tup [.int (q.1 : Int), .ref a]) ∧ H a = some (.lst (q.2.map V.int)) ∧ a ∉ X := by
  have l := h.len
  have il := (List.getElem?_eq_some_iff.mp e).1
  obtain ⟨q, hq⟩ : ∃ q, R[i]? = some q := ⟨_, List.getElem?_eq_getElem (by omega)⟩
  obtain ⟨t, a, h1, h2⟩ := h.at_ i q hq
  rw [e] at h1
  cases h1
  exact ⟨q, t, a, hq, rfl, h2⟩
/-- more addresses that are not in use -/
theorem NR.more {H : Hp} {X : List Addr} {xs : List V} {R : List (Nat × List Int)} {D : Addr} (h : NR H X xs R) (n : H D = none) : NR H (D :: X) xs R := ⟨h.len, fun i q e => by
  obtain ⟨t, a, h1, h2, h3, h4⟩ := h.at_ i q e
  refine ⟨t, a, h1, h2, h3, fun m => ?_⟩
  rcases List.mem_cons.mp m with c | c
  · rw [c, n] at h3; cases h3
  · exact h4 c⟩
/-- what elimination starts with -/
def pivR (p : Int) (W : Nat) (S : List (List Int)) (i : Nat) : Nat × List Int := (i, ((S.getD i []).take W).map fun x => x % p)
def pivM (p : Int) (W : Nat) (S : List (List Int)) : List (Nat × List Int) := (List.range S.length).map (pivR p W S)
theorem pivM_at {p : Int} {W : Nat} {S : List (List Int)} {i : Nat} (h : i < S.length) : (pivM p W S)[i]? = some (pivR p W S i) := by
  unfold pivM
  rw [List.getElem?_map, List.getElem?_range h]
  rfl
theorem pivM_len (p : Int) (W : Nat) (S : List (List Int)) : (pivM p W S).length = S.length := by unfold pivM; rw [List.length_map, List.length_range]
theorem pivM_ok {p : Int} {W : Nat} {S : List (List Int)} (hW : ∀ s ∈ S, W ≤ s.length) : PInv p W (S.map (·.take W)) 0 [] [] (pivM p W S) := .start (by rw [pivM_len, List.length_map]) fun i q hq => by
  have il := (List.getElem?_eq_some_iff.mp hq).1
  rw [pivM_len] at il
  rw [pivM_at il] at hq
  cases hq
  have hs := List.getElem?_eq_getElem il
  have es : S.getD i [] = S[i] := by rw [List.getD_eq_getElem?_getD, hs]; rfl
  have w := hW _ (List.getElem_mem il)
  have em : (S.map (·.take W)).getD i [] = S[i].take W := by rw [List.getD_eq_getElem?_getD, List.getElem?_map, hs]; rfl
  refine ⟨rfl, ?_, ?_, fun j => ?_⟩
  · show (((S.getD i []).take W).map _).length = W
    rw [List.length_map, es, List.length_take]; omega
  · show (((S.getD i []).take W).map _).length = _
    rw [List.length_map, es, em]
  · rw [em]
    show p ∣ (((S.getD i []).take W).map fun x => x % p).getD j 0 - _
    rw [es, getD_map (f := fun x => x % p) (Int.zero_emod p) _ j]
    have := Int.mul_ediv_add_emod ((S[i].take W).getD j 0) p
    exact ⟨-((S[i].take W).getD j 0 / p), by rw [Int.mul_neg]; omega⟩
theorem seq_nat {k n : Nat} (h : k < n) : seqIndex? (k : Int) n = some k := by
  unfold seqIndex?
  simp
  omega
/-- a row of numbers in the heap is none of D -/
def Off (D : Addr) (xs : List V) : Prop := ∀ a, V.ref a ∈ xs → a ≠ D
theorem Off.snoc {D p : Addr} {xs : List V} (h : Off D xs) (ne : p ≠ D) : Off D (xs ++ [.ref p]) := fun a ha => by
  rcases List.mem_append.mp ha with c | c
  · exact h a c
  · rw [List.mem_singleton] at c; cases c; exact ne
theorem get_map_nat {l : List Nat} {i : Nat} {v : V} (h : (l.map fun i : Nat => V.int (i : Int))[i]? = some v) : ∃ j, l[i]? = some j ∧ V.int (j : Int) = v := by
  rw [List.getElem?_map] at h
  cases e : l[i]? with
  | none => rw [e] at h; cases h
  | some j => rw [e] at h; exact ⟨j, rfl, Option.some.inj h⟩
theorem LsL.row {H : Hp} {xs : List V} {Ms : List (List Int)} {i : Nat} (hL : LsL H xs Ms) (hi : i < Ms.length) : ∃ ra r, xs[i]? = some (.ref ra) ∧ H ra = some (.lst (r.map V.int)) ∧ Ms[i]? = some r := by
  obtain ⟨a, e1, e2⟩ := hL.at_ i _ (List.getElem?_eq_getElem hi)
  exact ⟨a, _, e1, e2, List.getElem?_eq_getElem hi⟩
theorem mat_cell {Ms : List (List Int)} {i c : Nat} {r : List Int} (h : Ms[i]? = some r) (hc : c < r.length) : (r.map V.int)[c]? = some (.int (mat Ms i c)) := by
  have e : mat Ms i c = r[c] := by
    unfold mat
    rw [List.getD_eq_getElem?_getD, List.getD_eq_getElem?_getD (l := Ms), h]
    show (r[c]?).getD 0 = _
    rw [List.getElem?_eq_getElem hc]; rfl
  rw [List.getElem?_map, List.getElem?_eq_getElem hc, e]; rfl
theorem mat_row {Ms : List (List Int)} {i n : Nat} {r : List Int} (h : Ms[i]? = some r) (hn : n ≤ r.length) : r.take n = (List.range n).map fun c => mat Ms i c := by
  refine List.ext_getElem? fun k => ?_
  by_cases c : k < n
  · rw [List.getElem?_take, if_pos c, List.getElem?_map, List.getElem?_range c]
    have := mat_cell (c := k) h (by omega)
    rw [List.getElem?_map] at this
    cases e : r[k]? with
    | none => rw [e] at this; cases this
    | some x =>
      rw [e] at this
      have := Option.some.inj this
      cases this
      rfl
  · rw [List.getElem?_take, if_neg c, List.getElem?_eq_none (by rw [List.length_map, List.length_range]; omega)]
/-- every stage of the elimination -/
def PHist (p : Int) (W : Nat) (Ms : List (List Int)) (idx cols : List Nat) (k : Nat) : Prop := ∀ t, t ≤ k → ∃ n rest', n ≤ cols.length ∧ PInv p W Ms t (idx.take n) (cols.take n) rest' ∧ ∀ c ∈ cols.drop n, t ≤ c
theorem PHist.none {p : Int} {W : Nat} {Ms : List (List Int)} {idx cols : List Nat} {k : Nat} {R : List (Nat × List Int)} (h : PHist p W Ms idx cols k) (P : PInv p W Ms (k + 1) idx cols R) : PHist p W Ms idx cols (k + 1) := fun t ht => by
  by_cases c : t ≤ k
  · exact h t c
  · have e : t = k + 1 := by omega
    subst e
    exact ⟨cols.length, R, Nat.le_refl _, by rw [List.take_of_length_le (by rw [P.len]; exact Nat.le_refl _), List.take_length]; exact P, fun c hc => by rw [List.drop_length] at hc; cases hc⟩
theorem PHist.step {p : Int} {W : Nat} {Ms : List (List Int)} {idx cols : List Nat} {k a : Nat} {R : List (Nat × List Int)} (h : PHist p W Ms idx cols k) (il : idx.length = cols.length) (P : PInv p W Ms (k + 1) (idx ++ [a]) (cols ++ [k]) R) : PHist p W Ms (idx ++ [a]) (cols ++ [k]) (k + 1) := fun t ht => by
  by_cases c : t ≤ k
  · obtain ⟨n, r, h1, h2, h3⟩ := h t c
    refine ⟨n, r, by rw [List.length_append]; omega, by rw [List.take_append_of_le_length (by omega), List.take_append_of_le_length h1]; exact h2, fun x hx => ?_⟩
    rw [List.drop_append_of_le_length h1] at hx
    rcases List.mem_append.mp hx with z | z
    · exact h3 x z
    · rw [List.mem_singleton.mp z]; exact c
  · have e : t = k + 1 := by omega
    subst e
    exact ⟨(cols ++ [k]).length, R, Nat.le_refl _, by rw [List.take_of_length_le (by rw [P.len]; exact Nat.le_refl _), List.take_length]; exact P, fun c hc => by rw [List.drop_length] at hc; cases hc⟩
def spPiv (K : PySem.W.Frag) : Sp := fun vs H Q _ => ∃ (a : Addr) (xs : List V) (S : List (List Int)) (W p : Nat) (_ : Unit), vs = [.ref a, .int (W : Int), .int (p : Int)] ∧ SqL K H a xs ∧ LsL H xs S ∧ Pr p ∧ p < 2 ^ 62 ∧ (∀ s ∈ S, W ≤ s.length) ∧ S.length ≤ 60 ∧ W ≤ 60 ∧
  ∀ q qi qc idx cols rest H', Same H H' → H' q = some (.tup [.ref qi, .ref qc]) → H' qi = some (.lst (idx.map fun i : Nat => V.int (i : Int))) → H' qc = some (.lst (cols.map fun i : Nat => V.int (i : Int))) → PInv (p : Int) W (S.map (·.take W)) W idx cols rest → H qi = none → H qc = none → PHist (p : Int) W (S.map (·.take W)) idx cols W → Q (.ref q) H'
def spHeiB (K : PySem.W.Frag) : Sp := fun vs H Q _ => ∃ (a : Addr) (xs : List Int), vs = [.ref a] ∧ (SqL K H a (xs.map V.int) ∨ SqT K H a (xs.map V.int)) ∧ xs.length ≤ 400 ∧
  ∀ (h : Nat) H', Same H H' → (∀ i, (xs.getD i 0).natAbs ≤ h) → (∀ k, (∀ x ∈ xs, x.natAbs < 2 ^ k) → h < 2 ^ k) → Q (.int (h : Int)) H'
def spPowI (K : PySem.W.Frag) : Sp := fun vs H Q _ => ∃ (b e : Int) (k : Nat), vs = [.int b, .int e] ∧ 0 ≤ e ∧ b.natAbs < 2 ^ k ∧ k * e.toNat + 10 ≤ 900000 ∧ Q (.int (b ^ e.toNat)) H
theorem pow_side {b x y : Int} {k r s n : Nat} (hb : b.natAbs < 2 ^ k) (hk : k * n + 10 ≤ 900000) (h : r + s ≤ n) (hx : x = b ^ r) (hy : y = b ^ s) : CMulW x y := by
  rw [hx, hy]
  have z := Nat.mul_le_mul_left k h
  rw [Nat.mul_add] at z
  exact mulW (pow_bits hb r) (pow_bits hb s) (by omega)
/-- the rows that elimination starts with -/
def augR (M : Int) (S : List (List Int)) (i : Nat) : List Int := (S.getD i []).map (fun x => x % M) ++ (List.range S.length).map fun j => if i = j then 1 else 0
def augM (M : Int) (S : List (List Int)) : List (List Int) := (List.range S.length).map (augR M S)
theorem augM_at {M : Int} {S : List (List Int)} {i : Nat} (h : i < S.length) : (augM M S)[i]? = some (augR M S i) := by
  unfold augM
  rw [List.getElem?_map, List.getElem?_range h]
  rfl
theorem augM_len (M : Int) (S : List (List Int)) : (augM M S).length = S.length := by unfold augM; rw [List.length_map, List.length_range]
theorem aug_ok {M : Int} {S : List (List Int)} (sl : ∀ s ∈ S, s.length = S.length) : Aug M S (augM M S) := ⟨augM_len M S, fun i s row hs hrow => by
  have il := (List.getElem?_eq_some_iff.mp hs).1
  rw [augM_at il] at hrow
  cases hrow
  have l := sl s (List.mem_of_getElem? hs)
  have es : S.getD i [] = s := by rw [List.getD_eq_getElem?_getD, hs]; rfl
  refine ⟨l, s.map (fun x => x % M), (List.range S.length).map fun j => if i = j then 1 else 0, by unfold augR; rw [es], by rw [List.length_map]; exact l, by rw [List.length_map, List.length_range], fun j => ?_, fun j => ?_⟩
  · rw [getD_map (f := fun x => x % M) (Int.zero_emod M) s j]
    have := Int.mul_ediv_add_emod (s.getD j 0) M
    exact ⟨-(s.getD j 0 / M), by rw [Int.mul_neg]; omega⟩
  · rw [List.getD_eq_getElem?_getD, List.getElem?_map]
    by_cases c : j < S.length
    · rw [List.getElem?_range c]
      by_cases k : i = j
      · rw [if_pos k.symm]; show (if i = j then (1 : Int) else 0) = 1; rw [if_pos k]
      · rw [if_neg (fun z => k z.symm)]; show (if i = j then (1 : Int) else 0) = 0; rw [if_neg k]
    · rw [List.getElem?_eq_none (by rw [List.length_range]; omega), if_neg (by omega)]; rfl⟩
theorem LinR.down {m M : Int} {P line : List Int} (h : LinR M P line) (d : m ∣ M) : LinR m P line := ⟨h.len, by obtain ⟨v, hv⟩ := h.unit; exact ⟨v, Int.dvd_trans d hv⟩, fun j => Int.dvd_trans d (h.at_ j)⟩
theorem ClrR.down {m M : Int} {line x y : List Int} (h : ClrR M line x y) (d : m ∣ M) : ClrR m line x y := ⟨h.len, fun j => Int.dvd_trans d (h.at_ j)⟩
theorem ClrL.down {m M : Int} {line : List Int} {xs ys : List (List Int)} (h : ClrL M line xs ys) (d : m ∣ M) : ClrL m line xs ys := ⟨h.len, fun i x y hx hy => ⟨(h.at_ i x y hx hy).1.down d, (h.at_ i x y hx hy).2⟩⟩
theorem pop_iff {α : Type} {xs : List α} {k : Nat} {P : α} (h : xs[k]? = some P) (Φ : α → Prop) : (∀ r ∈ xs, Φ r) ↔ (Φ P ∧ ∀ r ∈ xs.eraseIdx k, Φ r) := by
  have ha := (List.getElem?_eq_some_iff.mp h).1
  have ea := (List.getElem?_eq_some_iff.mp h).2
  have er : xs.eraseIdx k = xs.take k ++ xs.drop (k + 1) := List.eraseIdx_eq_take_drop_succ ..
  have spl : xs = xs.take k ++ P :: xs.drop (k + 1) := by rw [← ea, List.getElem_cons_drop_succ_eq_drop ha, List.take_append_drop]
  constructor
  · exact fun g => ⟨g P (List.mem_of_getElem? h), fun row hr => g row (List.mem_of_mem_eraseIdx hr)⟩
  · rintro ⟨h1, h2⟩ row hr
    rw [spl] at hr
    rcases List.mem_append.mp hr with c | c
    · exact h2 row (by rw [er]; exact List.mem_append.mpr (.inl c))
    · rcases List.mem_cons.mp c with c | c
      · rw [c]; exact h1
      · exact h2 row (by rw [er]; exact List.mem_append.mpr (.inr c))
theorem LsL.erase {H : Hp} {xs : List V} {ws : List (List Int)} (f : LsL H xs ws) (k : Nat) : LsL H (xs.eraseIdx k) (ws.eraseIdx k) := by
  have l := f.len
  refine ⟨by rw [List.length_eraseIdx, List.length_eraseIdx, l], fun i w h => ?_⟩
  rw [List.getElem?_eraseIdx] at h
  rw [List.getElem?_eraseIdx]
  split at h
  · rename_i c; rw [if_pos c]; exact f.at_ _ _ h
  · rename_i c; rw [if_neg c]; exact f.at_ _ _ h
/-- rows cleared, the first i of them -/
structure ClrT (m : Int) (line : List Int) (xs ys : List (List Int)) (i : Nat) : Prop where
  len : ys.length = i
  at_ : ∀ (j : Nat) (x y : List Int), xs[j]? = some x → ys[j]? = some y → ClrR m line x y ∧ line.length = y.length
  b : ∀ y ∈ ys, Bits 1000 y
theorem ClrT.start {m : Int} {line : List Int} {xs : List (List Int)} : ClrT m line xs [] 0 := ⟨rfl, fun j x y _ h => by simp at h, fun y h => absurd h (by simp)⟩
theorem ClrT.snoc {m : Int} {line x y : List Int} {xs ys : List (List Int)} {i : Nat} (h : ClrT m line xs ys i) (hx : xs[i]? = some x) (c : ClrR m line x y) (l : line.length = y.length) (b : Bits 1000 y) : ClrT m line xs (ys ++ [y]) (i + 1) := by
  have yl := h.len
  refine ⟨by rw [List.length_append, yl]; rfl, fun j x' y' h1 h2 => ?_, fun z hz => ?_⟩
  · by_cases k : j < ys.length
    · rw [List.getElem?_append_left k] at h2
      exact h.at_ j x' y' h1 h2
    · have jl := (List.getElem?_eq_some_iff.mp h2).1
      rw [List.length_append, List.length_singleton] at jl
      have ji : j = i := by omega
      subst ji
      rw [hx] at h1
      rw [List.getElem?_append_right (by omega), yl, Nat.sub_self] at h2
      cases h1
      cases h2
      exact ⟨c, l⟩
  · rcases List.mem_append.mp hz with k | k
    · exact h.b z k
    · rw [List.mem_singleton.mp k]; exact b
theorem ClrT.fin {m : Int} {line : List Int} {xs ys : List (List Int)} (h : ClrT m line xs ys xs.length) : ClrL m line xs ys := ⟨h.len.symm, h.at_⟩
def spInvM (K : PySem.W.Frag) : Sp := fun vs H Q _ => ∃ (a : Addr) (xs : List V) (S : List (List Int)) (p e : Nat) (_ : Unit), vs = [.ref a, .int (p : Int), .int ((p : Int) ^ e)] ∧ SqL K H a xs ∧ LsL H xs S ∧ Pr p ∧ p < 2 ^ 62 ∧ 1 ≤ e ∧ (p : Int) ^ e < 2 ^ 1000 ∧ NS (p : Int) S ∧ (∀ s ∈ S, s.length = S.length) ∧ S.length ≤ 30 ∧
  ∀ q H' ys B, Same H H' → H q = none → H' q = some (.lst ys) → LsL H' ys B → B.length = S.length → (∀ f ∈ B, f.length = S.length ∧ Bits 1000 f) → (∀ (y : Nat → Int) (i : Nat) (s : List Int), S[i]? = some s → (p : Int) ^ e ∣ dI s (fun j => dI (B.getD j []) y 0) 0 - y i) → Q (.ref q) H'
def dotI : List Int → List Int → Int
  | x :: xs, y :: ys => x * y + dotI xs ys
  | _, _ => 0
theorem zip_sum : ∀ xs ys : List Int, (List.zipWith (· * ·) xs ys).sum = dotI xs ys
  | [], ys => by cases ys <;> rfl
  | x :: xs, [] => rfl
  | x :: xs, y :: ys => by rw [List.zipWith_cons_cons, List.sum_cons, zip_sum xs ys]; rfl
def spInn (K : PySem.W.Frag) : Sp := fun vs H Q _ => ∃ (a b : Addr) (xs ys : List Int) (i j : Nat), vs = [.ref a, .ref b] ∧ SqL K H a (xs.map V.int) ∧ SqL K H b (ys.map V.int) ∧ xs.length = ys.length ∧ xs.length ≤ 400 ∧ (∀ x ∈ xs, x.natAbs < 2 ^ i) ∧ (∀ y ∈ ys, y.natAbs < 2 ^ j) ∧ i + j + 2 ≤ 900000 ∧
  ∀ H', Same H H' → Q (.int (dotI xs ys)) H'
def spNear (K : PySem.W.Frag) : Sp := fun vs H Q _ => ∃ (n m : Int) (_ : Unit), vs = [.int n, .int m] ∧ 0 < m ∧ m.natAbs < 2 ^ 5000 ∧ ∀ r : Int, m ∣ r - n → 2 * r.natAbs ≤ m.natAbs → Q (.int r) H
def spFst (K : PySem.W.Frag) : Sp := fun vs H Q _ => ∃ (h l b : Int) (_ : Unit), vs = [.int h, .int l, .int b] ∧ 0 < h ∧ h < 2 ^ 1000 ∧ 0 < l ∧ l < 2 ^ 1000 ∧
  ∀ p a c H', Same H H' → H' p = some (.tup [.ref a, .ref c]) → H' a = some (.tup [.int 0, .int 1]) → H' c = some (.tup [.int 1, .int (h / l)]) → Q (.ref p) H'
def spDeno (K : PySem.W.Frag) : Sp := fun vs H Q _ => ∃ (R M B : Int) (_ : Unit), vs = [.int R, .int M, .int B] ∧ 0 < M ∧ M < 2 ^ 1000 ∧ 0 ≤ B ∧ B < M ∧ M < (B + 1) * (B + 1) ∧
  ∀ f H', Same H H' → 1 ≤ f → f ≤ B → (∃ s u v : Int, (f * R - s * M).natAbs ≤ B.natAbs ∧ u * f + v * s = 1) → (∀ a b : Int, 1 ≤ b → Nat.gcd a.natAbs b.natAbs = 1 → M ∣ b * R - a → B.natAbs * (a.natAbs + b.natAbs) < M.natAbs → f = b) → Q (.int f) H'
theorem prL_push {H : Hp} {p D : Addr} {us : List V} {ps : List (Int × Int)} {x : Int × Int} (pl : PrL H us ps) (hD : H D = some (.lst us)) (np : H p = none) : PrL (upd (upd H p (prO x)) D (.lst (us ++ [.ref p]))) (us ++ [.ref p]) (ps ++ [x]) := by
  have s2 := sm_new (o := prO x) np
  exact ((pl.mono s2).upd (s2 _ _ hD)).snoc (by
    have pD : p ≠ D := fun z => by rw [z, hD] at np; cases np
    rw [upd_ne pD, upd_same])
theorem getD_mapP {f : Int × Int → Int} {ps : List (Int × Int)} {i : Nat} : (ps.map f).getD i 0 = (match ps[i]? with | some q => f q | none => 0) := by
  rw [List.getD_eq_getElem?_getD, List.getElem?_map]
  cases ps[i]? <;> rfl
/-- the fractions N / D behind residues -/
def RecM (A C : Nat) (M : Int) (xs : List Int) (N : Nat → Int) (D : Int) : Prop := ∀ B : Int, 0 ≤ B → B * B ≤ M → M < (B + 1) * (B + 1) → Rec2 A C M B (M / 2 ^ (Builtin.Int.intBits M / 4)) xs N D
theorem sm_off {H H' : Hp} {a : Addr} (s : Same H H') (n : H' a = none) : H a = none := by
  cases hq : H a with
  | none => rfl
  | some o => rw [s _ _ hq] at n; cases n
def spComF (K : PySem.W.Frag) : Sp := fun vs H Q _ => ∃ (a : Addr) (xs : List Int) (M d0 : Int) (_ : Unit), vs = [.ref a, .int M, .int d0] ∧ SqL K H a (xs.map V.int) ∧ xs.length ≤ 100 ∧ Bits 1000 xs ∧ 2 ≤ M ∧ M < 2 ^ 1000 ∧ 1 ≤ d0 ∧ d0 < 2 ^ 1000 ∧
  ((∀ A C N D, RecM A C M xs N D → d0 ∣ D → False) → ∀ H', Same H H' → Q .non H') ∧
  ∀ p pn nums d H', Same H H' → H' p = some (.tup [.ref pn, .int d]) → H' pn = some (.lst (nums.map V.int)) → H pn = none → nums.length = xs.length → 1 ≤ d → d < 2 ^ 1000 → Bits 2100 nums → (∀ A C N D, RecM A C M xs N D → d0 ∣ D → d ∣ D ∧ ∀ i, i < xs.length → nums.getD i 0 * D = N i * d) → (∀ (N : Nat → Int) (D : Int), 16 ≤ M → 1 ≤ D → (∀ c w : Int, c ∣ D → M ∣ c * w → M ∣ w) → (∀ i, i < xs.length → M ∣ D * xs.getD i 0 - N i) → d0 ∣ D → (∀ i, i < xs.length → nums.getD i 0 * D = N i * d) → d ∣ D) → Q (.ref p) H'
theorem dot_dI {z : Nat → Int} : ∀ {xs ys : List Int} {t : Nat}, (∀ j, z (t + j) = ys.getD j 0) → xs.length = ys.length → dotI xs ys = dI xs z t
  | [], ys, t, _, _ => by cases ys <;> rfl
  | x :: xs, [], t, _, h => by simp at h
  | x :: xs, y :: ys, t, h, l => by
    show x * y + dotI xs ys = x * z t + dI xs z (t + 1)
    rw [dot_dI (z := z) (t := t + 1) (fun j => by rw [show t + 1 + j = t + (j + 1) by omega]; exact h (j + 1)) (Nat.succ.inj l), show z t = y from h 0]
def spSols (K : PySem.W.Frag) : Sp := fun vs H Q _ => ∃ (a b c pn : Addr) (xs : List V) (S : List (List Int)) (rs nums : List Int) (d : Int) (_ : Unit) (_ : Unit) (_ : Unit), vs = [.ref a, .ref b, .ref c] ∧ SqL K H a xs ∧ LsL H xs S ∧ SqL K H b (rs.map V.int) ∧ H c = some (.tup [.ref pn, .int d]) ∧ H pn = some (.lst (nums.map V.int)) ∧ S.length = rs.length ∧ (∀ s ∈ S, s.length = nums.length ∧ Bits 2200 s) ∧ nums.length ≤ 100 ∧ S.length ≤ 100 ∧ Bits 2200 nums ∧ Bits 2200 rs ∧ d.natAbs < 2 ^ 2200 ∧
  ∀ (r : Bool) H', Same H H' → (r = true ↔ ∀ (i : Nat) (s : List Int), S[i]? = some s → dI s (fun j => nums.getD j 0) 0 = rs.getD i 0 * d) → Q (.bl r) H'
/-- a system and what is asked of it -/
structure LfP (S B : List (List Int)) (rs : List Int) (p e : Nat) : Prop where
  pp : Pr p
  e1 : 1 ≤ e
  lo : (2 : Int) ^ 991 ≤ ((p : Int) ^ e) ^ 4
  hi : ((p : Int) ^ e) ^ 4 < 2 ^ 1000
  big : (2 : Int) ^ 200 ≤ (p : Int) ^ e
  n30 : S.length ≤ 30
  ls : ∀ w ∈ S, w.length = S.length ∧ Bits 60 w
  lr : rs.length = S.length
  br : Bits 100 rs
  lB : B.length = S.length
  bB : ∀ w ∈ B, w.length = S.length ∧ Bits 1000 w
  ns : NS (p : Int) S
  inv : ∀ (y : Nat → Int) (i : Nat) (w : List Int), S[i]? = some w → (p : Int) ^ e ∣ dI w (fun j => dI (B.getD j []) y 0) 0 - y i
def spLift (K : PySem.W.Frag) : Sp := fun vs H Q _ => ∃ (a b c : Addr) (xs zs : List V) (S B : List (List Int)) (rs : List Int) (p e : Nat) (d0 : Int), vs = [.ref a, .ref b, .ref c, .int ((p : Int) ^ e), .int d0] ∧ SqL K H a xs ∧ LsL H xs S ∧ SqL K H b (rs.map V.int) ∧ SqL K H c zs ∧ LsL H zs B ∧ LfP S B rs p e ∧ 1 ≤ d0 ∧ d0 < 2 ^ 1000 ∧ (∃ N D, SolC S rs p N D ∧ d0 ∣ D) ∧
  ∀ q pn nums d H', Same H H' → H' q = some (.tup [.ref pn, .int d]) → H' pn = some (.lst (nums.map V.int)) → H pn = none → nums.length = S.length → 1 ≤ d → d < 2 ^ 1000 → Bits 2100 nums → (∀ (i : Nat) (w : List Int), S[i]? = some w → dI w (fun j => nums.getD j 0) 0 = rs.getD i 0 * d) → (∀ N D, SolC S rs p N D → d0 ∣ D → d ∣ D) → Q (.ref q) H'
/-- a system that has one solution modulo the prime -/
structure SlQ (S : List (List Int)) (p : Nat) : Prop where
  pp : Pr p
  lo : 2147483647 ≤ p
  hi : p < 2148532224
  n20 : S.length ≤ 20
  ls : ∀ w ∈ S, w.length = S.length ∧ Bits 60 w
  ns : NS (p : Int) S
/-- solutions over divisors of L, in a list F -/
structure AnsL (F : Addr) (H : Hp) (ws : List V) (S rss : List (List Int)) (L : Int) : Prop where
  len : ws.length = rss.length
  at_ : ∀ (k : Nat) (rs : List Int), rss[k]? = some rs → ∃ (t pn : Addr) (nums : List Int) (d : Int), ws[k]? = some (.ref t) ∧ t ≠ F ∧ pn ≠ F ∧ H t = some (.tup [.ref pn, .int d]) ∧ H pn = some (.lst (nums.map V.int)) ∧ nums.length = S.length ∧ 1 ≤ d ∧ d < 2 ^ 1000 ∧ d ∣ L ∧ Bits 2100 nums ∧ ∀ (i : Nat) (w : List Int), S[i]? = some w → dI w (fun j => nums.getD j 0) 0 = rs.getD i 0 * d
theorem AnsL.nil {F : Addr} {H : Hp} {S : List (List Int)} {L : Int} : AnsL F H [] S [] L := ⟨rfl, fun k rs h => by simp at h⟩
theorem AnsL.mono {F : Addr} {H H' : Hp} {ws : List V} {S rss : List (List Int)} {L : Int} (h : AnsL F H ws S rss L) (s : Same H H') : AnsL F H' ws S rss L := ⟨h.len, fun k rs e => by
  obtain ⟨t, pn, nums, d, h1, h2, h3, h4, h5, h6⟩ := h.at_ k rs e
  exact ⟨t, pn, nums, d, h1, h2, h3, s _ _ h4, s _ _ h5, h6⟩⟩
theorem AnsL.snoc {F : Addr} {H : Hp} {ws : List V} {S rss : List (List Int)} {L : Int} {o : HO} {rs : List Int} {t pn : Addr} {nums : List Int} {d : Int} (h : AnsL F H ws S rss L) (n1 : t ≠ F) (n2 : pn ≠ F) (h1 : H t = some (.tup [.ref pn, .int d])) (h2 : H pn = some (.lst (nums.map V.int))) (h3 : nums.length = S.length ∧ 1 ≤ d ∧ d < 2 ^ 1000 ∧ d ∣ L ∧ Bits 2100 nums ∧ ∀ (i : Nat) (w : List Int), S[i]? = some w → dI w (fun j => nums.getD j 0) 0 = rs.getD i 0 * d) : AnsL F (upd H F o) (ws ++ [.ref t]) S (rss ++ [rs]) L := by
  refine ⟨by rw [List.length_append, List.length_append, h.len]; rfl, fun k r e => ?_⟩
  by_cases c : k < rss.length
  · rw [List.getElem?_append_left c] at e
    obtain ⟨t', pn', nums', d', k1, k2, k3, k4, k5, k6⟩ := h.at_ k r e
    exact ⟨t', pn', nums', d', by rw [List.getElem?_append_left (by rw [h.len]; exact c)]; exact k1, k2, k3, by rw [upd_ne k2]; exact k4, by rw [upd_ne k3]; exact k5, k6⟩
  · have jl := (List.getElem?_eq_some_iff.mp e).1
    rw [List.length_append, List.length_singleton] at jl
    have ek : k = rss.length := by omega
    subst ek
    rw [List.getElem?_append_right (Nat.le_refl _), Nat.sub_self] at e
    cases e
    exact ⟨t, pn, nums, d, by rw [List.getElem?_append_right (by rw [h.len]; exact Nat.le_refl _), h.len, Nat.sub_self]; rfl, n1, n2, by rw [upd_ne n1]; exact h1, by rw [upd_ne n2]; exact h2, h3⟩
def spSlvd (K : PySem.W.Frag) : Sp := fun vs H Q _ => ∃ (a b : Addr) (xs us : List V) (S rss : List (List Int)) (p : Nat) (L : Int), vs = [.ref a, .ref b, .int (p : Int)] ∧ SqL K H a xs ∧ LsL H xs S ∧ SqL K H b us ∧ LsL H us rss ∧ SlQ S p ∧ rss.length ≤ 20 ∧ (∀ rs ∈ rss, rs.length = S.length ∧ Bits 100 rs ∧ ∃ N, SolC S rs p N L) ∧
  ∀ q ws H', Same H H' → H' q = some (.lst ws) → H q = none → AnsL q H' ws S rss L → Q (.ref q) H'
theorem pow8 {p : Nat} (lo : 2147483647 ≤ p) (hi : p < 2148532224) : (2 : Int) ^ 991 ≤ ((p : Int) ^ 8) ^ 4 ∧ ((p : Int) ^ 8) ^ 4 < 2 ^ 1000 ∧ (2 : Int) ^ 200 ≤ (p : Int) ^ 8 ∧ (p : Int) ^ 8 < 2 ^ 1000 := by
  have e : ((p : Int) ^ 8) ^ 4 = ((p ^ 32 : Nat) : Int) := by rw [← Int.pow_mul]; exact (Int.natCast_pow p 32).symm
  have e8 : (p : Int) ^ 8 = ((p ^ 8 : Nat) : Int) := (Int.natCast_pow p 8).symm
  have c1 : 2 ^ 991 ≤ 2147483647 ^ 32 := by decide +kernel
  have c2 : 2148532224 ^ 32 < 2 ^ 1000 := by decide +kernel
  have c3 : 2 ^ 200 ≤ 2147483647 ^ 8 := by decide +kernel
  have c4 : 2148532224 ^ 8 < 2 ^ 1000 := by decide +kernel
  have h1 : 2147483647 ^ 32 ≤ p ^ 32 := Nat.pow_le_pow_left lo 32
  have h2 : p ^ 32 ≤ 2148532224 ^ 32 := Nat.pow_le_pow_left (Nat.le_of_lt hi) 32
  have h3 : 2147483647 ^ 8 ≤ p ^ 8 := Nat.pow_le_pow_left lo 8
  have h4 : p ^ 8 ≤ 2148532224 ^ 8 := Nat.pow_le_pow_left (Nat.le_of_lt hi) 8
  rw [e, e8]
  exact ⟨Int.ofNat_le.mpr (Nat.le_trans c1 h1), Int.ofNat_lt.mpr (Nat.lt_of_le_of_lt h2 c2), Int.ofNat_le.mpr (Nat.le_trans c3 h3), Int.ofNat_lt.mpr (Nat.lt_of_le_of_lt h4 c4)⟩
/-- entries put at their places -/
def sprP : List (Int × Int) → List Nat → List (Int × Int) → List (Int × Int)
  | ts, j :: js, x :: xs => sprP (ts.set j x) js xs
  | ts, _, _ => ts
theorem sprP_snoc : ∀ {ts : List (Int × Int)} {js : List Nat} {xs : List (Int × Int)} {j : Nat} {x : Int × Int}, js.length = xs.length → sprP ts (js ++ [j]) (xs ++ [x]) = (sprP ts js xs).set j x
  | _, [], [], _, _, _ => rfl
  | _, _ :: js, _ :: xs, _, _, h => sprP_snoc (js := js) (xs := xs) (Nat.succ.inj h)
theorem sprP_len : ∀ {ts : List (Int × Int)} {js : List Nat} {xs : List (Int × Int)}, (sprP ts js xs).length = ts.length
  | _, [], _ => by unfold sprP; rfl
  | _, _ :: _, [] => by unfold sprP; rfl
  | ts, j :: js, x :: xs => by rw [sprP, sprP_len, List.length_set]
theorem VF.set {K : PySem.W.Frag} {k : Nat} {H : Hp} {xs : List V} {ps : List (Int × Int)} {a dx : Addr} {n d : Int} {x : Int × Int} (f : VF K k H xs ps) (j : Nat) (h : H a = some (.ins (CF K) dx (fsF n d))) (l : Lw k n d) (e : Fq x.1 x.2 n d) : VF K k H (xs.set j (.ref a)) (ps.set j x) := by
  obtain ⟨qs, h1, h2, h3, h4⟩ := f
  refine ⟨qs.set j (n, d), ⟨by rw [List.length_set, List.length_set]; exact h1.len, fun i q hq => ?_⟩, fun q hq => ?_, by rw [List.length_set, List.length_set]; exact h3, fun i x' q hx hq => ?_⟩
  · rw [List.getElem?_set] at hq ⊢
    by_cases c : j = i
    · rw [if_pos c] at hq ⊢
      by_cases c2 : i < qs.length
      · rw [if_pos (by omega)] at hq
        cases hq
        rw [if_pos (by rw [h1.len]; omega)]
        exact ⟨a, dx, rfl, h⟩
      · rw [if_neg (by omega)] at hq; cases hq
    · rw [if_neg c] at hq ⊢
      exact h1.at_ i q hq
  · rcases List.mem_or_eq_of_mem_set hq with k | k
    · exact h2 q k
    · rw [k]; exact l
  · rw [List.getElem?_set] at hx hq
    by_cases c : j = i
    · rw [if_pos c] at hx hq
      by_cases c2 : i < qs.length
      · rw [if_pos (by omega)] at hx hq
        cases hx
        cases hq
        exact e
      · rw [if_neg (by omega)] at hq; cases hq
    · rw [if_neg c] at hx hq
      exact h4 i x' q hx hq
theorem sprP_out : ∀ {ts : List (Int × Int)} {js : List Nat} {xs : List (Int × Int)} {i : Nat}, i ∉ js → (sprP ts js xs)[i]? = ts[i]?
  | _, [], _, _, _ => by unfold sprP; rfl
  | _, _ :: _, [], _, _ => by unfold sprP; rfl
  | ts, j :: js, x :: xs, i, h => by
    rw [sprP, sprP_out (fun z => h (List.mem_cons_of_mem _ z)), List.getElem?_set_ne (fun z => h (by rw [z]; exact List.mem_cons_self ..))]
theorem sprP_at : ∀ {ts : List (Int × Int)} {js : List Nat} {xs : List (Int × Int)} {i k : Nat} {q : Int × Int}, js.Nodup → js[k]? = some i → xs[k]? = some q → i < ts.length → (sprP ts js xs)[i]? = some q
  | _, [], _, _, _, _, _, h, _, _ => by simp at h
  | _, _ :: _, [], _, _, _, _, _, h, _ => by simp at h
  | ts, j :: js, x :: xs, i, 0, q, nd, h1, h2, hl => by
    cases h1
    cases h2
    rw [sprP, sprP_out (List.nodup_cons.mp nd).1, List.getElem?_set_self hl]
  | ts, j :: js, x :: xs, i, k + 1, q, nd, h1, h2, hl => by
    rw [sprP]
    exact sprP_at (List.nodup_cons.mp nd).2 h1 h2 (by rw [List.length_set]; exact hl)
/-- fractions in a list: z j over den -/
structure VecQ (n : Nat) (ps : List (Int × Int)) (z : Nat → Int) (den : Int) : Prop where
  len : ps.length = n
  d1 : 1 ≤ den
  at_ : ∀ j, j < n → ∃ q, ps[j]? = some q ∧ 0 < q.2 ∧ q.1 * den = z j * q.2
theorem spr_vec {n : Nat} {js : List Nat} {xs : List (Int × Int)} {y : Nat → Int} {den : Int} (nd : js.Nodup) (hj : ∀ j ∈ js, j < n) (l : js.length = xs.length) (d1 : 1 ≤ den) (hx : ∀ (k : Nat) (q : Int × Int), xs[k]? = some q → 0 < q.2 ∧ q.1 * den = y k * q.2) : VecQ n (sprP (List.replicate n (0, 1)) js xs) (spr js y 0) den := by
  refine ⟨by rw [sprP_len, List.length_replicate], d1, fun i hi => ?_⟩
  by_cases c : i ∈ js
  · obtain ⟨k, hk⟩ := List.getElem?_of_mem c
    have kl := (List.getElem?_eq_some_iff.mp hk).1
    have hq := List.getElem?_eq_getElem (show k < xs.length by omega)
    obtain ⟨q1, q2⟩ := hx k _ hq
    refine ⟨_, sprP_at nd hk hq (by rw [List.length_replicate]; exact hi), q1, ?_⟩
    rw [spr_at nd hk, Nat.zero_add]
    exact q2
  · refine ⟨(0, 1), ?_, by show (0 : Int) < 1; decide, ?_⟩
    · rw [sprP_out c, List.getElem?_replicate, if_pos hi]
    · rw [spr_out c]
      show (0 : Int) * den = 0 * 1
      rw [Int.zero_mul, Int.zero_mul]
def spSpr (K : PySem.W.Frag) : Sp := fun vs H Q _ => ∃ (a b : Addr) (idx : List Nat) (us : List V) (ps : List (Int × Int)) (n k : Nat) (_ : Unit), vs = [.ref a, .ref b, .int (n : Int)] ∧ SqL K H a (idx.map fun i : Nat => V.int (i : Int)) ∧ SqL K H b us ∧ VF K k H us ps ∧ idx.length = ps.length ∧ (∀ i ∈ idx, i < n) ∧ n ≤ 100 ∧ 4 ≤ k ∧
  ∀ D H' ws, Same H H' → H' D = some (.lst ws) → H D = none → VF K k H' ws (sprP (List.replicate n (0, 1)) idx ps) → Q (.ref D) H'
/-- a matrix of whole numbers; D is not 0 modulo any prime that serves it -/
structure KerP (W : Nat) (Ms : List (List Int)) (D : Int) : Prop where
  w11 : W ≤ 11
  m24 : Ms.length ≤ 24
  ls : ∀ s ∈ Ms, s.length = W ∧ ∀ x ∈ s, x.natAbs ≤ 11664
  bad : ∀ (p count : Nat) (w : Nat → Int), Pr p → count < W → IndC Ms (count + 1) → (∀ j, count < j → w j = 0) → (∀ i, (p : Int) ∣ dI (Ms.getD i []) w 0) → (∃ j, ¬ (p : Int) ∣ w j) → (p : Int) ∣ D
theorem KerP.at_ {W : Nat} {Ms : List (List Int)} {D : Int} (h : KerP W Ms D) (i c : Nat) : (mat Ms i c).natAbs ≤ 11664 := getD_mem0 (fun s hs => (h.ls s hs).2) i c
abbrev rLenK (K : PySem.W.Frag) : List V → Hp → VK → Prop := fun xs H Q => ∃ (p : Addr) (ys : List V), xs = [V.ref p] ∧ (SqL K H p ys ∨ SqT K H p ys) ∧ Q (.int ys.length) H
/-- the rows of an inverse, in a list q: L times them is whole -/
structure InvQ (K : PySem.W.Frag) (H0 : Hp) (q : Addr) (H : Hp) (ws : List V) (W : Nat) (Ms : List (List Int)) (cs : List Int) (L : Int) (n : Nat) : Prop where
  len : ws.length = n
  at_ : ∀ j, j < n → ∃ (a : Addr) (ys : List V) (ps : List (Int × Int)) (z : Nat → Int), ws[j]? = some (.ref a) ∧ a ≠ q ∧ H0 a = none ∧ H a = some (.lst ys) ∧ VF K 510 H ys ps ∧ VecQ Ms.length ps (fun i => z i * cs.getD i 0) L ∧ ∀ k, k < W → dI (Ms.map fun r => r.getD k 0) z 0 = if j = k then L else 0
def spInvK (K : PySem.W.Frag) : Sp := fun vs H Q _ => ∃ (a b qi : Addr) (xs : List V) (Ms : List (List Int)) (W p : Nat) (D : Int) (cs : List Int) (idx : List Nat) (_ : Unit), vs = [.ref a, .ref b, .ref qi, .int (p : Int)] ∧ SqL K H a xs ∧ LsL H xs Ms ∧ SqL K H b (cs.map V.int) ∧ H qi = some (.lst (idx.map fun i : Nat => V.int (i : Int))) ∧ KerP W Ms D ∧ Pr p ∧ 2147483647 ≤ p ∧ p < 2148532224 ∧ idx.length = W ∧ idx.Nodup ∧ (∀ i ∈ idx, i < Ms.length) ∧ cs.length = Ms.length ∧ (∀ c ∈ cs, c.natAbs < 2 ^ 60) ∧ NS (p : Int) (idx.map fun i => Ms.getD i []) ∧
  ∀ q ws L H', Same H H' → H q = none → H' q = some (.lst ws) → InvQ K H q H' ws W Ms cs L W → Q (.ref q) H'
def spGap (K : PySem.W.Frag) : Sp := fun vs H Q _ => ∃ (a : Addr) (cols : List Nat) (_ : Unit), vs = [.ref a] ∧ SqL K H a (cols.map fun i : Nat => V.int (i : Int)) ∧ cols.length ≤ 100 ∧ ∀ c : Nat, c ≤ cols.length → (∀ i, i < c → cols[i]? = some i) → (∀ x, cols[c]? = some x → x ≠ c) → Q (.int (c : Int)) H
def spKVec (K : PySem.W.Frag) : Sp := fun vs H Q _ => ∃ (a qi : Addr) (xs : List V) (Ms : List (List Int)) (W p count : Nat) (D : Int) (idx : List Nat) (rest : List (Nat × List Int)) (_ : Unit), vs = [.ref a, .int (W : Int), .ref qi, .int (count : Int), .int (p : Int)] ∧ SqL K H a xs ∧ LsL H xs Ms ∧ H qi = some (.lst (idx.map fun i : Nat => V.int (i : Int))) ∧ KerP W Ms D ∧ Pr p ∧ 2147483647 ≤ p ∧ p < 2148532224 ∧ count < W ∧ count ≤ idx.length ∧ idx.length ≤ 100 ∧ (∀ i ∈ idx, i < Ms.length) ∧ PInv (p : Int) W Ms (count + 1) (idx.take count) (List.range count) rest ∧
  ((p : Int) ∣ D → ∀ H', Same H H' → Q .non H') ∧
  ∀ q ws ps z H', Same H H' → H' q = some (.lst ws) → H q = none → VF K 441 H' ws ps → VecQ W ps z 1 → (∀ s ∈ Ms, dI s z 0 = 0) → z count ≠ 0 → Q (.ref q) H'
theorem pr_sqrt {n d : Nat} (n2 : 2 ≤ n) (h : n < d * d) (hq : ∀ q, 2 ≤ q → q < d → ¬ q ∣ n) : Pr n := pr_of_min n2 fun q q2 ⟨r, hr⟩ => by
  have bad : ∀ t, 2 ≤ t → t * t ≤ n → ¬ t ∣ n := fun t t2 tt => hq t t2 (Decidable.byContradiction fun k => by
    have : d * d ≤ t * t := Nat.mul_le_mul (by omega) (by omega)
    omega)
  refine Decidable.byContradiction fun ne => ?_
  have r0 : r ≠ 0 := fun z => by rw [z, Nat.mul_zero] at hr; omega
  have r1 : r ≠ 1 := fun z => by rw [z, Nat.mul_one] at hr; omega
  by_cases c : q ≤ r
  · exact bad q q2 (by rw [hr]; exact Nat.mul_le_mul_left _ c) ⟨r, hr⟩
  · exact bad r (by omega) (by rw [hr]; exact Nat.mul_le_mul_right _ (by omega)) ⟨q, by rw [hr, Nat.mul_comm]⟩
theorem pr_self {n q : Nat} (h : Pr n) (q2 : 2 ≤ q) (d : q ∣ n) : q = n := by
  obtain ⟨p, hp, pq⟩ := pr_ex q q2
  have e := pr_dvd hp h (Nat.dvd_trans pq d)
  rw [e] at pq
  exact Nat.dvd_antisymm d pq
def spIsP (K : PySem.W.Frag) : Sp := fun vs H Q _ => ∃ (n : Nat), vs = [.int (n : Int)] ∧ n < 2 ^ 60 ∧ ∀ r : Bool, (r = true ↔ Pr n) → Q (.bl r) H
def spNxP (K : PySem.W.Frag) : Sp := fun vs H Q _ => ∃ (n : Nat), vs = [.int (n : Int)] ∧ (∃ P, Pr P ∧ n < P ∧ P < 2 ^ 50) ∧ ∀ p : Nat, Pr p → n < p → (∀ q, Pr q → n < q → p ≤ q) → Q (.int (p : Int)) H
/-- the whole rows and their scales -/
structure ScM (B : Nat → Int) (R : List (List (Int × Int))) (cs : List Int) (Ms : List (List Int)) : Prop where
  l1 : cs.length = R.length
  l2 : Ms.length = R.length
  at_ : ∀ (i : Nat) (r : List (Int × Int)) (c : Int), R[i]? = some r → cs[i]? = some c → ScQ (B i) r c ∧ Ms[i]? = some (whR r c)
def spKern (K : PySem.W.Frag) : Sp := fun vs H Q _ => ∃ (a : Addr) (xs : List V) (R : List (List (Int × Int))) (W : Nat) (B : Nat → Int) (_ _ _ : Unit), vs = [.ref a, .int (W : Int)] ∧ SqL K H a xs ∧ MatQ K H xs R ∧ (∀ (i : Nat) (r : List (Int × Int)), R[i]? = some r → r.length = W ∧ ∀ q ∈ r, 0 < q.2 ∧ q.2 ∣ B i ∧ q.1.natAbs < 2 ^ 200) ∧ (∀ i, 0 < B i) ∧ (∀ i, (B i).natAbs < 2 ^ 60) ∧ W ≤ 11 ∧ R.length ≤ 24 ∧
  (∀ cs Ms, ScM B R cs Ms → ∃ D : Int, D ≠ 0 ∧ D.natAbs < 2 ^ 1900 ∧ KerP W Ms D) ∧
  (∀ cs Ms q t ws ps z k H', ScM B R cs Ms → Same H H' → H' q = some (.tup [.str "vector", .ref t]) → H' t = some (.lst ws) → H t = none → VF K 441 H' ws ps → VecQ W ps z 1 → (∀ s ∈ Ms, dI s z 0 = 0) → k < W → z k ≠ 0 → Q (.ref q) H') ∧
  ∀ cs Ms q t ws L H', ScM B R cs Ms → Same H H' → H' q = some (.tup [.str "inverse", .ref t]) → H' t = some (.lst ws) → H t = none → InvQ K H t H' ws W Ms cs L W → W ≤ Ms.length → IndC Ms W → Q (.ref q) H'
def spIsWh (K : PySem.W.Frag) : Sp := fun vs H Q _ => ∃ n : Int, vs = [.int n] ∧ Q (.bl true) H
def spIsNu (K : PySem.W.Frag) : Sp := fun vs H Q _ => ∃ (a da : Addr) (n d : Int), vs = [.ref a] ∧ H a = some (.ins (CF K) da (fsF n d)) ∧ 0 < d ∧ Q (.bl true) H
/-- the numbers of a list, in a new list of new pairs -/
def spRead (K : PySem.W.Frag) : Sp := fun vs H Q _ => ∃ (a : Addr) (us : List V) (ps : List (Int × Int)) (n : Int) (k : Nat) (_ : Unit), vs = [.ref a, .int n] ∧ H a = some (.lst us) ∧ VF K k H us ps ∧ (ps.length : Int) = n ∧ ps.length ≤ 100 ∧
  ∀ p H' (ws : List V) (qs : List (Int × Int)), Same H H' → H p = none → H' p = some (.lst ws) → PrL H' ws qs → qs.length = ps.length → (∀ q ∈ qs, PrW k q) → (∀ (i : Nat) (x q : Int × Int), ps[i]? = some x → qs[i]? = some q → Fq x.1 x.2 q.1 q.2) → Q (.ref p) H'
def spLPl (K : PySem.W.Frag) : Sp := fun vs H Q _ => ∃ (a b : Addr) (x y : Int × Int) (k : Nat), vs = [.ref a, .ref b] ∧ H a = some (prO x) ∧ H b = some (prO y) ∧ PrB k x ∧ PrB k y ∧ k ≤ 30000 ∧
  ∀ p H', Same H H' → H p = none → H' p = some (prO (x.1 * y.2 + y.1 * x.2, x.2 * y.2)) → Q (.ref p) H'
/-- a new pair, the number that the two lists tell -/
def spLDot (K : PySem.W.Frag) : Sp := fun vs H Q _ => ∃ (a b : Addr) (us ws : List V) (xs ys : List (Int × Int)) (m : Nat), vs = [.ref a, .ref b] ∧ SqL K H a us ∧ SqL K H b ws ∧ PrL H us xs ∧ PrL H ws ys ∧ (∃ j k, (∀ x ∈ xs, PrW j x) ∧ (∀ x ∈ ys, PrW k x) ∧ j + k + 1 = m) ∧ xs.length = ys.length ∧ xs.length ≤ 100 ∧ m * xs.length + 1 ≤ 20000 ∧
  ∀ p H' (z : Int × Int), Same H H' → H p = none → H' p = some (prO z) → PrW (m * xs.length + 1) z → REq z (dotP xs ys) → Q (.ref p) H'
def spVecOf (K : PySem.W.Frag) : Sp := fun vs H Q _ => ∃ (f a : Addr) (us xs : List V) (qs : List (Int × Int)) (ts : List (List (Int × Int))) (_ _ : Unit), vs = [.ref f, .ref a] ∧ H f = some (.lst us) ∧ H a = some (.lst xs) ∧ PrL H us qs ∧ MatP H xs ts ∧ (∀ q ∈ qs, PrW 441 q) ∧ (∀ t ∈ ts, t.length = qs.length ∧ ∀ x ∈ t, PrW 20 x) ∧ ts.length ≤ 24 ∧ qs.length ≤ 11 ∧ (∃ q ∈ qs, q.1 ≠ 0) ∧
  (∀ (i : Nat) (t : List (Int × Int)) (zz : Int × Int), ts[i]? = some t → zz.2 ≠ 0 → REq zz (dotP t qs) → zz.1 = 0) ∧ ∀ H', Same H H' → Q (.bl true) H'
def colD (ts : List (List (Int × Int))) (j : Nat) : List (Int × Int) := ts.map fun r => r.getD j (0, 1)
def spIsInv (K : PySem.W.Frag) : Sp := fun vs H Q _ => ∃ (v a : Addr) (ls xs : List V) (ts : List (List (Int × Int))) (W : Nat) (_ _ _ : Unit), vs = [.ref v, .ref a, .int (W : Int)] ∧ H v = some (.lst ls) ∧ H a = some (.lst xs) ∧ MatP H xs ts ∧ (∀ t ∈ ts, t.length = W ∧ ∀ x ∈ t, PrW 20 x) ∧ ts.length ≤ 24 ∧ W ≤ 11 ∧ ls.length = W ∧
  (∀ j, j < W → ∃ (b : Addr) (ys : List V) (ps : List (Int × Int)), ls[j]? = some (.ref b) ∧ H b = some (.lst ys) ∧ VF K 510 H ys ps ∧ ps.length = ts.length ∧ ∀ (k : Nat) (qs : List (Int × Int)) (zz : Int × Int), k < W → qs.length = ps.length → (∀ q ∈ qs, q.2 ≠ 0) → (∀ (i : Nat) (x q : Int × Int), ps[i]? = some x → qs[i]? = some q → Fq x.1 x.2 q.1 q.2) → zz.2 ≠ 0 → REq zz (dotP qs (colD ts k)) → zz.1 = zz.2 * (if j = k then 1 else 0)) ∧ ∀ H', Same H H' → Q (.bl true) H'
def spIsPr (K : PySem.W.Frag) : Sp := fun vs H Q _ => ∃ (a da b : Addr) (n d : Int) (x : Int × Int) (k j : Nat), vs = [.ref a, .ref b] ∧ H a = some (.ins (CF K) da (fsF n d)) ∧ 0 < d ∧ H b = some (prO x) ∧ n.natAbs < 2 ^ k ∧ d.natAbs < 2 ^ k ∧ PrB j x ∧ k ≤ 2000 ∧ j ≤ 2000 ∧ n * x.2 = x.1 * d ∧ Q (.bl true) H
def spIsVec (K : PySem.W.Frag) : Sp := fun vs H Q _ => ∃ (a b : Addr) (us ws : List V) (xs ys : List (Int × Int)), vs = [.ref a, .ref b] ∧ H a = some (.lst us) ∧ SqL K H b ws ∧ VF K 1000 H us xs ∧ PrL H ws ys ∧ xs.length = ys.length ∧ ys.length ≤ 100 ∧
  (∀ (i : Nat) (x y : Int × Int), xs[i]? = some x → ys[i]? = some y → REq x y ∧ PrB 1000 y ∧ x.2 ≠ 0) ∧ Q (.bl true) H
def spIsMat (K : PySem.W.Frag) : Sp := fun vs H Q _ => ∃ (a b : Addr) (us ws : List V) (ls ts : List (List (Int × Int))), vs = [.ref a, .ref b] ∧ H a = some (.lst us) ∧ SqL K H b ws ∧ MatF K 1000 H us ls ∧ MatP H ws ts ∧ ls.length = ts.length ∧ ts.length ≤ 100 ∧
  (∀ (j : Nat) (xs ys : List (Int × Int)), ls[j]? = some xs → ts[j]? = some ys → xs.length = ys.length ∧ ys.length ≤ 100 ∧ ∀ (i : Nat) (x y : Int × Int), xs[i]? = some x → ys[i]? = some y → REq x y ∧ PrB 1000 y ∧ x.2 ≠ 0) ∧ Q (.bl true) H

/-- a pair as a rational -/
def rq (x : Int × Int) : Rat := (x.1 : Rat) / (x.2 : Rat)
theorem rc0 {d : Int} (h : d ≠ 0) : (d : Rat) ≠ 0 := by
  intro z
  exact h (by exact_mod_cast z)
theorem REq.rq {x y : Int × Int} (h : REq x y) (hx : x.2 ≠ 0) (hy : y.2 ≠ 0) : CB.rq x = CB.rq y := by
  have e : x.1 * y.2 = y.1 * x.2 := h
  have e2 : (x.1 : Rat) * y.2 = y.1 * x.2 := by exact_mod_cast e
  have h1 := rc0 hx
  have h2 := rc0 hy
  unfold CB.rq
  grind
theorem Fq.rqe {a b n d : Int} (f : Fq a b n d) (h : b ≠ 0) : CB.rq (a, b) = CB.rq (n, d) := by
  have e := f.eq
  have p := f.pos
  refine REq.rq ?_ h (by show d ≠ 0; omega)
  show a * d = n * b
  omega
theorem rq_zero {x : Int × Int} (h : x.2 ≠ 0) : CB.rq x = 0 ↔ x.1 = 0 := by
  have h1 := rc0 h
  unfold CB.rq
  constructor
  · intro e
    have e2 : (x.1 : Rat) = 0 := by grind
    exact_mod_cast e2
  · intro e
    rw [e]
    grind
def dR : List (Int × Int) → List (Int × Int) → Rat
  | x :: xs, y :: ys => CB.rq x * CB.rq y + dR xs ys
  | _, _ => 0
theorem dotP_rat : ∀ {xs ys : List (Int × Int)}, (∀ x ∈ xs, x.2 ≠ 0) → (∀ y ∈ ys, y.2 ≠ 0) → (dotP xs ys).2 ≠ 0 ∧ CB.rq (dotP xs ys) = dR xs ys
  | [], ys, _, _ => by
    have e : dotP [] ys = (0, 1) := by cases ys <;> rfl
    rw [e]
    refine ⟨by decide, ?_⟩
    have : dR [] ys = 0 := by cases ys <;> rfl
    rw [this]
    exact (rq_zero (by decide)).mpr rfl
  | x :: xs, [], _, _ => ⟨show (1 : Int) ≠ 0 by decide, (rq_zero (x := (0, 1)) (by decide)).mpr rfl⟩
  | x :: xs, y :: ys, hx, hy => by
    obtain ⟨p, e⟩ := dotP_rat (xs := xs) (ys := ys) (fun z h => hx z (List.mem_cons_of_mem _ h)) fun z h => hy z (List.mem_cons_of_mem _ h)
    have px := hx x (List.mem_cons_self ..)
    have py := hy y (List.mem_cons_self ..)
    have pm : x.2 * y.2 ≠ 0 := Int.mul_ne_zero px py
    refine ⟨Int.mul_ne_zero pm p, ?_⟩
    show CB.rq (x.1 * y.1 * (dotP xs ys).2 + (dotP xs ys).1 * (x.2 * y.2), x.2 * y.2 * (dotP xs ys).2) = CB.rq x * CB.rq y + dR xs ys
    rw [← e]
    have h1 := rc0 px
    have h2 := rc0 py
    have h3 := rc0 p
    generalize dotP xs ys = w at *
    unfold CB.rq
    show ((x.1 * y.1 * w.2 + w.1 * (x.2 * y.2) : Int) : Rat) / ((x.2 * y.2 * w.2 : Int) : Rat) = _
    rw [Rat.intCast_add, Rat.intCast_mul, Rat.intCast_mul, Rat.intCast_mul, Rat.intCast_mul, Rat.intCast_mul, Rat.intCast_mul]
    grind
/-- a sum of products in whole numbers -/
theorem dot_L {L : Rat} {z : Nat → Int} : ∀ {xs ys : List (Int × Int)} {ms : List Int} {t : Nat}, xs.length = ms.length → ys.length = ms.length → (∀ (i : Nat) (x y : Int × Int) (m : Int), xs[i]? = some x → ys[i]? = some y → ms[i]? = some m → CB.rq x * CB.rq y * L = (m : Rat) * ((z (t + i) : Int) : Rat)) → dR xs ys * L = ((dI ms z t : Int) : Rat)
  | [], [], [], t, _, _, _ => by
    show (0 : Rat) * L = ((0 : Int) : Rat)
    rw [Rat.zero_mul]; rfl
  | x :: xs, y :: ys, m :: ms, t, l1, l2, h => by
    have ih := dot_L (L := L) (z := z) (xs := xs) (ys := ys) (ms := ms) (t := t + 1) (Nat.succ.inj l1) (Nat.succ.inj l2) fun i x y m h1 h2 h3 => by
      have := h (i + 1) x y m h1 h2 h3
      rw [show t + 1 + i = t + (i + 1) by omega]
      exact this
    have h0 := h 0 x y m rfl rfl rfl
    rw [Nat.add_zero] at h0
    show (CB.rq x * CB.rq y + dR xs ys) * L = ((m * z t + dI ms z (t + 1) : Int) : Rat)
    rw [Rat.intCast_add, Rat.intCast_mul, ← ih, ← h0]
    grind
  | [], _ :: _, [], _, _, l, _ => by simp at l
  | _ :: _, _, [], _, l, _, _ => by simp at l
  | [], _, _ :: _, _, l, _, _ => by simp at l
  | _ :: _, [], _ :: _, _, _, l, _ => by simp at l
/-- whole entries of a row -/
theorem wh_cast {q : Int × Int} {c : Int} (p : 0 < q.2) (d : q.2 ∣ c) : ((q.1 * (c / q.2) : Int) : Rat) = (c : Rat) * CB.rq q := by
  obtain ⟨e, rfl⟩ := d
  rw [Int.mul_ediv_cancel_left _ (by omega)]
  have h1 := rc0 (show q.2 ≠ 0 by omega)
  unfold CB.rq
  rw [Rat.intCast_mul, Rat.intCast_mul]
  grind
theorem wh_small {q : Int × Int} {c B m : Int} {H : Nat} (p : 0 < q.2) (d : q.2 ∣ c) (c0 : 0 < c) (cB : c ∣ B) (B0 : 0 < B) (e : q.1 * B = m * q.2) (h : m.natAbs ≤ H) : (q.1 * (c / q.2)).natAbs ≤ H := by
  obtain ⟨u, rfl⟩ := d
  obtain ⟨f, rfl⟩ := cB
  rw [Int.mul_ediv_cancel_left _ (by omega)]
  have f0 : f ≠ 0 := fun z => by rw [z, Int.mul_zero] at B0; omega
  have e2 : q.1 * u * f = m := by
    refine Int.eq_of_mul_eq_mul_right (show q.2 ≠ 0 by omega) ?_
    rw [← e]
    grind
  refine Nat.le_trans ?_ h
  rw [← e2, Int.natAbs_mul (q.1 * u) f]
  exact Nat.le_mul_of_pos_right _ (Int.natAbs_pos.mpr f0)
/-- a number that B makes whole -/
structure WhB (B : Int) (H : Nat) (x : Int × Int) : Prop where
  p : x.2 ≠ 0
  ex : ∃ m : Int, x.1 * B = m * x.2 ∧ m.natAbs ≤ H
theorem WhB.req {B : Int} {H : Nat} {x y : Int × Int} (h : WhB B H x) (p : y.2 ≠ 0) (e : REq x y) : WhB B H y := by
  obtain ⟨m, h1, h2⟩ := h.ex
  have e : x.1 * y.2 = y.1 * x.2 := e
  refine ⟨p, m, ?_, h2⟩
  refine Int.eq_of_mul_eq_mul_right h.p ?_
  calc y.1 * B * x.2 = x.1 * B * y.2 := by grind
    _ = m * y.2 * x.2 := by rw [h1]; grind
theorem WhB.fq {B : Int} {H : Nat} {x : Int × Int} {n d : Int} (h : WhB B H x) (f : Fq x.1 x.2 n d) : WhB B H (n, d) ∧ d ∣ B := by
  have w := h.req (y := (n, d)) (by have := f.pos; show d ≠ 0; omega) (by show x.1 * d = n * x.2; have := f.eq; omega)
  refine ⟨w, ?_⟩
  obtain ⟨m, h1, _⟩ := w.ex
  exact dvd_of_cop ⟨m, by have h1 : n * B = m * d := h1; rw [Int.mul_comm d m, ← h1, Int.mul_comm]⟩ f.cop
theorem whB_mono {B : Int} {H J : Nat} {x : Int × Int} (h : WhB B H x) (l : H ≤ J) : WhB B J x := by
  obtain ⟨m, h1, h2⟩ := h.ex
  exact ⟨h.p, m, h1, Nat.le_trans h2 l⟩
theorem PrOk.wh {x : Int × Int} (h : PrOk x) : WhB 12 108 x := by
  obtain ⟨a, b⟩ := x
  obtain ⟨⟨h1, h2⟩, h3, h4⟩ := h
  have h1 : -9 ≤ a := h1
  have h2 : a ≤ 9 := h2
  have h3 : 1 ≤ b := h3
  have h4 : b ≤ 4 := h4
  refine ⟨by show b ≠ 0; omega, ?_⟩
  show ∃ m, a * 12 = m * b ∧ m.natAbs ≤ 108
  obtain rfl | rfl | rfl | rfl : b = 1 ∨ b = 2 ∨ b = 3 ∨ b = 4 := by omega
  · exact ⟨a * 12, by omega, by omega⟩
  · exact ⟨a * 6, by omega, by omega⟩
  · exact ⟨a * 4, by omega, by omega⟩
  · exact ⟨a * 3, by omega, by omega⟩
theorem mul_wh {x y : Int × Int} (h : PrOk x) (k : PrOk y) : WhB 144 11664 (mulP x y) := by
  obtain ⟨a, b⟩ := x
  obtain ⟨c, d⟩ := y
  obtain ⟨⟨h1, h2⟩, h3, h4⟩ := h
  obtain ⟨⟨k1, k2⟩, k3, k4⟩ := k
  have hb : (a.natAbs : Nat) ≤ 9 := by have h1 : -9 ≤ a := h1; have h2 : a ≤ 9 := h2; omega
  have hc : (c.natAbs : Nat) ≤ 9 := by have h1 : -9 ≤ c := k1; have h2 : c ≤ 9 := k2; omega
  have h3 : 1 ≤ b := h3
  have h4 : b ≤ 4 := h4
  have k3 : 1 ≤ d := k3
  have k4 : d ≤ 4 := k4
  have ac : (a * c).natAbs ≤ 81 := by rw [Int.natAbs_mul]; exact Nat.mul_le_mul hb hc
  have dv : (b * d) ∣ 144 := by
    obtain rfl | rfl | rfl | rfl : b = 1 ∨ b = 2 ∨ b = 3 ∨ b = 4 := by omega
    all_goals (obtain rfl | rfl | rfl | rfl : d = 1 ∨ d = 2 ∨ d = 3 ∨ d = 4 := by omega) <;> decide
  obtain ⟨e, he⟩ := dv
  have p : 0 < b * d := Int.mul_pos (by omega) (by omega)
  have e0 : 0 < e := Int.pos_of_mul_pos_left (by rw [Int.mul_comm, ← he]; decide) p
  have e1 : e ≤ 144 := by
    have : 1 * e ≤ b * d * e := Int.mul_le_mul_of_nonneg_right (by omega) (by omega)
    omega
  refine ⟨by show b * d ≠ 0; omega, a * c * e, ?_, ?_⟩
  · show a * c * 144 = a * c * e * (b * d)
    rw [he]; grind
  · rw [Int.natAbs_mul]
    exact Nat.mul_le_mul ac (show e.natAbs ≤ 144 by omega)
theorem WhB.add {B : Int} {H J : Nat} {x y : Int × Int} (h : WhB B H x) (k : WhB B J y) : WhB B (H + J) (addP x y) := by
  obtain ⟨m, h1, h2⟩ := h.ex
  obtain ⟨n, k1, k2⟩ := k.ex
  refine ⟨Int.mul_ne_zero h.p k.p, m + n, ?_, Nat.le_trans (Int.natAbs_add_le _ _) (Nat.add_le_add h2 k2)⟩
  show (x.1 * y.2 + y.1 * x.2) * B = (m + n) * (x.2 * y.2)
  have : (x.1 * y.2 + y.1 * x.2) * B = x.1 * B * y.2 + y.1 * B * x.2 := by grind
  rw [this, h1, k1]
  grind
/-- drawn rows, as they stand in the heap -/
theorem matQ_of {K : PySem.W.Frag} {k : Nat} {H : Hp} {xs : List V} {ts : List (List (Int × Int))} (h : MatF K k H xs ts) : ∃ R, MatQ K H xs R ∧ R.length = ts.length ∧ ∀ (i : Nat) (t r : List (Int × Int)), ts[i]? = some t → R[i]? = some r → r.length = t.length ∧ (∀ (j : Nat) (x q : Int × Int), t[j]? = some x → r[j]? = some q → Fq x.1 x.2 q.1 q.2 ∧ Lw k q.1 q.2) := by
  have pick : ∀ i : Nat, ∃ r : List (Int × Int), ∀ t : List (Int × Int), ts[i]? = some t → ∃ a ys, xs[i]? = some (V.ref a) ∧ H a = some (.lst ys) ∧ FrL K H ys r ∧ r.length = t.length ∧ ∀ (j : Nat) (x q : Int × Int), t[j]? = some x → r[j]? = some q → Fq x.1 x.2 q.1 q.2 ∧ Lw k q.1 q.2 := fun i => by
    cases e : ts[i]? with
    | none => exact ⟨[], fun t h => by cases h⟩
    | some t =>
      obtain ⟨a, ys, h1, h2, qs, h3, h4, h5, h6⟩ := h.at_ i t e
      exact ⟨qs, fun t' h' => by cases h'; exact ⟨a, ys, h1, h2, h3, h5, fun j x q hx hq => ⟨h6 j x q hx hq, h4 q (List.mem_of_getElem? hq)⟩⟩⟩
  obtain ⟨f, hf⟩ := Classical.axiomOfChoice pick
  have len : ((List.range ts.length).map f).length = ts.length := by rw [List.length_map, List.length_range]
  refine ⟨(List.range ts.length).map f, ⟨by rw [len]; exact h.len, fun i r hr => ?_⟩, len, fun i t r ht hr => ?_⟩
  · have il := (List.getElem?_eq_some_iff.mp hr).1
    rw [len] at il
    rw [List.getElem?_map, List.getElem?_range il] at hr
    cases hr
    obtain ⟨a, ys, h1, h2, h3, _⟩ := hf i _ (List.getElem?_eq_getElem il)
    exact ⟨a, ys, h1, h2, h3⟩
  · have il := (List.getElem?_eq_some_iff.mp ht).1
    rw [List.getElem?_map, List.getElem?_range il] at hr
    cases hr
    obtain ⟨a, ys, h1, h2, h3, h4, h5⟩ := hf i t ht
    exact ⟨h4, h5⟩

theorem WhB.twelve {H : Nat} {x : Int × Int} (h : WhB 12 H x) : WhB 144 (H * 12) x := by
  obtain ⟨m, h1, h2⟩ := h.ex
  refine ⟨h.p, m * 12, ?_, by rw [Int.natAbs_mul]; exact Nat.mul_le_mul h2 (by decide)⟩
  have : x.1 * 144 = x.1 * 12 * 12 := by omega
  rw [this, h1]
  grind
theorem ScM.row {B : Nat → Int} {R : List (List (Int × Int))} {cs : List Int} {Ms : List (List Int)} (sc : ScM B R cs Ms) {i : Nat} {s : List Int} (h : Ms[i]? = some s) : ∃ r c, R[i]? = some r ∧ cs[i]? = some c ∧ ScQ (B i) r c ∧ s = whR r c := by
  have il := (List.getElem?_eq_some_iff.mp h).1
  have l1 := sc.l1
  have l2 := sc.l2
  have hr := List.getElem?_eq_getElem (show i < R.length by omega)
  have hc := List.getElem?_eq_getElem (show i < cs.length by omega)
  obtain ⟨h1, h2⟩ := sc.at_ i _ _ hr hc
  rw [h] at h2
  cases h2
  exact ⟨_, _, hr, hc, h1, rfl⟩
theorem whR_at {r : List (Int × Int)} {c : Int} {j : Nat} {q : Int × Int} (h : r[j]? = some q) : (whR r c)[j]? = some (q.1 * (c / q.2)) := by
  unfold whR
  rw [List.getElem?_map, h]
  rfl
theorem sys_ker {R : List (List (Int × Int))} {cs : List Int} {Ms : List (List Int)} {W cp : Nat} (sc : ScM (fun _ => 144) R cs Ms) (w11 : W ≤ 11) (r24 : R.length ≤ 24) (hR : ∀ (i : Nat) (r : List (Int × Int)), R[i]? = some r → r.length = W ∧ ∀ (j : Nat) (q : Int × Int), r[j]? = some q → 0 < q.2 ∧ WhB 144 (1296 * (if j = cp then 9 else 1)) q) : ∃ D : Int, D ≠ 0 ∧ D.natAbs < 2 ^ 1900 ∧ KerP W Ms D := by
  have hm : ∀ i c, (mat Ms i c).natAbs ≤ 1296 * (if c = cp then 9 else 1) := fun i c => by
    unfold mat
    rw [List.getD_eq_getElem?_getD (l := Ms)]
    cases e : Ms[i]? with
    | none => show (([] : List Int).getD c 0).natAbs ≤ _; simp
    | some s =>
      obtain ⟨r, d, h1, h3, h4, rfl⟩ := sc.row e
      obtain ⟨rl, rw'⟩ := hR i r h1
      show ((whR r d).getD c 0).natAbs ≤ _
      rw [List.getD_eq_getElem?_getD]
      cases e2 : r[c]? with
      | none =>
        have : (whR r d)[c]? = none := by unfold whR; rw [List.getElem?_map, e2]; rfl
        rw [this]; exact Nat.zero_le _
      | some q =>
        obtain ⟨q0, w⟩ := rw' c q e2
        obtain ⟨m, e, hm⟩ := w.ex
        rw [whR_at e2]
        exact wh_small q0 (h4.al q (List.mem_of_getElem? e2)) h4.c0 h4.dv (by decide) e hm
  obtain ⟨D, D0, Db, bad⟩ := ker_bad (W := W) (H := 1296) (K := 9) (cp := cp) (Ms := Ms) (by decide) (by decide) hm
  refine ⟨D, D0, ?_, w11, by have := sc.l2; omega, fun s hs => ?_, bad⟩
  · have h1 : (2 * (W + 1) * 1296) ^ W ≤ (2 * 12 * 1296) ^ 11 := Nat.le_trans (Nat.pow_le_pow_left (Nat.mul_le_mul_right 1296 (show 2 * (W + 1) ≤ 2 * 12 by omega)) W) (Nat.pow_le_pow_right (by decide) w11)
    have h2 : (9 * (2 * (W + 1) * 1296) ^ W) ^ W ≤ (9 * (2 * 12 * 1296) ^ 11) ^ 11 := Nat.le_trans (Nat.pow_le_pow_left (Nat.mul_le_mul_left 9 h1) W) (Nat.pow_le_pow_right (by decide) w11)
    have h3 : (9 * (2 * 12 * 1296) ^ 11) ^ 11 < 2 ^ 1900 := by decide +kernel
    exact Nat.lt_of_le_of_lt (Nat.le_trans Db h2) h3
  · obtain ⟨i, hi⟩ := List.getElem?_of_mem hs
    obtain ⟨r, d, h1, h3, h4, es⟩ := sc.row hi
    obtain ⟨rl, rw'⟩ := hR i r h1
    refine ⟨by rw [es]; unfold whR; rw [List.length_map]; exact rl, fun x hx => ?_⟩
    obtain ⟨c, hc⟩ := List.getElem?_of_mem hx
    have e : mat Ms i c = x := by unfold mat; rw [List.getD_eq_getElem?_getD (l := Ms), hi]; show s.getD c 0 = x; rw [List.getD_eq_getElem?_getD, hc]; rfl
    rw [← e]
    refine Nat.le_trans (hm i c) ?_
    split <;> decide
/-- a vector that the whole rows make 0 makes the drawn ones 0 -/
theorem vec_law {B : Nat → Int} {R : List (List (Int × Int))} {cs : List Int} {Ms : List (List Int)} {W i : Nat} {ps qs t r : List (Int × Int)} {zz : Int × Int} {z : Nat → Int} (sc : ScM B R cs Ms) (vq : VecQ W ps z 1) (ok : ∀ s ∈ Ms, dI s z 0 = 0) (hr : R[i]? = some r) (rl : r.length = W) (tl : t.length = W) (tr : ∀ (j : Nat) (x q : Int × Int), t[j]? = some x → r[j]? = some q → Fq x.1 x.2 q.1 q.2) (tp : ∀ x ∈ t, x.2 ≠ 0) (ql : qs.length = ps.length) (qp : ∀ q ∈ qs, q.2 ≠ 0) (pq : ∀ (j : Nat) (x q : Int × Int), ps[j]? = some x → qs[j]? = some q → Fq x.1 x.2 q.1 q.2) (zp : zz.2 ≠ 0) (zr : REq zz (dotP t qs)) : zz.1 = 0 := by
  have il := (List.getElem?_eq_some_iff.mp hr).1
  have hs := List.getElem?_eq_getElem (show i < Ms.length by have := sc.l2; omega)
  obtain ⟨r', c, h1, h3, h4, es⟩ := sc.row hs
  rw [hr] at h1
  cases h1
  have e0 := ok _ (List.mem_of_getElem? hs)
  rw [es] at e0
  obtain ⟨dp, dr⟩ := dotP_rat tp qp
  have pl := vq.len
  have c0 := rc0 (show c ≠ 0 by have := h4.c0; omega)
  have wl : (whR r c).length = W := by unfold whR; rw [List.length_map]; exact rl
  have e1 := dot_L (L := (c : Rat)) (z := z) (xs := t) (ys := qs) (ms := whR r c) (t := 0) (by omega) (by omega) fun j x q m hx hq hm => by
    have jl := (List.getElem?_eq_some_iff.mp hx).1
    have hrj := List.getElem?_eq_getElem (show j < r.length by omega)
    have hp := List.getElem?_eq_getElem (show j < ps.length by omega)
    have f1 := tr j x _ hx hrj
    have f2 := pq j _ q hp hq
    obtain ⟨q0, v1, v2, v3⟩ := vq.at_ j (by omega)
    rw [hp] at v1
    cases v1
    rw [whR_at hrj] at hm
    cases hm
    rw [wh_cast f1.pos (h4.al _ (List.mem_of_getElem? hrj)), Nat.zero_add]
    have r1 : rq x = rq r[j] := f1.rqe (tp x (List.mem_of_getElem? hx))
    have r2 : rq ps[j] = rq q := f2.rqe (by omega)
    have r3 : rq ps[j] = ((z j : Int) : Rat) := by
      have h1 := rc0 (show (ps[j]).2 ≠ 0 by omega)
      rw [Int.mul_one] at v3
      have e : ((ps[j]).1 : Rat) = (z j : Rat) * ((ps[j]).2 : Rat) := by exact_mod_cast v3
      unfold rq
      grind
    rw [r1, ← r3, r2]
    grind
  rw [e0] at e1
  have e1 : dR t qs * (c : Rat) = 0 := e1
  have e2 : dR t qs = 0 := by grind
  have e4 : rq zz = rq (dotP t qs) := zr.rq zp dp
  exact (rq_zero zp).mp (by rw [e4, dr, e2])
/-- the rows of an inverse, at a column of the drawn rows -/
theorem inv_law {B : Nat → Int} {R : List (List (Int × Int))} {cs : List Int} {Ms : List (List Int)} {n J : Nat} {ps qs col : List (Int × Int)} {zz : Int × Int} {z : Nat → Int} {den δ : Int} (sc : ScM B R cs Ms) (nR : R.length = n)
    (vq : VecQ n ps (fun i => z i * cs.getD i 0) den) (val : dI (Ms.map fun r => r.getD J 0) z 0 = δ * den) (cl : col.length = n) (cp : ∀ x ∈ col, x.2 ≠ 0) (hc : ∀ (i : Nat) (r : List (Int × Int)) (x : Int × Int), R[i]? = some r → col[i]? = some x → ∃ q, r[J]? = some q ∧ Fq x.1 x.2 q.1 q.2) (ql : qs.length = ps.length) (qp : ∀ q ∈ qs, q.2 ≠ 0) (pq : ∀ (j : Nat) (x q : Int × Int), ps[j]? = some x → qs[j]? = some q → Fq x.1 x.2 q.1 q.2) (zp : zz.2 ≠ 0) (zr : REq zz (dotP qs col)) : zz.1 = zz.2 * δ := by
  obtain ⟨dp, dr⟩ := dotP_rat qp cp
  have pl := vq.len
  have den1 := vq.d1
  have den0 := rc0 (show den ≠ 0 by omega)
  have ml : Ms.length = n := by have := sc.l2; omega
  have e1 := dot_L (L := (den : Rat)) (z := z) (xs := qs) (ys := col) (ms := Ms.map fun r => r.getD J 0) (t := 0) (by rw [List.length_map]; omega) (by rw [List.length_map]; omega) fun i q x m hq hx hm => by
    have il := (List.getElem?_eq_some_iff.mp hx).1
    rw [List.getElem?_map] at hm
    have hs := List.getElem?_eq_getElem (show i < Ms.length by omega)
    rw [hs] at hm
    have em : m = (Ms[i]'(by omega)).getD J 0 := (Option.some.inj hm).symm
    obtain ⟨r, c, h1, h3, h4, es⟩ := sc.row hs
    obtain ⟨w, hw, f1⟩ := hc i r x h1 hx
    have hp := List.getElem?_eq_getElem (show i < ps.length by omega)
    have f2 := pq i _ q hp hq
    obtain ⟨q0, v1, v2, v3⟩ := vq.at_ i (by omega)
    rw [hp] at v1
    cases v1
    have ec : cs.getD i 0 = c := by rw [List.getD_eq_getElem?_getD, h3]; rfl
    rw [ec] at v3
    have wm : m = w.1 * (c / w.2) := by rw [em, es, List.getD_eq_getElem?_getD, whR_at hw]; rfl
    rw [wm, wh_cast f1.pos (h4.al w (List.mem_of_getElem? hw)), Nat.zero_add]
    have r1 : rq x = rq w := f1.rqe (cp x (List.mem_of_getElem? hx))
    have r2 : rq ps[i] = rq q := f2.rqe (by omega)
    have r3 : rq ps[i] * (den : Rat) = ((z i : Int) : Rat) * (c : Rat) := by
      have h1 := rc0 (show (ps[i]).2 ≠ 0 by omega)
      have e : ((ps[i]).1 : Rat) * (den : Rat) = (z i : Rat) * (c : Rat) * ((ps[i]).2 : Rat) := by exact_mod_cast v3
      unfold rq
      grind
    rw [r1, ← r2]
    grind
  have e4 : rq zz = rq (dotP qs col) := zr.rq zp dp
  rw [val, Rat.intCast_mul, ← dr, ← e4] at e1
  have h2 := rc0 zp
  have e5 : rq zz = (δ : Rat) := by grind
  unfold rq at e5
  have e6 : (zz.1 : Rat) = (zz.2 : Rat) * (δ : Rat) := by grind
  exact_mod_cast e6
/-- a last column that is the first one times a number leaves no inverse -/
theorem dep_law {B : Nat → Int} {R ts : List (List (Int × Int))} {cs : List Int} {Ms : List (List Int)} {W : Nat} {f : Int × Int} (sc : ScM B R cs Ms) (W2 : 2 ≤ W) (f0 : f.2 ≠ 0) (tl : ts.length = R.length) (hR : ∀ (i : Nat) (t r : List (Int × Int)), ts[i]? = some t → R[i]? = some r → t.length = W ∧ r.length = W ∧ (∀ x ∈ t, x.2 ≠ 0) ∧ (∀ (j : Nat) (x q : Int × Int), t[j]? = some x → r[j]? = some q → Fq x.1 x.2 q.1 q.2) ∧ t.getD (W - 1) (0, 1) = mulP (t.getD 0 (0, 1)) f) (ind : IndC Ms W) : False := by
  have z := ind (fun j => (if j = 0 then f.1 else 0) + (if j = W - 1 then -f.2 else 0)) (fun j hj => by
    show (if j = 0 then f.1 else 0) + (if j = W - 1 then -f.2 else 0) = 0
    rw [if_neg (by omega), if_neg (by omega)]; rfl) (fun i => by
    by_cases il : i < Ms.length
    · have hs := List.getElem?_eq_getElem il
      have es0 : Ms.getD i [] = Ms[i] := by rw [List.getD_eq_getElem?_getD, hs]; rfl
      obtain ⟨r, c, h1, h3, h4, es⟩ := sc.row hs
      have ht := List.getElem?_eq_getElem (show i < ts.length by have := sc.l2; omega)
      obtain ⟨t1, t2, t3, t4, t5⟩ := hR i _ r ht h1
      have g1 : dI (Ms.getD i []) (fun j => (if j = 0 then f.1 else 0) + (if j = W - 1 then -f.2 else 0)) 0 = (Ms.getD i []).getD 0 0 * f.1 + (Ms.getD i []).getD (W - 1) 0 * (-f.2) := by
        rw [dI_add, dI_get (j := 0) (fun k hk => if_neg (by omega)), dI_get (j := W - 1) (fun k hk => if_neg (by omega)), Nat.zero_add, Nat.zero_add, if_pos rfl, if_pos rfl]
      rw [g1, es0, es]
      have hx0 := List.getElem?_eq_getElem (show 0 < (ts[i]'(by have := sc.l2; omega)).length by omega)
      have hxW := List.getElem?_eq_getElem (show W - 1 < (ts[i]'(by have := sc.l2; omega)).length by omega)
      have hr0 := List.getElem?_eq_getElem (show 0 < r.length by omega)
      have hrW := List.getElem?_eq_getElem (show W - 1 < r.length by omega)
      have a0 := t4 0 _ _ hx0 hr0
      have aW := t4 (W - 1) _ _ hxW hrW
      rw [List.getD_eq_getElem?_getD, List.getD_eq_getElem?_getD, whR_at hr0, whR_at hrW]
      rw [List.getD_eq_getElem?_getD, List.getD_eq_getElem?_getD, hxW, hx0] at t5
      have t5 : (ts[i]'(by have := sc.l2; omega))[W - 1]'(by omega) = mulP ((ts[i]'(by have := sc.l2; omega))[0]'(by omega)) f := t5
      have r0 : rq ((ts[i]'(by have := sc.l2; omega))[0]'(by omega)) = rq (r[0]'(by omega)) := a0.rqe (t3 _ (List.getElem_mem _))
      have rW : rq ((ts[i]'(by have := sc.l2; omega))[W - 1]'(by omega)) = rq (r[W - 1]'(by omega)) := aW.rqe (t3 _ (List.getElem_mem _))
      have m : rq (mulP ((ts[i]'(by have := sc.l2; omega))[0]'(by omega)) f) = rq (r[0]'(by omega)) * rq f := by
        rw [← r0]
        unfold rq mulP
        show (((_ * _ : Int)) : Rat) / ((_ * _ : Int) : Rat) = _
        rw [Rat.intCast_mul, Rat.intCast_mul]
        grind
      rw [t5, m] at rW
      have c1 := wh_cast a0.pos (h4.al _ (List.mem_of_getElem? hr0))
      have c2 := wh_cast aW.pos (h4.al _ (List.mem_of_getElem? hrW))
      have hf := rc0 f0
      show (r[0]'(by omega)).1 * (c / (r[0]'(by omega)).2) * f.1 + (r[W - 1]'(by omega)).1 * (c / (r[W - 1]'(by omega)).2) * (-f.2) = 0
      have g : (((r[0]'(by omega)).1 * (c / (r[0]'(by omega)).2) * f.1 + (r[W - 1]'(by omega)).1 * (c / (r[W - 1]'(by omega)).2) * (-f.2) : Int) : Rat) = 0 := by
        rw [Rat.intCast_add, Rat.intCast_mul _ f.1, Rat.intCast_mul _ (-f.2), c1, c2, ← rW, Rat.intCast_neg]
        have : rq f * (f.2 : Rat) = (f.1 : Rat) := by unfold rq; grind
        grind
      exact_mod_cast g
    · have : Ms.getD i [] = [] := by rw [List.getD_eq_getElem?_getD, List.getElem?_eq_none (by omega)]; rfl
      rw [this]; rfl) (W - 1)
  have z : (if W - 1 = 0 then f.1 else 0) + (if W - 1 = W - 1 then -f.2 else 0) = 0 := z
  rw [if_neg (by omega), if_pos rfl] at z
  omega
theorem two1 {ms : List Int} (h : ms.length = 2) : ∃ a b : Int, ms = [a, b] :=
  match ms, h with
  | [a, b], _ => ⟨a, b, rfl⟩
theorem one1 {ms : List Int} (h : ms.length = (1 : Int).toNat) : ∃ a : Int, ms = [a] :=
  match ms, h with
  | [a], _ => ⟨a, rfl⟩
/-- one more row, the list D being changed -/
structure PM (H0 : Hp) (D : Addr) (H : Hp) (xs : List V) (ts : List (List (Int × Int))) (w : Nat) : Prop where
  m : MatP H xs ts
  ok : ∀ r ∈ ts, r.length = w ∧ ∀ x ∈ r, PrOk x
  ne : ∀ (j : Nat) (b : Addr), xs[j]? = some (V.ref b) → b ≠ D
theorem PM.nil {H0 H : Hp} {D : Addr} {w : Nat} : PM H0 D H [] [] w := ⟨.nil, fun r h => absurd h (by simp), fun j b h => by simp at h⟩
theorem PM.mono {H0 H H' : Hp} {D : Addr} {w : Nat} {xs : List V} {ts : List (List (Int × Int))} (f : PM H0 D H xs ts w) (sm : Same H H') : PM H0 D H' xs ts w := ⟨f.m.mono sm, f.ok, f.ne⟩
theorem PM.snoc {H0 H : Hp} {D a : Addr} {w : Nat} {xs zs ys : List V} {ts : List (List (Int × Int))} {r : List (Int × Int)} {o : HO} (f : PM H0 D H xs ts w) (hD : H D = some (.lst zs)) (n : a ≠ D) (h1 : H a = some (.lst ys)) (h2 : PrL H ys r) (h3 : r.length = w) (h4 : ∀ x ∈ r, PrOk x) : PM H0 D (upd H D o) (xs ++ [.ref a]) (ts ++ [r]) w := by
  refine ⟨f.m.snoc f.ne hD n h1 h2, fun r' hr => ?_, fun j b hj => ?_⟩
  · rcases List.mem_append.mp hr with hr | hr
    · exact f.ok r' hr
    · rw [List.mem_singleton.mp hr]; exact ⟨h3, h4⟩
  · by_cases c : j < xs.length
    · rw [List.getElem?_append_left c] at hj
      exact f.ne j b hj
    · rw [List.getElem?_append_right (by omega)] at hj
      have c0 : j - xs.length = 0 := by
        refine Decidable.byContradiction fun z => ?_
        rw [List.getElem?_eq_none (by simp; omega)] at hj
        cases hj
      rw [c0] at hj
      cases hj
      exact n

theorem VF.up {K : PySem.W.Frag} {k j : Nat} {H : Hp} {xs : List V} {ps : List (Int × Int)} (f : VF K k H xs ps) (h : k ≤ j) : VF K j H xs ps := by
  obtain ⟨qs, h1, h2, h3⟩ := f
  exact ⟨qs, h1, fun q hq => (h2 q hq).mono h, h3⟩
theorem MatF.up {K : PySem.W.Frag} {k j : Nat} {H : Hp} {xs : List V} {ts : List (List (Int × Int))} (f : MatF K k H xs ts) (h : k ≤ j) : MatF K j H xs ts :=
  ⟨f.len, fun i r e => by obtain ⟨a, ys, e1, h1, h2⟩ := f.at_ i r e; exact ⟨a, ys, e1, h1, h2.up h⟩⟩
theorem vec_okW {ps : List (Int × Int)} {k : Nat} (h : ∀ x ∈ ps, PrW k x) (hk : k ≤ 1000) : ∀ (i : Nat) (x y : Int × Int), ps[i]? = some x → ps[i]? = some y → REq x y ∧ PrB 1000 y ∧ x.2 ≠ 0 := by
  intro i x y hx hy
  rw [hx] at hy
  cases hy
  have w := h x (List.mem_of_getElem? hx)
  exact ⟨rfl, w.b.mono hk, w.p⟩
theorem self_okW {ts : List (List (Int × Int))} {k : Nat} (h : ∀ r ∈ ts, r.length ≤ 100 ∧ ∀ x ∈ r, PrW k x) (hk : k ≤ 1000) : ∀ (j : Nat) (xs ys : List (Int × Int)), ts[j]? = some xs → ts[j]? = some ys → xs.length = ys.length ∧ ys.length ≤ 100 ∧ ∀ (i : Nat) (x y : Int × Int), xs[i]? = some x → ys[i]? = some y → REq x y ∧ PrB 1000 y ∧ x.2 ≠ 0 := by
  intro j xs ys h1 h2
  rw [h1] at h2
  cases h2
  obtain ⟨l, o⟩ := h xs (List.mem_of_getElem? h1)
  exact ⟨rfl, l, vec_okW o hk⟩

theorem MatD.nil {H0 H : Hp} : MatD H0 H [] [] := ⟨.nil, fun j b h => by simp at h, fun i j b h => by simp at h⟩
theorem MatD.mono {H0 H H' : Hp} {xs : List V} {ts : List (List (Int × Int))} (f : MatD H0 H xs ts) (sm : Same H H') : MatD H0 H' xs ts := ⟨f.m.mono sm, f.nw, f.nd⟩
theorem MatP.ne {H : Hp} {xs : List V} {ts : List (List (Int × Int))} (f : MatP H xs ts) {p : Addr} (n : H p = none) {j : Nat} {b : Addr} (h : xs[j]? = some (V.ref b)) : b ≠ p := by
  obtain ⟨t, a, ys, e1, e2, e3, e4⟩ := f.item h
  cases e2
  intro z
  rw [z, n] at e3
  cases e3
theorem MatD.snoc {H0 H : Hp} {D a : Addr} {xs zs ys : List V} {ts : List (List (Int × Int))} {r : List (Int × Int)} {o : HO} (f : MatD H0 H xs ts) (ne : ∀ (j : Nat) (b : Addr), xs[j]? = some (V.ref b) → b ≠ D) (hD : H D = some (.lst zs)) (n : a ≠ D) (n0 : H0 a = none) (na : ∀ (j : Nat) (b : Addr), xs[j]? = some (V.ref b) → b ≠ a) (h1 : H a = some (.lst ys)) (h2 : PrL H ys r) : MatD H0 (upd H D o) (xs ++ [.ref a]) (ts ++ [r]) := by
  have new : ∀ (j : Nat) (b : Addr), (xs ++ [V.ref a])[j]? = some (V.ref b) → (j < xs.length ∧ xs[j]? = some (V.ref b)) ∨ (j = xs.length ∧ b = a) := fun j b hj => by
    by_cases c : j < xs.length
    · rw [List.getElem?_append_left c] at hj
      exact .inl ⟨c, hj⟩
    · have jl := (List.getElem?_eq_some_iff.mp hj).1
      rw [List.length_append, List.length_singleton] at jl
      have e : j = xs.length := by omega
      subst e
      rw [List.getElem?_append_right (Nat.le_refl _), Nat.sub_self] at hj
      cases hj
      exact .inr ⟨rfl, rfl⟩
  refine ⟨f.m.snoc ne hD n h1 h2, fun j b hj => ?_, fun i j b hi hj => ?_⟩
  · rcases new j b hj with ⟨_, h⟩ | ⟨_, rfl⟩
    · exact f.nw j b h
    · exact n0
  · rcases new i b hi with ⟨_, h⟩ | ⟨e, hb⟩
    · rcases new j b hj with ⟨_, h'⟩ | ⟨_, rfl⟩
      · exact f.nd i j b h h'
      · exact absurd rfl (na i b h)
    · rcases new j b hj with ⟨_, h'⟩ | ⟨e', _⟩
      · exact absurd hb (na j b h')
      · omega
/-- rows that are 0 but at one place leave no vector -/
theorem unit_law {B : Nat → Int} {R ts : List (List (Int × Int))} {cs : List Int} {Ms : List (List Int)} {W k : Nat} {z : Nat → Int} (sc : ScM B R cs Ms) (kW : k < W) (tl : ts.length = R.length) (hR : ∀ (i : Nat) (t r : List (Int × Int)), ts[i]? = some t → R[i]? = some r → t.length = W ∧ r.length = W ∧ (∀ x ∈ t, x.2 ≠ 0) ∧ ∀ (j : Nat) (x q : Int × Int), t[j]? = some x → r[j]? = some q → Fq x.1 x.2 q.1 q.2) (un : ∃ t ∈ ts, UnitR k t) (ok : ∀ s ∈ Ms, dI s z 0 = 0) : z k = 0 := by
  obtain ⟨t, ht, u1, u2⟩ := un
  obtain ⟨i, hi⟩ := List.getElem?_of_mem ht
  have il := (List.getElem?_eq_some_iff.mp hi).1
  have hs := List.getElem?_eq_getElem (show i < Ms.length by have := sc.l2; omega)
  obtain ⟨r, c, h1, h3, h4, es⟩ := sc.row hs
  obtain ⟨t1, t2, t3, t4⟩ := hR i t r hi h1
  have e0 := ok _ (List.mem_of_getElem? hs)
  rw [es, dI_sum z _ 0 W (by unfold whR; rw [List.length_map]; omega)] at e0
  have cell : ∀ j, j < W → ∃ q : Int × Int, (whR r c).getD j 0 = q.1 * (c / q.2) ∧ 0 < q.2 ∧ q.2 ∣ c ∧ (q.1 = 0 ↔ (t.getD j (0, 1)).1 = 0) := fun j hj => by
    have hx := List.getElem?_eq_getElem (show j < t.length by omega)
    have hr := List.getElem?_eq_getElem (show j < r.length by omega)
    have f := t4 j _ _ hx hr
    refine ⟨_, by rw [List.getD_eq_getElem?_getD, whR_at hr]; rfl, f.pos, h4.al _ (List.mem_of_getElem? hr), ?_⟩
    rw [List.getD_eq_getElem?_getD, hx]
    exact f.zero_iff (t3 _ (List.getElem_mem _))
  rw [sumTo_one W (k := k) kW fun j hj ne => by
    obtain ⟨q, q1, _, _, q4⟩ := cell j hj
    rw [q1, q4.mpr (u2 j ne), Int.zero_mul, Int.zero_mul]] at e0
  obtain ⟨q, q1, q2, q3, q4⟩ := cell k kW
  rw [q1, Nat.zero_add] at e0
  have c0 := h4.c0
  obtain ⟨w, hw⟩ := q3
  have w0 : w ≠ 0 := fun k => by rw [k, Int.mul_zero] at hw; omega
  rw [hw, Int.mul_ediv_cancel_left w (by omega)] at e0
  rcases Int.mul_eq_zero.mp e0 with k | k
  · rcases Int.mul_eq_zero.mp k with k | k
    · exact absurd (q4.mp k) u1
    · exact absurd k w0
  · exact k

section
variable {P : Program} {w : World} {K : PySem.W.Frag} {mg : Str → Option Value} {base : Heap}
theorem ok__law_cell (T : Tx K mg) : OkF P w K mg base 1 (He.fAd K ("_law_cell", none)) ["script", "k"] (spCell K) := by
  refine okF_of (d := d__law_cell) T.d__law_cell rfl sc__law_cell (fun _ _ _ _ _ _ us hl => match us, hl with | [_, _], _ => rfl) (fun vs H Q E h => ?_) (fun cdv A outer s H vs Q E hr h => ?_)
  · first | (obtain ⟨_, rfl, _⟩ := h; rfl) | (obtain ⟨_, _, rfl, _⟩ := h; rfl) | (obtain ⟨_, _, _, rfl, _⟩ := h; rfl) | (obtain ⟨_, _, _, _, rfl, _⟩ := h; rfl) | (obtain ⟨_, _, _, _, _, rfl, _⟩ := h; rfl) | (obtain ⟨_, _, _, _, _, _, rfl, _⟩ := h; rfl) | (obtain ⟨_, _, _, _, _, _, _, rfl, _⟩ := h; rfl) | (obtain ⟨_, _, _, _, _, _, _, _, rfl, _⟩ := h; rfl) | (obtain ⟨_, _, _, _, _, _, _, _, _, rfl, _⟩ := h; rfl) | (obtain ⟨_, _, _, _, _, _, _, _, _, _, rfl, _⟩ := h; rfl)
  · obtain ⟨a, ns, k, rfl, hS, k0, q⟩ := h
    refine ⟨_, (pss_cons (ps_if (pt_cmpR op_lt (pv 1) (pe_callB call_len_seq (by rfl) T.z_len PySem.boot_len (pa_cons (pv 0) pa_nil)) (nomark _)) (pss_one (ps_ret (pe_ix ix_list (pv 0) (pv 1) (fun _ _ => rfl)))) pss_nil)
      (pss_cons (ps_if (pt_cmpR op_eq (pe_callB call_len_seq (by rfl) T.z_len PySem.boot_len (pa_cons (pv 0) pa_nil)) pe_int (nomark _)) (pss_one (ps_ret (pe_op op_mul pe_int (pv 1)))) pss_nil)
      (pss_one (ps_ret (pe_op op_add (pe_op op_mul (pe_callTy call_int1 (by rfl) T.z_int (by decide +kernel) (pa_cons (pe_ix ix_list (pv 0) pe_int (fun _ _ => rfl)) pa_nil)) pe_int) (pe_op op_mul pe_int (pv 1))))))), ?_⟩
    refine ⟨_, rfl, _, rfl, _, _, rfl, .inl hS, _, _, rfl, rfl, _, rfl, iteD (fun c => ?_) (fun c => ?_)⟩
    · rw [len_map] at c
      obtain ⟨x, _, hx⟩ := get_map (ns := ns) (i := k.toNat) (by omega)
      exact ⟨_, rfl, _, rfl, _, _, _, _, rfl, rfl, hS, at_of (j := k.toNat) (by omega) hx, q x⟩
    refine ⟨_, rfl, _, _, rfl, .inl hS, rfl, _, rfl, iteEq (fun c => ?_) (fun c => ?_)⟩
    · exact ⟨_, rfl, _, _, rfl, rfl, .inl ⟨by decide, by decide⟩, q _⟩
    · obtain ⟨x, _, hx⟩ := get_map (ns := ns) (i := 0) (by simp only [len_map] at c; omega)
      exact ⟨_, rfl, _, _, _, _, rfl, rfl, hS, atI_nat (j := 0) hx, .inl ⟨_, rfl, _, _, rfl, rfl, .inr ⟨by decide, by decide⟩, _, rfl, _, _, rfl, rfl, .inl ⟨by decide, by decide⟩, _, _, rfl, rfl, q _⟩⟩

theorem ok__law_digits (T : Tx K mg) : OkF P w K mg base 1 (He.fAd K ("_law_digits", none)) ["cell", "limit", "count"] (spDig K) := by
  refine okF_of (d := d__law_digits) T.d__law_digits rfl sc__law_digits (fun _ _ _ _ _ _ us hl => match us, hl with | [_, _, _], _ => rfl) (fun vs H Q E h => ?_) (fun cdv A outer s H vs Q E hr h => ?_)
  · first | (obtain ⟨_, rfl, _⟩ := h; rfl) | (obtain ⟨_, _, rfl, _⟩ := h; rfl) | (obtain ⟨_, _, _, rfl, _⟩ := h; rfl) | (obtain ⟨_, _, _, _, rfl, _⟩ := h; rfl) | (obtain ⟨_, _, _, _, _, rfl, _⟩ := h; rfl) | (obtain ⟨_, _, _, _, _, _, rfl, _⟩ := h; rfl) | (obtain ⟨_, _, _, _, _, _, _, rfl, _⟩ := h; rfl) | (obtain ⟨_, _, _, _, _, _, _, _, rfl, _⟩ := h; rfl) | (obtain ⟨_, _, _, _, _, _, _, _, _, rfl, _⟩ := h; rfl) | (obtain ⟨_, _, _, _, _, _, _, _, _, _, rfl, _⟩ := h; rfl)
  · obtain ⟨c, l, n, rfl, l0, l1, n0, n1, q⟩ := h
    refine ⟨_, (pss_cons (ps_setI (i := 3) sc__law_digits.nd rfl (Or.inl rfl) (pe_callB call_abs (by rfl) T.z_abs (by decide +kernel) (pa_cons (pv 0) pa_nil)))
      (pss_cons (ps_set (i := 4) sc__law_digits.nd rfl (Or.inl rfl) (pe_cmpR op_ge (pv 3) (pe_op op_pow pe_int pe_int) (nomark _)))
      (pss_cons (ps_set (i := 5) sc__law_digits.nd rfl (Or.inl rfl) (pe_lst pa_nil))
      (pss_cons (ps_for PassesOwn.leaving rfl (pi_range1 rfl T.z_range (pa_cons (pv 2) pa_nil)) (pg_name (i := 6) sc__law_digits.nd rfl (Or.inl rfl)) (pss_one (ps_if (PW.pt (pw_and (pt_val (pv 4)) (pw_and1 (pt_cmpR op_gt (pv 3) pe_int (nomark _))))) (pss_cons (ps_expr (pe_bm PySem.F.plainAttrs_list PySem.F.slot_list_append PySem.F.type_list_append mt_append (pv 5) (pa_cons (pe_op op_mod (pe_callTy call_int1 (by rfl) T.z_int (by decide +kernel) (pa_cons (pv 3) pa_nil)) (pv 1)) pa_nil)))
      (pss_one (ps_setI (i := 3) sc__law_digits.nd rfl (Or.inl rfl) (pe_op op_fdiv (pv 3) (pv 1))))) (pss_cons (ps_setI (i := 7) sc__law_digits.nd rfl (Or.inl rfl) (pe_op op_mod (pe_callTy call_int1 (by rfl) T.z_int (by decide +kernel) (pa_cons (pe_op op_add (pe_op op_mul (pe_op op_add (pe_callB call_abs (by rfl) T.z_abs (by decide +kernel) (pa_cons (pv 0) pa_nil)) pe_int) pe_int) (pe_op op_mul (pv 6) pe_int)) pa_nil)) pe_int))
      (pss_cons (ps_setI (i := 7) sc__law_digits.nd rfl (Or.inl rfl) (pe_op op_mod (pe_callTy call_int1 (by rfl) T.z_int (by decide +kernel) (pa_cons (pe_op op_add (pe_op op_mul (pv 7) pe_int) (pe_op op_mul pe_int (pv 6))) pa_nil)) pe_int))
      (pss_one (ps_expr (pe_bm PySem.F.plainAttrs_list PySem.F.slot_list_append PySem.F.type_list_append mt_append (pv 5) (pa_cons (pe_op op_mod (pe_callTy call_int1 (by rfl) T.z_int (by decide +kernel) (pa_cons (pe_op op_fdiv (pv 7) pe_int) pa_nil)) (pv 1)) pa_nil)))))))))
      (pss_one (ps_ret (pv 5))))))), ?_⟩
    refine ⟨_, rfl, _, rfl, _, rfl, fun r0 _ => ?_⟩
    refine ⟨_, rfl, _, _, rfl, rfl, ⟨by decide, by decide, by decide⟩, _, _, rfl, rfl, ?_⟩
    obtain ⟨bd, hbd⟩ : ∃ bd : Bool, bd = decide ((10 : Int) ^ (18 : Int).toNat ≤ r0) := ⟨_, rfl⟩
    refine ⟨Nat.zero_le _, fun p np => ?_⟩
    refine ⟨_, rfl, _, rfl, by omega, by omega, for_range (lo := 0) (n := n.toNat) (fun i σ' H' => ∃ (r : Int) (ms : List Int) (y6 y7 : Option V), σ' = [some (.int c), some (.int l), some (.int n), some (.int r), some (.bl bd), some (.ref p), y6, y7] ∧
      Same H H' ∧ H' p = some (.lst (ms.map V.int)) ∧ ms.length = i ∧ ∀ m ∈ ms, 0 ≤ m ∧ m < l) ⟨r0, [], none, none, by rw [hbd]; rfl, sm_new np, upd_same, rfl, fun m hm => absurd hm (by simp)⟩ (fun i σ' H1 hi hI => ?_) (fun σ' H1 hI => ?_)⟩
    · obtain ⟨r, ms, y6, y7, rfl, sm, hp, hm, hb⟩ := hI
      have hz : (ms.map V.int).length < sizeLine := by rw [len_map]; exact small1000 (by omega)
      have more : ∀ (x r : Int) (y6 y7 : Option V), 0 ≤ x → x < l → ∃ (r' : Int) (ms' : List Int) (y6' y7' : Option V), [some (.int c), some (.int l), some (.int n), some (.int r), some (.bl bd), some (.ref p), y6, y7] = [some (.int c), some (.int l), some (.int n), some (.int r'), some (.bl bd), some (.ref p), y6', y7'] ∧
          Same H (upd H1 p (.lst (ms.map V.int ++ [.int x]))) ∧ (upd H1 p (.lst (ms.map V.int ++ [.int x]))) p = some (.lst (ms'.map V.int)) ∧ ms'.length = i + 1 ∧ ∀ m ∈ ms', 0 ≤ m ∧ m < l := fun x r y6 y7 h0 h1 =>
        ⟨r, ms ++ [x], y6, y7, rfl, same_mut sm np, by rw [upd_same, List.map_append]; rfl, by rw [List.length_append, hm]; rfl, fun m hm => by
          rcases List.mem_append.mp hm with hm | hm
          · exact hb m hm
          · rw [List.mem_singleton.mp hm]; exact ⟨h0, h1⟩⟩
      have e0 : (0 : Int) + (i : Int) = (i : Int) := Int.zero_add _
      rw [e0]
      have l2 : ∀ x : Int, 0 ≤ x % l ∧ x % l < l := fun x => ⟨Int.emod_nonneg _ (by omega), Int.emod_lt_of_pos _ l0⟩
      refine ⟨_, rfl, _, rfl, iteShare (iteF ?_) (fun h1 els => ?_)⟩
      · refine ⟨_, rfl, _, rfl, _, _, rfl, rfl, _, _, rfl, rfl, .inr ⟨by decide, by decide⟩, _, rfl, _, _, rfl, rfl, .inr ⟨by decide, by decide⟩, _, _, rfl, rfl, .inl ⟨_, rfl, _, _, rfl, rfl, (show (0 : Int) < 2147483647 by decide), _, rfl, fun y _ => ?_⟩⟩
        refine ⟨_, rfl, _, _, rfl, rfl, .inr ⟨by decide, by decide⟩, _, rfl, _, _, rfl, rfl, .inl ⟨by decide, by decide⟩, _, _, rfl, rfl, .inl ⟨_, rfl, _, _, rfl, rfl, (show (0 : Int) < 2147483629 by decide), _, rfl, fun z _ => ?_⟩⟩
        refine ⟨_, rfl, .inl ⟨rfl, _, SqL.of hp⟩, _, rfl, _, _, rfl, rfl, ⟨by decide, by decide⟩, .inl ⟨_, rfl, _, rfl, _, _, rfl, rfl, l0, _, _, _, rfl, rfl, hp, hz, ?_⟩⟩
        exact more _ r _ _ (l2 _).1 (l2 _).2
      · refine ⟨_, rfl, _, _, rfl, rfl, _, rfl, iteD (fun h2 => ?_) (fun h2 => unF els)⟩
        refine ⟨_, rfl, .inl ⟨rfl, _, SqL.of hp⟩, _, rfl, .inl ⟨_, rfl, _, rfl, _, _, rfl, rfl, l0, _, _, _, rfl, rfl, hp, hz, ?_⟩⟩
        refine ⟨_, rfl, _, rfl, _, _, rfl, rfl, ⟨l0, by omega⟩, _, rfl, fun r2 _ => ?_⟩
        exact more _ r2 _ _ (l2 _).1 (l2 _).2
    · obtain ⟨r, ms, y6, y7, rfl, sm, hp, hm, hb⟩ := hI
      exact ⟨_, rfl, q p H1 ms sm np hp hm hb⟩

theorem ok__law_size (T : Tx K mg) : OkF P w K mg base 1 (He.fAd K ("_law_size", none)) ["d"] (spSize K) := by
  refine okF_of (d := d__law_size) T.d__law_size rfl sc__law_size (fun _ _ _ _ _ _ us hl => match us, hl with | [_], _ => rfl) (fun vs H Q E h => ?_) (fun cdv A outer s H vs Q E hr h => ?_)
  · first | (obtain ⟨_, rfl, _⟩ := h; rfl) | (obtain ⟨_, _, rfl, _⟩ := h; rfl) | (obtain ⟨_, _, _, rfl, _⟩ := h; rfl) | (obtain ⟨_, _, _, _, rfl, _⟩ := h; rfl) | (obtain ⟨_, _, _, _, _, rfl, _⟩ := h; rfl) | (obtain ⟨_, _, _, _, _, _, rfl, _⟩ := h; rfl) | (obtain ⟨_, _, _, _, _, _, _, rfl, _⟩ := h; rfl) | (obtain ⟨_, _, _, _, _, _, _, _, rfl, _⟩ := h; rfl) | (obtain ⟨_, _, _, _, _, _, _, _, _, rfl, _⟩ := h; rfl) | (obtain ⟨_, _, _, _, _, _, _, _, _, _, rfl, _⟩ := h; rfl)
  · obtain ⟨d, rfl, q⟩ := h
    refine ⟨_, (pss_cons (ps_if (pt_cmpR op_ge (pv 0) pe_int (nomark _)) (pss_one (ps_ret (pe_op op_add pe_int (pe_op op_mod (pe_callTy call_int1 (by rfl) T.z_int (by decide +kernel) (pa_cons (pv 0) pa_nil)) pe_int)))) pss_nil)
      (pss_one (ps_ret (pe_op op_mod (pe_callTy call_int1 (by rfl) T.z_int (by decide +kernel) (pa_cons (pv 0) pa_nil)) pe_int)))), ?_⟩
    refine ⟨_, rfl, _, _, rfl, rfl, _, rfl, iteD (fun c => ?_) (fun c => ?_)⟩
    · refine ⟨_, rfl, .inl ⟨_, rfl, _, _, rfl, rfl, (show (0 : Int) < 5 by decide), _, _, rfl, rfl, ?_⟩⟩
      exact q (7 + d % 5) (by omega) (by omega)
    · refine ⟨_, rfl, .inl ⟨_, rfl, _, _, rfl, rfl, (show (0 : Int) < 7 by decide), ?_⟩⟩
      exact q (d % 7) (by omega) (by omega)

theorem ok__law_pair (T : Tx K mg) : OkF P w K mg base 1 (He.fAd K ("_law_pair", none)) ["d", "style"] (spPair K) := by
  refine okF_of (d := d__law_pair) T.d__law_pair rfl sc__law_pair (fun _ _ _ _ _ _ us hl => match us, hl with | [_, _], _ => rfl) (fun vs H Q E h => ?_) (fun cdv A outer s H vs Q E hr h => ?_)
  · first | (obtain ⟨_, rfl, _⟩ := h; rfl) | (obtain ⟨_, _, rfl, _⟩ := h; rfl) | (obtain ⟨_, _, _, rfl, _⟩ := h; rfl) | (obtain ⟨_, _, _, _, rfl, _⟩ := h; rfl) | (obtain ⟨_, _, _, _, _, rfl, _⟩ := h; rfl) | (obtain ⟨_, _, _, _, _, _, rfl, _⟩ := h; rfl) | (obtain ⟨_, _, _, _, _, _, _, rfl, _⟩ := h; rfl) | (obtain ⟨_, _, _, _, _, _, _, _, rfl, _⟩ := h; rfl) | (obtain ⟨_, _, _, _, _, _, _, _, _, rfl, _⟩ := h; rfl) | (obtain ⟨_, _, _, _, _, _, _, _, _, _, rfl, _⟩ := h; rfl)
  · obtain ⟨d, s, rfl, q⟩ := h
    refine ⟨_, (pss_cons (ps_if (PW.pt (pw_and (pt_cmpR op_eq (pv 1) pe_int (nomark _)) (pw_and1 (pt_cmpR op_eq (pe_op op_mod (pe_callTy call_int1 (by rfl) T.z_int (by decide +kernel) (pa_cons (pv 0) pa_nil)) pe_int) pe_int (nomark _))))) (pss_one (ps_ret (pe_tup (pa_cons pe_int (pa_cons pe_int pa_nil))))) pss_nil)
      (pss_cons (ps_if (pt_cmpR op_eq (pv 1) pe_int (nomark _)) (pss_one (ps_ret (pe_tup (pa_cons (pe_op op_sub (pe_op op_mod (pe_callTy call_int1 (by rfl) T.z_int (by decide +kernel) (pa_cons (pv 0) pa_nil)) pe_int) pe_int) (pa_cons pe_int pa_nil))))) pss_nil)
      (pss_one (ps_ret (pe_tup (pa_cons (pe_op op_sub (pe_op op_mod (pe_callTy call_int1 (by rfl) T.z_int (by decide +kernel) (pa_cons (pv 0) pa_nil)) pe_int) pe_int) (pa_cons (pe_op op_add (pe_op op_mod (pe_callTy call_int1 (by rfl) T.z_int (by decide +kernel) (pa_cons (pe_op op_fdiv (pv 0) pe_int) pa_nil)) pe_int) pe_int) pa_nil))))))), ?_⟩
    have made : ∀ a b : Int, -9 ≤ a ∧ a ≤ 9 → 1 ≤ b ∧ b ≤ 4 → ∀ p, H p = none → Q (.ref p) (upd H p (.tup [.int a, .int b])) := fun a b h1 h2 p np => q p _ (a, b) (sm_new np) np upd_same ⟨h1, h2⟩
    refine ⟨_, rfl, rfl, _, rfl, iteShare (iteF ?_) (fun e1 els => ?_)⟩
    · refine ⟨_, rfl, rfl, _, rfl, iteEq (fun e2 => ?_) (fun e2 => ?_)⟩
      · refine ⟨_, rfl, .inl ⟨_, rfl, _, _, rfl, rfl, (show (0 : Int) < 3 by decide), _, _, rfl, rfl, by show 2 ≤ sizeLine; decide, fun p np => ?_⟩⟩
        exact made (d % 3 - 1) 1 (by omega) (by omega) p np
      · refine ⟨_, rfl, .inl ⟨_, rfl, _, _, rfl, rfl, (show (0 : Int) < 19 by decide), _, _, rfl, rfl, _, rfl, _, _, rfl, rfl, ⟨by decide, by decide⟩, .inl ⟨_, rfl, _, _, rfl, rfl, (show (0 : Int) < 4 by decide), _, _, rfl, rfl, by show 2 ≤ sizeLine; decide, fun p np => ?_⟩⟩⟩
        exact made (d % 19 - 9) (d / 19 % 4 + 1) (by omega) (by omega) p np
    · refine ⟨_, rfl, .inl ⟨_, rfl, _, _, rfl, rfl, (show (0 : Int) < 2 by decide), rfl, _, rfl, iteEq (fun e2 => ?_) (fun e2 => unF els)⟩⟩
      exact ⟨by show 2 ≤ sizeLine; decide, fun p np => made 0 1 (by omega) (by omega) p np⟩

theorem ok__law_pairs (T : Tx K mg) (O__law_digits : OkF P w K mg base 1 (He.fAd K ("_law_digits", none)) ["cell", "limit", "count"] (spDig K)) (O__law_pair : OkF P w K mg base 1 (He.fAd K ("_law_pair", none)) ["d", "style"] (spPair K)) : OkF P w K mg base 2 (He.fAd K ("_law_pairs", none)) ["cell", "count", "style"] (spPairs K) := by
  obtain ⟨_, G__law_digits, b__law_digits, k__law_digits⟩ := O__law_digits
  obtain ⟨_, G__law_pair, b__law_pair, k__law_pair⟩ := O__law_pair
  refine okF_of (d := d__law_pairs) T.d__law_pairs rfl sc__law_pairs (fun _ _ _ _ _ _ us hl => match us, hl with | [_, _, _], _ => rfl) (fun vs H Q E h => ?_) (fun cdv A outer s H vs Q E hr h => ?_)
  · first | (obtain ⟨_, rfl, _⟩ := h; rfl) | (obtain ⟨_, _, rfl, _⟩ := h; rfl) | (obtain ⟨_, _, _, rfl, _⟩ := h; rfl) | (obtain ⟨_, _, _, _, rfl, _⟩ := h; rfl) | (obtain ⟨_, _, _, _, _, rfl, _⟩ := h; rfl) | (obtain ⟨_, _, _, _, _, _, rfl, _⟩ := h; rfl) | (obtain ⟨_, _, _, _, _, _, _, rfl, _⟩ := h; rfl) | (obtain ⟨_, _, _, _, _, _, _, _, rfl, _⟩ := h; rfl) | (obtain ⟨_, _, _, _, _, _, _, _, _, rfl, _⟩ := h; rfl) | (obtain ⟨_, _, _, _, _, _, _, _, _, _, rfl, _⟩ := h; rfl)
  · obtain ⟨c, n, s, rfl, n0, n1, q⟩ := h
    refine ⟨_, (pss_one (ps_ret (pe_lc (own := [("d", 3)]) (g := gName 3) rfl sc__law_pairs.nd (pi_list (pe_call G__law_digits (hr.mono (by decide)) (by rfl) T.g__law_digits k__law_digits b__law_digits .nil passL (pa_cons (pv 0) (pa_cons pe_int (pa_cons (pv 1) pa_nil))))) (blkOk_by (own := [("d", 3)]) (N := N__law_pairs) (sc := defScope s__law_pairs) (by decide +kernel)) (fun _ _ _ _ _ => (pg_name (i := 3) sc__law_pairs.nd rfl (Or.inl rfl))) (fun _ _ _ _ _ => pts_nil) (fun _ _ _ _ _ => (pe_call G__law_pair (hr.mono (by decide)) (by rfl) T.g__law_pair k__law_pair b__law_pair .nil passL (pa_cons (pv 3) (pa_cons (pv 2) pa_nil))))))), ?_⟩
    refine ⟨_, rfl, _, rfl, _, _, _, rfl, by decide, by decide, n0, n1, fun p H1 ms sm np hp ml mb => ?_⟩
    refine ⟨_, rfl, ⟨_, SqL.of hp⟩, fun D nD => lc_list (K := K) (a := p) (xs := ms.map V.int) (fun i H' => ∃ (xs : List V) (ps : List (Int × Int)), H' D = some (.lst xs) ∧ Same H1 H' ∧ PrL H' xs ps ∧ ps.length = i ∧ ∀ x ∈ ps, PrOk x)
      ⟨[], [], upd_same, sm_new nD, .nil, rfl, fun x h => absurd h (by simp)⟩ (fun i H' hi hP => ?_) (fun i y H' hi hP => ?_) (fun H2 hP => ?_)⟩
    · obtain ⟨xs, ps, hD, sm2, hf, hl, ho⟩ := hP
      exact sm2.seq (SqL.of hp)
    · obtain ⟨xs, ps, hD, sm2, hf, hl, ho⟩ := hP
      obtain ⟨m, hm, rfl⟩ := get_map_int hi
      refine ⟨rfl, yes_ok (iteK rfl ?_)⟩
      refine ⟨_, rfl, _, rfl, _, _, rfl, fun t H3 x sm3 nt ht ok => ?_⟩
      have hD3 := sm3 _ _ hD
      have li : i < ms.length := (List.getElem?_eq_some_iff.mp hm).1
      refine ⟨xs, hD3, by rw [hf.len]; exact small1000 (by omega), xs ++ [.ref t], ps ++ [x], upd_same, same_mut (sm2.trans sm3) nD, ((hf.mono sm3).snoc ht).upd hD3, by rw [List.length_append, hl]; rfl, fun z hz => ?_⟩
      rcases List.mem_append.mp hz with hz | hz
      · exact ho z hz
      · rw [List.mem_singleton.mp hz]; exact ok
    · obtain ⟨xs, ps, hD, sm2, hf, hl, ho⟩ := hP
      exact q D H2 xs ps (sm.trans sm2) (sm.free nD) hD hf (by rw [hl, len_map, ml]) ho

theorem ok__law_times (T : Tx K mg) : OkF P w K mg base 1 (He.fAd K ("_law_times", none)) ["a", "b"] (spLTi K) := by
  refine okF_of (d := d__law_times) T.d__law_times rfl sc__law_times (fun _ _ _ _ _ _ us hl => match us, hl with | [_, _], _ => rfl) (fun vs H Q E h => ?_) (fun cdv A outer s H vs Q E hr h => ?_)
  · first | (obtain ⟨_, rfl, _⟩ := h; rfl) | (obtain ⟨_, _, rfl, _⟩ := h; rfl) | (obtain ⟨_, _, _, rfl, _⟩ := h; rfl) | (obtain ⟨_, _, _, _, rfl, _⟩ := h; rfl) | (obtain ⟨_, _, _, _, _, rfl, _⟩ := h; rfl) | (obtain ⟨_, _, _, _, _, _, rfl, _⟩ := h; rfl) | (obtain ⟨_, _, _, _, _, _, _, rfl, _⟩ := h; rfl) | (obtain ⟨_, _, _, _, _, _, _, _, rfl, _⟩ := h; rfl) | (obtain ⟨_, _, _, _, _, _, _, _, _, rfl, _⟩ := h; rfl) | (obtain ⟨_, _, _, _, _, _, _, _, _, _, rfl, _⟩ := h; rfl)
  · obtain ⟨a, b, x, y, k, rfl, ha, hb, bx, bY, hk, q⟩ := h
    refine ⟨_, (pss_one (ps_ret (pe_tup (pa_cons (pe_op op_mulW (pe_ix ix_tup (pv 0) pe_int (fun _ _ => rfl)) (pe_ix ix_tup (pv 1) pe_int (fun _ _ => rfl))) (pa_cons (pe_op op_mulW (pe_ix ix_tup (pv 0) pe_int (fun _ _ => rfl)) (pe_ix ix_tup (pv 1) pe_int (fun _ _ => rfl))) pa_nil))))), ?_⟩
    have sa : SqT K H a [.int x.1, .int x.2] := SqT.of ha
    have sb : SqT K H b [.int y.1, .int y.2] := SqT.of hb
    exact ⟨_, rfl, _, _, _, _, rfl, rfl, sa, atI_nat (j := 0) rfl, _, rfl, _, _, _, _, rfl, rfl, sb, atI_nat (j := 0) rfl, _, _, rfl, rfl, mulW bx.a bY.a (by omega), _, rfl, _, _, _, _, rfl, rfl, sa, atI_nat (j := 1) rfl, _, rfl, _, _, _, _, rfl, rfl, sb, atI_nat (j := 1) rfl, _, _, rfl, rfl, mulW bx.b bY.b (by omega), by show 2 ≤ sizeLine; decide, fun p np => q p _ (sm_new np) np upd_same⟩

theorem ok__law_planted (T : Tx K mg) (O__law_times : OkF P w K mg base 1 (He.fAd K ("_law_times", none)) ["a", "b"] (spLTi K)) : OkF P w K mg base 2 (He.fAd K ("_law_planted", none)) ["rows", "width", "plant", "pairs"] (spPlant K) := by
  obtain ⟨_, G__law_times, b__law_times, k__law_times⟩ := O__law_times
  refine okF_of (d := d__law_planted) T.d__law_planted rfl sc__law_planted (fun _ _ _ _ _ _ us hl => match us, hl with | [_, _, _, _], _ => rfl) (fun vs H Q E h => ?_) (fun cdv A outer s H vs Q E hr h => ?_)
  · (obtain ⟨_, _, _, _, _, _, _, _, _, _, _, _, rfl, _⟩ := h; rfl)
  · obtain ⟨a, b, xs, us, ts, prs, W, pl, H0, _, _, _, rfl, hA, mm, ok, ne, na, s0, ab, hB, hus, pl1, okp, t12, w11, p0, p1, q⟩ := h
    have xl := mm.m.len
    have ul := hus.len
    refine ⟨_, (Evl.pss_cut (ps_if (PW.pt (pw_and (pt_cmpR op_eq (pe_op op_mod (pe_callTy call_int1 (by rfl) T.z_int (by decide +kernel) (pa_cons (pv 2) pa_nil)) pe_int) pe_int (nomark _)) (pw_and1 (pt_cmpR op_gt (pv 1) pe_int (nomark _))))) (pss_one (ps_for PassesOwn.leaving rfl (pi_list (pv 0)) (pg_name (i := 4) sc__law_planted.nd rfl (Or.inl rfl)) (pss_one (ps_asg (pe_call G__law_times (hr.mono (by decide)) (by rfl) T.g__law_times k__law_times b__law_times .nil passL (pa_cons (pe_ix ix_list (pv 4) pe_int (fun _ _ => rfl)) (pa_cons (pe_ix ix_list (pv 3) pe_int (fun _ _ => rfl)) pa_nil))) (pg_sub (pv 4) (pe_op op_sub (pv 1) pe_int) set_list))))) pss_nil)
      (Evl.pss_cut (ps_if (pt_cmpR op_eq (pe_op op_mod (pe_callTy call_int1 (by rfl) T.z_int (by decide +kernel) (pa_cons (pv 2) pa_nil)) pe_int) pe_int (nomark _)) (pss_one (ps_for PassesOwn.leaving rfl (pi_range1 rfl T.z_range (pa_cons (pv 1) pa_nil)) (pg_name (i := 5) sc__law_planted.nd rfl (Or.inl rfl)) (pss_cons (ps_setLc (i := 4) (own := [("i", 6)]) (g := gName 6) rfl sc__law_planted.nd rfl rfl (sw_true rfl rfl rfl (by decide +kernel)) (pi_range1 rfl T.z_range (pa_cons (pv 1) pa_nil)) (blkOk_by (own := [("i", 6)]) (N := N__law_planted) (sc := defScope s__law_planted) (by decide +kernel)) (fun _ _ _ _ _ => (pg_name (i := 6) sc__law_planted.nd rfl (Or.inl rfl))) (fun _ _ _ _ _ => pts_nil) (fun _ _ _ _ _ => (pe_tup (pa_cons pe_int (pa_cons pe_int pa_nil)))))
      (pss_cons (ps_asg (pe_ix ix_list (pv 3) (pv 5) (fun _ _ => rfl)) (pg_sub (pv 4) (pe_op op_mod (pe_callTy call_int1 (by rfl) T.z_int (by decide +kernel) (pa_cons (pe_op op_add (pv 5) (pv 2)) pa_nil)) (pv 1)) set_list))
      (Evl.pss_cut (ps_if (pt_cmpR op_eq (pe_ix ix_tup (pe_ix ix_list (pv 3) (pv 5) (fun _ _ => rfl)) pe_int (fun _ _ => rfl)) pe_int (nomark _)) (pss_one (ps_asg (pe_tup (pa_cons pe_int (pa_cons pe_int pa_nil))) (pg_sub (pv 4) (pe_op op_mod (pe_callTy call_int1 (by rfl) T.z_int (by decide +kernel) (pa_cons (pe_op op_add (pv 5) (pv 2)) pa_nil)) (pv 1)) set_list))) pss_nil)
      (pss_one (ps_expr (pe_bm PySem.F.plainAttrs_list PySem.F.slot_list_insert PySem.F.type_list_insert mt_insert (pv 0) (pa_cons (pe_op op_mod (pe_callTy call_int1 (by rfl) T.z_int (by decide +kernel) (pa_cons (pv 2) pa_nil)) (pe_op op_add (pe_callB call_len_seq (by rfl) T.z_len PySem.boot_len (pa_cons (pv 0) pa_nil)) pe_int)) (pa_cons (pv 4) pa_nil)))))))))) pss_nil)
      (pss_one (ps_ret (pv 0))))), ?_⟩
    have hf := List.getElem?_eq_getElem (show 0 < prs.length by omega)
    obtain ⟨f, ef⟩ : ∃ f, prs[0]'(by omega) = f := ⟨_, rfl⟩
    rw [ef] at hf
    have okf := okp f (List.mem_of_getElem? hf)
    refine ⟨fun σ' H' => ∃ (ts' : List (List (Int × Int))) (y4 : Option V), σ' = [some (.ref a), some (.int (W : Int)), some (.int pl), some (.ref b), y4, none, none] ∧ Same H0 H' ∧ H' a = some (.lst xs) ∧ MatP H' xs ts' ∧ ts'.length = ts.length ∧ H' b = some (.lst us) ∧ PrL H' us prs ∧ ((ts' = ts ∧ (pl % 3 = 1 → ¬ 2 ≤ W)) ∨ (pl % 3 = 1 ∧ 2 ≤ W ∧ ∀ (j : Nat) (t : List (Int × Int)), ts'[j]? = some t → ∃ t0, ts[j]? = some t0 ∧ t = t0.set (W - 1) (mulP (t0.getD 0 (0, 1)) f))), ?_, ?_⟩
    · have keep : (pl % 3 = 1 → ¬ 2 ≤ W) → ∃ (ts' : List (List (Int × Int))) (y4 : Option V), [some (V.ref a), some (.int (W : Int)), some (.int pl), some (.ref b), none, none, none] = [some (.ref a), some (.int (W : Int)), some (.int pl), some (.ref b), y4, none, none] ∧ Same H0 H ∧ H a = some (.lst xs) ∧ MatP H xs ts' ∧ ts'.length = ts.length ∧ H b = some (.lst us) ∧ PrL H us prs ∧ ((ts' = ts ∧ (pl % 3 = 1 → ¬ 2 ≤ W)) ∨ (pl % 3 = 1 ∧ 2 ≤ W ∧ ∀ (j : Nat) (t : List (Int × Int)), ts'[j]? = some t → ∃ t0, ts[j]? = some t0 ∧ t = t0.set (W - 1) (mulP (t0.getD 0 (0, 1)) f))) := fun h => ⟨ts, none, rfl, s0, hA, mm.m, rfl, hB, hus, .inl ⟨rfl, h⟩⟩
      refine ⟨_, rfl, .inl ⟨_, rfl, _, _, rfl, rfl, (show (0 : Int) < 3 by decide), rfl, _, rfl, iteEq (fun c1 => ?_) (fun c1 => iteF (keep fun h => absurd h c1))⟩⟩
      refine ⟨_, rfl, _, _, rfl, rfl, _, rfl, iteD (fun c2 => ?_) (fun c2 => keep fun _ h => c2 (by omega))⟩
      have W2 : 2 ≤ W := by omega
      refine ⟨_, rfl, _, rfl, ⟨_, SqL.of hA⟩, for_list (K := K) (a := a) (xs := xs) (fun i σ' H' => ∃ (ts' : List (List (Int × Int))) (y4 : Option V), σ' = [some (.ref a), some (.int (W : Int)), some (.int pl), some (.ref b), y4, none, none] ∧ Same H0 H' ∧ H' a = some (.lst xs) ∧ MatD H0 H' xs ts' ∧ ts'.length = ts.length ∧ H' b = some (.lst us) ∧ PrL H' us prs ∧ ∀ (j : Nat) (t : List (Int × Int)), ts'[j]? = some t → ∃ t0, ts[j]? = some t0 ∧ t = if j < i then t0.set (W - 1) (mulP (t0.getD 0 (0, 1)) f) else t0) ⟨ts, none, rfl, s0, hA, mm, rfl, hB, hus, fun j t h => ⟨t, h, by rw [if_neg (Nat.not_lt_zero _)]⟩⟩ (fun i σ' H' hi hI => ?_) (fun i x σ' H' hi hI => ?_) (fun σ' H' hI => ?_)⟩
      · obtain ⟨ts', y4, rfl, s1, hA1, _⟩ := hI
        exact SqL.of hA1
      · obtain ⟨ts', y4, rfl, s1, hA1, m1, tl1, hB1, hus1, ev⟩ := hI
        obtain ⟨t, ra, ys, ht, rfl, hra, hys⟩ := m1.m.item hi
        obtain ⟨t0, h0, e0⟩ := ev i t ht
        rw [if_neg (Nat.lt_irrefl i)] at e0
        subst e0
        obtain ⟨o1, o2⟩ := ok t (List.mem_of_getElem? h0)
        have hx0 := List.getElem?_eq_getElem (show 0 < t.length by omega)
        obtain ⟨c, ec, hc⟩ := hys.at_ 0 _ hx0
        obtain ⟨c', ec', hc'⟩ := hus1.at_ 0 _ hf
        have eg : t.getD 0 (0, 1) = t[0]'(by omega) := by rw [List.getD_eq_getElem?_getD, hx0]; rfl
        obtain ⟨q1, q2⟩ := ne i ra hi
        have n0 := m1.nw i ra hi
        refine ⟨_, rfl, _, _, _, _, rfl, rfl, SqL.of hra, atI_nat (j := 0) ec, _, rfl, _, _, _, _, rfl, rfl, SqL.of hB1, atI_nat (j := 0) ec', c, c', t[0]'(by omega), f, 4, rfl, hc, hc', (o2 _ (List.getElem_mem _)).bits, okf.bits, by decide, fun p2 H2 s2 np2 hp2 => ?_⟩
        refine ⟨_, rfl, _, rfl, _, _, rfl, rfl, ra, _, _, W - 1, rfl, rfl, s2 _ _ hra, ixN_at (by omega) (by rw [hys.len]; omega), ?_⟩
        have hp2 : H2 p2 = some (prO (mulP (t.getD 0 (0, 1)) f)) := by rw [eg]; exact hp2
        have m2 : MatD H0 H2 xs ts' := ⟨m1.m.mono s2, m1.nw, m1.nd⟩
        refine ⟨ts'.set i (t.set (W - 1) (mulP (t.getD 0 (0, 1)) f)), _, rfl, same_mut (s1.trans s2) n0, by rw [upd_ne q1.symm]; exact s2 _ _ hA1, m2.put hi (s2 _ _ hra) (PrL.set (W - 1) (hys.mono s2) hp2), by rw [List.length_set]; exact tl1, by rw [upd_ne q2.symm]; exact s2 _ _ hB1, (hus1.mono s2).upd (s2 _ _ hra), fun j t' ht' => ?_⟩
        by_cases cj : j = i
        · subst cj
          have il := (List.getElem?_eq_some_iff.mp ht').1
          rw [List.length_set] at il
          rw [List.getElem?_set_self il] at ht'
          cases ht'
          exact ⟨t, h0, by rw [if_pos (Nat.lt_succ_self _)]⟩
        · rw [List.getElem?_set_ne (fun z => cj z.symm)] at ht'
          obtain ⟨t1, k1, k2⟩ := ev j t' ht'
          refine ⟨t1, k1, ?_⟩
          rw [k2]
          by_cases cl : j < i
          · rw [if_pos cl, if_pos (by omega)]
          · rw [if_neg cl, if_neg (by omega)]
      · obtain ⟨ts', y4, rfl, s1, hA1, m1, tl1, hB1, hus1, ev⟩ := hI
        refine ⟨ts', y4, rfl, s1, hA1, m1.m, tl1, hB1, hus1, .inr ⟨c1, W2, fun j t ht => ?_⟩⟩
        obtain ⟨t0, k1, k2⟩ := ev j t ht
        have := (List.getElem?_eq_some_iff.mp ht).1
        rw [if_pos (by omega)] at k2
        exact ⟨t0, k1, k2⟩
    rintro _ H1 ⟨ts1, y4, rfl, s1, hA1, m1, tl1, hB1, hus1, alt⟩
    refine ⟨fun σ' H' => ∃ (xs' : List V) (ts' : List (List (Int × Int))) (y4 y5 : Option V), σ' = [some (.ref a), some (.int (W : Int)), some (.int pl), some (.ref b), y4, y5, none] ∧ Same H0 H' ∧ H' a = some (.lst xs') ∧ MatP H' xs' ts' ∧ ((ts' = ts1 ∧ pl % 3 ≠ 2) ∨ (pl % 3 = 2 ∧ ts'.length = ts.length + W ∧ (∀ t ∈ ts', t.length = W ∧ ∀ x ∈ t, PrOk x) ∧ ∀ k, k < W → ∃ t ∈ ts', UnitR ((k + pl.toNat) % W) t)), ?_, ?_⟩
    · obtain ⟨pn, hpn⟩ : ∃ pn : Nat, (pn : Int) = pl := ⟨pl.toNat, by omega⟩
      subst hpn
      rw [Int.toNat_natCast]
      have m1l := m1.len
      have ne1 : ∀ (j : Nat) (c : Addr), xs[j]? = some (V.ref c) → c ≠ a ∧ c ≠ b := ne
      refine ⟨_, rfl, .inl ⟨_, rfl, _, _, rfl, rfl, (show (0 : Int) < 3 by decide), rfl, _, rfl, iteEq (fun c1 => ?_) (fun c1 => ⟨xs, ts1, _, none, rfl, s1, hA1, m1, .inl ⟨rfl, c1⟩⟩)⟩⟩
      have tsE : ts1 = ts := by
        rcases alt with ⟨e, _⟩ | ⟨e, _⟩
        · exact e
        · omega
      subst tsE
      refine ⟨_, rfl, _, rfl, by omega, by omega, for_range (lo := 0) (n := (W : Int).toNat) (fun k σ' H' => ∃ (xs' : List V) (ts' : List (List (Int × Int))) (y4 y5 : Option V), σ' = [some (.ref a), some (.int (W : Int)), some (.int (pn : Int)), some (.ref b), y4, y5, none] ∧ Same H0 H' ∧ H' a = some (.lst xs') ∧ MatP H' xs' ts' ∧ (∀ (j : Nat) (c : Addr), xs'[j]? = some (V.ref c) → c ≠ a) ∧ H' b = some (.lst us) ∧ PrL H' us prs ∧ ts'.length = ts1.length + k ∧ (∀ t ∈ ts', t.length = W ∧ ∀ x ∈ t, PrOk x) ∧ ∀ k', k' < k → ∃ t ∈ ts', UnitR ((k' + pn) % W) t) ⟨xs, ts1, _, none, rfl, s1, hA1, m1, fun j c h => (ne j c h).1, hB1, hus1, rfl, ok, fun k' h => absurd h (Nat.not_lt_zero _)⟩ (fun k σ' H' hk hI => ?_) (fun σ' H' hI => ?_)⟩
      rotate_left
      · obtain ⟨xs', ts', y4, y5, rfl, s2, hA2, m2, _, _, _, tl2, ok2, un⟩ := hI
        rw [show (W : Int).toNat = W by omega] at tl2 un
        exact ⟨xs', ts', y4, y5, rfl, s2, hA2, m2, .inr ⟨c1, tl2, ok2, un⟩⟩
      obtain ⟨xs', ts', y4, y5, rfl, s2, hA2, m2, ne2, hB2, hus2, tl2, ok2, un⟩ := hI
      have kW : k < W := by omega
      have e0 : (0 : Int) + (k : Int) = (k : Int) := Int.zero_add _
      rw [e0]
      have x2l := m2.len
      refine ⟨_, rfl, _, rfl, by omega, by omega, fun DZ nDZ => lc_range (lo := 0) (n := (W : Int).toNat) (fun i H3 => ∃ zs : List V, H3 DZ = some (.lst zs) ∧ Same H' H3 ∧ PrL H3 zs (List.replicate i (0, 1))) ⟨[], upd_same, sm_new nDZ, .nil⟩ (fun i H3 hi hP => ?_) (fun H3 hP => ?_)⟩
      · obtain ⟨zs, hD, sm, hz⟩ := hP
        refine ⟨rfl, yes_ok (iteK rfl ?_)⟩
        refine ⟨by show 2 ≤ sizeLine; decide, fun p np => ?_⟩
        have s' := sm_new (o := .tup [V.int 0, V.int 1]) np
        have hD' := s' _ _ hD
        refine ⟨zs, hD', by rw [hz.len, List.length_replicate]; exact small1000 (by omega), zs ++ [.ref p], upd_same, same_mut (sm.trans s') nDZ, ?_⟩
        rw [List.replicate_succ']
        exact ((hz.mono s').snoc (p := (0, 1)) upd_same).upd hD'
      obtain ⟨zs, hDZ, s3, fZ⟩ := hP
      rw [show (W : Int).toNat = W by omega] at fZ
      have zl := fZ.len
      rw [List.length_replicate] at zl
      obtain ⟨m, em⟩ : ∃ m, (k + pn) % W = m := ⟨_, rfl⟩
      have mW : m < W := by rw [← em]; exact Nat.mod_lt _ (by omega)
      have eI : ((k : Int) + (pn : Int)) % (W : Int) = (m : Int) := by rw [← em]; exact_mod_cast rfl
      have hxk := List.getElem?_eq_getElem (show k < prs.length by omega)
      have okk := okp _ (List.getElem_mem (show k < prs.length by omega))
      obtain ⟨c, ec, hc⟩ := (hus2.mono s3).at_ k _ hxk
      have hB3 := s3 _ _ hB2
      have hA3 := s3 _ _ hA2
      have dZa : DZ ≠ a := fun z => by rw [z, hA2] at nDZ; cases nDZ
      have dZb : DZ ≠ b := fun z => by rw [z, hB2] at nDZ; cases nDZ
      have nZ : ∀ (j : Nat) (cc : Addr), xs'[j]? = some (V.ref cc) → cc ≠ DZ := fun j cc h => by
        obtain ⟨t, a', ys, e1, e2, e3, e4⟩ := m2.item h
        cases e2
        intro z
        rw [z, nDZ] at e3
        cases e3
      refine ⟨_, rfl, _, rfl, _, _, _, _, rfl, rfl, SqL.of hB3, atI_nat (j := k) ec, _, rfl, _, rfl, _, rfl, _, _, rfl, rfl, .inl ⟨_, rfl, _, rfl, _, _, rfl, rfl, (show (0 : Int) < (W : Int) by omega), DZ, _, _, m, rfl, rfl, hDZ, ixN_at eI (by omega), ?_⟩⟩
      have sZ := same_mut (o := .lst (zs.set m (.ref c))) s3 nDZ
      have hDZ4 : (upd H3 DZ (.lst (zs.set m (.ref c)))) DZ = some (.lst (zs.set m (.ref c))) := upd_same
      have fZ4 := (PrL.set m fZ hc).upd (o := .lst (zs.set m (.ref c))) hDZ
      have hc4 : (upd H3 DZ (.lst (zs.set m (.ref c)))) c = some (prO (prs[k]'(by omega))) := by rw [upd_ne (fun z => by rw [z, hDZ] at hc; cases hc)]; exact hc
      generalize upd H3 DZ (.lst (zs.set m (.ref c))) = H4 at sZ hDZ4 fZ4 hc4 ⊢
      refine ⟨fun σ' H5 => ∃ (ys : List V) (t : List (Int × Int)), σ' = [some (.ref a), some (.int (W : Int)), some (.int (pn : Int)), some (.ref b), some (.ref DZ), some (.int (k : Int)), none] ∧ Same H' H5 ∧ H5 DZ = some (.lst ys) ∧ PrL H5 ys t ∧ t.length = W ∧ (∀ x ∈ t, PrOk x) ∧ UnitR m t, ?_, ?_⟩
      · have sc : SqT K H4 c [.int (prs[k]'(by omega)).1, .int (prs[k]'(by omega)).2] := SqT.of hc4
        refine ⟨_, rfl, _, rfl, _, _, _, _, rfl, rfl, SqL.of (sZ _ _ hB2), atI_nat (j := k) ec, _, _, _, _, rfl, rfl, sc, atI_nat (j := 0) rfl, rfl, _, rfl, iteEq (fun z0 => ?_) (fun z0 => ?_)⟩
        · refine ⟨by show 2 ≤ sizeLine; decide, fun p1 np1 => ?_⟩
          have t1 := sm_new (o := .tup [V.int 2, V.int 3]) np1
          have hD5 := t1 _ _ hDZ4
          refine ⟨_, rfl, _, rfl, _, rfl, _, _, rfl, rfl, .inl ⟨_, rfl, _, rfl, _, _, rfl, rfl, (show (0 : Int) < (W : Int) by omega), DZ, _, _, m, rfl, rfl, hD5, ixN_at eI (by rw [List.length_set]; omega), ?_⟩⟩
          refine ⟨_, _, rfl, same_mut (sZ.trans t1) nDZ, upd_same, (PrL.set m (fZ4.mono t1) (a := p1) (p := (2, 3)) upd_same).upd hD5, by rw [List.length_set, List.length_set, List.length_replicate], fun x hx => ?_, ?_⟩
          · rw [List.set_set] at hx
            exact repl_ok ⟨⟨by decide, by decide⟩, by decide, by decide⟩ x hx
          · rw [List.set_set]
            exact unit_set mW (by decide)
        · exact ⟨_, _, rfl, sZ, hDZ4, fZ4, by rw [List.length_set, List.length_replicate], repl_ok okk, unit_set mW z0⟩
      rintro _ H5 ⟨ys, t, rfl, s5, hD5, fy, tlen, tok, un5⟩
      have hA5 := s5 _ _ hA2
      have x3 : (0 : Int) < (xs'.length : Int) + 1 := by omega
      have i0 := Int.emod_nonneg (pn : Int) (show (xs'.length : Int) + 1 ≠ 0 by omega)
      have i1 := Int.emod_lt_of_pos (pn : Int) x3
      refine ⟨_, rfl, .inl ⟨rfl, _, SqL.of hA5⟩, _, rfl, .inl ⟨_, rfl, _, rfl, _, _, rfl, .inl (SqL.of hA5), _, _, rfl, rfl, _, _, rfl, rfl, x3, _, rfl, a, xs', _, _, rfl, rfl, hA5, ?_, i0, ?_, ?_⟩⟩
      · exact small1000 (by omega)
      · have : (2 : Int) ^ 63 = 9223372036854775808 := by decide
        omega
      have mI := ((m2.mono s5).ins ((pn : Int) % ((xs'.length : Int) + 1)).toNat hD5 fy)
      have neI : ∀ (j : Nat) (cc : Addr), (xs'.take ((pn : Int) % ((xs'.length : Int) + 1)).toNat ++ [V.ref DZ] ++ xs'.drop ((pn : Int) % ((xs'.length : Int) + 1)).toNat)[j]? = some (V.ref cc) → cc ≠ a := fun j cc h => by
        have h := List.mem_of_getElem? h
        rcases List.mem_append.mp h with h | h
        · rcases List.mem_append.mp h with h | h
          · obtain ⟨j', hj'⟩ := List.getElem?_of_mem (List.mem_of_mem_take h)
            exact ne2 j' cc hj'
          · cases List.mem_singleton.mp h
            exact dZa
        · obtain ⟨j', hj'⟩ := List.getElem?_of_mem (List.mem_of_mem_drop h)
          exact ne2 j' cc hj'
      refine ⟨_, _, _, _, rfl, same_mut (s2.trans s5) na, upd_same, ⟨mI.len, fun i r hr => ?_⟩, neI, by rw [upd_ne ab.symm]; exact s5 _ _ hB2, (hus2.mono s5).upd hA5, ?_, fun r hr => ?_, fun k' hk' => ?_⟩
      · obtain ⟨b', zs', e1, e2, e3⟩ := mI.at_ i r hr
        exact ⟨b', zs', e1, by rw [upd_ne (neI i b' e1)]; exact e2, e3.upd hA5⟩
      · rw [List.length_append, List.length_append, List.length_take, List.length_drop, List.length_singleton]; omega
      · rcases List.mem_append.mp hr with h | h
        · rcases List.mem_append.mp h with h | h
          · exact ok2 r (List.mem_of_mem_take h)
          · rw [List.mem_singleton.mp h]; exact ⟨tlen, tok⟩
        · exact ok2 r (List.mem_of_mem_drop h)
      · by_cases cl : k' < k
        · obtain ⟨r, hr, ur⟩ := un k' cl
          refine ⟨r, ?_, ur⟩
          rw [← List.take_append_drop ((pn : Int) % ((xs'.length : Int) + 1)).toNat ts'] at hr
          rcases List.mem_append.mp hr with h | h
          · exact List.mem_append.mpr (.inl (List.mem_append.mpr (.inl h)))
          · exact List.mem_append.mpr (.inr h)
        · have : k' = k := by omega
          subst this
          rw [em]
          exact ⟨t, List.mem_append.mpr (.inl (List.mem_append.mpr (.inr (List.mem_singleton.mpr rfl)))), un5⟩
    rintro _ H2 ⟨xs', ts', y4', y5, rfl, s2, hA2, m2, alt2⟩
    refine ⟨_, rfl, q H2 xs' ts' s2 hA2 m2 ?_ ?_ ?_ ?_⟩
    · intro t ht
      rcases alt2 with ⟨rfl, _⟩ | ⟨_, _, h, _⟩
      · rcases alt with ⟨rfl, _⟩ | ⟨_, W2, ev⟩
        · exact ⟨(ok t ht).1, fun j x hx => .inl ((ok t ht).2 x (List.mem_of_getElem? hx))⟩
        · obtain ⟨j, hj⟩ := List.getElem?_of_mem ht
          obtain ⟨t0, h0, rfl⟩ := ev j t hj
          obtain ⟨o1, o2⟩ := ok t0 (List.mem_of_getElem? h0)
          refine ⟨by rw [List.length_set]; exact o1, fun i x hx => ?_⟩
          by_cases c : i = W - 1
          · subst c
            rw [List.getElem?_set_self (by omega)] at hx
            cases hx
            refine .inr ⟨rfl, t0.getD 0 (0, 1), f, ?_, okf, rfl⟩
            rw [List.getD_eq_getElem?_getD, List.getElem?_eq_getElem (show 0 < t0.length by omega)]
            exact o2 _ (List.getElem_mem _)
          · rw [List.getElem?_set_ne (fun z => c z.symm)] at hx
            exact .inl (o2 x (List.mem_of_getElem? hx))
      · exact ⟨(h t ht).1, fun j x hx => .inl ((h t ht).2 x (List.mem_of_getElem? hx))⟩
    · rcases alt2 with ⟨rfl, _⟩ | ⟨_, h, _⟩ <;> omega
    · intro p3 W2
      rcases alt2 with ⟨rfl, _⟩ | ⟨h, _⟩
      · rcases alt with ⟨_, h⟩ | ⟨_, _, ev⟩
        · exact absurd W2 (h p3)
        · refine ⟨f, okf, fun t ht => ?_⟩
          obtain ⟨j, hj⟩ := List.getElem?_of_mem ht
          obtain ⟨t0, h0, rfl⟩ := ev j t hj
          obtain ⟨o1, o2⟩ := ok t0 (List.mem_of_getElem? h0)
          rw [List.getD_eq_getElem?_getD, List.getElem?_set_self (by omega), List.getD_eq_getElem?_getD (l := t0.set _ _), List.getElem?_set_ne (by omega), ← List.getD_eq_getElem?_getD]
          rfl
      · omega
    · intro p3 j hj
      rcases alt2 with ⟨_, h⟩ | ⟨_, _, _, un⟩
      · exact absurd p3 h
      · obtain ⟨d, hd⟩ : ∃ d, d = (j + W * 1000 - pl.toNat) % W := ⟨_, rfl⟩
        have hdW : d < W := by rw [hd]; exact Nat.mod_lt _ (by omega)
        have wb : pl.toNat ≤ W * 1000 := by
          have : 1 * 1000 ≤ W * 1000 := Nat.mul_le_mul_right _ (by omega)
          omega
        have e : (d + pl.toNat) % W = j := by
          rw [hd, Nat.mod_add_mod, Nat.sub_add_cancel (by omega), Nat.add_mul_mod_self_left]
          exact Nat.mod_eq_of_lt hj
        obtain ⟨t, ht, u⟩ := un d hdW
        rw [e] at u
        exact ⟨t, ht, u⟩

theorem ok_Fraction___init__ (T : Tx K mg) : OkD P w K mg base 1 (He.fAd K ("Fraction", some "__init__")) ["self", "num", "den"] (He.Dv.v K (.int 1)) (spInit K) := by
  refine okD_of (d := d_Fraction___init__) (dv := .int 1) T.d_Fraction___init__ rfl sc_Fraction___init__ (fun _ _ _ _ _ _ _ us its h1 h2 => match us, its, h1, h2 with | [_, _, _], [_], _, _ => ⟨_, rfl, rfl⟩) (fun _ _ _ _ _ _ _ us its h1 h2 => match us, its, h1, h2 with | [_, _], [_], _, _ => ⟨_, rfl, rfl⟩) (by decide) (fun vs H Q E h => ?_) (fun cdv A outer s H vs Q E hr h => ?_)
  · first | (obtain ⟨_, rfl, _⟩ := h; rfl) | (obtain ⟨_, _, rfl, _⟩ := h; rfl) | (obtain ⟨_, _, _, rfl, _⟩ := h; rfl) | (obtain ⟨_, _, _, _, rfl, _⟩ := h; rfl) | (obtain ⟨_, _, _, _, _, rfl, _⟩ := h; rfl) | (obtain ⟨_, _, _, _, _, _, rfl, _⟩ := h; rfl) | (obtain ⟨_, _, _, _, _, _, _, rfl, _⟩ := h; rfl) | (obtain ⟨_, _, _, _, _, _, _, _, rfl, _⟩ := h; rfl) | (obtain ⟨_, _, _, _, _, _, _, _, _, rfl, _⟩ := h; rfl) | (obtain ⟨_, _, _, _, _, _, _, _, _, _, rfl, _⟩ := h; rfl)
  · obtain ⟨x, dx, n, d, k, rfl, hx, hb, hk, hE, q⟩ := h
    refine ⟨_, (pss_cons (ps_if (pt_cmpR op_eq (pv 2) pe_int (nomark _)) (pss_one (ps_raise rfl (takes_of rfl rfl rfl rfl) (pmk_own PySem.F.excBase_ValueError T.x_DivisionByZero T.g_DivisionByZero T.k_DivisionByZero (T.r_DivisionByZero rfl) rfl))) pss_nil)
      (pss_cons (ps_setI (i := 3) sc_Fraction___init__.nd rfl (Or.inl rfl) (pe_callBfun cr_gcd rfl T.g_gcd (pa_cons (pv 1) (pa_cons (pv 2) pa_nil))))
      (Evl.pss_cut (ps_if (pt_cmpR op_lt (pv 2) pe_int (nomark _)) (pss_one (ps_setI (i := 3) sc_Fraction___init__.nd rfl (Or.inl rfl) (pe_un un_neg (pv 3)))) pss_nil)
      (pss_cons (ps_fld (pv 0) (pe_op op_fdivZ (pv 1) (pv 3)) rfl)
      (pss_one (ps_fld (pv 0) (pe_op op_fdivZ (pv 2) (pv 3)) rfl)))))), ?_⟩
    refine ⟨_, rfl, rfl, _, rfl, iteEq (fun c => ?_) (fun c => ?_)⟩
    · exact hE c
    refine ⟨_, rfl, _, rfl, _, _, rfl, _, rfl, fun common e_common => ?_⟩
    refine ⟨fun σ' H' => H = H' ∧ ∃ c : Int, σ' = [some (.ref x), some (.int n), some (.int d), some (.int c)] ∧ c = if d < 0 then -common else common, ?_, ?_⟩
    · refine ⟨_, rfl, _, _, rfl, rfl, _, rfl, iteD (fun h1 => ?_) (fun h1 => ?_)⟩
      · exact ⟨_, rfl, _, rfl, _, rfl, fun c e => ⟨rfl, c, rfl, by rw [if_pos h1, e]⟩⟩
      · exact ⟨rfl, common, rfl, by rw [if_neg h1]⟩
    rintro _ _ ⟨rfl, cc, rfl, hc⟩
    rw [e_common] at hc
    obtain ⟨c0, cl, f⟩ := fq_init c hc
    have dz : CDivZ n cc := divZ c0 (Nat.lt_of_le_of_lt cl hb) hk
    have dz2 : CDivZ d cc := divZ c0 (Nat.lt_of_le_of_lt cl hb) hk
    refine ⟨_, rfl, _, rfl, _, _, rfl, rfl, dz, _, rfl, x, _, dx, [], rfl, hx, T.cls_Fraction, T.n_Fraction_num, by decide, ?_⟩
    refine ⟨_, rfl, _, rfl, _, _, rfl, rfl, dz2, _, rfl, x, _, dx, _, rfl, upd_same, T.cls_Fraction, T.n_Fraction_den, (show (1 : Nat) < 1000 by decide), ?_⟩
    have z := q c _ _ f
    rw [← upd_upd (H := H) (a := x) (o := .ins (CF K) dx (putF "num" (.int (n.fdiv cc)) []))] at z
    exact z

theorem ok__law_vector (T : Tx K mg) (O_Fraction___init__ : OkD P w K mg base 1 (He.fAd K ("Fraction", some "__init__")) ["self", "num", "den"] (He.Dv.v K (.int 1)) (spInit K)) : OkF P w K mg base 3 (He.fAd K ("_law_vector", none)) ["pairs"] (spLVec K) := by
  obtain ⟨_, G_Fraction___init__, b_Fraction___init__, ⟨_, v_Fraction___init__, bd_Fraction___init__⟩, k_Fraction___init__⟩ := O_Fraction___init__
  refine okF_of (d := d__law_vector) T.d__law_vector rfl sc__law_vector (fun _ _ _ _ _ _ us hl => match us, hl with | [_], _ => rfl) (fun vs H Q E h => ?_) (fun cdv A outer s H vs Q E hr h => ?_)
  · first | (obtain ⟨_, rfl, _⟩ := h; rfl) | (obtain ⟨_, _, rfl, _⟩ := h; rfl) | (obtain ⟨_, _, _, rfl, _⟩ := h; rfl) | (obtain ⟨_, _, _, _, rfl, _⟩ := h; rfl) | (obtain ⟨_, _, _, _, _, rfl, _⟩ := h; rfl) | (obtain ⟨_, _, _, _, _, _, rfl, _⟩ := h; rfl) | (obtain ⟨_, _, _, _, _, _, _, rfl, _⟩ := h; rfl) | (obtain ⟨_, _, _, _, _, _, _, _, rfl, _⟩ := h; rfl) | (obtain ⟨_, _, _, _, _, _, _, _, _, rfl, _⟩ := h; rfl) | (obtain ⟨_, _, _, _, _, _, _, _, _, _, rfl, _⟩ := h; rfl)
  · obtain ⟨a, xs, ps, k, rfl, hS, hf, ho, hl, hk, q⟩ := h
    refine ⟨_, (pss_one (ps_ret (pe_lc (own := [("pair", 1)]) (g := gName 1) rfl sc__law_vector.nd (pi_list (pv 0)) (blkOk_by (own := [("pair", 1)]) (N := N__law_vector) (sc := defScope s__law_vector) (by decide +kernel)) (fun _ _ _ _ _ => (pg_name (i := 1) sc__law_vector.nd rfl (Or.inl rfl))) (fun _ _ _ _ _ => pts_nil) (fun _ _ _ _ _ => (pe_makeI T.mk_Fraction G_Fraction___init__ (hr.mono (by decide)) (by rfl) T.g_Fraction b_Fraction___init__ .nil passL (mkFr_conv K []) (pa_cons (pe_ix (show IxR _ (rIxT K) from ix_tup) (pv 1) pe_int (fun _ _ => rfl)) (pa_cons (pe_ix (show IxR _ (rIxT K) from ix_tup) (pv 1) pe_int (fun _ _ => rfl)) pa_nil))))))), ?_⟩
    refine ⟨_, rfl, _, rfl, ⟨_, hS⟩, fun D nD => lc_list (K := K) (a := a) (xs := xs) (fun i H' => ∃ (ys : List V), H' D = some (.lst ys) ∧ Same H H' ∧ VF K k H' ys (ps.take i))
      ⟨[], upd_same, sm_new nD, .nil⟩ (fun i H' hi hP => ?_) (fun i y H' hi hP => ?_) (fun H2 hP => ?_)⟩
    · obtain ⟨ys, hD, sm, hv⟩ := hP
      exact sm.seq hS
    · obtain ⟨ys, hD, sm, hv⟩ := hP
      obtain ⟨x, b, hx, rfl, hb⟩ := (hf.mono sm).item hi
      have sb : SqT K H' b [.int x.1, .int x.2] := SqT.of hb
      have ok := ho x (List.mem_of_getElem? hx)
      have dn : x.2 ≠ 0 := ok.p
      refine ⟨rfl, yes_ok (iteK rfl ?_)⟩
      refine ⟨_, rfl, _, _, _, _, rfl, rfl, sb, atI_nat (j := 0) rfl, _, rfl, _, _, _, _, rfl, rfl, sb, atI_nat (j := 1) rfl, _, _, k, rfl, ok.b.b, by omega, dn, fun t dt H3 n d sm3 nt ht f => ?_⟩
      have hD3 := sm3 _ _ hD
      have e : ps.take (i + 1) = ps.take i ++ [x] := by rw [List.take_succ, hx]; rfl
      refine ⟨ys, hD3, by rw [hv.len, List.length_take]; exact small1000 (by omega), ys ++ [.ref t], upd_same, same_mut (sm.trans sm3) nD, ?_⟩
      rw [e]
      exact ((hv.mono sm3).snoc ht (lw_of f dn ok.b.a ok.b.b) f).upd hD3
    · obtain ⟨ys, hD, sm, hv⟩ := hP
      rw [hf.len, List.take_length] at hv
      exact q D H2 ys sm nD hD hv

theorem ok__law_matrix (T : Tx K mg) (O__law_vector : OkF P w K mg base 3 (He.fAd K ("_law_vector", none)) ["pairs"] (spLVec K)) : OkF P w K mg base 4 (He.fAd K ("_law_matrix", none)) ["rows"] (spLMat K) := by
  obtain ⟨_, G__law_vector, b__law_vector, k__law_vector⟩ := O__law_vector
  refine okF_of (d := d__law_matrix) T.d__law_matrix rfl sc__law_matrix (fun _ _ _ _ _ _ us hl => match us, hl with | [_], _ => rfl) (fun vs H Q E h => ?_) (fun cdv A outer s H vs Q E hr h => ?_)
  · first | (obtain ⟨_, rfl, _⟩ := h; rfl) | (obtain ⟨_, _, rfl, _⟩ := h; rfl) | (obtain ⟨_, _, _, rfl, _⟩ := h; rfl) | (obtain ⟨_, _, _, _, rfl, _⟩ := h; rfl) | (obtain ⟨_, _, _, _, _, rfl, _⟩ := h; rfl) | (obtain ⟨_, _, _, _, _, _, rfl, _⟩ := h; rfl) | (obtain ⟨_, _, _, _, _, _, _, rfl, _⟩ := h; rfl) | (obtain ⟨_, _, _, _, _, _, _, _, rfl, _⟩ := h; rfl) | (obtain ⟨_, _, _, _, _, _, _, _, _, rfl, _⟩ := h; rfl) | (obtain ⟨_, _, _, _, _, _, _, _, _, _, rfl, _⟩ := h; rfl)
  · obtain ⟨a, xs, ts, k, rfl, hS, hf, ho, hl, hk, q⟩ := h
    refine ⟨_, (pss_one (ps_ret (pe_lc (own := [("row", 1)]) (g := gName 1) rfl sc__law_matrix.nd (pi_list (pv 0)) (blkOk_by (own := [("row", 1)]) (N := N__law_matrix) (sc := defScope s__law_matrix) (by decide +kernel)) (fun _ _ _ _ _ => (pg_name (i := 1) sc__law_matrix.nd rfl (Or.inl rfl))) (fun _ _ _ _ _ => pts_nil) (fun _ _ _ _ _ => (pe_call G__law_vector (hr.mono (by decide)) (by rfl) T.g__law_vector k__law_vector b__law_vector .nil passL (pa_cons (pv 1) pa_nil)))))), ?_⟩
    refine ⟨_, rfl, _, rfl, ⟨_, hS⟩, fun D nD => lc_list (K := K) (a := a) (xs := xs) (fun i H' => ∃ (ys : List V), H' D = some (.lst ys) ∧ Same H H' ∧ MatN K k H D H' ys (ts.take i))
      ⟨[], upd_same, sm_new nD, .nil⟩ (fun i H' hi hP => ?_) (fun i y H' hi hP => ?_) (fun H2 hP => ?_)⟩
    · obtain ⟨ys, hD, sm, hv⟩ := hP
      exact sm.seq hS
    · obtain ⟨ys, hD, sm, hv⟩ := hP
      obtain ⟨r, b, zs, hx, rfl, hb, hz⟩ := (hf.mono sm).item hi
      have ok := ho r (List.mem_of_getElem? hx)
      refine ⟨rfl, yes_ok (iteK rfl ?_)⟩
      refine ⟨_, rfl, _, zs, r, k, rfl, SqL.of hb, hz, ok.2, ok.1, hk, fun t H3 ws sm3 nt ht f => ?_⟩
      have hD3 := sm3 _ _ hD
      have e : ts.take (i + 1) = ts.take i ++ [r] := by rw [List.take_succ, hx]; rfl
      refine ⟨ys, hD3, by rw [hv.len, List.length_take]; exact small1000 (by omega), ys ++ [.ref t], upd_same, same_mut (sm.trans sm3) nD, ?_⟩
      rw [e]
      exact (hv.mono sm3).snoc hD3 (sm.free nt) (ne_of_none hD nt).symm ht f
    · obtain ⟨ys, hD, sm, hv⟩ := hP
      rw [hf.len, List.take_length] at hv
      exact q D H2 ys sm nD hD hv

theorem ok_common_den (T : Tx K mg) : OkF P w K mg base 1 (He.fAd K ("common_den", none)) ["parts"] (spComDen K) := by
  refine okF_of (d := d_common_den) T.d_common_den rfl sc_common_den (fun _ _ _ _ _ _ us hl => match us, hl with | [_], _ => rfl) (fun vs H Q E h => ?_) (fun cdv A outer s H vs Q E hr h => ?_)
  · first | (obtain ⟨_, rfl, _⟩ := h; rfl) | (obtain ⟨_, _, rfl, _⟩ := h; rfl) | (obtain ⟨_, _, _, rfl, _⟩ := h; rfl) | (obtain ⟨_, _, _, _, rfl, _⟩ := h; rfl) | (obtain ⟨_, _, _, _, _, rfl, _⟩ := h; rfl) | (obtain ⟨_, _, _, _, _, _, rfl, _⟩ := h; rfl) | (obtain ⟨_, _, _, _, _, _, _, rfl, _⟩ := h; rfl) | (obtain ⟨_, _, _, _, _, _, _, _, rfl, _⟩ := h; rfl) | (obtain ⟨_, _, _, _, _, _, _, _, _, rfl, _⟩ := h; rfl) | (obtain ⟨_, _, _, _, _, _, _, _, _, _, rfl, _⟩ := h; rfl)
  · obtain ⟨a, xs, ds, B, rfl, hS, hl, ha, hB, B0, Bb, q⟩ := h
    rcases hS with hS | hS
    · refine ⟨_, (pss_cons (ps_setI (i := 1) sc_common_den.nd rfl (Or.inl rfl) pe_int)
      (pss_cons (ps_for PassesOwn.leaving rfl (pi_list (pv 0)) (pg_name (i := 2) sc_common_den.nd rfl (Or.inl rfl)) (pss_one (ps_setI (i := 1) sc_common_den.nd rfl (Or.inl rfl) (pe_callBfun cr_lcm rfl T.g_lcm (pa_cons (pv 1) (pa_cons (pe_fld (pv 2) rfl) pa_nil))))))
      (pss_one (ps_ret (pv 1))))), ?_⟩
      refine ⟨_, rfl, fun d0 e0 => ?_⟩
      refine ⟨_, rfl, _, rfl, ⟨_, hS⟩, for_list (K := K) (a := a) (xs := xs) (fun i σ' H' => H = H' ∧ ∃ (D : Int) (y : Option V), σ' = [some (.ref a), some (.int D), y] ∧ 0 < D ∧ D ∣ B ∧ ∀ (j : Nat) (d : Int), j < i → ds[j]? = some d → d ∣ D)
        ⟨rfl, d0, none, rfl, by rw [e0]; decide, by rw [e0]; exact Int.one_dvd _, fun j q h => absurd h (Nat.not_lt_zero _)⟩ (fun i σ' H' hi hI => ?_) (fun i x σ' H' hi hI => ?_) (fun σ' H' hI => ?_)⟩
      · obtain ⟨rfl, D, y, rfl, _⟩ := hI
        exact hS
      · obtain ⟨rfl, D, y, rfl, D0, DB, dv⟩ := hI
        have lt : i < xs.length := (List.getElem?_eq_some_iff.mp hi).1
        have hd : ds[i]? = some ds[i] := List.getElem?_eq_getElem (by omega)
        obtain ⟨v, hv, hb⟩ := ha i _ hd
        rw [hi] at hv
        cases hv
        obtain ⟨b, C, dx, fs, rfl, hb, hC, hN, hF⟩ := hb
        obtain ⟨d0', dB⟩ := hB _ (List.mem_of_getElem? hd)
        generalize ds[i] = r at hd hF d0' dB
        have sm64 : ∀ {u : Int}, u ∣ B → u.natAbs < 2 ^ 64 := fun h => Nat.lt_of_le_of_lt (natAbs_le_of_dvd h (by omega)) (abs_mono Bb (by decide))
        refine ⟨_, rfl, _, rfl, _, _, _, _, _, rfl, hb, hC, hN, hF, _, _, rfl, sm64 DB, sm64 dB, _, rfl, fun D2 e2 => ?_⟩
        have h1 : D ∣ D2 := by rw [e2]; exact Int.natAbs_dvd_natAbs.mp (by rw [Int.natAbs_natCast]; exact Nat.dvd_lcm_left _ _)
        have h2 : r ∣ D2 := by rw [e2]; exact Int.natAbs_dvd_natAbs.mp (by rw [Int.natAbs_natCast]; exact Nat.dvd_lcm_right _ _)
        have h3 : 0 < D2 := by
          rw [e2]
          have := Nat.lcm_pos (m := D.natAbs) (n := r.natAbs) (by omega) (by omega)
          omega
        refine ⟨rfl, D2, _, rfl, h3, by rw [e2]; exact lcm_dvd_int DB dB, fun j q hj hjq => ?_⟩
        by_cases c : j = i
        · subst c
          rw [hd] at hjq
          cases hjq
          exact h2
        · exact Int.dvd_trans (dv j q (by omega) hjq) h1
      obtain ⟨rfl, D, y, rfl, D0, DB, dv⟩ := hI
      rw [hl] at dv
      exact ⟨_, rfl, q D D0 DB fun d hd => by
        obtain ⟨j, hj, e⟩ := List.mem_iff_getElem.mp hd
        exact dv j d hj (by rw [List.getElem?_eq_getElem hj, e])⟩
    · refine ⟨_, (pss_cons (ps_setI (i := 1) sc_common_den.nd rfl (Or.inl rfl) pe_int)
      (pss_cons (ps_for PassesOwn.leaving rfl (pi_tup (pv 0)) (pg_name (i := 2) sc_common_den.nd rfl (Or.inl rfl)) (pss_one (ps_setI (i := 1) sc_common_den.nd rfl (Or.inl rfl) (pe_callBfun cr_lcm rfl T.g_lcm (pa_cons (pv 1) (pa_cons (pe_fld (pv 2) rfl) pa_nil))))))
      (pss_one (ps_ret (pv 1))))), ?_⟩
      refine ⟨_, rfl, fun d0 e0 => ?_⟩
      refine ⟨_, rfl, _, rfl, ⟨_, hS⟩, for_tup (K := K) (a := a) (xs := xs) (fun i σ' H' => H = H' ∧ ∃ (D : Int) (y : Option V), σ' = [some (.ref a), some (.int D), y] ∧ 0 < D ∧ D ∣ B ∧ ∀ (j : Nat) (d : Int), j < i → ds[j]? = some d → d ∣ D)
        ⟨rfl, d0, none, rfl, by rw [e0]; decide, by rw [e0]; exact Int.one_dvd _, fun j q h => absurd h (Nat.not_lt_zero _)⟩ (fun i σ' H' hi hI => ?_) (fun i x σ' H' hi hI => ?_) (fun σ' H' hI => ?_)⟩
      · obtain ⟨rfl, D, y, rfl, _⟩ := hI
        exact hS
      · obtain ⟨rfl, D, y, rfl, D0, DB, dv⟩ := hI
        have lt : i < xs.length := (List.getElem?_eq_some_iff.mp hi).1
        have hd : ds[i]? = some ds[i] := List.getElem?_eq_getElem (by omega)
        obtain ⟨v, hv, hb⟩ := ha i _ hd
        rw [hi] at hv
        cases hv
        obtain ⟨b, C, dx, fs, rfl, hb, hC, hN, hF⟩ := hb
        obtain ⟨d0', dB⟩ := hB _ (List.mem_of_getElem? hd)
        generalize ds[i] = r at hd hF d0' dB
        have sm64 : ∀ {u : Int}, u ∣ B → u.natAbs < 2 ^ 64 := fun h => Nat.lt_of_le_of_lt (natAbs_le_of_dvd h (by omega)) (abs_mono Bb (by decide))
        refine ⟨_, rfl, _, rfl, _, _, _, _, _, rfl, hb, hC, hN, hF, _, _, rfl, sm64 DB, sm64 dB, _, rfl, fun D2 e2 => ?_⟩
        have h1 : D ∣ D2 := by rw [e2]; exact Int.natAbs_dvd_natAbs.mp (by rw [Int.natAbs_natCast]; exact Nat.dvd_lcm_left _ _)
        have h2 : r ∣ D2 := by rw [e2]; exact Int.natAbs_dvd_natAbs.mp (by rw [Int.natAbs_natCast]; exact Nat.dvd_lcm_right _ _)
        have h3 : 0 < D2 := by
          rw [e2]
          have := Nat.lcm_pos (m := D.natAbs) (n := r.natAbs) (by omega) (by omega)
          omega
        refine ⟨rfl, D2, _, rfl, h3, by rw [e2]; exact lcm_dvd_int DB dB, fun j q hj hjq => ?_⟩
        by_cases c : j = i
        · subst c
          rw [hd] at hjq
          cases hjq
          exact h2
        · exact Int.dvd_trans (dv j q (by omega) hjq) h1
      obtain ⟨rfl, D, y, rfl, D0, DB, dv⟩ := hI
      rw [hl] at dv
      exact ⟨_, rfl, q D D0 DB fun d hd => by
        obtain ⟨j, hj, e⟩ := List.mem_iff_getElem.mp hd
        exact dv j d hj (by rw [List.getElem?_eq_getElem hj, e])⟩

theorem ok__whole_rows (T : Tx K mg) (O_common_den : OkF P w K mg base 1 (He.fAd K ("common_den", none)) ["parts"] (spComDen K)) : OkF P w K mg base 2 (He.fAd K ("_whole_rows", none)) ["rows"] (spWhR K) := by
  obtain ⟨_, G_common_den, b_common_den, k_common_den⟩ := O_common_den
  refine okF_of (d := d__whole_rows) T.d__whole_rows rfl sc__whole_rows (fun _ _ _ _ _ _ us hl => match us, hl with | [_], _ => rfl) (fun vs H Q E h => ?_) (fun cdv A outer s H vs Q E hr h => ?_)
  · (obtain ⟨_, _, _, _, _, _, rfl, _⟩ := h; rfl)
  · obtain ⟨a, xs, R, B, k, _, rfl, hA, hR, hr', B0, Bb, k1, rl, q⟩ := h
    refine ⟨_, (pss_cons (ps_setLc (i := 1) (own := [("row", 2)]) (g := gName 2) rfl sc__whole_rows.nd rfl rfl (sw_true rfl rfl rfl (by decide +kernel)) (pi_list (pv 0)) (blkOk_by (own := [("row", 2)]) (N := N__whole_rows) (sc := defScope s__whole_rows) (by decide +kernel)) (fun _ _ _ _ _ => (pg_name (i := 2) sc__whole_rows.nd rfl (Or.inl rfl))) (fun _ _ _ _ _ => pts_nil) (fun _ _ _ _ _ => (pe_call G_common_den (hr.mono (by decide)) (by rfl) T.g_common_den k_common_den b_common_den .nil passL (pa_cons (pv 2) pa_nil))))
      (pss_one (ps_ret (pe_tup (pa_cons (pv 1) (pa_cons (pe_lc (own := [("scale", 3), ("row", 2)]) (g := gTup K 2 (gCons (gName 3) (gCons (gName 2) gNil))) rfl sc__whole_rows.nd (pi_zip (by rfl) T.z_zip (pa_cons (pv 1) (pa_cons (pv 0) pa_nil))) (blkOk_by (own := [("scale", 3), ("row", 2)]) (N := N__whole_rows) (sc := defScope s__whole_rows) (by decide +kernel)) (fun _ _ _ _ _ => (pg_tup rfl (pgs_cons (pg_name (i := 3) sc__whole_rows.nd rfl (Or.inr rfl)) (pgs_cons (pg_name (i := 2) sc__whole_rows.nd rfl (Or.inl rfl)) pgs_nil)))) (fun _ _ _ _ _ => pts_nil) (fun _ _ _ _ _ => (pe_lc (own := [("x", 4)]) (g := gName 4) rfl sc__whole_rows.nd (show PI _ _ _ (iList K _) from pi_list (pv 2)) (blkOk_by (own := [("x", 4)]) (N := N__whole_rows) (by rfl)) (fun _ _ _ _ _ => (pg_name (i := 4) sc__whole_rows.nd rfl (Or.inl rfl))) (fun _ _ _ _ _ => pts_nil) (fun _ _ _ _ _ => (pe_op op_mulW (pe_fldK (K := K) rfl (pe_fld (pv 4) rfl)) (pe_op op_fdivW (pv 3) (pe_fldK (K := K) rfl (pe_fld (pv 4) rfl)))))))) pa_nil)))))), ?_⟩
    have xl := hR.len
    refine ⟨_, rfl, _, rfl, ⟨_, hA⟩, fun D nD => lc_list (K := K) (a := a) (xs := xs) (fun i H' => Same H H' ∧ ∃ cs : List Int, H' D = some (.lst (cs.map V.int)) ∧ cs.length = i ∧ ∀ (j : Nat) (r : List (Int × Int)) (c : Int), R[j]? = some r → cs[j]? = some c → ScQ (B j) r c) ⟨sm_new nD, [], upd_same, rfl, fun j r c _ h => by simp at h⟩ (fun i H' hi hP => hP.1.seq hA) (fun i x H' hi hP => ?_) (fun H1 hP => ?_)⟩
    · obtain ⟨sm, cs, hD, cl, hc⟩ := hP
      obtain ⟨r, ra, ys, hr, rfl, hra, hf⟩ := hR.item hi
      have il := (List.getElem?_eq_some_iff.mp hi).1
      obtain ⟨r1, r2⟩ := hr' i r hr
      refine ⟨rfl, ?_⟩
      unfold tYes
      refine iteK rfl ?_
      refine ⟨_, rfl, ra, ys, r.map (fun q => q.2), B i, rfl, .inl (sm.seq (SqL.of hra)), by rw [hf.len, List.length_map], fun j d hd => ?_, fun d hd => ?_, B0 i, Bb i, fun c c0 cB ca => ?_⟩
      · rw [List.getElem?_map] at hd
        cases e : r[j]? with
        | none => rw [e] at hd; cases hd
        | some z =>
          rw [e] at hd
          cases hd
          obtain ⟨b, dx, e1, e2⟩ := hf.at_ j z e
          exact ⟨_, e1, b, _, dx, _, rfl, sm _ _ e2, T.cls_Fraction, T.n_Fraction_den, rfl⟩
      · obtain ⟨z, hz, rfl⟩ := List.mem_map.mp hd
        exact ⟨(r2 z hz).1, (r2 z hz).2.1⟩
      · refine ⟨_, hD, by rw [len_map]; exact small1000 (by omega), same_mut sm nD, cs ++ [c], by rw [upd_same, List.map_append]; rfl, by rw [List.length_append, cl]; rfl, fun j r' c' h1 h2 => ?_⟩
        by_cases z : j < cs.length
        · rw [List.getElem?_append_left z] at h2
          exact hc j r' c' h1 h2
        · have jl := (List.getElem?_eq_some_iff.mp h2).1
          rw [List.length_append, List.length_singleton] at jl
          have ji : j = i := by omega
          subst ji
          rw [List.getElem?_append_right (by omega), cl, Nat.sub_self] at h2
          cases h2
          rw [hr] at h1
          cases h1
          exact ⟨c0, cB, fun w hw => ca _ (List.mem_map.mpr ⟨w, hw, rfl⟩)⟩
    obtain ⟨s1, cs, hD, cl, hc⟩ := hP
    have bb : ∀ i r c, R[i]? = some r → cs[i]? = some c → ScQ (B i) r c := hc
    refine ⟨_, rfl, _, rfl, _, rfl, D, a, cs.map V.int, xs, rfl, SqL.of hD, s1.seq hA, fun E nE => lc_zip (K := K) (xs := cs.map V.int) (ys := xs) (by rw [len_map]; omega) (fun i H' => Same H1 H' ∧ ∃ zs Ms, H' E = some (.lst zs) ∧ LsL H' zs Ms ∧ OffA E zs ∧ Ms.length = i ∧ ∀ (j : Nat) (r : List (Int × Int)) (c : Int), j < i → R[j]? = some r → cs[j]? = some c → Ms[j]? = some (whR r c)) ⟨sm_new nE, [], [], upd_same, .nil, (fun b hb => absurd hb List.not_mem_nil), rfl, fun j r c h => absurd h (Nat.not_lt_zero _)⟩ (fun i H' hP => ⟨hP.1.seq (SqL.of hD), hP.1.seq (s1.seq hA)⟩) (fun i x y tt H' hx hy hP nT => ?_) (fun H' hP => ?_)⟩
    · obtain ⟨s2, zs, Ms, hE, hL, off, ml, hM⟩ := hP
      obtain ⟨c, hcx, rfl⟩ := get_map_int hx
      obtain ⟨r, ra, ys, hr, rfl, hra, hf⟩ := hR.item hy
      have sc := hc i r c hr hcx
      obtain ⟨r1, r2⟩ := hr' i r hr
      have il := (List.getElem?_eq_some_iff.mp hr).1
      have sT := sm_new (o := .tup [V.int c, V.ref ra]) nT
      have s03 := s1.trans (s2.trans sT)
      have hET := sT _ _ hE
      have cb : c.natAbs < 2 ^ 60 := Nat.lt_of_le_of_lt (natAbs_le_of_dvd sc.dv (by have := B0 i; omega)) (Bb i)
      refine ⟨tt, _, rfl, SqT.of upd_same, rfl, _, _, rfl, _, _, rfl, rfl, rfl, ?_⟩
      unfold tYes
      refine iteK rfl ?_
      refine ⟨_, rfl, _, rfl, ⟨_, s03.seq (SqL.of hra)⟩, fun G nG => lc_list (tt := fun _ H Q => Q true H) (K := K) (a := ra) (xs := ys) (fun j H3 => Same (upd H' tt (.tup [V.int c, V.ref ra])) H3 ∧ H3 G = some (.lst ((whR (r.take j) c).map V.int))) ⟨sm_new nG, upd_same⟩ (fun j H3 hj hI => hI.1.seq (s03.seq (SqL.of hra))) (fun j z H3 hz hI => ?_) (fun H3 hI => ?_)⟩
      · obtain ⟨s4, hG⟩ := hI
        have jl := (List.getElem?_eq_some_iff.mp hz).1
        have hq := List.getElem?_eq_getElem (show j < r.length by rw [← hf.len]; exact jl)
        obtain ⟨b, dx, e1, e2⟩ := hf.at_ j _ hq
        obtain ⟨q1, q2, q3⟩ := r2 _ (List.mem_of_getElem? hq)
        rw [hz] at e1
        cases e1
        have e3 := s4 _ _ (s03 _ _ e2)
        have qd : (c / (r[j]'(by rw [← hf.len]; exact jl)).2).natAbs < 2 ^ 60 := Nat.lt_of_le_of_lt (Int.natAbs_ediv_le_natAbs _ _) cb
        have db : (r[j]'(by rw [← hf.len]; exact jl)).2.natAbs < 2 ^ 60 := Nat.lt_of_le_of_lt (natAbs_le_of_dvd q2 (by have := B0 i; omega)) (Bb i)
        refine ⟨rfl, iteK rfl ?_⟩
        refine ⟨_, rfl, _, _, _, _, _, rfl, e3, T.cls_Fraction, T.n_Fraction_num, rfl, _, rfl, _, rfl, _, _, _, _, _, rfl, e3, T.cls_Fraction, T.n_Fraction_den, rfl, _, _, rfl, rfl, divW q1 db (by decide), _, _, rfl, rfl, mulW q3 qd (by omega), _, hG, ?_, same_mut s4 nG, ?_⟩
        · rw [len_map]; unfold whR; rw [List.length_map, List.length_take]; exact small1000 (by omega)
        · rw [upd_same, List.take_succ, hq]; unfold whR; rw [List.map_append, List.map_append]; rfl
      · obtain ⟨s4, hG⟩ := hI
        rw [List.take_of_length_le (by rw [hf.len]; exact Nat.le_refl _)] at hG
        have hE4 := s4 _ _ hET
        have GE : G ≠ E := fun z => by rw [z, hET] at nG; cases nG
        refine ⟨_, hE4, ?_, same_mut ((s2.trans sT).trans s4) nE, zs ++ [.ref G], Ms ++ [whR r c], upd_same, ?_, ?_, ?_, ?_⟩
        · rw [hL.len, ml]; exact small1000 (by omega)
        · exact (LsL.snoc (hL.mono (sT.trans s4)) hG).upd (off.snoc GE)
        · exact off.snoc GE
        · rw [List.length_append, ml]; rfl
        · intro j r' c' hj h1 h2
          by_cases k : j < i
          · rw [List.getElem?_append_left (by omega)]; exact hM j r' c' k h1 h2
          · have ji : j = i := by omega
            subst ji
            rw [hr] at h1
            rw [hcx] at h2
            cases h1
            cases h2
            rw [List.getElem?_append_right (by omega), ml, Nat.sub_self]
            rfl
    · obtain ⟨s2, zs, Ms, hE, hL, off, ml, hM⟩ := hP
      refine ⟨by show 2 ≤ sizeLine; decide, fun p np => ?_⟩
      have s3 := sm_new (o := .tup [V.ref D, V.ref E]) np
      have cx : (cs.map V.int).length = cs.length := len_map
      refine q p D E zs cs Ms _ ((s1.trans s2).trans s3) upd_same (s3 _ _ (s2 _ _ hD)) (s3 _ _ hE) (hL.mono s3) (by omega) (by omega) fun i r c h1 h2 => ⟨hc i r c h1 h2, hM i r c ?_ h1 h2⟩
      have := (List.getElem?_eq_some_iff.mp h2).1
      omega

theorem ok__first_unit (T : Tx K mg) : OkF P w K mg base 1 (He.fAd K ("_first_unit", none)) ["rows", "prime"] (spFiU K) := by
  refine okF_of (d := d__first_unit) T.d__first_unit rfl sc__first_unit (fun _ _ _ _ _ _ us hl => match us, hl with | [_, _], _ => rfl) (fun vs H Q E h => ?_) (fun cdv A outer s H vs Q E hr h => ?_)
  · (obtain ⟨_, _, _, _, _, rfl, _⟩ := h; rfl)
  · obtain ⟨a, xs, R, p, _, rfl, hA, hL, hr, p0, qN, q⟩ := h
    have xl := hL.len
    refine ⟨_, (pss_cons (ps_for PassesOwn.leaving rfl (pi_enum (by rfl) T.z_enumerate (pa_cons (pv 0) pa_nil)) (pg_tup rfl (pgs_cons (pg_name (i := 2) sc__first_unit.nd rfl (Or.inl rfl)) (pgs_cons (pg_name (i := 3) sc__first_unit.nd rfl (Or.inl rfl)) pgs_nil))) (pss_one (ps_if (pt_cmpR op_ne (pe_op op_mod (pe_ix ix_list (pv 3) pe_int (fun _ _ => rfl)) (pv 1)) pe_int (nomark _)) (pss_one (ps_ret (pv 2))) pss_nil)))
      (pss_one (ps_ret pe_non))), ?_⟩
    refine ⟨_, rfl, a, xs, rfl, hA, for_enL (K := K) (a := a) (xs := xs) (fun i σ' H' => ∃ (y2 y3 : Option V), σ' = [some (.ref a), some (.int p), y2, y3] ∧ Same H H' ∧ ∀ (j : Nat) (r : List Int), j < i → R[j]? = some r → p ∣ r.getD 0 0) ⟨none, none, rfl, fun _ _ e => e, fun j r hj _ => absurd hj (Nat.not_lt_zero _)⟩ (fun i σ' H' hI => ?_) (fun i x T σ' H' hx hI nT => ?_) (fun σ' H' hI => ?_)⟩
    · obtain ⟨y2, y3, rfl, sm, _⟩ := hI
      exact sm.seq hA
    · obtain ⟨y2, y3, rfl, sm, ok⟩ := hI
      obtain ⟨r, ra, hri, rfl, hra⟩ := hL.item hx
      have sT := sm_new (o := .tup [V.int (i : Nat), V.ref ra]) nT
      have smT := sm.trans sT
      have r0 := hr r (List.mem_of_getElem? hri)
      refine ⟨T, _, rfl, SqT.of upd_same, rfl, _, _, rfl, _, _, rfl, rfl, ?_⟩
      refine ⟨_, rfl, _, _, _, _, rfl, rfl, SqL.of (smT _ _ hra), atI_nat (j := 0) (map_at (get_of_lt r0)), _, rfl, _, _, rfl, rfl, p0, rfl, _, rfl, iteEqN (fun ne => ?_) (fun eq => ?_)⟩
      · exact ⟨_, rfl, q i r _ smT hri fun d => ne (Int.emod_eq_zero_of_dvd d)⟩
      · refine ⟨_, _, rfl, smT, fun j r' hj hr' => ?_⟩
        by_cases k : j < i
        · exact ok j r' k hr'
        · have : j = i := by omega
          subst this
          rw [hri] at hr'
          cases hr'
          exact Int.dvd_of_emod_eq_zero eq
    · obtain ⟨y2, y3, rfl, sm, ok⟩ := hI
      refine qN (fun r hr' => ?_) H' sm
      obtain ⟨j, hj, e⟩ := List.mem_iff_getElem.mp hr'
      exact ok j r (by omega) (by rw [← e]; exact List.getElem?_eq_getElem hj)

theorem ok_inverse_modulo (T : Tx K mg) : OkF P w K mg base 1 (He.fAd K ("inverse_modulo", none)) ["number", "modulus"] (spInv K) := by
  refine okF_of (d := d_inverse_modulo) T.d_inverse_modulo rfl sc_inverse_modulo (fun _ _ _ _ _ _ us hl => match us, hl with | [_, _], _ => rfl) (fun vs H Q E h => ?_) (fun cdv A outer s H vs Q E hr h => ?_)
  · (obtain ⟨_, _, rfl, _⟩ := h; rfl)
  · obtain ⟨n, p, rfl, hp, p62, pn, q⟩ := h
    refine ⟨_, (pss_cons (ps_par (i := 2) (j := 3) (by rfl) sc_inverse_modulo.nd rfl rfl (by decide) rfl rfl (pa_cons (pe_op op_mod (pv 0) (pv 1)) (pa_cons (pv 1) pa_nil)) (by rfl))
      (pss_cons (ps_asg (pe_tup (pa_cons pe_int (pa_cons pe_int pa_nil))) (pg_tup rfl (pgs_cons (pg_name (i := 4) sc_inverse_modulo.nd rfl (Or.inl rfl)) (pgs_cons (pg_name (i := 5) sc_inverse_modulo.nd rfl (Or.inl rfl)) pgs_nil))))
      (pss_cons (ps_while PassesOwn.leaving (pt_cmpR op_ne (pv 3) pe_int (nomark _)) (pss_cons (ps_setI (i := 6) sc_inverse_modulo.nd rfl (Or.inl rfl) (pe_op op_fdivW (pv 2) (pv 3)))
      (pss_cons (ps_par (i := 2) (j := 3) (by rfl) sc_inverse_modulo.nd rfl rfl (by decide) rfl rfl (pa_cons (pv 3) (pa_cons (pe_op op_sub (pv 2) (pe_op op_mulW (pv 6) (pv 3))) pa_nil)) (by rfl))
      (pss_one (ps_par (i := 4) (j := 5) (by rfl) sc_inverse_modulo.nd rfl rfl (by decide) rfl rfl (pa_cons (pv 5) (pa_cons (pe_op op_sub (pv 4) (pe_op op_mulW (pv 6) (pv 5))) pa_nil)) (by rfl))))))
      (pss_one (ps_ret (pe_op op_mod (pv 4) (pv 1))))))), ?_⟩
    have p2 := hp.two
    obtain ⟨a0, ha0⟩ : ∃ a0 : Nat, (a0 : Int) = n % (p : Int) := ⟨(n % (p : Int)).toNat, Int.toNat_of_nonneg (Int.emod_nonneg _ (by omega))⟩
    have lt := Int.emod_lt_of_pos n (show (0 : Int) < p by omega)
    have d0 := mod_sub_dvd p n
    have a1 : 1 ≤ a0 := by
      refine Decidable.byContradiction fun z => pn ?_
      have : n % (p : Int) = 0 := by omega
      exact Int.dvd_of_emod_eq_zero this
    have g0 : Nat.gcd a0 p = 1 := by
      obtain ⟨g, hg⟩ : ∃ g, g = Nat.gcd a0 p := ⟨_, rfl⟩
      have g1 : g ∣ a0 := hg ▸ Nat.gcd_dvd_left _ _
      have g2 : g ∣ p := hg ▸ Nat.gcd_dvd_right _ _
      obtain ⟨t, ht⟩ := g2
      have gl := Nat.le_of_dvd (by omega) g1
      have gp : 0 < g := Nat.pos_of_dvd_of_pos g1 (by omega)
      rcases hp.mul (g : Int) (t : Int) (by rw [← Int.natCast_mul, ← ht]; exact Int.dvd_refl _) with z | z
      · have := Nat.le_of_dvd (by omega) (Int.natCast_dvd_natCast.mp z)
        omega
      · obtain ⟨u, hu⟩ := Int.natCast_dvd_natCast.mp z
        rw [hu] at ht
        have e : p * 1 = p * (g * u) := by
          calc p * 1 = p := Nat.mul_one _
            _ = g * (p * u) := ht
            _ = _ := by grind
        have := Nat.eq_of_mul_eq_mul_left (by omega) e
        rw [← hg]
        exact Nat.eq_one_of_mul_eq_one_right this.symm
    refine ⟨_, rfl, _, rfl, _, _, rfl, rfl, (show (0 : Int) < p by omega), _, rfl, _, _, rfl, ?_⟩
    refine ⟨by show 2 ≤ sizeLine; decide, fun pt npt => ⟨pt, _, rfl, SqT.of upd_same, rfl, _, _, rfl, _, _, rfl, rfl, ?_⟩⟩
    have s1 := sm_new (o := .tup [V.int 1, V.int 0]) npt
    generalize upd H pt (.tup [V.int 1, V.int 0]) = H1 at s1 ⊢
    refine ⟨fun m σ' H' => H1 = H' ∧ ∃ (a b : Nat) (x y : Int) (z : Option V), σ' = [some (.int n), some (.int (p : Int)), some (.int (a : Int)), some (.int (b : Int)), some (.int x), some (.int y), z] ∧ m = b ∧ 1 ≤ a ∧ a ≤ p ∧ b ≤ p ∧ Nat.gcd a b = 1 ∧ (p : Int) ∣ x * n - a ∧ (p : Int) ∣ y * n - b ∧ x.natAbs * b + y.natAbs * a ≤ p ∧ (b = 0 ∨ x.natAbs ≤ p), ⟨_, rfl, a0, p, 1, 0, none, by rw [ha0]; rfl, rfl, a1, by omega, Nat.le_refl _, g0, by rw [Int.one_mul, ha0]; exact d0, by rw [Int.zero_mul]; exact ⟨-1, by omega⟩, by simp, .inr (by show 1 ≤ p; omega)⟩, ?_⟩
    rintro m _ _ ⟨rfl, a, b, x, y, z, rfl, rfl, a1, ap, bp, hg, dx, dy, bd, xb⟩
    refine ⟨_, rfl, rfl, _, rfl, iteEqN (fun h1 => ?_) (fun h1 => ?_)⟩
    · have b0 : 0 < m := by omega
      have yp : y.natAbs ≤ p := by
        have := Nat.mul_le_mul_left y.natAbs a1
        omega
      refine ⟨fun σ2 H2 => ∃ m', m' < m ∧ H1 = H2 ∧ ∃ (a b : Nat) (x y : Int) (z : Option V), σ2 = [some (.int n), some (.int (p : Int)), some (.int (a : Int)), some (.int (b : Int)), some (.int x), some (.int y), z] ∧ m' = b ∧ 1 ≤ a ∧ a ≤ p ∧ b ≤ p ∧ Nat.gcd a b = 1 ∧ (p : Int) ∣ x * n - a ∧ (p : Int) ∣ y * n - b ∧ x.natAbs * b + y.natAbs * a ≤ p ∧ (b = 0 ∨ x.natAbs ≤ p), fun _ _ h => h, ?_⟩
      refine ⟨_, rfl, _, rfl, _, _, rfl, rfl, divW (b := 62) (by omega) (by rw [Int.natAbs_natCast]; omega) (by decide), _, rfl, fun s es => ?_⟩
      obtain ⟨t, ht⟩ : ∃ t : Nat, s = (t : Int) := ⟨a / m, by rw [es]; rfl⟩
      have et : t = a / m := by
        rw [ht] at es
        exact Int.ofNat.inj es
      subst ht
      have tl : t ≤ a := by rw [et]; exact Nat.div_le_self _ _
      have tb : ((t : Nat) : Int).natAbs < 2 ^ 62 := by rw [Int.natAbs_natCast]; omega
      refine ⟨_, rfl, _, rfl, _, rfl, _, rfl, _, _, rfl, rfl, mulW tb (b := 62) (by rw [Int.natAbs_natCast]; omega) (by decide), _, _, rfl, rfl, _, _, rfl, ?_⟩
      refine ⟨_, rfl, _, rfl, _, rfl, _, rfl, _, _, rfl, rfl, mulW tb (b := 62) (show y.natAbs < 2 ^ 62 by omega) (by decide), _, _, rfl, rfl, _, _, rfl, ?_⟩
      have dm : a = m * t + a % m := by rw [et]; exact (Nat.div_add_mod a m).symm
      have e1 : (a : Int) - (t : Int) * (m : Int) = ((a % m : Nat) : Int) := by
        have : (a : Int) = (m : Int) * (t : Int) + ((a % m : Nat) : Int) := by rw [← Int.natCast_mul, ← Int.natCast_add, ← dm]
        rw [this, Int.mul_comm (t : Int)]
        omega
      have lm := Nat.mod_lt a b0
      refine ⟨a % m, lm, rfl, m, a % m, y, x - (t : Int) * y, _, by rw [← e1]; rfl, rfl, b0, bp, by omega, ?_, dy, ?_, ?_, .inr yp⟩
      · rw [← hg, Nat.gcd_comm m, ← Nat.gcd_rec, Nat.gcd_comm]
      · have w := Int.dvd_sub dx (Int.dvd_trans dy (Int.dvd_mul_left (t : Int) _))
        have e2 : x * n - (a : Int) - (t : Int) * (y * n - (m : Int)) = (x - (t : Int) * y) * n - ((a % m : Nat) : Int) := by
          rw [← e1]
          grind
        rwa [e2] at w
      · have w1 : (x - (t : Int) * y).natAbs ≤ x.natAbs + t * y.natAbs := by
          have := Int.natAbs_sub_le x ((t : Int) * y)
          rw [Int.natAbs_mul, Int.natAbs_natCast] at this
          exact this
        have w2 := Nat.mul_le_mul_right m w1
        have w3 : y.natAbs * a = y.natAbs * (a % m) + t * y.natAbs * m := by
          calc y.natAbs * a = y.natAbs * (m * t + a % m) := by rw [← dm]
            _ = _ := by grind
        rw [Nat.add_mul] at w2
        omega
    · have b0 : m = 0 := by omega
      subst b0
      rw [Nat.gcd_zero_right] at hg
      subst hg
      refine ⟨_, rfl, _, rfl, _, _, rfl, rfl, (show (0 : Int) < p by omega), ?_⟩
      refine q _ H1 s1 (Int.emod_nonneg _ (by omega)) (Int.emod_lt_of_pos _ (by omega)) ?_
      have w := Int.dvd_sub dx (Int.dvd_trans (mod_sub_dvd p x) (Int.dvd_mul_right _ n))
      have e2 : x * n - ((1 : Nat) : Int) - (x - x % (p : Int)) * n = x % (p : Int) * n - 1 := by
        generalize x % (p : Int) = r
        grind
      rwa [e2] at w

theorem ok_inverse_of_unit (T : Tx K mg) (O_inverse_modulo : OkF P w K mg base 1 (He.fAd K ("inverse_modulo", none)) ["number", "modulus"] (spInv K)) : OkF P w K mg base 2 (He.fAd K ("inverse_of_unit", none)) ["number", "prime", "modulus"] (spInvU K) := by
  obtain ⟨_, G_inverse_modulo, b_inverse_modulo, k_inverse_modulo⟩ := O_inverse_modulo
  refine okF_of (d := d_inverse_of_unit) T.d_inverse_of_unit rfl sc_inverse_of_unit (fun _ _ _ _ _ _ us hl => match us, hl with | [_, _, _], _ => rfl) (fun vs H Q E h => ?_) (fun cdv A outer s H vs Q E hr h => ?_)
  · (obtain ⟨_, _, _, rfl, _⟩ := h; rfl)
  · obtain ⟨n, p, e, rfl, pp, pb, e1, Mb, pn, nb, q⟩ := h
    refine ⟨_, (pss_cons (ps_setI (i := 3) sc_inverse_of_unit.nd rfl (Or.inl rfl) (pe_call G_inverse_modulo (hr.mono (by decide)) (by rfl) T.g_inverse_modulo k_inverse_modulo b_inverse_modulo .nil passL (pa_cons (pv 0) (pa_cons (pv 1) pa_nil))))
      (pss_cons (ps_setI (i := 4) sc_inverse_of_unit.nd rfl (Or.inl rfl) (pv 1))
      (pss_cons (ps_while PassesOwn.leaving (pt_cmpR op_lt (pv 4) (pv 2) (nomark _)) (pss_cons (ps_setI (i := 4) sc_inverse_of_unit.nd rfl (Or.inl rfl) (pe_op op_mulW (pv 4) (pv 4)))
      (pss_one (ps_setI (i := 3) sc_inverse_of_unit.nd rfl (Or.inl rfl) (pe_op op_mod (pe_op op_mulW (pv 3) (pe_op op_sub pe_int (pe_op op_mulW (pv 0) (pv 3)))) (pv 4))))))
      (pss_one (ps_ret (pe_op op_mod (pv 3) (pv 2))))))), ?_⟩
    have p2 := pp.two
    have p0 : (0 : Int) < (p : Int) := by omega
    refine ⟨_, rfl, _, rfl, n, p, rfl, pp, pb, pn, fun r H1 s1 r0 rl rd => ?_⟩
    refine ⟨_, rfl, fun inv einv => ?_⟩
    subst einv
    refine ⟨_, rfl, _, rfl, fun kn ekn => ?_⟩
    have M0 : (0 : Int) < (p : Int) ^ e := Int.pow_pos p0
    refine ⟨fun m σ' H' => Same H H' ∧ ∃ (inv kn : Int) (t : Nat), σ' = [some (.int n), some (.int (p : Int)), some (.int ((p : Int) ^ e)), some (.int inv), some (.int kn)] ∧ m = ((p : Int) ^ e - kn).toNat ∧ 1 ≤ t ∧ kn = (p : Int) ^ t ∧ kn ∣ inv * n - 1 ∧ inv.natAbs < 2 ^ 2000, ⟨_, s1, inv, kn, 1, rfl, rfl, Nat.le_refl _, by rw [ekn, Int.pow_succ, Int.pow_zero, Int.one_mul], by rw [ekn]; exact rd, Nat.lt_of_lt_of_le (show inv.natAbs < 2 ^ 62 by omega) (Nat.pow_le_pow_right (by decide) (by decide))⟩, ?_⟩
    clear rd rl r0 ekn
    rintro m _ H2 ⟨sm, inv, kn, t, rfl, rfl, t1, ekn, kd, ib⟩
    have kn0 : 0 < kn := by rw [ekn]; exact Int.pow_pos p0
    refine ⟨_, rfl, _, rfl, _, _, rfl, rfl, _, rfl, iteD (fun c => ?_) (fun c => ?_)⟩
    · refine ⟨fun σ2 H2 => ∃ m', m' < ((p : Int) ^ e - kn).toNat ∧ Same H H2 ∧ ∃ (inv kn : Int) (t : Nat), σ2 = [some (.int n), some (.int (p : Int)), some (.int ((p : Int) ^ e)), some (.int inv), some (.int kn)] ∧ m' = ((p : Int) ^ e - kn).toNat ∧ 1 ≤ t ∧ kn = (p : Int) ^ t ∧ kn ∣ inv * n - 1 ∧ inv.natAbs < 2 ^ 2000, fun _ _ h => h, ?_⟩
      have kb : kn.natAbs < 2 ^ 1000 := by omega
      have kk : (kn * kn).natAbs < 2 ^ 2000 := abs_lt_mul kb kb
      have nn : (n * inv).natAbs < 2 ^ 3000 := abs_lt_mul nb ib
      have nn2 : (2 - n * inv).natAbs < 2 ^ 3001 := by
        have : (2 : Nat) ^ 3001 = 2 ^ 3000 + 2 ^ 3000 := by rw [Nat.pow_succ]; omega
        have : 2 ≤ 2 ^ 3000 := Nat.le_trans (show 2 ≤ 2 ^ 1 by decide) (Nat.pow_le_pow_right (by decide) (by decide))
        have t := Int.natAbs_sub_le 2 (n * inv)
        generalize (2 : Nat) ^ 3000 = A at *
        generalize (2 : Nat) ^ 3001 = B at *
        omega
      have k0 : 0 < kn * kn := Int.mul_pos kn0 kn0
      have kge : 2 * kn ≤ kn * kn := by
        have : 2 ≤ kn := by
          rw [ekn]
          obtain ⟨s, rfl⟩ : ∃ s, t = s + 1 := ⟨t - 1, by omega⟩
          rw [Int.pow_succ]
          have := Int.mul_le_mul (show (1 : Int) ≤ (p : Int) ^ s from Int.pow_pos p0) (show (2 : Int) ≤ p by omega) (by decide) (Int.le_of_lt (Int.pow_pos p0))
          omega
        exact Int.mul_le_mul_of_nonneg_right this (by omega)
      refine ⟨_, rfl, _, rfl, _, _, rfl, rfl, mulW kb kb (by decide), _, rfl, fun k2 ek2 => ?_⟩
      subst ek2
      refine ⟨_, rfl, _, rfl, _, rfl, _, _, rfl, rfl, mulW nb ib (by decide), _, _, rfl, rfl, _, _, rfl, rfl, mulW ib nn2 (by decide), _, rfl, _, _, rfl, rfl, k0, _, rfl, fun i2 ei2 => ?_⟩
      have i20 := Int.emod_nonneg (inv * (2 - n * inv)) (show kn * kn ≠ 0 by omega)
      have i2l := Int.emod_lt_of_pos (inv * (2 - n * inv)) k0
      have i2e := Int.mul_ediv_add_emod (inv * (2 - n * inv)) (kn * kn)
      rw [← ei2] at i20 i2l i2e
      obtain ⟨c0, hc0⟩ := kd
      refine ⟨((p : Int) ^ e - kn * kn).toNat, by omega, sm, i2, kn * kn, t + t, rfl, rfl, by omega, by rw [ekn, Int.pow_add], ⟨-(c0 * c0) - inv * (2 - n * inv) / (kn * kn) * n, ?_⟩, by omega⟩
      generalize inv * (2 - n * inv) / (kn * kn) = w at i2e
      have e1 : i2 = inv * (2 - n * inv) - kn * kn * w := by omega
      rw [e1]
      have e2 : inv * n = 1 + kn * c0 := by omega
      have e3 : inv * (2 - n * inv) * n = (inv * n) * (2 - inv * n) := by grind
      have e4 : (inv * (2 - n * inv) - kn * kn * w) * n - 1 = (inv * n) * (2 - inv * n) - kn * kn * w * n - 1 := by rw [← e3]; grind
      rw [e4, e2]
      grind
    · have et : e ≤ t := Decidable.byContradiction fun w => by
        have : (p : Int) ^ (t + 1) ≤ (p : Int) ^ e := by
          have h := Nat.pow_le_pow_right (n := p) (by omega) (show t + 1 ≤ e by omega)
          exact_mod_cast h
        rw [Int.pow_succ] at this
        have h2 := Int.mul_le_mul_of_nonneg_left (show (2 : Int) ≤ p by omega) (show (0 : Int) ≤ (p : Int) ^ t by rw [← ekn]; omega)
        rw [← ekn] at this h2
        omega
      have dv : (p : Int) ^ e ∣ kn := by
        obtain ⟨s, rfl⟩ : ∃ s, t = e + s := ⟨t - e, by omega⟩
        rw [ekn, Int.pow_add]
        exact ⟨_, rfl⟩
      refine ⟨_, rfl, _, rfl, _, _, rfl, rfl, M0, ?_⟩
      have v0 := Int.emod_nonneg inv (show (p : Int) ^ e ≠ 0 by omega)
      have vl := Int.emod_lt_of_pos inv M0
      have ve := Int.mul_ediv_add_emod inv ((p : Int) ^ e)
      refine q _ _ sm v0 vl ?_
      obtain ⟨c0, hc0⟩ := Int.dvd_trans dv kd
      generalize (p : Int) ^ e = M at *
      generalize inv / M = w at *
      generalize inv % M = v at *
      exact ⟨c0 - w * n, by rw [← ve] at hc0; grind⟩

theorem ok__divided (T : Tx K mg) (O_inverse_of_unit : OkF P w K mg base 2 (He.fAd K ("inverse_of_unit", none)) ["number", "prime", "modulus"] (spInvU K)) : OkF P w K mg base 3 (He.fAd K ("_divided", none)) ["row", "prime", "modulus"] (spDivd K) := by
  obtain ⟨_, G_inverse_of_unit, b_inverse_of_unit, k_inverse_of_unit⟩ := O_inverse_of_unit
  refine okF_of (d := d__divided) T.d__divided rfl sc__divided (fun _ _ _ _ _ _ us hl => match us, hl with | [_, _, _], _ => rfl) (fun vs H Q E h => ?_) (fun cdv A outer s H vs Q E hr h => ?_)
  · (obtain ⟨_, _, _, _, rfl, _⟩ := h; rfl)
  · obtain ⟨a, x, p, e, rfl, hA, x0l, x9, bx, pp, pb, e1, Mb, pn, q⟩ := h
    refine ⟨_, (pss_cons (ps_setI (i := 3) sc__divided.nd rfl (Or.inr rfl) (pe_call G_inverse_of_unit (hr.mono (by decide)) (by rfl) T.g_inverse_of_unit k_inverse_of_unit b_inverse_of_unit .nil passL (pa_cons (pe_ix ix_list (pv 0) pe_int (fun _ _ => rfl)) (pa_cons (pv 1) (pa_cons (pv 2) pa_nil)))))
      (pss_one (ps_ret (pe_lc (own := [("x", 4)]) (g := gName 4) rfl sc__divided.nd (pi_list (pe_slice sl_list (pv 0) (po_some pe_int) po_none)) (blkOk_by (own := [("x", 4)]) (N := N__divided) (sc := defScope s__divided) (by decide +kernel)) (fun _ _ _ _ _ => (pg_name (i := 4) sc__divided.nd rfl (Or.inl rfl))) (fun _ _ _ _ _ => pts_nil) (fun _ _ _ _ _ => (pe_op op_mod (pe_op op_mulW (pv 4) (pv 3)) (pv 2))))))), ?_⟩
    obtain ⟨x0, u, rfl⟩ : ∃ x0 u, x = x0 :: u := by
      cases x with
      | nil => simp at x0l
      | cons x0 u => exact ⟨x0, u, rfl⟩
    have p2 := pp.two
    have M0 : (0 : Int) < (p : Int) ^ e := Int.pow_pos (by omega)
    have bu : Bits 1000 u := ⟨fun y hy => bx.all y (List.mem_cons_of_mem _ hy)⟩
    have b0 := bx.all x0 List.mem_cons_self
    have u9 : u.length + 1 ≤ 100 := x9
    refine ⟨_, rfl, _, _, _, _, rfl, rfl, hA, atI_nat (j := 0) rfl, _, rfl, _, rfl, x0, p, e, rfl, pp, pb, e1, Mb, pn, b0, fun v H1 s1 v0 vl vd => ?_⟩
    refine ⟨_, rfl, fun inv einv => ?_⟩
    subst einv
    have vb : inv.natAbs < 2 ^ 1000 := by omega
    refine ⟨_, rfl, _, rfl, ?_⟩
    refine ⟨_, _, rfl, s1.seq hA, fun pk npk => ?_⟩
    have ec : cutV ((x0 :: u).map V.int) (some (1 : Int)) none = u.map V.int := cut_hi (m := 1) (by simp)
    rw [ec]
    have s2 := sm_new (o := .lst (u.map V.int)) npk
    refine ⟨_, rfl, ⟨_, SqL.of upd_same⟩, fun D nD => lc_list (K := K) (a := pk) (xs := u.map V.int) (fun i H' => Same (upd H1 pk (.lst (u.map V.int))) H' ∧ H' D = some (.lst (((u.take i).map (fun y => y * inv % (p : Int) ^ e)).map V.int))) ⟨sm_new nD, upd_same⟩ (fun i H' hi hP => hP.1.seq (SqL.of upd_same)) (fun i x H' hi hP => ?_) (fun H' hP => ?_)⟩
    · obtain ⟨sm, hD⟩ := hP
      obtain ⟨y, hx, rfl⟩ := get_map_int hi
      have il := (List.getElem?_eq_some_iff.mp hx).1
      refine ⟨rfl, ?_⟩
      unfold tYes
      refine iteK rfl ?_
      refine ⟨_, rfl, _, rfl, _, _, rfl, rfl, mulW (bu.all y (List.mem_of_getElem? hx)) vb (by decide), _, rfl, _, _, rfl, rfl, M0, _, hD, by rw [len_map, List.length_map, List.length_take]; exact small1000 (by omega), same_mut sm nD, ?_⟩
      rw [upd_same, List.take_succ, hx, List.map_append, List.map_append]
      rfl
    · obtain ⟨sm, hD⟩ := hP
      rw [len_map, List.take_length] at hD
      have la : ∀ j, (u.map fun y => y * inv % (p : Int) ^ e).getD j 0 = u.getD j 0 * inv % (p : Int) ^ e := fun j => getD_map (f := fun y => y * inv % (p : Int) ^ e) (by rw [Int.zero_mul]; exact Int.zero_emod _) u j
      refine q D H' _ ((s1.trans s2).trans sm) ((s1.trans s2).free nD) hD ⟨by rw [List.length_map]; rfl, ⟨inv, ?_⟩, fun j => ?_⟩ (bits_of_at fun j => ?_)
      · show (p : Int) ^ e ∣ x0 * inv - 1
        rw [Int.mul_comm]; exact vd
      · rw [la]
        show (p : Int) ^ e ∣ x0 * (u.getD j 0 * inv % (p : Int) ^ e) - u.getD j 0
        obtain ⟨c0, hc0⟩ := vd
        have ve := Int.mul_ediv_add_emod (u.getD j 0 * inv) ((p : Int) ^ e)
        generalize (p : Int) ^ e = M at *
        generalize u.getD j 0 = y at *
        generalize y * inv / M = w at *
        generalize y * inv % M = v at *
        exact ⟨y * c0 - x0 * w, by
          have e1 : v = y * inv - M * w := by omega
          rw [e1]
          have e2 : inv * x0 = M * c0 + 1 := by omega
          have e3 : x0 * (y * inv - M * w) - y = y * (inv * x0) - x0 * (M * w) - y := by grind
          rw [e3, e2]
          grind⟩
      · rw [la]
        have h1 := Int.emod_nonneg (u.getD j 0 * inv) (show (p : Int) ^ e ≠ 0 by omega)
        have h2 := Int.emod_lt_of_pos (u.getD j 0 * inv) M0
        omega

theorem ok__cleared (T : Tx K mg) : OkF P w K mg base 1 (He.fAd K ("_cleared", none)) ["row", "line", "modulus"] (spClrd K) := by
  refine okF_of (d := d__cleared) T.d__cleared rfl sc__cleared (fun _ _ _ _ _ _ us hl => match us, hl with | [_, _, _], _ => rfl) (fun vs H Q E h => ?_) (fun cdv A outer s H vs Q E hr h => ?_)
  · (obtain ⟨_, _, _, _, _, rfl, _⟩ := h; rfl)
  · obtain ⟨a, b, x, line, m, rfl, hA, hB, xl, x9, bx, bl, m0, mb, q⟩ := h
    refine ⟨_, (pss_cons (ps_setI (i := 3) sc__cleared.nd rfl (Or.inr rfl) (pe_ix ix_list (pv 0) pe_int (fun _ _ => rfl)))
      (pss_cons (ps_if (pt_cmpR op_eq (pv 3) pe_int (nomark _)) (pss_one (ps_ret (pe_slice sl_list (pv 0) (po_some pe_int) po_none))) pss_nil)
      (pss_one (ps_ret (pe_lc (own := [("x", 4), ("y", 5)]) (g := gTup K 2 (gCons (gName 4) (gCons (gName 5) gNil))) rfl sc__cleared.nd (pi_zip (by rfl) T.z_zip (pa_cons (pe_slice sl_list (pv 0) (po_some pe_int) po_none) (pa_cons (pv 1) pa_nil))) (blkOk_by (own := [("x", 4), ("y", 5)]) (N := N__cleared) (sc := defScope s__cleared) (by decide +kernel)) (fun _ _ _ _ _ => (pg_tup rfl (pgs_cons (pg_name (i := 4) sc__cleared.nd rfl (Or.inl rfl)) (pgs_cons (pg_name (i := 5) sc__cleared.nd rfl (Or.inl rfl)) pgs_nil)))) (fun _ _ _ _ _ => pts_nil) (fun _ _ _ _ _ => (pe_op op_mod (pe_op op_sub (pv 4) (pe_op op_mulW (pv 3) (pv 5))) (pv 2)))))))), ?_⟩
    obtain ⟨x0, u, rfl⟩ : ∃ x0 u, x = x0 :: u := by
      cases x with
      | nil => simp at xl
      | cons x0 u => exact ⟨x0, u, rfl⟩
    have ul : u.length = line.length := Nat.succ.inj xl
    have bu : Bits 1000 u := ⟨fun y hy => bx.all y (List.mem_cons_of_mem _ hy)⟩
    have b0 := bx.all x0 List.mem_cons_self
    refine ⟨_, rfl, _, _, _, _, rfl, rfl, hA, atI_nat (j := 0) rfl, _, rfl, fun sh esh => ?_⟩
    subst esh
    refine ⟨_, rfl, rfl, _, rfl, iteEq (fun c => ?_) (fun c => ?_)⟩
    · refine ⟨_, rfl, _, rfl, ?_⟩
      refine ⟨_, _, rfl, hA, fun pk npk => ?_⟩
      have ec : cutV ((sh :: u).map V.int) (some (1 : Int)) none = u.map V.int := cut_hi (m := 1) (by simp)
      rw [ec]
      refine q pk _ u (sm_new npk) npk upd_same ⟨rfl, fun j => ?_⟩ ul.symm bu
      show m ∣ u.getD j 0 - (u.getD j 0 - sh * line.getD j 0)
      have sh0 : sh = 0 := c
      rw [sh0]
      exact ⟨0, by rw [Int.zero_mul, Int.mul_zero]; omega⟩
    · refine ⟨_, rfl, _, rfl, ?_⟩
      refine ⟨_, _, rfl, hA, fun pk npk => ?_⟩
      have ec : cutV ((sh :: u).map V.int) (some (1 : Int)) none = u.map V.int := cut_hi (m := 1) (by simp)
      rw [ec]
      have s1 := sm_new (o := .lst (u.map V.int)) npk
      refine ⟨_, rfl, pk, b, u.map V.int, line.map V.int, rfl, SqL.of upd_same, s1.seq hB, fun D nD => lc_zip (K := K) (xs := u.map V.int) (ys := line.map V.int) (by rw [len_map, len_map]; exact ul) (fun i H' => Same (upd H pk (.lst (u.map V.int))) H' ∧ H' D = some (.lst (((List.zipWith (fun x y => (x - sh * y) % m) u line).take i).map V.int))) ⟨sm_new nD, upd_same⟩ (fun i H' hP => ?_) (fun i x y T H' hx hy hP nT => ?_) (fun H' hP => ?_)⟩
      · exact ⟨hP.1.seq (SqL.of upd_same), hP.1.seq (s1.seq hB)⟩
      · obtain ⟨sm, hD⟩ := hP
        obtain ⟨x, hx1, rfl⟩ := get_map_int hx
        obtain ⟨y, hy1, rfl⟩ := get_map_int hy
        have il := (List.getElem?_eq_some_iff.mp hx1).1
        have sT := sm_new (o := .tup [V.int x, V.int y]) nT
        have hDT := sT _ _ hD
        refine ⟨T, _, rfl, SqT.of upd_same, rfl, _, _, rfl, _, _, rfl, rfl, rfl, ?_⟩
        unfold tYes
        refine iteK rfl ?_
        refine ⟨_, rfl, _, rfl, _, rfl, _, _, rfl, rfl, mulW b0 (bl.all y (List.mem_of_getElem? hy1)) (by decide), _, _, rfl, rfl, _, rfl, _, _, rfl, rfl, m0, _, hDT, ?_, same_mut (sm.trans sT) nD, ?_⟩
        · rw [len_map, List.length_take, List.length_zipWith]; exact small1000 (by have : u.length + 1 ≤ 100 := x9; omega)
        · rw [upd_same, List.take_succ, List.getElem?_zipWith, hx1, hy1, List.map_append]; rfl
      · obtain ⟨sm, hD⟩ := hP
        rw [List.take_of_length_le (by rw [List.length_zipWith, len_map]; omega)] at hD
        refine q D H' _ (s1.trans sm) (s1.free nD) hD ⟨?_, fun j => ?_⟩ ?_ (bits_of_at fun j => ?_)
        · rw [List.length_zipWith, ul, Nat.min_self]; exact xl
        · rw [zw_at ul (by rw [Int.mul_zero]; rfl)]
          show m ∣ (u.getD j 0 - sh * line.getD j 0) % m - (u.getD j 0 - sh * line.getD j 0)
          have := Int.mul_ediv_add_emod (u.getD j 0 - sh * line.getD j 0) m
          exact ⟨-((u.getD j 0 - sh * line.getD j 0) / m), by rw [Int.mul_neg]; omega⟩
        · rw [List.length_zipWith, ul, Nat.min_self]
        · rw [zw_at ul (by rw [Int.mul_zero]; rfl)]
          have h1 := Int.emod_nonneg (u.getD j 0 - sh * line.getD j 0) (show m ≠ 0 by omega)
          have h2 := Int.emod_lt_of_pos (u.getD j 0 - sh * line.getD j 0) m0
          omega

theorem ok_pivots_modulo (T : Tx K mg) (O__first_unit : OkF P w K mg base 1 (He.fAd K ("_first_unit", none)) ["rows", "prime"] (spFiU K)) (O__divided : OkF P w K mg base 3 (He.fAd K ("_divided", none)) ["row", "prime", "modulus"] (spDivd K)) (O__cleared : OkF P w K mg base 1 (He.fAd K ("_cleared", none)) ["row", "line", "modulus"] (spClrd K)) : OkF P w K mg base 4 (He.fAd K ("pivots_modulo", none)) ["matrix", "width", "prime"] (spPiv K) := by
  obtain ⟨_, G__first_unit, b__first_unit, k__first_unit⟩ := O__first_unit
  obtain ⟨_, G__divided, b__divided, k__divided⟩ := O__divided
  obtain ⟨_, G__cleared, b__cleared, k__cleared⟩ := O__cleared
  refine okF_of (d := d_pivots_modulo) T.d_pivots_modulo rfl sc_pivots_modulo (fun _ _ _ _ _ _ us hl => match us, hl with | [_, _, _], _ => rfl) (fun vs H Q E h => ?_) (fun cdv A outer s H vs Q E hr h => ?_)
  · (obtain ⟨_, _, _, _, _, _, rfl, _⟩ := h; rfl)
  · obtain ⟨a, xs, S, W, p, _, rfl, hA, hL, pp, pb, hW, s60, w60, q⟩ := h
    have xl := hL.len
    have p2 := pp.two
    have p0 : (0 : Int) < (p : Int) := by omega
    have p1000 : (p : Int) < 2 ^ 1000 := Int.lt_of_lt_of_le (show (p : Int) < 2 ^ 62 by exact_mod_cast pb) (by
      have : (2 : Nat) ^ 62 ≤ 2 ^ 1000 := Nat.pow_le_pow_right (by decide) (by decide)
      exact_mod_cast this)
    refine ⟨_, (pss_cons (ps_setLc (i := 3) (own := [("i", 11), ("row", 12)]) (g := gTup K 2 (gCons (gName 11) (gCons (gName 12) gNil))) rfl sc_pivots_modulo.nd rfl rfl (sw_true rfl rfl rfl (by decide +kernel)) (pi_enum (by rfl) T.z_enumerate (pa_cons (pv 0) pa_nil)) (blkOk_by (own := [("i", 11), ("row", 12)]) (N := N_pivots_modulo) (sc := defScope s_pivots_modulo) (by decide +kernel)) (fun _ _ _ _ _ => (pg_tup rfl (pgs_cons (pg_name (i := 11) sc_pivots_modulo.nd rfl (Or.inl rfl)) (pgs_cons (pg_name (i := 12) sc_pivots_modulo.nd rfl (Or.inl rfl)) pgs_nil)))) (fun _ _ _ _ _ => pts_nil) (fun _ _ _ _ _ => (pe_tup (pa_cons (pv 11) (pa_cons (pe_lc (own := [("x", 13)]) (g := gName 13) rfl sc_pivots_modulo.nd (show PI _ _ _ (iList K _) from pi_list (pe_slice (show SlR _ (rSlL K) from sl_list) (pv 12) po_none (po_some (pv 1)))) (blkOk_by (own := [("x", 13)]) (N := N_pivots_modulo) (by rfl)) (fun _ _ _ _ _ => (pg_name (i := 13) sc_pivots_modulo.nd rfl (Or.inl rfl))) (fun _ _ _ _ _ => pts_nil) (fun _ _ _ _ _ => (pe_op op_mod (pv 13) (pv 2)))) pa_nil)))))
      (pss_cons (ps_set (i := 4) sc_pivots_modulo.nd rfl (Or.inl rfl) (pe_lst pa_nil))
      (pss_cons (ps_set (i := 5) sc_pivots_modulo.nd rfl (Or.inl rfl) (pe_lst pa_nil))
      (pss_cons (ps_for PassesOwn.leaving rfl (pi_range1 rfl T.z_range (pa_cons (pv 1) pa_nil)) (pg_name (i := 6) sc_pivots_modulo.nd rfl (Or.inl rfl)) (pss_cons (ps_set (i := 7) sc_pivots_modulo.nd rfl (Or.inl rfl) (pe_call G__first_unit (hr.mono (by decide)) (by rfl) T.g__first_unit k__first_unit b__first_unit .nil passL (pa_cons (pe_lc (own := [("_", 14), ("row", 12)]) (g := gTup K 2 (gCons (gName 14) (gCons (gName 12) gNil))) rfl sc_pivots_modulo.nd (pi_list (pv 3)) (blkOk_by (own := [("_", 14), ("row", 12)]) (N := N_pivots_modulo) (sc := defScope s_pivots_modulo) (by decide +kernel)) (fun _ _ _ _ _ => (pg_tup rfl (pgs_cons (pg_name (i := 14) sc_pivots_modulo.nd rfl (Or.inl rfl)) (pgs_cons (pg_name (i := 12) sc_pivots_modulo.nd rfl (Or.inl rfl)) pgs_nil)))) (fun _ _ _ _ _ => pts_nil) (fun _ _ _ _ _ => (pv 12))) (pa_cons (pv 2) pa_nil))))
      (pss_one (ps_if (pt_cmpR op_isN1 (pv 7) pe_non (nomark _)) (pss_one (ps_setLc (i := 3) (own := [("i", 11), ("row", 12)]) (g := gTup K 2 (gCons (gName 11) (gCons (gName 12) gNil))) rfl sc_pivots_modulo.nd rfl rfl (sw_true rfl rfl rfl (by decide +kernel)) (pi_list (pv 3)) (blkOk_by (own := [("i", 11), ("row", 12)]) (N := N_pivots_modulo) (sc := defScope s_pivots_modulo) (by decide +kernel)) (fun _ _ _ _ _ => (pg_tup rfl (pgs_cons (pg_name (i := 11) sc_pivots_modulo.nd rfl (Or.inl rfl)) (pgs_cons (pg_name (i := 12) sc_pivots_modulo.nd rfl (Or.inl rfl)) pgs_nil)))) (fun _ _ _ _ _ => pts_nil) (fun _ _ _ _ _ => (pe_tup (pa_cons (pv 11) (pa_cons (pe_slice (show SlR _ (rSlL K) from sl_list) (pv 12) (po_some pe_int) po_none) pa_nil)))))) (pss_cons (ps_asg (pe_bm PySem.F.plainAttrs_list PySem.F.slot_list_pop PySem.F.type_list_pop mt_popAt (pv 3) (pa_cons (pv 7) pa_nil)) (pg_tup rfl (pgs_cons (pg_name (i := 8) sc_pivots_modulo.nd rfl (Or.inl rfl)) (pgs_cons (pg_name (i := 9) sc_pivots_modulo.nd rfl (Or.inl rfl)) pgs_nil))))
      (pss_cons (ps_set (i := 10) sc_pivots_modulo.nd rfl (Or.inr rfl) (pe_call G__divided (hr.mono (by decide)) (by rfl) T.g__divided k__divided b__divided .nil passL (pa_cons (pv 9) (pa_cons (pv 2) (pa_cons (pv 2) pa_nil)))))
      (pss_cons (ps_setLc (i := 3) (own := [("i", 11), ("row", 12)]) (g := gTup K 2 (gCons (gName 11) (gCons (gName 12) gNil))) rfl sc_pivots_modulo.nd rfl rfl (sw_true rfl rfl rfl (by decide +kernel)) (pi_list (pv 3)) (blkOk_by (own := [("i", 11), ("row", 12)]) (N := N_pivots_modulo) (sc := defScope s_pivots_modulo) (by decide +kernel)) (fun _ _ _ _ _ => (pg_tup rfl (pgs_cons (pg_name (i := 11) sc_pivots_modulo.nd rfl (Or.inl rfl)) (pgs_cons (pg_name (i := 12) sc_pivots_modulo.nd rfl (Or.inl rfl)) pgs_nil)))) (fun _ _ _ _ _ => pts_nil) (fun _ _ _ _ _ => (pe_tup (pa_cons (pv 11) (pa_cons (pe_call G__cleared (hr.mono (by decide)) (by rfl) T.g__cleared k__cleared b__cleared .nil passL (pa_cons (pv 12) (pa_cons (pv 10) (pa_cons (pv 2) pa_nil)))) pa_nil)))))
      (pss_cons (ps_expr (pe_bm PySem.F.plainAttrs_list PySem.F.slot_list_append PySem.F.type_list_append mt_append (pv 4) (pa_cons (pv 8) pa_nil)))
      (pss_one (ps_expr (pe_bm PySem.F.plainAttrs_list PySem.F.slot_list_append PySem.F.type_list_append mt_append (pv 5) (pa_cons (pv 6) pa_nil))))))))))))
      (pss_one (ps_ret (pe_tup (pa_cons (pv 4) (pa_cons (pv 5) pa_nil))))))))), ?_⟩
    refine ⟨_, rfl, a, xs, rfl, hA, fun D nD => lc_en (K := K) (xs := xs) (fun i H' => Same H H' ∧ ∃ ws, H' D = some (.lst ws) ∧ NR H' [D] ws ((pivM (p : Int) W S).take i)) ⟨sm_new nD, [], upd_same, .nil⟩ (fun i H' hP => hP.1.seq hA) (fun i x T H' hx hP nT => ?_) (fun H1 hP => ?_)⟩
    · obtain ⟨sm, ws, hD, hN⟩ := hP
      obtain ⟨s, sa, hsi, rfl, hsa⟩ := hL.item hx
      have il := (List.getElem?_eq_some_iff.mp hsi).1
      have es : S.getD i [] = s := by rw [List.getD_eq_getElem?_getD, hsi]; rfl
      have sT := sm_new (o := .tup [V.int (i : Nat), V.ref sa]) nT
      have smT := sm.trans sT
      have hDT := sT _ _ hD
      have slen := hW s (List.mem_of_getElem? hsi)
      refine ⟨T, _, rfl, SqT.of upd_same, rfl, _, _, rfl, _, _, rfl, rfl, rfl, ?_⟩
      unfold tYes
      refine iteK rfl ?_
      obtain ⟨HT, eHT⟩ : ∃ HT, upd H' T (.tup [V.int (i : Nat), V.ref sa]) = HT := ⟨_, rfl⟩
      rw [eHT] at smT hDT ⊢
      have sub : Same H' HT := by rw [← eHT]; exact sT
      refine ⟨_, rfl, _, rfl, _, rfl, _, rfl, ?_⟩
      refine ⟨_, _, rfl, SqL.of (smT _ _ hsa), fun pk npk => ?_⟩
      rw [cut_lo (by rw [len_map]; omega), ← List.map_take]
      have s1 := sm_new (o := .lst ((s.take W).map V.int)) npk
      obtain ⟨HK, eHK⟩ : ∃ HK, upd HT pk (.lst ((s.take W).map V.int)) = HK := ⟨_, rfl⟩
      have hpk : HK pk = some (.lst ((s.take W).map V.int)) := by rw [← eHK]; exact upd_same
      rw [eHK] at s1 ⊢
      refine ⟨_, rfl, ⟨_, SqL.of hpk⟩, fun E nE => lc_list (K := K) (tt := fun _ H Q => Q true H) (a := pk) (xs := (s.take W).map V.int) (fun k H2 => Same HK H2 ∧ H2 E = some (.lst ((((s.take W).take k).map (fun x => x % (p : Int))).map V.int))) ⟨sm_new nE, upd_same⟩ (fun k H2 hi hP => hP.1.seq (SqL.of hpk)) (fun k x H2 hi hP => ?_) (fun H2 hP => ?_)⟩
      · obtain ⟨s2, hE⟩ := hP
        obtain ⟨y, hx, rfl⟩ := get_map_int hi
        have kl := (List.getElem?_eq_some_iff.mp hx).1
        rw [List.length_take] at kl
        refine ⟨rfl, iteK rfl ?_⟩
        refine ⟨_, rfl, _, rfl, _, _, rfl, rfl, p0, _, hE, by rw [len_map, List.length_map, List.length_take, List.length_take]; exact small1000 (by omega), same_mut s2 nE, ?_⟩
        rw [upd_same, List.take_succ, hx, List.map_append, List.map_append]
        rfl
      · obtain ⟨s2, hE⟩ := hP
        rw [len_map, List.take_length] at hE
        refine ⟨by show 2 ≤ sizeLine; decide, fun w nw => ?_⟩
        have s3 := sm_new (o := .tup [V.int (i : Nat), V.ref E]) nw
        have t3 := s1.trans (s2.trans s3)
        have hD3 := t3 _ _ hDT
        have ED : E ≠ D := fun z => by rw [z, s1 _ _ hDT] at nE; cases nE
        have wl := hN.len
        refine ⟨_, hD3, by rw [wl, List.length_take, pivM_len]; exact small1000 (by omega), same_mut (smT.trans t3) nD, ws ++ [.ref w], upd_same, ?_⟩
        rw [List.take_succ, pivM_at il]
        have hE3 := s3 _ _ hE
        have pr : (pivR (p : Int) W S i).2 = (s.take W).map fun x => x % (p : Int) := by unfold pivR; rw [es]
        exact (NR.snoc (q := pivR (p : Int) W S i) (hN.mono (sub.trans t3)) (show _ = some (.tup [.int (i : Int), .ref E]) from upd_same) (by rw [pr]; exact hE3) (by rw [List.mem_singleton]; exact ED)).upd (List.mem_singleton.mpr rfl) hD3
    · obtain ⟨s1, ws, hD, hN⟩ := hP
      rw [List.take_of_length_le (by rw [pivM_len]; omega)] at hN
      refine ⟨by show 0 ≤ sizeLine; decide, fun qi nqi => ?_⟩
      have s2 := sm_new (o := .lst []) nqi
      refine ⟨by show 0 ≤ sizeLine; decide, fun qc nqc => ?_⟩
      have s3 := sm_new (o := .lst []) nqc
      have s23 := s2.trans s3
      have nqi0 := s1.free nqi
      have nqc0 := (s1.trans s2).free nqc
      have qic : qi ≠ qc := fun z => by rw [← z, upd_same] at nqc; cases nqc
      have X0 : NR (upd (upd H1 qi (.lst [])) qc (.lst [])) [qc, qi, D] ws (pivM (p : Int) W S) := ((((hN.more nqi).mono s2).more nqc).mono s3)
      refine ⟨_, rfl, _, rfl, by omega, by omega, for_range (lo := 0) (n := (W : Int).toNat) (fun k σ' H' => ∃ (rA : Addr) (rs : List V) (R : List (Nat × List Int)) (idx cols : List Nat) (y6 y7 y8 y9 y10 : Option V), σ' = [some (.ref a), some (.int (W : Int)), some (.int (p : Int)), some (.ref rA), some (.ref qi), some (.ref qc), y6, y7, y8, y9, y10, none, none, none, none] ∧ Same H H' ∧ H' rA = some (.lst rs) ∧ NR H' [qc, qi, rA] rs R ∧ H rA = none ∧ rA ≠ qi ∧ rA ≠ qc ∧ H' qi = some (.lst (idx.map fun i : Nat => V.int (i : Int))) ∧ H' qc = some (.lst (cols.map fun i : Nat => V.int (i : Int))) ∧ idx.length ≤ k ∧ R.length ≤ 60 ∧ (∀ q ∈ R, Bits 1000 q.2) ∧ PInv (p : Int) W (S.map (·.take W)) k idx cols R ∧ PHist (p : Int) W (S.map (·.take W)) idx cols k) ⟨D, ws, pivM (p : Int) W S, [], [], none, none, none, none, none, rfl, s1.trans s23, s23 _ _ hD, X0, nD, (fun z => by rw [← z, hD] at nqi; cases nqi), (fun z => by rw [← z, s2 _ _ hD] at nqc; cases nqc), s3 _ _ upd_same, upd_same, Nat.le_refl _, by rw [pivM_len]; exact s60, fun r hr2 => ?_, pivM_ok hW, fun t ht => by
        obtain rfl : t = 0 := by omega
        exact ⟨0, _, Nat.le_refl _, pivM_ok hW, fun c hc => absurd hc (by simp)⟩⟩ (fun k σ' H' hk hI => ?_) (fun σ' H' hI => ?_)⟩
      · obtain ⟨i, hi, e⟩ := List.mem_iff_getElem.mp hr2
        rw [pivM_len] at hi
        have h2 := pivM_at (p := (p : Int)) (W := W) hi
        rw [List.getElem?_eq_getElem (by rw [pivM_len]; exact hi), e] at h2
        cases h2
        refine ⟨fun x hx => ?_⟩
        obtain ⟨y, _, rfl⟩ := List.mem_map.mp hx
        have h1 := Int.emod_nonneg y (show (p : Int) ≠ 0 by omega)
        have h2 := Int.emod_lt_of_pos y p0
        omega
      · obtain ⟨rA, rs, R, idx, cols, y6, y7, y8, y9, y10, rfl, sm, hr, hN, nrA, r1, r2, hi, hc, il, R60, Rb, P, hist⟩ := hI
        have Rl := hN.len
        have RW : ∀ q ∈ R, q.2.length = W - k := P.lr
        refine ⟨_, rfl, _, rfl, ⟨_, SqL.of hr⟩, fun E nE => lc_list (K := K) (a := rA) (xs := rs) (fun i H2 => Same H' H2 ∧ ∃ us, H2 E = some (.lst us) ∧ LsL H2 us ((R.map (·.2)).take i) ∧ Off E us) ⟨sm_new nE, [], upd_same, .nil, fun b hb => absurd hb (by simp)⟩ (fun i H2 hi hP => hP.1.seq (SqL.of hr)) (fun i x H2 hix hP => ?_) (fun H2 hP => ?_)⟩
        · obtain ⟨s2, us, hE, hU, off⟩ := hP
          obtain ⟨q0, t, ra, hq0, rfl, ht, hra, nX⟩ := hN.item hix
          have il2 := (List.getElem?_eq_some_iff.mp hix).1
          refine ⟨t, _, rfl, SqT.of (s2 _ _ ht), rfl, _, _, rfl, _, _, rfl, rfl, rfl, ?_⟩
          unfold tYes
          refine iteK rfl ?_
          have ne : ra ≠ E := fun z => by rw [z, nE] at hra; cases hra
          refine ⟨_, rfl, _, hE, by rw [hU.len, List.length_take, List.length_map]; exact small1000 (by omega), same_mut s2 nE, us ++ [.ref ra], upd_same, ?_, off.snoc ne⟩
          rw [List.take_succ, List.getElem?_map, hq0]
          exact (LsL.snoc hU (s2 _ _ hra)).upd (off.snoc ne)
        obtain ⟨s2, us, hE, hU, _⟩ := hP
        rw [List.take_of_length_le (by rw [List.length_map]; omega)] at hU
        refine ⟨_, rfl, E, us, R.map (·.2), (p : Int), (), rfl, SqL.of hE, hU, fun r hr2 => ?_, p0, fun no H3 s3 => ?_, fun at_ r H3 s3 hat nd => ?_⟩
        · obtain ⟨q0, h0, rfl⟩ := List.mem_map.mp hr2
          have := RW q0 h0
          omega
        · have s23 := s2.trans s3
          have hr3 := s23 _ _ hr
          refine ⟨_, rfl, rfl, _, rfl, iteK rfl ?_⟩
          refine ⟨_, rfl, _, rfl, ⟨_, SqL.of hr3⟩, fun D2 nD2 => lc_list (K := K) (a := rA) (xs := rs) (fun i H4 => Same H3 H4 ∧ ∃ ws2, H4 D2 = some (.lst ws2) ∧ NR H4 [qc, qi, D2] ws2 ((R.map fun q => (q.1, q.2.tail)).take i)) ⟨sm_new nD2, [], upd_same, .nil⟩ (fun i H4 hi hP => hP.1.seq (SqL.of hr3)) (fun i x H4 hix hP => ?_) (fun H4 hP => ?_)⟩
          · obtain ⟨s4, ws2, hD2, hN2⟩ := hP
            obtain ⟨q0, t, ra, hq0, rfl, ht, hra, nX⟩ := hN.item hix
            have il2 := (List.getElem?_eq_some_iff.mp hix).1
            have s24 := s23.trans s4
            refine ⟨t, _, rfl, SqT.of (s24 _ _ ht), rfl, _, _, rfl, _, _, rfl, rfl, rfl, ?_⟩
            unfold tYes
            refine iteK rfl ?_
            refine ⟨_, rfl, _, rfl, _, rfl, ?_⟩
            refine ⟨_, _, rfl, SqL.of (s24 _ _ hra), fun pk npk => ?_⟩
            have ec : cutV (q0.2.map V.int) (some (1 : Int)) none = q0.2.tail.map V.int := by
              have : cutV (q0.2.map V.int) (some (1 : Int)) none = (q0.2.map V.int).drop 1 := cut_hi (m := 1) (by rw [len_map]; have := RW q0 (List.mem_of_getElem? hq0); omega)
              rw [this, ← List.map_drop, List.drop_one]
            rw [ec]
            have s5 := sm_new (o := .lst (q0.2.tail.map V.int)) npk
            refine ⟨by show 2 ≤ sizeLine; decide, fun w nw => ?_⟩
            have s6 := sm_new (o := .tup [V.int (q0.1 : Int), V.ref pk]) nw
            have s56 := s5.trans s6
            have hD6 := s56 _ _ hD2
            have pX : pk ∉ [qc, qi, D2] := fun m => by
              rcases List.mem_cons.mp m with c | m
              · rw [c, s24 _ _ hc] at npk; cases npk
              · rcases List.mem_cons.mp m with c | m
                · rw [c, s24 _ _ hi] at npk; cases npk
                · rw [List.mem_singleton.mp m, hD2] at npk; cases npk
            refine ⟨_, hD6, by rw [hN2.len, List.length_take, List.length_map]; exact small1000 (by omega), same_mut (s4.trans s56) nD2, ws2 ++ [.ref w], upd_same, ?_⟩
            rw [List.take_succ, List.getElem?_map, hq0]
            exact (NR.snoc (q := (q0.1, q0.2.tail)) (hN2.mono s56) (show _ = some (.tup [.int (q0.1 : Int), .ref pk]) from upd_same) (s6 _ _ upd_same) pX).upd (by simp) hD6
          · obtain ⟨s4, ws2, hD2, hN2⟩ := hP
            rw [List.take_of_length_le (by rw [List.length_map]; omega)] at hN2
            have s24 := s23.trans s4
            refine ⟨D2, ws2, R.map (fun q => (q.1, q.2.tail)), idx, cols, _, _, _, _, _, rfl, sm.trans s24, hD2, hN2, (sm.trans s23).free nD2, (fun z => by rw [z, s23 _ _ hi] at nD2; cases nD2), (fun z => by rw [z, s23 _ _ hc] at nD2; cases nD2), s24 _ _ hi, s24 _ _ hc, by omega, by rw [List.length_map]; exact R60, fun q2 hq2 => ?_, P.none (by omega) (fun q2 hq2 => no _ (List.mem_map.mpr ⟨q2, hq2, rfl⟩)) rfl, hist.none (P.none (by omega) (fun q2 hq2 => no _ (List.mem_map.mpr ⟨q2, hq2, rfl⟩)) rfl)⟩
            obtain ⟨q0, h0, rfl⟩ := List.mem_map.mp hq2
            exact ⟨fun x hx => (Rb q0 h0).all x (List.mem_of_mem_tail hx)⟩
        · have s23 := s2.trans s3
          obtain ⟨P0, hP0, rfl⟩ : ∃ P0, R[at_]? = some P0 ∧ P0.2 = r := by
            rw [List.getElem?_map] at hat
            cases e : R[at_]? with
            | none => rw [e] at hat; cases hat
            | some P0 => rw [e] at hat; exact ⟨P0, rfl, Option.some.inj hat⟩
          have al := (List.getElem?_eq_some_iff.mp hP0).1
          obtain ⟨t0, a0, hx0, ht0, ha0, nX0⟩ := hN.at_ at_ P0 hP0
          have hr3 := s23 _ _ hr
          refine ⟨_, rfl, rfl, _, rfl, iteN rfl ?_⟩
          refine ⟨_, rfl, .inl ⟨rfl, _, SqL.of hr3⟩, _, rfl, rA, rs, (at_ : Int), at_, .ref t0, rfl, rfl, hr3, by omega, by omega, seq_nat (by omega), hx0, ?_⟩
          have s4 : Same H (upd H3 rA (.lst (rs.eraseIdx at_))) := same_mut (sm.trans s23) nrA
          have hN4 : NR (upd H3 rA (.lst (rs.eraseIdx at_))) [qc, qi, rA] (rs.eraseIdx at_) (R.eraseIdx at_) := ((hN.mono s23).erase at_).upd (by simp) hr3
          have hr4 : (upd H3 rA (.lst (rs.eraseIdx at_))) rA = some (.lst (rs.eraseIdx at_)) := upd_same
          have ht4 : (upd H3 rA (.lst (rs.eraseIdx at_))) t0 = some (.tup [.int (P0.1 : Int), .ref a0]) := by rw [upd_ne (fun z => by rw [z, hr] at ht0; cases ht0)]; exact s23 _ _ ht0
          have ha4 : (upd H3 rA (.lst (rs.eraseIdx at_))) a0 = some (.lst (P0.2.map V.int)) := by rw [upd_ne (fun z => nX0 (by rw [z]; simp))]; exact s23 _ _ ha0
          have hi4 : (upd H3 rA (.lst (rs.eraseIdx at_))) qi = some (.lst (idx.map fun i : Nat => V.int (i : Int))) := by rw [upd_ne r1.symm]; exact s23 _ _ hi
          have hc4 : (upd H3 rA (.lst (rs.eraseIdx at_))) qc = some (.lst (cols.map fun i : Nat => V.int (i : Int))) := by rw [upd_ne r2.symm]; exact s23 _ _ hc
          obtain ⟨H4, eH4⟩ : ∃ H4, upd H3 rA (.lst (rs.eraseIdx at_)) = H4 := ⟨_, rfl⟩
          rw [eH4] at s4 hN4 hr4 ht4 ha4 hi4 hc4 ⊢
          refine ⟨t0, _, rfl, SqT.of ht4, rfl, _, _, rfl, _, _, rfl, rfl, ?_⟩
          have b0 := Rb P0 (List.mem_of_getElem? hP0)
          have l0 := RW P0 (List.mem_of_getElem? hP0)
          have pe : ((p : Int)) ^ 1 = (p : Int) := by rw [Int.pow_succ, Int.pow_zero, Int.one_mul]
          refine ⟨_, rfl, _, rfl, _, rfl, a0, P0.2, p, 1, by rw [pe]; rfl, SqL.of ha4, by omega, by omega, b0, pp, pb, Nat.le_refl _, by rw [pe]; exact p1000, nd, fun lA H5 line s5 nlA hlA Lin lb => ?_⟩
          rw [pe] at Lin
          have ll := Lin.len
          have hr5 := s5 _ _ hr4
          have el : (R.eraseIdx at_).length ≤ R.length := List.length_eraseIdx_le ..
          refine ⟨_, rfl, _, rfl, ⟨_, SqL.of hr5⟩, fun D2 nD2 => lc_list (K := K) (a := rA) (xs := rs.eraseIdx at_) (fun i H6 => Same H5 H6 ∧ ∃ ws2 Y, H6 D2 = some (.lst ws2) ∧ NR H6 [qc, qi, D2] ws2 Y ∧ Y.length = i ∧ (∀ (j : Nat) (x y : Nat × List Int), (R.eraseIdx at_)[j]? = some x → Y[j]? = some y → x.1 = y.1 ∧ ClrR (p : Int) line x.2 y.2 ∧ line.length = y.2.length) ∧ ∀ y ∈ Y, Bits 1000 y.2) ⟨sm_new nD2, [], [], upd_same, .nil, rfl, fun j x y _ h => by simp at h, fun y h => absurd h (by simp)⟩ (fun i H6 hi hP => hP.1.seq (SqL.of hr5)) (fun i x H6 hix hP => ?_) (fun H6 hP => ?_)⟩
          · obtain ⟨s6, ws2, Y, hD2, hN2, Yl, Yc, Yb⟩ := hP
            obtain ⟨q0, t, ra, hq0, rfl, ht, hra, nX⟩ := hN4.item hix
            have il2 := (List.getElem?_eq_some_iff.mp hix).1
            have s56 := s5.trans s6
            have q0m := List.mem_of_mem_eraseIdx (List.mem_of_getElem? hq0)
            have ql := RW q0 q0m
            refine ⟨t, _, rfl, SqT.of (s56 _ _ ht), rfl, _, _, rfl, _, _, rfl, rfl, rfl, ?_⟩
            unfold tYes
            refine iteK rfl ?_
            refine ⟨_, rfl, _, rfl, _, rfl, _, rfl, ra, lA, q0.2, line, (p : Int), rfl, SqL.of (s56 _ _ hra), SqL.of (s6 _ _ hlA), by omega, by omega, Rb q0 q0m, lb, p0, p1000, fun q2 H7 ys s7 nq2 hq2 cl cl2 cb => ?_⟩
            refine ⟨by show 2 ≤ sizeLine; decide, fun w nw => ?_⟩
            have s8 := sm_new (o := .tup [V.int (q0.1 : Int), V.ref q2]) nw
            have s78 := s7.trans s8
            have hD8 := s78 _ _ hD2
            have pX : q2 ∉ [qc, qi, D2] := fun m => by
              rcases List.mem_cons.mp m with c | m
              · rw [c, s56 _ _ hc4] at nq2; cases nq2
              · rcases List.mem_cons.mp m with c | m
                · rw [c, s56 _ _ hi4] at nq2; cases nq2
                · rw [List.mem_singleton.mp m, hD2] at nq2; cases nq2
            have nl := hN2.len
            refine ⟨_, hD8, by rw [nl, Yl]; exact small1000 (by have := hN4.len; omega), same_mut (s6.trans s78) nD2, ws2 ++ [.ref w], Y ++ [(q0.1, ys)], upd_same, (NR.snoc (q := (q0.1, ys)) (hN2.mono s78) (show _ = some (.tup [.int (q0.1 : Int), .ref q2]) from upd_same) (s8 _ _ hq2) pX).upd (by simp) hD8, by rw [List.length_append, Yl]; rfl, fun j x y h1 h2 => ?_, fun y hy => ?_⟩
            · by_cases c : j < Y.length
              · rw [List.getElem?_append_left c] at h2
                exact Yc j x y h1 h2
              · have jl := (List.getElem?_eq_some_iff.mp h2).1
                rw [List.length_append, List.length_singleton] at jl
                have ji : j = i := by omega
                subst ji
                rw [hq0] at h1
                rw [List.getElem?_append_right (by omega), Yl, Nat.sub_self] at h2
                cases h1
                cases h2
                exact ⟨rfl, cl, cl2⟩
            · rcases List.mem_append.mp hy with c | c
              · exact Yb y c
              · rw [List.mem_singleton.mp c]; exact cb
          · obtain ⟨s6, ws2, Y, hD2, hN2, Yl, Yc, Yb⟩ := hP
            have s56 := s5.trans s6
            have nl4 := hN4.len
            have cn : ClrN (p : Int) line (R.eraseIdx at_) Y := ⟨by omega, Yc⟩
            have hi6 := s56 _ _ hi4
            have hc6 := s56 _ _ hc4
            have D2i : D2 ≠ qi := fun z => by rw [z, s5 _ _ hi4] at nD2; cases nD2
            have D2c : D2 ≠ qc := fun z => by rw [z, s5 _ _ hc4] at nD2; cases nD2
            have ilen := P.len
            refine ⟨_, rfl, .inl ⟨rfl, _, SqL.of hi6⟩, _, rfl, ?_⟩
            refine ⟨_, _, _, rfl, rfl, hi6, by rw [List.length_map]; exact small1000 (by omega), ?_⟩
            have hc7 : (upd H6 qi (.lst ((idx.map fun i : Nat => V.int (i : Int)) ++ [.int (P0.1 : Int)]))) qc = some (.lst (cols.map fun i : Nat => V.int (i : Int))) := by rw [upd_ne qic.symm]; exact hc6
            refine ⟨_, rfl, .inl ⟨rfl, _, SqL.of hc7⟩, _, rfl, ?_⟩
            refine ⟨_, _, _, rfl, rfl, hc7, by rw [List.length_map]; exact small1000 (by omega), ?_⟩
            have sZ := same_mut (o := .lst ((cols.map fun i : Nat => V.int (i : Int)) ++ [.int (0 + (k : Int))])) (same_mut (o := .lst ((idx.map fun i : Nat => V.int (i : Int)) ++ [.int (P0.1 : Int)])) (s4.trans s56) nqi0) nqc0
            refine ⟨D2, ws2, Y, idx ++ [P0.1], cols ++ [k], _, _, _, _, _, rfl, sZ, by rw [upd_ne D2c, upd_ne D2i]; exact hD2, (hN2.upd (by simp) hi6).upd (by simp) hc7, (s4.trans s5).free nD2, D2i, D2c, by rw [upd_ne qic, upd_same, List.map_append]; rfl, by rw [upd_same, List.map_append, Int.zero_add]; rfl, by rw [List.length_append]; show idx.length + 1 ≤ k + 1; omega, by omega, Yb, P.step (by omega) hP0 Lin cn, hist.step P.len (P.step (by omega) hP0 Lin cn)⟩
      · obtain ⟨rA, rs, R, idx, cols, y6, y7, y8, y9, y10, rfl, sm, hr, hN, nrA, r1, r2, hi, hc, il, R60, Rb, P, hist⟩ := hI
        rw [show (W : Int).toNat = W by omega] at P hist
        refine ⟨_, rfl, _, rfl, by show 2 ≤ sizeLine; decide, fun w nw => ?_⟩
        have s4 := sm_new (o := .tup [V.ref qi, V.ref qc]) nw
        exact q w qi qc idx cols R _ (sm.trans s4) upd_same (s4 _ _ hi) (s4 _ _ hc) P nqi0 nqc0 hist

theorem ok_height (T : Tx K mg) : OkF P w K mg base 1 (He.fAd K ("height", none)) ["coefs"] (spHeiB K) := by
  refine okF_of (d := d_height) T.d_height rfl sc_height (fun _ _ _ _ _ _ us hl => match us, hl with | [_], _ => rfl) (fun vs H Q E h => ?_) (fun cdv A outer s H vs Q E hr h => ?_)
  · first | (obtain ⟨_, rfl, _⟩ := h; rfl) | (obtain ⟨_, _, rfl, _⟩ := h; rfl) | (obtain ⟨_, _, _, rfl, _⟩ := h; rfl) | (obtain ⟨_, _, _, _, rfl, _⟩ := h; rfl) | (obtain ⟨_, _, _, _, _, rfl, _⟩ := h; rfl) | (obtain ⟨_, _, _, _, _, _, rfl, _⟩ := h; rfl) | (obtain ⟨_, _, _, _, _, _, _, rfl, _⟩ := h; rfl) | (obtain ⟨_, _, _, _, _, _, _, _, rfl, _⟩ := h; rfl) | (obtain ⟨_, _, _, _, _, _, _, _, _, rfl, _⟩ := h; rfl) | (obtain ⟨_, _, _, _, _, _, _, _, _, _, rfl, _⟩ := h; rfl)
  · obtain ⟨a, xs, rfl, hS, l1, q⟩ := h
    rcases hS with hS | hS
    · refine ⟨_, (pss_one (ps_ret (pe_callBK (cr_maxD rfl hr.units) (by rfl) T.z_max (by decide +kernel) (pa_cons (pe_lc (own := [("c", 1)]) (g := gName 1) rfl sc_height.nd (pi_list (pv 0)) (blkOk_by (own := [("c", 1)]) (N := N_height) (sc := defScope s_height) (by decide +kernel)) (fun _ _ _ _ _ => (pg_name (i := 1) sc_height.nd rfl (Or.inl rfl))) (fun _ _ _ _ _ => pts_nil) (fun _ _ _ _ _ => (pe_callB call_abs (by rfl) T.z_abs (by decide +kernel) (pa_cons (pv 1) pa_nil)))) pa_nil) (pk_cons pe_int pk_nil)))), ?_⟩
      have gv : ∀ (h : Nat), (∀ x ∈ xs, x.natAbs ≤ h) → ∀ i, (xs.getD i 0).natAbs ≤ h := fun h hh i => by
        by_cases c : i < xs.length
        · exact hh _ (List.mem_of_getElem? (get_of_lt c))
        · rw [getD_end (by omega)]; exact Nat.zero_le _
      refine ⟨_, rfl, a, rfl, ⟨_, hS⟩, fun D nD => ?_⟩
      refine walkL (xs := xs.map V.int) (fun i H' => Same H H' ∧ H' D = some (.lst (((xs.take i).map fun x => (x.natAbs : Int)).map V.int))) ⟨sm_new nD, upd_same⟩ (fun i H' hi hP => hP.1.seq hS) (fun i x H' hi hP => ?_) (fun H' hP => ?_)
      · obtain ⟨u, hu, rfl⟩ := get_map_int hi
        obtain ⟨sm, hD⟩ := hP
        refine ⟨rfl, ?_⟩
        unfold tYes
        refine iteK rfl ?_
        refine ⟨_, rfl, _, rfl, _, hD, by rw [List.length_map, List.length_map, List.length_take]; exact small1000 (by omega), same_mut sm nD, ?_⟩
        rw [upd_same, List.take_succ, hu, List.map_append, List.map_append, show (if u < 0 then -u else u) = (u.natAbs : Int) by split <;> omega]
        rfl
      obtain ⟨sm, hD⟩ := hP
      rw [len_map, List.take_length] at hD
      refine ⟨D, _, 0, rfl, rfl, SqL.of hD, fun e => ?_, fun m hm hm2 => ?_⟩
      · have e2 : xs = [] := by simpa using e
        exact q 0 H' sm (gv 0 fun x hx => by rw [e2] at hx; cases hx) (fun k _ => Nat.two_pow_pos k)
      · obtain ⟨x, hx, rfl⟩ := List.mem_map.mp hm
        exact q x.natAbs H' sm (gv _ fun y hy => by have := hm2 _ (List.mem_map.mpr ⟨y, hy, rfl⟩); omega) (fun k hk => hk x hx)
    · refine ⟨_, (pss_one (ps_ret (pe_callBK (cr_maxD rfl hr.units) (by rfl) T.z_max (by decide +kernel) (pa_cons (pe_lc (own := [("c", 1)]) (g := gName 1) rfl sc_height.nd (pi_tup (pv 0)) (blkOk_by (own := [("c", 1)]) (N := N_height) (sc := defScope s_height) (by decide +kernel)) (fun _ _ _ _ _ => (pg_name (i := 1) sc_height.nd rfl (Or.inl rfl))) (fun _ _ _ _ _ => pts_nil) (fun _ _ _ _ _ => (pe_callB call_abs (by rfl) T.z_abs (by decide +kernel) (pa_cons (pv 1) pa_nil)))) pa_nil) (pk_cons pe_int pk_nil)))), ?_⟩
      have gv : ∀ (h : Nat), (∀ x ∈ xs, x.natAbs ≤ h) → ∀ i, (xs.getD i 0).natAbs ≤ h := fun h hh i => by
        by_cases c : i < xs.length
        · exact hh _ (List.mem_of_getElem? (get_of_lt c))
        · rw [getD_end (by omega)]; exact Nat.zero_le _
      refine ⟨_, rfl, a, rfl, ⟨_, hS⟩, fun D nD => ?_⟩
      refine walkT (xs := xs.map V.int) (fun i H' => Same H H' ∧ H' D = some (.lst (((xs.take i).map fun x => (x.natAbs : Int)).map V.int))) ⟨sm_new nD, upd_same⟩ (fun i H' hi hP => sm_tup hP.1 hS) (fun i x H' hi hP => ?_) (fun H' hP => ?_)
      · obtain ⟨u, hu, rfl⟩ := get_map_int hi
        obtain ⟨sm, hD⟩ := hP
        refine ⟨rfl, ?_⟩
        unfold tYes
        refine iteK rfl ?_
        refine ⟨_, rfl, _, rfl, _, hD, by rw [List.length_map, List.length_map, List.length_take]; exact small1000 (by omega), same_mut sm nD, ?_⟩
        rw [upd_same, List.take_succ, hu, List.map_append, List.map_append, show (if u < 0 then -u else u) = (u.natAbs : Int) by split <;> omega]
        rfl
      obtain ⟨sm, hD⟩ := hP
      rw [len_map, List.take_length] at hD
      refine ⟨D, _, 0, rfl, rfl, SqL.of hD, fun e => ?_, fun m hm hm2 => ?_⟩
      · have e2 : xs = [] := by simpa using e
        exact q 0 H' sm (gv 0 fun x hx => by rw [e2] at hx; cases hx) (fun k _ => Nat.two_pow_pos k)
      · obtain ⟨x, hx, rfl⟩ := List.mem_map.mp hm
        exact q x.natAbs H' sm (gv _ fun y hy => by have := hm2 _ (List.mem_map.mpr ⟨y, hy, rfl⟩); omega) (fun k hk => hk x hx)

theorem ok_power_of (T : Tx K mg) : OkF P w K mg base 1 (He.fAd K ("power_of", none)) ["base", "exponent"] (spPowI K) := by
  refine okF_of (d := d_power_of) T.d_power_of rfl sc_power_of (fun _ _ _ _ _ _ us hl => match us, hl with | [_, _], _ => rfl) (fun vs H Q E h => ?_) (fun cdv A outer s H vs Q E hr h => ?_)
  · first | (obtain ⟨_, rfl, _⟩ := h; rfl) | (obtain ⟨_, _, rfl, _⟩ := h; rfl) | (obtain ⟨_, _, _, rfl, _⟩ := h; rfl) | (obtain ⟨_, _, _, _, rfl, _⟩ := h; rfl) | (obtain ⟨_, _, _, _, _, rfl, _⟩ := h; rfl) | (obtain ⟨_, _, _, _, _, _, rfl, _⟩ := h; rfl) | (obtain ⟨_, _, _, _, _, _, _, rfl, _⟩ := h; rfl) | (obtain ⟨_, _, _, _, _, _, _, _, rfl, _⟩ := h; rfl) | (obtain ⟨_, _, _, _, _, _, _, _, _, rfl, _⟩ := h; rfl) | (obtain ⟨_, _, _, _, _, _, _, _, _, _, rfl, _⟩ := h; rfl)
  · obtain ⟨b, e, k, rfl, h0, hb, hk, q⟩ := h
    obtain ⟨n, rfl⟩ : ∃ n : Nat, e = n := ⟨e.toNat, by omega⟩
    rw [Int.toNat_natCast] at hk q
    refine ⟨_, (pss_cons (ps_setI (i := 2) sc_power_of.nd rfl (Or.inl rfl) pe_int)
      (pss_cons (ps_while PassesOwn.leaving (pt_cmpR op_gt (pv 1) pe_int (nomark _)) (Evl.pss_cut (ps_if (pt_truth (pe_op op_and (pv 1) pe_int) (by intro _; rfl)) (pss_one (ps_setI (i := 2) sc_power_of.nd rfl (Or.inl rfl) (pe_op op_mulW (pv 2) (pv 0)))) pss_nil)
      (pss_cons (ps_setI (i := 1) sc_power_of.nd rfl (Or.inl rfl) (pe_op op_shr (pv 1) pe_int))
      (pss_one (ps_if (pt_cmpR op_gt (pv 1) pe_int (nomark _)) (pss_one (ps_setI (i := 0) sc_power_of.nd rfl (Or.inl rfl) (pe_op op_mulW (pv 0) (pv 0)))) pss_nil)))))
      (pss_one (ps_ret (pv 2))))), ?_⟩
    refine ⟨_, rfl, fun f0 ef => ?_⟩
    refine ⟨fun m σ' H' => H = H' ∧ ∃ (x z : Int) (s r : Nat), σ' = [some (.int z), some (.int (m : Int)), some (.int x)] ∧ z = b ^ s ∧ x = b ^ r ∧ r + s * m = n, ⟨n, rfl, f0, b, 1, 0, rfl, (Int.pow_one b).symm, by rw [ef, Int.pow_zero], by omega⟩, ?_⟩
    rintro m _ _ ⟨rfl, x, z, s, r, rfl, hz, hx, he⟩
    refine ⟨_, rfl, _, _, rfl, rfl, _, rfl, iteD (fun h1 => ?_) (fun h1 => ?_)⟩
    · refine ⟨fun σ2 H2 => ∃ m', m' < m ∧ H = H2 ∧ ∃ (x z : Int) (s r : Nat), σ2 = [some (.int z), some (.int (m' : Int)), some (.int x)] ∧ z = b ^ s ∧ x = b ^ r ∧ r + s * m' = n, fun _ _ h => h, ?_⟩
      obtain ⟨p, t, hm, ht⟩ : ∃ p t, m = 2 * p + t ∧ t ≤ 1 := ⟨m / 2, m % 2, by omega, by omega⟩
      have hp : m / 2 = p := by omega
      have ht2 : m % 2 = t := by omega
      have e1 : r + t * s + (s + s) * p = n := by rw [← he, hm]; grind
      refine ⟨fun σ' H' => H = H' ∧ ∃ x2 : Int, σ' = [some (.int z), some (.int (m : Int)), some (.int x2)] ∧ x2 = b ^ (r + t * s), ?_, ?_⟩
      · refine ⟨_, rfl, _, _, rfl, rfl, _, rfl, iteB (fun h2 => ?_) (fun h2 => ?_)⟩
        · rw [bit_one, ht2] at h2
          have t1 : t = 1 := by
            rcases Nat.le_one_iff_eq_zero_or_eq_one.mp ht with e | e
            · rw [e] at h2; cases h2
            · exact e
          subst t1
          refine ⟨_, rfl, _, rfl, _, _, rfl, rfl, pow_side hb hk (by omega) hx hz, _, rfl, fun x2 ex => ⟨rfl, x2, rfl, ?_⟩⟩
          rw [ex, hx, hz, ← Int.pow_add, Nat.one_mul]
        · rw [bit_one, ht2] at h2
          have t0 : t = 0 := by
            rcases Nat.le_one_iff_eq_zero_or_eq_one.mp ht with e | e
            · exact e
            · rw [e] at h2; cases h2
          subst t0
          exact ⟨rfl, x, rfl, by rw [hx]; simp⟩
      rintro _ _ ⟨rfl, x2, rfl, hx2⟩
      refine ⟨_, rfl, _, _, rfl, rfl, (show (0 : Int) ≤ 1 by decide), _, rfl, fun e2 ee => ?_⟩
      have ee2 : e2 = (p : Int) := by
        rw [ee]
        show (m : Int) / 2 = p
        omega
      subst ee2
      refine ⟨_, rfl, _, _, rfl, rfl, _, rfl, iteD (fun h3 => ?_) (fun h3 => ?_)⟩
      · have p0 : 1 ≤ p := by omega
        have e3 := Nat.mul_le_mul_left (s + s) p0
        refine ⟨_, rfl, _, rfl, _, _, rfl, rfl, pow_side hb hk (by omega) hz hz, _, rfl, fun z2 ez => ?_⟩
        exact ⟨p, by omega, rfl, x2, z2, s + s, r + t * s, rfl, by rw [ez, hz, ← Int.pow_add], hx2, e1⟩
      · have p0 : p = 0 := by omega
        subst p0
        exact ⟨0, by omega, rfl, x2, z, s, r + t * s, rfl, hz, hx2, by omega⟩
    · have m0 : m = 0 := by omega
      subst m0
      have rn : r = n := by omega
      rw [rn] at hx
      rw [← hx] at q
      exact ⟨_, rfl, q⟩

theorem ok_inverse_matrix (T : Tx K mg) (O__first_unit : OkF P w K mg base 1 (He.fAd K ("_first_unit", none)) ["rows", "prime"] (spFiU K)) (O__divided : OkF P w K mg base 3 (He.fAd K ("_divided", none)) ["row", "prime", "modulus"] (spDivd K)) (O__cleared : OkF P w K mg base 1 (He.fAd K ("_cleared", none)) ["row", "line", "modulus"] (spClrd K)) : OkF P w K mg base 4 (He.fAd K ("inverse_matrix", none)) ["square", "prime", "modulus"] (spInvM K) := by
  obtain ⟨_, G__first_unit, b__first_unit, k__first_unit⟩ := O__first_unit
  obtain ⟨_, G__divided, b__divided, k__divided⟩ := O__divided
  obtain ⟨_, G__cleared, b__cleared, k__cleared⟩ := O__cleared
  refine okF_of (d := d_inverse_matrix) T.d_inverse_matrix rfl sc_inverse_matrix (fun _ _ _ _ _ _ us hl => match us, hl with | [_, _, _], _ => rfl) (fun vs H Q E h => ?_) (fun cdv A outer s H vs Q E hr h => ?_)
  · (obtain ⟨_, _, _, _, _, _, rfl, _⟩ := h; rfl)
  · obtain ⟨a, xs, S, p, e, _, hv, hA, hL, pp, pb, e1, Mb, ns, sl, s30, q⟩ := h
    have xl := hL.len
    have p2 := pp.two
    obtain ⟨M, hM⟩ : ∃ M, (p : Int) ^ e = M := ⟨_, rfl⟩
    have M0 : 0 < M := by rw [← hM]; exact Int.pow_pos (by omega)
    have pM : (p : Int) ∣ M := by
      obtain ⟨s, rfl⟩ : ∃ s, e = s + 1 := ⟨e - 1, by omega⟩
      rw [← hM, Int.pow_succ]
      exact ⟨(p : Int) ^ s, Int.mul_comm _ _⟩
    rw [hM] at hv q Mb
    subst hv
    have p1 : ¬ (p : Int) ∣ 1 := fun c => by
      have h3 : p ∣ 1 := Int.natAbs_dvd_natAbs.mpr c
      have := Nat.dvd_one.mp h3
      omega
    have A := aug_ok (M := M) sl
    refine ⟨_, (pss_cons (ps_setI (i := 3) sc_inverse_matrix.nd rfl (Or.inr rfl) (pe_callB call_len_seq (by rfl) T.z_len PySem.boot_len (pa_cons (pv 0) pa_nil)))
      (pss_cons (ps_setLc (i := 4) (own := [("i", 9), ("row", 10)]) (g := gTup K 2 (gCons (gName 9) (gCons (gName 10) gNil))) rfl sc_inverse_matrix.nd rfl rfl (sw_true rfl rfl rfl (by decide +kernel)) (pi_enum (by rfl) T.z_enumerate (pa_cons (pv 0) pa_nil)) (blkOk_by (own := [("i", 9), ("row", 10)]) (N := N_inverse_matrix) (sc := defScope s_inverse_matrix) (by decide +kernel)) (fun _ _ _ _ _ => (pg_tup rfl (pgs_cons (pg_name (i := 9) sc_inverse_matrix.nd rfl (Or.inr rfl)) (pgs_cons (pg_name (i := 10) sc_inverse_matrix.nd rfl (Or.inl rfl)) pgs_nil)))) (fun _ _ _ _ _ => pts_nil) (fun _ _ _ _ _ => (pe_op op_cat (pe_lc (own := [("x", 11)]) (g := gName 11) rfl sc_inverse_matrix.nd (show PI _ _ _ (iList K _) from pi_list (pv 10)) (blkOk_by (own := [("x", 11)]) (N := N_inverse_matrix) (by rfl)) (fun _ _ _ _ _ => (pg_name (i := 11) sc_inverse_matrix.nd rfl (Or.inl rfl))) (fun _ _ _ _ _ => pts_nil) (fun _ _ _ _ _ => (pe_op op_mod (pv 11) (pv 2)))) (pe_lc (own := [("j", 12)]) (g := gName 12) rfl sc_inverse_matrix.nd (pi_range1 rfl T.z_range (pa_cons (pv 3) pa_nil)) (blkOk_by (own := [("j", 12)]) (N := N_inverse_matrix) (by rfl)) (fun _ _ _ _ _ => (pg_name (i := 12) sc_inverse_matrix.nd rfl (Or.inl rfl))) (fun _ _ _ _ _ => pts_nil) (fun _ _ _ _ _ => (pe_ifExp (pt_cmpR op_eq (pv 9) (pv 12) (nomark _)) pe_int pe_int))))))
      (pss_cons (ps_set (i := 5) sc_inverse_matrix.nd rfl (Or.inl rfl) (pe_lst pa_nil))
      (pss_cons (ps_for PassesOwn.leaving rfl (pi_range1 rfl T.z_range (pa_cons (pv 3) pa_nil)) (pg_name (i := 6) sc_inverse_matrix.nd rfl (Or.inl rfl)) (pss_cons (ps_set (i := 7) sc_inverse_matrix.nd rfl (Or.inl rfl) (pe_bm PySem.F.plainAttrs_list PySem.F.slot_list_pop PySem.F.type_list_pop mt_popAt (pv 4) (pa_cons (pe_call G__first_unit (hr.mono (by decide)) (by rfl) T.g__first_unit k__first_unit b__first_unit .nil passL (pa_cons (pv 4) (pa_cons (pv 1) pa_nil))) pa_nil)))
      (pss_cons (ps_set (i := 8) sc_inverse_matrix.nd rfl (Or.inr rfl) (pe_call G__divided (hr.mono (by decide)) (by rfl) T.g__divided k__divided b__divided .nil passL (pa_cons (pv 7) (pa_cons (pv 1) (pa_cons (pv 2) pa_nil)))))
      (pss_cons (ps_setLc (i := 4) (own := [("row", 10)]) (g := gName 10) rfl sc_inverse_matrix.nd rfl rfl (sw_true rfl rfl rfl (by decide +kernel)) (pi_list (pv 4)) (blkOk_by (own := [("row", 10)]) (N := N_inverse_matrix) (sc := defScope s_inverse_matrix) (by decide +kernel)) (fun _ _ _ _ _ => (pg_name (i := 10) sc_inverse_matrix.nd rfl (Or.inl rfl))) (fun _ _ _ _ _ => pts_nil) (fun _ _ _ _ _ => (pe_call G__cleared (hr.mono (by decide)) (by rfl) T.g__cleared k__cleared b__cleared .nil passL (pa_cons (pv 10) (pa_cons (pv 8) (pa_cons (pv 2) pa_nil))))))
      (pss_one (ps_set (i := 5) sc_inverse_matrix.nd rfl (Or.inl rfl) (pe_op op_cat (pe_lc (own := [("row", 10)]) (g := gName 10) rfl sc_inverse_matrix.nd (pi_list (pv 5)) (blkOk_by (own := [("row", 10)]) (N := N_inverse_matrix) (sc := defScope s_inverse_matrix) (by decide +kernel)) (fun _ _ _ _ _ => (pg_name (i := 10) sc_inverse_matrix.nd rfl (Or.inl rfl))) (fun _ _ _ _ _ => pts_nil) (fun _ _ _ _ _ => (pe_call G__cleared (hr.mono (by decide)) (by rfl) T.g__cleared k__cleared b__cleared .nil passL (pa_cons (pv 10) (pa_cons (pv 8) (pa_cons (pv 2) pa_nil)))))) (pe_lst (pa_cons (pv 8) pa_nil)))))))))
      (pss_one (ps_ret (pv 5))))))), ?_⟩
    refine ⟨_, rfl, _, _, rfl, .inl hA, _, rfl, fun n en => ?_⟩
    have en2 : n = (S.length : Int) := by rw [en]; omega
    subst en2
    clear en
    have arow : ∀ i, i < S.length → (augR M S i).length = 2 * S.length ∧ Bits 1000 (augR M S i) := fun i hi => by
      obtain ⟨s, hs⟩ : ∃ s, S[i]? = some s := ⟨_, List.getElem?_eq_getElem hi⟩
      have es : S.getD i [] = s := by rw [List.getD_eq_getElem?_getD, hs]; rfl
      have l := sl s (List.mem_of_getElem? hs)
      unfold augR
      rw [es]
      refine ⟨by rw [List.length_append, List.length_map, List.length_map, List.length_range, l]; omega, ⟨fun x hx => ?_⟩⟩
      rcases List.mem_append.mp hx with c | c
      · obtain ⟨y, _, rfl⟩ := List.mem_map.mp c
        have h1 := Int.emod_nonneg y (show M ≠ 0 by omega)
        have h2 := Int.emod_lt_of_pos y M0
        omega
      · obtain ⟨y, _, rfl⟩ := List.mem_map.mp c
        have : (if i = y then (1 : Int) else 0).natAbs ≤ 1 := by split <;> decide
        exact Nat.lt_of_le_of_lt this (Nat.lt_of_lt_of_le (show 1 < 2 ^ 1 by decide) (Nat.pow_le_pow_right (by decide) (by decide)))
    refine ⟨_, rfl, a, xs, rfl, hA, fun D nD => lc_en (K := K) (xs := xs) (fun i H' => Same H H' ∧ ∃ ws, H' D = some (.lst ws) ∧ LsL H' ws ((augM M S).take i) ∧ Off D ws) ⟨sm_new nD, [], upd_same, .nil, fun a ha => absurd ha (by simp)⟩ (fun i H' hP => hP.1.seq hA) (fun i x T H' hx hP nT => ?_) (fun H1 hP => ?_)⟩
    · obtain ⟨sm, ws, hD, hW, off⟩ := hP
      obtain ⟨s, sa, hsi, rfl, hsa⟩ := hL.item hx
      have il := (List.getElem?_eq_some_iff.mp hsi).1
      have es : S.getD i [] = s := by rw [List.getD_eq_getElem?_getD, hsi]; rfl
      have sT := sm_new (o := .tup [V.int (i : Nat), V.ref sa]) nT
      have smT := sm.trans sT
      have hDT := sT _ _ hD
      have slen := sl s (List.mem_of_getElem? hsi)
      refine ⟨T, _, rfl, SqT.of upd_same, rfl, _, _, rfl, _, _, rfl, rfl, rfl, ?_⟩
      unfold tYes
      refine iteK rfl ?_
      obtain ⟨HT, eHT⟩ : ∃ HT, upd H' T (.tup [V.int (i : Nat), V.ref sa]) = HT := ⟨_, rfl⟩
      rw [eHT] at smT hDT ⊢
      have offT : ∀ b : Addr, HT b = none → b ≠ D := fun b hb z => by rw [z, hDT] at hb; cases hb
      refine ⟨_, rfl, _, rfl, ⟨_, SqL.of (smT _ _ hsa)⟩, fun E nE => lc_list (K := K) (tt := fun _ H Q => Q true H) (a := sa) (xs := s.map V.int) (fun k H2 => Same HT H2 ∧ H2 E = some (.lst (((s.take k).map (fun x => x % M)).map V.int))) ⟨sm_new nE, upd_same⟩ (fun k H2 hi hP => hP.1.seq (SqL.of (smT _ _ hsa))) (fun k x H2 hi hP => ?_) (fun H2 hP => ?_)⟩
      · obtain ⟨s2, hE⟩ := hP
        obtain ⟨y, hx, rfl⟩ := get_map_int hi
        have kl := (List.getElem?_eq_some_iff.mp hx).1
        refine ⟨rfl, iteK rfl ?_⟩
        refine ⟨_, rfl, _, rfl, _, _, rfl, rfl, M0, _, hE, by rw [len_map, List.length_map, List.length_take]; exact small1000 (by omega), same_mut s2 nE, ?_⟩
        rw [upd_same, List.take_succ, hx, List.map_append, List.map_append]
        rfl
      · obtain ⟨s2, hE⟩ := hP
        rw [len_map, List.take_length] at hE
        refine ⟨_, rfl, _, rfl, by omega, by omega, fun G nG => lc_range (tt := fun _ H Q => Q true H) (lo := 0) (n := (S.length : Int).toNat) (fun k H3 => Same H2 H3 ∧ H3 G = some (.lst (((List.range k).map fun j => if i = j then (1 : Int) else 0).map V.int))) ⟨sm_new nG, upd_same⟩ (fun k H3 hk hP => ?_) (fun H3 hP => ?_)⟩
        · obtain ⟨s3, hG⟩ := hP
          refine ⟨rfl, iteK rfl ?_⟩
          refine ⟨_, rfl, _, rfl, rfl, _, rfl, iteEq (fun c => ?_) (fun c => ?_)⟩
          · have ik : i = k := by omega
            refine ⟨_, hG, by rw [len_map, List.length_map, List.length_range]; exact small1000 (by omega), same_mut s3 nG, ?_⟩
            rw [upd_same, List.range_succ, List.map_append, List.map_append]
            show some (HO.lst (_ ++ [V.int 1])) = some (HO.lst (_ ++ [V.int (if i = k then 1 else 0)]))
            rw [if_pos ik]
          · have ik : ¬ i = k := by omega
            refine ⟨_, hG, by rw [len_map, List.length_map, List.length_range]; exact small1000 (by omega), same_mut s3 nG, ?_⟩
            rw [upd_same, List.range_succ, List.map_append, List.map_append]
            show some (HO.lst (_ ++ [V.int 0])) = some (HO.lst (_ ++ [V.int (if i = k then 1 else 0)]))
            rw [if_neg ik]
        · obtain ⟨s3, hG⟩ := hP
          rw [show (S.length : Int).toNat = S.length by omega] at hG
          have hE3 := s3 _ _ hE
          refine ⟨_, _, _, _, rfl, rfl, hE3, hG, by rw [len_map, len_map, List.length_map, List.length_map, List.length_range]; exact Nat.le_of_lt (small1000 (by omega)), fun w nw => ?_⟩
          have s4 := sm_new (o := .lst ((s.map fun x => x % M).map V.int ++ ((List.range S.length).map fun j => if i = j then (1 : Int) else 0).map V.int)) nw
          have t4 := (s2.trans s3).trans s4
          have wn : HT w = none := (s2.trans s3).free nw
          have hD4 := t4 _ _ hDT
          have ea : (s.map fun x => x % M).map V.int ++ ((List.range S.length).map fun j => if i = j then (1 : Int) else 0).map V.int = (augR M S i).map V.int := by unfold augR; rw [es, List.map_append]
          refine ⟨_, hD4, by rw [hW.len, List.length_take, augM_len]; exact small1000 (by omega), same_mut (smT.trans t4) nD, ws ++ [.ref w], upd_same, ?_, off.snoc (offT w wn)⟩
          rw [List.take_succ, augM_at il]
          have sub : Same H' HT := by rw [← eHT]; exact sT
          have hw : (upd H3 w (.lst ((s.map fun x => x % M).map V.int ++ ((List.range S.length).map fun j => if i = j then (1 : Int) else 0).map V.int))) w = some (.lst ((augR M S i).map V.int)) := by rw [upd_same, ea]
          exact (LsL.snoc (hW.mono (sub.trans t4)) hw).upd (off.snoc (offT w wn))
    · obtain ⟨s1, ws, hD, hW, off⟩ := hP
      rw [List.take_of_length_le (by rw [augM_len]; omega)] at hW
      refine ⟨by show 0 ≤ sizeLine; decide, fun F nF => ?_⟩
      have sF := sm_new (o := .lst []) nF
      have pos : ∀ R : List (List Int), True := fun _ => trivial
      refine ⟨_, rfl, _, rfl, by omega, by omega, for_range (lo := 0) (n := (S.length : Int).toNat) (fun k σ' H' => ∃ (rA fA : Addr) (rs fs : List V) (R Fd : List (List Int)) (y6 y7 y8 : Option V), σ' = [some (.ref a), some (.int (p : Int)), some (.int M), some (.int (S.length : Int)), some (.ref rA), some (.ref fA), y6, y7, y8, none, none, none, none] ∧ Same H H' ∧ H' rA = some (.lst rs) ∧ LsL H' rs R ∧ Off rA rs ∧ H' fA = some (.lst fs) ∧ LsL H' fs Fd ∧ Off rA fs ∧ fA ≠ rA ∧ H rA = none ∧ H fA = none ∧ R.length = S.length - k ∧ Fd.length = k ∧ (∀ r ∈ R, r.length = 2 * S.length - k ∧ Bits 1000 r) ∧ (∀ r ∈ Fd, r.length = 2 * S.length - k ∧ Bits 1000 r) ∧ InvI (p : Int) (augM M S) k Fd R ∧ InvI M (augM M S) k Fd R) ⟨D, F, ws, [], augM M S, [], none, none, none, rfl, s1.trans sF, sF _ _ hD, hW.mono sF, off, upd_same, .nil, fun a ha => absurd ha (by simp), (fun z => by rw [z, hD] at nF; cases nF), nD, s1.free nF, augM_len M S, rfl, fun r hr => ?_, fun r hr => absurd hr (by simp), .start _ _, .start _ _⟩ (fun k σ' H' hk hI => ?_) (fun σ' H' hI => ?_)⟩
      · obtain ⟨i, hi, e⟩ := List.mem_iff_getElem.mp hr
        rw [augM_len] at hi
        have h2 := augM_at (M := M) hi
        rw [List.getElem?_eq_getElem (by rw [augM_len]; exact hi), e] at h2
        cases h2
        obtain ⟨k1, k2⟩ := arow i hi
        exact ⟨by omega, k2⟩
      · obtain ⟨rA, fA, rs, fs, R, Fd, y6, y7, y8, rfl, sm, hr, hR, offR, hf, hF, offF, fr, nrA, nfA, Rl, Fl, Rb, Fb, I1, I2⟩ := hI
        obtain ⟨row0, hrow0, nd0⟩ := I1.unit A pM ns (by omega) Fl p1
        refine ⟨_, rfl, .inl ⟨rfl, _, SqL.of hr⟩, _, rfl, _, rfl, rA, rs, R, (p : Int), (), rfl, SqL.of hr, hR, fun r hr2 => by have := (Rb r hr2).1; omega, by omega, fun z => absurd (z row0 hrow0) nd0, fun at_ P H2 s2 hat nd => ?_⟩
        have al := (List.getElem?_eq_some_iff.mp hat).1
        have rsl := hR.len
        obtain ⟨Pa, hPa, hP⟩ := hR.at_ at_ P hat
        obtain ⟨Pl, Pb⟩ := Rb P (List.mem_of_getElem? hat)
        refine ⟨rA, rs, (at_ : Int), at_, .ref Pa, rfl, rfl, s2 _ _ hr, by omega, by omega, seq_nat (by omega), hPa, ?_⟩
        have offE : Off rA (rs.eraseIdx at_) := fun b hb => offR b (List.mem_of_mem_eraseIdx hb)
        have s3 : Same H (upd H2 rA (.lst (rs.eraseIdx at_))) := same_mut (sm.trans s2) nrA
        have hr3 : (upd H2 rA (.lst (rs.eraseIdx at_))) rA = some (.lst (rs.eraseIdx at_)) := upd_same
        have hR3 : LsL (upd H2 rA (.lst (rs.eraseIdx at_))) (rs.eraseIdx at_) (R.eraseIdx at_) := ((hR.mono s2).erase at_).upd offE
        have hF3 : LsL (upd H2 rA (.lst (rs.eraseIdx at_))) fs Fd := (hF.mono s2).upd offF
        have hf3 : (upd H2 rA (.lst (rs.eraseIdx at_))) fA = some (.lst fs) := by rw [upd_ne fr]; exact s2 _ _ hf
        have hP3 : (upd H2 rA (.lst (rs.eraseIdx at_))) Pa = some (.lst (P.map V.int)) := by rw [upd_ne (offR Pa (List.mem_of_getElem? hPa))]; exact s2 _ _ hP
        obtain ⟨H3, eH3⟩ : ∃ H3, upd H2 rA (.lst (rs.eraseIdx at_)) = H3 := ⟨_, rfl⟩
        rw [eH3] at s3 hr3 hR3 hF3 hf3 hP3 ⊢
        refine ⟨_, rfl, _, rfl, _, rfl, Pa, P, p, e, by rw [hM]; rfl, SqL.of hP3, by omega, by omega, Pb, pp, pb, e1, by rw [hM]; exact Mb, nd, fun lA H4 line s4 nlA hlA Lin lb => ?_⟩
        rw [hM] at Lin
        have ll := Lin.len
        have RbE : ∀ r ∈ R.eraseIdx at_, r.length = 2 * S.length - k ∧ Bits 1000 r := fun r hr2 => Rb r (List.mem_of_mem_eraseIdx hr2)
        have hr4 := s4 _ _ hr3
        have hR4 := hR3.mono s4
        have el : (rs.eraseIdx at_).length = S.length - k - 1 := by rw [List.length_eraseIdx_of_lt (by omega)]; omega
        have el2 : (R.eraseIdx at_).length = S.length - k - 1 := by rw [List.length_eraseIdx_of_lt (by omega)]; omega
        refine ⟨_, rfl, _, rfl, ⟨_, SqL.of hr4⟩, fun E nE => lc_list (K := K) (a := rA) (xs := rs.eraseIdx at_) (fun i H' => Same H4 H' ∧ ∃ ws Y, H' E = some (.lst ws) ∧ LsL H' ws Y ∧ Off E ws ∧ (∀ b, V.ref b ∈ ws → H4 b = none) ∧ ClrT M line (R.eraseIdx at_) Y i) ⟨sm_new nE, [], [], upd_same, .nil, fun a ha => absurd ha (by simp), fun a ha => absurd ha (by simp), .start⟩ (fun i H' hi hP => hP.1.seq (SqL.of hr4)) (fun i x H' hi hP => ?_) (fun H5 hP => ?_)⟩
        · obtain ⟨sm, ws, Y, hD, hW, off, frs, ct⟩ := hP
          obtain ⟨row, ra2, hri, rfl, hra2⟩ := (hR4.mono sm).item hi
          obtain ⟨rl2, rb2⟩ := RbE row (List.mem_of_getElem? hri)
          refine ⟨rfl, ?_⟩
          unfold tYes
          refine iteK rfl ?_
          refine ⟨_, rfl, _, rfl, _, rfl, ra2, lA, row, line, M, rfl, SqL.of hra2, sm.seq (SqL.of hlA), by omega, by omega, rb2, lb, M0, Mb, fun q2 H9 ys t9 nq2 hq2 cl cl2 cb => ?_⟩
          have h9 := t9 _ _ hD
          have qne : q2 ≠ E := fun z => by rw [z, hD] at nq2; cases nq2
          have wl := hW.len
          have yl := ct.len
          have il := (List.getElem?_eq_some_iff.mp hi).1
          exact ⟨_, h9, by rw [wl, yl]; exact small1000 (by omega), same_mut (sm.trans t9) nE, ws ++ [.ref q2], Y ++ [ys], upd_same, (LsL.snoc (hW.mono t9) hq2).upd (off.snoc qne), off.snoc qne, fun b hb => (List.mem_append.mp hb).elim (fun c => frs b c) (fun c => by rw [List.mem_singleton] at c; cases c; exact sm.free nq2), ct.snoc hri cl cl2 cb⟩
        obtain ⟨s5, ws5, Y5, hE5, hW5, off5, _, ct5⟩ := hP
        rw [el, ← el2] at ct5
        have cr := ct5.fin
        have s45 := s4.trans s5
        have hf5 := s45 _ _ hf3
        have hF5 := hF3.mono s45
        have fl2 := hF.len
        have nE5 : E ≠ fA := fun z => by rw [z, s4 _ _ hf3] at nE; cases nE
        refine ⟨_, rfl, _, rfl, ⟨_, SqL.of hf5⟩, fun G nG => lc_list (K := K) (a := fA) (xs := fs) (fun i H' => Same H5 H' ∧ ∃ ws Y, H' G = some (.lst ws) ∧ LsL H' ws Y ∧ Off G ws ∧ (∀ b, V.ref b ∈ ws → H5 b = none) ∧ ClrT M line (Fd) Y i) ⟨sm_new nG, [], [], upd_same, .nil, fun a ha => absurd ha (by simp), fun a ha => absurd ha (by simp), .start⟩ (fun i H' hi hP => hP.1.seq (SqL.of hf5)) (fun i x H' hi hP => ?_) (fun H6 hP => ?_)⟩
        · obtain ⟨sm, ws, Y, hD, hW, off, frs, ct⟩ := hP
          obtain ⟨row, ra2, hri, rfl, hra2⟩ := (hF5.mono sm).item hi
          obtain ⟨rl2, rb2⟩ := Fb row (List.mem_of_getElem? hri)
          refine ⟨rfl, ?_⟩
          unfold tYes
          refine iteK rfl ?_
          refine ⟨_, rfl, _, rfl, _, rfl, ra2, lA, row, line, M, rfl, SqL.of hra2, sm.seq (SqL.of (s5 _ _ hlA)), by omega, by omega, rb2, lb, M0, Mb, fun q2 H9 ys t9 nq2 hq2 cl cl2 cb => ?_⟩
          have h9 := t9 _ _ hD
          have qne : q2 ≠ G := fun z => by rw [z, hD] at nq2; cases nq2
          have wl := hW.len
          have yl := ct.len
          have il := (List.getElem?_eq_some_iff.mp hi).1
          exact ⟨_, h9, by rw [wl, yl]; exact small1000 (by omega), same_mut (sm.trans t9) nG, ws ++ [.ref q2], Y ++ [ys], upd_same, (LsL.snoc (hW.mono t9) hq2).upd (off.snoc qne), off.snoc qne, fun b hb => (List.mem_append.mp hb).elim (fun c => frs b c) (fun c => by rw [List.mem_singleton] at c; cases c; exact sm.free nq2), ct.snoc hri cl cl2 cb⟩
        obtain ⟨s6, ws6, Y6, hG6, hW6, off6, new6, ct6⟩ := hP
        rw [fl2] at ct6
        have cf := ct6.fin
        refine ⟨_, rfl, by show 1 ≤ sizeLine; decide, fun l1 nl1 => ?_⟩
        have s7 := sm_new (o := .lst [V.ref lA]) nl1
        have w6 := hW6.len
        have y6l := ct6.len
        refine ⟨_, _, _, _, rfl, rfl, s7 _ _ hG6, upd_same, by rw [w6, y6l]; exact small1000 (by omega), fun X nX => ?_⟩
        have s8 := sm_new (o := .lst (ws6 ++ [V.ref lA])) nX
        have s78 := s7.trans s8
        have sAll := s3.trans ((s45.trans s6).trans s78)
        have pl1 : line.length + 1 = 2 * S.length - k := by omega
        have X_E : X ≠ E := fun z => by rw [z, (s6.trans s7) _ _ hE5] at nX; cases nX
        have lA_E : lA ≠ E := fun z => by rw [z] at hlA; rw [hlA] at nE; cases nE
        refine ⟨E, X, ws5, ws6 ++ [.ref lA], Y5, Y6 ++ [line], _, _, _, rfl, sAll, (s6.trans s78) _ _ hE5, hW5.mono (s6.trans s78), off5, upd_same, (hW6.mono s78).snoc ((s5.trans (s6.trans s78)) _ _ hlA), (?_), X_E, (s3.trans s4).free nE, (s3.trans ((s45.trans s6).trans s7)).free nX, by rw [ct5.len]; omega, by rw [List.length_append, y6l, Fl]; rfl, fun r hr2 => ?_, fun r hr2 => ?_, I1.step Fl (pop_iff hat) (Lin.down pM) (cf.down pM) (cr.down pM), I2.step Fl (pop_iff hat) Lin cf cr⟩
        · intro b hb z
          rcases List.mem_append.mp hb with c | c
          · have := new6 b c
            rw [z, hE5] at this
            cases this
          · rw [List.mem_singleton] at c
            cases c
            exact lA_E z
        · obtain ⟨i, hi, ei⟩ := List.mem_iff_getElem.mp hr2
          have h1 := List.getElem?_eq_getElem (show i < (R.eraseIdx at_).length by have := ct5.len; omega)
          obtain ⟨_, k2⟩ := ct5.at_ i _ r h1 (by rw [← ei]; exact List.getElem?_eq_getElem hi)
          exact ⟨by omega, ct5.b r hr2⟩
        · rcases List.mem_append.mp hr2 with c | c
          · obtain ⟨i, hi, ei⟩ := List.mem_iff_getElem.mp c
            have h1 := List.getElem?_eq_getElem (show i < Fd.length by omega)
            obtain ⟨_, k2⟩ := ct6.at_ i _ r h1 (by rw [← ei]; exact List.getElem?_eq_getElem hi)
            exact ⟨by omega, ct6.b r c⟩
          · rw [List.mem_singleton.mp c]
            exact ⟨by omega, lb⟩
      · obtain ⟨rA, fA, rs, fs, R, Fd, y6, y7, y8, rfl, sm, hr, hR, offR, hf, hF, offF, fr, nrA, nfA, Rl, Fl, Rb, Fb, I1, I2⟩ := hI
        have Fl2 : Fd.length = S.length := by omega
        have R0 : R = [] := List.eq_nil_of_length_eq_zero (by omega)
        subst R0
        rw [show (S.length : Int).toNat = S.length by omega] at I2
        refine ⟨_, rfl, q fA H' fs Fd sm nfA hf hF Fl2 (fun f hf2 => ?_) fun y i s hs => I2.done A (Int.dvd_refl M) Fl2 y hs⟩
        obtain ⟨k1, k2⟩ := Fb f hf2
        exact ⟨by omega, k2⟩

theorem ok_inner (T : Tx K mg) : OkF P w K mg base 1 (He.fAd K ("inner", none)) ["first", "second"] (spInn K) := by
  refine okF_of (d := d_inner) T.d_inner rfl sc_inner (fun _ _ _ _ _ _ us hl => match us, hl with | [_, _], _ => rfl) (fun vs H Q E h => ?_) (fun cdv A outer s H vs Q E hr h => ?_)
  · (obtain ⟨_, _, _, _, _, _, rfl, _⟩ := h; rfl)
  · obtain ⟨a, b, xs, ys, i, j, rfl, hA, hB, hl, h1, bx, by_, hk, q⟩ := h
    refine ⟨_, (pss_one (ps_ret (pe_callB (cr_sum rfl) (by rfl) T.z_sum (by decide +kernel) (pa_cons (pe_lc (own := [("x", 2), ("y", 3)]) (g := gTup K 2 (gCons (gName 2) (gCons (gName 3) gNil))) rfl sc_inner.nd (pi_zip (by rfl) T.z_zip (pa_cons (pv 0) (pa_cons (pv 1) pa_nil))) (blkOk_by (own := [("x", 2), ("y", 3)]) (N := N_inner) (sc := defScope s_inner) (by decide +kernel)) (fun _ _ _ _ _ => (pg_tup rfl (pgs_cons (pg_name (i := 2) sc_inner.nd rfl (Or.inl rfl)) (pgs_cons (pg_name (i := 3) sc_inner.nd rfl (Or.inl rfl)) pgs_nil)))) (fun _ _ _ _ _ => pts_nil) (fun _ _ _ _ _ => (pe_op op_mulW (pv 2) (pv 3)))) pa_nil)))), ?_⟩
    refine ⟨_, rfl, _, rfl, a, b, xs.map V.int, ys.map V.int, rfl, hA, hB, fun D nD => lc_zip (K := K) (xs := xs.map V.int) (ys := ys.map V.int) (by rw [len_map, len_map]; exact hl) (fun i H' => Same H H' ∧ H' D = some (.lst (((List.zipWith (· * ·) xs ys).take i).map V.int))) ⟨sm_new nD, upd_same⟩ (fun i H' hP => ?_) (fun i x y T H' hx hy hP nT => ?_) (fun H' hP => ?_)⟩
    · exact ⟨hP.1.seq hA, hP.1.seq hB⟩
    · obtain ⟨sm, hD⟩ := hP
      obtain ⟨x, hx1, rfl⟩ := get_map_int hx
      obtain ⟨y, hy1, rfl⟩ := get_map_int hy
      have il := (List.getElem?_eq_some_iff.mp hx1).1
      have sT := sm_new (o := .tup [V.int x, V.int y]) nT
      have hDT := sT _ _ hD
      refine ⟨T, _, rfl, SqT.of upd_same, rfl, _, _, rfl, _, _, rfl, rfl, rfl, ?_⟩
      unfold tYes
      refine iteK rfl ?_
      refine ⟨_, rfl, _, rfl, _, _, rfl, rfl, mulW (bx x (List.mem_of_getElem? hx1)) (by_ y (List.mem_of_getElem? hy1)) (by omega), _, hDT, ?_, same_mut (sm.trans sT) nD, ?_⟩
      · rw [len_map, List.length_take, List.length_zipWith]; exact small1000 (by omega)
      · rw [upd_same, List.take_succ, List.getElem?_zipWith, hx1, hy1, List.map_append]; rfl
    · obtain ⟨sm, hD⟩ := hP
      rw [List.take_of_length_le (by rw [List.length_zipWith, len_map]; omega)] at hD
      refine ⟨D, _, rfl, SqL.of hD, ?_⟩
      rw [zip_sum]
      exact q H' sm

theorem ok__nearest_zero (T : Tx K mg) : OkF P w K mg base 1 (He.fAd K ("_nearest_zero", none)) ["number", "modulus"] (spNear K) := by
  refine okF_of (d := d__nearest_zero) T.d__nearest_zero rfl sc__nearest_zero (fun _ _ _ _ _ _ us hl => match us, hl with | [_, _], _ => rfl) (fun vs H Q E h => ?_) (fun cdv A outer s H vs Q E hr h => ?_)
  · (obtain ⟨_, _, _, rfl, _⟩ := h; rfl)
  · obtain ⟨n, m, _, rfl, m0, mb, q⟩ := h
    refine ⟨_, (pss_cons (ps_setI (i := 2) sc__nearest_zero.nd rfl (Or.inl rfl) (pe_op op_mod (pv 0) (pv 1)))
      (pss_one (ps_ret (pe_ifExp (pt_cmpR op_gt (pe_op op_mulW pe_int (pv 2)) (pv 1) (nomark _)) (pe_op op_sub (pv 2) (pv 1)) (pv 2))))), ?_⟩
    have r0 := Int.emod_nonneg n (show m ≠ 0 by omega)
    have rl := Int.emod_lt_of_pos n m0
    have ed := Int.mul_ediv_add_emod n m
    refine ⟨_, rfl, _, rfl, _, _, rfl, rfl, m0, _, rfl, fun r er => ?_⟩
    subst er
    obtain ⟨r, hr⟩ : ∃ r, n % m = r := ⟨_, rfl⟩
    rw [hr] at r0 rl ed
    have rb : r.natAbs < 2 ^ 5000 := by omega
    have ex : m ∣ r - n := ⟨-(n / m), by grind⟩
    have ex2 : m ∣ r - m - n := ⟨-(n / m) - 1, by grind⟩
    rw [hr]
    refine ⟨_, rfl, _, _, rfl, rfl, mulW (show (2 : Int).natAbs < 2 ^ 5000 from ?_) rb (by decide), _, rfl, _, _, rfl, rfl, _, rfl, iteD (fun c => ?_) (fun c => ?_)⟩
    · exact Nat.lt_of_lt_of_le (show 2 < 2 ^ 2 by decide) (Nat.pow_le_pow_right (by decide) (by decide))
    · refine ⟨_, rfl, _, rfl, _, _, rfl, rfl, q _ ex2 (by omega)⟩
    · exact ⟨_, rfl, q _ ex (by omega)⟩

theorem ok__first_steps (T : Tx K mg) : OkF P w K mg base 1 (He.fAd K ("_first_steps", none)) ["high", "low", "bound"] (spFst K) := by
  refine okF_of (d := d__first_steps) T.d__first_steps rfl sc__first_steps (fun _ _ _ _ _ _ us hl => match us, hl with | [_, _, _], _ => rfl) (fun vs H Q E h => ?_) (fun cdv A outer s H vs Q E hr h => ?_)
  · (obtain ⟨_, _, _, _, rfl, _⟩ := h; rfl)
  · obtain ⟨h, l, b, _, rfl, h0, hb, l0, lb, q⟩ := h
    refine ⟨_, (pss_cons (ps_setI (i := 3) sc__first_steps.nd rfl (Or.inl rfl) (pe_op op_sub (pe_bits (pv 0)) (pe_op op_mulW pe_int (pe_globI rfl T.g_CHUNK))))
      (pss_cons (ps_if (PW.pt (pw_or (pt_cmpR op_le (pv 3) pe_int (nomark _)) (pw_or1 (pt_cmpR op_le (pe_op op_sub (pe_bits (pv 1)) (pe_bits (pv 2))) (pe_globI rfl T.g_CHUNK) (nomark _))))) (pss_one (ps_ret (pe_tup (pa_cons (pe_tup (pa_cons pe_int (pa_cons pe_int pa_nil))) (pa_cons (pe_tup (pa_cons pe_int (pa_cons (pe_op op_fdivW (pv 0) (pv 1)) pa_nil))) pa_nil))))) pss_nil)
      pss_dead)), ?_⟩
    have bl : Builtin.Int.intBits h ≤ 1000 := bits_le (show h.natAbs < 2 ^ 1000 by omega)
    refine ⟨_, rfl, _, rfl, _, _, rfl, rfl, mulW (show (2 : Int).natAbs < 2 ^ 10 by decide) (show (500 : Int).natAbs < 2 ^ 10 by decide) (by decide), _, _, rfl, rfl, _, rfl, fun pl epl => ?_⟩
    have p0 : pl ≤ 0 := by rw [epl]; omega
    refine ⟨_, rfl, _, _, rfl, rfl, _, rfl, iteK (decide_eq_true p0) ?_⟩
    refine ⟨by show 2 ≤ sizeLine; decide, fun pa npa => ?_⟩
    have s1 := sm_new (o := .tup [V.int 0, V.int 1]) npa
    refine ⟨_, rfl, _, rfl, _, _, rfl, rfl, divW (b := 1000) l0 (show l.natAbs < 2 ^ 1000 by omega) (by decide), by show 2 ≤ sizeLine; decide, fun pc npc => ?_⟩
    have s2 := sm_new (o := .tup [V.int 1, V.int (h / l)]) npc
    refine ⟨by show 2 ≤ sizeLine; decide, fun p np => ?_⟩
    have s3 := sm_new (o := .tup [V.ref pa, V.ref pc]) np
    exact q p pa pc _ ((s1.trans s2).trans s3) upd_same ((s2.trans s3) _ _ upd_same) (s3 _ _ upd_same)

theorem ok__denominator (T : Tx K mg) (O__first_steps : OkF P w K mg base 1 (He.fAd K ("_first_steps", none)) ["high", "low", "bound"] (spFst K)) : OkF P w K mg base 2 (He.fAd K ("_denominator", none)) ["residue", "modulus", "bound"] (spDeno K) := by
  obtain ⟨_, G__first_steps, b__first_steps, k__first_steps⟩ := O__first_steps
  refine okF_of (d := d__denominator) T.d__denominator rfl sc__denominator (fun _ _ _ _ _ _ us hl => match us, hl with | [_, _, _], _ => rfl) (fun vs H Q E h => ?_) (fun cdv A outer s H vs Q E hr h => ?_)
  · (obtain ⟨_, _, _, _, rfl, _⟩ := h; rfl)
  · obtain ⟨R, M, B, _, rfl, M0, Mb, B0, BM, MB, q⟩ := h
    refine ⟨_, (pss_cons (ps_par (i := 3) (j := 4) (by rfl) sc__denominator.nd rfl rfl (by decide) rfl rfl (pa_cons (pv 1) (pa_cons (pe_op op_mod (pv 0) (pv 1)) pa_nil)) (by rfl))
      (pss_cons (ps_asg (pe_tup (pa_cons pe_int (pa_cons pe_int pa_nil))) (pg_tup rfl (pgs_cons (pg_name (i := 5) sc__denominator.nd rfl (Or.inl rfl)) (pgs_cons (pg_name (i := 6) sc__denominator.nd rfl (Or.inl rfl)) pgs_nil))))
      (pss_cons (ps_while PassesOwn.leaving (pt_cmpR op_gt (pv 4) (pv 2) (nomark _)) (pss_cons (ps_asg (pe_call G__first_steps (hr.mono (by decide)) (by rfl) T.g__first_steps k__first_steps b__first_steps .nil passL (pa_cons (pv 3) (pa_cons (pv 4) (pa_cons (pv 2) pa_nil)))) (pg_tup rfl (pgs_cons (pg_name (i := 7) sc__denominator.nd rfl (Or.inl rfl)) (pgs_cons (pg_name (i := 8) sc__denominator.nd rfl (Or.inl rfl)) pgs_nil))))
      (pss_cons (ps_par (i := 3) (j := 4) (by rfl) sc__denominator.nd rfl rfl (by decide) rfl rfl (pa_cons (pe_callB call_abs (by rfl) T.z_abs (by decide +kernel) (pa_cons (pe_op op_sub (pe_op op_mulW (pe_ix ix_tup (pv 7) pe_int (fun _ _ => rfl)) (pv 3)) (pe_op op_mulW (pe_ix ix_tup (pv 7) pe_int (fun _ _ => rfl)) (pv 4))) pa_nil)) (pa_cons (pe_callB call_abs (by rfl) T.z_abs (by decide +kernel) (pa_cons (pe_op op_sub (pe_op op_mulW (pe_ix ix_tup (pv 8) pe_int (fun _ _ => rfl)) (pv 3)) (pe_op op_mulW (pe_ix ix_tup (pv 8) pe_int (fun _ _ => rfl)) (pv 4))) pa_nil)) pa_nil)) (by rfl))
      (pss_one (ps_par (i := 5) (j := 6) (by rfl) sc__denominator.nd rfl rfl (by decide) rfl rfl (pa_cons (pe_op op_add (pe_op op_mulW (pe_ix ix_tup (pv 7) pe_int (fun _ _ => rfl)) (pv 5)) (pe_op op_mulW (pe_ix ix_tup (pv 7) pe_int (fun _ _ => rfl)) (pv 6))) (pa_cons (pe_op op_add (pe_op op_mulW (pe_ix ix_tup (pv 8) pe_int (fun _ _ => rfl)) (pv 5)) (pe_op op_mulW (pe_ix ix_tup (pv 8) pe_int (fun _ _ => rfl)) (pv 6))) pa_nil)) (by rfl))))))
      (pss_one (ps_ret (pv 6)))))), ?_⟩
    have r0 := Int.emod_nonneg R (show M ≠ 0 by omega)
    have rl := Int.emod_lt_of_pos R M0
    have ed := Int.mul_ediv_add_emod R M
    refine ⟨_, rfl, _, rfl, _, rfl, _, _, rfl, rfl, M0, _, _, rfl, ?_⟩
    obtain ⟨r, hr⟩ : ∃ r, R % M = r := ⟨_, rfl⟩
    rw [hr] at r0 rl ed
    refine ⟨by show 2 ≤ sizeLine; decide, fun pt npt => ?_⟩
    have s0 := sm_new (o := .tup [V.int 0, V.int 1]) npt
    refine ⟨pt, _, rfl, SqT.of upd_same, rfl, _, _, rfl, _, _, rfl, rfl, ?_⟩
    refine ⟨fun m σ' H' => Same H H' ∧ ∃ (hi lo be fa : Int) (y7 y8 : Option V), σ' = [some (.int R), some (.int M), some (.int B), some (.int hi), some (.int lo), some (.int be), some (.int fa), y7, y8] ∧ m = lo.toNat ∧ hi ≤ M ∧ HeS M r B hi lo be fa, ⟨_, s0, M, r, 0, 1, none, none, by rw [← hr]; rfl, rfl, Int.le_refl _, HeS.start r0 rl BM⟩, ?_⟩
    rintro m _ H1 ⟨sm, hi, lo, be, fa, y7, y8, rfl, rfl, hiM, S⟩
    have S1 := S.lh
    have S2 := S.l0
    have S3 := S.f1
    have S4 := S.b0
    have S5 := S.bd B0 MB
    have S6 := S.hB
    refine ⟨_, rfl, _, rfl, _, _, rfl, rfl, _, rfl, iteD (fun c => ?_) (fun c => ?_)⟩
    · have be_le : be ≤ M := by
        have mm := S.mm
        have h1 : 1 * be ≤ lo * be := Int.mul_le_mul_of_nonneg_right (by omega) S4
        have h2 : 0 ≤ hi * fa := Int.mul_nonneg (by omega) (by omega)
        omega
      refine ⟨fun σ2 H2 => ∃ m', m' < lo.toNat ∧ Same H H2 ∧ ∃ (hi lo be fa : Int) (y7 y8 : Option V), σ2 = [some (.int R), some (.int M), some (.int B), some (.int hi), some (.int lo), some (.int be), some (.int fa), y7, y8] ∧ m' = lo.toNat ∧ hi ≤ M ∧ HeS M r B hi lo be fa, fun _ _ h => h, ?_⟩
      refine ⟨_, rfl, _, rfl, _, rfl, hi, lo, B, (), rfl, by omega, by omega, by omega, by omega, fun p a d H2 s2 hp ha hd => ?_⟩
      refine ⟨p, _, rfl, SqT.of hp, rfl, _, _, rfl, _, _, rfl, rfl, ?_⟩
      have q0 : 0 ≤ hi / lo := Int.ediv_nonneg (by omega) (by omega)
      have qM : hi / lo ≤ hi := Int.ediv_le_self _ (by omega)
      have b1 : (1 : Int).natAbs < 2 ^ 1000 := Nat.lt_of_lt_of_le (show 1 < 2 ^ 1 by decide) (Nat.pow_le_pow_right (by decide) (by decide))
      have b0 : (0 : Int).natAbs < 2 ^ 1000 := Nat.pow_pos (by decide)
      have bh : hi.natAbs < 2 ^ 1000 := by omega
      have bl : lo.natAbs < 2 ^ 1000 := by omega
      have bq : (hi / lo).natAbs < 2 ^ 1000 := by omega
      have bb : be.natAbs < 2 ^ 1000 := by omega
      have bf : fa.natAbs < 2 ^ 1000 := by omega
      have k2 : 1000 + 1000 + 2 ≤ 1000000 := by decide
      refine ⟨_, rfl, _, _, _, _, rfl, rfl, SqT.of ha, atI_nat (j := 0) rfl, _, rfl, _, _, rfl, rfl, mulW b0 bh k2, _, rfl, _, _, _, _, rfl, rfl, SqT.of ha, atI_nat (j := 1) rfl, _, rfl, _, _, rfl, rfl, mulW b1 bl k2, _, _, rfl, rfl, _, rfl, _, rfl, _, _, _, _, rfl, rfl, SqT.of hd, atI_nat (j := 0) rfl, _, rfl, _, _, rfl, rfl, mulW b1 bh k2, _, rfl, _, _, _, _, rfl, rfl, SqT.of hd, atI_nat (j := 1) rfl, _, rfl, _, _, rfl, rfl, mulW bq bl k2, _, _, rfl, rfl, _, rfl, _, _, rfl, ?_⟩
      refine ⟨_, rfl, _, _, _, _, rfl, rfl, SqT.of ha, atI_nat (j := 0) rfl, _, rfl, _, _, rfl, rfl, mulW b0 bb k2, _, rfl, _, _, _, _, rfl, rfl, SqT.of ha, atI_nat (j := 1) rfl, _, rfl, _, _, rfl, rfl, mulW b1 bf k2, _, _, rfl, rfl, _, rfl, _, _, _, _, rfl, rfl, SqT.of hd, atI_nat (j := 0) rfl, _, rfl, _, _, rfl, rfl, mulW b1 bb k2, _, rfl, _, _, _, _, rfl, rfl, SqT.of hd, atI_nat (j := 1) rfl, _, rfl, _, _, rfl, rfl, mulW bq bf k2, _, _, rfl, rfl, _, _, rfl, ?_⟩
      have st := S.step B0 c
      have st1 := st.l0
      have e1 : (if 0 * hi - 1 * lo < 0 then -(0 * hi - 1 * lo) else 0 * hi - 1 * lo) = lo := by
        rw [Int.zero_mul, Int.one_mul]; split <;> omega
      have e2 : (if 1 * hi - hi / lo * lo < 0 then -(1 * hi - hi / lo * lo) else 1 * hi - hi / lo * lo) = hi - hi / lo * lo := by
        rw [Int.one_mul]; split <;> omega
      have e3 : 0 * be + 1 * fa = fa := by omega
      have e4 : 1 * be + hi / lo * fa = be + hi / lo * fa := by rw [Int.one_mul]
      have lt := st.lh
      exact ⟨(hi - hi / lo * lo).toNat, by omega, sm.trans s2, lo, hi - hi / lo * lo, fa, be + hi / lo * fa, _, _, by rw [e1, e2]; exact Eq.trans (b := [some (V.int R), some (V.int M), some (V.int B), some (V.int lo), some (V.int (hi - hi / lo * lo)), some (V.int (0 * be + 1 * fa)), some (V.int (1 * be + hi / lo * fa)), some (V.ref a), some (V.ref d)]) rfl (by rw [e3, e4]), rfl, by omega, st⟩
    · obtain ⟨bs, bu, bv, bl, bb⟩ := S.bez
      refine ⟨_, rfl, q fa H1 sm S3 S5 ⟨bs + fa * (R / M), bu - bv * (R / M), bv, ?_, by rw [← bb]; grind⟩ fun a b b1 cop ab small => ?_⟩
      · have e : fa * R - (bs + fa * (R / M)) * M = fa * r - bs * M := by
          have : r = R - M * (R / M) := by omega
          rw [this]; grind
        rw [e]
        rcases bl with k | k <;> omega
      refine S.fin B0 MB (by omega) b1 cop ?_ small
      obtain ⟨w, hw⟩ := ab
      exact ⟨w - b * (R / M), by rw [← ed] at hw; grind⟩

theorem ok_common_fractions (T : Tx K mg) (O__nearest_zero : OkF P w K mg base 1 (He.fAd K ("_nearest_zero", none)) ["number", "modulus"] (spNear K)) (O__denominator : OkF P w K mg base 2 (He.fAd K ("_denominator", none)) ["residue", "modulus", "bound"] (spDeno K)) : OkF P w K mg base 3 (He.fAd K ("common_fractions", none)) ["residues", "modulus", "den"] (spComF K) := by
  obtain ⟨_, G__nearest_zero, b__nearest_zero, k__nearest_zero⟩ := O__nearest_zero
  obtain ⟨_, G__denominator, b__denominator, k__denominator⟩ := O__denominator
  refine okF_of (d := d_common_fractions) T.d_common_fractions rfl sc_common_fractions (fun _ _ _ _ _ _ us hl => match us, hl with | [_, _, _], _ => rfl) (fun vs H Q E h => ?_) (fun cdv A outer s H vs Q E hr h => ?_)
  · (obtain ⟨_, _, _, _, _, rfl, _⟩ := h; rfl)
  · obtain ⟨a, xs, M, d0, _, rfl, hA, xl, bx, M2, Mb, d1, db, qN, q⟩ := h
    refine ⟨_, (pss_cons (ps_setI (i := 3) sc_common_fractions.nd rfl (Or.inl rfl) (pe_op op_shr (pv 1) (pe_op op_fdiv (pe_bits (pv 1)) pe_int)))
      (pss_cons (ps_setI (i := 4) sc_common_fractions.nd rfl (Or.inl rfl) (pe_callBfun cr_isqrt rfl T.g_isqrt (pa_cons (pv 1) pa_nil)))
      (pss_cons (ps_set (i := 5) sc_common_fractions.nd rfl (Or.inl rfl) (pe_lst pa_nil))
      (pss_cons (ps_for PassesOwn.leaving rfl (pi_list (pv 0)) (pg_name (i := 6) sc_common_fractions.nd rfl (Or.inl rfl)) (pss_cons (ps_setI (i := 7) sc_common_fractions.nd rfl (Or.inl rfl) (pe_call G__nearest_zero (hr.mono (by decide)) (by rfl) T.g__nearest_zero k__nearest_zero b__nearest_zero .nil passL (pa_cons (pe_op op_mulW (pv 6) (pv 2)) (pa_cons (pv 1) pa_nil))))
      (Evl.pss_cut (ps_if (pt_cmpR op_gt (pe_callB call_abs (by rfl) T.z_abs (by decide +kernel) (pa_cons (pv 7) pa_nil)) (pv 3) (nomark _)) (pss_cons (ps_if (pt_cmpR op_gt (pv 2) (pv 4) (nomark _)) (pss_one (ps_ret pe_non)) pss_nil)
      (pss_cons (ps_setI (i := 2) sc_common_fractions.nd rfl (Or.inr rfl) (pe_op op_mulW (pv 2) (pe_call G__denominator (hr.mono (by decide)) (by rfl) T.g__denominator k__denominator b__denominator .nil passL (pa_cons (pv 7) (pa_cons (pv 1) (pa_cons (pv 4) pa_nil))))))
      (pss_one (ps_setI (i := 7) sc_common_fractions.nd rfl (Or.inl rfl) (pe_call G__nearest_zero (hr.mono (by decide)) (by rfl) T.g__nearest_zero k__nearest_zero b__nearest_zero .nil passL (pa_cons (pe_op op_mulW (pv 6) (pv 2)) (pa_cons (pv 1) pa_nil))))))) pss_nil)
      (pss_one (ps_expr (pe_bm PySem.F.plainAttrs_list PySem.F.slot_list_append PySem.F.type_list_append mt_append (pv 5) (pa_cons (pe_tup (pa_cons (pv 7) (pa_cons (pv 2) pa_nil))) pa_nil)))))))
      (pss_one (ps_ret (pe_tup (pa_cons (pe_lc (own := [("number", 7), ("known", 8)]) (g := gTup K 2 (gCons (gName 7) (gCons (gName 8) gNil))) rfl sc_common_fractions.nd (pi_list (pv 5)) (blkOk_by (own := [("number", 7), ("known", 8)]) (N := N_common_fractions) (sc := defScope s_common_fractions) (by decide +kernel)) (fun _ _ _ _ _ => (pg_tup rfl (pgs_cons (pg_name (i := 7) sc_common_fractions.nd rfl (Or.inl rfl)) (pgs_cons (pg_name (i := 8) sc_common_fractions.nd rfl (Or.inl rfl)) pgs_nil)))) (fun _ _ _ _ _ => pts_nil) (fun _ _ _ _ _ => (pe_op op_mulW (pv 7) (pe_op op_fdivW (pv 2) (pv 8))))) (pa_cons (pv 2) pa_nil))))))))), ?_⟩
    obtain ⟨m, rfl⟩ : ∃ m : Nat, M = (m : Int) := ⟨M.toNat, by omega⟩
    have Mn : (m : Int).natAbs < 2 ^ 1000 := by omega
    have M5 : (m : Int).natAbs < 2 ^ 5000 := Nat.lt_of_lt_of_le Mn (Nat.pow_le_pow_right (by decide) (by decide))
    refine ⟨_, rfl, _, rfl, _, rfl, _, _, rfl, rfl, ⟨by decide, by decide⟩, _, _, rfl, rfl, (by omega), _, rfl, fun lim elim => ?_⟩
    have elim2 : lim = (m : Int) / 2 ^ (Builtin.Int.intBits (m : Int) / 4) := by
      rw [elim]
      congr 2
    have lim0 : 0 ≤ lim := by rw [elim2]; exact Int.ediv_nonneg (by omega) (Int.le_of_lt (Int.pow_pos (by decide)))
    clear elim
    refine ⟨_, rfl, m, rfl, Nat.lt_of_lt_of_le (show m < 2 ^ 1000 by omega) (Nat.pow_le_pow_right (by decide) (by decide)), fun b h1 h2 => ?_⟩
    have i1 : (b : Int) * (b : Int) ≤ (m : Int) := by exact_mod_cast h1
    have i2 : (m : Int) < ((b : Int) + 1) * ((b : Int) + 1) := by exact_mod_cast h2
    have bm : (b : Int) < (m : Int) := by
      rcases Nat.lt_or_ge b m with c | c
      · exact_mod_cast c
      · exfalso
        have : m * m ≤ b * b := Nat.mul_le_mul c c
        have : 2 * m ≤ m * m := Nat.mul_le_mul_right _ (by omega)
        omega
    have bb : b < 2 ^ 500 := by
      refine Decidable.byContradiction fun w => ?_
      have : 2 ^ 500 * 2 ^ 500 ≤ b * b := Nat.mul_le_mul (by omega) (by omega)
      rw [← Nat.pow_add] at this
      have : m < 2 ^ 1000 := by omega
      omega
    refine ⟨_, rfl, fun bo ebo => ?_⟩
    subst ebo
    refine ⟨by show 0 ≤ sizeLine; decide, fun D nD => ?_⟩
    have s0 := sm_new (o := .lst []) nD
    have hA0 := s0.seq hA
    refine ⟨_, rfl, _, rfl, ⟨_, hA0⟩, for_list (K := K) (a := a) (xs := xs.map V.int) (fun i σ' H' => ∃ (den : Int) (y6 y7 y8 : Option V) (ws : List V) (ps : List (Int × Int)), σ' = [some (.ref a), some (.int (m : Int)), some (.int den), some (.int lim), some (.int (b : Int)), some (.ref D), y6, y7, y8] ∧ Same H H' ∧ H' D = some (.lst ws) ∧ PrL H' ws ps ∧ ps.length = i ∧ 1 ≤ den ∧ den < 2 ^ 1000 ∧ (∀ q ∈ ps, 1 ≤ q.2 ∧ q.1.natAbs < 2 ^ 1000 ∧ q.2 ∣ den) ∧ (∀ A C N D', RecM A C (m : Int) xs N D' → d0 ∣ D' → den ∣ D' ∧ ∀ (j : Nat) (q : Int × Int), ps[j]? = some q → RecP N D' j q.1 q.2) ∧ (∀ (N : Nat → Int) (D' : Int), 16 ≤ (m : Int) → 1 ≤ D' → (∀ c w : Int, c ∣ D' → (m : Int) ∣ c * w → (m : Int) ∣ w) → (∀ i, i < xs.length → (m : Int) ∣ D' * xs.getD i 0 - N i) → d0 ∣ D' → (∀ (j : Nat) (q : Int × Int), ps[j]? = some q → q.1 * D' = N j * q.2) → den ∣ D')) ⟨d0, none, none, none, [], [], rfl, s0, upd_same, .nil, rfl, d1, db, fun q hq => absurd hq (by simp), fun A C N D' R dd => ⟨dd, fun j q hq => by simp at hq⟩, fun N D' _ _ _ _ dd _ => dd⟩ (fun i σ' H' hi hI => ?_) (fun i y σ' H' hi hI => ?_) (fun σ' H' hI => ?_)⟩
    · obtain ⟨den, y6, y7, y8, ws, ps, rfl, sm, _⟩ := hI
      exact sm.seq hA
    · obtain ⟨den, y6, y7, y8, ws, ps, rfl, sm, hD, pl, pn, e1, e2, eq, good, exact_⟩ := hI
      obtain ⟨x, hx, rfl⟩ := get_map_int hi
      have il := (List.getElem?_eq_some_iff.mp hx).1
      have xb := bx.all x (List.mem_of_getElem? hx)
      have xd : xs.getD i 0 = x := by rw [List.getD_eq_getElem?_getD, hx]; rfl
      have dn : den.natAbs < 2 ^ 1000 := by omega
      refine ⟨_, rfl, _, rfl, _, _, rfl, rfl, mulW xb dn (by decide), _, rfl, x * den, (m : Int), (), rfl, by omega, M5, fun nu0 g1 g2 => ?_⟩
      refine ⟨_, rfl, fun nu enu => ?_⟩
      subst enu
      have nub : nu.natAbs < 2 ^ 1000 := by omega
      refine ⟨fun σ2 H2 => ∃ (den' nu' : Int), σ2 = [some (.ref a), some (.int (m : Int)), some (.int den'), some (.int lim), some (.int (b : Int)), some (.ref D), some (.int x), some (.int nu'), y8] ∧ Same H' H2 ∧ den ∣ den' ∧ 1 ≤ den' ∧ den' < 2 ^ 1000 ∧ nu'.natAbs < 2 ^ 1000 ∧ (∀ A C N D', RecM A C (m : Int) xs N D' → den ∣ D' → den' ∣ D' ∧ RecP N D' i nu' den') ∧ (∀ (N : Nat → Int) (D' : Int), 16 ≤ (m : Int) → 1 ≤ D' → (∀ c w : Int, c ∣ D' → (m : Int) ∣ c * w → (m : Int) ∣ w) → ((m : Int) ∣ D' * x - N i) → den ∣ D' → nu' * D' = N i * den' → den' ∣ D'), ?_, ?_⟩
      · refine ⟨_, rfl, _, rfl, _, rfl, _, _, rfl, rfl, _, rfl, iteD (fun c => ?_) (fun c => ?_)⟩
        · refine ⟨_, rfl, _, rfl, _, _, rfl, rfl, _, rfl, iteD (fun c2 => ?_) (fun c2 => ?_)⟩
          · refine qN (fun A C N D' R dd => ?_) _ sm
            have R2 := R b (by omega) i1 i2
            have k1 := natAbs_le_of_dvd (good A C N D' R dd).1 (by have := R2.D1; omega)
            have k2 := R2.szD
            have k3 := R2.B1
            omega
          · refine ⟨_, rfl, _, rfl, _, rfl, _, rfl, nu, (m : Int), (b : Int), (), rfl, by omega, Mb, by omega, bm, i2, fun f H3 s3 f1 fB fbz fd => ?_⟩
            have dB : den.natAbs < 2 ^ 500 := by omega
            have fb : f.natAbs < 2 ^ 500 := by omega
            refine ⟨_, _, rfl, rfl, mulW dB fb (by decide), _, rfl, fun d2 ed2 => ?_⟩
            subst ed2
            have d2b : (den * f).natAbs < 2 ^ 1000 := abs_lt_mul dB fb
            have d21 : 1 * 1 ≤ den * f := Int.mul_le_mul e1 f1 (by decide) (by omega)
            refine ⟨_, rfl, _, rfl, _, _, rfl, rfl, mulW xb d2b (by decide), _, rfl, x * (den * f), (m : Int), (), rfl, by omega, M5, fun n20 g3 g4 => ?_⟩
            refine ⟨_, rfl, fun n2 en2 => ?_⟩
            subst en2
            refine ⟨den * f, n2, rfl, s3, ⟨f, rfl⟩, by omega, by omega, by omega, fun A C N D' R dd => ?_, fun N D' M16 D1 cop cong dd ver => ?_⟩
            rotate_left
            · obtain ⟨bs, bu, bv, bl, bb⟩ := fbz
              have small : 2 * (b : Int) < (m : Int) - 2 := by
                refine Int.not_le.mp fun k => ?_
                have h1 : ((m : Int) - 2) * ((m : Int) - 2) ≤ 2 * (b : Int) * (2 * (b : Int)) := Int.mul_le_mul k k (by omega) (by omega)
                have h2 : 2 * (b : Int) * (2 * (b : Int)) = 4 * ((b : Int) * (b : Int)) := by grind
                have h3 : ((m : Int) - 2) * ((m : Int) - 2) = (m : Int) * ((m : Int) - 4) + 4 := by grind
                have h4 : (m : Int) * 12 ≤ (m : Int) * ((m : Int) - 4) := Int.mul_le_mul_of_nonneg_left (by omega) (by omega)
                omega
              obtain ⟨w1, hw1⟩ := g1
              obtain ⟨w3, hw3⟩ := g3
              have en2 : n2 = f * nu - bs * (m : Int) := by
                have z := dvd_small (M := (m : Int)) (x := n2 - (f * nu - bs * (m : Int))) ⟨w3 - f * w1 + bs, by grind⟩ (by omega)
                omega
              exact exact_fac (x := x) (N := N i) (nu := nu) (n2 := n2) (s := bs) D1 cop (by omega) cong ⟨w1, hw1⟩ en2 bb ver f1 e1 dd (Int.dvd_refl _)
            have R2 := R b (by omega) i1 i2
            obtain ⟨a', b', b1, cop, k1, k2, k3, k4⟩ := R2.more il dd e1 (by rw [xd]; exact g1)
            obtain rfl := fd a' b' b1 cop k1 k2
            exact ⟨k3, k4 n2 (by rw [xd]; exact g3) g4⟩
        · refine ⟨den, nu, rfl, fun _ _ e => e, Int.dvd_refl _, e1, e2, nub, fun A C N D' R dd => ⟨dd, ?_⟩, fun _ _ _ _ _ _ dd _ => dd⟩
          have R2 := R b (by omega) i1 i2
          rw [← elim2] at R2
          exact R2.take il dd e1 (by rw [xd]; exact g1) (by split at c <;> omega)
      rintro _ H2 ⟨den', nu', rfl, s2, dd, f1, f2, nb, g, gx⟩
      refine ⟨_, rfl, .inl ⟨rfl, _, SqL.of (s2 _ _ hD)⟩, _, rfl, _, rfl, by show 2 ≤ sizeLine; decide, fun pt npt => ?_⟩
      have s3 := sm_new (o := .tup [V.int nu', V.int den']) npt
      have wl := pl.len
      refine ⟨_, _, _, rfl, rfl, s3 _ _ (s2 _ _ hD), by rw [wl]; exact small1000 (by omega), ?_⟩
      refine ⟨den', _, _, _, ws ++ [.ref pt], ps ++ [(nu', den')], rfl, same_mut ((sm.trans s2).trans s3) nD, upd_same, prL_push (x := (nu', den')) (pl.mono s2) (s2 _ _ hD) npt, by rw [List.length_append, pn]; rfl, f1, f2, fun q hq => ?_, fun A C N D' R dz => ?_, fun N D' M16 D1 cop cong dz ver => ?_⟩
      · rcases List.mem_append.mp hq with c | c
        · obtain ⟨k1, k2, k3⟩ := eq q c
          exact ⟨k1, k2, Int.dvd_trans k3 dd⟩
        · rw [List.mem_singleton.mp c]; exact ⟨f1, nb, Int.dvd_refl _⟩
      rotate_left
      · refine gx N D' M16 D1 cop (by rw [← xd]; exact cong i il) (exact_ N D' M16 D1 cop cong dz fun j q hq => ver j q (by rw [List.getElem?_append_left (List.getElem?_eq_some_iff.mp hq).1]; exact hq)) ?_
        have := ver i (nu', den') (by rw [List.getElem?_append_right (by omega), pn, Nat.sub_self]; rfl)
        exact this
      · obtain ⟨k1, k2⟩ := good A C N D' R dz
        obtain ⟨k3, k4⟩ := g A C N D' R k1
        refine ⟨k3, fun j q hq => ?_⟩
        by_cases c : j < ps.length
        · rw [List.getElem?_append_left c] at hq
          exact k2 j q hq
        · have jl := (List.getElem?_eq_some_iff.mp hq).1
          rw [List.length_append, List.length_singleton] at jl
          have ji : j = i := by omega
          subst ji
          rw [List.getElem?_append_right (by omega), pn, Nat.sub_self] at hq
          cases hq
          exact k4
    · obtain ⟨den, y6, y7, y8, ws, ps, rfl, sm, hD, pl, pn, e1, e2, eq, good, exact_⟩ := hI
      rw [len_map] at pn
      have wl := pl.len
      refine ⟨_, rfl, _, rfl, ⟨_, SqL.of hD⟩, fun E nE => lc_list (K := K) (a := D) (xs := ws) (fun i H2 => Same H' H2 ∧ H2 E = some (.lst (((ps.take i).map (fun q => q.1 * (den / q.2))).map V.int))) ⟨sm_new nE, upd_same⟩ (fun i H2 hi hP => hP.1.seq (SqL.of hD)) (fun i y H2 hi hP => ?_) (fun H2 hP => ?_)⟩
      · obtain ⟨s2, hE⟩ := hP
        obtain ⟨q1, c1, hq, rfl, hc⟩ := pl.item hi
        have il := (List.getElem?_eq_some_iff.mp hq).1
        obtain ⟨k1, k2, k3⟩ := eq q1 (List.mem_of_getElem? hq)
        refine ⟨c1, _, rfl, SqT.of (s2 _ _ hc), rfl, _, _, rfl, _, _, rfl, rfl, rfl, ?_⟩
        unfold tYes
        refine iteK rfl ?_
        have dn : den.natAbs < 2 ^ 1000 := by omega
        have k4 := natAbs_le_of_dvd k3 (show den ≠ 0 by omega)
        have qd : (den / q1.2).natAbs < 2 ^ 1000 := Nat.lt_of_le_of_lt (Int.natAbs_ediv_le_natAbs _ _) dn
        refine ⟨_, rfl, _, rfl, _, rfl, _, _, rfl, rfl, divW (b := 1000) (by omega) (show q1.2.natAbs < 2 ^ 1000 by omega) (by decide), _, _, rfl, rfl, mulW k2 qd (by decide), _, hE, by rw [len_map, List.length_map, List.length_take]; exact small1000 (by omega), same_mut s2 nE, ?_⟩
        rw [upd_same, List.take_succ, hq, List.map_append, List.map_append]
        rfl
      obtain ⟨s2, hE⟩ := hP
      rw [List.take_of_length_le (by omega)] at hE
      refine ⟨_, rfl, by show 2 ≤ sizeLine; decide, fun p np => ?_⟩
      have s3 := sm_new (o := .tup [V.ref E, V.int den]) np
      refine q p E _ den _ ((sm.trans s2).trans s3) upd_same (s3 _ _ hE) (sm_off sm nE) (by rw [List.length_map]; exact pn) e1 e2 (bits_of_at fun i => ?_) (fun A C N D' R dd => ?_) (fun N D' M16 D1 cop cong dd ver => ?_)
      · rw [getD_mapP]
        by_cases c : i < ps.length
        · have hq := List.getElem?_eq_getElem c
          obtain ⟨k1, k2, k3⟩ := eq _ (List.mem_of_getElem? hq)
          have dn : den.natAbs < 2 ^ 1000 := by omega
          have qd : (den / (ps[i]).2).natAbs < 2 ^ 1000 := Nat.lt_of_le_of_lt (Int.natAbs_ediv_le_natAbs _ _) dn
          rw [hq]
          exact abs_mono (abs_lt_mul k2 qd) (by decide)
        · rw [List.getElem?_eq_none (by omega)]
          exact Nat.pow_pos (by decide)
      · obtain ⟨k1, k2⟩ := good A C N D' R dd
        refine ⟨k1, fun i hi => ?_⟩
        have hq := List.getElem?_eq_getElem (show i < ps.length by omega)
        have P := k2 i _ hq
        obtain ⟨_, _, k3⟩ := eq _ (List.mem_of_getElem? hq)
        rw [getD_mapP, hq]
        show (ps[i]).1 * (den / (ps[i]).2) * D' = N i * den
        obtain ⟨e, he⟩ := k3
        have P1 := P.d1
        have P2 := P.eq
        have ed : den / (ps[i]).2 = e := by rw [he]; exact Int.mul_ediv_cancel_left e (by omega)
        rw [ed]
        generalize ps[i] = z at *
        rw [he]
        grind
      · refine exact_ N D' M16 D1 cop cong dd fun j z hz => ?_
        have jl := (List.getElem?_eq_some_iff.mp hz).1
        obtain ⟨z1, _, z3⟩ := eq z (List.mem_of_getElem? hz)
        have v := ver j (by omega)
        rw [getD_mapP, hz] at v
        have v : z.1 * (den / z.2) * D' = N j * den := v
        obtain ⟨e, he⟩ := z3
        rw [he, Int.mul_ediv_cancel_left e (show z.2 ≠ 0 by omega)] at v
        have e0 : e ≠ 0 := fun k => by rw [k, Int.mul_zero] at he; omega
        refine Int.eq_of_mul_eq_mul_right e0 ?_
        grind

theorem ok__solves (T : Tx K mg) (O_inner : OkF P w K mg base 1 (He.fAd K ("inner", none)) ["first", "second"] (spInn K)) : OkF P w K mg base 2 (He.fAd K ("_solves", none)) ["square", "right", "answer"] (spSols K) := by
  obtain ⟨_, G_inner, b_inner, k_inner⟩ := O_inner
  refine okF_of (d := d__solves) T.d__solves rfl sc__solves (fun _ _ _ _ _ _ us hl => match us, hl with | [_, _, _], _ => rfl) (fun vs H Q E h => ?_) (fun cdv A outer s H vs Q E hr h => ?_)
  · (obtain ⟨_, _, _, _, _, _, _, _, _, _, _, _, rfl, _⟩ := h; rfl)
  · obtain ⟨a, b, c, pn, xs, S, rs, nums, d, _, _, _, rfl, hA, hL, hB, hc, hn, sl, hs, nl, sl2, bn, br, bd, q⟩ := h
    have xl := hL.len
    refine ⟨_, (pss_cons (ps_asg (pv 2) (pg_tup rfl (pgs_cons (pg_name (i := 3) sc__solves.nd rfl (Or.inl rfl)) (pgs_cons (pg_name (i := 4) sc__solves.nd rfl (Or.inl rfl)) pgs_nil))))
      (pss_cons (ps_for PassesOwn.leaving rfl (pi_zip (by rfl) T.z_zip (pa_cons (pv 0) (pa_cons (pv 1) pa_nil))) (pg_tup rfl (pgs_cons (pg_name (i := 5) sc__solves.nd rfl (Or.inl rfl)) (pgs_cons (pg_name (i := 6) sc__solves.nd rfl (Or.inl rfl)) pgs_nil))) (pss_one (ps_if (pt_cmpR op_ne (pe_call G_inner (hr.mono (by decide)) (by rfl) T.g_inner k_inner b_inner .nil passL (pa_cons (pv 5) (pa_cons (pv 3) pa_nil))) (pe_op op_mulW (pv 6) (pv 4)) (nomark _)) (pss_one (ps_ret pe_bl)) pss_nil)))
      (pss_one (ps_ret pe_bl)))), ?_⟩
    refine ⟨_, rfl, c, _, rfl, SqT.of hc, rfl, _, _, rfl, _, _, rfl, rfl, ?_⟩
    refine ⟨_, rfl, _, rfl, a, b, xs, rs.map V.int, rfl, hA, hB, RZ.for_zipL (K := K) (a := a) (b := b) (xs := xs) (ys := rs.map V.int) (by rw [len_map]; omega) (fun i σ' H' => ∃ (y5 y6 : Option V), σ' = [some (.ref a), some (.ref b), some (.ref c), some (.ref pn), some (.int d), y5, y6] ∧ Same H H' ∧ ∀ (j : Nat) (s : List Int), j < i → S[j]? = some s → dI s (fun j => nums.getD j 0) 0 = rs.getD j 0 * d) ⟨none, none, rfl, fun _ _ e => e, fun j s hj _ => absurd hj (Nat.not_lt_zero _)⟩ (fun i σ' H' hI => ?_) (fun i x y T σ' H' hx hy hI nT => ?_) (fun σ' H' hI => ?_)⟩
    · obtain ⟨y5, y6, rfl, sm, _⟩ := hI
      exact ⟨sm.seq hA, sm.seq hB⟩
    · obtain ⟨y5, y6, rfl, sm, ok⟩ := hI
      obtain ⟨s, sa, hsi, rfl, hsa⟩ := hL.item hx
      obtain ⟨v, hv, rfl⟩ := get_map_int hy
      have sT := sm_new (o := .tup [V.ref sa, V.int v]) nT
      have smT := sm.trans sT
      obtain ⟨s1, s2⟩ := hs s (List.mem_of_getElem? hsi)
      refine ⟨T, _, rfl, SqT.of upd_same, rfl, _, _, rfl, _, _, rfl, rfl, ?_⟩
      refine ⟨_, rfl, _, rfl, sa, pn, s, nums, 2200, 2200, rfl, SqL.of (smT _ _ hsa), SqL.of (smT _ _ hn), s1, by omega, s2.all, bn.all, by omega, fun H2 t2 => ?_⟩
      have vb := br.all v (List.mem_of_getElem? hv)
      have rv : rs.getD i 0 = v := by rw [List.getD_eq_getElem?_getD, hv]; rfl
      have eD := dot_dI (z := fun j => nums.getD j 0) (xs := s) (ys := nums) (t := 0) (fun j => by rw [Nat.zero_add]) s1
      refine ⟨_, rfl, _, rfl, _, _, rfl, rfl, mulW vb bd (by decide), rfl, _, rfl, iteEqN (fun ne => ?_) (fun eq => ?_)⟩
      · refine q false H2 (smT.trans t2) ⟨fun z => Bool.noConfusion z, fun z => absurd ?_ ne⟩
        rw [eD, z i s hsi, rv]
      · refine ⟨_, _, rfl, smT.trans t2, fun j s' hj hs' => ?_⟩
        by_cases k : j < i
        · exact ok j s' k hs'
        · have : j = i := by omega
          subst this
          rw [hsi] at hs'
          cases hs'
          rw [← eD, eq, rv]
    · obtain ⟨y5, y6, rfl, sm, ok⟩ := hI
      exact q true H' sm ⟨fun _ i s hs' => ok i s (by have := (List.getElem?_eq_some_iff.mp hs').1; omega) hs', fun _ => rfl⟩

theorem ok__lifted_solution (T : Tx K mg) (O_inner : OkF P w K mg base 1 (He.fAd K ("inner", none)) ["first", "second"] (spInn K)) (O_common_fractions : OkF P w K mg base 3 (He.fAd K ("common_fractions", none)) ["residues", "modulus", "den"] (spComF K)) (O__solves : OkF P w K mg base 2 (He.fAd K ("_solves", none)) ["square", "right", "answer"] (spSols K)) : OkF P w K mg base 5 (He.fAd K ("_lifted_solution", none)) ["square", "right", "inverse", "modulus", "den"] (spLift K) := by
  obtain ⟨_, G_inner, b_inner, k_inner⟩ := O_inner
  obtain ⟨_, G_common_fractions, b_common_fractions, k_common_fractions⟩ := O_common_fractions
  obtain ⟨_, G__solves, b__solves, k__solves⟩ := O__solves
  refine okF_of (d := d__lifted_solution) T.d__lifted_solution rfl sc__lifted_solution (fun _ _ _ _ _ _ us hl => match us, hl with | [_, _, _, _, _], _ => rfl) (fun vs H Q E h => ?_) (fun cdv A outer s H vs Q E hr h => ?_)
  · (obtain ⟨_, _, _, _, _, _, _, _, _, _, _, rfl, _⟩ := h; rfl)
  · obtain ⟨a, b, c, xs, zs, S, B, rs, p, e, d0, hv, hA, hL, hB, hC, hZ, P, d1, db, sol, q⟩ := h
    obtain ⟨M, hM⟩ : ∃ M, (p : Int) ^ e = M := ⟨_, rfl⟩
    have lo := P.lo
    have hi := P.hi
    have big := P.big
    have inv := P.inv
    rw [hM] at hv lo hi big inv
    subst hv
    have n30 := P.n30
    have p2 := P.pp.two
    have M0 : 0 < M := by
      have : (0 : Int) < 2 ^ 200 := by decide +kernel
      omega
    have xl := hL.len
    have zl := hZ.len
    have lr := P.lr
    have lB := P.lB
    refine ⟨_, (pss_cons (ps_set (i := 5) sc__lifted_solution.nd rfl (Or.inr rfl) (pv 1))
      (pss_cons (ps_setLc (i := 6) (own := [("_", 12)]) (g := gName 12) rfl sc__lifted_solution.nd rfl rfl (sw_true rfl rfl rfl (by decide +kernel)) (pi_list (pv 1)) (blkOk_by (own := [("_", 12)]) (N := N__lifted_solution) (sc := defScope s__lifted_solution) (by decide +kernel)) (fun _ _ _ _ _ => (pg_name (i := 12) sc__lifted_solution.nd rfl (Or.inl rfl))) (fun _ _ _ _ _ => pts_nil) (fun _ _ _ _ _ => pe_int))
      (pss_cons (ps_setI (i := 7) sc__lifted_solution.nd rfl (Or.inr rfl) pe_int)
      (pss_cons (ps_setI (i := 8) sc__lifted_solution.nd rfl (Or.inl rfl) pe_int)
      (pss_cons (ps_setI (i := 9) sc__lifted_solution.nd rfl (Or.inl rfl) pe_int)
      (pss_one (ps_while PassesOwn.leaving (pt_val pe_bl) (pss_cons (ps_set (i := 10) sc__lifted_solution.nd rfl (Or.inr rfl) (pe_lc (own := [("row", 13)]) (g := gName 13) rfl sc__lifted_solution.nd (pi_list (pv 2)) (blkOk_by (own := [("row", 13)]) (N := N__lifted_solution) (sc := defScope s__lifted_solution) (by decide +kernel)) (fun _ _ _ _ _ => (pg_name (i := 13) sc__lifted_solution.nd rfl (Or.inl rfl))) (fun _ _ _ _ _ => pts_nil) (fun _ _ _ _ _ => (pe_op op_mod (pe_call G_inner (hr.mono (by decide)) (by rfl) T.g_inner k_inner b_inner .nil passL (pa_cons (pv 13) (pa_cons (pv 5) pa_nil))) (pv 3)))))
      (pss_cons (ps_set (i := 5) sc__lifted_solution.nd rfl (Or.inr rfl) (pe_lc (own := [("x", 14), ("row", 13)]) (g := gTup K 2 (gCons (gName 14) (gCons (gName 13) gNil))) rfl sc__lifted_solution.nd (pi_zip (by rfl) T.z_zip (pa_cons (pv 5) (pa_cons (pv 0) pa_nil))) (blkOk_by (own := [("x", 14), ("row", 13)]) (N := N__lifted_solution) (sc := defScope s__lifted_solution) (by decide +kernel)) (fun _ _ _ _ _ => (pg_tup rfl (pgs_cons (pg_name (i := 14) sc__lifted_solution.nd rfl (Or.inl rfl)) (pgs_cons (pg_name (i := 13) sc__lifted_solution.nd rfl (Or.inl rfl)) pgs_nil)))) (fun _ _ _ _ _ => pts_nil) (fun _ _ _ _ _ => (pe_op op_fdivW (pe_op op_sub (pv 14) (pe_call G_inner (hr.mono (by decide)) (by rfl) T.g_inner k_inner b_inner .nil passL (pa_cons (pv 13) (pa_cons (pv 10) pa_nil)))) (pv 3)))))
      (pss_cons (ps_setLc (i := 6) (own := [("residue", 15), ("digit", 16)]) (g := gTup K 2 (gCons (gName 15) (gCons (gName 16) gNil))) rfl sc__lifted_solution.nd rfl rfl (sw_true rfl rfl rfl (by decide +kernel)) (pi_zip (by rfl) T.z_zip (pa_cons (pv 6) (pa_cons (pv 10) pa_nil))) (blkOk_by (own := [("residue", 15), ("digit", 16)]) (N := N__lifted_solution) (sc := defScope s__lifted_solution) (by decide +kernel)) (fun _ _ _ _ _ => (pg_tup rfl (pgs_cons (pg_name (i := 15) sc__lifted_solution.nd rfl (Or.inl rfl)) (pgs_cons (pg_name (i := 16) sc__lifted_solution.nd rfl (Or.inl rfl)) pgs_nil)))) (fun _ _ _ _ _ => pts_nil) (fun _ _ _ _ _ => (pe_op op_add (pv 15) (pe_op op_mulW (pv 7) (pv 16)))))
      (pss_cons (ps_setI (i := 7) sc__lifted_solution.nd rfl (Or.inr rfl) (pe_op op_mulW (pv 7) (pv 3)))
      (pss_cons (ps_setI (i := 8) sc__lifted_solution.nd rfl (Or.inl rfl) (pe_op op_add (pv 8) pe_int))
      (pss_one (ps_if (pt_cmpR op_eq (pv 8) (pv 9) (nomark _)) (pss_cons (ps_setI (i := 9) sc__lifted_solution.nd rfl (Or.inl rfl) (pe_op op_add (pe_op op_fdiv (pe_op op_mulW (pv 8) pe_int) pe_int) pe_int))
      (pss_cons (ps_set (i := 11) sc__lifted_solution.nd rfl (Or.inl rfl) (pe_call G_common_fractions (hr.mono (by decide)) (by rfl) T.g_common_fractions k_common_fractions b_common_fractions .nil passL (pa_cons (pv 6) (pa_cons (pv 7) (pa_cons (pv 4) pa_nil)))))
      (pss_one (ps_if (PW.pt (pw_and (pt_cmpR op_notN1 (pv 11) pe_non (nomark _)) (pw_and1 (pt_val (pe_call G__solves (hr.mono (by decide)) (by rfl) T.g__solves k__solves b__solves .nil passL (pa_cons (pv 0) (pa_cons (pv 1) (pa_cons (pv 11) pa_nil)))))))) (pss_one (ps_ret (pv 11))) pss_nil)))) pss_nil)))))))))))))), ?_⟩
    refine ⟨_, rfl, _, rfl, _, rfl, ⟨_, hB⟩, fun D nD => lc_list (K := K) (a := b) (xs := rs.map V.int) (fun i H' => Same H H' ∧ H' D = some (.lst ((List.replicate i (0 : Int)).map V.int))) ⟨sm_new nD, upd_same⟩ (fun i H' hi hP => hP.1.seq hB) (fun i x H' hix hP => ?_) (fun H1 hP => ?_)⟩
    · obtain ⟨sm, hD⟩ := hP
      have il := (List.getElem?_eq_some_iff.mp hix).1
      rw [len_map] at il
      refine ⟨rfl, ?_⟩
      unfold tYes
      refine iteK rfl ?_
      refine ⟨_, hD, by rw [len_map, List.length_replicate]; exact small1000 (by omega), same_mut sm nD, ?_⟩
      rw [upd_same, List.replicate_succ', List.map_append]
      rfl
    obtain ⟨s1, hD⟩ := hP
    rw [len_map] at hD
    refine ⟨_, rfl, fun sc esc => ?_⟩
    subst esc
    refine ⟨_, rfl, fun st est => ?_⟩
    subst est
    refine ⟨_, rfl, fun tr etr => ?_⟩
    subst etr
    have st0 : LfS M S rs rs (List.replicate rs.length 0) 0 1 := ⟨lr, by rw [List.length_replicate, lr], P.br.getD, fun i => ?_, fun i w hw => ?_, .inl ⟨rfl, rfl⟩⟩
    refine ⟨fun m σ' H' => Same H H' ∧ ∃ (rb ra : Addr) (rest res : List Int) (s : Nat) (t : Int) (y10 y11 : Option V), σ' = [some (.ref a), some (.ref b), some (.ref c), some (.int M), some (.int d0), some (.ref rb), some (.ref ra), some (.int (M ^ s)), some (.int (s : Int)), some (.int t), y10, y11, none, none, none, none, none] ∧ m = 4 - s ∧ s ≤ 3 ∧ SqL K H' rb (rest.map V.int) ∧ SqL K H' ra (res.map V.int) ∧ LfS M S rs rest res s t, ⟨_, s1, b, D, rs, List.replicate rs.length 0, 0, 1, none, none, by rw [Int.pow_zero]; rfl, rfl, by omega, s1.seq hB, SqL.of hD, st0⟩, ?_⟩
    rintro m _ H2 ⟨sm, rb, ra, rest, res, s, t, y10, y11, rfl, rfl, s3, hrb, hra, L⟩
    have Lb1 : Bits 100 rest := bits_of_at L.b1
    have l1 := L.l1
    have l2 := L.l2
    have Mb : M < 2 ^ 1000 := by
      have h1 : M * 1 ≤ M * M ^ 3 := Int.mul_le_mul_of_nonneg_left (Int.pow_pos M0) (by omega)
      have h2 : M ^ 4 = M * M ^ 3 := by rw [Int.pow_succ, Int.mul_comm]
      omega
    have Mn : M.natAbs < 2 ^ 1000 := by omega
    have bz : Bits 1000 rest := Lb1.mono (by decide)
    -- the digits
    refine ⟨_, rfl, iteK rfl ?_⟩
    refine ⟨fun σ' H' => ∃ m', m' < 4 - s ∧ (fun m σ' H' => Same H H' ∧ ∃ (rb ra : Addr) (rest res : List Int) (s : Nat) (t : Int) (y10 y11 : Option V), σ' = [some (.ref a), some (.ref b), some (.ref c), some (.int M), some (.int d0), some (.ref rb), some (.ref ra), some (.int (M ^ s)), some (.int (s : Int)), some (.int t), y10, y11, none, none, none, none, none] ∧ m = 4 - s ∧ s ≤ 3 ∧ SqL K H' rb (rest.map V.int) ∧ SqL K H' ra (res.map V.int) ∧ LfS M S rs rest res s t) m' σ' H', fun _ _ h => h, ?_⟩
    refine ⟨_, rfl, _, rfl, ⟨_, sm.seq hC⟩, fun E nE => lc_list (K := K) (a := c) (xs := zs) (fun i H3 => Same H2 H3 ∧ H3 E = some (.lst (((B.take i).map (fun f => dotI f rest % M)).map V.int))) ⟨sm_new nE, upd_same⟩ (fun i H3 hi hP => hP.1.seq (sm.seq hC)) (fun i x H3 hix hP => ?_) (fun H3 hP => ?_)⟩
    · obtain ⟨s4, hE⟩ := hP
      obtain ⟨f, fa, hf, rfl, hfa⟩ := hZ.item hix
      have il := (List.getElem?_eq_some_iff.mp hix).1
      have sm4 := sm.trans s4
      obtain ⟨fl, fb⟩ := P.bB f (List.mem_of_getElem? hf)
      refine ⟨rfl, ?_⟩
      unfold tYes
      refine iteK rfl ?_
      refine ⟨_, rfl, _, rfl, fa, rb, f, rest, 1000, 100, rfl, SqL.of (sm4 _ _ hfa), s4.seq hrb, by omega, by omega, fb.all, Lb1.all, by omega, fun H5 s5 => ?_⟩
      have hE5 := s5 _ _ hE
      refine ⟨_, rfl, _, _, rfl, rfl, M0, _, hE5, by rw [len_map, List.length_map, List.length_take]; exact small1000 (by omega), same_mut (s4.trans s5) nE, ?_⟩
      rw [upd_same, List.take_succ, hf, List.map_append, List.map_append]
      rfl
    · obtain ⟨s4, hE⟩ := hP
      rw [List.take_of_length_le (by omega)] at hE
      obtain ⟨dg, hdg⟩ : ∃ dg, B.map (fun f => dotI f rest % M) = dg := ⟨_, rfl⟩
      rw [hdg] at hE
      have dl : dg.length = S.length := by rw [← hdg, List.length_map]; exact lB
      have dv : ∀ j, j < S.length → dg.getD j 0 = dI (B.getD j []) (fun i => rest.getD i 0) 0 % M := fun j hj => by
        have hb := List.getElem?_eq_getElem (show j < B.length by omega)
        have bl := (P.bB _ (List.getElem_mem (show j < B.length by omega))).1
        rw [← hdg, List.getD_eq_getElem?_getD, List.getElem?_map, hb, List.getD_eq_getElem?_getD (l := B), hb]
        show dotI B[j] rest % M = dI B[j] (fun i => rest.getD i 0) 0 % M
        rw [dot_dI (z := fun i => rest.getD i 0) (t := 0) (fun i => by rw [Nat.zero_add]) (by omega)]
      have d0r : ∀ j, 0 ≤ dg.getD j 0 ∧ dg.getD j 0 < M := fun j => by
        by_cases k : j < S.length
        · rw [dv j k]
          exact ⟨Int.emod_nonneg _ (by omega), Int.emod_lt_of_pos _ M0⟩
        · rw [getD_end (by omega)]; exact ⟨Int.le_refl _, M0⟩
      have db2 : Bits 1000 dg := bits_of_at fun j => by have := d0r j; omega
      -- what is left
      have sm4 := sm.trans s4
      have hrb4 := s4.seq hrb
      refine ⟨_, rfl, _, rfl, rb, a, rest.map V.int, xs, rfl, hrb4, sm4.seq hA, fun F nF => lc_zip (K := K) (xs := rest.map V.int) (ys := xs) (by rw [len_map]; omega) (fun i H5 => Same H3 H5 ∧ H5 F = some (.lst (((List.zipWith (fun x w => (x - dotI w dg) / M) rest S).take i).map V.int))) ⟨sm_new nF, upd_same⟩ (fun i H5 hP => ⟨hP.1.seq hrb4, hP.1.seq (sm4.seq hA)⟩) (fun i x y T H5 hx hy hP nT => ?_) (fun H5 hP => ?_)⟩
      · obtain ⟨s5, hF⟩ := hP
        obtain ⟨x, hx1, rfl⟩ := get_map_int hx
        obtain ⟨w, wa, hw, rfl, hwa⟩ := hL.item hy
        have il := (List.getElem?_eq_some_iff.mp hx1).1
        obtain ⟨wl, wb⟩ := P.ls w (List.mem_of_getElem? hw)
        have sT := sm_new (o := .tup [V.int x, V.ref wa]) nT
        have hFT := sT _ _ hF
        have s5T := s5.trans sT
        refine ⟨T, _, rfl, SqT.of upd_same, rfl, _, _, rfl, _, _, rfl, rfl, rfl, ?_⟩
        unfold tYes
        refine iteK rfl ?_
        refine ⟨_, rfl, _, rfl, _, rfl, wa, E, w, dg, 60, 1000, rfl, SqL.of (s5T _ _ (sm4 _ _ hwa)), SqL.of (s5T _ _ hE), by omega, by omega, wb.all, db2.all, by omega, fun H7 s7 => ?_⟩
        have hF7 := s7 _ _ hFT
        refine ⟨_, _, rfl, rfl, _, rfl, _, _, rfl, rfl, divW (b := 1000) M0 Mn (by decide), _, hF7, ?_, same_mut (s5T.trans s7) nF, ?_⟩
        · rw [len_map, List.length_take, List.length_zipWith]; exact small1000 (by omega)
        · rw [upd_same, List.take_succ, List.getElem?_zipWith, hx1, hw, List.map_append]; rfl
      · obtain ⟨s5, hF⟩ := hP
        rw [List.take_of_length_le (by rw [List.length_zipWith, len_map]; omega)] at hF
        have zc : List.zipWith (fun x w => (x - dotI w dg) / M) rest S = List.zipWith (fun x w => (x - dI w (fun j => dg.getD j 0) 0) / M) rest S := zw_congr fun x w hw => by
          rw [dot_dI (z := fun j => dg.getD j 0) (t := 0) (fun j => by rw [Nat.zero_add]) (by rw [dl]; exact (P.ls w hw).1)]
        rw [zc] at hF
        have big' : (2 : Int) ^ 200 ≤ M := big
        have dvd := dig_dvd (M := M) (fun w hw => (P.ls w hw).1) inv dv
        have nx : ∀ t', ((s + 1 = 0 ∧ t' = 1) ∨ (s + 1 = 1 ∧ t' = 2) ∨ (s + 1 = 2 ∧ t' = 4) ∨ (s + 1 = 3 ∧ t' = 4) ∨ (s + 1 = 4 ∧ t' = 7)) → LfS M S rs (List.zipWith (fun x w => (x - dI w (fun j => dg.getD j 0) 0) / M) rest S) (List.zipWith (fun r d => r + M ^ s * d) res dg) (s + 1) t' := fun t' st' => L.next big' n30 (fun w hw => ⟨(P.ls w hw).1, (P.ls w hw).2.all⟩) dl d0r dvd st'
        obtain ⟨rest', hr'⟩ : ∃ x, List.zipWith (fun x w => (x - dI w (fun j => dg.getD j 0) 0) / M) rest S = x := ⟨_, rfl⟩
        obtain ⟨res', hs'⟩ : ∃ x, List.zipWith (fun r d => r + M ^ s * d) res dg = x := ⟨_, rfl⟩
        rw [hr'] at hF nx
        rw [hs'] at nx
        have sm5 := sm4.trans s5
        have hra5 := (s4.trans s5).seq hra
        have hE5 := s5 _ _ hE
        have pw : ∀ j, j ≤ 4 → 0 < M ^ j ∧ M ^ j < 2 ^ 1000 := fun j hj => by
          obtain ⟨k, hk⟩ : ∃ k, 4 = j + k := ⟨4 - j, by omega⟩
          have e : M ^ 4 = M ^ j * M ^ k := by rw [hk, Int.pow_add]
          have pj : 0 < M ^ j := Int.pow_pos M0
          have pk : 0 < M ^ k := Int.pow_pos M0
          have le : M ^ j * 1 ≤ M ^ j * M ^ k := Int.mul_le_mul_of_nonneg_left (by omega) (by omega)
          refine ⟨pj, ?_⟩
          omega
        have Ms1 : (M ^ s).natAbs < 2 ^ 1000 := by have := pw s (by omega); omega
        have rl : res'.length = S.length := by rw [← hs', List.length_zipWith]; omega
        have rl1 : rest'.length = S.length := by rw [← hr', List.length_zipWith]; omega
        -- the residues
        refine ⟨_, rfl, _, rfl, ra, E, res.map V.int, dg.map V.int, rfl, hra5, SqL.of hE5, fun G nG => lc_zip (K := K) (xs := res.map V.int) (ys := dg.map V.int) (by rw [len_map, len_map]; omega) (fun i H6 => Same H5 H6 ∧ H6 G = some (.lst ((res'.take i).map V.int))) ⟨sm_new nG, upd_same⟩ (fun i H6 hP => ⟨hP.1.seq hra5, hP.1.seq (SqL.of hE5)⟩) (fun i x y T H6 hx hy hP nT => ?_) (fun H6 hP => ?_)⟩
        · obtain ⟨s6, hG⟩ := hP
          obtain ⟨x, hx1, rfl⟩ := get_map_int hx
          obtain ⟨y, hy1, rfl⟩ := get_map_int hy
          have il := (List.getElem?_eq_some_iff.mp hx1).1
          have yb : y.natAbs < 2 ^ 1000 := db2.all y (List.mem_of_getElem? hy1)
          have sT := sm_new (o := .tup [V.int x, V.int y]) nT
          have hGT := sT _ _ hG
          have s6T := s6.trans sT
          refine ⟨T, _, rfl, SqT.of upd_same, rfl, _, _, rfl, _, _, rfl, rfl, rfl, ?_⟩
          unfold tYes
          refine iteK rfl ?_
          refine ⟨_, rfl, _, rfl, _, rfl, _, _, rfl, rfl, mulW Ms1 yb (by decide), _, _, rfl, rfl, _, hGT, ?_, same_mut s6T nG, ?_⟩
          · rw [len_map, List.length_take]; exact small1000 (by omega)
          · rw [upd_same, List.take_succ, ← hs', List.getElem?_zipWith, hx1, hy1, List.map_append]; rfl
        · obtain ⟨s6, hG⟩ := hP
          rw [List.take_of_length_le (by rw [rl, len_map]; omega)] at hG
          have sm6 := sm5.trans s6
          have hF6 := s6 _ _ hF
          refine ⟨_, rfl, _, rfl, _, _, rfl, rfl, mulW Ms1 Mn (by decide), _, rfl, fun sc esc => ?_⟩
          obtain rfl : sc = M ^ (s + 1) := by rw [esc, Int.pow_succ]
          refine ⟨_, rfl, _, _, rfl, rfl, _, rfl, fun st est => ?_⟩
          obtain rfl : st = ((s + 1 : Nat) : Int) := by rw [est]; rfl
          refine ⟨_, rfl, _, rfl, rfl, _, rfl, iteEq (fun z => ?_) (fun z => ?_)⟩
          · obtain ⟨pw1, pw2⟩ := pw (s + 1) (by omega)
            refine ⟨_, rfl, _, _, rfl, rfl, mulW (a := 10) (show (((s + 1 : Nat)) : Int).natAbs < 2 ^ 10 by omega) (show (3 : Int).natAbs < 2 ^ 10 by decide) (by decide), _, _, rfl, rfl, ⟨by decide, by decide⟩, _, _, rfl, rfl, _, rfl, fun tr etr => ?_⟩
            have st2 : (s + 1 = 0 ∧ tr = 1) ∨ (s + 1 = 1 ∧ tr = 2) ∨ (s + 1 = 2 ∧ tr = 4) ∨ (s + 1 = 3 ∧ tr = 4) ∨ (s + 1 = 4 ∧ tr = 7) := by
              rcases L.st with ⟨h, k⟩ | ⟨h, k⟩ | ⟨h, k⟩ | ⟨h, k⟩ | ⟨h, k⟩ <;> omega
            have L' := nx tr st2
            have p0 : (p : Int) ≠ 0 := by omega
            obtain ⟨N, DD, sol, dD⟩ := sol
            have cong' : ∀ N' D', SolC S rs p N' D' → (∀ c w : Int, c ∣ D' → M ^ (s + 1) ∣ c * w → M ^ (s + 1) ∣ w) ∧ ∀ i, M ^ (s + 1) ∣ D' * res'.getD i 0 - N' i := fun N' D' sl => ⟨fun c w h1 h2 => by
                rw [← hM, ← Int.pow_mul] at h2 ⊢
                exact cop_pow sl.cop p0 _ c w h1 h2, fun i => L'.congC sl hM P.ns p0 i⟩
            have good : s = 3 → RecM (2 ^ 240) (2 ^ 440) (M ^ (s + 1)) res' N DD := fun h3 B B0 b1 b2 => by
              have e4 : M ^ (s + 1) = M ^ 4 := by rw [h3]
              obtain ⟨r1, r2, r3, r4⟩ := rec_sizes2 (M := M ^ (s + 1)) (by rw [e4]; exact lo) (by rw [e4]; exact hi) B0 b1 b2
              exact ⟨sol.D1, fun i _ => L'.congC sol hM P.ns p0 i, fun c w h1 h2 => by
                rw [← hM, ← Int.pow_mul] at h2 ⊢
                exact cop_pow sol.cop p0 _ c w h1 h2, sol.NA, sol.DA, r1, b2, r2, r3, r4⟩
            have rb' : Bits 1000 res' := bits_of_at fun i => by
              have := L'.b2 i
              omega
            have two : 2 ≤ M ^ (s + 1) := by
              have pj : 0 < M ^ s := Int.pow_pos M0
              have m2 : (2 : Int) < 2 ^ 200 := by decide +kernel
              have le : 2 * 1 ≤ M * M ^ s := Int.mul_le_mul (by omega) (by omega) (by omega) (by omega)
              rw [Int.pow_succ, Int.mul_comm]
              omega
            refine ⟨_, rfl, _, rfl, _, rfl, G, res', M ^ (s + 1), d0, (), rfl, SqL.of hG, by omega, rb', two, pw2, d1, db, fun no H7 s7 => ?_, fun pa pn nums d H7 s7 hp hpn npn lnn dd1 ddb bn cond exact_ => ?_⟩
            · have n3 : s ≠ 3 := fun h3 => no _ _ _ _ (good h3) dD
              refine ⟨_, rfl, rfl, _, rfl, iteN (by simp) (iteN rfl ?_)⟩
              exact ⟨4 - (s + 1), by omega, sm6.trans s7, F, G, rest', res', s + 1, tr, some (.ref E), some .non, rfl, rfl, by omega, s7.seq (SqL.of hF6), s7.seq (SqL.of hG), L'⟩
            · refine ⟨_, rfl, rfl, _, rfl, iteK (by simp) ?_⟩
              have sm7 := sm6.trans s7
              refine ⟨_, rfl, _, rfl, _, rfl, a, b, pa, pn, xs, S, rs, nums, d, (), (), (), rfl, sm7.seq hA, hL.mono sm7, sm7.seq hB, hp, hpn, by omega, fun w hw => ⟨by rw [(P.ls w hw).1]; omega, (P.ls w hw).2.mono (by decide)⟩, by omega, by omega, bn.mono (by decide), P.br.mono (by decide), abs_mono (a := 1000) (b := 2200) (by omega) (by decide), fun r H8 s8 hr8 => ⟨_, rfl, iteB (fun w => ?_) (fun w => ?_)⟩⟩
              · refine ⟨_, rfl, ?_⟩
                exact q pa pn nums d H8 (sm7.trans s8) (s8 _ _ hp) (s8 _ _ hpn) (sm_off sm6 npn) (by omega) dd1 ddb bn (hr8.mp w) fun N' D' sl dz => by
                  obtain ⟨c1, c2⟩ := cong' N' D' sl
                  refine exact_ N' D' ?_ sl.D1 c1 (fun i _ => c2 i) dz fun i _ => ?_
                  · have pj : 0 < M ^ s := Int.pow_pos M0
                    have m2 : (16 : Int) < 2 ^ 200 := by decide +kernel
                    have le : 16 * 1 ≤ M * M ^ s := Int.mul_le_mul (by omega) (by omega) (by omega) (by omega)
                    rw [Int.pow_succ, Int.mul_comm]
                    omega
                  · exact sl.uniq P.ns P.pp.two (by omega) (hr8.mp w) i
              · have n3 : s ≠ 3 := fun h3 => by
                  have tr' : r = true := hr8.mpr (sol.solves (fun w hw => (P.ls w hw).1) fun i hi => (cond _ _ _ _ (good h3) dD).2 i (by omega))
                  rw [w] at tr'
                  cases tr'
                exact ⟨4 - (s + 1), by omega, sm7.trans s8, F, G, rest', res', s + 1, tr, some (.ref E), some (.ref pa), rfl, rfl, by omega, (s7.trans s8).seq (SqL.of hF6), (s7.trans s8).seq (SqL.of hG), L'⟩
          · have st' : s = 2 ∧ t = 4 := by rcases L.st with ⟨h, k⟩ | ⟨h, k⟩ | ⟨h, k⟩ | ⟨h, k⟩ | ⟨h, k⟩ <;> omega
            exact ⟨4 - (s + 1), by omega, sm6, F, G, rest', res', s + 1, t, some (.ref E), y11, rfl, rfl, by omega, SqL.of hF6, SqL.of hG, nx t (.inr (.inr (.inr (.inl ⟨by omega, by omega⟩))))⟩
    · show (0 : Int) ≤ _ ∧ _
      have z : (List.replicate rs.length (0 : Int)).getD i 0 = 0 := by rw [List.getD_eq_getElem?_getD, List.getElem?_replicate]; split <;> rfl
      rw [z, Int.pow_zero]
      exact ⟨by decide, by decide⟩
    · have z : ∀ j, (List.replicate rs.length (0 : Int)).getD j 0 = 0 := fun j => by rw [List.getD_eq_getElem?_getD, List.getElem?_replicate]; split <;> rfl
      rw [dI_zero fun j _ _ => z j, Int.pow_zero, Int.one_mul, Int.zero_add]

theorem ok_solved (T : Tx K mg) (O_height : OkF P w K mg base 1 (He.fAd K ("height", none)) ["coefs"] (spHeiB K)) (O_power_of : OkF P w K mg base 1 (He.fAd K ("power_of", none)) ["base", "exponent"] (spPowI K)) (O_inverse_matrix : OkF P w K mg base 4 (He.fAd K ("inverse_matrix", none)) ["square", "prime", "modulus"] (spInvM K)) (O__lifted_solution : OkF P w K mg base 5 (He.fAd K ("_lifted_solution", none)) ["square", "right", "inverse", "modulus", "den"] (spLift K)) : OkF P w K mg base 6 (He.fAd K ("solved", none)) ["square", "rights", "prime"] (spSlvd K) := by
  obtain ⟨_, G_height, b_height, k_height⟩ := O_height
  obtain ⟨_, G_power_of, b_power_of, k_power_of⟩ := O_power_of
  obtain ⟨_, G_inverse_matrix, b_inverse_matrix, k_inverse_matrix⟩ := O_inverse_matrix
  obtain ⟨_, G__lifted_solution, b__lifted_solution, k__lifted_solution⟩ := O__lifted_solution
  refine okF_of (d := d_solved) T.d_solved rfl sc_solved (fun _ _ _ _ _ _ us hl => match us, hl with | [_, _, _], _ => rfl) (fun vs H Q E h => ?_) (fun cdv A outer s H vs Q E hr h => ?_)
  · (obtain ⟨_, _, _, _, _, _, _, _, rfl, _⟩ := h; rfl)
  · obtain ⟨a, b, xs, us, S, rss, p, L, rfl, hA, hL, hB, hC, P, r20, sol, q⟩ := h
    have usl := hC.len
    refine ⟨_, (pss_cons (ps_setI (i := 3) sc_solved.nd rfl (Or.inl rfl) (pe_bits (pe_call G_height (hr.mono (by decide)) (by rfl) T.g_height k_height b_height .nil passL (pa_cons (pe_lc2 (own := [("row", 10), ("x", 11)]) (vs1 := [11]) (g := gName 10) (g1 := gName 11) rfl sc_solved.nd (pi_list (pv 0)) (blkOk_by (own := [("row", 10), ("x", 11)]) (N := N_solved) (sc := defScope s_solved) (by decide +kernel)) (by decide) (fun _ _ _ _ _ => (pg_name (i := 10) sc_solved.nd rfl (Or.inl rfl))) (fun _ _ _ _ _ => pts_nil) (fun _ _ _ _ _ => (show PI _ _ _ (iList K _) from pi_list (pv 10))) (fun _ _ _ _ _ => (pg_name (i := 11) sc_solved.nd rfl (Or.inl rfl))) (fun _ _ _ _ _ => pts_nil) (fun _ _ _ _ _ => (pv 11))) pa_nil))))
      (pss_cons (ps_setI (i := 4) sc_solved.nd rfl (Or.inl rfl) (pe_call G_power_of (hr.mono (by decide)) (by rfl) T.g_power_of k_power_of b_power_of .nil passL (pa_cons (pv 2) (pa_cons (pe_callB (call_max2 rfl) (by rfl) T.z_max (by decide +kernel) (pa_cons pe_int (pa_cons (pe_op op_add (pe_op op_fdivW (pv 3) (pe_bits (pv 2))) pe_int) pa_nil))) pa_nil))))
      (pss_cons (ps_set (i := 5) sc_solved.nd rfl (Or.inl rfl) (pe_call G_inverse_matrix (hr.mono (by decide)) (by rfl) T.g_inverse_matrix k_inverse_matrix b_inverse_matrix .nil passL (pa_cons (pv 0) (pa_cons (pv 2) (pa_cons (pv 4) pa_nil)))))
      (pss_cons (ps_set (i := 6) sc_solved.nd rfl (Or.inl rfl) (pe_lst pa_nil))
      (pss_cons (ps_setI (i := 7) sc_solved.nd rfl (Or.inl rfl) pe_int)
      (pss_cons (ps_for PassesOwn.leaving rfl (pi_list (pv 1)) (pg_name (i := 8) sc_solved.nd rfl (Or.inl rfl)) (pss_cons (ps_asg (pe_call G__lifted_solution (hr.mono (by decide)) (by rfl) T.g__lifted_solution k__lifted_solution b__lifted_solution .nil passL (pa_cons (pv 0) (pa_cons (pv 8) (pa_cons (pv 5) (pa_cons (pv 4) (pa_cons (pv 7) pa_nil)))))) (pg_tup rfl (pgs_cons (pg_name (i := 9) sc_solved.nd rfl (Or.inl rfl)) (pgs_cons (pg_name (i := 7) sc_solved.nd rfl (Or.inl rfl)) pgs_nil))))
      (pss_one (ps_expr (pe_bm PySem.F.plainAttrs_list PySem.F.slot_list_append PySem.F.type_list_append mt_append (pv 6) (pa_cons (pe_tup (pa_cons (pv 9) (pa_cons (pv 7) pa_nil))) pa_nil))))))
      (pss_one (ps_ret (pv 6))))))))), ?_⟩
    have xl := hL.len
    have n20 := P.n20
    have plo := P.lo
    have phi := P.hi
    refine ⟨_, rfl, a, rfl, ⟨_, hA⟩, fun D nD => ?_⟩
    refine walkL (xs := xs) (fun i H' => Same H H' ∧ ∃ ws : List Int, H' D = some (.lst (ws.map V.int)) ∧ Bits 60 ws ∧ ws.length ≤ i * S.length) ⟨sm_new nD, [], upd_same, ⟨fun x hx => absurd hx (by simp)⟩, by simp⟩ (fun i H' hi hP => hP.1.seq hA) (fun i x H' hi hP => ?_) (fun H1 hP => ?_)
    · obtain ⟨sm, ws, hD, bw, lw⟩ := hP
      obtain ⟨w, wa, hw, rfl, hwa⟩ := hL.item hi
      have il := (List.getElem?_eq_some_iff.mp hi).1
      obtain ⟨wl, wb⟩ := P.ls w (List.mem_of_getElem? hw)
      refine ⟨rfl, ?_⟩
      unfold tYes
      refine iteK rfl ?_
      refine ⟨_, rfl, wa, rfl, ⟨_, sm.seq (SqL.of hwa)⟩, ?_⟩
      refine walkL (xs := w.map V.int) (fun j H3 => Same H H3 ∧ ∃ us : List Int, H3 D = some (.lst (us.map V.int)) ∧ Bits 60 us ∧ us.length ≤ i * S.length + j) ⟨sm, ws, hD, bw, by omega⟩ (fun j H3 hj hI => hI.1.seq (SqL.of hwa)) (fun j x H3 hj hI => ?_) (fun H3 hI => ?_)
      · obtain ⟨u, hu, rfl⟩ := get_map_int hj
        obtain ⟨s3, us, hD3, bu, lu⟩ := hI
        have jl := (List.getElem?_eq_some_iff.mp hu).1
        have i20 : i * S.length ≤ 20 * 20 := Nat.mul_le_mul (by omega) n20
        refine ⟨rfl, ?_⟩
        refine iteK rfl ?_
        refine ⟨_, rfl, _, hD3, ?_, same_mut s3 nD, us ++ [u], ?_, ?_, ?_⟩
        · rw [len_map]; exact small1000 (by omega)
        · rw [upd_same, List.map_append]; rfl
        · exact ⟨fun y hy => (List.mem_append.mp hy).elim (fun k => bu.all y k) fun k => by rw [List.mem_singleton.mp k]; exact wb.all u (List.mem_of_getElem? hu)⟩
        · rw [List.length_append, List.length_singleton]; omega
      · obtain ⟨s3, us, hD3, bu, lu⟩ := hI
        rw [len_map] at lu
        exact ⟨s3, us, hD3, bu, by rw [Nat.succ_mul]; omega⟩
    obtain ⟨s1, ws, hD, bw, lw⟩ := hP
    have l400 : ws.length ≤ 400 := Nat.le_trans lw (Nat.mul_le_mul (show xs.length ≤ 20 by omega) n20)
    refine ⟨D, ws, rfl, .inl (SqL.of hD), l400, fun h H2 s2 hh hb => ?_⟩
    have h60 : h < 2 ^ 60 := hb 60 bw.all
    refine ⟨_, rfl, _, rfl, fun eb eeb => ?_⟩
    have eb60 : 0 ≤ eb ∧ eb ≤ 60 := by
      have : Builtin.Int.intBits (h : Int) ≤ 60 := PySem.intBits_le_iff.mpr (by rw [Int.natAbs_natCast]; exact h60)
      omega
    have pb1 : ¬ Builtin.Int.intBits (p : Int) ≤ 30 := fun z => by
      have := PySem.intBits_le_iff.mp z
      rw [Int.natAbs_natCast] at this
      omega
    have pb2 : Builtin.Int.intBits (p : Int) ≤ 32 := PySem.intBits_le_iff.mpr (by rw [Int.natAbs_natCast]; omega)
    have d2 : eb / (Builtin.Int.intBits (p : Int) : Int) + 1 < 8 := by
      have h1 : eb / (Builtin.Int.intBits (p : Int) : Int) < 7 := Int.ediv_lt_of_lt_mul (by omega) (by omega)
      omega
    refine ⟨_, rfl, _, rfl, _, rfl, _, rfl, _, _, rfl, rfl, divW (b := 100) (by omega) (by omega) (by decide), _, _, rfl, rfl, _, _, rfl, (p : Int), 8, 32, by rw [if_neg (by omega)]; rfl, by decide, by rw [Int.natAbs_natCast]; omega, by decide, _, rfl, fun mo emo => ?_⟩
    obtain rfl : mo = (p : Int) ^ 8 := emo
    obtain ⟨w1, w2, w3, w4⟩ := pow8 plo phi
    have s12 := s1.trans s2
    refine ⟨_, rfl, _, rfl, _, rfl, a, xs, S, p, 8, (), rfl, s12.seq hA, hL.mono s12, P.pp, by omega, by decide, w4, P.ns, fun w hw => (P.ls w hw).1, by omega, fun E H3 zs B s3 nE hE hZ lB bB inv => ?_⟩
    have s13 := s12.trans s3
    refine ⟨by decide, fun F nF => ?_⟩
    refine ⟨_, rfl, fun de ede => ?_⟩
    subst ede
    have s14 := s13.trans (sm_new (o := .lst []) nF)
    refine ⟨_, rfl, _, rfl, ⟨_, s14.seq hB⟩, for_list (K := K) (a := b) (xs := us) (fun i σ' H' => ∃ (d : Int) (y8 y9 : Option V) (ws : List V), σ' = [some (.ref a), some (.ref b), some (.int (p : Int)), some (.int eb), some (.int ((p : Int) ^ 8)), some (.ref E), some (.ref F), some (.int d), y8, y9, none, none] ∧ H' F = some (.lst ws) ∧ Same H3 H' ∧ 1 ≤ d ∧ d < 2 ^ 1000 ∧ (i = 0 → d = 1) ∧ (0 < i → d ∣ L) ∧ AnsL F H' ws S (rss.take i) L) ⟨1, none, none, [], rfl, upd_same, sm_new nF, by decide, by decide +kernel, fun _ => rfl, fun h => absurd h (by decide), .nil⟩ (fun i σ' H' hi hI => ?_) (fun i x σ' H' hi hI => ?_) (fun σ' H' hI => ?_)⟩
    · obtain ⟨d, y8, y9, ws2, rfl, hF, sm, _⟩ := hI
      exact (s13.trans sm).seq hB
    · obtain ⟨d, y8, y9, ws2, rfl, hF, sm, d1, dB, di, dL, an⟩ := hI
      have i1 := (List.getElem?_eq_some_iff.mp hi).1
      obtain ⟨rs, c, hrs, rfl, hc⟩ := hC.item hi
      obtain ⟨rl, rb, N, sl⟩ := sol rs (List.mem_of_getElem? hrs)
      have dd : d ∣ L := by
        by_cases z : i = 0
        · rw [di z]; exact Int.one_dvd _
        · exact dL (by omega)
      have sA := s13.trans sm
      have lf : LfP S B rs p 8 := ⟨P.pp, by decide, w1, w2, w3, by omega, P.ls, rl, rb, lB, bB, P.ns, inv⟩
      refine ⟨_, rfl, _, rfl, _, rfl, _, rfl, _, rfl, a, c, E, xs, zs, S, B, rs, p, 8, d, rfl, sA.seq hA, hL.mono sA, sA.seq (SqL.of hc), sm.seq (SqL.of hE), hZ.mono sm, lf, d1, dB, ⟨N, L, sl, dd⟩, fun t pn nums d' H5 s5 ht hpn npn ln d1' db bn cond dv => ?_⟩
      have hF5 := s5 _ _ hF
      refine ⟨t, _, rfl, SqT.of ht, rfl, _, _, rfl, _, _, rfl, rfl, ?_⟩
      refine ⟨_, rfl, .inl ⟨rfl, _, SqL.of hF5⟩, _, rfl, _, rfl, by show 2 ≤ sizeLine; decide, fun G nG => ?_⟩
      have s6 := sm_new (o := .tup [V.ref pn, V.int d']) nG
      have hF6 := s6 _ _ hF5
      refine ⟨_, _, _, rfl, rfl, hF6, by rw [an.len, List.length_take]; exact small1000 (by omega), ?_⟩
      have sB := (sm.trans s5).trans s6
      have G1 : G ≠ F := fun z => by rw [z, hF5] at nG; cases nG
      have P1 : pn ≠ F := fun z => by rw [z, hF] at npn; cases npn
      have dv' := dv N L sl dd
      refine ⟨d', some (.ref c), some (.ref pn), ws2 ++ [.ref G], rfl, upd_same, same_mut sB nF, d1', db, fun z => absurd z (by omega), fun _ => dv', ?_⟩
      rw [List.take_succ, hrs]
      exact (an.mono (s5.trans s6)).snoc G1 P1 upd_same (s6 _ _ hpn) ⟨ln, d1', db, dv', bn, cond⟩
    · obtain ⟨d, y8, y9, ws2, rfl, hF, sm, d1, dB, di, dL, an⟩ := hI
      rw [List.take_of_length_le (by omega)] at an
      have FF : H F = none := by
        cases hq : H F with
        | none => rfl
        | some o => rw [s13 _ _ hq] at nF; cases nF
      exact ⟨_, rfl, q F ws2 H' (s13.trans sm) hF FF an⟩

theorem ok__spread (T : Tx K mg) (O_Fraction___init__ : OkD P w K mg base 1 (He.fAd K ("Fraction", some "__init__")) ["self", "num", "den"] (He.Dv.v K (.int 1)) (spInit K)) : OkF P w K mg base 3 (He.fAd K ("_spread", none)) ["places", "entries", "length"] (spSpr K) := by
  obtain ⟨_, G_Fraction___init__, b_Fraction___init__, ⟨_, v_Fraction___init__, bd_Fraction___init__⟩, k_Fraction___init__⟩ := O_Fraction___init__
  refine okF_of (d := d__spread) T.d__spread rfl sc__spread (fun _ _ _ _ _ _ us hl => match us, hl with | [_, _, _], _ => rfl) (fun vs H Q E h => ?_) (fun cdv A outer s H vs Q E hr h => ?_)
  · (obtain ⟨_, _, _, _, _, _, _, _, rfl, _⟩ := h; rfl)
  · obtain ⟨a, b, idx, us, ps, n, k, _, rfl, hA, hB, hU, hl, hi, n1, k4, q⟩ := h
    refine ⟨_, (pss_cons (ps_setLc (i := 3) (own := [("_", 6)]) (g := gName 6) rfl sc__spread.nd rfl rfl (sw_true rfl rfl rfl (by decide +kernel)) (pi_range1 rfl T.z_range (pa_cons (pv 2) pa_nil)) (blkOk_by (own := [("_", 6)]) (N := N__spread) (sc := defScope s__spread) (by decide +kernel)) (fun _ _ _ _ _ => (pg_name (i := 6) sc__spread.nd rfl (Or.inl rfl))) (fun _ _ _ _ _ => pts_nil) (fun _ _ _ _ _ => (pe_makeI T.mk_Fraction G_Fraction___init__ (hr.mono (by decide)) (by rfl) T.g_Fraction bd_Fraction___init__ v_Fraction___init__ passL (mkFr_conv K [_]) (pa_cons pe_int pa_nil))))
      (pss_cons (ps_for PassesOwn.leaving rfl (pi_zip (by rfl) T.z_zip (pa_cons (pv 0) (pa_cons (pv 1) pa_nil))) (pg_tup rfl (pgs_cons (pg_name (i := 4) sc__spread.nd rfl (Or.inl rfl)) (pgs_cons (pg_name (i := 5) sc__spread.nd rfl (Or.inl rfl)) pgs_nil))) (pss_one (ps_asg (pv 5) (pg_sub (pv 3) (pv 4) set_list))))
      (pss_one (ps_ret (pv 3))))), ?_⟩
    have ul := hU.len
    refine ⟨_, rfl, _, rfl, by omega, by omega, fun D nD => lc_range (lo := 0) (n := n) (fun i H' => ∃ cs : List V, H' D = some (.lst cs) ∧ Same H H' ∧ VF K k H' cs (List.replicate i (0, 1)))
        ⟨[], upd_same, sm_new nD, .nil⟩ (fun i H' hi hP => ?_) (fun H1 hP => ?_)⟩
    · obtain ⟨cs, hD, sm, hv⟩ := hP
      refine ⟨rfl, yes_ok (iteK rfl ?_)⟩
      refine ⟨_, _, 1, rfl, by decide, by decide, by decide, fun p3 dp3 H3 n3 d3 sm3 np3 hp3 f3 => ?_⟩
      have hD3 := sm3 _ _ hD
      refine ⟨cs, hD3, by rw [hv.len, List.length_replicate]; exact small1000 (by omega), cs ++ [.ref p3], upd_same, same_mut (sm.trans sm3) nD, ?_⟩
      rw [List.replicate_succ']
      exact ((hv.mono sm3).snoc hp3 (lw_of f3 (by decide) (abs_mono (a := 1) (show (0 : Int).natAbs < 2 ^ 1 by decide) (by omega)) (abs_mono (a := 4) (show (1 : Int).natAbs < 2 ^ 4 by decide) k4)) f3).upd hD3
    obtain ⟨cs, hD, s1, hv⟩ := hP
    refine ⟨_, rfl, _, rfl, a, b, idx.map (fun i : Nat => V.int (i : Int)), us, rfl, s1.seq hA, s1.seq hB, RZ.for_zipL (K := K) (a := a) (b := b) (xs := idx.map (fun i : Nat => V.int (i : Int))) (ys := us) (by rw [List.length_map]; omega) (fun i σ' H' => ∃ (y4 y5 : Option V) (ws : List V), σ' = [some (.ref a), some (.ref b), some (.int (n : Int)), some (.ref D), y4, y5, none] ∧ Same H H' ∧ H' D = some (.lst ws) ∧ VF K k H' ws (sprP (List.replicate n (0, 1)) (idx.take i) (ps.take i))) ⟨none, none, cs, rfl, s1, hD, hv⟩ (fun i σ' H' hI => ?_) (fun i x y T σ' H' hx hy hI nT => ?_) (fun σ' H' hI => ?_)⟩
    · obtain ⟨y4, y5, ws, rfl, sm, _⟩ := hI
      exact ⟨sm.seq hA, sm.seq hB⟩
    · obtain ⟨y4, y5, ws, rfl, sm, hD2, hv2⟩ := hI
      obtain ⟨j, hj, rfl⟩ : ∃ j, idx[i]? = some j ∧ V.int (j : Int) = x := by
        rw [List.getElem?_map] at hx
        cases e : idx[i]? with
        | none => rw [e] at hx; cases hx
        | some j => rw [e] at hx; exact ⟨j, rfl, Option.some.inj hx⟩
      obtain ⟨pq, m, d, c, dx, hp, rfl, hc, lw, fq⟩ := hU.item hy
      have sT := sm_new (o := .tup [V.int (j : Int), V.ref c]) nT
      have hDT := sT _ _ hD2
      have jn := hi j (List.mem_of_getElem? hj)
      have wl : ws.length = n := by rw [hv2.len, sprP_len, List.length_replicate]
      have il := (List.getElem?_eq_some_iff.mp hj).1
      have ip := (List.getElem?_eq_some_iff.mp hp).1
      refine ⟨T, _, rfl, SqT.of upd_same, rfl, _, _, rfl, _, _, rfl, rfl, ?_⟩
      refine ⟨_, rfl, _, rfl, _, rfl, D, _, _, j, rfl, rfl, hDT, ixN_at (by omega) (by rw [wl]; exact jn), ?_⟩
      refine ⟨_, _, ws.set j (.ref c), rfl, same_mut (sm.trans sT) nD, upd_same, ?_⟩
      rw [List.take_succ, List.take_succ, hj, hp]
      show VF K k _ _ (sprP _ (_ ++ [j]) (_ ++ [pq]))
      rw [sprP_snoc (by rw [List.length_take, List.length_take]; omega)]
      exact ((hv2.mono sT).set j (sm.trans sT _ _ hc) lw fq).upd hDT
    · obtain ⟨y4, y5, ws, rfl, sm, hD2, hv2⟩ := hI
      rw [List.length_map, List.take_of_length_le (Nat.le_refl _), List.take_of_length_le (by omega)] at hv2
      exact ⟨_, rfl, q D H' ws sm hD2 nD hv2⟩

theorem ok__inverse (T : Tx K mg) (O_solved : OkF P w K mg base 6 (He.fAd K ("solved", none)) ["square", "rights", "prime"] (spSlvd K)) (O_Fraction___init__ : OkD P w K mg base 1 (He.fAd K ("Fraction", some "__init__")) ["self", "num", "den"] (He.Dv.v K (.int 1)) (spInit K)) (O__spread : OkF P w K mg base 3 (He.fAd K ("_spread", none)) ["places", "entries", "length"] (spSpr K)) : OkF P w K mg base 7 (He.fAd K ("_inverse", none)) ["matrix", "scales", "indexes", "prime"] (spInvK K) := by
  obtain ⟨_, G_solved, b_solved, k_solved⟩ := O_solved
  obtain ⟨_, G_Fraction___init__, b_Fraction___init__, ⟨_, v_Fraction___init__, bd_Fraction___init__⟩, k_Fraction___init__⟩ := O_Fraction___init__
  obtain ⟨_, G__spread, b__spread, k__spread⟩ := O__spread
  refine okF_of (d := d__inverse) T.d__inverse rfl sc__inverse (fun _ _ _ _ _ _ us hl => match us, hl with | [_, _, _, _], _ => rfl) (fun vs H Q E h => ?_) (fun cdv A outer s H vs Q E hr h => ?_)
  · (obtain ⟨_, _, _, _, _, _, _, _, _, _, _, rfl, _⟩ := h; rfl)
  · obtain ⟨a, b, qi, xs, Ms, W, p, D, cs, idx, _, rfl, hA, hL, hB, hqi, P, pp, plo, phi, il, nd, ilt, cl, cb, ns, q⟩ := h
    have xl := hL.len
    have w11 := P.w11
    have m24 := P.m24
    have rl : ∀ (i : Nat) (r : List Int), Ms[i]? = some r → r.length = W := fun i r h => (P.ls r (List.mem_of_getElem? h)).1
    obtain ⟨S, eS⟩ : ∃ S, (idx.map fun i => Ms.getD i []) = S := ⟨_, rfl⟩
    rw [eS] at ns
    have Sl : S.length = W := by rw [← eS, List.length_map]; exact il
    have Sat : ∀ (k i0 : Nat), idx[k]? = some i0 → S[k]? = some (Ms.getD i0 []) ∧ Ms[i0]? = some (Ms.getD i0 []) := fun k i0 h => by
      have im := ilt i0 (List.mem_of_getElem? h)
      refine ⟨by rw [← eS, List.getElem?_map, h]; rfl, ?_⟩
      rw [List.getD_eq_getElem?_getD, List.getElem?_eq_getElem im]; rfl
    have Srow : ∀ w ∈ S, w.length = W ∧ ∀ x ∈ w, x.natAbs ≤ 11664 := fun w hw => by
      rw [← eS] at hw
      obtain ⟨i0, hi, rfl⟩ := List.mem_map.mp hw
      obtain ⟨k, hk⟩ := List.getElem?_of_mem hi
      exact P.ls _ (List.mem_of_getElem? (Sat k i0 hk).2)
    refine ⟨_, (pss_cons (ps_setI (i := 4) sc__inverse.nd rfl (Or.inr rfl) (pe_callB call_len_seq (by rfl) T.z_len PySem.boot_len (pa_cons (pv 2) pa_nil)))
      (pss_cons (ps_setLc (i := 5) (own := [("i", 8)]) (g := gName 8) rfl sc__inverse.nd rfl rfl (sw_true rfl rfl rfl (by decide +kernel)) (pi_range1 rfl T.z_range (pa_cons (pv 4) pa_nil)) (blkOk_by (own := [("i", 8)]) (N := N__inverse) (sc := defScope s__inverse) (by decide +kernel)) (fun _ _ _ _ _ => (pg_name (i := 8) sc__inverse.nd rfl (Or.inr rfl))) (fun _ _ _ _ _ => pts_nil) (fun _ _ _ _ _ => (pe_lc (own := [("j", 9)]) (g := gName 9) rfl sc__inverse.nd (pi_range1 rfl T.z_range (pa_cons (pv 4) pa_nil)) (blkOk_by (own := [("j", 9)]) (N := N__inverse) (by rfl)) (fun _ _ _ _ _ => (pg_name (i := 9) sc__inverse.nd rfl (Or.inl rfl))) (fun _ _ _ _ _ => pts_nil) (fun _ _ _ _ _ => (pe_ifExp (pt_cmpR op_eq (pv 8) (pv 9) (nomark _)) pe_int pe_int)))))
      (pss_cons (ps_set (i := 6) sc__inverse.nd rfl (Or.inr rfl) (pe_call G_solved (hr.mono (by decide)) (by rfl) T.g_solved k_solved b_solved .nil passL (pa_cons (pe_lc (own := [("i", 8)]) (g := gName 8) rfl sc__inverse.nd (pi_list (pv 2)) (blkOk_by (own := [("i", 8)]) (N := N__inverse) (sc := defScope s__inverse) (by decide +kernel)) (fun _ _ _ _ _ => (pg_name (i := 8) sc__inverse.nd rfl (Or.inl rfl))) (fun _ _ _ _ _ => pts_nil) (fun _ _ _ _ _ => (pe_ix (show IxR _ (rIxL K) from ix_list) (pv 0) (pv 8) (fun _ _ => rfl)))) (pa_cons (pv 5) (pa_cons (pv 3) pa_nil)))))
      (pss_cons (ps_setLc (i := 7) (own := [("j", 9)]) (g := gName 9) rfl sc__inverse.nd rfl rfl (sw_true rfl rfl rfl (by decide +kernel)) (pi_range1 rfl T.z_range (pa_cons (pv 4) pa_nil)) (blkOk_by (own := [("j", 9)]) (N := N__inverse) (sc := defScope s__inverse) (by decide +kernel)) (fun _ _ _ _ _ => (pg_name (i := 9) sc__inverse.nd rfl (Or.inr rfl))) (fun _ _ _ _ _ => pts_nil) (fun _ _ _ _ _ => (pe_lc (own := [("i", 8), ("numerators", 11), ("den", 12)]) (g := gTup K 2 (gCons (gName 8) (gCons (gTup K 2 (gCons (gName 11) (gCons (gName 12) gNil))) gNil))) rfl sc__inverse.nd (show PI _ _ _ (iZip K _) from pi_zip (by rfl) T.z_zip (pa_cons (pv 2) (pa_cons (pv 6) pa_nil))) (blkOk_by (own := [("i", 8), ("numerators", 11), ("den", 12)]) (N := N__inverse) (by rfl)) (fun _ _ _ _ _ => (pg_tup rfl (pgs_cons (pg_name (i := 8) sc__inverse.nd rfl (Or.inl rfl)) (pgs_cons (pg_tup rfl (pgs_cons (pg_name (i := 11) sc__inverse.nd rfl (Or.inl rfl)) (pgs_cons (pg_name (i := 12) sc__inverse.nd rfl (Or.inl rfl)) pgs_nil))) pgs_nil)))) (fun _ _ _ _ _ => pts_nil) (fun _ _ _ _ _ => (pe_makeI T.mk_Fraction G_Fraction___init__ (hr.mono (by decide)) (by rfl) T.g_Fraction b_Fraction___init__ .nil passL (mkFr_conv K []) (pa_cons (pe_op op_mulW (pe_ix (show IxR _ (rIxL K) from ix_list) (pv 11) (pv 9) (fun _ _ => rfl)) (pe_ix (show IxR _ (rIxL K) from ix_list) (pv 1) (pv 8) (fun _ _ => rfl))) (pa_cons (pv 12) pa_nil)))))))
      (pss_one (ps_ret (pe_lc (own := [("line", 10)]) (g := gName 10) rfl sc__inverse.nd (pi_list (pv 7)) (blkOk_by (own := [("line", 10)]) (N := N__inverse) (sc := defScope s__inverse) (by decide +kernel)) (fun _ _ _ _ _ => (pg_name (i := 10) sc__inverse.nd rfl (Or.inl rfl))) (fun _ _ _ _ _ => pts_nil) (fun _ _ _ _ _ => (pe_call G__spread (hr.mono (by decide)) (by rfl) T.g__spread k__spread b__spread .nil passL (pa_cons (pv 2) (pa_cons (pv 10) (pa_cons (pe_callB (show CallR _ (.builtin "len") (rLenK K) from call_len_seq) (by rfl) T.z_len PySem.boot_len (pa_cons (pv 0) pa_nil)) pa_nil)))))))))))), ?_⟩
    refine ⟨_, rfl, _, _, rfl, .inl (SqL.of hqi), _, rfl, fun sz esz => ?_⟩
    obtain rfl : sz = (W : Int) := by rw [esz, List.length_map, il]
    clear esz
    -- the units
    refine ⟨_, rfl, _, rfl, by omega, by omega, fun D1 nD => lc_range (lo := 0) (n := (W : Int).toNat) (fun i H' => Same H H' ∧ ∃ us, H' D1 = some (.lst us) ∧ LsL H' us ((List.range i).map fun i => (List.range W).map fun j => if i = j then (1 : Int) else 0) ∧ Off D1 us) ⟨sm_new nD, [], upd_same, .nil, fun b hb => absurd hb (by simp)⟩ (fun i H' hi hP => ?_) (fun H1 hP => ?_)⟩
    · obtain ⟨sm, us, hU, hUs, off⟩ := hP
      refine ⟨rfl, ?_⟩
      unfold tYes
      refine iteK rfl ?_
      refine ⟨_, rfl, _, rfl, by omega, by omega, fun G nG => lc_range (tt := fun _ H Q => Q true H) (lo := 0) (n := (W : Int).toNat) (fun k H3 => Same H' H3 ∧ H3 G = some (.lst (((List.range k).map fun j => if i = j then (1 : Int) else 0).map V.int))) ⟨sm_new nG, upd_same⟩ (fun k H3 hk hI => ?_) (fun H3 hI => ?_)⟩
      · obtain ⟨s3, hG⟩ := hI
        have e0 : (0 : Int) + (i : Int) = (i : Int) := Int.zero_add _
        have e1 : (0 : Int) + (k : Int) = (k : Int) := Int.zero_add _
        refine ⟨rfl, iteK rfl ?_⟩
        refine ⟨_, rfl, _, rfl, rfl, _, rfl, iteEq (fun c => ?_) (fun c => ?_)⟩
        · refine ⟨_, hG, by rw [len_map, List.length_map, List.length_range]; exact small1000 (by omega), same_mut s3 nG, ?_⟩
          rw [upd_same, List.range_succ, List.map_append, List.map_append]
          show some (HO.lst (_ ++ [V.int 1])) = some (HO.lst (_ ++ [V.int (if i = k then 1 else 0)]))
          rw [if_pos (by omega)]
        · refine ⟨_, hG, by rw [len_map, List.length_map, List.length_range]; exact small1000 (by omega), same_mut s3 nG, ?_⟩
          rw [upd_same, List.range_succ, List.map_append, List.map_append]
          show some (HO.lst (_ ++ [V.int 0])) = some (HO.lst (_ ++ [V.int (if i = k then 1 else 0)]))
          rw [if_neg (by omega)]
      · obtain ⟨s3, hG⟩ := hI
        rw [show (W : Int).toNat = W by omega] at hG
        have hU3 := s3 _ _ hU
        have ne : G ≠ D1 := fun z => by rw [z, hU] at nG; cases nG
        refine ⟨_, hU3, by rw [hUs.len, List.length_map, List.length_range]; exact small1000 (by omega), same_mut (sm.trans s3) nD, us ++ [.ref G], upd_same, ?_, off.snoc ne⟩
        rw [List.range_succ, List.map_append]
        exact (LsL.snoc (hUs.mono s3) hG).upd (off.snoc ne)
    obtain ⟨s1, us, hU, hUs, _⟩ := hP
    rw [show (W : Int).toNat = W by omega] at hUs
    -- the square
    refine ⟨_, rfl, _, rfl, ⟨_, s1.seq (SqL.of hqi)⟩, fun D2 nD2 => lc_list (K := K) (a := qi) (xs := idx.map fun i : Nat => V.int (i : Int)) (fun k H' => Same H1 H' ∧ ∃ ws, H' D2 = some (.lst ws) ∧ LsL H' ws (S.take k) ∧ Off D2 ws) ⟨sm_new nD2, [], upd_same, .nil, fun b hb => absurd hb (by simp)⟩ (fun k H' hi hP => hP.1.seq (s1.seq (SqL.of hqi))) (fun k x H' hx hP => ?_) (fun H2 hP => ?_)⟩
    · obtain ⟨s2, ws, hW, hWs, off⟩ := hP
      obtain ⟨i, hi, rfl⟩ := get_map_nat hx
      have im := ilt i (List.mem_of_getElem? hi)
      have kl := (List.getElem?_eq_some_iff.mp hi).1
      obtain ⟨ra, r, e1, e2, e3⟩ := hL.row im
      have s02 := s1.trans s2
      refine ⟨rfl, ?_⟩
      unfold tYes
      refine iteK rfl ?_
      have ne : ra ≠ D2 := fun z => by rw [z] at e2; rw [s1 _ _ e2] at nD2; cases nD2
      have er : Ms.getD i [] = r := by rw [List.getD_eq_getElem?_getD, e3]; rfl
      refine ⟨_, rfl, _, rfl, a, xs, _, _, rfl, rfl, s02.seq hA, at_of (j := i) rfl e1, ?_⟩
      refine ⟨_, hW, by rw [hWs.len, List.length_take]; exact small1000 (by omega), same_mut s2 nD2, ws ++ [.ref ra], upd_same, ?_, off.snoc ne⟩
      rw [List.take_succ, (Sat k i hi).1, er]
      exact (LsL.snoc hWs (s02 _ _ e2)).upd (off.snoc ne)
    obtain ⟨s2, ws, hW, hWs, _⟩ := hP
    rw [List.take_of_length_le (by rw [List.length_map]; omega)] at hWs
    have s12 := s1.trans s2
    obtain ⟨L, L1, L2, hLs⟩ := solC_all pp ns (fun w hw => by rw [Sl]; exact (Srow w hw).1) (by omega) (getD_mem0 fun w hw => (Srow w hw).2)
    have c200 : (((2 ^ 200 : Nat)) : Int) = (2 : Int) ^ 200 := by decide +kernel
    have unit : ∀ i r : Nat, r < W → ((List.range W).map fun j => if i = j then (1 : Int) else 0).getD r 0 = if r = i then 1 else 0 := fun i r hr => by
      rw [List.getD_eq_getElem?_getD, List.getElem?_map, List.getElem?_range hr]
      show (if i = r then (1 : Int) else 0) = if r = i then 1 else 0
      by_cases c : i = r
      · rw [if_pos c, if_pos c.symm]
      · rw [if_neg c, if_neg fun z => c z.symm]
    have sols : ∀ i, ∃ N, SolC S ((List.range W).map fun j => if i = j then (1 : Int) else 0) p N L := fun i => hLs _ (map_at0 fun j => by split <;> decide)
    obtain ⟨N, hN⟩ := Classical.axiomOfChoice sols
    refine ⟨_, rfl, _, rfl, D2, D1, ws, us, S, _, p, L, rfl, SqL.of hW, hWs, s2.seq (SqL.of hU), hUs.mono s2, ⟨pp, plo, phi, by omega, fun w hw => ⟨by rw [Sl]; exact (Srow w hw).1, ⟨fun x hx => Nat.lt_of_le_of_lt ((Srow w hw).2 x hx) (by decide)⟩⟩, ns⟩, by rw [List.length_map, List.length_range]; omega, fun rs hrs => ?_, fun q1 wq H4 s4 hq1 nq1 an => ?_⟩
    · obtain ⟨i, _, rfl⟩ := List.mem_map.mp hrs
      refine ⟨by rw [List.length_map, List.length_range, Sl], ⟨fun x hx => ?_⟩, N i, hN i⟩
      obtain ⟨j, _, rfl⟩ := List.mem_map.mp hx
      split
      · exact Nat.lt_of_lt_of_le (show (1 : Int).natAbs < 2 ^ 1 by decide) (Nat.pow_le_pow_right (by decide) (by decide))
      · exact Nat.two_pow_pos _
    have s04 := s12.trans s4
    have wql := an.len
    rw [List.length_map, List.length_range] at wql
    have ans : ∀ i, i < W → ∃ (t pn : Addr) (nums : List Int) (d : Int), wq[i]? = some (.ref t) ∧ H4 t = some (.tup [.ref pn, .int d]) ∧ H4 pn = some (.lst (nums.map V.int)) ∧ nums.length = W ∧ 1 ≤ d ∧ d.natAbs < 2 ^ 200 ∧ (∀ j, (nums.getD j 0).natAbs < 2 ^ 440) ∧ ∀ j, nums.getD j 0 * L = N i j * d := fun i hi => by
      obtain ⟨t, pn, nums, d, h1, _, _, h2, h3, nl, d1, db, dL, bn, eq⟩ := an.at_ i ((List.range W).map fun j => if i = j then (1 : Int) else 0) (by rw [List.getElem?_map, List.getElem?_range hi]; rfl)
      have sol := hN i
      have uq := sol.uniq ns pp.two nl eq
      refine ⟨t, pn, nums, d, h1, h2, h3, by omega, d1, ?_, fun j => ?_, uq⟩
      · have := natAbs_le_of_dvd dL (show L ≠ 0 by omega)
        omega
      · obtain ⟨e, he⟩ := dL
        have h1 := uq j
        rw [he] at h1
        have h2 : nums.getD j 0 * e = N i j := by
          refine Int.eq_of_mul_eq_mul_right (show d ≠ 0 by omega) ?_
          rw [← h1]; grind
        have e0 : e ≠ 0 := fun z => by rw [z, Int.mul_zero] at he; omega
        have h3 := sol.NA j
        rw [← h2, Int.natAbs_mul] at h3
        have h4 : (nums.getD j 0).natAbs * 1 ≤ (nums.getD j 0).natAbs * e.natAbs := Nat.mul_le_mul_left _ (Int.natAbs_pos.mpr e0)
        omega
    have hqi4 := s04 _ _ hqi
    have iml : (idx.map fun i : Nat => V.int (i : Int)).length = W := by rw [List.length_map]; exact il
    refine ⟨_, rfl, _, rfl, by omega, by omega, fun D3 nD3 => lc_range (lo := 0) (n := (W : Int).toNat) (fun j H' => Same H4 H' ∧ ∃ ls, H' D3 = some (.lst ls) ∧ ls.length = j ∧ ∀ j', j' < j → ∃ (a : Addr) (ys : List V) (ps : List (Int × Int)), ls[j']? = some (.ref a) ∧ a ≠ D3 ∧ H' a = some (.lst ys) ∧ VF K 510 H' ys ps ∧ ps.length = W ∧ ∀ (i : Nat) (q : Int × Int), ps[i]? = some q → 0 < q.2 ∧ q.1 * L = N i j' * cs.getD (idx.getD i 0) 0 * q.2) ⟨sm_new nD3, [], upd_same, rfl, fun j' h => absurd h (Nat.not_lt_zero _)⟩ (fun j H' hj hP => ?_) (fun H5 hP => ?_)⟩
    · obtain ⟨s5, ls, hD3, lsl, hls⟩ := hP
      have jW : j < W := by omega
      have e0 : (0 : Int) + (j : Int) = (j : Int) := Int.zero_add _
      refine ⟨rfl, ?_⟩
      unfold tYes
      refine iteK rfl ?_
      have hq5 := s5 _ _ hq1
      refine ⟨_, rfl, _, rfl, qi, q1, idx.map (fun i : Nat => V.int (i : Int)), wq, rfl, SqL.of (s5 _ _ hqi4), SqL.of hq5, fun D4 nD4 => lc_zip (K := K) (tt := fun _ H Q => Q true H) (xs := idx.map fun i : Nat => V.int (i : Int)) (ys := wq) (by omega) (fun i H6 => Same H' H6 ∧ ∃ (cs' : List V) (ps : List (Int × Int)), H6 D4 = some (.lst cs') ∧ VF K 510 H6 cs' ps ∧ ps.length = i ∧ ∀ (i' : Nat) (q : Int × Int), ps[i']? = some q → 0 < q.2 ∧ q.1 * L = N i' j * cs.getD (idx.getD i' 0) 0 * q.2) ⟨sm_new nD4, [], [], upd_same, .nil, rfl, fun i' q h => by simp at h⟩ (fun i H6 hP => ⟨hP.1.seq (SqL.of (s5 _ _ hqi4)), hP.1.seq (SqL.of hq5)⟩) (fun i x y tt H6 hx hy hP nT => ?_) (fun H6 hP => ?_)⟩
      · obtain ⟨s6, cs', ps, hD4, hv, psl, hps⟩ := hP
        obtain ⟨i0, hi, rfl⟩ := get_map_nat hx
        have kl := (List.getElem?_eq_some_iff.mp hi).1
        obtain ⟨t, pn, nums, d, h1, h2, h3, nl, d1, db, nb, uq⟩ := ans i (by omega)
        rw [hy] at h1
        cases h1
        have s56 := s5.trans s6
        have sT := sm_new (o := .tup [V.int (i0 : Nat), V.ref t]) nT
        have s7 := s56.trans sT
        refine ⟨tt, _, rfl, SqT.of upd_same, rfl, _, _, rfl, _, _, rfl, ?_⟩
        refine ⟨t, _, rfl, SqT.of (s7 _ _ h2), rfl, _, _, rfl, _, _, rfl, ?_⟩
        refine ⟨rfl, rfl, rfl, ?_⟩
        refine iteK rfl ?_
        have im := ilt i0 (List.mem_of_getElem? hi)
        have hnj := List.getElem?_eq_getElem (show j < nums.length by omega)
        have hci := List.getElem?_eq_getElem (show i0 < cs.length by omega)
        have enj : nums.getD j 0 = nums[j]'(by omega) := by rw [List.getD_eq_getElem?_getD, hnj]; rfl
        have eci : cs.getD i0 0 = cs[i0]'(by omega) := by rw [List.getD_eq_getElem?_getD, hci]; rfl
        have eid : idx.getD i 0 = i0 := by rw [List.getD_eq_getElem?_getD, hi]; rfl
        have nbj := nb j
        rw [enj] at nbj
        have cbi := cb _ (List.mem_of_getElem? hci)
        have dn : d ≠ 0 := by omega
        refine ⟨_, rfl, _, rfl, pn, _, _, _, rfl, rfl, SqL.of (s7 _ _ h3), at_of (j := j) (by omega) (by rw [List.getElem?_map, hnj]; rfl), _, rfl, _, rfl, b, _, _, _, rfl, rfl, (s04.trans s7).seq hB, at_of (j := i0) rfl (by rw [List.getElem?_map, hci]; rfl), _, _, rfl, rfl, mulW nbj cbi (by decide), _, rfl, _, _, 200, rfl, db, by decide, dn, fun p3 dp3 H7 n3 d3 sm3 np3 hp3 f3 => ?_⟩
        have hD6 := sm3 _ _ (sT _ _ hD4)
        have lw : Lw 510 n3 d3 := (lw_of f3 dn (abs_mono (a := 440 + 60) (abs_lt_mul nbj cbi) (show 440 + 60 ≤ 500 by decide)) (abs_mono db (show 200 ≤ 500 by decide))).mono (by decide)
        refine ⟨cs', hD6, by rw [hv.len, psl]; exact small1000 (by omega), same_mut ((s6.trans sT).trans sm3) nD4, cs' ++ [.ref p3], ps ++ [(nums[j]'(by omega) * cs[i0]'(by omega), d)], upd_same, ((hv.mono (sT.trans sm3)).snoc (x := (nums[j]'(by omega) * cs[i0]'(by omega), d)) hp3 lw f3).upd hD6, by rw [List.length_append, psl]; rfl, fun i' q hq => ?_⟩
        by_cases c : i' < ps.length
        · rw [List.getElem?_append_left c] at hq
          exact hps i' q hq
        · have jl := (List.getElem?_eq_some_iff.mp hq).1
          rw [List.length_append, List.length_singleton] at jl
          have ji : i' = i := by omega
          subst ji
          rw [List.getElem?_append_right (by omega), psl, Nat.sub_self] at hq
          cases hq
          refine ⟨by show 0 < d; omega, ?_⟩
          rw [eid, eci]
          show nums[j]'(by omega) * cs[i0]'(by omega) * L = N i' j * cs[i0]'(by omega) * d
          have u := uq j
          rw [enj] at u
          calc nums[j]'(by omega) * cs[i0]'(by omega) * L = nums[j]'(by omega) * L * cs[i0]'(by omega) := by grind
            _ = N i' j * d * cs[i0]'(by omega) := by rw [u]
            _ = N i' j * cs[i0]'(by omega) * d := by grind
      · obtain ⟨s6, cs', ps, hD4, hv, psl, hps⟩ := hP
        rw [iml] at psl
        have hD36 := s6 _ _ hD3
        have ne : D4 ≠ D3 := fun z => by rw [z, hD3] at nD4; cases nD4
        refine ⟨ls, hD36, by rw [lsl]; exact small1000 (by omega), same_mut (s5.trans s6) nD3, ls ++ [.ref D4], upd_same, by rw [List.length_append, lsl]; rfl, fun j' hj' => ?_⟩
        by_cases c : j' < j
        · obtain ⟨a', ys', ps', k1, k2, k3, k4, k5⟩ := hls j' c
          exact ⟨a', ys', ps', by rw [List.getElem?_append_left (by omega)]; exact k1, k2, by rw [upd_ne k2]; exact s6 _ _ k3, (k4.mono s6).upd hD36, k5⟩
        · have : j' = j := by omega
          subst this
          exact ⟨D4, cs', ps, by rw [List.getElem?_append_right (by omega), lsl, Nat.sub_self]; rfl, ne, by rw [upd_ne ne]; exact hD4, hv.upd hD36, psl, hps⟩
    obtain ⟨s5, ls, hD3, lsl, hls⟩ := hP
    rw [show (W : Int).toNat = W by omega] at lsl hls
    have s05 := s04.trans s5
    -- the rows
    refine ⟨_, rfl, _, rfl, ⟨_, SqL.of hD3⟩, fun D5 nD5 => lc_list (K := K) (a := D3) (xs := ls) (fun j H' => Same H5 H' ∧ ∃ ws, H' D5 = some (.lst ws) ∧ InvQ K H D5 H' ws W Ms cs L j) ⟨sm_new nD5, [], upd_same, rfl, fun j h => absurd h (Nat.not_lt_zero _)⟩ (fun j H' hj hP => hP.1.seq (SqL.of hD3)) (fun j x H' hx hP => ?_) (fun H6 hP => ?_)⟩
    · obtain ⟨s6, ws6, hD5, iq⟩ := hP
      have jl := (List.getElem?_eq_some_iff.mp hx).1
      have jW : j < W := by omega
      obtain ⟨a', ys, ps, k1, k2, k3, k4, k5, k6⟩ := hls j jW
      rw [hx] at k1
      cases k1
      have s06 := s05.trans s6
      refine ⟨rfl, ?_⟩
      unfold tYes
      refine iteK rfl ?_
      refine ⟨_, rfl, _, rfl, _, rfl, _, _, rfl, .inl (s06.seq hA), qi, a', idx, ys, ps, Ms.length, 510, (), by rw [xl]; rfl, SqL.of (s06 _ _ hqi), SqL.of (s6 _ _ k3), k4.mono s6, by omega, ilt, by omega, by decide, fun D6 H7 ws7 s7 hD6 nD6 hv7 => ?_⟩
      have hD57 := s7 _ _ hD5
      have ne : D6 ≠ D5 := fun z => by rw [z, hD5] at nD6; cases nD6
      have wl := iq.len
      refine ⟨ws6, hD57, by rw [wl]; exact small1000 (by omega), same_mut (s6.trans s7) nD5, ws6 ++ [.ref D6], upd_same, by rw [List.length_append, wl]; rfl, fun j' hj' => ?_⟩
      by_cases c : j' < j
      · obtain ⟨b', ys', ps', z', m1, m2, m3, m4, m5, m6⟩ := iq.at_ j' c
        exact ⟨b', ys', ps', z', by rw [List.getElem?_append_left (by omega)]; exact m1, m2, m3, by rw [upd_ne m2]; exact s7 _ _ m4, (m5.mono s7).upd hD57, m6⟩
      · have : j' = j := by omega
        subst this
        refine ⟨D6, ws7, _, spr idx (fun i => N i j') 0, by rw [List.getElem?_append_right (by omega), wl, Nat.sub_self]; rfl, ne, s06.free nD6, by rw [upd_ne ne]; exact hD6, hv7.upd hD57, ?_, fun k hk => ?_⟩
        · have vq := spr_vec (n := Ms.length) (js := idx) (xs := ps) (y := fun i => N i j' * cs.getD (idx.getD i 0) 0) (den := L) nd ilt (by omega) L1 fun i q hq => k6 i q hq
          refine ⟨vq.len, L1, fun r hr => ?_⟩
          obtain ⟨q0, v1, v2, v3⟩ := vq.at_ r hr
          refine ⟨q0, v1, v2, ?_⟩
          rw [v3]
          by_cases c2 : r ∈ idx
          · obtain ⟨i, hi⟩ := List.getElem?_of_mem c2
            have eid : idx.getD i 0 = r := by rw [List.getD_eq_getElem?_getD, hi]; rfl
            have e1 := spr_at (z := fun i => N i j' * cs.getD (idx.getD i 0) 0) (t := 0) nd hi
            have e2 := spr_at (z := fun i => N i j') (t := 0) nd hi
            rw [e1, e2, Nat.zero_add, eid]
          · rw [spr_out c2, spr_out c2]
            simp
        · rw [spr_dI]
          have e1 : (idx.map fun c => (Ms.map fun r => r.getD k 0).getD c 0) = idx.map fun i => mat Ms i k := List.map_congr_left fun c _ => col_getD Ms k c
          rw [e1, dI_sum _ _ 0 W (by rw [List.length_map]; omega)]
          have e2 := inv_left (S := S) (n := W) (p := (p : Int)) (L := L) (N := N) (by have := pp.two; omega) Sl ns (fun i r w hi hr => by
            have il2 := (List.getElem?_eq_some_iff.mp hr).1
            rw [(hN i).eq r w hr, unit i r (by omega)]
            split
            · rw [Int.one_mul]
            · rw [Int.zero_mul]) (fun i j _ hj => (hN i).z j (by omega)) hk jW
          rw [← e2]
          refine sumTo_congr _ fun i hi => ?_
          rw [Nat.zero_add]
          have hid := List.getElem?_eq_getElem (show i < idx.length by omega)
          have h1 := (Sat i _ hid).1
          have e3 : S.getD i [] = Ms.getD (idx[i]'(by omega)) [] := by rw [List.getD_eq_getElem?_getD, h1]; rfl
          rw [e3, List.getD_eq_getElem?_getD, List.getElem?_map, hid]
          rfl
    · obtain ⟨s6, ws6, hD5, iq⟩ := hP
      rw [lsl] at iq
      exact q D5 ws6 L H6 (s05.trans s6) (s05.free nD5) hD5 iq

theorem ok_first_gap (T : Tx K mg) : OkF P w K mg base 1 (He.fAd K ("first_gap", none)) ["columns"] (spGap K) := by
  refine okF_of (d := d_first_gap) T.d_first_gap rfl sc_first_gap (fun _ _ _ _ _ _ us hl => match us, hl with | [_], _ => rfl) (fun vs H Q E h => ?_) (fun cdv A outer s H vs Q E hr h => ?_)
  · (obtain ⟨_, _, _, rfl, _⟩ := h; rfl)
  · obtain ⟨a, cols, _, rfl, hA, cl, q⟩ := h
    refine ⟨_, (pss_cons (ps_setI (i := 1) sc_first_gap.nd rfl (Or.inl rfl) pe_int)
      (pss_cons (ps_while PassesOwn.leaving (PW.pt (pw_and (pt_cmpR op_lt (pv 1) (pe_callB call_len_seq (by rfl) T.z_len PySem.boot_len (pa_cons (pv 0) pa_nil)) (nomark _)) (pw_and1 (pt_cmpR op_eq (pe_ix ix_list (pv 0) (pv 1) (fun _ _ => rfl)) (pv 1) (nomark _))))) (pss_one (ps_setI (i := 1) sc_first_gap.nd rfl (Or.inl rfl) (pe_op op_add (pv 1) pe_int))))
      (pss_one (ps_ret (pv 1))))), ?_⟩
    refine ⟨_, rfl, fun c0 ec0 => ?_⟩
    obtain rfl : c0 = ((0 : Nat) : Int) := ec0
    have ml : (cols.map fun i : Nat => V.int (i : Int)).length = cols.length := by rw [List.length_map]
    refine ⟨fun m σ' H' => H = H' ∧ ∃ c : Nat, σ' = [some (.ref a), some (.int (c : Int))] ∧ m = cols.length - c ∧ c ≤ cols.length ∧ ∀ i, i < c → cols[i]? = some i, ⟨_, rfl, 0, rfl, rfl, Nat.zero_le _, fun i hi => absurd hi (Nat.not_lt_zero _)⟩, ?_⟩
    rintro m _ _ ⟨rfl, c, rfl, rfl, c1, hc⟩
    refine ⟨_, rfl, _, rfl, _, _, rfl, .inl hA, _, _, rfl, rfl, _, rfl, iteD (fun k => ?_) (fun k => iteF ?_)⟩
    · rw [ml] at k
      have k2 : c < cols.length := by omega
      have e := List.getElem?_eq_getElem k2
      refine ⟨_, rfl, _, rfl, _, _, _, _, rfl, rfl, hA, at_of (j := c) rfl (by rw [List.getElem?_map, e]; rfl), _, rfl, rfl, _, rfl, iteEq (fun w => ?_) (fun w => ?_)⟩
      · refine ⟨fun σ2 H2 => ∃ m', m' < cols.length - c ∧ H = H2 ∧ ∃ c : Nat, σ2 = [some (.ref a), some (.int (c : Int))] ∧ m' = cols.length - c ∧ c ≤ cols.length ∧ ∀ i, i < c → cols[i]? = some i, fun _ _ h => h, ?_⟩
        refine ⟨_, rfl, _, _, rfl, rfl, _, rfl, fun c2 ec2 => ?_⟩
        obtain rfl : c2 = ((c + 1 : Nat) : Int) := by rw [ec2]; rfl
        refine ⟨cols.length - (c + 1), by omega, rfl, c + 1, rfl, rfl, by omega, fun i hi => ?_⟩
        by_cases z : i < c
        · exact hc i z
        · have : i = c := by omega
          subst this
          rw [e]
          have : cols[i] = i := by omega
          rw [this]
      · refine ⟨_, rfl, q c c1 hc fun x hx => ?_⟩
        rw [e] at hx
        cases hx
        omega
    · rw [ml] at k
      refine ⟨_, rfl, q c c1 hc fun x hx => ?_⟩
      have := (List.getElem?_eq_some_iff.mp hx).1
      omega

theorem ok__kernel_vector (T : Tx K mg) (O_solved : OkF P w K mg base 6 (He.fAd K ("solved", none)) ["square", "rights", "prime"] (spSlvd K)) (O_inner : OkF P w K mg base 1 (He.fAd K ("inner", none)) ["first", "second"] (spInn K)) (O_Fraction___init__ : OkD P w K mg base 1 (He.fAd K ("Fraction", some "__init__")) ["self", "num", "den"] (He.Dv.v K (.int 1)) (spInit K)) (O__spread : OkF P w K mg base 3 (He.fAd K ("_spread", none)) ["places", "entries", "length"] (spSpr K)) : OkF P w K mg base 7 (He.fAd K ("_kernel_vector", none)) ["matrix", "width", "indexes", "count", "prime"] (spKVec K) := by
  obtain ⟨_, G_solved, b_solved, k_solved⟩ := O_solved
  obtain ⟨_, G_inner, b_inner, k_inner⟩ := O_inner
  obtain ⟨_, G_Fraction___init__, b_Fraction___init__, ⟨_, v_Fraction___init__, bd_Fraction___init__⟩, k_Fraction___init__⟩ := O_Fraction___init__
  obtain ⟨_, G__spread, b__spread, k__spread⟩ := O__spread
  refine okF_of (d := d__kernel_vector) T.d__kernel_vector rfl sc__kernel_vector (fun _ _ _ _ _ _ us hl => match us, hl with | [_, _, _, _, _], _ => rfl) (fun vs H Q E h => ?_) (fun cdv A outer s H vs Q E hr h => ?_)
  · (obtain ⟨_, _, _, _, _, _, _, _, _, _, _, rfl, _⟩ := h; rfl)
  · obtain ⟨a, qi, xs, Ms, W, p, count, D, idx, rest, _, rfl, hA, hL, hqi, P, pp, plo, phi, cW, ci, i100, ilt, pI, qN, q⟩ := h
    have xl := hL.len
    have w11 := P.w11
    have m24 := P.m24
    have rl : ∀ (i : Nat) (r : List Int), Ms[i]? = some r → r.length = W := fun i r h => (P.ls r (List.mem_of_getElem? h)).1
    obtain ⟨I, eI⟩ : ∃ I, idx.take count = I := ⟨_, rfl⟩
    rw [eI] at pI
    have Il : I.length = count := by rw [← eI, List.length_take]; omega
    have Ilt : ∀ i ∈ I, i < Ms.length := fun i hi => ilt i (by rw [← eI] at hi; exact List.mem_of_mem_take hi)
    refine ⟨_, (pss_cons (ps_setLc (i := 5) (own := [("i", 10)]) (g := gName 10) rfl sc__kernel_vector.nd rfl rfl (sw_true rfl rfl rfl (by decide +kernel)) (pi_list (pe_slice sl_list (pv 2) po_none (po_some (pv 3)))) (blkOk_by (own := [("i", 10)]) (N := N__kernel_vector) (sc := defScope s__kernel_vector) (by decide +kernel)) (fun _ _ _ _ _ => (pg_name (i := 10) sc__kernel_vector.nd rfl (Or.inl rfl))) (fun _ _ _ _ _ => pts_nil) (fun _ _ _ _ _ => (pe_ix (show IxR _ (rIxL K) from ix_list) (pv 0) (pv 10) (fun _ _ => rfl))))
      (pss_cons (ps_asg (pe_ix ix_list (pe_call G_solved (hr.mono (by decide)) (by rfl) T.g_solved k_solved b_solved .nil passL (pa_cons (pe_lc (own := [("row", 9)]) (g := gName 9) rfl sc__kernel_vector.nd (pi_list (pv 5)) (blkOk_by (own := [("row", 9)]) (N := N__kernel_vector) (sc := defScope s__kernel_vector) (by decide +kernel)) (fun _ _ _ _ _ => (pg_name (i := 9) sc__kernel_vector.nd rfl (Or.inl rfl))) (fun _ _ _ _ _ => pts_nil) (fun _ _ _ _ _ => (pe_slice (show SlR _ (rSlL K) from sl_list) (pv 9) po_none (po_some (pv 3))))) (pa_cons (pe_lst (pa_cons (pe_lc (own := [("row", 9)]) (g := gName 9) rfl sc__kernel_vector.nd (pi_list (pv 5)) (blkOk_by (own := [("row", 9)]) (N := N__kernel_vector) (sc := defScope s__kernel_vector) (by decide +kernel)) (fun _ _ _ _ _ => (pg_name (i := 9) sc__kernel_vector.nd rfl (Or.inl rfl))) (fun _ _ _ _ _ => pts_nil) (fun _ _ _ _ _ => (pe_un un_neg (pe_ix (show IxR _ (rIxL K) from ix_list) (pv 9) (pv 3) (fun _ _ => rfl))))) pa_nil)) (pa_cons (pv 4) pa_nil)))) pe_int (fun _ _ => rfl)) (pg_tup rfl (pgs_cons (pg_name (i := 6) sc__kernel_vector.nd rfl (Or.inl rfl)) (pgs_cons (pg_name (i := 7) sc__kernel_vector.nd rfl (Or.inl rfl)) pgs_nil))))
      (pss_cons (ps_set (i := 8) sc__kernel_vector.nd rfl (Or.inl rfl) (pe_op op_cat (pv 6) (pe_lst (pa_cons (pv 7) pa_nil))))
      (pss_cons (ps_for PassesOwn.leaving rfl (pi_list (pv 0)) (pg_name (i := 9) sc__kernel_vector.nd rfl (Or.inl rfl)) (pss_one (ps_if (pt_cmpR op_ne (pe_call G_inner (hr.mono (by decide)) (by rfl) T.g_inner k_inner b_inner .nil passL (pa_cons (pe_slice sl_list (pv 9) po_none (po_some (pe_op op_add (pv 3) pe_int))) (pa_cons (pv 8) pa_nil))) pe_int (nomark _)) (pss_one (ps_ret pe_non)) pss_nil)))
      (pss_one (ps_ret (pe_call G__spread (hr.mono (by decide)) (by rfl) T.g__spread k__spread b__spread .nil passL (pa_cons (pe_listRg rfl (by rfl) T.z_list (prg_1 (by rfl) T.z_range (pe_op op_add (pv 3) pe_int))) (pa_cons (pe_lc (own := [("x", 11)]) (g := gName 11) rfl sc__kernel_vector.nd (pi_list (pv 8)) (blkOk_by (own := [("x", 11)]) (N := N__kernel_vector) (sc := defScope s__kernel_vector) (by decide +kernel)) (fun _ _ _ _ _ => (pg_name (i := 11) sc__kernel_vector.nd rfl (Or.inl rfl))) (fun _ _ _ _ _ => pts_nil) (fun _ _ _ _ _ => (pe_makeI T.mk_Fraction G_Fraction___init__ (hr.mono (by decide)) (by rfl) T.g_Fraction bd_Fraction___init__ v_Fraction___init__ passL (mkFr_conv K [_]) (pa_cons (pv 11) pa_nil)))) (pa_cons (pv 1) pa_nil)))))))))), ?_⟩
    refine ⟨_, rfl, _, rfl, _, rfl, _, _, rfl, SqL.of hqi, fun pk npk => ?_⟩
    rw [cut_lo (by rw [List.length_map]; omega), ← List.map_take, eI]
    have sK := sm_new (o := .lst (I.map fun i : Nat => V.int (i : Int))) npk
    obtain ⟨HK, eHK⟩ : ∃ HK, upd H pk (.lst (I.map fun i : Nat => V.int (i : Int))) = HK := ⟨_, rfl⟩
    have hpk : HK pk = some (.lst (I.map fun i : Nat => V.int (i : Int))) := by rw [← eHK]; exact upd_same
    rw [eHK] at sK ⊢
    refine ⟨pk, rfl, ⟨_, SqL.of hpk⟩, fun D1 nD => lc_list (K := K) (a := pk) (xs := I.map fun i : Nat => V.int (i : Int)) (fun k H' => Same HK H' ∧ ∃ us, H' D1 = some (.lst us) ∧ LsL H' us ((I.take k).map fun i => Ms.getD i []) ∧ Off D1 us) ⟨sm_new nD, [], upd_same, .nil, fun b hb => absurd hb (by simp)⟩ (fun k H' hi hP => hP.1.seq (SqL.of hpk)) (fun k x H' hx hP => ?_) (fun H1 hP => ?_)⟩
    · obtain ⟨s4, us, hU, hUs, off⟩ := hP
      obtain ⟨i, hi, rfl⟩ := get_map_nat hx
      have im := Ilt i (List.mem_of_getElem? hi)
      have kl := (List.getElem?_eq_some_iff.mp hi).1
      obtain ⟨ra, r, e1, e2, e3⟩ := hL.row im
      have s04 := sK.trans s4
      refine ⟨rfl, ?_⟩
      unfold tYes
      refine iteK rfl ?_
      have ne : ra ≠ D1 := fun z => by rw [z] at e2; rw [sK _ _ e2] at nD; cases nD
      have er : Ms.getD i [] = r := by rw [List.getD_eq_getElem?_getD, e3]; rfl
      refine ⟨_, rfl, _, rfl, a, xs, _, _, rfl, rfl, s04.seq hA, at_of (j := i) rfl e1, ?_⟩
      refine ⟨_, hU, by rw [hUs.len, List.length_map, List.length_take]; exact small1000 (by omega), same_mut s4 nD, us ++ [.ref ra], upd_same, ?_, off.snoc ne⟩
      rw [List.take_succ, hi, List.map_append]
      show LsL _ _ (_ ++ [Ms.getD i []])
      rw [er]
      exact (LsL.snoc hUs (s04 _ _ e2)).upd (off.snoc ne)
    obtain ⟨s1, us, hU, hUs, _⟩ := hP
    rw [List.length_map, List.take_length] at hUs
    have ul := hUs.len
    rw [List.length_map] at ul
    have s01 := sK.trans s1
    have usI : ∀ (i : Nat) (r : List Int), (I.map fun i => Ms.getD i [])[i]? = some r → ∃ i0, I[i]? = some i0 ∧ Ms[i0]? = some r := fun i r h => by
      rw [List.getElem?_map] at h
      cases e : I[i]? with
      | none => rw [e] at h; cases h
      | some i0 =>
        rw [e] at h
        refine ⟨i0, rfl, ?_⟩
        have il := Ilt i0 (List.mem_of_getElem? e)
        rw [← Option.some.inj h]
        show Ms[i0]? = some (Ms.getD i0 [])
        rw [List.getD_eq_getElem?_getD, List.getElem?_eq_getElem il]
        rfl
    -- the square
    refine ⟨_, rfl, _, rfl, ⟨_, SqL.of hU⟩, fun D2 nD2 => lc_list (K := K) (a := D1) (xs := us) (fun k H' => Same H1 H' ∧ ∃ ws, H' D2 = some (.lst ws) ∧ LsL H' ws (sq Ms (I.take k) (List.range count)) ∧ Off D2 ws) ⟨sm_new nD2, [], upd_same, .nil, fun b hb => absurd hb (by simp)⟩ (fun k H' hi hP => hP.1.seq (SqL.of hU)) (fun k x H' hx hP => ?_) (fun H2 hP => ?_)⟩
    · obtain ⟨s2, ws, hW, hWs, off⟩ := hP
      obtain ⟨r, ra, hr2, rfl, hra⟩ := hUs.item hx
      obtain ⟨i0, hi, e3⟩ := usI k r hr2
      have kl := (List.getElem?_eq_some_iff.mp hi).1
      refine ⟨rfl, ?_⟩
      unfold tYes
      refine iteK rfl ?_
      refine ⟨_, rfl, _, rfl, _, rfl, _, _, rfl, s2.seq (SqL.of hra), fun pc npc => ?_⟩
      rw [cut_lo (by rw [len_map, rl i0 r e3]; omega), ← List.map_take, mat_row e3 (by rw [rl i0 r e3]; omega)]
      have s3 := sm_new (o := .lst (((List.range count).map fun c => mat Ms i0 c).map V.int)) npc
      have hW3 := s3 _ _ hW
      have ne : pc ≠ D2 := fun z => by rw [z, hW] at npc; cases npc
      refine ⟨_, hW3, ?_, same_mut (s2.trans s3) nD2, ws ++ [.ref pc], upd_same, ?_, off.snoc ne⟩
      · rw [hWs.len]; unfold sq; rw [List.length_map, List.length_take]; exact small1000 (by omega)
      · unfold sq at hWs ⊢
        rw [List.take_succ, hi, List.map_append]
        exact (LsL.snoc (hWs.mono s3) upd_same).upd (off.snoc ne)
    obtain ⟨s2, ws, hW, hWs, _⟩ := hP
    rw [List.take_of_length_le (by omega)] at hWs
    -- the right side
    refine ⟨_, rfl, _, rfl, ⟨_, s2.seq (SqL.of hU)⟩, fun D3 nD3 => lc_list (K := K) (a := D1) (xs := us) (fun k H' => Same H2 H' ∧ H' D3 = some (.lst (((I.take k).map fun i => -(mat Ms i count)).map V.int))) ⟨sm_new nD3, upd_same⟩ (fun k H' hi hP => hP.1.seq (s2.seq (SqL.of hU))) (fun k x H' hx hP => ?_) (fun H3 hP => ?_)⟩
    · obtain ⟨s3, hE⟩ := hP
      obtain ⟨r, ra, hr2, rfl, hra⟩ := hUs.item hx
      obtain ⟨i0, hi, e3⟩ := usI k r hr2
      have kl := (List.getElem?_eq_some_iff.mp hi).1
      refine ⟨rfl, ?_⟩
      unfold tYes
      refine iteK rfl ?_
      refine ⟨_, rfl, _, rfl, ra, _, _, _, rfl, rfl, (s2.trans s3).seq (SqL.of hra), at_of (j := count) rfl (mat_cell e3 (by rw [rl i0 r e3]; omega)), _, rfl, ?_⟩
      refine ⟨_, hE, by rw [len_map, List.length_map, List.length_take]; exact small1000 (by omega), same_mut s3 nD3, ?_⟩
      rw [upd_same, List.take_succ, hi, List.map_append, List.map_append]
      rfl
    obtain ⟨s3, hE⟩ := hP
    rw [List.take_of_length_le (by omega)] at hE
    refine ⟨by show 1 ≤ sizeLine; decide, fun F nF => ?_⟩
    have sF := sm_new (o := .lst [.ref D3]) nF
    have s03 := (s01.trans s2).trans (s3.trans sF)
    have ns := ns_of_piv pI
    have sl : (sq Ms I (List.range count)).length = count := by unfold sq; rw [List.length_map, Il]
    have lsS : ∀ w ∈ sq Ms I (List.range count), w.length = (sq Ms I (List.range count)).length ∧ Bits 60 w := fun w hw => by
      obtain ⟨i, _, rfl⟩ := List.mem_map.mp hw
      refine ⟨by rw [sl, List.length_map, List.length_range], ⟨fun x hx => ?_⟩⟩
      obtain ⟨c, _, rfl⟩ := List.mem_map.mp hx
      exact Nat.lt_of_le_of_lt (P.at_ i c) (by decide)
    obtain ⟨L, L1, L2, hLs⟩ := solC_all pp ns (fun w hw => (lsS w hw).1) (by omega) (mapmap_at P.at_)
    obtain ⟨N, sol⟩ := hLs (I.map fun i => -(mat Ms i count)) (map_at0 fun i => by rw [Int.natAbs_neg]; exact Nat.le_trans (P.at_ i count) (by decide))
    refine ⟨_, rfl, D2, F, ws, [.ref D3], sq Ms I (List.range count), [I.map fun i => -(mat Ms i count)], p, L, rfl, (s3.trans sF).seq (SqL.of hW), hWs.mono (s3.trans sF), SqL.of upd_same, (LsL.snoc (ws := []) .nil (sF _ _ hE)), ⟨pp, plo, phi, by omega, lsS, ns⟩, by show 1 ≤ 20; decide, fun rs hrs => ?_, fun q1 wq H4 s4 hq1 nq1 an => ?_⟩
    · rw [List.mem_singleton.mp hrs]
      refine ⟨by rw [List.length_map, sl, Il], ⟨fun x hx => ?_⟩, N, sol⟩
      obtain ⟨i, _, rfl⟩ := List.mem_map.mp hx
      rw [Int.natAbs_neg]
      exact Nat.lt_of_le_of_lt (P.at_ i count) (by decide)
    obtain ⟨t1, pn, nums, d, hw0, _, _, ht1, hpn, nl, d1, db, dL, bn, eq⟩ := an.at_ 0 _ rfl
    have s04 := s03.trans s4
    refine ⟨q1, _, 0, _, rfl, rfl, SqL.of hq1, at_of (j := 0) rfl hw0, ?_⟩
    refine ⟨t1, _, rfl, SqT.of ht1, rfl, _, _, rfl, _, _, rfl, rfl, ?_⟩
    refine ⟨_, rfl, _, rfl, by show 1 ≤ sizeLine; decide, fun L1a nL1 => ?_⟩
    have u1 := sm_new (o := .lst [V.int d]) nL1
    have nl2 : nums.length = count := by rw [nl, sl]
    refine ⟨pn, L1a, _, _, rfl, rfl, u1 _ _ hpn, upd_same, by rw [len_map]; exact small1000 (by omega), fun L2a nL2 => ?_⟩
    have u2 := sm_new (o := .lst (nums.map V.int ++ [V.int d])) nL2
    have hV : (upd (upd H4 L1a (.lst [V.int d])) L2a (.lst (nums.map V.int ++ [V.int d]))) L2a = some (.lst ((nums ++ [d]).map V.int)) := by rw [upd_same, List.map_append]; rfl
    have u12 := u1.trans u2
    generalize upd (upd H4 L1a (.lst [V.int d])) L2a (.lst (nums.map V.int ++ [V.int d])) = H5 at u12 hV ⊢
    have s05 := s04.trans u12
    -- sizes
    have uq := sol.uniq ns pp.two nl eq
    have nb : ∀ j, (nums.getD j 0).natAbs < 2 ^ 440 := fun j => by
      obtain ⟨e, he⟩ := dL
      have h1 := uq j
      rw [he] at h1
      have h2 : nums.getD j 0 * e = N j := by
        refine Int.eq_of_mul_eq_mul_right (show d ≠ 0 by omega) ?_
        rw [← h1]; grind
      have e0 : e ≠ 0 := fun z => by rw [z, Int.mul_zero] at he; omega
      have h3 := sol.NA j
      rw [← h2, Int.natAbs_mul] at h3
      have h4 : (nums.getD j 0).natAbs * 1 ≤ (nums.getD j 0).natAbs * e.natAbs := Nat.mul_le_mul_left _ (Int.natAbs_pos.mpr e0)
      omega
    have db2 : d.natAbs < 2 ^ 200 := by
      have h1 := natAbs_le_of_dvd dL (show L ≠ 0 by omega)
      have c200 : (((2 ^ 200 : Nat)) : Int) = (2 : Int) ^ 200 := by decide +kernel
      omega
    have bv : Bits 2100 (nums ++ [d]) := ⟨fun x hx => by
      rcases List.mem_append.mp hx with c | c
      · exact bn.all x c
      · rw [List.mem_singleton.mp c]; exact abs_mono db2 (by decide)⟩
    have bv2 : ∀ x ∈ nums ++ [d], x.natAbs < 2 ^ 441 := fun x hx => by
      rcases List.mem_append.mp hx with c | c
      · obtain ⟨k, hk⟩ := List.getElem?_of_mem c
        have := nb k
        rw [List.getD_eq_getElem?_getD, hk] at this
        exact abs_mono (a := 440) this (by decide)
      · rw [List.mem_singleton.mp c]; exact abs_mono db2 (by decide)
    have row : ∀ i ∈ I, dI ((List.range count).map fun c => mat Ms i c) (fun j => nums.getD j 0) 0 = -(mat Ms i count) * d := fun i hi => by
      obtain ⟨k, hk⟩ := List.getElem?_of_mem hi
      have e := eq k ((List.range count).map fun c => mat Ms i c) (by unfold sq; rw [List.getElem?_map, hk]; rfl)
      rw [e, List.getD_eq_getElem?_getD, List.getElem?_map, hk]
      rfl
    have dots : ∀ i (r : List Int), Ms[i]? = some r → dotI (r.take (count + 1)) (nums ++ [d]) = dI ((List.range count).map fun c => mat Ms i c) (fun j => nums.getD j 0) 0 + mat Ms i count * d := fun i r hr => by
      have hl := rl i r hr
      rw [mat_row hr (by omega), dot_dI (z := fun j => (nums ++ [d]).getD j 0) (t := 0) (fun j => by rw [Nat.zero_add]) (by rw [List.length_map, List.length_range, List.length_append, nl2]; rfl), List.range_succ, List.map_append, dI_append, List.length_map, List.length_range, Nat.zero_add]
      have e1 : dI ((List.range count).map fun c => mat Ms i c) (fun j => (nums ++ [d]).getD j 0) 0 = dI ((List.range count).map fun c => mat Ms i c) (fun j => nums.getD j 0) 0 := dI_congr fun j _ hj => by
        rw [List.length_map, List.length_range] at hj
        show (nums ++ [d]).getD j 0 = nums.getD j 0
        rw [List.getD_eq_getElem?_getD, List.getElem?_append_left (by omega), List.getD_eq_getElem?_getD]
      rw [e1]
      show _ + (mat Ms i count * (nums ++ [d]).getD count 0 + 0) = _
      rw [List.getD_eq_getElem?_getD, List.getElem?_append_right (by omega), nl2, Nat.sub_self]
      show _ + (mat Ms i count * d + 0) = _
      rw [Int.add_zero]
    refine ⟨_, rfl, _, rfl, ⟨_, s05.seq hA⟩, for_list (K := K) (a := a) (xs := xs) (fun i σ' H' => ∃ y9 : Option V, σ' = [some (.ref a), some (.int (W : Int)), some (.ref qi), some (.int (count : Int)), some (.int (p : Int)), some (.ref D1), some (.ref pn), some (.int d), some (.ref L2a), y9, none, none] ∧ Same H5 H' ∧ ∀ (j : Nat) (r : List Int), j < i → Ms[j]? = some r → dotI (r.take (count + 1)) (nums ++ [d]) = 0) ⟨none, rfl, .refl _, fun j r hj => absurd hj (Nat.not_lt_zero _)⟩ (fun i σ' H' hi hI => ?_) (fun i x σ' H' hi hI => ?_) (fun σ' H' hI => ?_)⟩
    · obtain ⟨y9, rfl, s6, _⟩ := hI
      exact (s05.trans s6).seq hA
    · obtain ⟨y9, rfl, s6, ok⟩ := hI
      obtain ⟨r, ra, hr, rfl, hra⟩ := hL.item hi
      have s06 := s05.trans s6
      have hl := rl i r hr
      refine ⟨_, rfl, _, rfl, _, _, rfl, rfl, _, rfl, _, _, rfl, s06.seq (SqL.of hra), fun pc npc => ?_⟩
      rw [show (count : Int) + 1 = ((count + 1 : Nat) : Int) by rfl, cut_lo (by rw [len_map]; omega), ← List.map_take]
      have s7 := sm_new (o := .lst ((r.take (count + 1)).map V.int)) npc
      refine ⟨_, rfl, pc, L2a, r.take (count + 1), nums ++ [d], 60, 2100, rfl, SqL.of upd_same, SqL.of (s7 _ _ (s6 _ _ hV)), by rw [List.length_take, List.length_append, nl2]; show _ = count + 1; omega, by rw [List.length_take]; omega, fun x hx => ?_, bv.all, by omega, fun H7 s8 => ?_⟩
      · exact Nat.lt_of_le_of_lt ((P.ls r (List.mem_of_getElem? hr)).2 x (List.mem_of_mem_take hx)) (by decide)
      refine ⟨rfl, _, rfl, iteEqN (fun ne => ?_) (fun eq2 => ?_)⟩
      · rw [dots i r hr] at ne
        have ind := ker_ind (p := (p : Int)) (by have := pp.two; omega) Il ns (show d ≠ 0 by omega) row ne
        obtain ⟨w, w1, w2, w3⟩ := ker_w pp pI Il (H := 11664) (by decide) P.at_
        exact qN (P.bad p count w pp cW ind w1 w2 w3) _ ((s06.trans s7).trans s8)
      · refine ⟨_, rfl, (s6.trans s7).trans s8, fun j r' hj hr' => ?_⟩
        by_cases c : j < i
        · exact ok j r' c hr'
        · have : j = i := by omega
          subst this
          rw [hr] at hr'
          cases hr'
          exact eq2
    obtain ⟨y9, rfl, s6, ok⟩ := hI
    have s06 := s05.trans s6
    refine ⟨_, rfl, _, _, rfl, rfl, _, rfl, ⟨by omega, by omega, by omega, by omega, by omega⟩, fun rg nrg => ?_⟩
    have er : rgV 0 ((count : Int) + 1) = (List.range (count + 1)).map fun i : Nat => V.int (i : Int) := by
      unfold rgV
      rw [show ((count : Int) + 1 - 0).toNat = count + 1 by omega]
      exact List.map_congr_left fun i _ => by rw [Int.zero_add]
    rw [er]
    have s7 := sm_new (o := .lst ((List.range (count + 1)).map fun i : Nat => V.int (i : Int))) nrg
    obtain ⟨HG, eHG⟩ : ∃ HG, upd H' rg (.lst ((List.range (count + 1)).map fun i : Nat => V.int (i : Int))) = HG := ⟨_, rfl⟩
    have hrg : HG rg = some (.lst ((List.range (count + 1)).map fun i : Nat => V.int (i : Int))) := by rw [← eHG]; exact upd_same
    rw [eHG] at s7 ⊢
    have hV7 := s7 _ _ (s6 _ _ hV)
    refine ⟨_, rfl, _, rfl, ⟨_, SqL.of hV7⟩, fun D4 nD4 => lc_list (K := K) (a := L2a) (xs := (nums ++ [d]).map V.int) (fun k H2 => Same HG H2 ∧ ∃ cs, H2 D4 = some (.lst cs) ∧ VF K 441 H2 cs (((nums ++ [d]).take k).map fun x => (x, 1))) ⟨sm_new nD4, [], upd_same, .nil⟩ (fun k H2 hi hP => hP.1.seq (SqL.of hV7)) (fun k x H2 hx hP => ?_) (fun H6 hP => ?_)⟩
    · obtain ⟨s8, cs, hD4, hv⟩ := hP
      obtain ⟨y, hy, rfl⟩ := get_map_int hx
      have kl := (List.getElem?_eq_some_iff.mp hy).1
      rw [List.length_append, List.length_singleton] at kl
      refine ⟨rfl, ?_⟩
      unfold tYes
      refine iteK rfl ?_
      refine ⟨_, rfl, _, _, 1, rfl, by decide, by decide, by decide, fun p3 dp3 H3' n3 d3 sm3 np3 hp3 f3 => ?_⟩
      have hD3 := sm3 _ _ hD4
      have lw := lw_of f3 (by decide) (bv2 y (List.mem_of_getElem? hy)) (Nat.lt_of_lt_of_le (show (1 : Int).natAbs < 2 ^ 1 by decide) (Nat.pow_le_pow_right (by decide) (by decide)))
      refine ⟨cs, hD3, by rw [hv.len, List.length_map, List.length_take]; exact small1000 (by omega), same_mut (s8.trans sm3) nD4, cs ++ [.ref p3], upd_same, ?_⟩
      rw [List.take_succ, hy, List.map_append]
      exact ((hv.mono sm3).snoc (x := (y, 1)) hp3 lw f3).upd hD3
    obtain ⟨s8, cs, hD4, hv⟩ := hP
    rw [len_map, List.take_length] at hv
    have s08 := (s06.trans s7).trans s8
    have vl : (nums ++ [d]).length = count + 1 := by rw [List.length_append, nl2]; rfl
    have rlt : ∀ j ∈ List.range (count + 1), j < W := fun j hj => by have := List.mem_range.mp hj; omega
    have vq : VecQ W (sprP (List.replicate W (0, 1)) (List.range (count + 1)) ((nums ++ [d]).map fun x => (x, 1))) (spr (List.range (count + 1)) (fun j => (nums ++ [d]).getD j 0) 0) 1 := spr_vec List.nodup_range rlt (by rw [List.length_range, List.length_map, vl]) (by decide) fun k q hq => by
      rw [List.getElem?_map] at hq
      cases e : (nums ++ [d])[k]? with
      | none => rw [e] at hq; cases hq
      | some x =>
        rw [e] at hq
        cases hq
        refine ⟨by show (0 : Int) < 1; decide, ?_⟩
        rw [List.getD_eq_getElem?_getD, e]
        rfl
    refine ⟨_, rfl, rg, D4, List.range (count + 1), cs, _, W, 441, (), rfl, s8.seq (SqL.of hrg), SqL.of hD4, hv, by rw [List.length_range, List.length_map, vl], rlt, by omega, by decide, fun D5 H9 ws5 s9 hD5 nD5 hv9 => ?_⟩
    refine q D5 ws5 _ _ H9 (s08.trans s9) hD5 (s08.free nD5) hv9 vq (fun s hs => ?_) ?_
    · obtain ⟨i, hi⟩ := List.getElem?_of_mem hs
      have il := (List.getElem?_eq_some_iff.mp hi).1
      have z := ok i s (by omega) hi
      have hl := rl i s hi
      have es : Ms.getD i [] = s := by rw [List.getD_eq_getElem?_getD, hi]; rfl
      rw [spr_dI]
      have e1 : ((List.range (count + 1)).map fun c => s.getD c 0) = s.take (count + 1) := by
        rw [mat_row hi (by omega)]
        exact List.map_congr_left fun c _ => by unfold mat; rw [es]
      rw [e1, ← dot_dI (z := fun j => (nums ++ [d]).getD j 0) (t := 0) (ys := nums ++ [d]) (fun j => by rw [Nat.zero_add]) (by rw [List.length_take, vl]; omega)]
      exact z
    · have e := spr_at (z := fun j => (nums ++ [d]).getD j 0) (t := 0) (cols := List.range (count + 1)) (j := count) (c := count) List.nodup_range (List.getElem?_range (by omega))
      rw [e, Nat.zero_add, List.getD_eq_getElem?_getD, List.getElem?_append_right (by omega), nl2, Nat.sub_self]
      show d ≠ 0
      omega

theorem ok__is_prime (T : Tx K mg) : OkF P w K mg base 1 (He.fAd K ("_is_prime", none)) ["number"] (spIsP K) := by
  refine okF_of (d := d__is_prime) T.d__is_prime rfl sc__is_prime (fun _ _ _ _ _ _ us hl => match us, hl with | [_], _ => rfl) (fun vs H Q E h => ?_) (fun cdv A outer s H vs Q E hr h => ?_)
  · (obtain ⟨_, rfl, _⟩ := h; rfl)
  · obtain ⟨n, rfl, hn, q⟩ := h
    refine ⟨_, (pss_cons (ps_if (pt_cmpR op_lt (pv 0) pe_int (nomark _)) (pss_one (ps_ret pe_bl)) pss_nil)
      (pss_cons (ps_setI (i := 1) sc__is_prime.nd rfl (Or.inl rfl) pe_int)
      (pss_cons (ps_while PassesOwn.leaving (pt_cmpR op_le (pe_op op_mulW (pv 1) (pv 1)) (pv 0) (nomark _)) (pss_cons (ps_if (pt_cmpR op_eq (pe_op op_mod (pv 0) (pv 1)) pe_int (nomark _)) (pss_one (ps_ret pe_bl)) pss_nil)
      (pss_one (ps_setI (i := 1) sc__is_prime.nd rfl (Or.inl rfl) (pe_op op_add (pv 1) pe_int)))))
      (pss_one (ps_ret pe_bl))))), ?_⟩
    refine ⟨_, rfl, _, _, rfl, rfl, _, rfl, iteD (fun c => ?_) (fun c => ?_)⟩
    · exact q false ⟨fun z => Bool.noConfusion z, fun z => by have := z.two; omega⟩
    refine ⟨_, rfl, fun d0 ed0 => ?_⟩
    refine ⟨fun m σ' H' => H = H' ∧ ∃ d : Nat, σ' = [some (.int (n : Int)), some (.int (d : Int))] ∧ m = n + 1 - d ∧ 2 ≤ d ∧ ∀ q, 2 ≤ q → q < d → ¬ q ∣ n, ⟨_, rfl, 2, by rw [ed0]; rfl, rfl, Nat.le_refl _, fun q h1 h2 => by omega⟩, ?_⟩
    rintro m _ _ ⟨rfl, d, rfl, rfl, d2, hq⟩
    have d60 : 2 ^ 60 * 2 ^ 60 = (2 : Nat) ^ 120 := by rw [← Nat.pow_add]
    by_cases dn : n + 1 ≤ d
    · -- beyond the number: it has no divisor at all
      have dd : n + 1 ≤ d * d := Nat.le_trans dn (Nat.le_mul_of_pos_left d (by omega))
      exfalso
      exact hq n (by omega) (by omega) (Nat.dvd_refl n)
    have db : ((d : Nat) : Int).natAbs < 2 ^ 60 := by rw [Int.natAbs_natCast]; omega
    refine ⟨_, rfl, _, rfl, _, _, rfl, rfl, mulW db db (by decide), _, rfl, _, _, rfl, rfl, _, rfl, iteD (fun c2 => ?_) (fun c2 => ?_)⟩
    · refine ⟨fun σ2 H2 => ∃ m', m' < n + 1 - d ∧ H = H2 ∧ ∃ d : Nat, σ2 = [some (.int (n : Int)), some (.int (d : Int))] ∧ m' = n + 1 - d ∧ 2 ≤ d ∧ ∀ q, 2 ≤ q → q < d → ¬ q ∣ n, fun _ _ h => h, ?_⟩
      refine ⟨_, rfl, _, rfl, _, _, rfl, rfl, (show (0 : Int) < d by omega), rfl, _, rfl, iteEq (fun c3 => ?_) (fun c3 => ?_)⟩
      · have dv : d ∣ n := Int.natCast_dvd_natCast.mp (Int.dvd_of_emod_eq_zero c3)
        refine q false ⟨fun z => Bool.noConfusion z, fun z => ?_⟩
        have e := pr_self z d2 dv
        subst e
        have c4 : d * d ≤ d := by
          have : (d : Int) * (d : Int) ≤ (d : Int) := c2
          rw [← Int.natCast_mul] at this
          exact Int.ofNat_le.mp this
        have : 2 * d ≤ d * d := Nat.mul_le_mul_right _ d2
        omega
      · have nd : ¬ d ∣ n := fun z => c3 (Int.emod_eq_zero_of_dvd (Int.natCast_dvd_natCast.mpr z))
        refine ⟨_, rfl, _, _, rfl, rfl, _, rfl, fun e ee => ⟨n + 1 - (d + 1), by omega, rfl, d + 1, by rw [ee]; rfl, rfl, by omega, fun q h1 h2 => ?_⟩⟩
        by_cases z : q = d
        · rw [z]; exact nd
        · exact hq q h1 (by omega)
    · refine q true ⟨fun _ => pr_sqrt (by omega) (d := d) ?_ hq, fun _ => rfl⟩
      have : ¬ (d : Int) * (d : Int) ≤ (n : Int) := c2
      rw [← Int.natCast_mul] at this
      omega

theorem ok_next_prime (T : Tx K mg) (O__is_prime : OkF P w K mg base 1 (He.fAd K ("_is_prime", none)) ["number"] (spIsP K)) : OkF P w K mg base 2 (He.fAd K ("next_prime", none)) ["number"] (spNxP K) := by
  obtain ⟨_, G__is_prime, b__is_prime, k__is_prime⟩ := O__is_prime
  refine okF_of (d := d_next_prime) T.d_next_prime rfl sc_next_prime (fun _ _ _ _ _ _ us hl => match us, hl with | [_], _ => rfl) (fun vs H Q E h => ?_) (fun cdv A outer s H vs Q E hr h => ?_)
  · (obtain ⟨_, rfl, _⟩ := h; rfl)
  · obtain ⟨n, rfl, ⟨P, hP, nP, P5⟩, q⟩ := h
    refine ⟨_, (pss_cons (ps_setI (i := 1) sc_next_prime.nd rfl (Or.inl rfl) (pe_op op_add (pv 0) pe_int))
      (pss_cons (ps_while PassesOwn.leaving (pt_not (pt_val (pe_call G__is_prime (hr.mono (by decide)) (by rfl) T.g__is_prime k__is_prime b__is_prime .nil passL (pa_cons (pv 1) pa_nil)))) (pss_one (ps_setI (i := 1) sc_next_prime.nd rfl (Or.inl rfl) (pe_op op_add (pv 1) pe_int))))
      (pss_one (ps_ret (pv 1))))), ?_⟩
    refine ⟨_, rfl, _, _, rfl, rfl, _, rfl, fun c0 ec0 => ?_⟩
    refine ⟨fun m σ' H' => H = H' ∧ ∃ c : Nat, σ' = [some (.int (n : Int)), some (.int (c : Int))] ∧ m = P - c ∧ n < c ∧ c ≤ P ∧ ∀ q, Pr q → n < q → c ≤ q, ⟨_, rfl, n + 1, by rw [ec0]; rfl, rfl, by omega, by omega, fun q _ h => h⟩, ?_⟩
    rintro m _ _ ⟨rfl, c, rfl, rfl, nc, cP, hq⟩
    refine ⟨_, rfl, c, rfl, by omega, fun r hr => ⟨_, rfl, iteB (fun z => ?_) (fun z => ?_)⟩⟩
    · have r0 : r ≠ true := fun w => by rw [w] at z; exact Bool.noConfusion z
      have np : ¬ Pr c := fun w => r0 (hr.mpr w)
      refine ⟨fun σ2 H2 => ∃ m', m' < P - c ∧ H = H2 ∧ ∃ c : Nat, σ2 = [some (.int (n : Int)), some (.int (c : Int))] ∧ m' = P - c ∧ n < c ∧ c ≤ P ∧ ∀ q, Pr q → n < q → c ≤ q, fun _ _ h => h, ?_⟩
      have lt : c < P := Nat.lt_of_le_of_ne cP fun w => np (by rw [w]; exact hP)
      refine ⟨_, rfl, _, _, rfl, rfl, _, rfl, fun e ee => ⟨P - (c + 1), by omega, rfl, c + 1, by rw [ee]; rfl, rfl, by omega, by omega, fun q h1 h2 => ?_⟩⟩
      have := hq q h1 h2
      have : q ≠ c := fun w => np (by rw [← w]; exact h1)
      omega
    · have r1 : r = true := by
        cases r
        · exact Bool.noConfusion z
        · rfl
      exact ⟨_, rfl, q c (hr.mp r1) nc hq⟩

theorem ok_kernel (T : Tx K mg) (O__whole_rows : OkF P w K mg base 2 (He.fAd K ("_whole_rows", none)) ["rows"] (spWhR K)) (O_pivots_modulo : OkF P w K mg base 4 (He.fAd K ("pivots_modulo", none)) ["matrix", "width", "prime"] (spPiv K)) (O__inverse : OkF P w K mg base 7 (He.fAd K ("_inverse", none)) ["matrix", "scales", "indexes", "prime"] (spInvK K)) (O_first_gap : OkF P w K mg base 1 (He.fAd K ("first_gap", none)) ["columns"] (spGap K)) (O__kernel_vector : OkF P w K mg base 7 (He.fAd K ("_kernel_vector", none)) ["matrix", "width", "indexes", "count", "prime"] (spKVec K)) (O_next_prime : OkF P w K mg base 2 (He.fAd K ("next_prime", none)) ["number"] (spNxP K)) : OkF P w K mg base 8 (He.fAd K ("kernel", none)) ["rows", "width"] (spKern K) := by
  obtain ⟨_, G__whole_rows, b__whole_rows, k__whole_rows⟩ := O__whole_rows
  obtain ⟨_, G_pivots_modulo, b_pivots_modulo, k_pivots_modulo⟩ := O_pivots_modulo
  obtain ⟨_, G__inverse, b__inverse, k__inverse⟩ := O__inverse
  obtain ⟨_, G_first_gap, b_first_gap, k_first_gap⟩ := O_first_gap
  obtain ⟨_, G__kernel_vector, b__kernel_vector, k__kernel_vector⟩ := O__kernel_vector
  obtain ⟨_, G_next_prime, b_next_prime, k_next_prime⟩ := O_next_prime
  refine okF_of (d := d_kernel) T.d_kernel rfl sc_kernel (fun _ _ _ _ _ _ us hl => match us, hl with | [_, _], _ => rfl) (fun vs H Q E h => ?_) (fun cdv A outer s H vs Q E hr h => ?_)
  · (obtain ⟨_, _, _, _, _, _, _, _, rfl, _⟩ := h; rfl)
  · obtain ⟨a, xs, R, W, B, _, _, _, rfl, hA, hR, hr', B0, Bb, w11, r24, sys, qV, qI⟩ := h
    have xl := hR.len
    refine ⟨_, (pss_cons (ps_asg (pe_call G__whole_rows (hr.mono (by decide)) (by rfl) T.g__whole_rows k__whole_rows b__whole_rows .nil passL (pa_cons (pv 0) pa_nil)) (pg_tup rfl (pgs_cons (pg_name (i := 2) sc_kernel.nd rfl (Or.inl rfl)) (pgs_cons (pg_name (i := 3) sc_kernel.nd rfl (Or.inl rfl)) pgs_nil))))
      (pss_cons (ps_setI (i := 4) sc_kernel.nd rfl (Or.inl rfl) (pe_globI rfl T.g_PRIME))
      (pss_one (ps_while PassesOwn.leaving (pt_val pe_bl) (pss_cons (ps_asg (pe_call G_pivots_modulo (hr.mono (by decide)) (by rfl) T.g_pivots_modulo k_pivots_modulo b_pivots_modulo .nil passL (pa_cons (pv 3) (pa_cons (pv 1) (pa_cons (pv 4) pa_nil)))) (pg_tup rfl (pgs_cons (pg_name (i := 5) sc_kernel.nd rfl (Or.inl rfl)) (pgs_cons (pg_name (i := 6) sc_kernel.nd rfl (Or.inl rfl)) pgs_nil))))
      (pss_cons (ps_if (pt_cmpR op_eq (pe_callB call_len_seq (by rfl) T.z_len PySem.boot_len (pa_cons (pv 6) pa_nil)) (pv 1) (nomark _)) (pss_one (ps_ret (pe_tup (pa_cons pe_str (pa_cons (pe_call G__inverse (hr.mono (by decide)) (by rfl) T.g__inverse k__inverse b__inverse .nil passL (pa_cons (pv 3) (pa_cons (pv 2) (pa_cons (pv 5) (pa_cons (pv 4) pa_nil))))) pa_nil))))) pss_nil)
      (pss_cons (ps_set (i := 7) sc_kernel.nd rfl (Or.inl rfl) (pe_call G__kernel_vector (hr.mono (by decide)) (by rfl) T.g__kernel_vector k__kernel_vector b__kernel_vector .nil passL (pa_cons (pv 3) (pa_cons (pv 1) (pa_cons (pv 5) (pa_cons (pe_call G_first_gap (hr.mono (by decide)) (by rfl) T.g_first_gap k_first_gap b_first_gap .nil passL (pa_cons (pv 6) pa_nil)) (pa_cons (pv 4) pa_nil)))))))
      (pss_cons (ps_if (pt_cmpR op_notN1 (pv 7) pe_non (nomark _)) (pss_one (ps_ret (pe_tup (pa_cons pe_str (pa_cons (pv 7) pa_nil))))) pss_nil)
      (pss_one (ps_setI (i := 4) sc_kernel.nd rfl (Or.inl rfl) (pe_call G_next_prime (hr.mono (by decide)) (by rfl) T.g_next_prime k_next_prime b_next_prime .nil passL (pa_cons (pv 4) pa_nil)))))))))))), ?_⟩
    refine ⟨_, rfl, a, xs, R, B, 200, (), rfl, hA, hR, fun i r hr => ⟨by have := (hr' i r hr).1; omega, (hr' i r hr).2⟩, B0, Bb, by decide, by omega, fun q0 qs qm ms cs Ms H2 s2 hq0 hqs hqm hL cl ml hcm => ?_⟩
    have sc : ScM B R cs Ms := ⟨cl, ml, hcm⟩
    obtain ⟨D0, D0n, D0b, P⟩ := sys cs Ms sc
    have csb : ∀ c ∈ cs, c.natAbs < 2 ^ 60 := fun c hc => by
      obtain ⟨i, hi⟩ := List.getElem?_of_mem hc
      have il := (List.getElem?_eq_some_iff.mp hi).1
      have hri := List.getElem?_eq_getElem (show i < R.length by omega)
      have scq := (hcm i _ c hri hi).1
      exact Nat.lt_of_le_of_lt (natAbs_le_of_dvd scq.dv (by have := B0 i; omega)) (Bb i)
    have tkW : Ms.map (·.take W) = Ms := by
      have : Ms.map (·.take W) = Ms.map id := List.map_congr_left fun s hs => by
        show s.take W = s
        rw [List.take_of_length_le (by have := (P.ls s hs).1; omega)]
      rw [this, List.map_id]
    have m24 := P.m24
    refine ⟨q0, _, rfl, SqT.of hq0, rfl, _, _, rfl, _, _, rfl, rfl, ?_⟩
    refine ⟨_, rfl, fun pr epr => ?_⟩
    obtain rfl : pr = ((2147483647 : Nat) : Int) := epr
    refine ⟨fun m σ' H' => Same H2 H' ∧ ∃ (k p : Nat) (y5 y6 y7 : Option V), σ' = [some (.ref a), some (.int (W : Int)), some (.ref qs), some (.ref qm), some (.int (p : Int)), y5, y6, y7] ∧ m = 66 - k ∧ Tried D0 k p, ⟨_, .refl _, 0, 2147483647, none, none, none, rfl, rfl, .start D0⟩, ?_⟩
    rintro m _ H3 ⟨s3, k, p, y5, y6, y7, rfl, rfl, td⟩
    have s03 := s2.trans s3
    refine ⟨_, rfl, iteK rfl ?_⟩
    refine ⟨fun σ' H' => ∃ m', m' < 66 - k ∧ (fun m σ' H' => Same H2 H' ∧ ∃ (k p : Nat) (y5 y6 y7 : Option V), σ' = [some (.ref a), some (.int (W : Int)), some (.ref qs), some (.ref qm), some (.int (p : Int)), y5, y6, y7] ∧ m = 66 - k ∧ Tried D0 k p) m' σ' H', fun _ _ h => h, ?_⟩
    have hi : p < 2148532224 := by
      have := pr31_le (show k < 66 by have := td.k6; omega)
      have := td.le
      omega
    have plo := td.ge
    refine ⟨_, rfl, _, rfl, _, rfl, qm, ms, Ms, W, p, (), rfl, s3.seq (SqL.of hqm), hL.mono s3, td.pp, by omega, fun s hs => by have := (P.ls s hs).1; omega, by omega, by omega, fun q1 qi qc idx cols rest H4 s4 hq1 hqi hqc pI nqi nqc hist => ?_⟩
    rw [tkW] at pI hist
    have cW := pI.lt
    have icl := pI.len
    have ndi := pI.nd1
    have ndc := pI.nd
    have ccl := nodup_le ndc cW
    have ilt := pI.lt1
    have s04 := s03.trans s4
    refine ⟨q1, _, rfl, SqT.of hq1, rfl, _, _, rfl, _, _, rfl, rfl, ?_⟩
    refine ⟨_, rfl, _, _, rfl, .inl (SqL.of hqc), _, rfl, rfl, _, rfl, iteEq (fun full => ?_) (fun part => ?_)⟩
    · rw [List.length_map] at full
      have full : cols.length = W := by omega
      have nsF := ns_full pI rfl full fun i hi => by
        have im := ilt i hi
        have e : Ms[i]? = some (Ms.getD i []) := by rw [List.getD_eq_getElem?_getD, List.getElem?_eq_getElem im]; rfl
        exact (P.ls _ (List.mem_of_getElem? e)).1
      refine ⟨_, rfl, _, rfl, _, rfl, _, rfl, qm, qs, qi, ms, Ms, W, p, D0, cs, idx, (), rfl, (s3.trans s4).seq (SqL.of hqm), hL.mono (s3.trans s4), (s3.trans s4).seq (SqL.of hqs), hqi, P, td.pp, plo, hi, by omega, ndi, ilt, by omega, csb, nsF, fun q ws L H5 s5 nq hq iq => ?_⟩
      refine ⟨by show 2 ≤ sizeLine; decide, fun w nw => ?_⟩
      have s6 := sm_new (o := .tup [V.str "inverse", V.ref q]) nw
      refine qI cs Ms w q ws L _ sc ((s04.trans s5).trans s6) upd_same (s6 _ _ hq) (s04.free nq) ⟨iq.len, fun j hj => ?_⟩ ?_ ?_
      · obtain ⟨b', ys, ps, z, k1, k2, k3, k4, k5, k6⟩ := iq.at_ j hj
        exact ⟨b', ys, ps, z, k1, k2, s04.free k3, s6 _ _ k4, k5.mono s6, k6⟩
      · have := nodup_le ndi ilt
        omega
      · intro z hz hzr
        refine ns_exact nsF (by have := td.pp.two; omega) (fun j hj => hz j ?_) fun s hs => ?_
        · rw [List.length_map] at hj; omega
        · obtain ⟨i, _, rfl⟩ := List.mem_map.mp hs
          exact hzr i
    · rw [List.length_map] at part
      have part : cols.length < W := by omega
      refine ⟨_, rfl, _, rfl, _, rfl, _, rfl, qc, cols, (), rfl, SqL.of hqc, by omega, fun c c1 c2 c3 => ?_⟩
      -- the stage behind the first gap
      obtain ⟨n, rst, n1, pN, aft⟩ := hist (c + 1) (by omega)
      have nc : n = c := by
        have ge : c ≤ n := Nat.le_of_not_lt fun lt => by
          have hn := c2 n lt
          have m : n ∈ cols.drop n := List.mem_of_getElem? (i := 0) (by rw [List.getElem?_drop]; exact hn)
          have := aft n m
          omega
        have le : n ≤ c := Nat.le_of_not_lt fun lt => by
          have hc := List.getElem?_eq_getElem (show c < cols.length by omega)
          have m : cols[c] ∈ cols.take n := List.mem_of_getElem? (i := c) (by rw [List.getElem?_take, if_pos lt]; exact hc)
          have l1 := pN.lt _ m
          have ne := c3 _ hc
          have lt2 : cols[c] < c := by omega
          have e1 := c2 _ lt2
          have pw := List.pairwise_iff_getElem.mp ndc
          obtain ⟨hl, he⟩ := List.getElem?_eq_some_iff.mp e1
          exact pw cols[c] c hl (by omega) lt2 he
        omega
      subst nc
      have ct : cols.take n = List.range n := by
        refine List.ext_getElem? fun j => ?_
        by_cases l : j < n
        · rw [List.getElem?_take, if_pos l, c2 j l, List.getElem?_range l]
        · rw [List.getElem?_take, if_neg l, List.getElem?_eq_none (by rw [List.length_range]; omega)]
      rw [ct] at pN
      refine ⟨_, rfl, qm, qi, ms, Ms, W, p, n, D0, idx, rst, (), rfl, (s3.trans s4).seq (SqL.of hqm), hL.mono (s3.trans s4), hqi, P, td.pp, plo, hi, by omega, by omega, by omega, ilt, pN, fun dv H5 s5 => ?_, fun q ws ps z H5 s5 hq nq hv vq ok nz => ?_⟩
      · refine ⟨_, rfl, rfl, _, rfl, iteN (by simp) ?_⟩
        obtain ⟨k64, ex, nxt⟩ := td.next dv D0n D0b
        refine ⟨_, rfl, p, rfl, ex, fun p' pp' lt' least => ⟨_, rfl, fun pr epr => ?_⟩⟩
        have epr : pr = (p' : Int) := epr
        subst epr
        exact ⟨_, show 66 - (k + 1) < 66 - k by omega, (s3.trans s4).trans s5, k + 1, p', _, _, _, rfl, rfl, nxt p' pp' lt' least⟩
      · refine ⟨_, rfl, rfl, _, rfl, iteK (by simp) ?_⟩
        refine ⟨_, rfl, by show 2 ≤ sizeLine; decide, fun w nw => ?_⟩
        have s6 := sm_new (o := .tup [V.str "vector", V.ref q]) nw
        exact qV cs Ms w q ws ps z n _ sc ((s04.trans s5).trans s6) upd_same (s6 _ _ hq) (s04.free nq) (hv.mono s6) vq ok (by omega) nz

theorem ok__law_is_whole (T : Tx K mg) : OkF P w K mg base 1 (He.fAd K ("_law_is_whole", none)) ["x"] (spIsWh K) := by
  refine okF_of (d := d__law_is_whole) T.d__law_is_whole rfl sc__law_is_whole (fun _ _ _ _ _ _ us hl => match us, hl with | [_], _ => rfl) (fun vs H Q E h => ?_) (fun cdv A outer s H vs Q E hr h => ?_)
  · first | (obtain ⟨_, rfl, _⟩ := h; rfl) | (obtain ⟨_, _, rfl, _⟩ := h; rfl) | (obtain ⟨_, _, _, rfl, _⟩ := h; rfl) | (obtain ⟨_, _, _, _, rfl, _⟩ := h; rfl) | (obtain ⟨_, _, _, _, _, rfl, _⟩ := h; rfl) | (obtain ⟨_, _, _, _, _, _, rfl, _⟩ := h; rfl) | (obtain ⟨_, _, _, _, _, _, _, rfl, _⟩ := h; rfl) | (obtain ⟨_, _, _, _, _, _, _, _, rfl, _⟩ := h; rfl) | (obtain ⟨_, _, _, _, _, _, _, _, _, rfl, _⟩ := h; rfl) | (obtain ⟨_, _, _, _, _, _, _, _, _, _, rfl, _⟩ := h; rfl)
  · obtain ⟨n, rfl, q⟩ := h
    refine ⟨_, (pss_one (ps_ret (pe_and (pe_callB call_isi (by rfl) T.z_isinstance (by decide +kernel) (pa_cons (pv 0) (pa_cons (pe_bltn (v := .ty "int") rfl T.z_int (by decide +kernel) rfl) pa_nil))) (pe_one (pe_not (pe_callB call_isi (by rfl) T.z_isinstance (by decide +kernel) (pa_cons (pv 0) (pa_cons (pe_bltn (v := .ty "bool") rfl T.z_bool (by decide +kernel) rfl) pa_nil)))))))), ?_⟩
    exact ⟨_, rfl, _, _, _, _, true, rfl, .ty _, .base (.int _), kit_ty (by decide +kernel), _, rfl, iteK rfl ⟨_, rfl, _, _, _, _, false, rfl, .ty _, .base (.int _), kit_ty (by decide +kernel), _, rfl, q⟩⟩

theorem ok__law_is_number (T : Tx K mg) (O__law_is_whole : OkF P w K mg base 1 (He.fAd K ("_law_is_whole", none)) ["x"] (spIsWh K)) : OkF P w K mg base 2 (He.fAd K ("_law_is_number", none)) ["x"] (spIsNu K) := by
  obtain ⟨_, G__law_is_whole, b__law_is_whole, k__law_is_whole⟩ := O__law_is_whole
  refine okF_of (d := d__law_is_number) T.d__law_is_number rfl sc__law_is_number (fun _ _ _ _ _ _ us hl => match us, hl with | [_], _ => rfl) (fun vs H Q E h => ?_) (fun cdv A outer s H vs Q E hr h => ?_)
  · first | (obtain ⟨_, rfl, _⟩ := h; rfl) | (obtain ⟨_, _, rfl, _⟩ := h; rfl) | (obtain ⟨_, _, _, rfl, _⟩ := h; rfl) | (obtain ⟨_, _, _, _, rfl, _⟩ := h; rfl) | (obtain ⟨_, _, _, _, _, rfl, _⟩ := h; rfl) | (obtain ⟨_, _, _, _, _, _, rfl, _⟩ := h; rfl) | (obtain ⟨_, _, _, _, _, _, _, rfl, _⟩ := h; rfl) | (obtain ⟨_, _, _, _, _, _, _, _, rfl, _⟩ := h; rfl) | (obtain ⟨_, _, _, _, _, _, _, _, _, rfl, _⟩ := h; rfl) | (obtain ⟨_, _, _, _, _, _, _, _, _, _, rfl, _⟩ := h; rfl)
  · obtain ⟨a, da, n, d, rfl, ha, hd, q⟩ := h
    refine ⟨_, (pss_one (ps_ret (pe_and (pe_callB call_isi (by rfl) T.z_isinstance (by decide +kernel) (pa_cons (pv 0) (pa_cons (pe_glob (v := .ref (He.ga K "Fraction")) rfl T.g_Fraction rfl) pa_nil))) (pe_and (pe_call G__law_is_whole (hr.mono (by decide)) (by rfl) T.g__law_is_whole k__law_is_whole b__law_is_whole .nil passL (pa_cons (pe_fld (pv 0) rfl) pa_nil)) (pe_and (pe_call G__law_is_whole (hr.mono (by decide)) (by rfl) T.g__law_is_whole k__law_is_whole b__law_is_whole .nil passL (pa_cons (pe_fld (pv 0) rfl) pa_nil)) (pe_one (pe_cmpR op_gt (pe_fld (pv 0) rfl) pe_int (nomark _)))))))), ?_⟩
    refine ⟨_, rfl, _, _, _, _, true, rfl, .own _, T.ty_Fraction ha, kit_same _, _, rfl, iteK rfl ?_⟩
    refine ⟨_, rfl, _, _, _, _, _, rfl, ha, T.cls_Fraction, T.n_Fraction_num, rfl, _, rfl, _, rfl, iteK rfl ?_⟩
    refine ⟨_, rfl, _, _, _, _, _, rfl, ha, T.cls_Fraction, T.n_Fraction_den, rfl, _, rfl, _, rfl, iteK rfl ?_⟩
    refine ⟨_, rfl, _, _, _, _, _, rfl, ha, T.cls_Fraction, T.n_Fraction_den, rfl, _, _, rfl, rfl, ?_⟩
    show Q (.bl (decide (0 < d))) H
    rw [decide_eq_true hd]
    exact q

theorem ok__law_read (T : Tx K mg) (O__law_is_number : OkF P w K mg base 2 (He.fAd K ("_law_is_number", none)) ["x"] (spIsNu K)) : OkF P w K mg base 3 (He.fAd K ("_law_read", none)) ["xs", "count"] (spRead K) := by
  obtain ⟨_, G__law_is_number, b__law_is_number, k__law_is_number⟩ := O__law_is_number
  refine okF_of (d := d__law_read) T.d__law_read rfl sc__law_read (fun _ _ _ _ _ _ us hl => match us, hl with | [_, _], _ => rfl) (fun vs H Q E h => ?_) (fun cdv A outer s H vs Q E hr h => ?_)
  · (obtain ⟨_, _, _, _, _, _, rfl, _⟩ := h; rfl)
  · obtain ⟨a, us, ps, n, k, _, rfl, hA, hV, hn, h100, q⟩ := h
    refine ⟨_, (pss_cons (ps_if (PW.pt (pw_or (pt_not (pt_val (pe_callB call_isi (by rfl) T.z_isinstance (by decide +kernel) (pa_cons (pv 0) (pa_cons (pe_bltn (v := .ty "list") rfl T.z_list (by decide +kernel) rfl) pa_nil))))) (pw_or1 (pt_cmpR op_ne (pe_callB call_len_seq (by rfl) T.z_len PySem.boot_len (pa_cons (pv 0) pa_nil)) (pv 1) (nomark _))))) (pss_one (ps_ret pe_non)) pss_nil)
      (pss_cons (ps_for PassesOwn.leaving rfl (pi_list (pv 0)) (pg_name (i := 2) sc__law_read.nd rfl (Or.inl rfl)) (pss_one (ps_if (pt_not (pt_val (pe_call G__law_is_number (hr.mono (by decide)) (by rfl) T.g__law_is_number k__law_is_number b__law_is_number .nil passL (pa_cons (pv 2) pa_nil)))) (pss_one (ps_ret pe_non)) pss_nil)))
      (pss_one (ps_ret (pe_lc (own := [("x", 2)]) (g := gName 2) rfl sc__law_read.nd (pi_list (pv 0)) (blkOk_by (own := [("x", 2)]) (N := N__law_read) (sc := defScope s__law_read) (by decide +kernel)) (fun _ _ _ _ _ => (pg_name (i := 2) sc__law_read.nd rfl (Or.inl rfl))) (fun _ _ _ _ _ => pts_nil) (fun _ _ _ _ _ => (pe_tup (pa_cons (pe_fldK (K := K) rfl (pe_fld (pv 2) rfl)) (pa_cons (pe_fldK (K := K) rfl (pe_fld (pv 2) rfl)) pa_nil))))))))), ?_⟩
    have ul := hV.len
    refine ⟨_, rfl, _, _, _, _, true, rfl, .ty _, .base (.lst hA), kit_ty (by decide +kernel), _, rfl, iteN rfl ?_⟩
    refine ⟨_, rfl, _, _, rfl, .inl (SqL.of hA), _, rfl, rfl, _, rfl, iteEqN (fun ne => absurd (by omega) ne) (fun _ => ?_)⟩
    refine ⟨_, rfl, _, rfl, ⟨_, SqL.of hA⟩, for_list (K := K) (a := a) (xs := us) (fun i σ' H' => H = H' ∧ ∃ y2 : Option V, σ' = [some (.ref a), some (.int n), y2]) ⟨rfl, none, rfl⟩ (fun i σ' H' hi hI => by obtain ⟨rfl, _⟩ := hI; exact SqL.of hA) (fun i x σ' H' hi hI => ?_) (fun σ' H' hI => ?_)⟩
    · obtain ⟨rfl, y2, rfl⟩ := hI
      obtain ⟨x1, n1, d1, b1, db1, e1, rfl, hb1, l1, f1⟩ := hV.item hi
      exact ⟨_, rfl, b1, db1, n1, d1, rfl, hb1, l1.pos, _, rfl, iteN rfl ⟨rfl, _, rfl⟩⟩
    · obtain ⟨rfl, y2, rfl⟩ := hI
      refine ⟨_, rfl, _, rfl, ⟨_, SqL.of hA⟩, fun D nD => lc_list (K := K) (a := a) (xs := us) (fun i H' => Same H H' ∧ ∃ ws qs, H' D = some (.lst ws) ∧ PrL H' ws qs ∧ qs.length = i ∧ (∀ q ∈ qs, PrW k q) ∧ ∀ (j : Nat) (x q : Int × Int), ps[j]? = some x → qs[j]? = some q → Fq x.1 x.2 q.1 q.2) ⟨sm_new nD, [], [], upd_same, .nil, rfl, fun q h => absurd h (by simp), fun j x q _ h => by simp at h⟩ (fun i H' hi hP => hP.1.seq (SqL.of hA)) (fun i y H' hi hP => ?_) (fun H2 hP => ?_)⟩
      · obtain ⟨sm, ws, qs, hD, hW, ql, hq, hF⟩ := hP
        obtain ⟨x1, n1, d1, b1, db1, e1, rfl, hb1, l1, f1⟩ := (hV.mono sm).item hi
        have il := (List.getElem?_eq_some_iff.mp e1).1
        refine ⟨rfl, yes_ok (iteK rfl ?_)⟩
        refine ⟨_, rfl, _, _, _, _, _, rfl, hb1, T.cls_Fraction, T.n_Fraction_num, rfl, _, rfl, _, _, _, _, _, rfl, hb1, T.cls_Fraction, T.n_Fraction_den, rfl, by show 2 ≤ sizeLine; decide, fun p np => ?_⟩
        have s3 := sm_new (o := prO (n1, d1)) np
        have hD3 := s3 _ _ hD
        refine ⟨ws, hD3, by rw [hW.len, ql]; exact small1000 (by omega), same_mut (sm.trans s3) nD, ws ++ [.ref p], qs ++ [(n1, d1)], upd_same, ((hW.mono s3).snoc upd_same).upd hD3, by rw [List.length_append, ql]; rfl, fun q h => ?_, fun j x q hx hq2 => ?_⟩
        · rcases List.mem_append.mp h with c | c
          · exact hq q c
          · rw [List.mem_singleton.mp c]; exact ⟨⟨l1.bn, l1.bd⟩, l1.ne⟩
        · by_cases c : j < qs.length
          · rw [List.getElem?_append_left c] at hq2
            exact hF j x q hx hq2
          · have jl := (List.getElem?_eq_some_iff.mp hq2).1
            rw [List.length_append, List.length_singleton] at jl
            have ji : j = i := by omega
            subst ji
            rw [List.getElem?_append_right (by omega), ql, Nat.sub_self] at hq2
            cases hq2
            rw [e1] at hx
            cases hx
            exact f1
      · obtain ⟨sm, ws, qs, hD, hW, ql, hq, hF⟩ := hP
        exact q D H2 ws qs sm nD hD hW (by omega) hq hF

theorem ok__law_plus (T : Tx K mg) : OkF P w K mg base 1 (He.fAd K ("_law_plus", none)) ["a", "b"] (spLPl K) := by
  refine okF_of (d := d__law_plus) T.d__law_plus rfl sc__law_plus (fun _ _ _ _ _ _ us hl => match us, hl with | [_, _], _ => rfl) (fun vs H Q E h => ?_) (fun cdv A outer s H vs Q E hr h => ?_)
  · first | (obtain ⟨_, rfl, _⟩ := h; rfl) | (obtain ⟨_, _, rfl, _⟩ := h; rfl) | (obtain ⟨_, _, _, rfl, _⟩ := h; rfl) | (obtain ⟨_, _, _, _, rfl, _⟩ := h; rfl) | (obtain ⟨_, _, _, _, _, rfl, _⟩ := h; rfl) | (obtain ⟨_, _, _, _, _, _, rfl, _⟩ := h; rfl) | (obtain ⟨_, _, _, _, _, _, _, rfl, _⟩ := h; rfl) | (obtain ⟨_, _, _, _, _, _, _, _, rfl, _⟩ := h; rfl) | (obtain ⟨_, _, _, _, _, _, _, _, _, rfl, _⟩ := h; rfl) | (obtain ⟨_, _, _, _, _, _, _, _, _, _, rfl, _⟩ := h; rfl)
  · obtain ⟨a, b, x, y, k, rfl, ha, hb, bx, bY, hk, q⟩ := h
    refine ⟨_, (pss_one (ps_ret (pe_tup (pa_cons (pe_op op_add (pe_op op_mulW (pe_ix ix_tup (pv 0) pe_int (fun _ _ => rfl)) (pe_ix ix_tup (pv 1) pe_int (fun _ _ => rfl))) (pe_op op_mulW (pe_ix ix_tup (pv 1) pe_int (fun _ _ => rfl)) (pe_ix ix_tup (pv 0) pe_int (fun _ _ => rfl)))) (pa_cons (pe_op op_mulW (pe_ix ix_tup (pv 0) pe_int (fun _ _ => rfl)) (pe_ix ix_tup (pv 1) pe_int (fun _ _ => rfl))) pa_nil))))), ?_⟩
    have sa : SqT K H a [.int x.1, .int x.2] := SqT.of ha
    have sb : SqT K H b [.int y.1, .int y.2] := SqT.of hb
    exact ⟨_, rfl, _, _, _, _, rfl, rfl, sa, atI_nat (j := 0) rfl, _, rfl, _, _, _, _, rfl, rfl, sb, atI_nat (j := 1) rfl, _, _, rfl, rfl, mulW bx.a bY.b (by omega), _, rfl, _, _, _, _, rfl, rfl, sb, atI_nat (j := 0) rfl, _, rfl, _, _, _, _, rfl, rfl, sa, atI_nat (j := 1) rfl, _, _, rfl, rfl, mulW bY.a bx.b (by omega), _, _, rfl, rfl, _, rfl, _, _, _, _, rfl, rfl, sa, atI_nat (j := 1) rfl, _, rfl, _, _, _, _, rfl, rfl, sb, atI_nat (j := 1) rfl, _, _, rfl, rfl, mulW bx.b bY.b (by omega), by show 2 ≤ sizeLine; decide, fun p np => q p _ (sm_new np) np upd_same⟩

theorem ok__law_dot (T : Tx K mg) (O__law_times : OkF P w K mg base 1 (He.fAd K ("_law_times", none)) ["a", "b"] (spLTi K)) (O__law_plus : OkF P w K mg base 1 (He.fAd K ("_law_plus", none)) ["a", "b"] (spLPl K)) : OkF P w K mg base 2 (He.fAd K ("_law_dot", none)) ["xs", "ys"] (spLDot K) := by
  obtain ⟨_, G__law_times, b__law_times, k__law_times⟩ := O__law_times
  obtain ⟨_, G__law_plus, b__law_plus, k__law_plus⟩ := O__law_plus
  refine okF_of (d := d__law_dot) T.d__law_dot rfl sc__law_dot (fun _ _ _ _ _ _ us hl => match us, hl with | [_, _], _ => rfl) (fun vs H Q E h => ?_) (fun cdv A outer s H vs Q E hr h => ?_)
  · first | (obtain ⟨_, rfl, _⟩ := h; rfl) | (obtain ⟨_, _, rfl, _⟩ := h; rfl) | (obtain ⟨_, _, _, rfl, _⟩ := h; rfl) | (obtain ⟨_, _, _, _, rfl, _⟩ := h; rfl) | (obtain ⟨_, _, _, _, _, rfl, _⟩ := h; rfl) | (obtain ⟨_, _, _, _, _, _, rfl, _⟩ := h; rfl) | (obtain ⟨_, _, _, _, _, _, _, rfl, _⟩ := h; rfl) | (obtain ⟨_, _, _, _, _, _, _, _, rfl, _⟩ := h; rfl) | (obtain ⟨_, _, _, _, _, _, _, _, _, rfl, _⟩ := h; rfl) | (obtain ⟨_, _, _, _, _, _, _, _, _, _, rfl, _⟩ := h; rfl)
  · obtain ⟨a, b, us, ws, xs, ys, m, rfl, hA, hB, fa, fb, ⟨j, k, oa, ob, em⟩, hl, h1, hm, q⟩ := h
    subst em
    refine ⟨_, (pss_cons (ps_set (i := 2) sc__law_dot.nd rfl (Or.inl rfl) (pe_tup (pa_cons pe_int (pa_cons pe_int pa_nil))))
      (pss_cons (ps_for PassesOwn.leaving rfl (pi_range1 rfl T.z_range (pa_cons (pe_callB call_len_seq (by rfl) T.z_len PySem.boot_len (pa_cons (pv 0) pa_nil)) pa_nil)) (pg_name (i := 3) sc__law_dot.nd rfl (Or.inl rfl)) (pss_one (ps_if (PW.pt (pw_and (pt_cmpR op_ne (pe_ix ix_tup (pe_ix ix_list (pv 0) (pv 3) (fun _ _ => rfl)) pe_int (fun _ _ => rfl)) pe_int (nomark _)) (pw_and1 (pt_cmpR op_ne (pe_ix ix_tup (pe_ix ix_list (pv 1) (pv 3) (fun _ _ => rfl)) pe_int (fun _ _ => rfl)) pe_int (nomark _))))) (pss_one (ps_set (i := 2) sc__law_dot.nd rfl (Or.inl rfl) (pe_call G__law_plus (hr.mono (by decide)) (by rfl) T.g__law_plus k__law_plus b__law_plus .nil passL (pa_cons (pv 2) (pa_cons (pe_call G__law_times (hr.mono (by decide)) (by rfl) T.g__law_times k__law_times b__law_times .nil passL (pa_cons (pe_ix ix_list (pv 0) (pv 3) (fun _ _ => rfl)) (pa_cons (pe_ix ix_list (pv 1) (pv 3) (fun _ _ => rfl)) pa_nil))) pa_nil))))) pss_nil)))
      (pss_one (ps_ret (pv 2))))), ?_⟩
    refine ⟨by show 2 ≤ sizeLine; decide, fun p0 np0 => ?_⟩
    have ul := fa.len
    have wl := fb.len
    refine ⟨_, rfl, _, _, rfl, .inl ((sm_new np0).seq hA), _, rfl, by omega, by omega, for_range (lo := 0) (n := us.length) (fun i σ' H' => ∃ (p : Addr) (z : Int × Int) (y3 : Option V), σ' = [some (.ref a), some (.ref b), some (.ref p), y3] ∧ Same H H' ∧ H p = none ∧ H' p = some (prO z) ∧ z.2 ≠ 0 ∧ PrB ((j + k + 1) * i + 1) z ∧ REq z (dotP (xs.take i) (ys.take i)))
      ⟨p0, (0, 1), none, rfl, sm_new np0, np0, upd_same, by decide, ⟨Nat.two_pow_pos _, Nat.one_lt_two_pow (by omega)⟩, rfl⟩ (fun i σ' H1 hi hI => ?_) (fun σ' H1 hI => ?_)⟩
    · obtain ⟨p, z, y3, rfl, sm, np, hp, hz, bz, rq⟩ := hI
      have e0 : (0 : Int) + (i : Int) = (i : Int) := Int.zero_add _
      rw [e0]
      obtain ⟨ax, eax, hax⟩ := (fa.mono sm).at_ i xs[i] (List.getElem?_eq_getElem (by omega))
      obtain ⟨ay, eay, hay⟩ := (fb.mono sm).at_ i ys[i] (List.getElem?_eq_getElem (by omega))
      have hx : xs[i]? = some xs[i] := List.getElem?_eq_getElem (by omega)
      have hy : ys[i]? = some ys[i] := List.getElem?_eq_getElem (by omega)
      generalize xs[i] = x at eax hax hx
      generalize ys[i] = y at eay hay hy
      have ox := oa x (List.mem_of_getElem? hx)
      have oy := ob y (List.mem_of_getElem? hy)
      have sx : SqT K H1 ax [.int x.1, .int x.2] := SqT.of hax
      have sy : SqT K H1 ay [.int y.1, .int y.2] := SqT.of hay
      have more := dotP_more hx hy
      have mi : (j + k + 1) * i + (j + k + 1) = (j + k + 1) * (i + 1) := by rw [Nat.mul_succ]
      have mle : (j + k + 1) * (i + 1) ≤ (j + k + 1) * xs.length := Nat.mul_le_mul_left _ (by omega)
      have skip : x.1 * y.1 = 0 → ∃ (p' : Addr) (z : Int × Int) (y3 : Option V), [some (V.ref a), some (.ref b), some (.ref p), some (.int (i : Int))] = [some (.ref a), some (.ref b), some (.ref p'), y3] ∧ Same H H1 ∧ H p' = none ∧ H1 p' = some (prO z) ∧ z.2 ≠ 0 ∧ PrB ((j + k + 1) * (i + 1) + 1) z ∧ REq z (dotP (xs.take (i + 1)) (ys.take (i + 1))) := fun h0 =>
        ⟨p, z, _, rfl, sm, np, hp, hz, bz.mono (by omega), by rw [more]; exact rq.skip h0⟩
      have gA : us[i]? = some (.ref ax) := eax
      have gB : ws[i]? = some (.ref ay) := eay
      refine ⟨_, rfl, _, rfl, _, _, _, _, rfl, rfl, sm.seq hA, atI_nat (j := i) gA, _, _, _, _, rfl, rfl, sx, atI_nat (j := 0) rfl, rfl, _, rfl, iteEqN (fun n1 => ?_) (fun e1 => iteF (skip (by rw [e1, Int.zero_mul])))⟩
      refine ⟨_, rfl, _, rfl, _, _, _, _, rfl, rfl, sm.seq hB, atI_nat (j := i) gB, _, _, _, _, rfl, rfl, sy, atI_nat (j := 0) rfl, rfl, _, rfl, iteEqN (fun n2 => ?_) (fun e2 => skip (by rw [e2, Int.mul_zero]))⟩
      refine ⟨_, rfl, _, rfl, _, rfl, _, _, _, _, rfl, rfl, sm.seq hA, atI_nat (j := i) gA, _, rfl, _, rfl, _, _, _, _, rfl, rfl, sm.seq hB, atI_nat (j := i) gB, _, _, x, y, j + k, rfl, hax, hay, ox.b.mono (by omega), oy.b.mono (by omega), by omega, fun p2 H2 sm2 np2 hp2 => ?_⟩
      have bm : PrB (j + k) (mulP x y) := ox.b.mul oy.b
      have mp : (mulP x y).2 ≠ 0 := Int.mul_ne_zero ox.p oy.p
      refine ⟨_, _, z, mulP x y, (j + k + 1) * i + 1 + (j + k), rfl, sm2 _ _ hp, hp2, bz.mono (by omega), bm.mono (by omega), by omega, fun p3 H3 sm3 np3 hp3 => ?_⟩
      exact ⟨p3, addP z (mulP x y), _, rfl, (sm.trans sm2).trans sm3, (sm.trans sm2).free np3, hp3, Int.mul_ne_zero hz mp, (bz.add bm).mono (by omega), by rw [more]; exact rq.add⟩
    · obtain ⟨p, z, y3, rfl, sm, np, hp, hz, bz, rq⟩ := hI
      rw [ul, List.take_length, hl, List.take_length] at rq
      exact ⟨_, rfl, q p H1 z sm np hp ⟨by rw [← ul]; exact bz, hz⟩ rq⟩

theorem ok__law_is_vector_of (T : Tx K mg) (O__law_dot : OkF P w K mg base 2 (He.fAd K ("_law_dot", none)) ["xs", "ys"] (spLDot K)) : OkF P w K mg base 3 (He.fAd K ("_law_is_vector_of", none)) ["found", "rows"] (spVecOf K) := by
  obtain ⟨_, G__law_dot, b__law_dot, k__law_dot⟩ := O__law_dot
  refine okF_of (d := d__law_is_vector_of) T.d__law_is_vector_of rfl sc__law_is_vector_of (fun _ _ _ _ _ _ us hl => match us, hl with | [_, _], _ => rfl) (fun vs H Q E h => ?_) (fun cdv A outer s H vs Q E hr h => ?_)
  · (obtain ⟨_, _, _, _, _, _, _, _, rfl, _⟩ := h; rfl)
  · obtain ⟨f, a, us, xs, qs, ts, _, _, rfl, hF, hA, hus, hxs, wq, wt, l24, l11, nz, eqn, q⟩ := h
    have xl := hxs.len
    have ul := hus.len
    refine ⟨_, (pss_cons (ps_set (i := 2) sc__law_is_vector_of.nd rfl (Or.inl rfl) pe_bl)
      (pss_cons (ps_for PassesOwn.leaving rfl (pi_list (pv 0)) (pg_name (i := 3) sc__law_is_vector_of.nd rfl (Or.inl rfl)) (pss_one (ps_if (pt_cmpR op_ne (pe_ix ix_tup (pv 3) pe_int (fun _ _ => rfl)) pe_int (nomark _)) (pss_one (ps_set (i := 2) sc__law_is_vector_of.nd rfl (Or.inl rfl) pe_bl)) pss_nil)))
      (pss_cons (ps_for PassesOwn.leaving rfl (pi_list (pv 1)) (pg_name (i := 4) sc__law_is_vector_of.nd rfl (Or.inl rfl)) (pss_one (ps_if (pt_cmpR op_ne (pe_ix ix_tup (pe_call G__law_dot (hr.mono (by decide)) (by rfl) T.g__law_dot k__law_dot b__law_dot .nil passL (pa_cons (pv 4) (pa_cons (pv 0) pa_nil))) pe_int (fun _ _ => rfl)) pe_int (nomark _)) (pss_one (ps_ret pe_bl)) pss_nil)))
      (pss_one (ps_ret (pv 2)))))), ?_⟩
    refine ⟨_, rfl, _, rfl, ⟨_, SqL.of hF⟩, for_list (K := K) (a := f) (xs := us) (fun i σ' H' => H = H' ∧ ∃ (b : Bool) (y3 : Option V), σ' = [some (.ref f), some (.ref a), some (.bl b), y3, none] ∧ ∀ (j : Nat) (x : Int × Int), j < i → qs[j]? = some x → x.1 ≠ 0 → b = true) ⟨rfl, false, none, rfl, fun j x h => absurd h (Nat.not_lt_zero _)⟩ (fun i σ' H' hi hI => by obtain ⟨rfl, _⟩ := hI; exact SqL.of hF) (fun i x σ' H' hi hI => ?_) (fun σ' H' hI => ?_)⟩
    · obtain ⟨rfl, b, y3, rfl, ok⟩ := hI
      obtain ⟨x1, c, hx, rfl, hc⟩ := hus.item hi
      have sc : SqT K H c [.int x1.1, .int x1.2] := SqT.of hc
      refine ⟨_, rfl, _, _, _, _, rfl, rfl, sc, atI_nat (j := 0) rfl, rfl, _, rfl, iteEqN (fun ne => ?_) (fun e0 => ?_)⟩
      · exact ⟨rfl, true, _, rfl, fun _ _ _ _ _ => rfl⟩
      · refine ⟨rfl, b, _, rfl, fun j x hj hx' n0 => ?_⟩
        by_cases k : j < i
        · exact ok j x k hx' n0
        · have : j = i := by omega
          subst this
          rw [hx] at hx'
          cases hx'
          exact absurd e0 n0
    obtain ⟨rfl, b, y3, rfl, ok⟩ := hI
    obtain rfl : b = true := by
      obtain ⟨x, hx, n0⟩ := nz
      obtain ⟨j, hj⟩ := List.getElem?_of_mem hx
      have := (List.getElem?_eq_some_iff.mp hj).1
      exact ok j x (by omega) hj n0
    refine ⟨_, rfl, _, rfl, ⟨_, SqL.of hA⟩, for_list (K := K) (a := a) (xs := xs) (fun i σ' H' => Same H H' ∧ ∃ (y3 y4 : Option V), σ' = [some (.ref f), some (.ref a), some (.bl true), y3, y4]) ⟨.refl _, _, _, rfl⟩ (fun i σ' H' hi hI => hI.1.seq (SqL.of hA)) (fun i x σ' H' hi hI => ?_) (fun σ' H' hI => ?_)⟩
    · obtain ⟨sK, y3, y4, rfl⟩ := hI
      obtain ⟨t, ra, ys, ht, rfl, hra, hys⟩ := (hxs.mono sK).item hi
      obtain ⟨tl, tok⟩ := wt t (List.mem_of_getElem? ht)
      refine ⟨_, rfl, _, rfl, _, _, ys, us, t, qs, 462, rfl, SqL.of hra, SqL.of (sK _ _ hF), hys, hus.mono sK, ⟨20, 441, tok, wq, rfl⟩, by omega, by omega, by omega, fun p5 J5 zz sm5 np5 hp5 pw rq5 => ?_⟩
      have z0 := eqn i t zz ht pw.p rq5
      have s5 : SqT K J5 p5 [.int zz.1, .int zz.2] := SqT.of hp5
      refine ⟨_, _, _, _, rfl, rfl, s5, atI_nat (j := 0) rfl, rfl, _, rfl, iteEqN (fun ne => absurd z0 ne) (fun _ => ?_)⟩
      exact ⟨sK.trans sm5, _, _, rfl⟩
    · obtain ⟨sK, y3, y4, rfl⟩ := hI
      exact ⟨_, rfl, q _ sK⟩

theorem ok__law_is_inverse (T : Tx K mg) (O__law_read : OkF P w K mg base 3 (He.fAd K ("_law_read", none)) ["xs", "count"] (spRead K)) (O__law_dot : OkF P w K mg base 2 (He.fAd K ("_law_dot", none)) ["xs", "ys"] (spLDot K)) : OkF P w K mg base 4 (He.fAd K ("_law_is_inverse", none)) ["inverse", "rows", "width"] (spIsInv K) := by
  obtain ⟨_, G__law_read, b__law_read, k__law_read⟩ := O__law_read
  obtain ⟨_, G__law_dot, b__law_dot, k__law_dot⟩ := O__law_dot
  refine okF_of (d := d__law_is_inverse) T.d__law_is_inverse rfl sc__law_is_inverse (fun _ _ _ _ _ _ us hl => match us, hl with | [_, _, _], _ => rfl) (fun vs H Q E h => ?_) (fun cdv A outer s H vs Q E hr h => ?_)
  · (obtain ⟨_, _, _, _, _, _, _, _, _, rfl, _⟩ := h; rfl)
  · obtain ⟨v, a, ls, xs, ts, W, _, _, _, rfl, hV, hA, hxs, wt, l24, w11, ll, rows, q⟩ := h
    have xl := hxs.len
    refine ⟨_, (pss_cons (ps_if (PW.pt (pw_or (pt_not (pt_val (pe_callB call_isi (by rfl) T.z_isinstance (by decide +kernel) (pa_cons (pv 0) (pa_cons (pe_bltn (v := .ty "list") rfl T.z_list (by decide +kernel) rfl) pa_nil))))) (pw_or1 (pt_cmpR op_ne (pe_callB call_len_seq (by rfl) T.z_len PySem.boot_len (pa_cons (pv 0) pa_nil)) (pv 2) (nomark _))))) (pss_one (ps_ret pe_bl)) pss_nil)
      (pss_cons (ps_for PassesOwn.leaving rfl (pi_range1 rfl T.z_range (pa_cons (pv 2) pa_nil)) (pg_name (i := 3) sc__law_is_inverse.nd rfl (Or.inl rfl)) (pss_cons (ps_set (i := 4) sc__law_is_inverse.nd rfl (Or.inl rfl) (pe_call G__law_read (hr.mono (by decide)) (by rfl) T.g__law_read k__law_read b__law_read .nil passL (pa_cons (pe_ix ix_list (pv 0) (pv 3) (fun _ _ => rfl)) (pa_cons (pe_callB call_len_seq (by rfl) T.z_len PySem.boot_len (pa_cons (pv 1) pa_nil)) pa_nil))))
      (pss_cons (ps_if (pt_cmpR op_isN1 (pv 4) pe_non (nomark _)) (pss_one (ps_ret pe_bl)) pss_nil)
      (pss_one (ps_for PassesOwn.leaving rfl (pi_range1 rfl T.z_range (pa_cons (pv 2) pa_nil)) (pg_name (i := 5) sc__law_is_inverse.nd rfl (Or.inr rfl)) (pss_cons (ps_set (i := 6) sc__law_is_inverse.nd rfl (Or.inl rfl) (pe_call G__law_dot (hr.mono (by decide)) (by rfl) T.g__law_dot k__law_dot b__law_dot .nil passL (pa_cons (pv 4) (pa_cons (pe_lc (own := [("row", 7)]) (g := gName 7) rfl sc__law_is_inverse.nd (pi_list (pv 1)) (blkOk_by (own := [("row", 7)]) (N := N__law_is_inverse) (sc := defScope s__law_is_inverse) (by decide +kernel)) (fun _ _ _ _ _ => (pg_name (i := 7) sc__law_is_inverse.nd rfl (Or.inl rfl))) (fun _ _ _ _ _ => pts_nil) (fun _ _ _ _ _ => (pe_ix (show IxR _ (rIxL K) from ix_list) (pv 7) (pv 5) (fun _ _ => rfl)))) pa_nil))))
      (pss_one (ps_if (pt_cmpR op_ne (pe_ix ix_tup (pv 6) pe_int (fun _ _ => rfl)) (pe_op op_mulW (pe_ix ix_tup (pv 6) pe_int (fun _ _ => rfl)) (pe_callTy call_int1 (by rfl) T.z_int (by decide +kernel) (pa_cons (pe_cmpR op_eq (pv 3) (pv 5) (nomark _)) pa_nil))) (nomark _)) (pss_one (ps_ret pe_bl)) pss_nil))))))))
      (pss_one (ps_ret pe_bl)))), ?_⟩
    refine ⟨_, rfl, _, _, _, _, true, rfl, .ty _, .base (.lst hV), kit_ty (by decide +kernel), _, rfl, iteN rfl ?_⟩
    refine ⟨_, rfl, _, _, rfl, .inl (SqL.of hV), _, rfl, rfl, _, rfl, iteEqN (fun ne => absurd (by omega) ne) (fun _ => ?_)⟩
    refine ⟨_, rfl, _, rfl, by omega, by omega, for_range (lo := 0) (n := (W : Int).toNat) (fun j σ' H' => ∃ (y3 y4 y5 y6 : Option V), σ' = [some (.ref v), some (.ref a), some (.int (W : Int)), y3, y4, y5, y6, none] ∧ Same H H') ⟨_, _, _, _, rfl, .refl _⟩ (fun j σ' H' hj hI => ?_) (fun σ' H' hI => ?_)⟩
    · obtain ⟨y3, y4, y5, y6, rfl, sK⟩ := hI
      have jW : j < W := by omega
      have e0 : (0 : Int) + (j : Int) = (j : Int) := Int.zero_add _
      rw [e0]
      obtain ⟨b, ys, ps, k1, k2, k3, k4, k5⟩ := rows j jW
      refine ⟨_, rfl, _, rfl, v, _, _, _, rfl, rfl, SqL.of (sK _ _ hV), at_of (j := j) rfl k1, _, rfl, _, _, rfl, .inl (SqL.of (sK _ _ hA)), b, ys, ps, _, 510, (), rfl, sK _ _ k2, k3.mono sK, by omega, by omega, fun p4 J2 us qs sm4 np4 hp4 hus ql4 qw qf => ?_⟩
      refine ⟨_, rfl, rfl, _, rfl, iteN (by simp) ?_⟩
      have sJ := sK.trans sm4
      refine ⟨_, rfl, _, rfl, by omega, by omega, for_range (lo := 0) (n := (W : Int).toNat) (fun k σ2 H2 => ∃ (y5 y6 : Option V), σ2 = [some (.ref v), some (.ref a), some (.int (W : Int)), some (.int (j : Int)), some (.ref p4), y5, y6, none] ∧ Same J2 H2) ⟨_, _, rfl, .refl _⟩ (fun k σ2 H2 hk hI => ?_) (fun σ2 H2 hI => ?_)⟩
      · obtain ⟨y5, y6, rfl, s2⟩ := hI
        have kW : k < W := by omega
        have e1 : (0 : Int) + (k : Int) = (k : Int) := Int.zero_add _
        rw [e1]
        have sJ2 := sJ.trans s2
        refine ⟨_, rfl, _, rfl, _, rfl, ⟨_, SqL.of (sJ2 _ _ hA)⟩, fun D nD => lc_list (K := K) (a := a) (xs := xs) (fun i H3 => Same H2 H3 ∧ ∃ ws, H3 D = some (.lst ws) ∧ PrL H3 ws (colD (ts.take i) k)) ⟨sm_new nD, [], upd_same, .nil⟩ (fun i H3 hi hP => hP.1.seq (SqL.of (sJ2 _ _ hA))) (fun i x H3 hx hP => ?_) (fun H3 hP => ?_)⟩
        · obtain ⟨s3, ws, hD, hW⟩ := hP
          obtain ⟨t, ra, zs, ht, rfl, hra, hzs⟩ := (hxs.mono (sJ2.trans s3)).item hx
          have il := (List.getElem?_eq_some_iff.mp ht).1
          obtain ⟨tl, tok⟩ := wt t (List.mem_of_getElem? ht)
          obtain ⟨c, ec, hc⟩ := hzs.at_ k _ (List.getElem?_eq_getElem (show k < t.length by omega))
          refine ⟨rfl, yes_ok (iteK rfl ?_)⟩
          refine ⟨_, rfl, _, rfl, ra, _, _, _, rfl, rfl, SqL.of hra, at_of (j := k) rfl ec, ?_⟩
          refine ⟨ws, hD, by rw [hW.len]; unfold colD; rw [List.length_map, List.length_take]; exact small1000 (by omega), same_mut s3 nD, ws ++ [.ref c], upd_same, ?_⟩
          have et : t.getD k (0, 1) = t[k]'(by omega) := by rw [List.getD_eq_getElem?_getD, List.getElem?_eq_getElem (show k < t.length by omega)]; rfl
          unfold colD at hW ⊢
          rw [List.take_succ, ht, List.map_append]
          show PrL _ _ (_ ++ [t.getD k (0, 1)])
          rw [et]
          exact (hW.snoc hc).upd hD
        · obtain ⟨s3, ws, hD, hW⟩ := hP
          rw [List.take_of_length_le (by omega)] at hW
          have cl : (colD ts k).length = ts.length := by unfold colD; rw [List.length_map]
          have s23 := s2.trans s3
          refine ⟨p4, D, us, ws, qs, colD ts k, 510 + 20 + 1, rfl, SqL.of (s23 _ _ hp4), SqL.of hD, hus.mono s23, hW, ⟨510, 20, qw, fun x hx => ?_, rfl⟩, by omega, by omega, by omega, fun p5 J5 zz sm5 np5 hp5 pw rq5 => ?_⟩
          · obtain ⟨t, ht, rfl⟩ := List.mem_map.mp hx
            obtain ⟨tl, tok⟩ := wt t ht
            rw [List.getD_eq_getElem?_getD, List.getElem?_eq_getElem (show k < t.length by omega)]
            exact tok _ (List.getElem_mem _)
          · have z0 := k5 k qs zz kW ql4 (fun q hq => (qw q hq).p) qf pw.p rq5
            have s5 : SqT K J5 p5 [.int zz.1, .int zz.2] := SqT.of hp5
            have ei : (if decide (V.int (j : Int) = V.int (k : Int)) = true then (1 : Int) else 0) = if j = k then 1 else 0 := by
              by_cases c : j = k
              · rw [if_pos c, if_pos (decide_eq_true (by rw [c]))]
              · rw [if_neg c, decide_eq_false (fun e => c (by have := V.int.inj e; omega))]
                rfl
            refine ⟨_, rfl, _, _, _, _, rfl, rfl, s5, atI_nat (j := 0) rfl, _, rfl, _, _, _, _, rfl, rfl, s5, atI_nat (j := 1) rfl, _, rfl, _, rfl, rfl, .inr ⟨_, rfl, _, _, rfl, rfl, ?_, rfl, _, rfl, iteEqN (fun ne => absurd ?_ ne) (fun _ => ?_)⟩⟩
            · rw [ei]
              exact mulW (b := 1) pw.b.b (by split <;> decide) (by omega)
            · rw [ei]; exact z0
            · exact ⟨_, _, rfl, s23.trans sm5⟩
      · obtain ⟨y5, y6, rfl, s2⟩ := hI
        exact ⟨_, _, _, _, rfl, sJ.trans s2⟩
    · obtain ⟨y3, y4, y5, y6, rfl, sK⟩ := hI
      exact q _ sK

theorem ok__law_is (T : Tx K mg) (O__law_is_number : OkF P w K mg base 2 (He.fAd K ("_law_is_number", none)) ["x"] (spIsNu K)) : OkF P w K mg base 3 (He.fAd K ("_law_is", none)) ["x", "pair"] (spIsPr K) := by
  obtain ⟨_, G__law_is_number, b__law_is_number, k__law_is_number⟩ := O__law_is_number
  refine okF_of (d := d__law_is) T.d__law_is rfl sc__law_is (fun _ _ _ _ _ _ us hl => match us, hl with | [_, _], _ => rfl) (fun vs H Q E h => ?_) (fun cdv A outer s H vs Q E hr h => ?_)
  · first | (obtain ⟨_, rfl, _⟩ := h; rfl) | (obtain ⟨_, _, rfl, _⟩ := h; rfl) | (obtain ⟨_, _, _, rfl, _⟩ := h; rfl) | (obtain ⟨_, _, _, _, rfl, _⟩ := h; rfl) | (obtain ⟨_, _, _, _, _, rfl, _⟩ := h; rfl) | (obtain ⟨_, _, _, _, _, _, rfl, _⟩ := h; rfl) | (obtain ⟨_, _, _, _, _, _, _, rfl, _⟩ := h; rfl) | (obtain ⟨_, _, _, _, _, _, _, _, rfl, _⟩ := h; rfl) | (obtain ⟨_, _, _, _, _, _, _, _, _, rfl, _⟩ := h; rfl) | (obtain ⟨_, _, _, _, _, _, _, _, _, _, rfl, _⟩ := h; rfl)
  · obtain ⟨a, da, b, n, d, x, k, j, rfl, ha, hd, hb, bn, bd, bx, hk, hj, e, q⟩ := h
    refine ⟨_, (pss_one (ps_ret (pe_and (pe_call G__law_is_number (hr.mono (by decide)) (by rfl) T.g__law_is_number k__law_is_number b__law_is_number .nil passL (pa_cons (pv 0) pa_nil)) (pe_one (pe_cmpR op_eq (pe_op op_mulW (pe_fld (pv 0) rfl) (pe_ix ix_tup (pv 1) pe_int (fun _ _ => rfl))) (pe_op op_mulW (pe_ix ix_tup (pv 1) pe_int (fun _ _ => rfl)) (pe_fld (pv 0) rfl)) (nomark _)))))), ?_⟩
    have sb : SqT K H b [.int x.1, .int x.2] := SqT.of hb
    refine ⟨_, rfl, _, _, _, _, rfl, ha, hd, _, rfl, iteK rfl ?_⟩
    refine ⟨_, rfl, _, _, _, _, _, rfl, ha, T.cls_Fraction, T.n_Fraction_num, rfl, _, rfl, _, _, _, _, rfl, rfl, sb, atI_nat (j := 1) rfl, _, _, rfl, rfl, mulW bn bx.b (by omega), _, rfl, _, _, _, _, rfl, rfl, sb, atI_nat (j := 0) rfl, _, rfl, _, _, _, _, _, rfl, ha, T.cls_Fraction, T.n_Fraction_den, rfl, _, _, rfl, rfl, mulW bx.a bd (by omega), rfl, ?_⟩
    rw [veq e]
    exact q

theorem ok__law_is_vector (T : Tx K mg) (O__law_is : OkF P w K mg base 3 (He.fAd K ("_law_is", none)) ["x", "pair"] (spIsPr K)) : OkF P w K mg base 4 (He.fAd K ("_law_is_vector", none)) ["xs", "pairs"] (spIsVec K) := by
  obtain ⟨_, G__law_is, b__law_is, k__law_is⟩ := O__law_is
  refine okF_of (d := d__law_is_vector) T.d__law_is_vector rfl sc__law_is_vector (fun _ _ _ _ _ _ us hl => match us, hl with | [_, _], _ => rfl) (fun vs H Q E h => ?_) (fun cdv A outer s H vs Q E hr h => ?_)
  · first | (obtain ⟨_, rfl, _⟩ := h; rfl) | (obtain ⟨_, _, rfl, _⟩ := h; rfl) | (obtain ⟨_, _, _, rfl, _⟩ := h; rfl) | (obtain ⟨_, _, _, _, rfl, _⟩ := h; rfl) | (obtain ⟨_, _, _, _, _, rfl, _⟩ := h; rfl) | (obtain ⟨_, _, _, _, _, _, rfl, _⟩ := h; rfl) | (obtain ⟨_, _, _, _, _, _, _, rfl, _⟩ := h; rfl) | (obtain ⟨_, _, _, _, _, _, _, _, rfl, _⟩ := h; rfl) | (obtain ⟨_, _, _, _, _, _, _, _, _, rfl, _⟩ := h; rfl) | (obtain ⟨_, _, _, _, _, _, _, _, _, _, rfl, _⟩ := h; rfl)
  · obtain ⟨a, b, us, ws, xs, ys, rfl, hA, hB, fa, fb, hl, h1, he, q⟩ := h
    refine ⟨_, (pss_cons (ps_if (PW.pt (pw_or (pt_not (pt_val (pe_callB call_isi (by rfl) T.z_isinstance (by decide +kernel) (pa_cons (pv 0) (pa_cons (pe_bltn (v := .ty "list") rfl T.z_list (by decide +kernel) rfl) pa_nil))))) (pw_or1 (pt_cmpR op_ne (pe_callB call_len_seq (by rfl) T.z_len PySem.boot_len (pa_cons (pv 0) pa_nil)) (pe_callB call_len_seq (by rfl) T.z_len PySem.boot_len (pa_cons (pv 1) pa_nil)) (nomark _))))) (pss_one (ps_ret pe_bl)) pss_nil)
      (pss_cons (ps_for PassesOwn.leaving rfl (pi_range1 rfl T.z_range (pa_cons (pe_callB call_len_seq (by rfl) T.z_len PySem.boot_len (pa_cons (pv 1) pa_nil)) pa_nil)) (pg_name (i := 2) sc__law_is_vector.nd rfl (Or.inl rfl)) (pss_one (ps_if (pt_not (pt_val (pe_call G__law_is (hr.mono (by decide)) (by rfl) T.g__law_is k__law_is b__law_is .nil passL (pa_cons (pe_ix ix_list (pv 0) (pv 2) (fun _ _ => rfl)) (pa_cons (pe_ix ix_list (pv 1) (pv 2) (fun _ _ => rfl)) pa_nil))))) (pss_one (ps_ret pe_bl)) pss_nil)))
      (pss_one (ps_ret pe_bl)))), ?_⟩
    have ul := fa.len
    have wl := fb.len
    refine ⟨_, rfl, _, _, _, _, true, rfl, .ty _, .base (.lst hA), kit_ty (by decide +kernel), _, rfl, iteN rfl ?_⟩
    refine ⟨_, rfl, _, _, rfl, .inl (SqL.of hA), _, rfl, _, _, rfl, .inl hB, rfl, _, rfl, iteEqN (fun ne => absurd (by omega) ne) (fun _ => ?_)⟩
    refine ⟨_, rfl, _, _, rfl, .inl hB, _, rfl, by omega, by omega, for_range (lo := 0) (n := ws.length) (fun i σ' H' => H = H' ∧ ∃ y2 : Option V, σ' = [some (.ref a), some (.ref b), y2]) ⟨rfl, none, rfl⟩ (fun i σ' H1 hi hI => ?_) (fun σ' H1 hI => ?_)⟩
    · obtain ⟨rfl, y2, rfl⟩ := hI
      have e0 : (0 : Int) + (i : Int) = (i : Int) := Int.zero_add _
      rw [e0]
      have hu : us[i]? = some us[i] := List.getElem?_eq_getElem (by omega)
      have hw : ws[i]? = some ws[i] := List.getElem?_eq_getElem (by omega)
      generalize us[i] = u at hu
      generalize ws[i] = v at hw
      obtain ⟨x, n, d, c, dc, hx, rfl, hc, l, f⟩ := fa.item hu
      obtain ⟨y, c2, hy, rfl, hc2⟩ := fb.item hw
      obtain ⟨r, bY, nz⟩ := he i x y hx hy
      have e : n * y.2 = y.1 * d := by
        have e1 : x.1 * y.2 = y.1 * x.2 := r
        have e2 := f.eq
        have e3 : (n * y.2) * x.2 = (y.1 * d) * x.2 := by grind
        exact Int.eq_of_mul_eq_mul_right nz e3
      refine ⟨_, rfl, _, rfl, _, _, _, _, rfl, rfl, SqL.of hA, atI_nat (j := i) hu, _, rfl, _, rfl, _, _, _, _, rfl, rfl, hB, atI_nat (j := i) hw, _, _, _, n, d, y, 1000, 1000, rfl, hc, l.pos, hc2, l.bn, l.bd, bY, by decide, by decide, e, _, rfl, iteN rfl ?_⟩
      exact ⟨rfl, _, rfl⟩
    · obtain ⟨rfl, y2, rfl⟩ := hI
      exact q

theorem ok__law_is_matrix (T : Tx K mg) (O__law_is_vector : OkF P w K mg base 4 (He.fAd K ("_law_is_vector", none)) ["xs", "pairs"] (spIsVec K)) : OkF P w K mg base 5 (He.fAd K ("_law_is_matrix", none)) ["xs", "rows"] (spIsMat K) := by
  obtain ⟨_, G__law_is_vector, b__law_is_vector, k__law_is_vector⟩ := O__law_is_vector
  refine okF_of (d := d__law_is_matrix) T.d__law_is_matrix rfl sc__law_is_matrix (fun _ _ _ _ _ _ us hl => match us, hl with | [_, _], _ => rfl) (fun vs H Q E h => ?_) (fun cdv A outer s H vs Q E hr h => ?_)
  · first | (obtain ⟨_, rfl, _⟩ := h; rfl) | (obtain ⟨_, _, rfl, _⟩ := h; rfl) | (obtain ⟨_, _, _, rfl, _⟩ := h; rfl) | (obtain ⟨_, _, _, _, rfl, _⟩ := h; rfl) | (obtain ⟨_, _, _, _, _, rfl, _⟩ := h; rfl) | (obtain ⟨_, _, _, _, _, _, rfl, _⟩ := h; rfl) | (obtain ⟨_, _, _, _, _, _, _, rfl, _⟩ := h; rfl) | (obtain ⟨_, _, _, _, _, _, _, _, rfl, _⟩ := h; rfl) | (obtain ⟨_, _, _, _, _, _, _, _, _, rfl, _⟩ := h; rfl) | (obtain ⟨_, _, _, _, _, _, _, _, _, _, rfl, _⟩ := h; rfl)
  · obtain ⟨a, b, us, ws, ls, ts, rfl, hA, hB, fa, fb, hl, h1, he, q⟩ := h
    refine ⟨_, (pss_cons (ps_if (PW.pt (pw_or (pt_not (pt_val (pe_callB call_isi (by rfl) T.z_isinstance (by decide +kernel) (pa_cons (pv 0) (pa_cons (pe_bltn (v := .ty "list") rfl T.z_list (by decide +kernel) rfl) pa_nil))))) (pw_or1 (pt_cmpR op_ne (pe_callB call_len_seq (by rfl) T.z_len PySem.boot_len (pa_cons (pv 0) pa_nil)) (pe_callB call_len_seq (by rfl) T.z_len PySem.boot_len (pa_cons (pv 1) pa_nil)) (nomark _))))) (pss_one (ps_ret pe_bl)) pss_nil)
      (pss_cons (ps_for PassesOwn.leaving rfl (pi_range1 rfl T.z_range (pa_cons (pe_callB call_len_seq (by rfl) T.z_len PySem.boot_len (pa_cons (pv 1) pa_nil)) pa_nil)) (pg_name (i := 2) sc__law_is_matrix.nd rfl (Or.inl rfl)) (pss_one (ps_if (pt_not (pt_val (pe_call G__law_is_vector (hr.mono (by decide)) (by rfl) T.g__law_is_vector k__law_is_vector b__law_is_vector .nil passL (pa_cons (pe_ix ix_list (pv 0) (pv 2) (fun _ _ => rfl)) (pa_cons (pe_ix ix_list (pv 1) (pv 2) (fun _ _ => rfl)) pa_nil))))) (pss_one (ps_ret pe_bl)) pss_nil)))
      (pss_one (ps_ret pe_bl)))), ?_⟩
    have ul := fa.len
    have wl := fb.len
    refine ⟨_, rfl, _, _, _, _, true, rfl, .ty _, .base (.lst hA), kit_ty (by decide +kernel), _, rfl, iteN rfl ?_⟩
    refine ⟨_, rfl, _, _, rfl, .inl (SqL.of hA), _, rfl, _, _, rfl, .inl hB, rfl, _, rfl, iteEqN (fun ne => absurd (by omega) ne) (fun _ => ?_)⟩
    refine ⟨_, rfl, _, _, rfl, .inl hB, _, rfl, by omega, by omega, for_range (lo := 0) (n := ws.length) (fun i σ' H' => H = H' ∧ ∃ y2 : Option V, σ' = [some (.ref a), some (.ref b), y2]) ⟨rfl, none, rfl⟩ (fun i σ' H1 hi hI => ?_) (fun σ' H1 hI => ?_)⟩
    · obtain ⟨rfl, y2, rfl⟩ := hI
      have e0 : (0 : Int) + (i : Int) = (i : Int) := Int.zero_add _
      rw [e0]
      have hu : us[i]? = some us[i] := List.getElem?_eq_getElem (by omega)
      have hw : ws[i]? = some ws[i] := List.getElem?_eq_getElem (by omega)
      generalize us[i] = u at hu
      generalize ws[i] = v at hw
      obtain ⟨xs, c, us2, hx, rfl, hc, hx2⟩ := fa.item hu
      obtain ⟨ys, c2, ws2, hy, rfl, hc2, hy2⟩ := fb.item hw
      obtain ⟨e1, e2, e3⟩ := he i xs ys hx hy
      refine ⟨_, rfl, _, rfl, _, _, _, _, rfl, rfl, SqL.of hA, atI_nat (j := i) hu, _, rfl, _, rfl, _, _, _, _, rfl, rfl, hB, atI_nat (j := i) hw, _, _, us2, ws2, xs, ys, rfl, hc, SqL.of hc2, hx2, hy2, e1, e2, e3, _, rfl, iteN rfl ?_⟩
      exact ⟨rfl, _, rfl⟩
    · obtain ⟨rfl, y2, rfl⟩ := hI
      exact q

end
section
variable {P : Program} {w : World} {K : PySem.W.Frag} {mg : Str → Option Value}
theorem ok_law (T : Tx K mg) (O__law_cell : ∀ base, OkF P w K mg base 1 (He.fAd K ("_law_cell", none)) ["script", "k"] (spCell K)) (O__law_digits : ∀ base, OkF P w K mg base 1 (He.fAd K ("_law_digits", none)) ["cell", "limit", "count"] (spDig K)) (O__law_size : ∀ base, OkF P w K mg base 1 (He.fAd K ("_law_size", none)) ["d"] (spSize K)) (O__law_pairs : ∀ base, OkF P w K mg base 2 (He.fAd K ("_law_pairs", none)) ["cell", "count", "style"] (spPairs K)) (O__law_planted : ∀ base, OkF P w K mg base 2 (He.fAd K ("_law_planted", none)) ["rows", "width", "plant", "pairs"] (spPlant K)) (O__law_matrix : ∀ base, OkF P w K mg base 4 (He.fAd K ("_law_matrix", none)) ["rows"] (spLMat K)) (O_kernel : ∀ base, OkF P w K mg base 8 (He.fAd K ("kernel", none)) ["rows", "width"] (spKern K)) (O__law_read : ∀ base, OkF P w K mg base 3 (He.fAd K ("_law_read", none)) ["xs", "count"] (spRead K)) (O__law_is_vector_of : ∀ base, OkF P w K mg base 3 (He.fAd K ("_law_is_vector_of", none)) ["found", "rows"] (spVecOf K)) (O__law_is_inverse : ∀ base, OkF P w K mg base 4 (He.fAd K ("_law_is_inverse", none)) ["inverse", "rows", "width"] (spIsInv K)) (O_Fraction___init__ : ∀ base, OkD P w K mg base 1 (He.fAd K ("Fraction", some "__init__")) ["self", "num", "den"] (He.Dv.v K (.int 1)) (spInit K)) (O__law_is_matrix : ∀ base, OkF P w K mg base 5 (He.fAd K ("_law_is_matrix", none)) ["xs", "rows"] (spIsMat K)) : ∃ fd : FuncData, (∀ (s : Shared) (v : Value), BindsTo s fd ⟨[v], []⟩ [("script", v)]) ∧ ∀ base : Heap, FnOk P w K mg base CX0 9 (He.fAd K ("law", none)) fd ["script"] (spLaw K) := by
  refine okLaw_of (d := d_law) T.d_law rfl sc_law (fun _ _ _ _ _ _ us hl => match us, hl with | [_], _ => rfl) (fun vs H Q E h => by obtain ⟨_, _, rfl, _⟩ := h; rfl) (fun base cdv A outer s H vs Q E hr h => ?_)
  · obtain ⟨_, G__law_cell, b__law_cell, k__law_cell⟩ := O__law_cell base
    obtain ⟨_, G__law_digits, b__law_digits, k__law_digits⟩ := O__law_digits base
    obtain ⟨_, G__law_size, b__law_size, k__law_size⟩ := O__law_size base
    obtain ⟨_, G__law_pairs, b__law_pairs, k__law_pairs⟩ := O__law_pairs base
    obtain ⟨_, G__law_planted, b__law_planted, k__law_planted⟩ := O__law_planted base
    obtain ⟨_, G__law_matrix, b__law_matrix, k__law_matrix⟩ := O__law_matrix base
    obtain ⟨_, G_kernel, b_kernel, k_kernel⟩ := O_kernel base
    obtain ⟨_, G__law_read, b__law_read, k__law_read⟩ := O__law_read base
    obtain ⟨_, G__law_is_vector_of, b__law_is_vector_of, k__law_is_vector_of⟩ := O__law_is_vector_of base
    obtain ⟨_, G__law_is_inverse, b__law_is_inverse, k__law_is_inverse⟩ := O__law_is_inverse base
    obtain ⟨_, G_Fraction___init__, b_Fraction___init__, ⟨_, v_Fraction___init__, bd_Fraction___init__⟩, k_Fraction___init__⟩ := O_Fraction___init__ base
    obtain ⟨_, G__law_is_matrix, b__law_is_matrix, k__law_is_matrix⟩ := O__law_is_matrix base
    obtain ⟨aS, ns, rfl, hS, hl, q⟩ := h
    refine ⟨_, (pss_cons (ps_setLc (i := 1) (own := [("d", 12)]) (g := gName 12) rfl sc_law.nd rfl rfl (sw_true rfl rfl rfl (by decide +kernel)) (pi_list (pe_call G__law_digits (hr.mono (by decide)) (by rfl) T.g__law_digits k__law_digits b__law_digits .nil passL (pa_cons (pe_call G__law_cell (hr.mono (by decide)) (by rfl) T.g__law_cell k__law_cell b__law_cell .nil passL (pa_cons (pv 0) (pa_cons pe_int pa_nil))) (pa_cons pe_int (pa_cons pe_int pa_nil))))) (blkOk_by (own := [("d", 12)]) (N := N_law) (sc := defScope s_law) (by decide +kernel)) (fun _ _ _ _ _ => (pg_name (i := 12) sc_law.nd rfl (Or.inl rfl))) (fun _ _ _ _ _ => pts_nil) (fun _ _ _ _ _ => (pe_call G__law_size (hr.mono (by decide)) (by rfl) T.g__law_size k__law_size b__law_size .nil passL (pa_cons (pv 12) pa_nil))))
      (pss_cons (ps_setI (i := 2) sc_law.nd rfl (Or.inr rfl) (pe_ix ix_list (pv 1) pe_int (fun _ _ => rfl)))
      (pss_cons (ps_setI (i := 3) sc_law.nd rfl (Or.inr rfl) (pe_ix ix_list (pe_call G__law_digits (hr.mono (by decide)) (by rfl) T.g__law_digits k__law_digits b__law_digits .nil passL (pa_cons (pe_call G__law_cell (hr.mono (by decide)) (by rfl) T.g__law_cell k__law_cell b__law_cell .nil passL (pa_cons (pv 0) (pa_cons pe_int pa_nil))) (pa_cons pe_int (pa_cons pe_int pa_nil)))) pe_int (fun _ _ => rfl)))
      (pss_cons (ps_setI (i := 4) sc_law.nd rfl (Or.inl rfl) (pe_ix ix_list (pe_call G__law_digits (hr.mono (by decide)) (by rfl) T.g__law_digits k__law_digits b__law_digits .nil passL (pa_cons (pe_call G__law_cell (hr.mono (by decide)) (by rfl) T.g__law_cell k__law_cell b__law_cell .nil passL (pa_cons (pv 0) (pa_cons pe_int pa_nil))) (pa_cons pe_int (pa_cons pe_int pa_nil)))) pe_int (fun _ _ => rfl)))
      (pss_cons (ps_setLc (i := 5) (own := [("k", 13)]) (g := gName 13) rfl sc_law.nd rfl rfl (sw_true rfl rfl rfl (by decide +kernel)) (pi_range1 rfl T.z_range (pa_cons (pe_ix ix_list (pv 1) pe_int (fun _ _ => rfl)) pa_nil)) (blkOk_by (own := [("k", 13)]) (N := N_law) (sc := defScope s_law) (by decide +kernel)) (fun _ _ _ _ _ => (pg_name (i := 13) sc_law.nd rfl (Or.inl rfl))) (fun _ _ _ _ _ => pts_nil) (fun _ _ _ _ _ => (pe_call G__law_pairs (hr.mono (by decide)) (by rfl) T.g__law_pairs k__law_pairs b__law_pairs .nil passL (pa_cons (pe_call G__law_cell (hr.mono (by decide)) (by rfl) T.g__law_cell k__law_cell b__law_cell .nil passL (pa_cons (pv 0) (pa_cons (pe_op op_add pe_int (pv 13)) pa_nil))) (pa_cons (pv 2) (pa_cons (pv 3) pa_nil))))))
      (pss_cons (ps_set (i := 6) sc_law.nd rfl (Or.inl rfl) (pe_call G__law_pairs (hr.mono (by decide)) (by rfl) T.g__law_pairs k__law_pairs b__law_pairs .nil passL (pa_cons (pe_call G__law_cell (hr.mono (by decide)) (by rfl) T.g__law_cell k__law_cell b__law_cell .nil passL (pa_cons (pv 0) (pa_cons pe_int pa_nil))) (pa_cons (pe_op op_add (pv 2) pe_int) (pa_cons pe_int pa_nil)))))
      (pss_cons (ps_set (i := 5) sc_law.nd rfl (Or.inl rfl) (pe_call G__law_planted (hr.mono (by decide)) (by rfl) T.g__law_planted k__law_planted b__law_planted .nil passL (pa_cons (pv 5) (pa_cons (pv 2) (pa_cons (pv 4) (pa_cons (pv 6) pa_nil))))))
      (pss_cons (ps_set (i := 7) sc_law.nd rfl (Or.inl rfl) (pe_call G__law_matrix (hr.mono (by decide)) (by rfl) T.g__law_matrix k__law_matrix b__law_matrix .nil passL (pa_cons (pv 5) pa_nil)))
      (pss_cons (ps_for PassesOwn.leaving rfl (pi_range1 rfl T.z_range (pa_cons pe_int pa_nil)) (pg_name (i := 8) sc_law.nd rfl (Or.inl rfl)) (pss_cons (ps_set (i := 9) sc_law.nd rfl (Or.inl rfl) (pe_call G_kernel (hr.mono (by decide)) (by rfl) T.g_kernel k_kernel b_kernel .nil passL (pa_cons (pv 7) (pa_cons (pv 2) pa_nil))))
      (pss_cons (ps_if (PW.pt (pw_or (pt_not (pt_val (pe_callB call_isi (by rfl) T.z_isinstance (by decide +kernel) (pa_cons (pv 9) (pa_cons (pe_bltn (v := .ty "tuple") rfl T.z_tuple (by decide +kernel) rfl) pa_nil))))) (pw_or (pt_cmpR op_ne (pe_callB call_len_seq (by rfl) T.z_len PySem.boot_len (pa_cons (pv 9) pa_nil)) pe_int (nomark _)) (pw_or1 (pt_not (pt_val (pe_callB call_isi (by rfl) T.z_isinstance (by decide +kernel) (pa_cons (pe_ix ix_tup (pv 9) pe_int (fun _ _ => rfl)) (pa_cons (pe_bltn (v := .ty "list") rfl T.z_list (by decide +kernel) rfl) pa_nil))))))))) (pss_one (ps_ret pe_bl)) pss_nil)
      (Evl.pss_cut (ps_if (pt_cmpR op_eq (pe_ix ix_tup (pv 9) pe_int (fun _ _ => rfl)) pe_str (nomark _)) (pss_cons (ps_set (i := 10) sc_law.nd rfl (Or.inl rfl) (pe_call G__law_read (hr.mono (by decide)) (by rfl) T.g__law_read k__law_read b__law_read .nil passL (pa_cons (pe_ix ix_tup (pv 9) pe_int (fun _ _ => rfl)) (pa_cons (pv 2) pa_nil))))
      (pss_cons (ps_if (PW.pt (pw_or (pt_cmpR op_isN1 (pv 10) pe_non (nomark _)) (pw_or1 (pt_not (pt_val (pe_call G__law_is_vector_of (hr.mono (by decide)) (by rfl) T.g__law_is_vector_of k__law_is_vector_of b__law_is_vector_of .nil passL (pa_cons (pv 10) (pa_cons (pv 5) pa_nil)))))))) (pss_one (ps_ret pe_bl)) pss_nil)
      (pss_one (ps_if (PW.pt (pw_or (pt_cmpR op_eq (pv 2) pe_int (nomark _)) (pw_or1 (pt_cmpR op_eq (pe_op op_mod (pe_callTy call_int1 (by rfl) T.z_int (by decide +kernel) (pa_cons (pv 4) pa_nil)) pe_int) pe_int (nomark _))))) (pss_one (ps_ret pe_bl)) pss_nil)))) (pss_cons (ps_if (PW.pt (pw_or (pt_cmpR op_ne (pe_ix ix_tup (pv 9) pe_int (fun _ _ => rfl)) pe_str (nomark _)) (pw_or1 (pt_not (pt_val (pe_call G__law_is_inverse (hr.mono (by decide)) (by rfl) T.g__law_is_inverse k__law_is_inverse b__law_is_inverse .nil passL (pa_cons (pe_ix ix_tup (pv 9) pe_int (fun _ _ => rfl)) (pa_cons (pv 5) (pa_cons (pv 2) pa_nil))))))))) (pss_one (ps_ret pe_bl)) pss_nil)
      (pss_cons (ps_if (PW.pt (pw_or (pt_cmpR op_gt (pv 2) (pe_callB call_len_seq (by rfl) T.z_len PySem.boot_len (pa_cons (pv 5) pa_nil)) (nomark _)) (pw_or1 (PW.pt (pw_and (pt_cmpR op_eq (pe_op op_mod (pe_callTy call_int1 (by rfl) T.z_int (by decide +kernel) (pa_cons (pv 4) pa_nil)) pe_int) pe_int (nomark _)) (pw_and1 (pt_cmpR op_gt (pv 2) pe_int (nomark _)))))))) (pss_one (ps_ret pe_bl)) pss_nil)
      (pss_one (ps_for PassesOwn.leaving rfl (pi_list (pe_ix ix_tup (pv 9) pe_int (fun _ _ => rfl))) (pg_name (i := 11) sc_law.nd rfl (Or.inl rfl)) (pss_one (ps_expr (pe_bm PySem.F.plainAttrs_list PySem.F.slot_list_append PySem.F.type_list_append mt_append (pv 11) (pa_cons (pe_makeI T.mk_Fraction G_Fraction___init__ (hr.mono (by decide)) (by rfl) T.g_Fraction bd_Fraction___init__ v_Fraction___init__ passL (mkFr_conv K [_]) (pa_cons pe_int pa_nil)) pa_nil)))))))))
      (pss_cons (ps_expr (pe_bm PySem.F.plainAttrs_list PySem.F.slot_list_append PySem.F.type_list_append mt_append (pe_ix ix_tup (pv 9) pe_int (fun _ _ => rfl)) (pa_cons (pe_makeI T.mk_Fraction G_Fraction___init__ (hr.mono (by decide)) (by rfl) T.g_Fraction bd_Fraction___init__ v_Fraction___init__ passL (mkFr_conv K [_]) (pa_cons pe_int pa_nil)) pa_nil)))
      (pss_one (ps_asg (pe_makeI T.mk_Fraction G_Fraction___init__ (hr.mono (by decide)) (by rfl) T.g_Fraction bd_Fraction___init__ v_Fraction___init__ passL (mkFr_conv K [_]) (pa_cons pe_int pa_nil)) (pg_sub (pe_ix ix_tup (pv 9) pe_int (fun _ _ => rfl)) pe_int set_list))))))))
      (pss_one (ps_ret (pe_call G__law_is_matrix (hr.mono (by decide)) (by rfl) T.g__law_is_matrix k__law_is_matrix b__law_is_matrix .nil passL (pa_cons (pv 7) (pa_cons (pv 5) pa_nil)))))))))))))), ?_⟩
    refine ⟨_, rfl, _, _, _, rfl, hS, by decide, fun cell0 => ?_⟩
    refine ⟨_, _, _, rfl, by decide, by decide, by decide, by decide, fun p0 H1 ms0 sm1 np0 hp0 ml0 mb0 => ?_⟩
    refine ⟨_, rfl, ⟨_, SqL.of hp0⟩, fun D1 nD1 => lc_list (K := K) (a := p0) (xs := ms0.map V.int) (fun i H' => ∃ zs : List Int, H' D1 = some (.lst (zs.map V.int)) ∧ Same H1 H' ∧ zs.length = i ∧ ∀ z ∈ zs, 0 ≤ z ∧ z ≤ 11)
      ⟨[], upd_same, sm_new nD1, rfl, fun z h => absurd h (by simp)⟩ (fun i H' hi hP => ?_) (fun i y H' hi hP => ?_) (fun H2 hP => ?_)⟩
    · obtain ⟨zs, hD, sm, hl1, hb⟩ := hP
      exact sm.seq (SqL.of hp0)
    · obtain ⟨zs, hD, sm, hl1, hb⟩ := hP
      obtain ⟨d, hd, rfl⟩ := get_map_int hi
      refine ⟨rfl, yes_ok (iteK rfl ?_)⟩
      have li : i < ms0.length := (List.getElem?_eq_some_iff.mp hd).1
      refine ⟨_, rfl, _, rfl, fun c c0 c1 => ?_⟩
      have l3 : ms0.length = 2 := ml0
      refine ⟨_, hD, by rw [len_map]; exact small1000 (by omega), zs ++ [c], by rw [upd_same, List.map_append]; rfl, same_mut sm nD1, by rw [List.length_append, hl1]; rfl, fun z hz => ?_⟩
      rcases List.mem_append.mp hz with hz | hz
      · exact hb z hz
      · rw [List.mem_singleton.mp hz]; exact ⟨c0, c1⟩
    obtain ⟨zs, hD1, sm2, zl, zb⟩ := hP
    obtain ⟨hh, ww, rfl⟩ := two1 (zl.trans (len_map.trans ml0))
    obtain ⟨hh0, hh1⟩ := zb hh (by simp)
    obtain ⟨ww0, ww1⟩ := zb ww (by simp)
    have s2 := sm1.trans sm2
    have sz : SqL K H2 D1 [.int hh, .int ww] := SqL.of hD1
    obtain ⟨hN, rfl⟩ : ∃ n : Nat, hh = n := ⟨hh.toNat, by omega⟩
    obtain ⟨wN, rfl⟩ : ∃ n : Nat, ww = n := ⟨ww.toNat, by omega⟩
  
    refine ⟨_, rfl, _, _, _, _, rfl, rfl, sz, atI_nat (j := 1) rfl, _, rfl, fun w' ew => ?_⟩
    subst ew
    refine ⟨_, rfl, _, _, _, rfl, s2.seq hS, by decide, fun cell1 => ?_⟩
    refine ⟨_, _, _, rfl, by decide, by decide, by decide, by decide, fun p3 H3 ms3 sm3 np3 hp3 ml3 mb3 => ?_⟩
    obtain ⟨st, rfl⟩ := one1 ml3
    have s3 := s2.trans sm3
    refine ⟨_, _, _, _, rfl, rfl, SqL.of hp3, atI_nat (j := 0) rfl, _, rfl, fun st' est => ?_⟩
    subst est
    refine ⟨_, rfl, _, _, _, rfl, s3.seq hS, by decide, fun cell2 => ?_⟩
    refine ⟨_, _, _, rfl, by decide, by decide, by decide, by decide, fun p5 H5 ms5 sm5 np5 hp5 ml5 mb5 => ?_⟩
    obtain ⟨cp, rfl⟩ := one1 ml5
    have cpb := mb5 cp (by simp)
    have s5 := s3.trans sm5
    refine ⟨_, _, _, _, rfl, rfl, SqL.of hp5, atI_nat (j := 0) rfl, _, rfl, fun cp' ecp => ?_⟩
    subst ecp
    refine ⟨_, rfl, _, _, _, _, rfl, rfl, (sm3.trans sm5).seq sz, atI_nat (j := 0) rfl, ?_⟩
    refine ⟨_, rfl, by omega, by omega, fun DR nDR => lc_range (lo := 0) (n := (hN : Int).toNat) (fun i H' => ∃ (zs : List V) (ts : List (List (Int × Int))), H' DR = some (.lst zs) ∧ Same H5 H' ∧ MatD H5 H' zs ts ∧ ts.length = i ∧ (∀ t ∈ ts, t.length = wN ∧ ∀ x ∈ t, PrOk x) ∧ ∀ (j : Nat) (b : Addr), zs[j]? = some (V.ref b) → b ≠ DR)
      ⟨[], [], upd_same, sm_new nDR, .nil, rfl, fun t h => absurd h (by simp), fun j b h => by simp at h⟩ (fun i H' hi hP => ?_) (fun HR hP => ?_)⟩
    · obtain ⟨zs, ts, hD, sm, hv, hl2, okt, ne⟩ := hP
      refine ⟨rfl, yes_ok (iteK rfl ?_)⟩
      refine ⟨_, rfl, _, rfl, _, _, rfl, rfl, _, _, _, rfl, (s5.trans sm).seq hS, by omega, fun c => ?_⟩
      refine ⟨_, rfl, _, rfl, _, _, _, rfl, by omega, by omega, fun p H4 xs ps sm4 np4 hp4 f4 l4 o4 => ?_⟩
      have hD4 := sm4 _ _ hD
      have pD := (ne_of_none hD np4).symm
      refine ⟨zs, hD4, by rw [hv.m.len, hl2]; exact small1000 (by omega), zs ++ [.ref p], ts ++ [ps], upd_same, same_mut (sm.trans sm4) nDR, (hv.mono sm4).snoc ne hD4 pD (sm.free np4) (fun j b h => hv.m.ne np4 h) hp4 f4, by rw [List.length_append, hl2]; rfl, fun t ht => ?_, fun j b hj => ?_⟩
      · rcases List.mem_append.mp ht with c | c
        · exact okt t c
        · rw [List.mem_singleton.mp c]; exact ⟨by omega, o4⟩
      by_cases c : j < zs.length
      · rw [List.getElem?_append_left c] at hj
        exact ne j b hj
      · have jl := (List.getElem?_eq_some_iff.mp hj).1
        rw [List.length_append, List.length_singleton] at jl
        rw [List.getElem?_append_right (by omega), show j - zs.length = 0 by omega] at hj
        cases hj
        exact pD
    obtain ⟨xsR, tsR, hpR, smR, mdR, tlR, okR0, neR⟩ := hP
    have sR := s5.trans smR
    refine ⟨_, rfl, _, _, _, rfl, sR.seq hS, by decide, fun cellP => ?_⟩
    refine ⟨_, rfl, _, _, rfl, rfl, _, _, _, rfl, by omega, by omega, fun pP HP xsP psP smP npP hpP fP lP oP => ?_⟩
    refine ⟨_, rfl, _, rfl, _, rfl, _, rfl, DR, pP, xsR, xsP, tsR, psP, wN, cp', H5, (), (), (), rfl, smP _ _ hpR, mdR.mono smP, okR0, fun j c h => ⟨neR j c h, mdR.m.ne npP h⟩, nDR, smR.trans smP, ne_of_none hpR npP, hpP, fP, by omega, oP, by omega, by omega, by omega, by omega, fun H6 xsX tsX s6 hX mX okX tlX plan1 plan2 => ?_⟩
    have xlX := mX.len
    have wX : ∀ t ∈ tsX, t.length = wN ∧ ∀ (j : Nat) (x : Int × Int), t[j]? = some x → PrW 8 x ∧ WhB 144 (1296 * (if j = wN - 1 then 9 else 1)) x := fun t ht => by
      obtain ⟨a1, a2⟩ := okX t ht
      refine ⟨a1, fun j x hx => ?_⟩
      rcases a2 j x hx with o | ⟨e, u, v, ou, ov, rfl⟩
      · exact ⟨o.w.mono (by decide), whB_mono o.wh.twelve (by split <;> decide)⟩
      · rw [if_pos e]
        exact ⟨⟨ou.bits.mul ov.bits, Int.mul_ne_zero ou.w.p ov.w.p⟩, mul_wh ou ov⟩
    have wX8 : ∀ t ∈ tsX, ∀ x ∈ t, PrW 8 x := fun t ht x hx => by
      obtain ⟨j, hj⟩ := List.getElem?_of_mem hx
      exact ((wX t ht).2 j x hj).1
    refine ⟨_, rfl, DR, xsX, tsX, 8, rfl, SqL.of hX, mX, fun r hr => ⟨by have := (wX r hr).1; omega, wX8 r hr⟩, by omega, by decide, fun m0 G y0 smA npA hm0 n0 => ?_⟩
    have gR := smA _ _ hX
    have pR := mX.mono smA
    have F0 := n0.mat
    obtain ⟨R, mq, Rl, Rt⟩ := matQ_of F0
    have rowR : ∀ (i : Nat) (t r : List (Int × Int)), tsX[i]? = some t → R[i]? = some r → t.length = wN ∧ r.length = wN ∧ (∀ x ∈ t, x.2 ≠ 0) ∧ ∀ (j : Nat) (x q : Int × Int), t[j]? = some x → r[j]? = some q → Fq x.1 x.2 q.1 q.2 := fun i t r ht hr => by
      obtain ⟨b1, b2⟩ := Rt i t r ht hr
      have tm := List.mem_of_getElem? ht
      exact ⟨(wX t tm).1, by have := (wX t tm).1; omega, fun x hx => (wX8 t tm x hx).p, fun j x q hx hq => (b2 j x q hx hq).1⟩
    have wR : ∀ (i : Nat) (r : List (Int × Int)), R[i]? = some r → r.length = wN ∧ ∀ (j : Nat) (q : Int × Int), r[j]? = some q → 0 < q.2 ∧ WhB 144 (1296 * (if j = wN - 1 then 9 else 1)) q ∧ q.2 ∣ 144 ∧ q.1.natAbs < 2 ^ 200 := fun i r hr => by
      have il := (List.getElem?_eq_some_iff.mp hr).1
      have ht := List.getElem?_eq_getElem (show i < tsX.length by omega)
      obtain ⟨t1, t2, t3, t4⟩ := rowR i _ r ht hr
      obtain ⟨b1, b2⟩ := Rt i _ r ht hr
      refine ⟨t2, fun j q hj => ?_⟩
      have jl := (List.getElem?_eq_some_iff.mp hj).1
      have hx := List.getElem?_eq_getElem (show j < (tsX[i]'(by omega)).length by omega)
      obtain ⟨f, lw⟩ := b2 j _ q hx hj
      obtain ⟨w1, w2⟩ := ((wX _ (List.mem_of_getElem? ht)).2 j _ hx).2.fq f
      exact ⟨lw.pos, w1, w2, abs_mono lw.bn (by decide)⟩
    refine ⟨_, rfl, by decide, by decide, for_range (lo := 0) (n := 2) (fun i σ' H' => ∃ (z8 z9 z10 z11 z12 z13 : Option V), σ' = [some (.ref aS), some (.ref D1), some (.int (wN : Int)), some (.int st'), some (.int cp'), some (.ref DR), some (.ref pP), some (.ref m0), z8, z9, z10, z11, none, none] ∧ Same G H')
      ⟨_, _, _, _, none, none, rfl, fun _ _ h => h⟩ (fun i σ' G0 hi hI => ?_) (fun σ' G0 hI => ?_)⟩
    · obtain ⟨z8, z9, z10, z11, z12, z13, rfl, sI⟩ := hI
      refine ⟨_, rfl, _, rfl, m0, y0, R, wN, fun _ => 144, (), (), (), rfl, SqL.of (sI _ _ hm0), mq.mono sI, fun j r hr => ⟨(wR j r hr).1, fun q hq => ?_⟩, fun _ => (show (0 : Int) < 144 by decide), fun _ => (show (144 : Int).natAbs < 2 ^ 60 by decide), by omega, by omega, fun cs Ms sc => sys_ker (cp := wN - 1) sc (by omega) (by omega) fun j r hr => ⟨(wR j r hr).1, fun k q hq => ⟨((wR j r hr).2 k q hq).1, ((wR j r hr).2 k q hq).2.1⟩⟩, fun cs Ms q1 t1 ws ps z kk J1 sc sJ hq ht nt hv vq ok kW nz => ?_, fun cs Ms q1 t1 ws L J1 sc sJ hq ht nt iq Wle ind => ?_⟩
      · obtain ⟨k, hk⟩ := List.getElem?_of_mem hq
        exact ⟨((wR j r hr).2 k q hk).1, ((wR j r hr).2 k q hk).2.2⟩
      · have sIJ := sI.trans sJ
        have nt0 := sI.free nt
  
        refine ⟨_, rfl, _, _, _, _, true, rfl, .ty _, .base (.tup hq), kit_ty (by decide +kernel), _, rfl, iteN rfl ?_⟩
        refine ⟨_, rfl, _, _, rfl, .inr (SqT.of hq), rfl, _, rfl, iteEqN (fun ne => absurd rfl ne) (fun _ => ?_)⟩
        refine ⟨_, rfl, _, _, _, _, rfl, rfl, SqT.of hq, atI_nat (j := 1) rfl, _, _, _, _, true, rfl, .ty _, .base (.lst ht), kit_ty (by decide +kernel), _, rfl, iteN rfl ?_⟩
  
        refine ⟨fun σ' H' => ∃ (wsT : List V) (y10 y11 : Option V), σ' = [some (.ref aS), some (.ref D1), some (.int (wN : Int)), some (.int st'), some (.int cp'), some (.ref DR), some (.ref pP), some (.ref m0), some (.int (0 + (i : Int))), some (.ref q1), y10, y11, none, none] ∧ Same G H' ∧ G t1 = none ∧ H' q1 = some (.tup [.str "vector", .ref t1]) ∧ H' t1 = some (.lst wsT) ∧ wsT.length ≤ 100, ?_, ?_⟩
  
        · refine ⟨_, rfl, _, _, _, _, rfl, rfl, SqT.of hq, atI_nat (j := 0) rfl, rfl, _, rfl, iteK (by decide) ?_⟩
          have pl' := vq.len
          refine ⟨_, rfl, _, _, _, _, rfl, rfl, SqT.of hq, atI_nat (j := 1) rfl, _, rfl, t1, ws, ps, _, 441, (), rfl, ht, hv, by omega, by omega, fun p4 J2 us qs sm4 np4 hp4 hus ql4 qw qf => ?_⟩
          have sJ2 := sIJ.trans sm4
          refine ⟨_, rfl, rfl, _, rfl, iteN (by simp) ?_⟩
          refine ⟨_, rfl, _, rfl, p4, DR, us, xsX, qs, tsX, (), (), rfl, hp4, sJ2 _ _ gR, hus, pR.mono sJ2, qw, fun t ht => ⟨by have := (wX t ht).1; omega, fun x hx => (wX8 t ht x hx).mono (by decide)⟩, by omega, by omega, ?_, fun j t zz htj zp zr => ?_, fun J5 sm5 => ⟨_, rfl, iteN rfl ?_⟩⟩
          · obtain ⟨q0, v1, v2, v3⟩ := vq.at_ kk kW
            have hqk := List.getElem?_eq_getElem (show kk < qs.length by omega)
            have f := qf kk _ _ v1 hqk
            refine ⟨_, List.mem_of_getElem? hqk, fun z0 => nz ?_⟩
            have z1 := (f.zero_iff (by omega)).mp z0
            rw [z1, Int.zero_mul] at v3
            exact (Int.mul_eq_zero.mp v3.symm).resolve_right (by omega)
          · have jl := (List.getElem?_eq_some_iff.mp htj).1
            have hrj := List.getElem?_eq_getElem (show j < R.length by omega)
            obtain ⟨r1, r2, r3, r4⟩ := rowR j t _ htj hrj
            exact vec_law sc vq ok hrj r2 r1 r4 r3 ql4 (fun q hq => (qw q hq).p) qf zp zr
          · refine ⟨_, rfl, rfl, _, rfl, iteEq (fun z0 => absurd z0 (by omega)) (fun _ => ?_)⟩
            refine ⟨_, rfl, .inl ⟨_, rfl, _, _, rfl, rfl, (show (0 : Int) < 3 by decide), rfl, _, rfl, iteEq (fun z2 => ?_) (fun _ => ?_)⟩⟩
            · exact absurd (unit_law sc kW (by omega) rowR (plan2 z2 kk kW) ok) nz
            · have wl := hv.len
              exact ⟨ws, _, _, rfl, sJ2.trans sm5, nt0, (sm4.trans sm5) _ _ hq, (sm4.trans sm5) _ _ ht, by omega⟩
  
        rintro _ HT ⟨wsT, y10, y11, rfl, sT0, nt0, hqT, htT, wlT⟩
        refine ⟨_, rfl, _, _, _, _, rfl, rfl, SqT.of hqT, atI_nat (j := 1) rfl, .inl ⟨rfl, _, SqL.of htT⟩, _, _, 1, rfl, by decide, by decide, by decide, fun p6 dp6 J6 n6 d6 sm6 np6 hp6 f6 => ?_⟩
        have ht6 := sm6 _ _ htT
        refine ⟨_, _, _, rfl, rfl, ht6, small1000 (by omega), ?_⟩
        have sX := same_mut (o := .lst (wsT ++ [V.ref p6])) (sT0.trans sm6) nt0
        have hqX : (upd J6 t1 (.lst (wsT ++ [V.ref p6]))) q1 = some (.tup [.str "vector", .ref t1]) := by rw [upd_ne (fun z => by rw [z, htT] at hqT; cases hqT)]; exact sm6 _ _ hqT
        have htX : (upd J6 t1 (.lst (wsT ++ [V.ref p6]))) t1 = some (.lst (wsT ++ [V.ref p6])) := upd_same
        generalize upd J6 t1 (.lst (wsT ++ [V.ref p6])) = X at sX hqX htX ⊢
        refine ⟨_, _, 1, rfl, by decide, by decide, by decide, fun p7 dp7 J7 n7 d7 sm7 np7 hp7 f7 => ?_⟩
        refine ⟨_, rfl, _, _, _, _, rfl, rfl, SqT.of (sm7 _ _ hqX), atI_nat (j := 1) rfl, t1, _, _, 0, rfl, rfl, sm7 _ _ htX, ixN_at rfl (by rw [List.length_append]; exact Nat.succ_pos _), ?_⟩
        exact ⟨_, _, _, _, none, none, rfl, same_mut (sX.trans sm7) nt0⟩
  
      · have sIJ := sI.trans sJ
        have nt0 := sI.free nt
  
        refine ⟨_, rfl, _, _, _, _, true, rfl, .ty _, .base (.tup hq), kit_ty (by decide +kernel), _, rfl, iteN rfl ?_⟩
        refine ⟨_, rfl, _, _, rfl, .inr (SqT.of hq), rfl, _, rfl, iteEqN (fun ne => absurd rfl ne) (fun _ => ?_)⟩
        refine ⟨_, rfl, _, _, _, _, rfl, rfl, SqT.of hq, atI_nat (j := 1) rfl, _, _, _, _, true, rfl, .ty _, .base (.lst ht), kit_ty (by decide +kernel), _, rfl, iteN rfl ?_⟩
  
        refine ⟨fun σ' H' => ∃ (wsT : List V) (y10 y11 : Option V), σ' = [some (.ref aS), some (.ref D1), some (.int (wN : Int)), some (.int st'), some (.int cp'), some (.ref DR), some (.ref pP), some (.ref m0), some (.int (0 + (i : Int))), some (.ref q1), y10, y11, none, none] ∧ Same G H' ∧ G t1 = none ∧ H' q1 = some (.tup [.str "inverse", .ref t1]) ∧ H' t1 = some (.lst wsT) ∧ wsT.length ≤ 100, ?_, ?_⟩
  
        · have ml := sc.l2
          have wl := iq.len
          refine ⟨_, rfl, _, _, _, _, rfl, rfl, SqT.of hq, atI_nat (j := 0) rfl, rfl, _, rfl, iteN (by decide) ?_⟩
          refine ⟨_, rfl, _, _, _, _, rfl, rfl, SqT.of hq, atI_nat (j := 0) rfl, rfl, _, rfl, iteN (by decide) ?_⟩
          refine ⟨_, rfl, _, _, _, _, rfl, rfl, SqT.of hq, atI_nat (j := 1) rfl, _, rfl, _, rfl, t1, DR, ws, xsX, tsX, wN, (), (), (), rfl, ht, sIJ _ _ gR, pR.mono sIJ, fun t ht => ⟨(wX t ht).1, fun x hx => (wX8 t ht x hx).mono (by decide)⟩, by omega, by omega, wl, fun j hj => ?_, fun J5 sm5 => ⟨_, rfl, iteN rfl ?_⟩⟩
          · obtain ⟨b, ys, ps, z, k1, k2, k3, k4, k5, k6, k7⟩ := iq.at_ j hj
            refine ⟨b, ys, ps, k1, k4, k5, by have := k6.len; omega, fun k qs zz kW ql qp qf zp zr => ?_⟩
            refine inv_law (n := Ms.length) (J := k) (δ := if j = k then 1 else 0) sc (by omega) k6 ?_ (by unfold colD; rw [List.length_map]; omega) (fun x hx => ?_) (fun i' r x hr hx => ?_) ql qp qf zp zr
            · rw [k7 k kW]
              split
              · rw [Int.one_mul]
              · rw [Int.zero_mul]
            · obtain ⟨t, ht, rfl⟩ := List.mem_map.mp hx
              obtain ⟨a1, _⟩ := wX t ht
              rw [List.getD_eq_getElem?_getD, List.getElem?_eq_getElem (show k < t.length by omega)]
              exact (wX8 t ht _ (List.getElem_mem _)).p
            · have il := (List.getElem?_eq_some_iff.mp hr).1
              have ht := List.getElem?_eq_getElem (show i' < tsX.length by omega)
              unfold colD at hx
              rw [List.getElem?_map, ht] at hx
              obtain ⟨r1, r2, r3, r4⟩ := rowR i' _ r ht hr
              have hxJ := List.getElem?_eq_getElem (show k < (tsX[i']'(by omega)).length by omega)
              have hrJ := List.getElem?_eq_getElem (show k < r.length by omega)
              have eg : (tsX[i']'(by omega)).getD k (0, 1) = (tsX[i']'(by omega))[k]'(by omega) := by rw [List.getD_eq_getElem?_getD, hxJ]; rfl
              have ex : x = (tsX[i']'(by omega))[k]'(by omega) := by rw [← eg]; exact (Option.some.inj hx).symm
              rw [ex]
              exact ⟨_, hrJ, r4 k _ _ hxJ hrJ⟩
          have sJ5 := sIJ.trans sm5
          refine ⟨_, rfl, _, rfl, _, _, rfl, .inl (SqL.of (sJ5 _ _ gR)), _, _, rfl, rfl, _, rfl, iteD (fun c => absurd c (by omega)) (fun _ => ?_)⟩
          have hq5 := sm5 _ _ hq
          have ht5 := sm5 _ _ ht
          have rowsA : ∀ j, j < wN → ∃ (b : Addr) (ys : List V), ws[j]? = some (.ref b) ∧ b ≠ t1 ∧ G b = none ∧ J5 b = some (.lst ys) ∧ ys.length ≤ 24 + 0 := fun j hj => by
            obtain ⟨b, ys, ps, z, k1, k2, k3, k4, k5, k6, k7⟩ := iq.at_ j hj
            exact ⟨b, ys, k1, k2, sI.free k3, sm5 _ _ k4, by rw [k5.len, k6.len]; omega⟩
          obtain ⟨z10', ez10⟩ : ∃ z, z10 = z := ⟨_, rfl⟩
          refine ⟨_, rfl, .inl ⟨_, rfl, _, _, rfl, rfl, (show (0 : Int) < 3 by decide), rfl, _, rfl, iteEq (fun c1 => ?_) (fun _ => iteF ?_)⟩⟩
          · refine ⟨_, rfl, _, _, rfl, rfl, _, rfl, iteD (fun c2 => ?_) (fun c2 => ?_)⟩
            · obtain ⟨f, okf, pf⟩ := plan1 c1 (by omega)
              refine (dep_law (ts := tsX) sc (by omega) okf.w.p (by omega) (fun j t r htj hrj => ?_) ind).elim
              obtain ⟨r1, r2, r3, r4⟩ := rowR j t r htj hrj
              exact ⟨r1, r2, r3, r4, pf t (List.mem_of_getElem? htj)⟩
            · refine ⟨_, rfl, _, _, _, _, rfl, rfl, SqT.of hq5, atI_nat (j := 1) rfl, t1, rfl, ⟨_, SqL.of ht5⟩, for_list (K := K) (a := t1) (xs := ws) (fun i2 σ' H' => ∃ y11 : Option V, σ' = [some (.ref aS), some (.ref D1), some (.int (wN : Int)), some (.int st'), some (.int cp'), some (.ref DR), some (.ref pP), some (.ref m0), some (.int (0 + (i : Int))), some (.ref q1), z10, y11, none, none] ∧ Same G H' ∧ H' q1 = some (.tup [.str "inverse", .ref t1]) ∧ H' t1 = some (.lst ws) ∧ ∀ j, j < wN → ∃ (b : Addr) (ys : List V), ws[j]? = some (.ref b) ∧ b ≠ t1 ∧ G b = none ∧ H' b = some (.lst ys) ∧ ys.length ≤ 24 + i2) ⟨_, rfl, sJ5, hq5, ht5, rowsA⟩ (fun i2 σ' H' hi2 hI => ?_) (fun i2 x σ' H' hx hI => ?_) (fun σ' H' hI => ?_)⟩
              · obtain ⟨y11, rfl, sK, hqK, htK, _⟩ := hI
                exact SqL.of htK
              · obtain ⟨y11, rfl, sK, hqK, htK, rK⟩ := hI
                have xl2 := (List.getElem?_eq_some_iff.mp hx).1
                obtain ⟨b, ys, k1, k2, k3, k4, k5⟩ := rK i2 (by omega)
                rw [hx] at k1
                cases k1
                refine ⟨_, rfl, .inl ⟨rfl, _, SqL.of k4⟩, _, _, 1, rfl, by decide, by decide, by decide, fun p6 dp6 J6 n6 d6 sm6 np6 hp6 f6 => ?_⟩
                have k46 := sm6 _ _ k4
                refine ⟨_, _, _, rfl, rfl, k46, small1000 (by omega), ?_⟩
                have qb : q1 ≠ b := fun z => by rw [z, k4] at hqK; cases hqK
                refine ⟨_, rfl, same_mut (sK.trans sm6) k3, by rw [upd_ne qb]; exact sm6 _ _ hqK, by rw [upd_ne k2.symm]; exact sm6 _ _ htK, fun j hj => ?_⟩
                obtain ⟨b2, ys2, m1, m2, m3, m4, m5⟩ := rK j hj
                by_cases e : b2 = b
                · refine ⟨b2, ys ++ [.ref p6], m1, m2, m3, by rw [e]; exact upd_same, ?_⟩
                  rw [List.length_append, List.length_singleton]; omega
                · exact ⟨b2, ys2, m1, m2, m3, by rw [upd_ne e]; exact sm6 _ _ m4, by omega⟩
              · obtain ⟨y11, rfl, sK, hqK, htK, rK⟩ := hI
                exact ⟨ws, _, _, rfl, sK, nt0, hqK, htK, by omega⟩
          · refine ⟨_, rfl, _, _, _, _, rfl, rfl, SqT.of hq5, atI_nat (j := 1) rfl, t1, rfl, ⟨_, SqL.of ht5⟩, for_list (K := K) (a := t1) (xs := ws) (fun i2 σ' H' => ∃ y11 : Option V, σ' = [some (.ref aS), some (.ref D1), some (.int (wN : Int)), some (.int st'), some (.int cp'), some (.ref DR), some (.ref pP), some (.ref m0), some (.int (0 + (i : Int))), some (.ref q1), z10, y11, none, none] ∧ Same G H' ∧ H' q1 = some (.tup [.str "inverse", .ref t1]) ∧ H' t1 = some (.lst ws) ∧ ∀ j, j < wN → ∃ (b : Addr) (ys : List V), ws[j]? = some (.ref b) ∧ b ≠ t1 ∧ G b = none ∧ H' b = some (.lst ys) ∧ ys.length ≤ 24 + i2) ⟨_, rfl, sJ5, hq5, ht5, rowsA⟩ (fun i2 σ' H' hi2 hI => ?_) (fun i2 x σ' H' hx hI => ?_) (fun σ' H' hI => ?_)⟩
            · obtain ⟨y11, rfl, sK, hqK, htK, _⟩ := hI
              exact SqL.of htK
            · obtain ⟨y11, rfl, sK, hqK, htK, rK⟩ := hI
              have xl2 := (List.getElem?_eq_some_iff.mp hx).1
              obtain ⟨b, ys, k1, k2, k3, k4, k5⟩ := rK i2 (by omega)
              rw [hx] at k1
              cases k1
              refine ⟨_, rfl, .inl ⟨rfl, _, SqL.of k4⟩, _, _, 1, rfl, by decide, by decide, by decide, fun p6 dp6 J6 n6 d6 sm6 np6 hp6 f6 => ?_⟩
              have k46 := sm6 _ _ k4
              refine ⟨_, _, _, rfl, rfl, k46, small1000 (by omega), ?_⟩
              have qb : q1 ≠ b := fun z => by rw [z, k4] at hqK; cases hqK
              refine ⟨_, rfl, same_mut (sK.trans sm6) k3, by rw [upd_ne qb]; exact sm6 _ _ hqK, by rw [upd_ne k2.symm]; exact sm6 _ _ htK, fun j hj => ?_⟩
              obtain ⟨b2, ys2, m1, m2, m3, m4, m5⟩ := rK j hj
              by_cases e : b2 = b
              · refine ⟨b2, ys ++ [.ref p6], m1, m2, m3, by rw [e]; exact upd_same, ?_⟩
                rw [List.length_append, List.length_singleton]; omega
              · exact ⟨b2, ys2, m1, m2, m3, by rw [upd_ne e]; exact sm6 _ _ m4, by omega⟩
            · obtain ⟨y11, rfl, sK, hqK, htK, rK⟩ := hI
              exact ⟨ws, _, _, rfl, sK, nt0, hqK, htK, by omega⟩
  
        rintro _ HT ⟨wsT, y10, y11, rfl, sT0, nt0, hqT, htT, wlT⟩
        refine ⟨_, rfl, _, _, _, _, rfl, rfl, SqT.of hqT, atI_nat (j := 1) rfl, .inl ⟨rfl, _, SqL.of htT⟩, _, _, 1, rfl, by decide, by decide, by decide, fun p6 dp6 J6 n6 d6 sm6 np6 hp6 f6 => ?_⟩
        have ht6 := sm6 _ _ htT
        refine ⟨_, _, _, rfl, rfl, ht6, small1000 (by omega), ?_⟩
        have sX := same_mut (o := .lst (wsT ++ [V.ref p6])) (sT0.trans sm6) nt0
        have hqX : (upd J6 t1 (.lst (wsT ++ [V.ref p6]))) q1 = some (.tup [.str "inverse", .ref t1]) := by rw [upd_ne (fun z => by rw [z, htT] at hqT; cases hqT)]; exact sm6 _ _ hqT
        have htX : (upd J6 t1 (.lst (wsT ++ [V.ref p6]))) t1 = some (.lst (wsT ++ [V.ref p6])) := upd_same
        generalize upd J6 t1 (.lst (wsT ++ [V.ref p6])) = X at sX hqX htX ⊢
        refine ⟨_, _, 1, rfl, by decide, by decide, by decide, fun p7 dp7 J7 n7 d7 sm7 np7 hp7 f7 => ?_⟩
        refine ⟨_, rfl, _, _, _, _, rfl, rfl, SqT.of (sm7 _ _ hqX), atI_nat (j := 1) rfl, t1, _, _, 0, rfl, rfl, sm7 _ _ htX, ixN_at rfl (by rw [List.length_append]; exact Nat.succ_pos _), ?_⟩
        exact ⟨_, _, _, _, none, none, rfl, same_mut (sX.trans sm7) nt0⟩
  
    · obtain ⟨z8, z9, z10, z11, z12, z13, rfl, sI⟩ := hI
      exact ⟨_, rfl, _, rfl, m0, DR, y0, xsX, tsX, tsX, rfl, sI _ _ hm0, SqL.of (sI _ _ gR), (F0.mono sI).up (by decide), pR.mono sI, rfl, by omega, self_okW (k := 8) (fun r hr => ⟨by have := (wX r hr).1; omega, wX8 r hr⟩) (by decide), q _⟩
theorem whole (T : Tx K mg) : ∃ fd : FuncData, (∀ (s : Shared) (v : Value), BindsTo s fd ⟨[v], []⟩ [("script", v)]) ∧ ∀ base : Heap, FnOk P w K mg base CX0 9 (He.fAd K ("law", none)) fd ["script"] (spLaw K) := by
  have O__law_cell : ∀ base, OkF P w K mg base 1 (He.fAd K ("_law_cell", none)) ["script", "k"] (spCell K) := fun base => ok__law_cell T
  have O__law_digits : ∀ base, OkF P w K mg base 1 (He.fAd K ("_law_digits", none)) ["cell", "limit", "count"] (spDig K) := fun base => ok__law_digits T
  have O__law_size : ∀ base, OkF P w K mg base 1 (He.fAd K ("_law_size", none)) ["d"] (spSize K) := fun base => ok__law_size T
  have O__law_pair : ∀ base, OkF P w K mg base 1 (He.fAd K ("_law_pair", none)) ["d", "style"] (spPair K) := fun base => ok__law_pair T
  have O__law_pairs : ∀ base, OkF P w K mg base 2 (He.fAd K ("_law_pairs", none)) ["cell", "count", "style"] (spPairs K) := fun base => ok__law_pairs T (O__law_digits base) (O__law_pair base)
  have O__law_times : ∀ base, OkF P w K mg base 1 (He.fAd K ("_law_times", none)) ["a", "b"] (spLTi K) := fun base => ok__law_times T
  have O__law_planted : ∀ base, OkF P w K mg base 2 (He.fAd K ("_law_planted", none)) ["rows", "width", "plant", "pairs"] (spPlant K) := fun base => ok__law_planted T (O__law_times base)
  have O_Fraction___init__ : ∀ base, OkD P w K mg base 1 (He.fAd K ("Fraction", some "__init__")) ["self", "num", "den"] (He.Dv.v K (.int 1)) (spInit K) := fun base => ok_Fraction___init__ T
  have O__law_vector : ∀ base, OkF P w K mg base 3 (He.fAd K ("_law_vector", none)) ["pairs"] (spLVec K) := fun base => ok__law_vector T (O_Fraction___init__ base)
  have O__law_matrix : ∀ base, OkF P w K mg base 4 (He.fAd K ("_law_matrix", none)) ["rows"] (spLMat K) := fun base => ok__law_matrix T (O__law_vector base)
  have O_common_den : ∀ base, OkF P w K mg base 1 (He.fAd K ("common_den", none)) ["parts"] (spComDen K) := fun base => ok_common_den T
  have O__whole_rows : ∀ base, OkF P w K mg base 2 (He.fAd K ("_whole_rows", none)) ["rows"] (spWhR K) := fun base => ok__whole_rows T (O_common_den base)
  have O__first_unit : ∀ base, OkF P w K mg base 1 (He.fAd K ("_first_unit", none)) ["rows", "prime"] (spFiU K) := fun base => ok__first_unit T
  have O_inverse_modulo : ∀ base, OkF P w K mg base 1 (He.fAd K ("inverse_modulo", none)) ["number", "modulus"] (spInv K) := fun base => ok_inverse_modulo T
  have O_inverse_of_unit : ∀ base, OkF P w K mg base 2 (He.fAd K ("inverse_of_unit", none)) ["number", "prime", "modulus"] (spInvU K) := fun base => ok_inverse_of_unit T (O_inverse_modulo base)
  have O__divided : ∀ base, OkF P w K mg base 3 (He.fAd K ("_divided", none)) ["row", "prime", "modulus"] (spDivd K) := fun base => ok__divided T (O_inverse_of_unit base)
  have O__cleared : ∀ base, OkF P w K mg base 1 (He.fAd K ("_cleared", none)) ["row", "line", "modulus"] (spClrd K) := fun base => ok__cleared T
  have O_pivots_modulo : ∀ base, OkF P w K mg base 4 (He.fAd K ("pivots_modulo", none)) ["matrix", "width", "prime"] (spPiv K) := fun base => ok_pivots_modulo T (O__first_unit base) (O__divided base) (O__cleared base)
  have O_height : ∀ base, OkF P w K mg base 1 (He.fAd K ("height", none)) ["coefs"] (spHeiB K) := fun base => ok_height T
  have O_power_of : ∀ base, OkF P w K mg base 1 (He.fAd K ("power_of", none)) ["base", "exponent"] (spPowI K) := fun base => ok_power_of T
  have O_inverse_matrix : ∀ base, OkF P w K mg base 4 (He.fAd K ("inverse_matrix", none)) ["square", "prime", "modulus"] (spInvM K) := fun base => ok_inverse_matrix T (O__first_unit base) (O__divided base) (O__cleared base)
  have O_inner : ∀ base, OkF P w K mg base 1 (He.fAd K ("inner", none)) ["first", "second"] (spInn K) := fun base => ok_inner T
  have O__nearest_zero : ∀ base, OkF P w K mg base 1 (He.fAd K ("_nearest_zero", none)) ["number", "modulus"] (spNear K) := fun base => ok__nearest_zero T
  have O__first_steps : ∀ base, OkF P w K mg base 1 (He.fAd K ("_first_steps", none)) ["high", "low", "bound"] (spFst K) := fun base => ok__first_steps T
  have O__denominator : ∀ base, OkF P w K mg base 2 (He.fAd K ("_denominator", none)) ["residue", "modulus", "bound"] (spDeno K) := fun base => ok__denominator T (O__first_steps base)
  have O_common_fractions : ∀ base, OkF P w K mg base 3 (He.fAd K ("common_fractions", none)) ["residues", "modulus", "den"] (spComF K) := fun base => ok_common_fractions T (O__nearest_zero base) (O__denominator base)
  have O__solves : ∀ base, OkF P w K mg base 2 (He.fAd K ("_solves", none)) ["square", "right", "answer"] (spSols K) := fun base => ok__solves T (O_inner base)
  have O__lifted_solution : ∀ base, OkF P w K mg base 5 (He.fAd K ("_lifted_solution", none)) ["square", "right", "inverse", "modulus", "den"] (spLift K) := fun base => ok__lifted_solution T (O_inner base) (O_common_fractions base) (O__solves base)
  have O_solved : ∀ base, OkF P w K mg base 6 (He.fAd K ("solved", none)) ["square", "rights", "prime"] (spSlvd K) := fun base => ok_solved T (O_height base) (O_power_of base) (O_inverse_matrix base) (O__lifted_solution base)
  have O__spread : ∀ base, OkF P w K mg base 3 (He.fAd K ("_spread", none)) ["places", "entries", "length"] (spSpr K) := fun base => ok__spread T (O_Fraction___init__ base)
  have O__inverse : ∀ base, OkF P w K mg base 7 (He.fAd K ("_inverse", none)) ["matrix", "scales", "indexes", "prime"] (spInvK K) := fun base => ok__inverse T (O_solved base) (O_Fraction___init__ base) (O__spread base)
  have O_first_gap : ∀ base, OkF P w K mg base 1 (He.fAd K ("first_gap", none)) ["columns"] (spGap K) := fun base => ok_first_gap T
  have O__kernel_vector : ∀ base, OkF P w K mg base 7 (He.fAd K ("_kernel_vector", none)) ["matrix", "width", "indexes", "count", "prime"] (spKVec K) := fun base => ok__kernel_vector T (O_solved base) (O_inner base) (O_Fraction___init__ base) (O__spread base)
  have O__is_prime : ∀ base, OkF P w K mg base 1 (He.fAd K ("_is_prime", none)) ["number"] (spIsP K) := fun base => ok__is_prime T
  have O_next_prime : ∀ base, OkF P w K mg base 2 (He.fAd K ("next_prime", none)) ["number"] (spNxP K) := fun base => ok_next_prime T (O__is_prime base)
  have O_kernel : ∀ base, OkF P w K mg base 8 (He.fAd K ("kernel", none)) ["rows", "width"] (spKern K) := fun base => ok_kernel T (O__whole_rows base) (O_pivots_modulo base) (O__inverse base) (O_first_gap base) (O__kernel_vector base) (O_next_prime base)
  have O__law_is_whole : ∀ base, OkF P w K mg base 1 (He.fAd K ("_law_is_whole", none)) ["x"] (spIsWh K) := fun base => ok__law_is_whole T
  have O__law_is_number : ∀ base, OkF P w K mg base 2 (He.fAd K ("_law_is_number", none)) ["x"] (spIsNu K) := fun base => ok__law_is_number T (O__law_is_whole base)
  have O__law_read : ∀ base, OkF P w K mg base 3 (He.fAd K ("_law_read", none)) ["xs", "count"] (spRead K) := fun base => ok__law_read T (O__law_is_number base)
  have O__law_plus : ∀ base, OkF P w K mg base 1 (He.fAd K ("_law_plus", none)) ["a", "b"] (spLPl K) := fun base => ok__law_plus T
  have O__law_dot : ∀ base, OkF P w K mg base 2 (He.fAd K ("_law_dot", none)) ["xs", "ys"] (spLDot K) := fun base => ok__law_dot T (O__law_times base) (O__law_plus base)
  have O__law_is_vector_of : ∀ base, OkF P w K mg base 3 (He.fAd K ("_law_is_vector_of", none)) ["found", "rows"] (spVecOf K) := fun base => ok__law_is_vector_of T (O__law_dot base)
  have O__law_is_inverse : ∀ base, OkF P w K mg base 4 (He.fAd K ("_law_is_inverse", none)) ["inverse", "rows", "width"] (spIsInv K) := fun base => ok__law_is_inverse T (O__law_read base) (O__law_dot base)
  have O__law_is : ∀ base, OkF P w K mg base 3 (He.fAd K ("_law_is", none)) ["x", "pair"] (spIsPr K) := fun base => ok__law_is T (O__law_is_number base)
  have O__law_is_vector : ∀ base, OkF P w K mg base 4 (He.fAd K ("_law_is_vector", none)) ["xs", "pairs"] (spIsVec K) := fun base => ok__law_is_vector T (O__law_is base)
  have O__law_is_matrix : ∀ base, OkF P w K mg base 5 (He.fAd K ("_law_is_matrix", none)) ["xs", "rows"] (spIsMat K) := fun base => ok__law_is_matrix T (O__law_is_vector base)
  exact ok_law T O__law_cell O__law_digits O__law_size O__law_pairs O__law_planted O__law_matrix O_kernel O__law_read O__law_is_vector_of O__law_is_inverse O_Fraction___init__ O__law_is_matrix
end
theorem tx_of {K : PySem.W.Frag} {h : Heap} {mg : Str → Option Value} (X : K.In h) (G : h.Ns mainGlobals mg) (c : SaysG faL fnL exL K) : Tx K mg :=
  ⟨He.cls_ok (c.fact 0),
   c.dn DN_Fraction___init__,
   c.dn DN__cleared,
   c.dn DN__denominator,
   c.dn DN__divided,
   c.dn DN__first_steps,
   c.dn DN__first_unit,
   c.dn DN__inverse,
   c.dn DN__is_prime,
   c.dn DN__kernel_vector,
   c.dn DN__law_cell,
   c.dn DN__law_digits,
   c.dn DN__law_dot,
   c.dn DN__law_is,
   c.dn DN__law_is_inverse,
   c.dn DN__law_is_matrix,
   c.dn DN__law_is_number,
   c.dn DN__law_is_vector,
   c.dn DN__law_is_vector_of,
   c.dn DN__law_is_whole,
   c.dn DN__law_matrix,
   c.dn DN__law_pair,
   c.dn DN__law_pairs,
   c.dn DN__law_planted,
   c.dn DN__law_plus,
   c.dn DN__law_read,
   c.dn DN__law_size,
   c.dn DN__law_times,
   c.dn DN__law_vector,
   c.dn DN__lifted_solution,
   c.dn DN__nearest_zero,
   c.dn DN__solves,
   c.dn DN__spread,
   c.dn DN__whole_rows,
   c.dn DN_common_den,
   c.dn DN_common_fractions,
   c.dn DN_first_gap,
   c.dn DN_height,
   c.dn DN_inner,
   c.dn DN_inverse_matrix,
   c.dn DN_inverse_modulo,
   c.dn DN_inverse_of_unit,
   c.dn DN_kernel,
   c.dn DN_law,
   c.dn DN_next_prime,
   c.dn DN_pivots_modulo,
   c.dn DN_power_of,
   c.dn DN_solved,
   He.int_ok X G (c.fact 1),
   He.glo_ok X G (c.fact 2),
   He.glo_ok X G (c.fact 3),
   He.int_ok X G (c.fact 4),
   He.glo_ok X G (c.fact 5),
   He.glo_ok X G (c.fact 6),
   He.glo_ok X G (c.fact 7),
   He.glo_ok X G (c.fact 8),
   He.glo_ok X G (c.fact 9),
   He.glo_ok X G (c.fact 10),
   He.glo_ok X G (c.fact 11),
   He.glo_ok X G (c.fact 12),
   He.glo_ok X G (c.fact 13),
   He.glo_ok X G (c.fact 14),
   He.glo_ok X G (c.fact 15),
   He.glo_ok X G (c.fact 16),
   He.glo_ok X G (c.fact 17),
   He.glo_ok X G (c.fact 18),
   He.glo_ok X G (c.fact 19),
   He.glo_ok X G (c.fact 20),
   He.glo_ok X G (c.fact 21),
   He.glo_ok X G (c.fact 22),
   He.glo_ok X G (c.fact 23),
   He.glo_ok X G (c.fact 24),
   He.glo_ok X G (c.fact 25),
   He.glo_ok X G (c.fact 26),
   He.glo_ok X G (c.fact 27),
   He.glo_ok X G (c.fact 28),
   He.glo_ok X G (c.fact 29),
   He.glo_ok X G (c.fact 30),
   He.glo_ok X G (c.fact 31),
   He.glo_ok X G (c.fact 32),
   He.glo_ok X G (c.fact 33),
   He.glo_ok X G (c.fact 34),
   He.glo_ok X G (c.fact 35),
   He.glo_ok X G (c.fact 36),
   He.glo_ok X G (c.fact 37),
   He.glo_ok X G (c.fact 38),
   He.glo_ok X G (c.fact 39),
   PySem.W.mg_of X G (He.eqO_ok (c.more 0)),
   He.glo_ok X G (c.fact 40),
   He.glo_ok X G (c.fact 41),
   He.glo_ok X G (c.fact 42),
   He.glo_ok X G (c.fact 43),
   He.glo_ok X G (c.fact 44),
   PySem.W.mg_of X G (He.eqO_ok (c.more 1)),
   He.glo_ok X G (c.fact 45),
   He.glo_ok X G (c.fact 46),
   PySem.W.mg_of X G (He.eqO_ok (c.more 2)),
   He.glo_ok X G (c.fact 47),
   He.glo_ok X G (c.fact 48),
   He.glo_ok X G (c.fact 49),
   He.glo_ok X G (c.fact 50),
   (He.exc_ok (c.fact 51)).2.1,
   He.mkr_ok (c.fact 52),
   He.noat_ok (c.fact 53),
   He.noat_ok (c.fact 54),
   @fun X e => by subst e; exact raises_own (He.exc_ok (c.fact 51)).2.2.1 (He.exc_ok (c.fact 51)).2.2.2,
   @fun H a dx fs e => .base (.ins e (He.cls_ok (c.fact 0)) (He.eqO_ok (c.more 3)) (He.eqO_ok (c.more 4)) (of_decide_eq_true (c.more 5)) (of_decide_eq_true (c.more 6))),
   (He.exc_ok (c.fact 51)).1,
   He.free_ok X G (c.fact 55),
   He.free_ok X G (c.fact 56),
   He.free_ok X G (c.fact 57),
   He.free_ok X G (c.fact 58),
   He.free_ok X G (c.fact 59),
   He.free_ok X G (c.fact 60),
   He.free_ok X G (c.fact 61),
   He.free_ok X G (c.fact 62),
   He.free_ok X G (c.fact 63),
   He.free_ok X G (c.fact 64),
   He.free_ok X G (c.fact 65),
   He.free_ok X G (c.fact 66)⟩
end CB
open PySem PySem.W PyProof.Rows
set_option maxHeartbeats 0 in
theorem PySem.Challenge.cw_certsums_k25_kernel_holds : PySem.Challenge.rw_certsums_k25_kernel.Holds := by
  refine CB.head0 ?_
  refine L2.walk_ofE (l := PySem.Challenge.rw_certsums_k25_kernel) (n := 63) (k := 9) (x := "script") (CX := L2.CX0) rfl (by decide) (by kernel_rfl) ⟨rfl, by decide, by decide⟩ ?F (fun _ _ _ _ z => z)
  intro w mg fa h Y G hmg0
  obtain ⟨K, KX, c⟩ := Y
  have hmg : mg ("law" : PySem.Str) = some (.ref fa) := by
    have e : (HandSHeadRun.topDef CB.R.prog 58).name = ("law" : PySem.Str) := by kernel_rfl
    rw [← e]
    exact hmg0
  have T : CB.Tx K mg := CB.tx_of KX G c
  obtain ⟨fd, hb, hF⟩ := CB.whole (P := (PySem.Challenge.rw_certsums_k25_kernel).prog) (w := w) T
  cases (T.g_law.symm.trans hmg)
  exact ⟨K, fd, CB.spLaw K, KX, hb, fun H a ns hl _ hS => ⟨a, ns, rfl, hS, hl, fun _ => rfl⟩, fun base _ _ => hF base⟩
