import PyProof.Rows.All
import Wide.All
import OpenK.AllK
import Wide.FinOn
import HandS.ForMost
import HandS.IsInst
import HandS.More
import HandS.SetFor
import HandS.Evl
import HandS.Walk
import PyProof.Rows.CountFlat
import HandS.ForExc
import HandS.TryMany
import HandS.Small
import HandS.Style
import HandS.Lambda
import HandS.EndTab
import HandS.ExcIs
import KE.KNestM
import HandS.Zip
import HandS.TupAny
import HandS.Strs
import HandS.SortInts
import HandS.ExcInit
import HandS.ExcField
import KE.KExcIs
import KE.GoesMore
import PyProof.EnumMake
import PyProof.Draws
import PyProof.ReprRoads
import PyProof.CallFns
import PyProof.ReprLen
import PyProof.InstEq
import HandS.TupMul
import HandS.Flow
import HandS.Dict
import HandS.DictComp
import HandS.Deep
import HandS.TupSets
import HandS.Conv
import HandS.Rev
import KE.SortData
import HandS.TupLe
import PyProof.TupleOfSeq
import HandS.ExcValue
import PyProof.Transfer
import HandS.TupSets
import HandS.SortKw
import HandS.Comp
import HandS.Sort
import KE.DataMinMax
import KE.KDictList
import PyProof.P3In
import HandS.Zip0
import HandS.Zip
import PyProof.EnumIter
import PyProof.Rows.SumAny
import HandS.Walk
import PyProof.WalkInts
import PyProof.MinMaxWalk
import PySem.Challenge.RW_exactbeats_k58_whole_lines_let_in
set_option Elab.async false
set_option linter.all false
set_option maxRecDepth 100000
set_option maxHeartbeats 4000000
/-! Rules that the layer lacks: an own exception made without arguments; what a lambda's call may raise. -/
namespace GX
open PySem PySem.Spec PyProof.Rows L2
section
variable {X : Cx}
/-- X(): an own exception class without an __init__ of its own, no argument -/
theorem pmk_own0 {C : Addr} {bmB : List Value} {B newId initId : String} {x : Str} {p pos : Pos} (FB : ExcBaseFacts B newId initId bmB) (hx : PySem.W.excIn X.K C bmB newId = true) (hm : X.mg x = some (.ref C)) (hk : PySem.W.keepIn X.K (.ref C) = true)
    (hR : Raises X (.ref C)) (hg : Gl X x) (hdb : (x == ("__debug__" : Str)) = false := by decide) : PMk X (.Call (.Name x p) [] [] pos) (fun _ H Q => Q (.ref C) none H) := by
  intro pins s σ H Q I h
  refine wpAny_Call_Name_kw (ld_glob I hg hm (PySem.W.callWith_K0 I.kIn hk ?_) hdb)
  obtain ⟨bm, N, nm, qn, bs, hdct, sn, sub, ab, col, dd, k0, k1, k2, k3, k5, mN, e1, e2, e3, tail⟩ := exc_obj I.kIn hx
  refine wpAny_call_exc_subT (rest := [] ++ []) FB tail e1 e2 e3 (fun h' e made => ?_)
  refine mk_of I made hR h ?_
  -- the new address is tracked by nothing
  cases q : H e with
  | none => rfl
  | some o =>
    have z := made.new
    obtain ⟨b, hb⟩ := objOk_get (I.hok e o q)
    rw [hb] at z
    cases z
/-- raising calls within a def's own body (or a lambda's) -/
theorem passX {E : XK} (h1 : X.stack = X.env :: X.outer) (h2 : X.env.frame = some X.env.locals) (h3 : X.ex = []) {E₁ : Value → Shared → Prop}
    (h4 : X.xe = fun e s' => wpAny (model X.prog X.w) X.A (leaving X.env e) (fun _ s'' => L2.CX X.prog X.w X.outer X.H_0 X.s_0 E e s'') E₁ s') : Passes (L2.CX X.prog X.w) X E :=
  passes_call (takes_of h1 h2 h3 h4) fun _ _ _ _ h => h
theorem takes_len {W : WX} (h : Takes X W) : Takes X (fun cls d σ H => σ.length = X.N.length → W cls d σ H) := fun u s' z => by
  obtain ⟨a, B, sI, pins, σ, H, cls, d, e1, I, r1, r2, r3, r4, r5, r6, r7⟩ := z
  exact h u s' ⟨a, B, sI, pins, σ, H, cls, d, e1, I, r1, r2, r3, r4, r5, r6, r7 I.len⟩
theorem call_isEg {a : Addr} {cls : Value} {d : Option Addr} {oe : Obj} {pn : List (Addr × Obj)} (hz : Zc cls d oe) (hf : ∃ vs, oe.data = Data.fields vs) :
    CallR (X.suite a ((a, oe) :: pn)) (.builtin "isinstance") (fun xs H Q => ∃ D, cls = .ref D ∧ d = none ∧ ExcC X.K D ∧ rIsE X.K D a xs H Q) := by
  intro pins s σ H xs us Q I r h
  obtain ⟨D, rfl, rfl, hE, h⟩ := h
  exact call_isE hE hz hf pins s σ H xs us Q I r h
/-- isinstance(e, c), e the error that the suite holds, with fields or without -/
theorem call_isEa {a : Addr} {cls : Value} {d : Option Addr} {oe : Obj} {pn : List (Addr × Obj)} (hz : Zc cls d oe) (hf : ∃ vs, oe.data = Data.fields vs) :
    CallR (X.suite a ((a, oe) :: pn)) (.builtin "isinstance") (fun xs H Q => ∃ D, cls = .ref D ∧ ExcC X.K D ∧ (d = none ∨ ∃ dd fs, d = some dd ∧ H dd = some (.xd fs)) ∧ rIsE X.K D a xs H Q) := by
  intro pins s σ H xs us Q I r h
  obtain ⟨D, rfl, C, hd, c, cv, b, rfl, hcv, e, q⟩ := h
  obtain ⟨u, u2, rfl, ru, ru2⟩ := r.two
  cases (show u = Value.ref a from ru)
  cases hcv _ ru2
  obtain ⟨there, _⟩ := I.pin (a, oe) (List.mem_append.mpr (.inl List.mem_cons_self))
  obtain ⟨vs, hv⟩ := hf
  have nc : PySem.W.notCls oe = true := by
    unfold PySem.W.notCls
    rw [hv]
  have od : ∃ od, PySem.W.InstAt s.heap a oe D od := by
    rcases hd with e1 | ⟨dd, fs, e1, e2⟩
    · subst e1
      exact ⟨none, there, hz.1, nc, by rw [hz.2]; trivial⟩
    · subst e1
      obtain ⟨mA, hns, _⟩ : ObjOk X.prog X.w H s.heap dd (.xd fs) := I.hok dd _ e2
      obtain ⟨od, ho, _⟩ := lookIn_ns hns
      exact ⟨some od, there, hz.1, nc, by rw [hz.2]; exact ho⟩
  obtain ⟨od, J⟩ := od
  have isC : (PySem.W.clsIn X.K D).isSome = true := by
    obtain ⟨cd, hc, _⟩ := PySem.W.any_some C.hd
    rw [hc] <;> rfl
  exact PySem.W.kia_one (PySem.W.kitx_exc isC C.hg C.hk C.hs C.ha C.hn C.ht C.hm) I.kIn J e (fun z => nomatch z) fun tk => ⟨.bl b, H, I.kept (t' := tk) fun _ _ z => z, rfl, q⟩
theorem exm_kit {K : PySem.W.Frag} {t c : Value} {b : Bool} (h : PySem.W.exmOne K t c = some b) : PySem.W.kitCls K t c = some b := by
  unfold PySem.W.exmOne at h
  split at h
  · exact h
  · cases h
theorem kit_yes {K : PySem.W.Frag} {t c : Value} (h : PySem.W.exmOne K t c = some true) : PySem.W.kitOne K t c = some true := by
  unfold PySem.W.kitOne
  split
  · rfl
  · exact exm_kit h
theorem kit_no {K : PySem.W.Frag} {D C : Addr} (h : PySem.W.exmOne K (.ref D) (.ref C) = some false) (self : PySem.W.subIn K (.ref C) (.ref C) = some true) (no : PySem.W.subIn K (.ref D) (.ref C) = some false) : PySem.W.kitOne K (.ref D) (.ref C) = some false := by
  unfold PySem.W.kitOne
  split
  · rename_i e
    have e2 : (Value.ref D) = .ref C := eq_of_beq e
    rw [e2, self] at no
    cases no
  · exact exm_kit h
theorem kit_bi {K : PySem.W.Frag} {D : Addr} {T : String} {b : Bool} (m : PySem.W.kitMeta T = true) (h : PySem.W.subIn K (.ref D) (.type T) = some b) : PySem.W.kitOne K (.ref D) (.type T) = some b := by
  unfold PySem.W.kitOne
  split
  · rename_i e
    have e2 : (Value.ref D) = .type T := eq_of_beq e
    cases e2
  · show (if PySem.W.kitMeta T = true then PySem.W.subIn K (.ref D) (.type T) else none) = some b
    rw [if_pos m]
    exact h
/-- a def of the text whose code is known -/
structure FunC (K : PySem.W.Frag) (x qual : Str) (st : Stmt) (f : Addr) (fd : FuncData) (c : Addr) : Prop where
  ex : ∃ oc od kV doc pm an ct osl, fd = PySem.W.fnOf x qual (defArgs st) (defBody st) (defScope st) .none kV doc pm an (.ref c) ct ∧ K.lookup f = some ⟨oc, od, .func fd, osl⟩ ∧ PySem.W.codeIn K (.ref c) qual = true
theorem FunC.ok {P : Program} {w : World} {K : PySem.W.Frag} {mg : Str → Option Value} {base : Heap} {x qual : Str} {st : Stmt} {f c : Addr} {fd : FuncData} {N ps : List Str} {k : Nat} {sp : Sp} (F : FunC K x qual st f fd c) (S : FnScope N ps (defScope st))
    (len : ∀ vs H Q E, sp vs H Q E → vs.length = ps.length)
    (hb : ∀ (A : Around) (outer : List Env) (s : Shared) (H : Hp) (vs : List V) (Q : VK) (E : XK), Room k (A.deeper (envOfC qual (defScope st) s.heap.objs.size f (.ref c))) → sp vs H Q E →
      ∃ t, PSs (cxOf L2.CX0 P w K mg base N qual (defScope st) f (.ref c) A outer s H E).nox (defBody st) t ∧ t { nx := fun _ H' => Q .non H', rt := Q } (L2.start N vs) H) : FnOk P w K mg base L2.CX0 (k + 1) f fd ps sp := by
  obtain ⟨oc, od, kV, doc, pm, an, ct, osl, rfl, lk, hcd⟩ := F.ex
  refine fn_of lk hcd S len fun A outer s H vs Q E hr h => ?_
  obtain ⟨t, h1, h2⟩ := hb A outer s H vs Q E hr h
  exact ⟨t, h1.nox, h2⟩
def tTru (K : PySem.W.Frag) (ta : TE) : L2.St → Hp → (Bool → Hp → Prop) → Prop := fun σ H Q => ta σ H fun x H' => ∃ k, TruV K x H' k ∧ Q k H'
def WL (n : Nat) (W : WX) : WX := fun cls d σ H => σ.length = n → W cls d σ H
def EE (n : Nat) (W : WX) : XK := fun cls d H => ∀ σ : L2.St, σ.length = n → W cls d σ H
/-- raising calls within a try's body -/
theorem passT (n : Nat) {W : WX} (tk : Takes X W) (hn : X.N.length = n := by rfl) : Passes (L2.CX X.prog X.w) X (EE n W) := passes_call (takes_len tk) fun cls d σ H h hl => h σ (hl.trans hn)
/-- f(lambda: e) -/
theorem pe_lam {T : List (Addr × Str)} {TT : (XK → Hp → VK → Prop) → Hp → VK → Prop} {x a : Str} {g c P : Addr} {fd : FuncData} {k : Nat} {st : Stmt} {Ng : List Str} {params : Arguments} {body : Expr} {scope : Scope} {t : XK → TE} {p lpos pos : Pos}
    (F : Fun X.K x x st g fd) (Sg : FnScope Ng [a] (defScope st)) (hg : Gl X x) (hm : X.mg x = some (.ref g)) (hb : Binds X.K fd [a] []) (hNg : Ng[0]? = some a) (hva : Vis (defScope st) a)
    (hG : ∀ cdv, LamX.GivesTo X Ng x (defScope st) g cdv (defBody st) a (X.env.qual ++ "<lambda>") TT) (TB : LamX.TabB X.base X.mg c P) (hcode : X.env.code = .ref c) (hmT : (P, X.env.qual ++ "<lambda>") ∈ T)
    (hu : ∀ p ∈ T, p.1 = P → p.2 = X.env.qual ++ "<lambda>") (hr : Room (k + 2) X.A) (L : LamX.LamS X.env.scope scope) (hdef : defaultsOf params X.env = ([], []))
    (hbind : ∀ (q : Str) (cl : List (Str × Addr)) (pm cv ctv : Value), bindArgs (PySem.W.kla_fn "<lambda>" q params body scope cl pm cv ctv) ⟨[], []⟩ = pure [])
    (hbody : ∀ (A : Around) (outer : List Env) (s : Shared) (H : Hp) (E : XK) (f c' : Addr), Room k (A.deeper (LamX.lamEnv X scope s.heap.objs.size f c')) → PE (LamX.lamCx X A outer s H E scope f c') body (t E))
    (h1 : (x == ("__debug__" : Str)) = false := by decide) (h2 : (a == ("__debug__" : Str)) = false := by decide) (h3 : (a == ("__classdict__" : Str)) = false := by decide) :
    PE X (.Call (.Name x p) [.Lambda params body scope lpos] [] pos) (LamX.tLam T TT t) := by
  obtain ⟨oc, od, kV, doc, pm, an, cdv, ct, osl, rfl, lk, hcd⟩ := F.ex
  exact LamX.pe_lamcall hg hm F.kp lk hcd hb Sg hNg hva (hG cdv) TB hcode hmT hu hr L hdef hbind hbody h1 h2 h3
end
end GX
namespace KX
open PySem PySem.Spec PyProof.Rows L2
section
variable {X : Cx}
/-- xs.count(True), xs a list of bools -/
def rCntB (K : PySem.W.Frag) : V → List V → Hp → VK → Prop := fun x xs H Q => ∃ (p : Addr) (bs : List Bool) (k : Bool), x = .ref p ∧ xs = [.bl k] ∧ SqL K H p (bs.map V.bl) ∧ Q (.int (bs.countP (fun b => b == k) : Nat)) H
theorem bools_of : ∀ {bs : List Bool} {its : List Value}, Vals (bs.map V.bl) its → its = bs.map Value.bool
  | [], _, .nil => rfl
  | b :: bs, _, .cons r t => by
    cases (show _ = Value.bool b from r)
    rw [bools_of t]
    rfl
theorem mt_count_bl : MtR X "list.count" (rCntB X.K) := by
  intro pins s σ H x xs v us Q I rx rxs h
  obtain ⟨p, bs, k, rfl, rfl, hs, q⟩ := h
  cases rx
  obtain ⟨u, rfl, ru⟩ := rxs.one
  cases (show u = Value.bool k from ru)
  obtain ⟨its, rv, ⟨⟨cls, dd, data, sl⟩, n, ho, hc, hdn, hd⟩, hlen⟩ := I.list hs
  simp only at hc hd
  subst hc hd
  have hi := bools_of rv
  refine call_meets PySem.F.slot_list_count ⟨_, ho, rfl⟩ PySem.F.entry_list_count (PySem.F.args_list_count_2 _ _)
    (SeqAt.list_countAt p its.toArray n dd sl (.bool k) (isBoolOf k)) ⟨ho, fun y hy => ?_, ?_⟩
  · have hy' : y ∈ its := by simpa using hy
    rw [hi] at hy'
    obtain ⟨b, _, rfl⟩ := List.mem_map.mp hy'
    exact PySem.SeqAt.EqAt.bool_bool b k
  · have ec : its.toArray.toList.countP (isBoolOf k) = bs.countP (fun b => b == k) := by
      show its.countP (isBoolOf k) = _
      rw [hi, List.countP_map]
      rfl
    refine ⟨.int (bs.countP (fun b => b == k) : Nat), H, I.tok _, ⟨s.toks, ?_⟩, q⟩
    show Value.int ((its.toArray.toList.countP (isBoolOf k) : Nat) : Int) s.toks = _
    rw [ec]
end
end KX

/-! enumerate(t), t a tuple. -/
namespace GE
open PySem PySem.Spec PyProof.Rows L2 Builtin
/-- a tuple's items with their places, a new pair at each turn -/
def Etp (K : PySem.W.Frag) (t : Addr) : It where
  go i H := ∃ xs x, SqT K H t xs ∧ xs[i]? = some x
  yld i H v H' := ∃ (p : Addr) (x : V), v = .ref p ∧ H p = none ∧ H' = upd H p (.tup [.int ((i : Nat) : Int), x]) ∧ ∀ xs, SqT K H t xs → xs[i]? = some x
  stop i H := ∃ xs, SqT K H t xs ∧ xs.length ≤ i
abbrev tIt (t : Addr) : Obj := { cls := .type "tuple_iterator", data := .fields #[.ref t, .int 0 0] }
abbrev eOb (i : Addr) : Obj := { cls := .type "enumerate", data := .fields #[.none, .bool false, .ref i, rawInt 0, .none, .none] }
set_option maxHeartbeats 8000000 in
theorem made (t : Addr) (vs : Array Value) : Meets (Builtin.«enumerate.__new__» ⟨[.type "enumerate", .ref t], []⟩)
    (fun _ R s => s.heap.IsTuple t vs ∧ R (.ok (.ret (.ref (s.heap.push (tIt t)).objs.size))) { s with heap := (s.heap.push (tIt t)).push (eOb s.heap.objs.size) }) := by
  refine Meets.of_wp fun prog w A R s both => ?_
  obtain ⟨h0, gs, dr, tk, os⟩ := s
  obtain ⟨isT, back⟩ := both
  have z1 := PySem.sub_enumerate
  have z2 : ∀ {B : Around} {F : Value → Shared → Prop} {G : Value → Shared → Prop}, G (.ref h0.objs.size) ⟨h0.push (tIt t), gs, dr, tk, os⟩ → wpAny (model prog w) B (pyIter (.ref t)) G F ⟨h0, gs, dr, tk, os⟩ := fun g => wpAny_pyIter_tuple isT g
  wp_walk using z2
  refine wpAny_stack_any fun st => ?_
  refine wpAny_pure ?_
  split
  · rename_i c _ _ _ _ _
    cases (c == Value.type "enumerate") <;> (wp_walk using z2; exact ⟨_, rfl, back⟩)
  · wp_walk using z2
    exact ⟨_, rfl, back⟩
section
variable {P : Program} {w : World} {A : Around} {E : Value → Shared → Prop} {s : Shared}
theorem begins {t : Addr} {vs : Array Value} {Q : Value → Shared → Prop} (isT : s.heap.IsTuple t vs)
    (k : ∀ h1, IsEnum h1 (s.heap.objs.size + 1) s.heap.objs.size 0 .none → h1.IsTupleIter s.heap.objs.size t 0 → h1.objs.size = s.heap.objs.size + 2 → (∀ b o, s.heap.get? b = some o → h1.get? b = some o) → Q (.ref (s.heap.objs.size + 1)) { s with heap := h1 }) :
    wpAny (model P w) A (call (.type "enumerate") [.ref t]) Q E s := by
  refine callType_new F.called_enumerate (by decide) (F.typeCall_enumerate_1 _) (F.newCall_enumerate_1 _) (fun y => F.args_object_init_2 y _) F.entry_enumerate_new (made t vs) ⟨isT, ?_⟩
  have sz : (s.heap.push (tIt t)).objs.size = s.heap.objs.size + 1 := Heap.size_push ..
  have at_ : IsEnum ((s.heap.push (tIt t)).push (eOb s.heap.objs.size)) (s.heap.objs.size + 1) s.heap.objs.size 0 .none := by
    have z := Heap.get?_push_size (s.heap.push (tIt t)) (o := eOb s.heap.objs.size) rfl
    rw [sz] at z
    exact z
  show _ ∧ _
  rw [sz]
  exact ⟨⟨_, at_, rfl⟩, k _ at_ ⟨_, Heap.get?_push_of_some _ (Heap.get?_push_size _ rfl), rfl, rfl⟩ (by rw [Heap.size_push, sz]) fun b o x => Heap.get?_push_of_some _ (Heap.get?_push_of_some _ x)⟩
end
theorem turn {P : Program} {w : World} {K : PySem.W.Frag} {elts : List Expr} {kk : Nat} {tpos : Pos} (t e i : Addr) :
    Turn P w K (.Tuple elts kk tpos) (Etp K t) [e, i] e (fun n h => (∃ old, IsEnum h e i ((n : Nat) : Int) old) ∧ h.IsTupleIter i t n ∧ e ≠ i) := by
  have two : ∀ {b : Addr}, b ∈ [e, i] → b = e ∨ b = i := fun hb => by simpa using hb
  constructor
  case mem => simp
  case obj =>
    rintro n h ⟨⟨old, h1⟩, ⟨o, h2, h3, h4⟩, _⟩ b hb
    rcases two hb with q | q <;> subst q
    · exact ⟨_, h1, fun v z => nomatch z⟩
    · exact ⟨o, h2, fun v z => by rw [h4] at z; cases z⟩
  case keep =>
    rintro n h h' ⟨⟨old, h1⟩, h2, h3⟩ k
    exact ⟨⟨old, k e (by simp) _ h1⟩, h2.at fun o q => k i (by simp) o q, h3⟩
  case item =>
    intro X eP ew eK calm n pins s σ H Er I free st go
    subst eP ew eK
    obtain ⟨⟨old, h1⟩, h2, apart⟩ := st
    obtain ⟨xs, x, hq, hx⟩ := go
    obtain ⟨vs, rv, isT, _⟩ := I.tuple hq
    obtain ⟨u, hu, ru⟩ := rv.get hx
    have le : e < s.heap.objs.size := Heap.lt_size h1
    have li : i < s.heap.objs.size := by
      obtain ⟨_, q, _⟩ := h2
      exact Heap.lt_size q
    have ti : t ≠ i := fun z => by
      subst z
      obtain ⟨o1, q1, c1, _⟩ := h2
      obtain ⟨o2, q2, c2, _⟩ := isT
      rw [q1] at q2
      cases q2
      rw [c1] at c2
      exact absurd (Value.type.inj c2) (by decide)
    have te : t ≠ e := fun z => by
      subst z
      obtain ⟨o2, q2, c2, _⟩ := isT
      rw [h1] at q2
      cases q2
      exact absurd (Value.type.inj c2) (by decide)
    have quiet : X.A.in1.handled = none := by
      have z := I.ok.hd calm
      simp [z]
    have lt : n < vs.toArray.size := by
      have z := (List.getElem?_eq_some_iff.mp hu).1
      simpa using z
    refine wpAny_pyNext_enum_itemD (Draws.tuple quiet i t ti vs.toArray) h1 ⟨h2, isT⟩ lt apart (by simp [apart, te.symm]) fun y h' tk py out st' tup size keep => ?_
    have ey : y = u := by
      have z : vs.toArray[n]? = some y := py
      rw [List.getElem?_toArray, hu] at z
      exact (Option.some.inj z).symm
    subst ey
    refine ⟨_, rfl, wpAny_letOwnedTupleGo_enum (s := { s with heap := h', toks := tk + 1 }) out fun h'' again sb => ?_⟩
    have tup2 : h''.get? s.heap.objs.size = some { cls := .type "tuple", data := .seq #[.int n tk, y] } := (sb.2 _ (Nat.ne_of_gt le)).trans tup
    have fresh : ObjOk X.prog X.w (upd H s.heap.objs.size (.tup [.int ((n : Nat) : Int), x])) h'' s.heap.objs.size (.tup [.int ((n : Nat) : Int), x]) :=
      ⟨by show 2 ≤ sizeLine; decide, [.int n tk, y], .cons ⟨_, rfl⟩ (.cons ru .nil), ⟨_, tup2, rfl, _, rfl⟩⟩
    have J : Inv X pins σ (upd H s.heap.objs.size (.tup [.int ((n : Nat) : Int), x])) { s with heap := h'', toks := tk + 1 } :=
      I.turnedNew (t' := tk + 1) (ch := [e, i]) (fun b ob hb q => (sb.2 b (fun z => hb (by simp [z]))).trans (keep b ob (fun z => hb (by simp [z])) (fun z => hb (by simp [z])) q)) free (Nat.le_refl _) fresh
    refine ⟨.ref s.heap.objs.size, _, J, rfl, ⟨_, x, rfl, I.hok.fresh (Nat.le_refl _), rfl, fun ys hy => by rw [I.tuple_inj hy hq]; exact hx⟩, ⟨⟨y, ?_⟩, st'.1.at fun o q => (sb.2 i (Ne.symm apart)).trans q, apart⟩, fun b hb => ?_⟩
    · rw [show ((n + 1 : Nat) : Int) = (n : Int) + 1 by omega]
      exact again
    · have lb : b < s.heap.objs.size := by
        rcases two hb with z | z <;> subst z
        · exact le
        · exact li
      rw [upd_ne (Nat.ne_of_lt lb)]
      exact (free b hb).1
  case done =>
    intro X eP ew eK calm n pins s σ H Er I free st stop
    subst eP ew eK
    obtain ⟨⟨old, h1⟩, h2, apart⟩ := st
    obtain ⟨xs, hq, hl⟩ := stop
    obtain ⟨vs, rv, isT, _⟩ := I.tuple hq
    have long := rv.length
    have quiet : X.A.in1.handled = none := by
      have z := I.ok.hd calm
      simp [z]
    have hT : s.TypeIs (.ref e) "enumerate" := ⟨_, h1, rfl⟩
    obtain ⟨f0, f1, f2, f3, f4, f5⟩ := free i (by simp)
    unfold pyNext
    refine wpAny_bind (wpAny_attempt (wpAny_callSpecial?_slot (name := Str.ofString "__next__") hT F.slot_enumerate_next (wpAny_call_entry F.slot_enumerate_next hT F.entry_enumerate_next ?_ (F.args_enumerate_next_1 _))))
    show wpAny _ _ (field (.ref e) 2 >>= _) _ _ _
    refine wpAny_bind (wpAny_field h1 rfl (x := .ref i) rfl (wpAny_bind ?_))
    refine wpAny_nextOf_tuple_end quiet h2 isT (by simp; omega) fun h' ex eb isx => ?_
    obtain ⟨o, ho, hc⟩ := isx
    refine wpAny_bind (wpAny_isInstance (T := "StopIteration") (b := true) ⟨o, ho, hc⟩ isSubtype_stop (wpAny_pure ?_))
    exact ⟨rfl, I.turned (t' := s.toks) (fun b o hb q => eb b o hb q) f0 f1 f3 f4 f5⟩
  case self =>
    rintro A n s Q Er ⟨⟨_, h1⟩, _⟩ q
    exact wpAny_pyIter_enum h1 q
/-- enumerate of a list or a tuple -/
def iEnA (K : PySem.W.Frag) (ta : TA) : TI := fun σ H R => ta σ H fun vs H1 => ∃ a xs, vs = [.ref a] ∧ ((SqL K H1 a xs ∧ R (Ite K a) H1) ∨ (SqT K H1 a xs ∧ R (Etp K a) H1))
theorem pi_enumA {X : Cx} {e : Expr} {ta : TA} {p pos tpos : Pos} {elts : List Expr} {kk : Nat} (hg : Gl X "enumerate") (hm : X.mg "enumerate" = none) (ha : PA X [e] ta) (hs : starEach [e] X.env = [(false, eval e X.env)] := by rfl) :
    PI X (.Tuple elts kk tpos) (.Call (.Name "enumerate" p) [e] [] pos) (iEnA X.K ta) := by
  constructor
  intro pins s σ H R I h
  refine Call_ (ld_blt I hg hm boot_enumerate (PyProof.Rows.callWith_type1 (thn (ha.run pos pins s σ H _ I h) fun us s1 got => ?_) hs rfl))
  obtain ⟨_, H1, I1, r1, a, xs, rfl, q⟩ := got
  have fp : ∀ b ∈ [s1.heap.objs.size + 1, s1.heap.objs.size], FpOk X pins H1 b := fun b hb => by
    have le : s1.heap.objs.size ≤ b := by
      rcases (show b = s1.heap.objs.size + 1 ∨ b = s1.heap.objs.size by simpa using hb) with z | z <;> omega
    exact I1.fpOk le (I1.hok.fresh le)
  cases r1 with
  | cons r rr =>
    cases rr
    cases r
    rcases q with ⟨hq, q⟩ | ⟨hq, q⟩
    · obtain ⟨vs, rv, isL, _⟩ := I1.list hq
      refine call_enumerate_list isL.isList fun h' at_ it size keep => wpAny_pyIter_enum at_ ?_
      exact ⟨_, _, _, _, H1, rfl, I1.kept (t' := s1.toks) keep, turn_enum a (s1.heap.objs.size + 1) s1.heap.objs.size, ⟨⟨.none, at_⟩, it, Nat.succ_ne_self _⟩, fp, q⟩
    · obtain ⟨vs, rv, isT, _⟩ := I1.tuple hq
      refine begins isT fun h' at_ it size keep => wpAny_pyIter_enum at_ ?_
      exact ⟨_, _, _, _, H1, rfl, I1.kept (t' := s1.toks) keep, turn a (s1.heap.objs.size + 1) s1.heap.objs.size, ⟨⟨.none, at_⟩, it, Nat.succ_ne_self _⟩, fp, q⟩
theorem walk {K : PySem.W.Frag} {a : Addr} {xs : List V} : Walk (Etp K a) xs.length (fun H => SqT K H a xs) (YPair (fun i => some (.int (i : Nat))) (fun i => xs[i]?)) := by
  constructor
  · exact fun i _ hi q => ⟨xs, xs[i], q, by simp [hi]⟩
  · exact fun _ q => ⟨xs, q, Nat.le_refl _⟩
  · rintro i H v H' _ q ⟨p, x, h1, h2, h3, h4⟩
    exact ⟨p, .int (i : Nat), x, h1, h2, h3, rfl, h4 xs q⟩
/-- zip of two tuples -/
theorem walk_zipT {K : PySem.W.Frag} {a b : Addr} {xs ys : List V} {n : Nat} (hn : n = min xs.length ys.length) : Walk (RZ.ItzT K a b) n (fun H => SqT K H a xs ∧ SqT K H b ys) (YPair (fun i => xs[i]?) (fun i => ys[i]?)) := by
  subst hn
  constructor
  · intro i _ hi q
    exact ⟨xs, ys, xs[i]'(by omega), ys[i]'(by omega), q.1, q.2, List.getElem?_eq_getElem _, List.getElem?_eq_getElem _⟩
  · exact fun _ q => ⟨xs, ys, q.1, q.2, by omega⟩
  · rintro i H v H' _ q ⟨p, x, y, h1, h2, h3, h4, h5⟩
    exact ⟨p, x, y, h1, h2, h3, h4 xs q.1, h5 ys q.2⟩
end GE

/-! comprehensions with two clauses, dict comprehensions, over any walk. -/
namespace GC
open PySem PySem.Spec PyProof.Rows L2
section
variable {J J1 : It} {n n1 : Nat} {G G1 : Hp → Prop} {Y Y1 : Nat → Hp → V → Hp → Prop}
/-- the outer clause -/
theorem lc2_it (w : Walk J n G Y) {g : TG} {tt : TT} {wi1 : TI} {g1 : TG} {tt1 : TT} {te : TE} {vs vs1 : List Nat} {σ : L2.St} {H1 : Hp} {D : Addr} {Qd : Hp → Prop} (Pv : Nat → Hp → Prop) (h0 : Pv 0 (upd H1 D (.lst []))) (hG : ∀ i H, i ≤ n → Pv i H → G H)
    (hs : ∀ i x H H', i < n → Pv i H → Y i H x H' → g x (wipe σ vs) H' fun σ2 H2 => wipe σ2 vs = wipe σ vs ∧ tt σ2 H2 fun b H3 =>
      if b = true then wi1 σ2 H3 fun J1 H4 => ∃ W1 : Nat → Nat → Hp → Prop, (∃ m, W1 0 m H4) ∧ ∀ j k H, W1 j k H →
        (J1.stop j H ∧ Pv (i + 1) H) ∨ (J1.go j H ∧ ∃ Nx1 : Hp → Prop, (∀ H', Nx1 H' → ∃ k', k' < k ∧ W1 (j + 1) k' H') ∧ ∀ x H', J1.yld j H x H' → g1 x (wipe σ2 vs1) H' fun σ3 H5 => wipe σ3 vs1 = wipe σ2 vs1 ∧ tt1 σ3 H5 fun b H6 =>
          if b = true then te σ3 H6 fun y H7 => ∃ acc, H7 D = some (.lst acc) ∧ acc.length < sizeLine ∧ Nx1 (upd H7 D (.lst (acc ++ [y]))) else Nx1 H6)
      else Pv (i + 1) H3) (hd : ∀ H, Pv n H → Qd H) :
    ∃ W : Nat → Nat → Hp → Prop, (∃ m, W 0 m (upd H1 D (.lst []))) ∧ ∀ i m H, W i m H →
      (J.stop i H ∧ Qd H) ∨ (J.go i H ∧ ∃ Nx : Hp → Prop, (∀ H', Nx H' → ∃ m', m' < m ∧ W (i + 1) m' H') ∧ ∀ x H', J.yld i H x H' → g x (wipe σ vs) H' fun σ2 H2 => wipe σ2 vs = wipe σ vs ∧ tt σ2 H2 fun b H3 =>
        if b = true then wi1 σ2 H3 fun J1 H4 => ∃ W1 : Nat → Nat → Hp → Prop, (∃ m, W1 0 m H4) ∧ ∀ j k H, W1 j k H →
          (J1.stop j H ∧ Nx H) ∨ (J1.go j H ∧ ∃ Nx1 : Hp → Prop, (∀ H', Nx1 H' → ∃ k', k' < k ∧ W1 (j + 1) k' H') ∧ ∀ x H', J1.yld j H x H' → g1 x (wipe σ2 vs1) H' fun σ3 H5 => wipe σ3 vs1 = wipe σ2 vs1 ∧ tt1 σ3 H5 fun b H6 =>
            if b = true then te σ3 H6 fun y H7 => ∃ acc, H7 D = some (.lst acc) ∧ acc.length < sizeLine ∧ Nx1 (upd H7 D (.lst (acc ++ [y]))) else Nx1 H6)
        else Nx H3) := by
  refine ⟨fun i m H => m = n - i ∧ i ≤ n ∧ Pv i H, ⟨n, by simp, Nat.zero_le _, h0⟩, ?_⟩
  rintro i m H ⟨rfl, hi, p⟩
  have q := hG i H hi p
  by_cases hlt : i < n
  · exact .inr ⟨w.goes i H hlt q, Pv (i + 1), fun H' p' => ⟨n - (i + 1), by omega, rfl, hlt, p'⟩, fun x H' y => hs i x H H' hlt p (w.yields i H x H' hlt q y)⟩
  · have e : i = n := by omega
    subst e
    exact .inl ⟨w.stops H q, hd H p⟩
/-- the inner clause -/
theorem lc2_in (w : Walk J1 n1 G1 Y1) {g1 : TG} {tt1 : TT} {te : TE} {vs1 : List Nat} {σ2 : L2.St} {H4 : Hp} {D : Addr} {Nx : Hp → Prop} (Pv : Nat → Hp → Prop) (h0 : Pv 0 H4) (hG : ∀ i H, i ≤ n1 → Pv i H → G1 H)
    (hs : ∀ i x H H', i < n1 → Pv i H → Y1 i H x H' → g1 x (wipe σ2 vs1) H' fun σ3 H5 => wipe σ3 vs1 = wipe σ2 vs1 ∧ tt1 σ3 H5 fun b H6 =>
      if b = true then te σ3 H6 fun y H7 => ∃ acc, H7 D = some (.lst acc) ∧ acc.length < sizeLine ∧ Pv (i + 1) (upd H7 D (.lst (acc ++ [y]))) else Pv (i + 1) H6) (hd : ∀ H, Pv n1 H → Nx H) :
    ∃ W1 : Nat → Nat → Hp → Prop, (∃ m, W1 0 m H4) ∧ ∀ j k H, W1 j k H →
      (J1.stop j H ∧ Nx H) ∨ (J1.go j H ∧ ∃ Nx1 : Hp → Prop, (∀ H', Nx1 H' → ∃ k', k' < k ∧ W1 (j + 1) k' H') ∧ ∀ x H', J1.yld j H x H' → g1 x (wipe σ2 vs1) H' fun σ3 H5 => wipe σ3 vs1 = wipe σ2 vs1 ∧ tt1 σ3 H5 fun b H6 =>
        if b = true then te σ3 H6 fun y H7 => ∃ acc, H7 D = some (.lst acc) ∧ acc.length < sizeLine ∧ Nx1 (upd H7 D (.lst (acc ++ [y]))) else Nx1 H6) := by
  refine ⟨fun i m H => m = n1 - i ∧ i ≤ n1 ∧ Pv i H, ⟨n1, by simp, Nat.zero_le _, h0⟩, ?_⟩
  rintro i m H ⟨rfl, hi, p⟩
  have q := hG i H hi p
  by_cases hlt : i < n1
  · exact .inr ⟨w.goes i H hlt q, Pv (i + 1), fun H' p' => ⟨n1 - (i + 1), by omega, rfl, hlt, p'⟩, fun x H' y => hs i x H H' hlt p (w.yields i H x H' hlt q y)⟩
  · have e : i = n1 := by omega
    subst e
    exact .inl ⟨w.stops H q, hd H p⟩
/-- a dict comprehension -/
theorem dc_it (w : Walk J n G Y) {g : TG} {tt : TT} {tk tv : TE} {vs : List Nat} {σ : L2.St} {H1 : Hp} {D : Addr} {Qd : Hp → Prop} (Pv : Nat → Hp → Prop) (h0 : Pv 0 (upd H1 D (.dK []))) (hG : ∀ i H, i ≤ n → Pv i H → G H)
    (hs : ∀ i x H H', i < n → Pv i H → Y i H x H' → g x (wipe σ vs) H' fun σ2 H2 => wipe σ2 vs = wipe σ vs ∧ tt σ2 H2 fun b H3 =>
      if b = true then tk σ2 H3 fun y H4 => tv σ2 H4 fun z H5 => ∃ kvs k, y = kV k ∧ H5 D = some (.dK kvs) ∧ kvs.length < sizeLine ∧ Pv (i + 1) (upd H5 D (.dK (putK kvs k z))) else Pv (i + 1) H3) (hd : ∀ H, Pv n H → Qd H) :
    ∃ W : Nat → Nat → Hp → Prop, (∃ m, W 0 m (upd H1 D (.dK []))) ∧ ∀ i m H, W i m H →
      (J.stop i H ∧ Qd H) ∨ (J.go i H ∧ ∃ Nx : Hp → Prop, (∀ H', Nx H' → ∃ m', m' < m ∧ W (i + 1) m' H') ∧ ∀ x H', J.yld i H x H' → g x (wipe σ vs) H' fun σ2 H2 => wipe σ2 vs = wipe σ vs ∧ tt σ2 H2 fun b H3 =>
        if b = true then tk σ2 H3 fun y H4 => tv σ2 H4 fun z H5 => ∃ kvs k, y = kV k ∧ H5 D = some (.dK kvs) ∧ kvs.length < sizeLine ∧ Nx (upd H5 D (.dK (putK kvs k z))) else Nx H3) := by
  refine ⟨fun i m H => m = n - i ∧ i ≤ n ∧ Pv i H, ⟨n, by simp, Nat.zero_le _, h0⟩, ?_⟩
  rintro i m H ⟨rfl, hi, p⟩
  have q := hG i H hi p
  by_cases hlt : i < n
  · exact .inr ⟨w.goes i H hlt q, Pv (i + 1), fun H' p' => ⟨n - (i + 1), by omega, rfl, hlt, p'⟩, fun x H' y => hs i x H H' hlt p (w.yields i H x H' hlt q y)⟩
  · have e : i = n := by omega
    subst e
    exact .inl ⟨w.stops H q, hd H p⟩
end
section
variable {X : Cx}
/-- xs[i], by values: for xs[i] += e -/
def rGetI : V → V → Hp → VK → Prop := fun x y H Q => ∃ p xs i j v, x = .ref p ∧ y = .int i ∧ H p = some (.lst xs) ∧ i = ((j : Nat) : Int) ∧ xs[j]? = some v ∧ Q v H
theorem get_listI : PGet X rGetI := by
  intro pins s σ H x y ov iv Q I rx ry h
  obtain ⟨p, xs, i, j, z, rfl, rfl, hq, rfl, he, q⟩ := h
  cases rx
  obtain ⟨t, rfl⟩ := ry
  obtain ⟨its, r, pl, hz⟩ := I.list (.inl (.inl hq))
  obtain ⟨w, ew, rw'⟩ := r.get he
  have hl := r.length
  have hn := line63
  have lt := (List.getElem?_eq_some_iff.mp he).1
  exact wpAny_getItem_list (x := w) pl.isList (by omega) (by omega) (by simpa using ew) ⟨z, H, I, rw', q⟩
end
theorem hu1 {k : Nat} {A : Around} (r : Room k A) : A.units + 1 < cLine := by have := r.un; omega
theorem hu65 {k : Nat} {A : Around} (r : Room k A) : A.units + 65 < cLine := by have := r.un; omega
theorem hu4 {k : Nat} {A : Around} (r : Room k A) : A.units + 4 < cLine := by have := r.un; omega
/-- tuple(xs), said for comprehensions -/
def rTupK (K : PySem.W.Frag) : List V → Hp → VK → Prop := fun xs H Q => ∃ p ys, xs = [.ref p] ∧ ((SqL K H p ys ∧ ∀ l, H l = none → Q (.ref l) (upd H l (.tup ys))) ∨ (SqT K H p ys ∧ Q (.ref p) H))
end GC

/-! len(set(xs)) of ints, t[::-1] of a tuple, what is never come to. -/
namespace GL
open PySem PySem.Spec PyProof.Rows PySem.Calls L2 Builtin
/-- the unlike ones, as met -/
def met (ns : List Int) : List Int := firstMet (fun i => ns.getD i 0) ns.length
theorem fold_dedup : ∀ (xs acc : List Int), acc.Nodup → (xs.foldl step_dedup acc).length ≤ acc.length + xs.length ∧ ((xs.foldl step_dedup acc).length = acc.length + xs.length ↔ xs.Nodup ∧ ∀ x ∈ xs, x ∉ acc)
  | [], acc, h => by simp
  | x :: xs, acc, h => by
    rw [List.foldl_cons]
    by_cases c : x ∈ acc
    · have e : step_dedup acc x = acc := by
        unfold step_dedup
        rw [if_pos (List.any_eq_true.mpr ⟨x, c, by simp⟩)]
      rw [e]
      obtain ⟨h1, h2⟩ := fold_dedup xs acc h
      refine ⟨by rw [List.length_cons]; omega, ⟨fun z => by rw [List.length_cons] at z; omega, fun ⟨z1, z2⟩ => absurd c (z2 x List.mem_cons_self)⟩⟩
    · have e : step_dedup acc x = acc ++ [x] := by
        unfold step_dedup
        rw [if_neg]
        intro z
        obtain ⟨y, hy, q⟩ := List.any_eq_true.mp z
        have q : y = x := by simpa using q
        exact c (by rw [← q]; exact hy)
      rw [e]
      have nd : (acc ++ [x]).Nodup := by
        rw [List.nodup_append]
        refine ⟨h, by simp, fun a ha b hb => ?_⟩
        rw [List.mem_singleton] at hb
        intro z
        exact c (by rw [← hb, ← z]; exact ha)
      obtain ⟨h1, h2⟩ := fold_dedup xs (acc ++ [x]) nd
      have el : (acc ++ [x]).length = acc.length + 1 := by rw [List.length_append]; rfl
      rw [el] at h1 h2
      rw [List.length_cons]
      refine ⟨by omega, ?_⟩
      rw [show acc.length + (xs.length + 1) = acc.length + 1 + xs.length by omega, h2, List.nodup_cons]
      constructor
      · rintro ⟨a, b⟩
        refine ⟨⟨fun z => b x z (by simp), a⟩, fun y hy => ?_⟩
        rcases List.mem_cons.mp hy with z | z
        · rw [z]
          exact c
        · exact fun q => b y z (List.mem_append_left _ q)
      · rintro ⟨⟨a, b⟩, d⟩
        refine ⟨b, fun y hy z => ?_⟩
        rcases List.mem_append.mp z with q | q
        · exact d y (List.mem_cons_of_mem _ hy) q
        · rw [List.mem_singleton] at q
          exact a (by rw [← q]; exact hy)
theorem getD_range (ns : List Int) : (List.range ns.length).map (fun i => ns.getD i 0) = ns := by
  refine List.ext_getElem? fun i => ?_
  rw [List.getElem?_map]
  by_cases h : i < ns.length
  · rw [List.getElem?_range h, List.getElem?_eq_getElem h]
    simp [List.getD_eq_getElem?_getD, h]
  · rw [List.getElem?_eq_none (by rw [List.length_range]; omega), List.getElem?_eq_none (by omega)]
    rfl
theorem met_len (ns : List Int) : (met ns).length ≤ ns.length ∧ ((met ns).length = ns.length ↔ ns.Nodup) := by
  unfold met firstMet
  rw [getD_range]
  obtain ⟨h1, h2⟩ := fold_dedup ns [] List.nodup_nil
  rw [List.length_nil, Nat.zero_add] at h1 h2
  refine ⟨h1, h2.trans ⟨fun z => z.1, fun z => ⟨z, fun x _ => List.not_mem_nil⟩⟩⟩
def tLenSetN (K : PySem.W.Frag) (ta : TE) : TE := fun σ H Q => ta σ H fun x H1 => ∃ (l : Addr) (ns : List Int), x = .ref l ∧ SqL K H1 l (ns.map V.int) ∧ ns.length ≤ 4000 ∧ Q (.int ((met ns).length : Nat)) H1
theorem pe_lenSetN {X : Cx} {a : Expr} {ta : TE} {p p2 q pos : Pos} (hg : Gl X "len") (hm : X.mg "len" = none) (hg2 : Gl X "set") (hm2 : X.mg "set" = none) (ha : PE X a ta) (hc : X.calm = true := by rfl)
    (na : starEach [a] X.env = (false, eval a X.env) :: starEach [] X.env := by rfl) : PE X (.Call (.Name "len" p) [.Call (.Name "set" p2) [a] [] q] [] pos) (tLenSetN X.K ta) := by
  refine ⟨fun pins s σ H Q I h => ?_⟩
  refine Call_ (ld_blt I hg hm boot_len ?_)
  refine PyProof.Rows.callWith_builtin1 (PyProof.Rows.args_cons ?_ rfl) rfl rfl
  refine Call_ (ld_blt I hg2 hm2 boot_set ?_)
  refine PyProof.Rows.callWith_type1 (PyProof.Rows.args_cons (thn (ha.run pins s σ H _ I h) fun v s1 ⟨x, H1, I1, r1, q1⟩ => PyProof.Rows.args_nil ?_) na) na rfl
  obtain ⟨l, ns, rfl, hq, hl, q1⟩ := q1
  cases r1
  obtain ⟨its, r, pl, hz⟩ := I1.list hq
  have hlen : its.toArray.size = ns.length := by rw [List.size_toArray, ← r.length, List.length_map]
  refine call_set_list (I1.ok.hd hc) pl.isList (by simpa using RZ.intsAre_vals r) (by rw [hlen]; unfold scanBound; omega) fun h' tk hS hk => ?_
  refine PyProof.Rows.args_nil ?_
  rw [hlen] at hS
  obtain ⟨o, es, ep, t, ho, hex, hd, _, _, _, hf, hn⟩ := hS
  have I2 : Inv X pins σ H1 { s1 with heap := h', toks := tk } := I1.kept fun b o e => hk b o (Heap.lt_size e) e
  have le := (met_len ns).1
  exact call_len_set ho hex hd hf (by rw [hn]; show ((met ns).length : Int) < _; omega) ⟨.int (met ns).length, H1, I2.tok _, ⟨_, by rw [hn]; rfl⟩, q1⟩
/-! ### t[::-1] -/
theorem filt_take {α : Type} {f : Nat → Option α} {L : List α} (h : ∀ m, m < L.length → f m = L[m]?) : ∀ n, n ≤ L.length → (List.range n).filterMap f = L.take n
  | 0, _ => rfl
  | n + 1, hn => by
    rw [List.range_succ, List.filterMap_append, filt_take h n (by omega), List.take_add_one]
    congr 1
    rw [List.filterMap_cons, h n (by omega), List.getElem?_eq_getElem (by omega)]
    rfl
theorem pick_back (xs : Array Value) : ((List.range xs.size).filterMap fun (m : Nat) => xs[((xs.size : Int) - 1 + (m : Int) * (-1)).toNat]?).toArray = xs.toList.reverse.toArray := by
  congr 1
  have e := filt_take (f := fun (m : Nat) => xs[((xs.size : Int) - 1 + (m : Int) * (-1)).toNat]?) (L := xs.toList.reverse) (fun m hm => ?_) xs.toList.reverse.length (Nat.le_refl _)
  · rw [List.length_reverse, Array.length_toList] at e
    rw [e]
    exact List.take_of_length_le (by rw [List.length_reverse, Array.length_toList]; omega)
  · rw [List.length_reverse, Array.length_toList] at hm
    rw [List.getElem?_reverse (by rw [Array.length_toList]; exact hm), Array.getElem?_toList, Array.length_toList]
    congr 1
    omega
section
variable {P : Program} {w : World} {A : Around} {E : Value → Shared → Prop} {s : Shared}
theorem sliceApplied_back {sl : Addr} {vs : Value} {n : Nat} {Q : Int × Int × Nat → Shared → Prop} (hs : s.heap.IsSliceOf sl .none .none vs) (ps : IsPart vs (some (-1)))
    (h : Q ((n : Int) - 1, -1, n) s) : wpAny (model P w) A (Builtin.Slice.sliceApplied (.ref sl) (pure (n : Int))) Q E s := by
  obtain ⟨os, hos, hcs, hds⟩ := id hs
  unfold Builtin.Slice.sliceApplied Builtin.Slice.sliceFields
  refine wpAny_bind (wpAny_bind (wpAny_field hos hds (x := .none) rfl (wpAny_bind (wpAny_field hos hds (x := .none) rfl (wpAny_bind (wpAny_field hos hds (x := vs) rfl (wpAny_pure ?_)))))))
  refine wpAny_bind (HT.slicePart_ ps ?_)
  show wpAny _ _ (if ((-1 : Int) == 0) = true then _ else _) _ _ s
  rw [if_neg (by decide)]
  refine wpAny_bind (HT.slicePart_ .none (wpAny_bind (HT.slicePart_ .none (wpAny_bind (wpAny_pure ?_)))))
  show wpAny _ _ (match Builtin.Slice.sliceAdjust none none (-1) (n : Int) with | (lo, hi) => pure (lo, (-1 : Int), Builtin.Slice.slicePlaces lo hi (-1))) _ _ s
  have e1 : Builtin.Slice.sliceAdjust none none (-1) (n : Int) = ((n : Int) - 1, -1) := by
    unfold Builtin.Slice.sliceAdjust
    simp
  rw [e1]
  show wpAny _ _ (pure ((n : Int) - 1, (-1 : Int), Builtin.Slice.slicePlaces ((n : Int) - 1) (-1) (-1))) _ _ s
  have e2 : Builtin.Slice.slicePlaces ((n : Int) - 1) (-1) (-1) = n := by
    unfold Builtin.Slice.slicePlaces
    have h1 : ¬ ((-1 : Int) > 0) := by omega
    simp only [h1, if_false, show (-(-1 : Int)) = 1 from rfl, Int.ediv_one]
    split <;> omega
  rw [e2]
  exact wpAny_pure h
theorem getItem_tuple_back {t sl : Addr} {items : Array Value} {vs : Value} {Q : Value → Shared → Prop} (ht : IsTup s.heap t items) (hs : s.heap.IsSliceOf sl .none .none vs) (ps : IsPart vs (some (-1)))
    (h : Q (.ref s.heap.objs.size) { s with heap := s.heap.push { cls := .type "tuple", data := .seq items.toList.reverse.toArray } })
    (hsz : items.size ≤ sizeLine) : wpAny (model P w) A (getItem (.ref t) (.ref sl)) Q E s := by
  have htake : sizeOk (.seq items.toList.reverse.toArray) := by
    show items.toList.reverse.toArray.size ≤ sizeLine
    rw [List.size_toArray, List.length_reverse, Array.length_toList]
    omega
  obtain ⟨os, hos, hcs, hds⟩ := id hs
  have hTs : s.TypeIs (.ref sl) "slice" := ⟨os, hos, hcs⟩
  unfold getItem
  try with_reducible refine wpAny_holding ?_
  first | refine wpAny_bind (wpAny_pure ?_) | skip
  refine wpAny_bind (wpAny_sequenceKey ht.typeIs (by decide) ?_)
  refine wpAny_bind (wpAny_callSpecial?_slot (name := Str.ofString "__getitem__") ht.typeIs PyProof.Rows.slot_tuple_getitem
    (wpAny_call_entry PyProof.Rows.slot_tuple_getitem ht.typeIs entry_tuple_getitem ?_ (args_tuple_getitem _ _)))
  show wpAny _ _ (Builtin.Tuple.tupleItemsOf (.ref t) >>= _) _ _ s
  refine wpAny_bind (tupleItemsOf_ ht ?_)
  refine wpAny_bind (wpAny_typeOf hTs ?_)
  rw [if_pos (by decide)]
  refine wpAny_bind (sliceApplied_back hs ps ?_)
  have hno : ¬ (((((items.size : Int) - 1) == 0 && (-1 : Int) == 1 && items.size == items.size)) = true) := by
    intro q
    rw [Bool.and_eq_true, Bool.and_eq_true] at q
    have q1 : (-1 : Int) = 1 := eq_of_beq q.1.2
    omega
  show wpAny _ _ (if ((((items.size : Int) - 1) == 0 && (-1 : Int) == 1 && items.size == items.size)) = true then _ else _) _ _ s
  rw [if_neg hno, pick_back]
  first
    | exact wpAny_bind (m := Builtin.Tuple.tupleExact _) (wpAny_newObj_type (wpAny_pure ⟨_, rfl, wpAny_pure h⟩) htake)
    | exact wpAny_bind (m := Builtin.Tuple.tupleExact _) (wpAny_newObj_type (wpAny_bind (wpAny_pure (wpAny_pure ⟨_, rfl, wpAny_pure h⟩))) htake)
    | exact wpAny_bind (wpAny_bind (m := Builtin.Tuple.tupleExact _) (wpAny_newObj_type (wpAny_pure (wpAny_pure ⟨_, rfl, wpAny_pure h⟩)) htake))
    | exact wpAny_bind (wpAny_bind (m := Builtin.Tuple.tupleExact _) (wpAny_newObj_type (wpAny_pure ⟨_, rfl, wpAny_pure h⟩) htake))
end
def tRevT (K : PySem.W.Frag) (te : TE) : TE := fun σ H Q => te σ H fun x H1 => ∃ a xs, x = .ref a ∧ SqT K H1 a xs ∧ ∀ p, H1 p = none → Q (.ref p) (upd H1 p (.tup xs.reverse))
theorem pe_revT {X : Cx} {e : Expr} {te : TE} {k : Nat} {p1 p2 p3 pos : Pos} (he : PE X e te) : PE X (.Subscript e (.Slice none none (some (.UnaryOp .USub (.Constant (.int 1) k p1) p2)) p3) pos) (tRevT X.K te) := by
  refine ⟨fun pins s σ H Q I h => ?_⟩
  refine Subscript_ (thn (he.run pins s σ H _ I h) fun v s1 ⟨x, H1, I1, r1, q1⟩ => ?_)
  obtain ⟨a, xs, ex, hx, q⟩ := q1
  subst ex
  cases r1
  have hst : PO X (some (.UnaryOp .USub (.Constant (.int 1) k p1) p2)) (tPart (tUn (rU fun i => .int (-i)) (tC (.int 1)))) := po_some (pe_un un_neg pe_int)
  refine wpAny_Slice (thn (po_none.run pins s1 σ H1 (fun o H2 => o = none ∧ H2 = H1) I1 ⟨rfl, rfl⟩) fun vl s2 ⟨l, H2, I2, pl, el, e2⟩ => ?_)
  subst el e2
  refine thn (po_none.run pins s2 σ H2 (fun o H3 => o = none ∧ H3 = H2) I2 ⟨rfl, rfl⟩) fun vu s3 ⟨u, H3, I3, pu, eu, e3⟩ => ?_
  subst eu e3
  refine thn (hst.run pins s3 σ H3 (fun o H4 => o = some (-1) ∧ H4 = H3) I3 ⟨1, rfl, -1, rfl, rfl, rfl⟩) fun vs s4 ⟨o, H4, I4, ps, eo, e4⟩ => ?_
  subst eo e4
  cases pl
  cases pu
  have I5 : Inv X pins σ H4 { s4 with heap := s4.heap.push { cls := .type "slice", data := .fields #[.none, .none, vs] } } := I4.kept (t' := s4.toks) fun b ob q => Heap.get?_push_of_some _ q
  obtain ⟨its, r, ht, hz⟩ := I5.tuple hx
  have hlen := r.length
  show wpAny (model X.prog X.w) X.A (subscriptTail e (.Slice none none (some (.UnaryOp .USub (.Constant (.int 1) k p1) p2)) p3) (.ref a) (.ref s4.heap.objs.size)) (EP X pins σ Q) X.xe { s4 with heap := s4.heap.push { cls := .type "slice", data := .fields #[.none, .none, vs] } }
  refine tail_any (ops := [.ref a, .ref s4.heap.objs.size]) ht.typeIs (PyProof.Rows.slot_tuple_getitem.lookup) ?_ (by with_unfolding_all rfl)
  refine getItem_tuple_back ht (Heap.IsSliceOf.new _ .none .none vs) ps ?_ (by rw [List.size_toArray]; omega)
  refine ⟨.ref _, _, I5.laid (t' := s4.toks) (o := .tup xs.reverse) (fun b ob q => Heap.get?_push_of_some _ q) (Nat.le_refl _) ?_, rfl, q _ (I5.hok.fresh (Nat.le_refl _))⟩
  exact ⟨by rw [List.length_reverse]; exact hz, _, r.reverse, IsTup.new _ _⟩
/-! ### what is never come to -/
def tDead : TE := fun _ _ _ => False
theorem pe_dead {X : Cx} {e : Expr} : PE X e tDead := ⟨fun _ _ _ _ _ _ h => h.elim⟩
def sDead : TS := fun _ _ _ => False
end GL

/-! x != y of instances of one class that has an __eq__ of its own and no __ne__. -/
namespace GO
open PySem PySem.Spec PyProof.Rows L2 Builtin
/-- what is asked of the class at C, its __eq__ at g -/
structure EqO (K : PySem.W.Frag) (C g : Addr) : Prop where
  top : PySem.W.mroIn K C (.type "object") = some true
  ne : PySem.W.findIn K (.ref C) "__ne__" = some (some (.builtin "object.__ne__"))
  eq : PySem.W.findIn K (.ref C) "__eq__" = some (some (.ref g))
  fn : PySem.W.isFn K (.ref g) = true
section
variable {P : Program} {w : World} {A : Around} {E : Value → Shared → Prop} {s : Shared} {K : PySem.W.Frag} {x y C D g : Addr} {ox oy : Obj} {od od' : Option Obj}
theorem bound {M : Model} {more : List Value} {Q : Option Value → Shared → Prop} (X : K.In s.heap) (I : PySem.W.InstAt s.heap x ox C od) (c : EqO K C g)
    (h : wpAny M A (call (.builtin "object.__ne__") (.ref x :: more)) (fun v => Q (some v)) E s) : wpAny M A (callSpecialIfBound? (.ref x) "__ne__" more) Q E s := by
  have last : wpAny M A (call (.builtin "object.__ne__") ([.ref x] ++ more) >>= fun v => pure (some v)) Q E s := wpAny_bind (wpAny_mono h (fun _ _ z => wpAny_pure z) fun _ _ z => z)
  simp only [callSpecialIfBound?, bindSpecialIfBound?]
  refine wpAny_holding (wpAny_bind ?_)
  refine wpAny_bind (wpAny_bind (I.type.here ((PySem.W.looks_findIn X c.ne).here ?_)))
  refine wpAny_bind (wpAny_askSetting (wpAny_ite ?_))
  split
  · exact wpAny_bind (wpAny_of_eq (F.cmp_object.ne.bind _) (wpAny_pure (by exact last)))
  · refine wpAny_tryCatch ?_
    exact wpAny_bind (wpAny_of_eq (F.cmp_object.ne.bind _) (wpAny_pure (by exact last)))
theorem entry {Q : Fin → Shared → Prop} (X : K.In s.heap) (I : PySem.W.InstAt s.heap x ox C od) (c : EqO K C g) (hu : A.units < cLine)
    (h : wpAny (model P w) A (call (.ref g) [.ref x, .ref y]) (fun v s' => ∃ b, v = .bool b ∧ Q (.done (.ret (.bool (!b)))) s') E s) :
    wpAny (model P w) A (Builtin.«object.__ne__» ⟨[.ref x, .ref y], []⟩) Q E s := by
  obtain ⟨h0, gs, dr, tk, os⟩ := s
  unfold Builtin.«object.__ne__»
  repeat (first
    | with_reducible refine wpAny_cRoomFor hu ?_
    | (refine wpAny_bind (m := callSpecialIfBound? (.ref x) (Str.ofString "__eq__") [.ref y]) (PySem.W.ifBound_K X I c.eq c.fn (wpAny_mono h (fun r s' got => by
        obtain ⟨b, rfl, q⟩ := got
        repeat (first | exact q | exact wpAny_pure q | exact wpAny_truthy_bool q | (refine wpAny_bind (m := truthy (.bool _)) (wpAny_truthy_bool ?_)) | wp_step)) fun _ _ z => z)))
    | wp_step)
theorem tried {Q : Option Value → Shared → Prop} (X : K.In s.heap) (I : PySem.W.InstAt s.heap x ox C od) (c : EqO K C g) (hu : A.units + 1 < cLine)
    (h : wpAny (model P w) A.in1 (call (.ref g) [.ref x, .ref y]) (fun v s' => ∃ b, v = .bool b ∧ Q (some (.bool (!b))) s') E s) : wpAny (model P w) A (tryCompare (.ref x) "__ne__" (.ref y)) Q E s := by
  unfold tryCompare
  refine wpAny_bind (bound X I c (wpAny_call (codeAny_call_builtin F.cmp_object.ne.plain F.cmpEntry_ne (PySem.W.check_slot F.cmpKind_ne F.cmpSplit_ne (I.type.andThen (PySem.W.looks_mroIn X c.top)) (F.cmpArgs_ne _ _) ?_))))
  refine entry X I c hu (wpAny_mono h (fun v s' got => ?_) fun _ _ z => z)
  obtain ⟨b, rfl, q⟩ := got
  first | exact ⟨b, rfl, wpAny_pure q⟩ | exact ⟨b, rfl, wpAny_pure (wpAny_pure q)⟩ | exact ⟨b, rfl, q⟩
theorem rich {Q : Value → Shared → Prop} (X : K.In s.heap) (I : PySem.W.InstAt s.heap x ox C od) (J : PySem.W.InstAt s.heap y oy C od') (c : EqO K C g) (hu : A.units + 1 < cLine)
    (h : wpAny (model P w) A.in1 (call (.ref g) [.ref x, .ref y]) (fun v s' => ∃ b, v = .bool b ∧ Q (.bool (!b)) s') E s) : wpAny (model P w) A (richCompare .NotEq (.ref x) (.ref y)) Q E s := by
  have one : wpAny (model P w) A (tryCompare (.ref x) "__ne__" (.ref y)) (fun r s' => ∃ b, r = some (.bool b) ∧ Q (.bool b) s') E s :=
    tried X I c hu (wpAny_mono h (fun v s' got => by obtain ⟨b, e, q⟩ := got; exact ⟨b, e, !b, rfl, q⟩) fun _ _ z => z)
  simp only [richCompare, cmpInfo_NotEq, oneThing_ref]
  refine wpAny_holding (wpAny_bind (wpAny_cRoomFor (Nat.lt_of_succ_lt hu) ?_))
  refine wpAny_bind (I.type.here (wpAny_bind (J.type.here ?_)))
  split
  · rename_i z
    exact absurd z (by simp)
  · refine wpAny_bind (wpAny_pure ?_)
    simp only [Bool.false_eq_true, if_false]
    refine wpAny_bind (wpAny_mono one (fun r s' got => ?_) fun _ _ z => z)
    obtain ⟨b, rfl, q⟩ := got
    exact wpAny_pure q
end
section
variable {X : Cx} {C g : Addr} {k : Nat} {fd : FuncData} {ps : List Str} {sp : Sp}
def rNeO (C : Addr) (sp : Sp) : V → V → Hp → VK → Prop := fun x y H Q => ∃ a b dx dy fs gs, x = .ref a ∧ y = .ref b ∧ H a = some (.ins C dx fs) ∧ H b = some (.ins C dy gs) ∧ sp [x, y] H (fun v H' => ∃ j, v = .bl j ∧ Q (.bl (!j)) H') (fun _ _ _ => False)
theorem op_neO (c : EqO X.K C g) (F : FnOk X.prog X.w X.K X.mg X.base L2.CX0 k g fd ps sp) (hb : Binds X.K fd ps []) (hr : Room (k + 2) X.A) : OpR X (compareOp .NotEq) (rNeO C sp) := by
  intro pins s σ H x y u v Q I rx ry h
  obtain ⟨a, b, dx, dy, fs, gs, rfl, rfl, ha, hb', q⟩ := h
  cases (show u = Value.ref a from rx)
  cases (show v = Value.ref b from ry)
  obtain ⟨mA, O, _⟩ := ins_get I.hok ha
  obtain ⟨od, J, _⟩ := O.look
  obtain ⟨mB, O', _⟩ := ins_get I.hok hb'
  obtain ⟨od', J', _⟩ := O'.look
  have hr1 : Room k X.A.in1 := (show Room (k + 1) X.A.in1 from Room.in1 hr).mono (Nat.le_succ k)
  show wpAny _ _ (richCompare .NotEq (.ref a) (.ref b)) _ _ _
  refine rich I.kIn J J' c ?_ ?_
  · exact Nat.lt_of_le_of_lt (Nat.add_le_add_left (by decide) _) hr.units
  · have ran := F.raw hb .nil X.A.in1 X.stack s H [.ref a, .ref b] [.ref a, .ref b] _ _ hr1 I.env0.in1 (.cons rfl (.cons rfl .nil)) (by exact q)
    refine wpAny_call (codeAny_mono ran fun r s' told => ?_)
    match r, told with
    | .error e, told => exact (show False from told).elim
    | .ok (.ret u), told =>
      obtain ⟨z, H', I', rz, j, ej, qz⟩ := I.after told
      subst ej
      cases (show u = Value.bool j from rz)
      exact ⟨j, rfl, .bl (!j), H', I', rfl, qz⟩
    | .ok .next, told => exact told.elim
    | .ok .brk, told => exact told.elim
    | .ok .cont, told => exact told.elim
end
end GO

/-! x == y, x an instance of a class that has an __eq__ of its own, y anything whose type is known. -/
namespace GP
open PySem PySem.Spec PyProof.Rows L2 Builtin
section
variable {X : Cx} {C g : Addr} {k : Nat} {fd : FuncData} {ps : List Str} {sp : Sp}
def rEqO (K : PySem.W.Frag) (C : Addr) (sp : Sp) : V → V → Hp → VK → Prop := fun x y H Q => ∃ a dx fs t, x = .ref a ∧ H a = some (.ins C dx fs) ∧ TyX K H y t ∧ PySem.W.notFirst K C t = true ∧ sp [x, y] H (fun v H' => ∃ j, v = .bl j ∧ Q (.bl j) H') (fun _ _ _ => False)
theorem op_eqO (hs : PySem.W.findIn X.K (.ref C) "__eq__" = some (some (.ref g))) (hf : PySem.W.isFn X.K (.ref g) = true) (F : FnOk X.prog X.w X.K X.mg X.base L2.CX0 k g fd ps sp) (hb : Binds X.K fd ps []) (hr : Room k X.A) : OpR X (compareOp .Eq) (rEqO X.K C sp) := by
  intro pins s σ H x y u v Q I rx ry h
  obtain ⟨a, dx, fs, t, rfl, ha, ty, nf, q⟩ := h
  cases (show u = Value.ref a from rx)
  obtain ⟨mA, O, _⟩ := ins_get I.hok ha
  obtain ⟨od, J, _⟩ := O.look
  obtain ⟨m, hF⟩ := I.fr
  obtain ⟨Pz, Z, pz, _⟩ := kit_of I ry ty
  show wpAny _ _ (richCompare .Eq (.ref a) v) _ _ _
  refine PySem.W.cmp_K (op := .Eq) (tb := t) (Nat.lt_of_le_of_lt (Nat.le_add_right _ _) hr.units) hF I.ok.mod.kin J (Z.ty _ _ I.kIn pz) nf hs hf ?_
  have ran := F.raw hb .nil X.A X.stack s H [.ref a, v] [.ref a, y] _ _ hr I.env0 (.cons rfl (.cons ry .nil)) (by exact q)
  refine wpAny_call (codeAny_mono ran fun r s' told => ?_)
  match r, told with
  | .error e, told => exact (show False from told).elim
  | .ok (.ret u), told =>
    obtain ⟨z, H', I', rz, j, ej, qz⟩ := I.after told
    subst ej
    cases (show u = Value.bool j from rz)
    exact ⟨.bl j, H', I', rfl, qz⟩
  | .ok .next, told => exact told.elim
  | .ok .brk, told => exact told.elim
  | .ok .cont, told => exact told.elim
end
def noRef (T : String) : Bool := match PySem.fastBuiltinMro T with
  | some l => l.all fun v => match v with | .type _ => true | _ => false
  | none => false
theorem sub_ref {K : PySem.W.Frag} {T : String} {C : Addr} (h : noRef T = true) : PySem.W.subIn K (.type T) (.ref C) = some false := by
  unfold noRef at h
  show (PySem.fastBuiltinMro T).map (·.contains (Value.ref C)) = some false
  cases e : PySem.fastBuiltinMro T with
  | none =>
    rw [e] at h
    cases h
  | some l =>
    rw [e] at h
    simp only [Option.map_some]
    congr 1
    rw [List.all_eq_true] at h
    rw [← Bool.not_eq_true]
    intro z
    have hm := List.contains_iff_mem.mp z
    have := h _ hm
    cases this
theorem kit_rev {K : PySem.W.Frag} {T : String} {C : Addr} (cl : Cls K C) (tt : PySem.W.typeIn K (.ref C) = some (.type "type")) (h : noRef T = true) : PySem.W.kitOne K (.type T) (.ref C) = some false := by
  obtain ⟨cd, hc, _⟩ := PySem.W.any_some cl.hd
  unfold PySem.W.kitOne
  rw [if_neg (by intro z; cases eq_of_beq z)]
  show (if ((PySem.W.clsIn K C).isSome && PySem.W.typeIn K (.ref C) == some (.type "type")) = true then PySem.W.subIn K (.type T) (.ref C) else none) = some false
  rw [if_pos (by rw [hc, tt] <;> rfl)]
  exact sub_ref h
theorem first_rev {K : PySem.W.Frag} {T : String} {C : Addr} (h : noRef T = true) : PySem.W.notFirst K C (.type T) = true := by
  unfold PySem.W.notFirst
  rw [sub_ref h]
  simp
theorem first_self {K : PySem.W.Frag} {C : Addr} : PySem.W.notFirst K C (.ref C) = true := by
  unfold PySem.W.notFirst
  simp
end GP

/-! max of a list of ints, with None for an empty one. -/
namespace GMd
open PySem PySem.Spec PyProof.Rows PySem.Calls L2 Builtin
abbrev kwD : List (Str × Value) := [(Str.ofString "default", Value.none)]
theorem okD (a : Value) : argsOk "max" ⟨[a], kwD⟩ := by
  unfold argsOk
  kernel_rfl
section
variable {P : Program} {w : World} {A : Around} {R : Result → Shared → Prop} {it : Addr} {fp wr : List Addr} {n : Nat} {at_ : Nat → Value → Prop} {St : Nat → Heap → Prop}
theorem word_loop : (toString "max" ++ toString ".loop" : String) = "max.loop" := by decide
theorem turnD (W : Walks P w A.in1 it fp wr n at_ St) (bt : Nat → Nat → Bool) (cmp : CmpOf P w A.in1 .Gt at_ bt) (B : Addr) (apart : B ∉ fp) : ∀ (k j : Nat) (s : Shared) (v0 : Value) (c : Nat), n - (j + 1) = k → j + 1 ≤ n → St (j + 1) s.heap → at_ (argBest bt j) v0 →
    s.heap.get? B = some { cls := .type "list", dict := none, data := .seq #[v0, v0] c, slots := #[] } →
    (∀ v h' tk, at_ (argBest bt (n - 1)) v → (∀ b o, b ∉ wr → b ≠ B → s.heap.get? b = some o → h'.get? b = some o) → R (.ok (.ret v)) { s with heap := h', toks := tk }) →
    codeAny (model P w) A (.builtin "max.loop" ⟨[.ref it, .none, .ref B], kwD⟩) R s := by
  have Bw : B ∉ wr := fun z => apart (W.sub _ z)
  intro k
  induction k with
  | zero =>
    intro j s v0 c hk hj st p0 eB fin
    have jn : j + 1 = n := by omega
    refine codeAny_builtin F.entry_max_loop ?_
    rw [Around.under_plainId F.plain_max_loop _]
    show wpAny _ A.in1 (seqItems? (.ref B) >>= _) _ _ s
    refine wpAny_bind (wpAny_seqItems eB rfl ?_)
    show wpAny _ A.in1 (tryCatch (pyNext (.ref it)) _ >>= _) _ _ s
    refine wpAny_bind (wpAny_tryCatch (W.done s _ _ (jn ▸ st) fun h' tk keep => ?_))
    have eB' := keep B _ Bw eB
    show wpAny _ A.in1 (updateSeq B (fun _ => #[]) >>= _) _ _ _
    refine wpAny_bind ?_
    refine wpAny_updateSeq eB' rfl (wpAny_bind (wpAny_letGo (wpAny_pure ?_)))
    exact fin v0 _ tk (by rw [← jn]; exact p0) fun b o b1 b2 e => (Heap.get?_update_other _ _ (Ne.symm b2)).trans (keep b o b1 e)
  | succ k ih =>
    intro j s v0 c hk hj st p0 eB fin
    have lt : j + 1 < n := by omega
    refine codeAny_builtin F.entry_max_loop ?_
    rw [Around.under_plainId F.plain_max_loop _]
    show wpAny _ A.in1 (seqItems? (.ref B) >>= _) _ _ s
    refine wpAny_bind (wpAny_seqItems eB rfl ?_)
    show wpAny _ A.in1 (tryCatch (pyNext (.ref it)) _ >>= _) _ _ s
    refine wpAny_bind (wpAny_tryCatch (W.item (j + 1) s _ _ lt st fun v h' tk pv st' keep => ?_))
    have eB' := keep B _ Bw eB
    show wpAny _ A.in1 (tryCatch (holding [v, v] (richCompare .Gt v v0 >>= _)) _ >>= _) _ _ _
    refine wpAny_bind (wpAny_tryCatch (wpAny_holding (wpAny_bind (cmp (j + 1) (argBest bt j) v v0 _ _ _ pv p0 ?_))))
    refine wpAny_bind (wpAny_holding (wpAny_truthy_bool ?_))
    refine wpAny_bind (wpAny_letGo (wpAny_pure ?_))
    cases hb : bt (j + 1) (argBest bt j) with
    | true =>
      simp only [if_true]
      refine wpAny_bind ?_
      refine wpAny_updateSeq eB' rfl (wpAny_bind (wpAny_letGo ?_))
      rw [word_loop]
      refine wpAny_pure ⟨plainId_quiet F.plain_max_loop _, ih (j + 1) _ v _ (by omega) lt (W.frame _ _ _ st' fun b bf o e => ?_) (by simp only [argBest, hb, if_true]; exact pv) (Heap.get?_update_self _ eB' rfl) fun v' h2 tk2 pv' keep2 => ?_⟩
      · exact (Heap.get?_update_other _ _ (fun z : B = b => apart (by rw [z]; exact bf))).trans e
      · exact fin v' h2 tk2 pv' fun b o b1 b2 e => keep2 b o b1 b2 ((Heap.get?_update_other _ _ (Ne.symm b2)).trans (keep b o b1 e))
    | false =>
      simp only [Bool.false_eq_true, if_false]
      refine wpAny_bind (wpAny_letGo ?_)
      rw [word_loop]
      refine wpAny_pure ⟨plainId_quiet F.plain_max_loop _, ih (j + 1) _ v0 c (by omega) lt st' (by simp only [argBest, hb, Bool.false_eq_true, if_false]; exact p0) eB' fun v' h2 tk2 pv' keep2 => ?_⟩
      exact fin v' h2 tk2 pv' fun b o b1 b2 e => keep2 b o b1 b2 (keep b o b1 e)
theorem firstD (W : Walks P w A.in1 it fp wr n at_ St) (bt : Nat → Nat → Bool) (cmp : CmpOf P w A.in1 .Gt at_ bt) (B : Addr) (apart : B ∉ fp) {s : Shared} {c : Nat} (st : St 0 s.heap)
    (eB : s.heap.get? B = some { cls := .type "list", dict := none, data := .seq #[] c, slots := #[] })
    (some_ : 0 < n → ∀ v h' tk, at_ (argBest bt (n - 1)) v → (∀ b o, b ∉ wr → b ≠ B → s.heap.get? b = some o → h'.get? b = some o) → R (.ok (.ret v)) { s with heap := h', toks := tk })
    (none_ : n = 0 → ∀ h' tk, (∀ b o, b ∉ wr → b ≠ B → s.heap.get? b = some o → h'.get? b = some o) → R (.ok (.ret .none)) { s with heap := h', toks := tk }) :
    codeAny (model P w) A (.builtin "max.loop" ⟨[.ref it, .none, .ref B], kwD⟩) R s := by
  have Bw : B ∉ wr := fun z => apart (W.sub _ z)
  refine codeAny_builtin F.entry_max_loop ?_
  rw [Around.under_plainId F.plain_max_loop _]
  show wpAny _ A.in1 (seqItems? (.ref B) >>= _) _ _ s
  refine wpAny_bind (wpAny_seqItems eB rfl ?_)
  show wpAny _ A.in1 (tryCatch (pyNext (.ref it)) _ >>= _) _ _ s
  by_cases c0 : n = 0
  · refine wpAny_bind (wpAny_tryCatch (W.done s _ _ (c0.symm ▸ st) fun h' tk keep => ?_))
    refine wpAny_bind (wpAny_rule ?_)
    exact wpAny_pure (none_ c0 h' tk fun b o b1 _ e => keep b o b1 e)
  · refine wpAny_bind (wpAny_tryCatch (W.item 0 s _ _ (by omega) st fun v h' tk pv st' keep => ?_))
    have eB' := keep B _ Bw eB
    show wpAny _ A.in1 (updateSeq B (fun _ => #[v, v]) >>= _) _ _ _
    refine wpAny_bind ?_
    refine wpAny_updateSeq eB' rfl ?_
    rw [word_loop]
    refine wpAny_pure ⟨plainId_quiet F.plain_max_loop _, turnD W bt cmp B apart _ 0 _ v _ rfl (by omega) (W.frame _ _ _ st' fun b bf o e => ?_) pv (Heap.get?_update_self _ eB' rfl) fun v' h2 tk2 pv' keep2 => ?_⟩
    · exact (Heap.get?_update_other _ _ (fun z : B = b => apart (by rw [z]; exact bf))).trans e
    · exact some_ (by omega) v' h2 tk2 pv' fun b o b1 b2 e => keep2 b o b1 b2 ((Heap.get?_update_other _ _ (Ne.symm b2)).trans (keep b o b1 e))
end
section
variable {P : Program} {w : World} {A : Around} {E : Value → Shared → Prop} {s : Shared} {l : Addr} {xs : Array (Int × Tok)}
theorem call_kwD {a : Value} {Q : Value → Shared → Prop}
    (hc : wpAny (model P w) A.in1 (Builtin.«max» ⟨[a], kwD⟩) (fun fin s' => match fin with
      | .done f => (match (Except.ok f : Result) with | .ok (.ret v) => Q v s' | .ok _ => False | .error e => E e s')
      | .again c' => c'.quiet = true ∧ codeAny (model P w) A c' (fun r s' => match r with | .ok (.ret v) => Q v s' | .ok _ => False | .error e => E e s') s') E s) :
    wpAny (model P w) A (call (.builtin "max") [a] kwD) Q E s := by
  refine wpAny_call (codeAny_call_builtin F.plain_max F.entry_max ?_)
  simp only [checkBuiltinCall, F.kind_max]
  have ok := okD a
  cases hsig : Manifest.signature? "max" with
  | none => exact wpAny_pure hc
  | some sig =>
    simp only [argsOk, hsig] at ok
    have h2 : Bind.checkArgs "max" sig ⟨[a], kwD⟩ = pure () := ok
    show wpAny _ A.in1 (Bind.checkArgs "max" sig ⟨[a], kwD⟩) _ _ s
    rw [h2]
    exact wpAny_pure hc
theorem max_kwD {Q : Value → Shared → Prop} (calm : A.handled = none) (hl : s.heap.IsList l (intItems xs))
    (some_ : 0 < xs.size → ∀ v h' tk, (intItems xs)[argBest (fun i j => decide (numAt xs i > numAt xs j)) (xs.size - 1)]? = some v → (∀ b o, s.heap.get? b = some o → h'.get? b = some o) → Q v { s with heap := h', toks := tk })
    (none_ : xs.size = 0 → ∀ h' tk, (∀ b o, s.heap.get? b = some o → h'.get? b = some o) → Q .none { s with heap := h', toks := tk }) :
    wpAny (model P w) A (call (.builtin "max") [.ref l] kwD) Q E s := by
  refine call_kwD ?_
  show wpAny _ A.in1 (Builtin.Builtins.bindParams "max" ["key", "default"] 0 ⟨[], kwD⟩ >>= _) _ _ s
  refine wpAny_bind (wpAny_of_eq (show Builtin.Builtins.bindParams "max" ["key", "default"] 0 ⟨[], kwD⟩ = pure [none, some .none] from by first | rfl | kernel_rfl) ?_)
  refine wpAny_bind (wpAny_pure ?_)
  refine wpAny_bind (iter_intList hl fun s₂ e st hfp hlI => ?_)
  subst e
  have W := Walks.list (prog := P) (w := w) (A := A.in1) calm _ l hlI (intItems xs)
  have size : (intItems xs).size = xs.size := by simp [intItems]
  refine wpAny_bind (wpAny_newObj_type ?_)
  have apart : ∀ z : Shared, (∀ b ∈ [s.heap.objs.size, l], b < z.heap.objs.size) → z.heap.objs.size ∉ [s.heap.objs.size, l] := fun z h m => Nat.lt_irrefl _ (h _ m)
  rw [word_loop]
  refine wpAny_pure ⟨plainId_quiet F.plain_max_loop _, firstD W _ (CmpOf.ints_gt (numAt xs) (fun _ _ => intItems_at)) _ (apart _ hfp) (W.frame _ _ _ st fun b _ o e => Heap.get?_push_of_some _ e) (Heap.get?_push_size _ rfl) (fun pos v h' tk pv keep => ?_) (fun none h' tk keep => ?_)⟩
  · refine some_ (by omega) v h' tk (by rw [← size]; exact pv) fun b o e => keep b o (fun m => ?_) (Nat.ne_of_lt ?_) (Heap.get?_push_of_some _ (Heap.get?_push_of_some _ e))
    · rw [List.mem_singleton.mp m] at e
      exact Nat.lt_irrefl _ (Heap.lt_size e)
    · exact Heap.lt_size (Heap.get?_push_of_some _ e)
  · refine none_ (by omega) h' tk fun b o e => keep b o (fun m => ?_) (Nat.ne_of_lt ?_) (Heap.get?_push_of_some _ (Heap.get?_push_of_some _ e))
    · rw [List.mem_singleton.mp m] at e
      exact Nat.lt_irrefl _ (Heap.lt_size e)
    · exact Heap.lt_size (Heap.get?_push_of_some _ e)
end
/-- max(xs, default=None) -/
def rMaxD (K : PySem.W.Frag) : List V → List V → Hp → VK → Prop := fun vs zs H Q => zs = [.non] ∧ ∃ (a : Addr) (ns : List Int), vs = [V.ref a] ∧ SqL K H a (ns.map V.int) ∧ (ns = [] → Q .non H) ∧ ∀ m, m ∈ ns → (∀ y, y ∈ ns → y ≤ m) → Q (.int m) H
theorem cr_maxD {X : Cx} (hc : X.calm = true) : CallRK X (.builtin "max") [Str.ofString "default"] (rMaxD X.K) := by
  intro pins s σ H vs zs us ws Q I r rz h
  obtain ⟨rfl, a, ns, rfl, hs, q0, q1⟩ := h
  obtain ⟨its, rv, hl, _⟩ := I.list hs
  rw [Vals.ref1 r]
  obtain ⟨w0, rfl⟩ : ∃ w0, ws = [w0] := by
    cases rz with
    | cons _ t =>
      cases t
      exact ⟨_, rfl⟩
  cases rz with
  | cons rz _ =>
    cases (show w0 = Value.none from rz)
    obtain ⟨xs, e⟩ := rv.ints.allInts.items
    have hn : numsOf (intItems xs).toList = ns := by rw [← e]; exact rv.ints.numsOf
    rw [nums_intItems] at hn
    subst hn
    have hl := hl.isList
    rw [e] at hl
    refine max_kwD (I.ok.hd hc) hl (fun pos v h' tk hv keep => ?_) (fun none h' tk keep => ?_)
    · obtain ⟨t, rfl⟩ := intItems_at hv
      obtain ⟨h1, h2⟩ := argBest_gt (numAt xs) (xs.size - 1)
      refine ⟨.int _, H, I.kept keep, ⟨_, rfl⟩, q1 _ ?_ fun y hy => ?_⟩
      · rw [numAt_eq]
        exact PySem.getD_mem (by rw [List.length_map, Array.length_toList]; omega)
      · obtain ⟨j, hj, rfl⟩ := mem_getD hy
        rw [List.length_map, Array.length_toList] at hj
        rw [← numAt_eq]
        exact h2 j (by omega)
    · refine ⟨.non, H, I.kept keep, rfl, q0 ?_⟩
      rw [List.map_eq_nil_iff]
      exact List.eq_nil_of_length_eq_zero (by rw [Array.length_toList]; exact none)
end GMd

namespace KX
open PySem L2
/-! ### the text by places -/
def top (i : Nat) : Stmt := PySem.Challenge.pw_exactbeats_k58_whole_lines_let_in.main.body.getD i (.Pass ⟨0, 0, 0, 0⟩)
abbrev s_is_integer : Stmt := top 6
abbrev N_is_integer : List Str := ["thing"]
abbrev P_is_integer : List Str := ["thing"]
theorem sc_is_integer : FnScope N_is_integer P_is_integer (defScope s_is_integer) := ⟨rfl, rfl, rfl, by decide +kernel, rfl, by decide +kernel, by decide +kernel⟩
abbrev s_is_integer_from : Stmt := top 7
abbrev N_is_integer_from : List Str := ["least", "greatest", "thing"]
abbrev P_is_integer_from : List Str := ["least", "greatest", "thing"]
theorem sc_is_integer_from : FnScope N_is_integer_from P_is_integer_from (defScope s_is_integer_from) := ⟨rfl, rfl, rfl, by decide +kernel, rfl, by decide +kernel, by decide +kernel⟩
abbrev s_is_number_below : Stmt := top 8
abbrev N_is_number_below : List Str := ["bound", "thing"]
abbrev P_is_number_below : List Str := ["bound", "thing"]
theorem sc_is_number_below : FnScope N_is_number_below P_is_number_below (defScope s_is_number_below) := ⟨rfl, rfl, rfl, by decide +kernel, rfl, by decide +kernel, by decide +kernel⟩
abbrev s_is_tuple_of : Stmt := top 9
abbrev N_is_tuple_of : List Str := ["many", "thing"]
abbrev P_is_tuple_of : List Str := ["many", "thing"]
theorem sc_is_tuple_of : FnScope N_is_tuple_of P_is_tuple_of (defScope s_is_tuple_of) := ⟨rfl, rfl, rfl, by decide +kernel, rfl, by decide +kernel, by decide +kernel⟩
abbrev s_is_bucket : Stmt := top 17
abbrev N_is_bucket : List Str := ["bottom", "thing", "burst", "top", "kind"]
abbrev P_is_bucket : List Str := ["bottom", "thing"]
theorem sc_is_bucket : FnScope N_is_bucket P_is_bucket (defScope s_is_bucket) := ⟨rfl, rfl, rfl, by decide +kernel, rfl, by decide +kernel, by decide +kernel⟩
abbrev s_Buckets___init__ : Stmt := inClass (top 18) 0
abbrev N_Buckets___init__ : List Str := ["self", "bottom", "rows", "line", "row"]
abbrev P_Buckets___init__ : List Str := ["self", "bottom", "rows"]
theorem sc_Buckets___init__ : FnScope N_Buckets___init__ P_Buckets___init__ (defScope s_Buckets___init__) := ⟨rfl, rfl, rfl, by decide +kernel, rfl, by decide +kernel, by decide +kernel⟩
abbrev s_Buckets___eq__ : Stmt := inClass (top 18) 1
abbrev N_Buckets___eq__ : List Str := ["self", "other"]
abbrev P_Buckets___eq__ : List Str := ["self", "other"]
theorem sc_Buckets___eq__ : FnScope N_Buckets___eq__ P_Buckets___eq__ (defScope s_Buckets___eq__) := ⟨rfl, rfl, rfl, by decide +kernel, rfl, by decide +kernel, by decide +kernel⟩
abbrev s_check_line : Stmt := top 19
abbrev N_check_line : List Str := ["buckets", "line"]
abbrev P_check_line : List Str := ["buckets", "line"]
theorem sc_check_line : FnScope N_check_line P_check_line (defScope s_check_line) := ⟨rfl, rfl, rfl, by decide +kernel, rfl, by decide +kernel, by decide +kernel⟩
abbrev s_check_number : Stmt := top 20
abbrev N_check_number : List Str := ["thing"]
abbrev P_check_number : List Str := ["thing"]
theorem sc_check_number : FnScope N_check_number P_check_number (defScope s_check_number) := ⟨rfl, rfl, rfl, by decide +kernel, rfl, by decide +kernel, by decide +kernel⟩
abbrev s_most_of : Stmt := top 21
abbrev N_most_of : List Str := ["bottom", "row", "beats", "burst", "top", "_"]
abbrev P_most_of : List Str := ["bottom", "row", "beats"]
theorem sc_most_of : FnScope N_most_of P_most_of (defScope s_most_of) := ⟨rfl, rfl, rfl, by decide +kernel, rfl, by decide +kernel, by decide +kernel⟩
abbrev s_most_together : Stmt := top 22
abbrev N_most_together : List Str := ["bottom", "rows", "beats", "row"]
abbrev P_most_together : List Str := ["bottom", "rows", "beats"]
theorem sc_most_together : FnScope N_most_together P_most_together (defScope s_most_together) := ⟨rfl, rfl, rfl, by decide +kernel, rfl, by decide +kernel, by decide +kernel⟩
abbrev s_rows_of : Stmt := top 23
abbrev N_rows_of : List Str := ["buckets", "kinds", "row"]
abbrev P_rows_of : List Str := ["buckets", "kinds"]
theorem sc_rows_of : FnScope N_rows_of P_rows_of (defScope s_rows_of) := ⟨rfl, rfl, rfl, by decide +kernel, rfl, by decide +kernel, by decide +kernel⟩
abbrev s_tops_of : Stmt := top 24
abbrev N_tops_of : List Str := ["rows", "_", "top"]
abbrev P_tops_of : List Str := ["rows"]
theorem sc_tops_of : FnScope N_tops_of P_tops_of (defScope s_tops_of) := ⟨rfl, rfl, rfl, by decide +kernel, rfl, by decide +kernel, by decide +kernel⟩
abbrev s_greatest_hold : Stmt := top 25
abbrev N_greatest_hold : List Str := ["buckets", "rows", "beats"]
abbrev P_greatest_hold : List Str := ["buckets"]
theorem sc_greatest_hold : FnScope N_greatest_hold P_greatest_hold (defScope s_greatest_hold) := ⟨rfl, rfl, rfl, by decide +kernel, rfl, by decide +kernel, by decide +kernel⟩
abbrev s_with_row : Stmt := top 26
abbrev N_with_row : List Str := ["buckets", "line", "row"]
abbrev P_with_row : List Str := ["buckets", "line", "row"]
theorem sc_with_row : FnScope N_with_row P_with_row (defScope s_with_row) := ⟨rfl, rfl, rfl, by decide +kernel, rfl, by decide +kernel, by decide +kernel⟩
abbrev s_holds_at_most : Stmt := top 27
abbrev N_holds_at_most : List Str := ["buckets", "most", "hold"]
abbrev P_holds_at_most : List Str := ["buckets", "most"]
theorem sc_holds_at_most : FnScope N_holds_at_most P_holds_at_most (defScope s_holds_at_most) := ⟨rfl, rfl, rfl, by decide +kernel, rfl, by decide +kernel, by decide +kernel⟩
abbrev s_let_in : Stmt := top 28
abbrev N_let_in : List Str := ["buckets", "line", "row", "most", "other"]
abbrev P_let_in : List Str := ["buckets", "line", "row", "most"]
theorem sc_let_in : FnScope N_let_in P_let_in (defScope s_let_in) := ⟨rfl, rfl, rfl, by decide +kernel, rfl, by decide +kernel, by decide +kernel⟩
abbrev s_greatest_in : Stmt := top 29
abbrev N_greatest_in : List Str := ["buckets", "line", "rows", "most", "right", "number", "row"]
abbrev P_greatest_in : List Str := ["buckets", "line", "rows", "most"]
theorem sc_greatest_in : FnScope N_greatest_in P_greatest_in (defScope s_greatest_in) := ⟨rfl, rfl, rfl, by decide +kernel, rfl, by decide +kernel, by decide +kernel⟩
abbrev s_greatest_burst : Stmt := top 30
abbrev N_greatest_burst : List Str := ["buckets", "line", "top", "kind", "most", "rows", "number", "burst"]
abbrev P_greatest_burst : List Str := ["buckets", "line", "top", "kind", "most"]
theorem sc_greatest_burst : FnScope N_greatest_burst P_greatest_burst (defScope s_greatest_burst) := ⟨rfl, rfl, rfl, by decide +kernel, rfl, by decide +kernel, by decide +kernel⟩
abbrev s_greatest_top : Stmt := top 31
abbrev N_greatest_top : List Str := ["buckets", "line", "burst", "kind", "most", "rows", "top"]
abbrev P_greatest_top : List Str := ["buckets", "line", "burst", "kind", "most"]
theorem sc_greatest_top : FnScope N_greatest_top P_greatest_top (defScope s_greatest_top) := ⟨rfl, rfl, rfl, by decide +kernel, rfl, by decide +kernel, by decide +kernel⟩
abbrev s_law_hand : Stmt := top 33
abbrev N_law_hand : List Str := ["_law_script", "_law_cells", "_law_cell"]
abbrev P_law_hand : List Str := ["_law_script"]
theorem sc_law_hand : FnScope N_law_hand P_law_hand (defScope s_law_hand) := ⟨rfl, rfl, rfl, by decide +kernel, rfl, by decide +kernel, by decide +kernel⟩
abbrev s_law_draw : Stmt := top 34
abbrev N_law_draw : List Str := ["_law_hand_here", "_law_many", "_law_cell", "_law_digit", "_law_number"]
abbrev P_law_draw : List Str := ["_law_hand_here", "_law_many"]
theorem sc_law_draw : FnScope N_law_draw P_law_draw (defScope s_law_draw) := ⟨rfl, rfl, rfl, by decide +kernel, rfl, by decide +kernel, by decide +kernel⟩
abbrev s_law_pick : Stmt := top 35
abbrev N_law_pick : List Str := ["_law_hand_here", "_law_things"]
abbrev P_law_pick : List Str := ["_law_hand_here", "_law_things"]
theorem sc_law_pick : FnScope N_law_pick P_law_pick (defScope s_law_pick) := ⟨rfl, rfl, rfl, by decide +kernel, rfl, by decide +kernel, by decide +kernel⟩
abbrev s_law_same : Stmt := top 36
abbrev N_law_same : List Str := ["_law_told", "_law_due", "_law_one", "_law_two"]
abbrev P_law_same : List Str := ["_law_told", "_law_due"]
theorem sc_law_same : FnScope N_law_same P_law_same (defScope s_law_same) := ⟨rfl, rfl, rfl, by decide +kernel, rfl, by decide +kernel, by decide +kernel⟩
abbrev s_law_rows : Stmt := top 37
abbrev N_law_rows : List Str := ["_law_hand_here", "_law_many", "_law_bottom", "_law_burst", "_law_share", "_law_found", "_law_left", "_law_line", "_law_top"]
abbrev P_law_rows : List Str := ["_law_hand_here", "_law_many", "_law_bottom", "_law_burst", "_law_share"]
theorem sc_law_rows : FnScope N_law_rows P_law_rows (defScope s_law_rows) := ⟨rfl, rfl, rfl, by decide +kernel, rfl, by decide +kernel, by decide +kernel⟩
abbrev s_law_sent : Stmt := top 38
abbrev N_law_sent : List Str := ["_law_row", "_law_bottom", "_law_beats"]
abbrev P_law_sent : List Str := ["_law_row", "_law_bottom", "_law_beats"]
theorem sc_law_sent : FnScope N_law_sent P_law_sent (defScope s_law_sent) := ⟨rfl, rfl, rfl, by decide +kernel, rfl, by decide +kernel, by decide +kernel⟩
abbrev s_law_reach : Stmt := top 39
abbrev N_law_reach : List Str := ["_law_rows_here", "_law_bottom", "_law_row"]
abbrev P_law_reach : List Str := ["_law_rows_here", "_law_bottom"]
theorem sc_law_reach : FnScope N_law_reach P_law_reach (defScope s_law_reach) := ⟨rfl, rfl, rfl, by decide +kernel, rfl, by decide +kernel, by decide +kernel⟩
abbrev s_law_hold : Stmt := top 40
abbrev N_law_hold : List Str := ["_law_rows_here", "_law_bottom", "_law_some", "_law_found", "_law_beats", "_law_row"]
abbrev P_law_hold : List Str := ["_law_rows_here", "_law_bottom"]
theorem sc_law_hold : FnScope N_law_hold P_law_hold (defScope s_law_hold) := ⟨rfl, rfl, rfl, by decide +kernel, rfl, by decide +kernel, by decide +kernel⟩
abbrev s_law_is_let : Stmt := top 41
abbrev N_law_is_let : List Str := ["_law_rows_here", "_law_bottom", "_law_line", "_law_row", "_law_most", "_law_due"]
abbrev P_law_is_let : List Str := ["_law_rows_here", "_law_bottom", "_law_line", "_law_row", "_law_most"]
theorem sc_law_is_let : FnScope N_law_is_let P_law_is_let (defScope s_law_is_let) := ⟨rfl, rfl, rfl, by decide +kernel, rfl, by decide +kernel, by decide +kernel⟩
abbrev s_law : Stmt := top 42
abbrev N_law : List Str := ["_law_script", "_law_hand_here", "_law_bottom", "_law_rows_here", "_law_buckets", "_law_turn", "_law_line", "_law_most", "_law_row", "_law_later", "_law_top", "_law_burst", "_law_some", "_law_due", "_law_one"]
abbrev P_law : List Str := ["_law_script"]
theorem sc_law : FnScope N_law P_law (defScope s_law) := ⟨rfl, rfl, rfl, by decide +kernel, rfl, by decide +kernel, by decide +kernel⟩
/-! ### what the top has left -/
structure Adr where
  a_is_integer : Addr
  d_is_integer : FuncData
  a_is_integer_from : Addr
  d_is_integer_from : FuncData
  a_is_number_below : Addr
  d_is_number_below : FuncData
  a_is_tuple_of : Addr
  d_is_tuple_of : FuncData
  a_is_bucket : Addr
  d_is_bucket : FuncData
  a_Buckets___init__ : Addr
  d_Buckets___init__ : FuncData
  a_Buckets___eq__ : Addr
  d_Buckets___eq__ : FuncData
  a_check_line : Addr
  d_check_line : FuncData
  a_check_number : Addr
  d_check_number : FuncData
  a_most_of : Addr
  d_most_of : FuncData
  a_most_together : Addr
  d_most_together : FuncData
  a_rows_of : Addr
  d_rows_of : FuncData
  a_tops_of : Addr
  d_tops_of : FuncData
  a_greatest_hold : Addr
  d_greatest_hold : FuncData
  a_with_row : Addr
  d_with_row : FuncData
  a_holds_at_most : Addr
  d_holds_at_most : FuncData
  a_let_in : Addr
  d_let_in : FuncData
  a_greatest_in : Addr
  d_greatest_in : FuncData
  a_greatest_burst : Addr
  d_greatest_burst : FuncData
  a_greatest_top : Addr
  d_greatest_top : FuncData
  a_law_hand : Addr
  d_law_hand : FuncData
  a_law_draw : Addr
  d_law_draw : FuncData
  a_law_pick : Addr
  d_law_pick : FuncData
  a_law_same : Addr
  d_law_same : FuncData
  a_law_rows : Addr
  d_law_rows : FuncData
  a_law_sent : Addr
  d_law_sent : FuncData
  a_law_reach : Addr
  d_law_reach : FuncData
  a_law_hold : Addr
  d_law_hold : FuncData
  a_law_is_let : Addr
  d_law_is_let : FuncData
  a_law : Addr
  d_law : FuncData
  c_Buckets : Addr
structure Top (K : PySem.W.Frag) (mg : Str → Option Value) (A : Adr) : Prop where
  F_is_integer : Fun K "is_integer" "is_integer" s_is_integer A.a_is_integer A.d_is_integer
  g_is_integer : mg "is_integer" = some (.ref A.a_is_integer)
  b_is_integer : Binds K A.d_is_integer P_is_integer []
  F_is_integer_from : Fun K "is_integer_from" "is_integer_from" s_is_integer_from A.a_is_integer_from A.d_is_integer_from
  g_is_integer_from : mg "is_integer_from" = some (.ref A.a_is_integer_from)
  b_is_integer_from : Binds K A.d_is_integer_from P_is_integer_from []
  F_is_number_below : Fun K "is_number_below" "is_number_below" s_is_number_below A.a_is_number_below A.d_is_number_below
  g_is_number_below : mg "is_number_below" = some (.ref A.a_is_number_below)
  b_is_number_below : Binds K A.d_is_number_below P_is_number_below []
  F_is_tuple_of : Fun K "is_tuple_of" "is_tuple_of" s_is_tuple_of A.a_is_tuple_of A.d_is_tuple_of
  g_is_tuple_of : mg "is_tuple_of" = some (.ref A.a_is_tuple_of)
  b_is_tuple_of : Binds K A.d_is_tuple_of P_is_tuple_of []
  F_is_bucket : Fun K "is_bucket" "is_bucket" s_is_bucket A.a_is_bucket A.d_is_bucket
  g_is_bucket : mg "is_bucket" = some (.ref A.a_is_bucket)
  b_is_bucket : Binds K A.d_is_bucket P_is_bucket []
  F_Buckets___init__ : Fun K "__init__" "Buckets.__init__" s_Buckets___init__ A.a_Buckets___init__ A.d_Buckets___init__
  b_Buckets___init__ : Binds K A.d_Buckets___init__ P_Buckets___init__ []
  F_Buckets___eq__ : Fun K "__eq__" "Buckets.__eq__" s_Buckets___eq__ A.a_Buckets___eq__ A.d_Buckets___eq__
  b_Buckets___eq__ : Binds K A.d_Buckets___eq__ P_Buckets___eq__ []
  F_check_line : Fun K "check_line" "check_line" s_check_line A.a_check_line A.d_check_line
  g_check_line : mg "check_line" = some (.ref A.a_check_line)
  b_check_line : Binds K A.d_check_line P_check_line []
  F_check_number : Fun K "check_number" "check_number" s_check_number A.a_check_number A.d_check_number
  g_check_number : mg "check_number" = some (.ref A.a_check_number)
  b_check_number : Binds K A.d_check_number P_check_number []
  F_most_of : Fun K "most_of" "most_of" s_most_of A.a_most_of A.d_most_of
  g_most_of : mg "most_of" = some (.ref A.a_most_of)
  b_most_of : Binds K A.d_most_of P_most_of []
  F_most_together : Fun K "most_together" "most_together" s_most_together A.a_most_together A.d_most_together
  g_most_together : mg "most_together" = some (.ref A.a_most_together)
  b_most_together : Binds K A.d_most_together P_most_together []
  F_rows_of : Fun K "rows_of" "rows_of" s_rows_of A.a_rows_of A.d_rows_of
  g_rows_of : mg "rows_of" = some (.ref A.a_rows_of)
  b_rows_of : Binds K A.d_rows_of P_rows_of []
  F_tops_of : Fun K "tops_of" "tops_of" s_tops_of A.a_tops_of A.d_tops_of
  g_tops_of : mg "tops_of" = some (.ref A.a_tops_of)
  b_tops_of : Binds K A.d_tops_of P_tops_of []
  F_greatest_hold : Fun K "greatest_hold" "greatest_hold" s_greatest_hold A.a_greatest_hold A.d_greatest_hold
  g_greatest_hold : mg "greatest_hold" = some (.ref A.a_greatest_hold)
  b_greatest_hold : Binds K A.d_greatest_hold P_greatest_hold []
  F_with_row : Fun K "with_row" "with_row" s_with_row A.a_with_row A.d_with_row
  g_with_row : mg "with_row" = some (.ref A.a_with_row)
  b_with_row : Binds K A.d_with_row P_with_row []
  F_holds_at_most : Fun K "holds_at_most" "holds_at_most" s_holds_at_most A.a_holds_at_most A.d_holds_at_most
  g_holds_at_most : mg "holds_at_most" = some (.ref A.a_holds_at_most)
  b_holds_at_most : Binds K A.d_holds_at_most P_holds_at_most []
  F_let_in : Fun K "let_in" "let_in" s_let_in A.a_let_in A.d_let_in
  g_let_in : mg "let_in" = some (.ref A.a_let_in)
  b_let_in : Binds K A.d_let_in P_let_in []
  F_greatest_in : Fun K "greatest_in" "greatest_in" s_greatest_in A.a_greatest_in A.d_greatest_in
  g_greatest_in : mg "greatest_in" = some (.ref A.a_greatest_in)
  b_greatest_in : Binds K A.d_greatest_in P_greatest_in []
  F_greatest_burst : Fun K "greatest_burst" "greatest_burst" s_greatest_burst A.a_greatest_burst A.d_greatest_burst
  g_greatest_burst : mg "greatest_burst" = some (.ref A.a_greatest_burst)
  b_greatest_burst : Binds K A.d_greatest_burst P_greatest_burst []
  F_greatest_top : Fun K "greatest_top" "greatest_top" s_greatest_top A.a_greatest_top A.d_greatest_top
  g_greatest_top : mg "greatest_top" = some (.ref A.a_greatest_top)
  b_greatest_top : Binds K A.d_greatest_top P_greatest_top []
  F_law_hand : Fun K "_law_hand" "_law_hand" s_law_hand A.a_law_hand A.d_law_hand
  g_law_hand : mg "_law_hand" = some (.ref A.a_law_hand)
  b_law_hand : Binds K A.d_law_hand P_law_hand []
  F_law_draw : Fun K "_law_draw" "_law_draw" s_law_draw A.a_law_draw A.d_law_draw
  g_law_draw : mg "_law_draw" = some (.ref A.a_law_draw)
  b_law_draw : Binds K A.d_law_draw P_law_draw []
  F_law_pick : Fun K "_law_pick" "_law_pick" s_law_pick A.a_law_pick A.d_law_pick
  g_law_pick : mg "_law_pick" = some (.ref A.a_law_pick)
  b_law_pick : Binds K A.d_law_pick P_law_pick []
  F_law_same : Fun K "_law_same" "_law_same" s_law_same A.a_law_same A.d_law_same
  g_law_same : mg "_law_same" = some (.ref A.a_law_same)
  b_law_same : Binds K A.d_law_same P_law_same []
  F_law_rows : Fun K "_law_rows" "_law_rows" s_law_rows A.a_law_rows A.d_law_rows
  g_law_rows : mg "_law_rows" = some (.ref A.a_law_rows)
  b_law_rows : Binds K A.d_law_rows P_law_rows []
  F_law_sent : Fun K "_law_sent" "_law_sent" s_law_sent A.a_law_sent A.d_law_sent
  g_law_sent : mg "_law_sent" = some (.ref A.a_law_sent)
  b_law_sent : Binds K A.d_law_sent P_law_sent []
  F_law_reach : Fun K "_law_reach" "_law_reach" s_law_reach A.a_law_reach A.d_law_reach
  g_law_reach : mg "_law_reach" = some (.ref A.a_law_reach)
  b_law_reach : Binds K A.d_law_reach P_law_reach []
  F_law_hold : Fun K "_law_hold" "_law_hold" s_law_hold A.a_law_hold A.d_law_hold
  g_law_hold : mg "_law_hold" = some (.ref A.a_law_hold)
  b_law_hold : Binds K A.d_law_hold P_law_hold []
  F_law_is_let : Fun K "_law_is_let" "_law_is_let" s_law_is_let A.a_law_is_let A.d_law_is_let
  g_law_is_let : mg "_law_is_let" = some (.ref A.a_law_is_let)
  b_law_is_let : Binds K A.d_law_is_let P_law_is_let []
  F_law : Fun K "law" "law" s_law A.a_law A.d_law
  g_law : mg "law" = some (.ref A.a_law)
  b_law : Binds K A.d_law P_law []
  cl_Buckets : Cls K A.c_Buckets
  gc_Buckets : mg "Buckets" = some (.ref A.c_Buckets)
  mk_Buckets : Mk K A.c_Buckets A.a_Buckets___init__
  m_Buckets___eq__ : Meth K A.c_Buckets "__eq__" A.a_Buckets___eq__
  n_Buckets_bottom : NoAttr K A.c_Buckets "bottom"
  n_Buckets_rows : NoAttr K A.c_Buckets "rows"
  eo_Buckets : GO.EqO K A.c_Buckets A.a_Buckets___eq__
  ki_Buckets_int : PySem.W.kitOne K (.ref A.c_Buckets) (.type "int") = some false
  ki_Buckets_bool : PySem.W.kitOne K (.ref A.c_Buckets) (.type "bool") = some false
  ki_Buckets_tuple : PySem.W.kitOne K (.ref A.c_Buckets) (.type "tuple") = some false
  tt_Buckets : PySem.W.typeIn K (.ref A.c_Buckets) = some (.type "type")
  ci_Buckets : PySem.W.findIn K (.ref A.c_Buckets) "__class__" = some (some (.builtin "object.__class__"))
  em_Buckets : PySem.W.mroIn K A.c_Buckets (.type "object") = some true
  en1 : PySem.W.specialIn K (.builtin "object.__class__") "__get__" = some (some (.builtin "getset_descriptor.__get__"))
  en2 : PySem.W.takesIn K (.builtin "object.__class__") = some true
  k_MOST_LINES : ∃ t, mg "MOST_LINES" = some (.int 12 t)
  k_KINDS : ∃ t, mg "KINDS" = some (.int 8 t)
  k_GREATEST_BOTTOM : ∃ t, mg "GREATEST_BOTTOM" = some (.int 20 t)
  k_GREATEST_BURST : ∃ t, mg "GREATEST_BURST" = some (.int 20 t)
  k_GREATEST_NUMBER : ∃ t, mg "GREATEST_NUMBER" = some (.int 1000000000 t)
  k_LONGEST : ∃ t, mg "LONGEST" = some (.int 420 t)
  z_abs : mg "abs" = none
  z_all : mg "all" = none
  z_bool : mg "bool" = none
  z_enumerate : mg "enumerate" = none
  z_int : mg "int" = none
  z_isinstance : mg "isinstance" = none
  z_len : mg "len" = none
  z_list : mg "list" = none
  z_max : mg "max" = none
  z_min : mg "min" = none
  z_range : mg "range" = none
  z_sum : mg "sum" = none
  z_tuple : mg "tuple" = none
  z_zip : mg "zip" = none
theorem top_mk {l : PySem.W.OpenLaw} {w : World} {K : PySem.W.Frag} {h : Heap} {mg : Str → Option Value} (X : K.In h) (G : h.Ns mainGlobals mg)
    {f_is_integer : Addr} {od_is_integer an_is_integer : Option Addr} {sl_is_integer : Array (Option Value)} {oc_is_integer kV_is_integer dc_is_integer pm_is_integer cd_is_integer ct_is_integer : Value}
    {f_is_integer_from : Addr} {od_is_integer_from an_is_integer_from : Option Addr} {sl_is_integer_from : Array (Option Value)} {oc_is_integer_from kV_is_integer_from dc_is_integer_from pm_is_integer_from cd_is_integer_from ct_is_integer_from : Value}
    {f_is_number_below : Addr} {od_is_number_below an_is_number_below : Option Addr} {sl_is_number_below : Array (Option Value)} {oc_is_number_below kV_is_number_below dc_is_number_below pm_is_number_below cd_is_number_below ct_is_number_below : Value}
    {f_is_tuple_of : Addr} {od_is_tuple_of an_is_tuple_of : Option Addr} {sl_is_tuple_of : Array (Option Value)} {oc_is_tuple_of kV_is_tuple_of dc_is_tuple_of pm_is_tuple_of cd_is_tuple_of ct_is_tuple_of : Value}
    {f_is_bucket : Addr} {od_is_bucket an_is_bucket : Option Addr} {sl_is_bucket : Array (Option Value)} {oc_is_bucket kV_is_bucket dc_is_bucket pm_is_bucket cd_is_bucket ct_is_bucket : Value}
    {f_Buckets___init__ : Addr} {od_Buckets___init__ an_Buckets___init__ : Option Addr} {sl_Buckets___init__ : Array (Option Value)} {oc_Buckets___init__ kV_Buckets___init__ dc_Buckets___init__ pm_Buckets___init__ cd_Buckets___init__ ct_Buckets___init__ : Value}
    {f_Buckets___eq__ : Addr} {od_Buckets___eq__ an_Buckets___eq__ : Option Addr} {sl_Buckets___eq__ : Array (Option Value)} {oc_Buckets___eq__ kV_Buckets___eq__ dc_Buckets___eq__ pm_Buckets___eq__ cd_Buckets___eq__ ct_Buckets___eq__ : Value}
    {f_check_line : Addr} {od_check_line an_check_line : Option Addr} {sl_check_line : Array (Option Value)} {oc_check_line kV_check_line dc_check_line pm_check_line cd_check_line ct_check_line : Value}
    {f_check_number : Addr} {od_check_number an_check_number : Option Addr} {sl_check_number : Array (Option Value)} {oc_check_number kV_check_number dc_check_number pm_check_number cd_check_number ct_check_number : Value}
    {f_most_of : Addr} {od_most_of an_most_of : Option Addr} {sl_most_of : Array (Option Value)} {oc_most_of kV_most_of dc_most_of pm_most_of cd_most_of ct_most_of : Value}
    {f_most_together : Addr} {od_most_together an_most_together : Option Addr} {sl_most_together : Array (Option Value)} {oc_most_together kV_most_together dc_most_together pm_most_together cd_most_together ct_most_together : Value}
    {f_rows_of : Addr} {od_rows_of an_rows_of : Option Addr} {sl_rows_of : Array (Option Value)} {oc_rows_of kV_rows_of dc_rows_of pm_rows_of cd_rows_of ct_rows_of : Value}
    {f_tops_of : Addr} {od_tops_of an_tops_of : Option Addr} {sl_tops_of : Array (Option Value)} {oc_tops_of kV_tops_of dc_tops_of pm_tops_of cd_tops_of ct_tops_of : Value}
    {f_greatest_hold : Addr} {od_greatest_hold an_greatest_hold : Option Addr} {sl_greatest_hold : Array (Option Value)} {oc_greatest_hold kV_greatest_hold dc_greatest_hold pm_greatest_hold cd_greatest_hold ct_greatest_hold : Value}
    {f_with_row : Addr} {od_with_row an_with_row : Option Addr} {sl_with_row : Array (Option Value)} {oc_with_row kV_with_row dc_with_row pm_with_row cd_with_row ct_with_row : Value}
    {f_holds_at_most : Addr} {od_holds_at_most an_holds_at_most : Option Addr} {sl_holds_at_most : Array (Option Value)} {oc_holds_at_most kV_holds_at_most dc_holds_at_most pm_holds_at_most cd_holds_at_most ct_holds_at_most : Value}
    {f_let_in : Addr} {od_let_in an_let_in : Option Addr} {sl_let_in : Array (Option Value)} {oc_let_in kV_let_in dc_let_in pm_let_in cd_let_in ct_let_in : Value}
    {f_greatest_in : Addr} {od_greatest_in an_greatest_in : Option Addr} {sl_greatest_in : Array (Option Value)} {oc_greatest_in kV_greatest_in dc_greatest_in pm_greatest_in cd_greatest_in ct_greatest_in : Value}
    {f_greatest_burst : Addr} {od_greatest_burst an_greatest_burst : Option Addr} {sl_greatest_burst : Array (Option Value)} {oc_greatest_burst kV_greatest_burst dc_greatest_burst pm_greatest_burst cd_greatest_burst ct_greatest_burst : Value}
    {f_greatest_top : Addr} {od_greatest_top an_greatest_top : Option Addr} {sl_greatest_top : Array (Option Value)} {oc_greatest_top kV_greatest_top dc_greatest_top pm_greatest_top cd_greatest_top ct_greatest_top : Value}
    {f_law_hand : Addr} {od_law_hand an_law_hand : Option Addr} {sl_law_hand : Array (Option Value)} {oc_law_hand kV_law_hand dc_law_hand pm_law_hand cd_law_hand ct_law_hand : Value}
    {f_law_draw : Addr} {od_law_draw an_law_draw : Option Addr} {sl_law_draw : Array (Option Value)} {oc_law_draw kV_law_draw dc_law_draw pm_law_draw cd_law_draw ct_law_draw : Value}
    {f_law_pick : Addr} {od_law_pick an_law_pick : Option Addr} {sl_law_pick : Array (Option Value)} {oc_law_pick kV_law_pick dc_law_pick pm_law_pick cd_law_pick ct_law_pick : Value}
    {f_law_same : Addr} {od_law_same an_law_same : Option Addr} {sl_law_same : Array (Option Value)} {oc_law_same kV_law_same dc_law_same pm_law_same cd_law_same ct_law_same : Value}
    {f_law_rows : Addr} {od_law_rows an_law_rows : Option Addr} {sl_law_rows : Array (Option Value)} {oc_law_rows kV_law_rows dc_law_rows pm_law_rows cd_law_rows ct_law_rows : Value}
    {f_law_sent : Addr} {od_law_sent an_law_sent : Option Addr} {sl_law_sent : Array (Option Value)} {oc_law_sent kV_law_sent dc_law_sent pm_law_sent cd_law_sent ct_law_sent : Value}
    {f_law_reach : Addr} {od_law_reach an_law_reach : Option Addr} {sl_law_reach : Array (Option Value)} {oc_law_reach kV_law_reach dc_law_reach pm_law_reach cd_law_reach ct_law_reach : Value}
    {f_law_hold : Addr} {od_law_hold an_law_hold : Option Addr} {sl_law_hold : Array (Option Value)} {oc_law_hold kV_law_hold dc_law_hold pm_law_hold cd_law_hold ct_law_hold : Value}
    {f_law_is_let : Addr} {od_law_is_let an_law_is_let : Option Addr} {sl_law_is_let : Array (Option Value)} {oc_law_is_let kV_law_is_let dc_law_is_let pm_law_is_let cd_law_is_let ct_law_is_let : Value}
    {f_law : Addr} {od_law an_law : Option Addr} {sl_law : Array (Option Value)} {oc_law kV_law dc_law pm_law cd_law ct_law : Value}
    {c_Buckets : Addr}
    {t_MOST_LINES : Tok}
    {t_KINDS : Tok}
    {t_GREATEST_BOTTOM : Tok}
    {t_GREATEST_BURST : Tok}
    {t_GREATEST_NUMBER : Tok}
    {t_LONGEST : Tok}
    (ac_Buckets : PySem.W.nsIn K mainGlobals "Buckets" = some (some (.ref c_Buckets)))
    (a_is_integer : PySem.W.nsIn K mainGlobals "is_integer" = some (some (.ref f_is_integer)))
    (l_is_integer : K.lookup f_is_integer = some ⟨oc_is_integer, od_is_integer, .func (PySem.W.fnOf "is_integer" "is_integer" (defArgs s_is_integer) (defBody s_is_integer) (defScope s_is_integer) .none kV_is_integer dc_is_integer pm_is_integer an_is_integer cd_is_integer ct_is_integer), sl_is_integer⟩)
    (q_is_integer : PySem.W.codeIn K cd_is_integer "is_integer" = true)
    (p_is_integer : PySem.W.keepIn K (.ref f_is_integer) = true)
    (a_is_integer_from : PySem.W.nsIn K mainGlobals "is_integer_from" = some (some (.ref f_is_integer_from)))
    (l_is_integer_from : K.lookup f_is_integer_from = some ⟨oc_is_integer_from, od_is_integer_from, .func (PySem.W.fnOf "is_integer_from" "is_integer_from" (defArgs s_is_integer_from) (defBody s_is_integer_from) (defScope s_is_integer_from) .none kV_is_integer_from dc_is_integer_from pm_is_integer_from an_is_integer_from cd_is_integer_from ct_is_integer_from), sl_is_integer_from⟩)
    (q_is_integer_from : PySem.W.codeIn K cd_is_integer_from "is_integer_from" = true)
    (p_is_integer_from : PySem.W.keepIn K (.ref f_is_integer_from) = true)
    (a_is_number_below : PySem.W.nsIn K mainGlobals "is_number_below" = some (some (.ref f_is_number_below)))
    (l_is_number_below : K.lookup f_is_number_below = some ⟨oc_is_number_below, od_is_number_below, .func (PySem.W.fnOf "is_number_below" "is_number_below" (defArgs s_is_number_below) (defBody s_is_number_below) (defScope s_is_number_below) .none kV_is_number_below dc_is_number_below pm_is_number_below an_is_number_below cd_is_number_below ct_is_number_below), sl_is_number_below⟩)
    (q_is_number_below : PySem.W.codeIn K cd_is_number_below "is_number_below" = true)
    (p_is_number_below : PySem.W.keepIn K (.ref f_is_number_below) = true)
    (a_is_tuple_of : PySem.W.nsIn K mainGlobals "is_tuple_of" = some (some (.ref f_is_tuple_of)))
    (l_is_tuple_of : K.lookup f_is_tuple_of = some ⟨oc_is_tuple_of, od_is_tuple_of, .func (PySem.W.fnOf "is_tuple_of" "is_tuple_of" (defArgs s_is_tuple_of) (defBody s_is_tuple_of) (defScope s_is_tuple_of) .none kV_is_tuple_of dc_is_tuple_of pm_is_tuple_of an_is_tuple_of cd_is_tuple_of ct_is_tuple_of), sl_is_tuple_of⟩)
    (q_is_tuple_of : PySem.W.codeIn K cd_is_tuple_of "is_tuple_of" = true)
    (p_is_tuple_of : PySem.W.keepIn K (.ref f_is_tuple_of) = true)
    (a_is_bucket : PySem.W.nsIn K mainGlobals "is_bucket" = some (some (.ref f_is_bucket)))
    (l_is_bucket : K.lookup f_is_bucket = some ⟨oc_is_bucket, od_is_bucket, .func (PySem.W.fnOf "is_bucket" "is_bucket" (defArgs s_is_bucket) (defBody s_is_bucket) (defScope s_is_bucket) .none kV_is_bucket dc_is_bucket pm_is_bucket an_is_bucket cd_is_bucket ct_is_bucket), sl_is_bucket⟩)
    (q_is_bucket : PySem.W.codeIn K cd_is_bucket "is_bucket" = true)
    (p_is_bucket : PySem.W.keepIn K (.ref f_is_bucket) = true)
    (a_Buckets___init__ : PySem.W.findIn K (.ref c_Buckets) "__init__" = some (some (.ref f_Buckets___init__)))
    (i_Buckets___init__ : PySem.W.isFn K (.ref f_Buckets___init__) = true)
    (l_Buckets___init__ : K.lookup f_Buckets___init__ = some ⟨oc_Buckets___init__, od_Buckets___init__, .func (PySem.W.fnOf "__init__" "Buckets.__init__" (defArgs s_Buckets___init__) (defBody s_Buckets___init__) (defScope s_Buckets___init__) .none kV_Buckets___init__ dc_Buckets___init__ pm_Buckets___init__ an_Buckets___init__ cd_Buckets___init__ ct_Buckets___init__), sl_Buckets___init__⟩)
    (q_Buckets___init__ : PySem.W.codeIn K cd_Buckets___init__ "Buckets.__init__" = true)
    (p_Buckets___init__ : PySem.W.keepIn K (.ref f_Buckets___init__) = true)
    (a_Buckets___eq__ : PySem.W.findIn K (.ref c_Buckets) "__eq__" = some (some (.ref f_Buckets___eq__)))
    (i_Buckets___eq__ : PySem.W.isFn K (.ref f_Buckets___eq__) = true)
    (l_Buckets___eq__ : K.lookup f_Buckets___eq__ = some ⟨oc_Buckets___eq__, od_Buckets___eq__, .func (PySem.W.fnOf "__eq__" "Buckets.__eq__" (defArgs s_Buckets___eq__) (defBody s_Buckets___eq__) (defScope s_Buckets___eq__) .none kV_Buckets___eq__ dc_Buckets___eq__ pm_Buckets___eq__ an_Buckets___eq__ cd_Buckets___eq__ ct_Buckets___eq__), sl_Buckets___eq__⟩)
    (q_Buckets___eq__ : PySem.W.codeIn K cd_Buckets___eq__ "Buckets.__eq__" = true)
    (p_Buckets___eq__ : PySem.W.keepIn K (.ref f_Buckets___eq__) = true)
    (a_check_line : PySem.W.nsIn K mainGlobals "check_line" = some (some (.ref f_check_line)))
    (l_check_line : K.lookup f_check_line = some ⟨oc_check_line, od_check_line, .func (PySem.W.fnOf "check_line" "check_line" (defArgs s_check_line) (defBody s_check_line) (defScope s_check_line) .none kV_check_line dc_check_line pm_check_line an_check_line cd_check_line ct_check_line), sl_check_line⟩)
    (q_check_line : PySem.W.codeIn K cd_check_line "check_line" = true)
    (p_check_line : PySem.W.keepIn K (.ref f_check_line) = true)
    (a_check_number : PySem.W.nsIn K mainGlobals "check_number" = some (some (.ref f_check_number)))
    (l_check_number : K.lookup f_check_number = some ⟨oc_check_number, od_check_number, .func (PySem.W.fnOf "check_number" "check_number" (defArgs s_check_number) (defBody s_check_number) (defScope s_check_number) .none kV_check_number dc_check_number pm_check_number an_check_number cd_check_number ct_check_number), sl_check_number⟩)
    (q_check_number : PySem.W.codeIn K cd_check_number "check_number" = true)
    (p_check_number : PySem.W.keepIn K (.ref f_check_number) = true)
    (a_most_of : PySem.W.nsIn K mainGlobals "most_of" = some (some (.ref f_most_of)))
    (l_most_of : K.lookup f_most_of = some ⟨oc_most_of, od_most_of, .func (PySem.W.fnOf "most_of" "most_of" (defArgs s_most_of) (defBody s_most_of) (defScope s_most_of) .none kV_most_of dc_most_of pm_most_of an_most_of cd_most_of ct_most_of), sl_most_of⟩)
    (q_most_of : PySem.W.codeIn K cd_most_of "most_of" = true)
    (p_most_of : PySem.W.keepIn K (.ref f_most_of) = true)
    (a_most_together : PySem.W.nsIn K mainGlobals "most_together" = some (some (.ref f_most_together)))
    (l_most_together : K.lookup f_most_together = some ⟨oc_most_together, od_most_together, .func (PySem.W.fnOf "most_together" "most_together" (defArgs s_most_together) (defBody s_most_together) (defScope s_most_together) .none kV_most_together dc_most_together pm_most_together an_most_together cd_most_together ct_most_together), sl_most_together⟩)
    (q_most_together : PySem.W.codeIn K cd_most_together "most_together" = true)
    (p_most_together : PySem.W.keepIn K (.ref f_most_together) = true)
    (a_rows_of : PySem.W.nsIn K mainGlobals "rows_of" = some (some (.ref f_rows_of)))
    (l_rows_of : K.lookup f_rows_of = some ⟨oc_rows_of, od_rows_of, .func (PySem.W.fnOf "rows_of" "rows_of" (defArgs s_rows_of) (defBody s_rows_of) (defScope s_rows_of) .none kV_rows_of dc_rows_of pm_rows_of an_rows_of cd_rows_of ct_rows_of), sl_rows_of⟩)
    (q_rows_of : PySem.W.codeIn K cd_rows_of "rows_of" = true)
    (p_rows_of : PySem.W.keepIn K (.ref f_rows_of) = true)
    (a_tops_of : PySem.W.nsIn K mainGlobals "tops_of" = some (some (.ref f_tops_of)))
    (l_tops_of : K.lookup f_tops_of = some ⟨oc_tops_of, od_tops_of, .func (PySem.W.fnOf "tops_of" "tops_of" (defArgs s_tops_of) (defBody s_tops_of) (defScope s_tops_of) .none kV_tops_of dc_tops_of pm_tops_of an_tops_of cd_tops_of ct_tops_of), sl_tops_of⟩)
    (q_tops_of : PySem.W.codeIn K cd_tops_of "tops_of" = true)
    (p_tops_of : PySem.W.keepIn K (.ref f_tops_of) = true)
    (a_greatest_hold : PySem.W.nsIn K mainGlobals "greatest_hold" = some (some (.ref f_greatest_hold)))
    (l_greatest_hold : K.lookup f_greatest_hold = some ⟨oc_greatest_hold, od_greatest_hold, .func (PySem.W.fnOf "greatest_hold" "greatest_hold" (defArgs s_greatest_hold) (defBody s_greatest_hold) (defScope s_greatest_hold) .none kV_greatest_hold dc_greatest_hold pm_greatest_hold an_greatest_hold cd_greatest_hold ct_greatest_hold), sl_greatest_hold⟩)
    (q_greatest_hold : PySem.W.codeIn K cd_greatest_hold "greatest_hold" = true)
    (p_greatest_hold : PySem.W.keepIn K (.ref f_greatest_hold) = true)
    (a_with_row : PySem.W.nsIn K mainGlobals "with_row" = some (some (.ref f_with_row)))
    (l_with_row : K.lookup f_with_row = some ⟨oc_with_row, od_with_row, .func (PySem.W.fnOf "with_row" "with_row" (defArgs s_with_row) (defBody s_with_row) (defScope s_with_row) .none kV_with_row dc_with_row pm_with_row an_with_row cd_with_row ct_with_row), sl_with_row⟩)
    (q_with_row : PySem.W.codeIn K cd_with_row "with_row" = true)
    (p_with_row : PySem.W.keepIn K (.ref f_with_row) = true)
    (a_holds_at_most : PySem.W.nsIn K mainGlobals "holds_at_most" = some (some (.ref f_holds_at_most)))
    (l_holds_at_most : K.lookup f_holds_at_most = some ⟨oc_holds_at_most, od_holds_at_most, .func (PySem.W.fnOf "holds_at_most" "holds_at_most" (defArgs s_holds_at_most) (defBody s_holds_at_most) (defScope s_holds_at_most) .none kV_holds_at_most dc_holds_at_most pm_holds_at_most an_holds_at_most cd_holds_at_most ct_holds_at_most), sl_holds_at_most⟩)
    (q_holds_at_most : PySem.W.codeIn K cd_holds_at_most "holds_at_most" = true)
    (p_holds_at_most : PySem.W.keepIn K (.ref f_holds_at_most) = true)
    (a_let_in : PySem.W.nsIn K mainGlobals "let_in" = some (some (.ref f_let_in)))
    (l_let_in : K.lookup f_let_in = some ⟨oc_let_in, od_let_in, .func (PySem.W.fnOf "let_in" "let_in" (defArgs s_let_in) (defBody s_let_in) (defScope s_let_in) .none kV_let_in dc_let_in pm_let_in an_let_in cd_let_in ct_let_in), sl_let_in⟩)
    (q_let_in : PySem.W.codeIn K cd_let_in "let_in" = true)
    (p_let_in : PySem.W.keepIn K (.ref f_let_in) = true)
    (a_greatest_in : PySem.W.nsIn K mainGlobals "greatest_in" = some (some (.ref f_greatest_in)))
    (l_greatest_in : K.lookup f_greatest_in = some ⟨oc_greatest_in, od_greatest_in, .func (PySem.W.fnOf "greatest_in" "greatest_in" (defArgs s_greatest_in) (defBody s_greatest_in) (defScope s_greatest_in) .none kV_greatest_in dc_greatest_in pm_greatest_in an_greatest_in cd_greatest_in ct_greatest_in), sl_greatest_in⟩)
    (q_greatest_in : PySem.W.codeIn K cd_greatest_in "greatest_in" = true)
    (p_greatest_in : PySem.W.keepIn K (.ref f_greatest_in) = true)
    (a_greatest_burst : PySem.W.nsIn K mainGlobals "greatest_burst" = some (some (.ref f_greatest_burst)))
    (l_greatest_burst : K.lookup f_greatest_burst = some ⟨oc_greatest_burst, od_greatest_burst, .func (PySem.W.fnOf "greatest_burst" "greatest_burst" (defArgs s_greatest_burst) (defBody s_greatest_burst) (defScope s_greatest_burst) .none kV_greatest_burst dc_greatest_burst pm_greatest_burst an_greatest_burst cd_greatest_burst ct_greatest_burst), sl_greatest_burst⟩)
    (q_greatest_burst : PySem.W.codeIn K cd_greatest_burst "greatest_burst" = true)
    (p_greatest_burst : PySem.W.keepIn K (.ref f_greatest_burst) = true)
    (a_greatest_top : PySem.W.nsIn K mainGlobals "greatest_top" = some (some (.ref f_greatest_top)))
    (l_greatest_top : K.lookup f_greatest_top = some ⟨oc_greatest_top, od_greatest_top, .func (PySem.W.fnOf "greatest_top" "greatest_top" (defArgs s_greatest_top) (defBody s_greatest_top) (defScope s_greatest_top) .none kV_greatest_top dc_greatest_top pm_greatest_top an_greatest_top cd_greatest_top ct_greatest_top), sl_greatest_top⟩)
    (q_greatest_top : PySem.W.codeIn K cd_greatest_top "greatest_top" = true)
    (p_greatest_top : PySem.W.keepIn K (.ref f_greatest_top) = true)
    (a_law_hand : PySem.W.nsIn K mainGlobals "_law_hand" = some (some (.ref f_law_hand)))
    (l_law_hand : K.lookup f_law_hand = some ⟨oc_law_hand, od_law_hand, .func (PySem.W.fnOf "_law_hand" "_law_hand" (defArgs s_law_hand) (defBody s_law_hand) (defScope s_law_hand) .none kV_law_hand dc_law_hand pm_law_hand an_law_hand cd_law_hand ct_law_hand), sl_law_hand⟩)
    (q_law_hand : PySem.W.codeIn K cd_law_hand "_law_hand" = true)
    (p_law_hand : PySem.W.keepIn K (.ref f_law_hand) = true)
    (a_law_draw : PySem.W.nsIn K mainGlobals "_law_draw" = some (some (.ref f_law_draw)))
    (l_law_draw : K.lookup f_law_draw = some ⟨oc_law_draw, od_law_draw, .func (PySem.W.fnOf "_law_draw" "_law_draw" (defArgs s_law_draw) (defBody s_law_draw) (defScope s_law_draw) .none kV_law_draw dc_law_draw pm_law_draw an_law_draw cd_law_draw ct_law_draw), sl_law_draw⟩)
    (q_law_draw : PySem.W.codeIn K cd_law_draw "_law_draw" = true)
    (p_law_draw : PySem.W.keepIn K (.ref f_law_draw) = true)
    (a_law_pick : PySem.W.nsIn K mainGlobals "_law_pick" = some (some (.ref f_law_pick)))
    (l_law_pick : K.lookup f_law_pick = some ⟨oc_law_pick, od_law_pick, .func (PySem.W.fnOf "_law_pick" "_law_pick" (defArgs s_law_pick) (defBody s_law_pick) (defScope s_law_pick) .none kV_law_pick dc_law_pick pm_law_pick an_law_pick cd_law_pick ct_law_pick), sl_law_pick⟩)
    (q_law_pick : PySem.W.codeIn K cd_law_pick "_law_pick" = true)
    (p_law_pick : PySem.W.keepIn K (.ref f_law_pick) = true)
    (a_law_same : PySem.W.nsIn K mainGlobals "_law_same" = some (some (.ref f_law_same)))
    (l_law_same : K.lookup f_law_same = some ⟨oc_law_same, od_law_same, .func (PySem.W.fnOf "_law_same" "_law_same" (defArgs s_law_same) (defBody s_law_same) (defScope s_law_same) .none kV_law_same dc_law_same pm_law_same an_law_same cd_law_same ct_law_same), sl_law_same⟩)
    (q_law_same : PySem.W.codeIn K cd_law_same "_law_same" = true)
    (p_law_same : PySem.W.keepIn K (.ref f_law_same) = true)
    (a_law_rows : PySem.W.nsIn K mainGlobals "_law_rows" = some (some (.ref f_law_rows)))
    (l_law_rows : K.lookup f_law_rows = some ⟨oc_law_rows, od_law_rows, .func (PySem.W.fnOf "_law_rows" "_law_rows" (defArgs s_law_rows) (defBody s_law_rows) (defScope s_law_rows) .none kV_law_rows dc_law_rows pm_law_rows an_law_rows cd_law_rows ct_law_rows), sl_law_rows⟩)
    (q_law_rows : PySem.W.codeIn K cd_law_rows "_law_rows" = true)
    (p_law_rows : PySem.W.keepIn K (.ref f_law_rows) = true)
    (a_law_sent : PySem.W.nsIn K mainGlobals "_law_sent" = some (some (.ref f_law_sent)))
    (l_law_sent : K.lookup f_law_sent = some ⟨oc_law_sent, od_law_sent, .func (PySem.W.fnOf "_law_sent" "_law_sent" (defArgs s_law_sent) (defBody s_law_sent) (defScope s_law_sent) .none kV_law_sent dc_law_sent pm_law_sent an_law_sent cd_law_sent ct_law_sent), sl_law_sent⟩)
    (q_law_sent : PySem.W.codeIn K cd_law_sent "_law_sent" = true)
    (p_law_sent : PySem.W.keepIn K (.ref f_law_sent) = true)
    (a_law_reach : PySem.W.nsIn K mainGlobals "_law_reach" = some (some (.ref f_law_reach)))
    (l_law_reach : K.lookup f_law_reach = some ⟨oc_law_reach, od_law_reach, .func (PySem.W.fnOf "_law_reach" "_law_reach" (defArgs s_law_reach) (defBody s_law_reach) (defScope s_law_reach) .none kV_law_reach dc_law_reach pm_law_reach an_law_reach cd_law_reach ct_law_reach), sl_law_reach⟩)
    (q_law_reach : PySem.W.codeIn K cd_law_reach "_law_reach" = true)
    (p_law_reach : PySem.W.keepIn K (.ref f_law_reach) = true)
    (a_law_hold : PySem.W.nsIn K mainGlobals "_law_hold" = some (some (.ref f_law_hold)))
    (l_law_hold : K.lookup f_law_hold = some ⟨oc_law_hold, od_law_hold, .func (PySem.W.fnOf "_law_hold" "_law_hold" (defArgs s_law_hold) (defBody s_law_hold) (defScope s_law_hold) .none kV_law_hold dc_law_hold pm_law_hold an_law_hold cd_law_hold ct_law_hold), sl_law_hold⟩)
    (q_law_hold : PySem.W.codeIn K cd_law_hold "_law_hold" = true)
    (p_law_hold : PySem.W.keepIn K (.ref f_law_hold) = true)
    (a_law_is_let : PySem.W.nsIn K mainGlobals "_law_is_let" = some (some (.ref f_law_is_let)))
    (l_law_is_let : K.lookup f_law_is_let = some ⟨oc_law_is_let, od_law_is_let, .func (PySem.W.fnOf "_law_is_let" "_law_is_let" (defArgs s_law_is_let) (defBody s_law_is_let) (defScope s_law_is_let) .none kV_law_is_let dc_law_is_let pm_law_is_let an_law_is_let cd_law_is_let ct_law_is_let), sl_law_is_let⟩)
    (q_law_is_let : PySem.W.codeIn K cd_law_is_let "_law_is_let" = true)
    (p_law_is_let : PySem.W.keepIn K (.ref f_law_is_let) = true)
    (a_law : PySem.W.nsIn K mainGlobals "law" = some (some (.ref f_law)))
    (l_law : K.lookup f_law = some ⟨oc_law, od_law, .func (PySem.W.fnOf "law" "law" (defArgs s_law) (defBody s_law) (defScope s_law) .none kV_law dc_law pm_law an_law cd_law ct_law), sl_law⟩)
    (q_law : PySem.W.codeIn K cd_law "law" = true)
    (p_law : PySem.W.keepIn K (.ref f_law) = true)
    (pg_Buckets : PySem.W.plainGet K c_Buckets Str.empty = true)
    (hd_Buckets : PySem.W.hasDictIn K c_Buckets = true)
    (po_Buckets : PySem.W.plainOver K c_Buckets = true)
    (sa_Buckets : PySem.W.findIn K (.ref c_Buckets) "__setattr__" = some (some (.builtin "object.__setattr__")))
    (mk_Buckets : PySem.W.makesIn K c_Buckets = true)
    (kc_Buckets : PySem.W.keepIn K (.ref c_Buckets) = true)
    (n_Buckets_bottom : PySem.W.findIn K (.ref c_Buckets) "bottom" = some none)
    (n_Buckets_rows : PySem.W.findIn K (.ref c_Buckets) "rows" = some none)
    (ne_Buckets : PySem.W.findIn K (.ref c_Buckets) "__ne__" = some (some (.builtin "object.__ne__")))
    (tt_Buckets : PySem.W.typeIn K (.ref c_Buckets) = some (.type "type"))
    (ci_Buckets : PySem.W.findIn K (.ref c_Buckets) "__class__" = some (some (.builtin "object.__class__")))
    (em_Buckets : PySem.W.mroIn K c_Buckets (.type "object") = some true)
    (en1 : PySem.W.specialIn K (.builtin "object.__class__") "__get__" = some (some (.builtin "getset_descriptor.__get__")))
    (en2 : PySem.W.takesIn K (.builtin "object.__class__") = some true)
    (su_Buckets_int : PySem.W.subIn K (.ref c_Buckets) (.type "int") = some false)
    (su_Buckets_bool : PySem.W.subIn K (.ref c_Buckets) (.type "bool") = some false)
    (su_Buckets_tuple : PySem.W.subIn K (.ref c_Buckets) (.type "tuple") = some false)
    (k_MOST_LINES : PySem.W.nsIn K mainGlobals "MOST_LINES" = some (some (.int 12 t_MOST_LINES)))
    (k_KINDS : PySem.W.nsIn K mainGlobals "KINDS" = some (some (.int 8 t_KINDS)))
    (k_GREATEST_BOTTOM : PySem.W.nsIn K mainGlobals "GREATEST_BOTTOM" = some (some (.int 20 t_GREATEST_BOTTOM)))
    (k_GREATEST_BURST : PySem.W.nsIn K mainGlobals "GREATEST_BURST" = some (some (.int 20 t_GREATEST_BURST)))
    (k_GREATEST_NUMBER : PySem.W.nsIn K mainGlobals "GREATEST_NUMBER" = some (some (.int 1000000000 t_GREATEST_NUMBER)))
    (k_LONGEST : PySem.W.nsIn K mainGlobals "LONGEST" = some (some (.int 420 t_LONGEST)))
    (z_abs : PySem.W.nsIn K mainGlobals "abs" = some none)
    (z_all : PySem.W.nsIn K mainGlobals "all" = some none)
    (z_bool : PySem.W.nsIn K mainGlobals "bool" = some none)
    (z_enumerate : PySem.W.nsIn K mainGlobals "enumerate" = some none)
    (z_int : PySem.W.nsIn K mainGlobals "int" = some none)
    (z_isinstance : PySem.W.nsIn K mainGlobals "isinstance" = some none)
    (z_len : PySem.W.nsIn K mainGlobals "len" = some none)
    (z_list : PySem.W.nsIn K mainGlobals "list" = some none)
    (z_max : PySem.W.nsIn K mainGlobals "max" = some none)
    (z_min : PySem.W.nsIn K mainGlobals "min" = some none)
    (z_range : PySem.W.nsIn K mainGlobals "range" = some none)
    (z_sum : PySem.W.nsIn K mainGlobals "sum" = some none)
    (z_tuple : PySem.W.nsIn K mainGlobals "tuple" = some none)
    (z_zip : PySem.W.nsIn K mainGlobals "zip" = some none)
    : ∃ A : Adr, Top K mg A ∧ A.d_law = PySem.W.fnOf "law" "law" (defArgs s_law) (defBody s_law) (defScope s_law) .none kV_law dc_law pm_law an_law cd_law ct_law ∧ A.a_law = f_law := by
  have F_is_integer := fun_mk (st := s_is_integer) l_is_integer q_is_integer p_is_integer
  have F_is_integer_from := fun_mk (st := s_is_integer_from) l_is_integer_from q_is_integer_from p_is_integer_from
  have F_is_number_below := fun_mk (st := s_is_number_below) l_is_number_below q_is_number_below p_is_number_below
  have F_is_tuple_of := fun_mk (st := s_is_tuple_of) l_is_tuple_of q_is_tuple_of p_is_tuple_of
  have F_is_bucket := fun_mk (st := s_is_bucket) l_is_bucket q_is_bucket p_is_bucket
  have F_Buckets___init__ := fun_mk (st := s_Buckets___init__) l_Buckets___init__ q_Buckets___init__ p_Buckets___init__
  have F_Buckets___eq__ := fun_mk (st := s_Buckets___eq__) l_Buckets___eq__ q_Buckets___eq__ p_Buckets___eq__
  have F_check_line := fun_mk (st := s_check_line) l_check_line q_check_line p_check_line
  have F_check_number := fun_mk (st := s_check_number) l_check_number q_check_number p_check_number
  have F_most_of := fun_mk (st := s_most_of) l_most_of q_most_of p_most_of
  have F_most_together := fun_mk (st := s_most_together) l_most_together q_most_together p_most_together
  have F_rows_of := fun_mk (st := s_rows_of) l_rows_of q_rows_of p_rows_of
  have F_tops_of := fun_mk (st := s_tops_of) l_tops_of q_tops_of p_tops_of
  have F_greatest_hold := fun_mk (st := s_greatest_hold) l_greatest_hold q_greatest_hold p_greatest_hold
  have F_with_row := fun_mk (st := s_with_row) l_with_row q_with_row p_with_row
  have F_holds_at_most := fun_mk (st := s_holds_at_most) l_holds_at_most q_holds_at_most p_holds_at_most
  have F_let_in := fun_mk (st := s_let_in) l_let_in q_let_in p_let_in
  have F_greatest_in := fun_mk (st := s_greatest_in) l_greatest_in q_greatest_in p_greatest_in
  have F_greatest_burst := fun_mk (st := s_greatest_burst) l_greatest_burst q_greatest_burst p_greatest_burst
  have F_greatest_top := fun_mk (st := s_greatest_top) l_greatest_top q_greatest_top p_greatest_top
  have F_law_hand := fun_mk (st := s_law_hand) l_law_hand q_law_hand p_law_hand
  have F_law_draw := fun_mk (st := s_law_draw) l_law_draw q_law_draw p_law_draw
  have F_law_pick := fun_mk (st := s_law_pick) l_law_pick q_law_pick p_law_pick
  have F_law_same := fun_mk (st := s_law_same) l_law_same q_law_same p_law_same
  have F_law_rows := fun_mk (st := s_law_rows) l_law_rows q_law_rows p_law_rows
  have F_law_sent := fun_mk (st := s_law_sent) l_law_sent q_law_sent p_law_sent
  have F_law_reach := fun_mk (st := s_law_reach) l_law_reach q_law_reach p_law_reach
  have F_law_hold := fun_mk (st := s_law_hold) l_law_hold q_law_hold p_law_hold
  have F_law_is_let := fun_mk (st := s_law_is_let) l_law_is_let q_law_is_let p_law_is_let
  have F_law := fun_mk (st := s_law) l_law q_law p_law
  refine ⟨⟨f_is_integer, PySem.W.fnOf "is_integer" "is_integer" (defArgs s_is_integer) (defBody s_is_integer) (defScope s_is_integer) .none kV_is_integer dc_is_integer pm_is_integer an_is_integer cd_is_integer ct_is_integer, f_is_integer_from, PySem.W.fnOf "is_integer_from" "is_integer_from" (defArgs s_is_integer_from) (defBody s_is_integer_from) (defScope s_is_integer_from) .none kV_is_integer_from dc_is_integer_from pm_is_integer_from an_is_integer_from cd_is_integer_from ct_is_integer_from, f_is_number_below, PySem.W.fnOf "is_number_below" "is_number_below" (defArgs s_is_number_below) (defBody s_is_number_below) (defScope s_is_number_below) .none kV_is_number_below dc_is_number_below pm_is_number_below an_is_number_below cd_is_number_below ct_is_number_below, f_is_tuple_of, PySem.W.fnOf "is_tuple_of" "is_tuple_of" (defArgs s_is_tuple_of) (defBody s_is_tuple_of) (defScope s_is_tuple_of) .none kV_is_tuple_of dc_is_tuple_of pm_is_tuple_of an_is_tuple_of cd_is_tuple_of ct_is_tuple_of, f_is_bucket, PySem.W.fnOf "is_bucket" "is_bucket" (defArgs s_is_bucket) (defBody s_is_bucket) (defScope s_is_bucket) .none kV_is_bucket dc_is_bucket pm_is_bucket an_is_bucket cd_is_bucket ct_is_bucket, f_Buckets___init__, PySem.W.fnOf "__init__" "Buckets.__init__" (defArgs s_Buckets___init__) (defBody s_Buckets___init__) (defScope s_Buckets___init__) .none kV_Buckets___init__ dc_Buckets___init__ pm_Buckets___init__ an_Buckets___init__ cd_Buckets___init__ ct_Buckets___init__, f_Buckets___eq__, PySem.W.fnOf "__eq__" "Buckets.__eq__" (defArgs s_Buckets___eq__) (defBody s_Buckets___eq__) (defScope s_Buckets___eq__) .none kV_Buckets___eq__ dc_Buckets___eq__ pm_Buckets___eq__ an_Buckets___eq__ cd_Buckets___eq__ ct_Buckets___eq__, f_check_line, PySem.W.fnOf "check_line" "check_line" (defArgs s_check_line) (defBody s_check_line) (defScope s_check_line) .none kV_check_line dc_check_line pm_check_line an_check_line cd_check_line ct_check_line, f_check_number, PySem.W.fnOf "check_number" "check_number" (defArgs s_check_number) (defBody s_check_number) (defScope s_check_number) .none kV_check_number dc_check_number pm_check_number an_check_number cd_check_number ct_check_number, f_most_of, PySem.W.fnOf "most_of" "most_of" (defArgs s_most_of) (defBody s_most_of) (defScope s_most_of) .none kV_most_of dc_most_of pm_most_of an_most_of cd_most_of ct_most_of, f_most_together, PySem.W.fnOf "most_together" "most_together" (defArgs s_most_together) (defBody s_most_together) (defScope s_most_together) .none kV_most_together dc_most_together pm_most_together an_most_together cd_most_together ct_most_together, f_rows_of, PySem.W.fnOf "rows_of" "rows_of" (defArgs s_rows_of) (defBody s_rows_of) (defScope s_rows_of) .none kV_rows_of dc_rows_of pm_rows_of an_rows_of cd_rows_of ct_rows_of, f_tops_of, PySem.W.fnOf "tops_of" "tops_of" (defArgs s_tops_of) (defBody s_tops_of) (defScope s_tops_of) .none kV_tops_of dc_tops_of pm_tops_of an_tops_of cd_tops_of ct_tops_of, f_greatest_hold, PySem.W.fnOf "greatest_hold" "greatest_hold" (defArgs s_greatest_hold) (defBody s_greatest_hold) (defScope s_greatest_hold) .none kV_greatest_hold dc_greatest_hold pm_greatest_hold an_greatest_hold cd_greatest_hold ct_greatest_hold, f_with_row, PySem.W.fnOf "with_row" "with_row" (defArgs s_with_row) (defBody s_with_row) (defScope s_with_row) .none kV_with_row dc_with_row pm_with_row an_with_row cd_with_row ct_with_row, f_holds_at_most, PySem.W.fnOf "holds_at_most" "holds_at_most" (defArgs s_holds_at_most) (defBody s_holds_at_most) (defScope s_holds_at_most) .none kV_holds_at_most dc_holds_at_most pm_holds_at_most an_holds_at_most cd_holds_at_most ct_holds_at_most, f_let_in, PySem.W.fnOf "let_in" "let_in" (defArgs s_let_in) (defBody s_let_in) (defScope s_let_in) .none kV_let_in dc_let_in pm_let_in an_let_in cd_let_in ct_let_in, f_greatest_in, PySem.W.fnOf "greatest_in" "greatest_in" (defArgs s_greatest_in) (defBody s_greatest_in) (defScope s_greatest_in) .none kV_greatest_in dc_greatest_in pm_greatest_in an_greatest_in cd_greatest_in ct_greatest_in, f_greatest_burst, PySem.W.fnOf "greatest_burst" "greatest_burst" (defArgs s_greatest_burst) (defBody s_greatest_burst) (defScope s_greatest_burst) .none kV_greatest_burst dc_greatest_burst pm_greatest_burst an_greatest_burst cd_greatest_burst ct_greatest_burst, f_greatest_top, PySem.W.fnOf "greatest_top" "greatest_top" (defArgs s_greatest_top) (defBody s_greatest_top) (defScope s_greatest_top) .none kV_greatest_top dc_greatest_top pm_greatest_top an_greatest_top cd_greatest_top ct_greatest_top, f_law_hand, PySem.W.fnOf "_law_hand" "_law_hand" (defArgs s_law_hand) (defBody s_law_hand) (defScope s_law_hand) .none kV_law_hand dc_law_hand pm_law_hand an_law_hand cd_law_hand ct_law_hand, f_law_draw, PySem.W.fnOf "_law_draw" "_law_draw" (defArgs s_law_draw) (defBody s_law_draw) (defScope s_law_draw) .none kV_law_draw dc_law_draw pm_law_draw an_law_draw cd_law_draw ct_law_draw, f_law_pick, PySem.W.fnOf "_law_pick" "_law_pick" (defArgs s_law_pick) (defBody s_law_pick) (defScope s_law_pick) .none kV_law_pick dc_law_pick pm_law_pick an_law_pick cd_law_pick ct_law_pick, f_law_same, PySem.W.fnOf "_law_same" "_law_same" (defArgs s_law_same) (defBody s_law_same) (defScope s_law_same) .none kV_law_same dc_law_same pm_law_same an_law_same cd_law_same ct_law_same, f_law_rows, PySem.W.fnOf "_law_rows" "_law_rows" (defArgs s_law_rows) (defBody s_law_rows) (defScope s_law_rows) .none kV_law_rows dc_law_rows pm_law_rows an_law_rows cd_law_rows ct_law_rows, f_law_sent, PySem.W.fnOf "_law_sent" "_law_sent" (defArgs s_law_sent) (defBody s_law_sent) (defScope s_law_sent) .none kV_law_sent dc_law_sent pm_law_sent an_law_sent cd_law_sent ct_law_sent, f_law_reach, PySem.W.fnOf "_law_reach" "_law_reach" (defArgs s_law_reach) (defBody s_law_reach) (defScope s_law_reach) .none kV_law_reach dc_law_reach pm_law_reach an_law_reach cd_law_reach ct_law_reach, f_law_hold, PySem.W.fnOf "_law_hold" "_law_hold" (defArgs s_law_hold) (defBody s_law_hold) (defScope s_law_hold) .none kV_law_hold dc_law_hold pm_law_hold an_law_hold cd_law_hold ct_law_hold, f_law_is_let, PySem.W.fnOf "_law_is_let" "_law_is_let" (defArgs s_law_is_let) (defBody s_law_is_let) (defScope s_law_is_let) .none kV_law_is_let dc_law_is_let pm_law_is_let an_law_is_let cd_law_is_let ct_law_is_let, f_law, PySem.W.fnOf "law" "law" (defArgs s_law) (defBody s_law) (defScope s_law) .none kV_law dc_law pm_law an_law cd_law ct_law, c_Buckets⟩, ?_, rfl, rfl⟩
  exact ⟨F_is_integer,
    PySem.W.mg_of X G a_is_integer,
    F_is_integer.binds (fun _ _ _ _ _ _ us hl => match us, hl with | [_], _ => rfl),
    F_is_integer_from,
    PySem.W.mg_of X G a_is_integer_from,
    F_is_integer_from.binds (fun _ _ _ _ _ _ us hl => match us, hl with | [_, _, _], _ => rfl),
    F_is_number_below,
    PySem.W.mg_of X G a_is_number_below,
    F_is_number_below.binds (fun _ _ _ _ _ _ us hl => match us, hl with | [_, _], _ => rfl),
    F_is_tuple_of,
    PySem.W.mg_of X G a_is_tuple_of,
    F_is_tuple_of.binds (fun _ _ _ _ _ _ us hl => match us, hl with | [_, _], _ => rfl),
    F_is_bucket,
    PySem.W.mg_of X G a_is_bucket,
    F_is_bucket.binds (fun _ _ _ _ _ _ us hl => match us, hl with | [_, _], _ => rfl),
    F_Buckets___init__,
    F_Buckets___init__.binds (fun _ _ _ _ _ _ us hl => match us, hl with | [_, _, _], _ => rfl),
    F_Buckets___eq__,
    F_Buckets___eq__.binds (fun _ _ _ _ _ _ us hl => match us, hl with | [_, _], _ => rfl),
    F_check_line,
    PySem.W.mg_of X G a_check_line,
    F_check_line.binds (fun _ _ _ _ _ _ us hl => match us, hl with | [_, _], _ => rfl),
    F_check_number,
    PySem.W.mg_of X G a_check_number,
    F_check_number.binds (fun _ _ _ _ _ _ us hl => match us, hl with | [_], _ => rfl),
    F_most_of,
    PySem.W.mg_of X G a_most_of,
    F_most_of.binds (fun _ _ _ _ _ _ us hl => match us, hl with | [_, _, _], _ => rfl),
    F_most_together,
    PySem.W.mg_of X G a_most_together,
    F_most_together.binds (fun _ _ _ _ _ _ us hl => match us, hl with | [_, _, _], _ => rfl),
    F_rows_of,
    PySem.W.mg_of X G a_rows_of,
    F_rows_of.binds (fun _ _ _ _ _ _ us hl => match us, hl with | [_, _], _ => rfl),
    F_tops_of,
    PySem.W.mg_of X G a_tops_of,
    F_tops_of.binds (fun _ _ _ _ _ _ us hl => match us, hl with | [_], _ => rfl),
    F_greatest_hold,
    PySem.W.mg_of X G a_greatest_hold,
    F_greatest_hold.binds (fun _ _ _ _ _ _ us hl => match us, hl with | [_], _ => rfl),
    F_with_row,
    PySem.W.mg_of X G a_with_row,
    F_with_row.binds (fun _ _ _ _ _ _ us hl => match us, hl with | [_, _, _], _ => rfl),
    F_holds_at_most,
    PySem.W.mg_of X G a_holds_at_most,
    F_holds_at_most.binds (fun _ _ _ _ _ _ us hl => match us, hl with | [_, _], _ => rfl),
    F_let_in,
    PySem.W.mg_of X G a_let_in,
    F_let_in.binds (fun _ _ _ _ _ _ us hl => match us, hl with | [_, _, _, _], _ => rfl),
    F_greatest_in,
    PySem.W.mg_of X G a_greatest_in,
    F_greatest_in.binds (fun _ _ _ _ _ _ us hl => match us, hl with | [_, _, _, _], _ => rfl),
    F_greatest_burst,
    PySem.W.mg_of X G a_greatest_burst,
    F_greatest_burst.binds (fun _ _ _ _ _ _ us hl => match us, hl with | [_, _, _, _, _], _ => rfl),
    F_greatest_top,
    PySem.W.mg_of X G a_greatest_top,
    F_greatest_top.binds (fun _ _ _ _ _ _ us hl => match us, hl with | [_, _, _, _, _], _ => rfl),
    F_law_hand,
    PySem.W.mg_of X G a_law_hand,
    F_law_hand.binds (fun _ _ _ _ _ _ us hl => match us, hl with | [_], _ => rfl),
    F_law_draw,
    PySem.W.mg_of X G a_law_draw,
    F_law_draw.binds (fun _ _ _ _ _ _ us hl => match us, hl with | [_, _], _ => rfl),
    F_law_pick,
    PySem.W.mg_of X G a_law_pick,
    F_law_pick.binds (fun _ _ _ _ _ _ us hl => match us, hl with | [_, _], _ => rfl),
    F_law_same,
    PySem.W.mg_of X G a_law_same,
    F_law_same.binds (fun _ _ _ _ _ _ us hl => match us, hl with | [_, _], _ => rfl),
    F_law_rows,
    PySem.W.mg_of X G a_law_rows,
    F_law_rows.binds (fun _ _ _ _ _ _ us hl => match us, hl with | [_, _, _, _, _], _ => rfl),
    F_law_sent,
    PySem.W.mg_of X G a_law_sent,
    F_law_sent.binds (fun _ _ _ _ _ _ us hl => match us, hl with | [_, _, _], _ => rfl),
    F_law_reach,
    PySem.W.mg_of X G a_law_reach,
    F_law_reach.binds (fun _ _ _ _ _ _ us hl => match us, hl with | [_, _], _ => rfl),
    F_law_hold,
    PySem.W.mg_of X G a_law_hold,
    F_law_hold.binds (fun _ _ _ _ _ _ us hl => match us, hl with | [_, _], _ => rfl),
    F_law_is_let,
    PySem.W.mg_of X G a_law_is_let,
    F_law_is_let.binds (fun _ _ _ _ _ _ us hl => match us, hl with | [_, _, _, _, _], _ => rfl),
    F_law,
    PySem.W.mg_of X G a_law,
    F_law.binds (fun _ _ _ _ _ _ us hl => match us, hl with | [_], _ => rfl),
    ⟨pg_Buckets, hd_Buckets, po_Buckets, sa_Buckets⟩,
    PySem.W.mg_of X G ac_Buckets,
    ⟨mk_Buckets, a_Buckets___init__, i_Buckets___init__, kc_Buckets⟩,
    ⟨a_Buckets___eq__, i_Buckets___eq__, p_Buckets___eq__⟩,
    n_Buckets_bottom,
    n_Buckets_rows,
    ⟨em_Buckets, ne_Buckets, a_Buckets___eq__, i_Buckets___eq__⟩,
    GX.kit_bi (by decide) su_Buckets_int,
    GX.kit_bi (by decide) su_Buckets_bool,
    GX.kit_bi (by decide) su_Buckets_tuple,
    tt_Buckets,
    ci_Buckets,
    em_Buckets,
    en1,
    en2,
    ⟨_, PySem.W.mg_of X G k_MOST_LINES⟩,
    ⟨_, PySem.W.mg_of X G k_KINDS⟩,
    ⟨_, PySem.W.mg_of X G k_GREATEST_BOTTOM⟩,
    ⟨_, PySem.W.mg_of X G k_GREATEST_BURST⟩,
    ⟨_, PySem.W.mg_of X G k_GREATEST_NUMBER⟩,
    ⟨_, PySem.W.mg_of X G k_LONGEST⟩,
    PySem.W.mg_none_of X G z_abs,
    PySem.W.mg_none_of X G z_all,
    PySem.W.mg_none_of X G z_bool,
    PySem.W.mg_none_of X G z_enumerate,
    PySem.W.mg_none_of X G z_int,
    PySem.W.mg_none_of X G z_isinstance,
    PySem.W.mg_none_of X G z_len,
    PySem.W.mg_none_of X G z_list,
    PySem.W.mg_none_of X G z_max,
    PySem.W.mg_none_of X G z_min,
    PySem.W.mg_none_of X G z_range,
    PySem.W.mg_none_of X G z_sum,
    PySem.W.mg_none_of X G z_tuple,
    PySem.W.mg_none_of X G z_zip⟩

/-! ### heaps -/
theorem dec_int {a b : Int} : decide (V.int a = V.int b) = decide (a = b) := decide_eq_decide.mpr ⟨fun e => V.int.inj e, fun e => by rw [e]⟩
theorem dec_self {a : V} : decide (a = a) = true := decide_eq_true rfl
theorem same_upd {H : Hp} {p : Addr} {o : HO} (h : H p = none) : Same H (upd H p o) := fun b x e => by
  rw [upd_ne (ne_of_none e h)]
  exact e
theorem same_to {H H1 : Hp} {p : Addr} {o : HO} (s : Same H H1) (h : H p = none) : Same H (upd H1 p o) := fun b x e => by
  rw [upd_ne (ne_of_none e h)]
  exact s b x e
/-- as H but at x, new objects apart -/
def Kp (x : Addr) (H H' : Hp) : Prop := ∀ q o, q ≠ x → H q = some o → H' q = some o
theorem Kp.same {x : Addr} {H H1 H2 : Hp} (a : Kp x H H1) (b : Same H1 H2) : Kp x H H2 := fun q o hq h => b _ _ (a q o hq h)
theorem kp_of {H H' : Hp} (a : Same H H') (x : Addr) : Kp x H H' := fun q o _ h => a q o h
theorem Kp.upd {x : Addr} {H H1 : Hp} {o : HO} (a : Kp x H H1) : Kp x H (upd H1 x o) := fun q u hq h => by
  rw [upd_ne hq]
  exact a q u hq h
theorem Kp.trans {h : Addr} {H H1 H2 : Hp} (a : Kp h H H1) (b : Kp h H1 H2) : Kp h H H2 := fun q o hq e => b q o hq (a q o hq e)
theorem Kp.free {h p : Addr} {H H' : Hp} (a : Kp h H H') (hp : p ≠ h) (e : H' p = none) : H p = none := by
  cases q : H p with
  | none => rfl
  | some o =>
    rw [a p o hp q] at e
    cases e
theorem small1000 {n : Nat} (h : n < 1000) : n < sizeLine := Nat.lt_trans h (by decide)
theorem ne_of {H : Hp} {p q : Addr} {o u : HO} (hp : H p = some o) (hq : H q = some u) (h : o ≠ u) : p ≠ q := fun e => by
  rw [e, hq] at hp
  exact h (Option.some.inj hp).symm
def NT (o : HO) : Prop := ∀ ps, o ≠ .tbl ps
/-- as H but at h, tables apart -/
def Mv (h : Addr) (H H' : Hp) : Prop := ∀ q o, q ≠ h → H q = some o → NT o → H' q = some o
theorem Mv.of {h : Addr} {H H' : Hp} (k : Kp h H H') : Mv h H H' := fun q o hq e _ => k q o hq e
theorem Mv.same {h : Addr} {H H' : Hp} (k : Same H H') : Mv h H H' := fun q o _ e _ => k q o e
theorem Mv.ext {h : Addr} {H H' : Hp} (k : LamX.ExtN H H') : Mv h H H' := fun q o _ e n => k q o e n
theorem Mv.trans {h : Addr} {H H1 H2 : Hp} (a : Mv h H H1) (b : Mv h H1 H2) : Mv h H H2 := fun q o hq e n => b q o hq (a q o hq e n) n
theorem nt_lst {xs : List V} : NT (.lst xs) := fun _ z => by cases z
theorem nt_tup {xs : List V} : NT (.tup xs) := fun _ z => by cases z
theorem nt_ins {a b : Addr} {fs : List (Str × V)} : NT (.ins a b fs) := fun _ z => by cases z
theorem nt_dK {kvs : List (Key × V)} : NT (.dK kvs) := fun _ z => by cases z
/-! ### things of any sort, told as data -/
inductive Td where
  | int (i : Int) | bl (b : Bool) | non | str (s : Str) | tup (ds : List Td) | oth
mutual
/-- v tells d; what may change (the list at h) is none of it -/
inductive Is (h : Addr) (H : Hp) : V → Td → Prop
  | int (i : Int) : Is h H (.int i) (.int i)
  | bl (b : Bool) : Is h H (.bl b) (.bl b)
  | non : Is h H .non .non
  | str (s : Str) : Is h H (.str s) (.str s)
  | tup {a : Addr} {xs : List V} {ds : List Td} : H a = some (.tup xs) → IsL h H xs ds → Is h H (.ref a) (.tup ds)
  | lst {a : Addr} {xs : List V} : H a = some (.lst xs) → a ≠ h → Is h H (.ref a) .oth
  | dK {a : Addr} {kvs : List (Key × V)} : H a = some (.dK kvs) → Is h H (.ref a) .oth
inductive IsL (h : Addr) (H : Hp) : List V → List Td → Prop
  | nil : IsL h H [] []
  | cons {v : V} {d : Td} {vs : List V} {ds : List Td} : Is h H v d → IsL h H vs ds → IsL h H (v :: vs) (d :: ds)
end
section
variable {h : Addr} {H H' : Hp}
theorem Is.mv {v : V} {d : Td} (t : Is h H v d) (k : Mv h H H') (hh : ∃ ys, H h = some (.lst ys)) : Is h H' v d := by
  obtain ⟨ys, hh⟩ := hh
  refine Is.rec (motive_1 := fun v d _ => Is h H' v d) (motive_2 := fun vs ds _ => IsL h H' vs ds) (fun i => .int i) (fun b => .bl b) .non (fun s => .str s) (fun e _ ih => .tup (k _ _ (ne_of e hh (by intro z; cases z)) e nt_tup) ih)
    (fun e n => .lst (k _ _ n e nt_lst) n) (fun e => .dK (k _ _ (ne_of e hh (by intro z; cases z)) e nt_dK)) .nil (fun _ _ a b => .cons a b) t
theorem IsL.mv {vs : List V} {ds : List Td} (t : IsL h H vs ds) (k : Mv h H H') (hh : ∃ ys, H h = some (.lst ys)) : IsL h H' vs ds := by
  obtain ⟨ys, hh⟩ := hh
  refine IsL.rec (motive_1 := fun v d _ => Is h H' v d) (motive_2 := fun vs ds _ => IsL h H' vs ds) (fun i => .int i) (fun b => .bl b) .non (fun s => .str s) (fun e _ ih => .tup (k _ _ (ne_of e hh (by intro z; cases z)) e nt_tup) ih)
    (fun e n => .lst (k _ _ n e nt_lst) n) (fun e => .dK (k _ _ (ne_of e hh (by intro z; cases z)) e nt_dK)) .nil (fun _ _ a b => .cons a b) t
theorem Is.same {v : V} {d : Td} (t : Is h H v d) (s : Same H H') : Is h H' v d := by
  refine Is.rec (motive_1 := fun v d _ => Is h H' v d) (motive_2 := fun vs ds _ => IsL h H' vs ds) (fun i => .int i) (fun b => .bl b) .non (fun s => .str s) (fun e _ ih => .tup (s _ _ e) ih)
    (fun e n => .lst (s _ _ e) n) (fun e => .dK (s _ _ e)) .nil (fun _ _ a b => .cons a b) t
theorem IsL.same {v : List V} {d : List Td} (t : IsL h H v d) (s : Same H H') : IsL h H' v d := by
  refine IsL.rec (motive_1 := fun v d _ => Is h H' v d) (motive_2 := fun vs ds _ => IsL h H' vs ds) (fun i => .int i) (fun b => .bl b) .non (fun s => .str s) (fun e _ ih => .tup (s _ _ e) ih)
    (fun e n => .lst (s _ _ e) n) (fun e => .dK (s _ _ e)) .nil (fun _ _ a b => .cons a b) t
theorem IsL.len : ∀ {vs : List V} {ds : List Td}, IsL h H vs ds → vs.length = ds.length
  | _, _, .nil => rfl
  | _, _, .cons _ t => by rw [List.length_cons, List.length_cons, t.len]
theorem IsL.get : ∀ {vs : List V} {ds : List Td}, IsL h H vs ds → ∀ {i : Nat} {v : V}, vs[i]? = some v → ∃ d, ds[i]? = some d ∧ Is h H v d
  | _, _, .cons a _, 0, _, e => by
    cases e
    exact ⟨_, rfl, a⟩
  | _, _, .cons _ t, i + 1, _, e => by
    obtain ⟨d, e1, e2⟩ := t.get (i := i) e
    exact ⟨d, e1, e2⟩
theorem IsL.append : ∀ {vs us : List V} {ds es : List Td}, IsL h H vs ds → IsL h H us es → IsL h H (vs ++ us) (ds ++ es)
  | _, _, _, _, .nil, t => t
  | _, _, _, _, .cons a r, t => .cons a (r.append t)
theorem IsL.three {x y z : V} {ds : List Td} (t : IsL h H [x, y, z] ds) : ∃ a b c, ds = [a, b, c] ∧ Is h H x a ∧ Is h H y b ∧ Is h H z c := by
  cases t with
  | cons a t => cases t with
    | cons b t => cases t with
      | cons c t => cases t with
        | nil => exact ⟨_, _, _, rfl, a, b, c⟩
theorem IsL.ints : ∀ {ns : List Int}, IsL h H (ns.map V.int) (ns.map Td.int)
  | [] => .nil
  | n :: ns => .cons (.int n) IsL.ints
end
def isI : Td → Bool
  | .int _ => true
  | _ => false
def isBl : Td → Bool
  | .bl _ => true
  | _ => false
def isT : Td → Bool
  | .tup _ => true
  | _ => false
/-- an integer from lo to hi -/
def inI (lo hi : Int) : Td → Bool
  | .int i => decide (lo ≤ i) && decide (i ≤ hi)
  | _ => false
def tupN (n : Int) : Td → Bool
  | .tup ds => decide ((ds.length : Int) = n)
  | _ => false
section
variable {P : Program} {w : World} {K : PySem.W.Frag} {mg : Str → Option Value} {base : Heap} {A : Adr}
theorem kitQ {a b : String} {r r' : Bool} (h : kitB a b = some r) (e : r' = r) : PySem.W.kitOne K (.type a) (.type b) = some r' := by
  rw [e]
  exact kit_ty h
theorem is_ty (T : Top K mg A) {h : Addr} {H : Hp} {x : V} {d : Td} (t : Is h H x d) : ∃ t, TyX K H x t ∧ PySem.W.kitOne K t (.type "int") = some (isI d || isBl d) ∧ PySem.W.kitOne K t (.type "bool") = some (isBl d) ∧ PySem.W.kitOne K t (.type "tuple") = some (isT d) := by
  cases t with
  | non => exact ⟨_, .base .non, kitQ (a := "NoneType") (b := "int") (r := false) (by decide +kernel) rfl, kitQ (a := "NoneType") (b := "bool") (r := false) (by decide +kernel) rfl, kitQ (a := "NoneType") (b := "tuple") (r := false) (by decide +kernel) rfl⟩
  | bl b => exact ⟨_, .base (.bl b), kitQ (a := "bool") (b := "int") (r := true) (by decide +kernel) rfl, kitQ (a := "bool") (b := "bool") (r := true) (by decide +kernel) rfl, kitQ (a := "bool") (b := "tuple") (r := false) (by decide +kernel) rfl⟩
  | int i => exact ⟨_, .base (.int i), kitQ (a := "int") (b := "int") (r := true) (by decide +kernel) rfl, kitQ (a := "int") (b := "bool") (r := false) (by decide +kernel) rfl, kitQ (a := "int") (b := "tuple") (r := false) (by decide +kernel) rfl⟩
  | str s => exact ⟨_, .base (.str s), kitQ (a := "str") (b := "int") (r := false) (by decide +kernel) rfl, kitQ (a := "str") (b := "bool") (r := false) (by decide +kernel) rfl, kitQ (a := "str") (b := "tuple") (r := false) (by decide +kernel) rfl⟩
  | tup e l => exact ⟨_, .base (.tup e), kitQ (a := "tuple") (b := "int") (r := false) (by decide +kernel) rfl, kitQ (a := "tuple") (b := "bool") (r := false) (by decide +kernel) rfl, kitQ (a := "tuple") (b := "tuple") (r := true) (by decide +kernel) rfl⟩
  | lst e n => exact ⟨_, .base (.lst e), kitQ (a := "list") (b := "int") (r := false) (by decide +kernel) rfl, kitQ (a := "list") (b := "bool") (r := false) (by decide +kernel) rfl, kitQ (a := "list") (b := "tuple") (r := false) (by decide +kernel) rfl⟩
  | dK e => exact ⟨_, .base (.dK e), kitQ (a := "dict") (b := "int") (r := false) (by decide +kernel) rfl, kitQ (a := "dict") (b := "bool") (r := false) (by decide +kernel) rfl, kitQ (a := "dict") (b := "tuple") (r := false) (by decide +kernel) rfl⟩
theorem isT_of {h : Addr} {H : Hp} {x : V} {d : Td} (t : Is h H x d) (c : isT d = true) : ∃ a xs ds, x = .ref a ∧ d = .tup ds ∧ H a = some (.tup xs) ∧ IsL h H xs ds := by
  cases t with
  | tup e l => exact ⟨_, _, _, rfl, rfl, e, l⟩
  | _ => cases c
/-! ### what counts as an integer -/
def spIsInteger : Sp := fun vs H Q _ => ∃ x d h, vs = [x] ∧ Is h H x d ∧ Q (.bl (isI d)) H
theorem ok_is_integer (T : Top K mg A) : FnOk P w K mg base CX0 1 A.a_is_integer A.d_is_integer P_is_integer spIsInteger := by
  refine T.F_is_integer.ok sc_is_integer (fun vs H Q E h => ?_) (fun cdv A' outer s H vs Q E hr h => ?_)
  · obtain ⟨x, d, h, rfl, _⟩ := h
    rfl
  · obtain ⟨x, d, h, rfl, ht, k⟩ := h
    obtain ⟨t, ty, e1, e2, _⟩ := is_ty T ht
    refine ⟨_, (pss_one (ps_ret (pe_and (pe_callB call_isi (by rfl) T.z_isinstance (by decide +kernel) (pa_cons (pv 0) (pa_cons (pe_bltn (v := .ty "int") (by rfl) T.z_int (by decide +kernel) rfl) pa_nil))) (pe_one (pe_not (pe_callB call_isi (by rfl) T.z_isinstance (by decide +kernel) (pa_cons (pv 0) (pa_cons (pe_bltn (v := .ty "bool") (by rfl) T.z_bool (by decide +kernel) rfl) pa_nil)))))))), ?_⟩
    refine ⟨_, rfl, _, _, _, _, _, rfl, .ty "int", ty, e1, (isI d || isBl d), rfl, ?_⟩
    cases c : (isI d || isBl d) with
    | false =>
      refine iteF ?_
      have q : isI d = false := by
        cases d <;> first | rfl | cases c
      rw [q] at k
      exact k
    | true =>
      refine iteT ?_
      refine ⟨_, rfl, _, _, _, _, _, rfl, .ty "bool", ty, e2, _, rfl, ?_⟩
      have q : isI d = !isBl d := by
        cases d <;> first | rfl | cases c
      rw [q] at k
      exact k
theorem is_int {h : Addr} {H : Hp} {x : V} {d : Td} (t : Is h H x d) (c : isI d = true) : ∃ i, x = .int i ∧ d = .int i := by
  cases t with
  | int i => exact ⟨i, rfl, rfl⟩
  | _ => cases c
theorem inI_no {lo hi : Int} {d : Td} (c : isI d = false) : inI lo hi d = false := by
  cases d with
  | int i => cases c
  | _ => rfl
def spIIF : Sp := fun vs H Q _ => ∃ (lo hi : Int) (x : V) (d : Td) (h : Addr), vs = [.int lo, .int hi, x] ∧ Is h H x d ∧ Q (.bl (inI lo hi d)) H
theorem ok_is_integer_from (T : Top K mg A) : FnOk P w K mg base CX0 2 A.a_is_integer_from A.d_is_integer_from P_is_integer_from spIIF := by
  refine T.F_is_integer_from.ok sc_is_integer_from (fun vs H Q E h => ?_) (fun cdv A' outer s H vs Q E hr h => ?_)
  · obtain ⟨lo, hi, x, d, h, rfl, _⟩ := h
    rfl
  · obtain ⟨lo, hi, x, d, h, rfl, ht, k⟩ := h
    refine ⟨_, (pss_one (ps_ret (pe_and (pe_call (ok_is_integer T) (hr.mono (by decide)) (by rfl) T.g_is_integer T.F_is_integer.kp T.b_is_integer .nil pass0 (pa_cons (pv 2) pa_nil)) (pe_one (pe_chain op_le op_le (pv 0) (pv 2) (pv 1)))))), ?_⟩
    refine ⟨_, rfl, x, d, h, rfl, ht, _, rfl, ?_⟩
    cases c : isI d with
    | true =>
      obtain ⟨i, rfl, rfl⟩ := is_int ht c
      refine iteT ?_
      refine ⟨_, rfl, _, rfl, _, _, rfl, rfl, _, rfl, ?_⟩
      by_cases c : lo ≤ i
      · simp only [inI, decide_eq_true c, Bool.true_and] at k
        rw [decide_eq_true c]
        refine iteT ⟨_, rfl, _, _, rfl, rfl, k⟩
      · simp only [inI, decide_eq_false c, Bool.false_and] at k
        rw [decide_eq_false c]
        exact iteF k
    | false =>
      rw [inI_no c] at k
      exact iteF k
def spINB : Sp := fun vs H Q _ => ∃ (n : Int) (x : V) (d : Td) (h : Addr), vs = [.int n, x] ∧ Is h H x d ∧ Q (.bl (inI 0 (n - 1) d)) H
theorem ok_is_number_below (T : Top K mg A) : FnOk P w K mg base CX0 3 A.a_is_number_below A.d_is_number_below P_is_number_below spINB := by
  refine T.F_is_number_below.ok sc_is_number_below (fun vs H Q E h => ?_) (fun cdv A' outer s H vs Q E hr h => ?_)
  · obtain ⟨n, x, d, h, rfl, _⟩ := h
    rfl
  · obtain ⟨n, x, d, h, rfl, ht, k⟩ := h
    refine ⟨_, (pss_one (ps_ret (pe_call (ok_is_integer_from T) (hr.mono (by decide)) (by rfl) T.g_is_integer_from T.F_is_integer_from.kp T.b_is_integer_from .nil pass0 (pa_cons pe_int (pa_cons (pe_op op_sub (pv 0) pe_int) (pa_cons (pv 1) pa_nil)))))), ?_⟩
    exact ⟨_, rfl, _, _, rfl, rfl, _, rfl, _, _, _, _, _, rfl, ht, k⟩
theorem tupN_no {n : Int} {d : Td} (c : isT d = false) : tupN n d = false := by
  cases d with
  | tup i => cases c
  | _ => rfl
def spITO : Sp := fun vs H Q _ => ∃ (n : Int) (x : V) (d : Td) (h : Addr), vs = [.int n, x] ∧ Is h H x d ∧ Q (.bl (tupN n d)) H
theorem ok_is_tuple_of (T : Top K mg A) : FnOk P w K mg base CX0 1 A.a_is_tuple_of A.d_is_tuple_of P_is_tuple_of spITO := by
  refine T.F_is_tuple_of.ok sc_is_tuple_of (fun vs H Q E h => ?_) (fun cdv A' outer s H vs Q E hr h => ?_)
  · obtain ⟨n, x, d, h, rfl, _⟩ := h
    rfl
  · obtain ⟨n, x, d, h, rfl, ht, k⟩ := h
    obtain ⟨t, ty, _, _, e3⟩ := is_ty T ht
    refine ⟨_, (pss_one (ps_ret (pe_and (pe_callB call_isi (by rfl) T.z_isinstance (by decide +kernel) (pa_cons (pv 1) (pa_cons (pe_bltn (v := .ty "tuple") (by rfl) T.z_tuple (by decide +kernel) rfl) pa_nil))) (pe_one (pe_cmpR op_eq (pe_callB call_len_seq (by rfl) T.z_len (by decide +kernel) (pa_cons (pv 1) pa_nil)) (pv 0) (nomark _)))))), ?_⟩
    refine ⟨_, rfl, _, _, _, _, _, rfl, .ty "tuple", ty, e3, _, rfl, ?_⟩
    cases c : isT d with
    | false =>
      rw [tupN_no c] at k
      exact iteF k
    | true =>
      obtain ⟨a, xs, ds, rfl, rfl, ha, hl⟩ := isT_of ht c
      refine iteT ?_
      refine ⟨_, rfl, _, _, rfl, .inr (SqT.of ha), _, rfl, rfl, ?_⟩
      rw [dec_int, hl.len]
      exact k
end

section
variable {P : Program} {w : World} {K : PySem.W.Frag} {mg : Str → Option Value} {base : Heap} {A : Adr}
/-! ### the hand: a list of five, [the script's numbers, place, rest, mix, turns] -/
theorem upd_upd {H : Hp} {a : Addr} {o u : HO} : upd (upd H a o) a u = upd H a u := by
  funext b
  by_cases h : b = a
  · subst h
    rw [upd_same, upd_same]
  · rw [upd_ne h, upd_ne h, upd_ne h]
def handO (g : Addr) (i m s t : Int) : HO := .lst [.ref g, .int i, .int m, .int s, .int t]
/-- the hand stands at h, its numbers at g -/
structure HandAt (H : Hp) (h g : Addr) : Prop where
  cells : ∃ ns : List Int, H g = some (.lst (ns.map V.int))
  five : ∃ i m s t, H h = some (handO g i m s t) ∧ 0 ≤ i ∧ -(2 ^ 64) < s ∧ s < 2 ^ 64
  ne : h ≠ g
/-- as H but at h -/
def But (h : Addr) (H H' : Hp) : Prop := ∀ b, b ≠ h → H' b = H b
theorem But.upd {h : Addr} {H : Hp} {o : HO} : But h H (upd H h o) := fun _ hb => upd_ne hb
theorem But.trans {h : Addr} {H H1 H2 : Hp} (a : But h H H1) (b : But h H1 H2) : But h H H2 := fun c hc => (b c hc).trans (a c hc)
theorem But.refl (h : Addr) (H : Hp) : But h H H := fun _ _ => rfl
theorem hand_upd {H : Hp} {h g : Addr} (a : HandAt H h g) {i m s t : Int} (hi : 0 ≤ i) (hs : -(2 ^ 64) < s) (hs2 : s < 2 ^ 64) : HandAt (upd H h (handO g i m s t)) h g :=
  ⟨by
    obtain ⟨ns, e⟩ := a.cells
    exact ⟨ns, by rw [upd_ne a.ne.symm]; exact e⟩, ⟨i, m, s, t, upd_same, hi, hs, hs2⟩, a.ne⟩
def spDraw : Sp := fun vs H Q _ => ∃ (h g : Addr) (n : Int), vs = [.ref h, .int n] ∧ HandAt H h g ∧ 0 < n ∧ n < 1073741824 ∧ ∀ (H' : Hp) (d : Int), But h H H' → HandAt H' h g → 0 ≤ d → d < n → Q (.int d) H'
theorem ixn5 {g : Addr} {i m s t : Int} {v : V} : ∀ j : Nat, [V.ref g, V.int i, V.int m, V.int s, V.int t][j]? = some v → atI [V.ref g, V.int i, V.int m, V.int s, V.int t] (j : Int) = some v := fun j h => atI_nat h
theorem ok_law_draw (T : Top K mg A) : FnOk P w K mg base CX0 1 A.a_law_draw A.d_law_draw P_law_draw spDraw := by
  refine T.F_law_draw.ok sc_law_draw (fun vs H Q E h => ?_) (fun cdv A outer s H vs Q E hr h => ?_)
  · obtain ⟨h, g, n, rfl, _⟩ := h
    rfl
  · obtain ⟨h, g, n, rfl, ha, hn, hn2, k⟩ := h
    obtain ⟨ns, eg⟩ := ha.cells
    obtain ⟨i, m, sd, t, eh, hi, hs1, hs2⟩ := ha.five
    have hne := ha.ne
    refine ⟨_, (Evl.pss_cut (ps_if (PW.pt (pw_and (pt_cmpR op_eq (pe_ix ix_list (pv 0) pe_int (fun _ _ => rfl)) pe_int (nomark _)) (pw_and1 (pt_cmpR op_lt (pe_ix ix_list (pv 0) pe_int (fun _ _ => rfl)) (pe_callB call_len_seq (by rfl) T.z_len (by decide +kernel) (pa_cons (pe_ix ix_list (pv 0) pe_int (fun _ _ => rfl)) pa_nil)) (nomark _))))) (pss_cons (ps_set (i := 2) sc_law_draw.nd rfl (.inl rfl) (pe_ix ix_list (pe_ix ix_list (pv 0) pe_int (fun _ _ => rfl)) (pe_ix ix_list (pv 0) pe_int (fun _ _ => rfl)) (fun _ _ => rfl)))
    (pss_cons (ps_asg (pe_op op_add (pe_ix ix_list (pv 0) pe_int (fun _ _ => rfl)) pe_int) (pg_sub (pv 0) pe_int set_list))
    (pss_cons (ps_asg (pe_op op_mod (pe_callTy call_int1 (by rfl) T.z_int (by decide +kernel) (pa_cons (pe_op op_add (pe_op op_add (pe_op op_mul (pe_ix ix_list (pv 0) pe_int (fun _ _ => rfl)) pe_int) (pv 2)) pe_int) pa_nil)) pe_int) (pg_sub (pv 0) pe_int set_list))
    (pss_one (ps_if (pt_cmpR op_ge (pv 2) (pe_op op_pow pe_int pe_int) (nomark _)) (pss_one (ps_asg (pv 2) (pg_sub (pv 0) pe_int set_list))) pss_nil))))) pss_nil)
    (pss_cons (ps_if (pt_cmpR op_gt (pe_ix ix_list (pv 0) pe_int (fun _ _ => rfl)) pe_int (nomark _)) (pss_cons (ps_set (i := 3) sc_law_draw.nd rfl (.inl rfl) (pe_op op_mod (pe_callTy call_int1 (by rfl) T.z_int (by decide +kernel) (pa_cons (pe_ix ix_list (pv 0) pe_int (fun _ _ => rfl)) pa_nil)) (pv 1)))
    (pss_cons (ps_asg (pe_op op_fdiv (pe_ix ix_list (pv 0) pe_int (fun _ _ => rfl)) (pv 1)) (pg_sub (pv 0) pe_int set_list))
    (pss_one (ps_ret (pv 3))))) pss_nil)
    (pss_cons (ps_asg (pe_op op_add (pe_ix ix_list (pv 0) pe_int (fun _ _ => rfl)) pe_int) (pg_sub (pv 0) pe_int set_list))
    (pss_cons (ps_set (i := 4) sc_law_draw.nd rfl (.inl rfl) (pe_op op_mod (pe_callTy call_int1 (by rfl) T.z_int (by decide +kernel) (pa_cons (pe_op op_mul (pe_callTy call_int1 (by rfl) T.z_int (by decide +kernel) (pa_cons (pe_op op_add (pe_ix ix_list (pv 0) pe_int (fun _ _ => rfl)) (pe_op op_mul pe_int (pe_ix ix_list (pv 0) pe_int (fun _ _ => rfl)))) pa_nil)) pe_int) pa_nil)) pe_int))
    (pss_cons (ps_set (i := 4) sc_law_draw.nd rfl (.inl rfl) (pe_op op_mod (pe_callTy call_int1 (by rfl) T.z_int (by decide +kernel) (pa_cons (pe_op op_mul (pv 4) (pe_op op_add (pe_op op_fdiv (pv 4) pe_int) pe_int)) pa_nil)) pe_int))
    (pss_cons (ps_set (i := 4) sc_law_draw.nd rfl (.inl rfl) (pe_op op_mod (pe_callTy call_int1 (by rfl) T.z_int (by decide +kernel) (pa_cons (pe_op op_mul (pv 4) (pe_op op_add (pe_op op_fdiv (pv 4) pe_int) pe_int)) pa_nil)) pe_int))
    (pss_one (ps_ret (pe_op op_mod (pe_callTy call_int1 (by rfl) T.z_int (by decide +kernel) (pa_cons (pe_op op_fdiv (pv 4) pe_int) pa_nil)) (pv 1)))))))))), ?_⟩
    refine ⟨fun σ' H' => ∃ y2, σ' = [some (.ref h), some (.int n), y2, none, none] ∧ But h H H' ∧ HandAt H' h g, ?_, ?_⟩
    · -- the first if
      have stay : ∃ y2, (start N_law_draw [V.ref h, V.int n]) = [some (.ref h), some (.int n), y2, none, none] ∧ But h H H ∧ HandAt H h g := ⟨none, rfl, But.refl h H, ha⟩
      refine ⟨_, rfl, h, _, 2, _, rfl, rfl, SqL.of eh, atI_nat (j := 2) rfl, rfl, _, rfl, ite2 (fun c1 => ?_) (fun _ => iteF stay)⟩
      refine ⟨_, rfl, h, _, 1, _, rfl, rfl, SqL.of eh, atI_nat (j := 1) rfl, _, rfl, h, _, 0, _, rfl, rfl, SqL.of eh, atI_nat (j := 0) rfl, g, _, rfl, .inl (SqL.of eg), _, _, rfl, rfl, _, rfl, ite2 (fun c2 => ?_) (fun _ => stay)⟩
      have c3 : i < (ns.length : Int) := by
        have q := of_decide_eq_true c2
        rw [List.length_map] at q
        exact q
      have hj : i.toNat < ns.length := by omega
      have ej : (ns.map V.int)[i.toNat]? = some (.int ns[i.toNat]) := by
        rw [List.getElem?_map, List.getElem?_eq_getElem hj]
        rfl
      -- cell = hand[0][hand[1]]
      refine ⟨_, rfl, h, _, 0, _, rfl, rfl, SqL.of eh, atI_nat (j := 0) rfl, _, rfl, h, _, 1, _, rfl, rfl, SqL.of eh, atI_nat (j := 1) rfl, g, _, i, _, rfl, rfl, SqL.of eg, at_of (by omega) ej, ?_⟩
      -- hand[1] = hand[1] + 1
      refine ⟨_, rfl, h, _, 1, _, rfl, rfl, SqL.of eh, atI_nat (j := 1) rfl, i, 1, rfl, rfl, _, rfl, h, _, _, 1, rfl, rfl, eh, rfl, ?_⟩
      have eh1 : (upd H h (handO g (i + 1) m sd t)) h = some (handO g (i + 1) m sd t) := upd_same
      -- hand[3] = int(hand[3] * 69621 + cell + 11) % 2147483629
      refine ⟨_, rfl, h, _, 3, _, rfl, rfl, SqL.of eh1, atI_nat (j := 3) rfl, _, _, rfl, rfl, .inl ⟨hs1, hs2⟩, _, rfl, _, _, rfl, rfl, _, _, rfl, rfl, .inl ⟨_, rfl, _, _, rfl, rfl, (by show (0 : Int) < 2147483629; decide), _, rfl, h, _, _, 3, rfl, rfl, eh1, rfl, ?_⟩⟩
      have hm0 := Int.emod_nonneg (sd * 69621 + ns[i.toNat] + 11) (show (2147483629 : Int) ≠ 0 by decide)
      have hm1 := Int.emod_lt_of_pos (sd * 69621 + ns[i.toNat] + 11) (show (0 : Int) < 2147483629 by decide)
      obtain ⟨s2, es⟩ : ∃ s2, (sd * 69621 + ns[i.toNat] + 11) % 2147483629 = s2 := ⟨_, rfl⟩
      rw [es] at hm0 hm1
      rw [show ((fun i j => V.int (i % j)) (sd * 69621 + ns[i.toNat] + 11) 2147483629) = V.int s2 from congrArg V.int es]
      have eh2 : (upd (upd H h (handO g (i + 1) m sd t)) h (handO g (i + 1) m s2 t)) h = some (handO g (i + 1) m s2 t) := upd_same
      have h2 : HandAt (upd (upd H h (handO g (i + 1) m sd t)) h (handO g (i + 1) m s2 t)) h g := by
        rw [upd_upd]
        exact hand_upd ha (by omega) (by omega) (by omega)
      have b2 : But h H (upd (upd H h (handO g (i + 1) m sd t)) h (handO g (i + 1) m s2 t)) := But.upd.trans But.upd
      -- if cell >= 10 ** 18: hand[2] = cell
      refine ⟨_, rfl, 10, 18, rfl, rfl, ⟨by decide, by decide, by decide⟩, _, _, rfl, rfl, _, rfl, ite2 (fun _ => ?_) (fun _ => ⟨_, rfl, b2, h2⟩)⟩
      refine ⟨_, rfl, _, rfl, h, _, _, 2, rfl, rfl, eh2, rfl, ?_⟩
      exact ⟨_, rfl, b2.trans But.upd, hand_upd h2 (by omega) (by omega) (by omega)⟩
    · rintro σ' H1 ⟨y2, rfl, b1, h1⟩
      obtain ⟨i, m, sd, t, eh, hi, hs1, hs2⟩ := h1.five
      -- if hand[2] > 0
      refine ⟨_, rfl, h, _, 2, _, rfl, rfl, SqL.of eh, atI_nat (j := 2) rfl, _, _, rfl, rfl, _, rfl, ite2 (fun c => ?_) (fun _ => ?_)⟩
      · refine ⟨_, rfl, h, _, 2, _, rfl, rfl, SqL.of eh, atI_nat (j := 2) rfl, .inl ⟨_, rfl, _, rfl, _, _, rfl, rfl, hn, ?_⟩⟩
        refine ⟨_, rfl, h, _, 2, _, rfl, rfl, SqL.of eh, atI_nat (j := 2) rfl, _, rfl, _, _, rfl, rfl, ⟨hn, hn2⟩, _, rfl, h, _, _, 2, rfl, rfl, eh, rfl, ?_⟩
        exact ⟨_, rfl, k _ _ (b1.trans But.upd) (hand_upd h1 hi hs1 hs2) (Int.emod_nonneg _ (by omega)) (Int.emod_lt_of_pos _ hn)⟩
      · -- hand[4] = hand[4] + 1
        refine ⟨_, rfl, h, _, 4, _, rfl, rfl, SqL.of eh, atI_nat (j := 4) rfl, _, _, rfl, rfl, _, rfl, h, _, _, 4, rfl, rfl, eh, rfl, ?_⟩
        have eh1 : (upd H1 h (handO g i m sd (t + 1))) h = some (handO g i m sd (t + 1)) := upd_same
        have h3 : HandAt (upd H1 h (handO g i m sd (t + 1))) h g := hand_upd h1 hi hs1 hs2
        -- number = int(int(hand[3] + 7919 * hand[4]) * 48271) % 2147483647
        refine ⟨_, rfl, h, _, 3, _, rfl, rfl, SqL.of eh1, atI_nat (j := 3) rfl, _, rfl, h, _, 4, _, rfl, rfl, SqL.of eh1, atI_nat (j := 4) rfl, _, _, rfl, rfl, .inl ⟨by decide, by decide⟩, _, _, rfl, rfl, .inl ⟨_, rfl, _, _, rfl, rfl, .inr ⟨by decide, by decide⟩, .inl ⟨_, rfl, _, _, rfl, rfl, (by show (0 : Int) < 2147483647; decide), ?_⟩⟩⟩
        have hm0 := Int.emod_nonneg ((sd + 7919 * (t + 1)) * 48271) (show (2147483647 : Int) ≠ 0 by decide)
        have hm1 := Int.emod_lt_of_pos ((sd + 7919 * (t + 1)) * 48271) (show (0 : Int) < 2147483647 by decide)
        generalize ((sd + 7919 * (t + 1)) * 48271) % 2147483647 = x1 at hm0 hm1 ⊢
        refine ⟨_, rfl, _, rfl, _, _, rfl, rfl, ⟨by decide, by decide⟩, _, _, rfl, rfl, _, _, rfl, rfl, .inl ⟨by omega, by omega⟩, .inl ⟨_, rfl, _, _, rfl, rfl, (by show (0 : Int) < 2147483647; decide), ?_⟩⟩
        have hn0 := Int.emod_nonneg (x1 * (x1 / 1009 + 69621)) (show (2147483647 : Int) ≠ 0 by decide)
        have hn1 := Int.emod_lt_of_pos (x1 * (x1 / 1009 + 69621)) (show (0 : Int) < 2147483647 by decide)
        generalize (x1 * (x1 / 1009 + 69621)) % 2147483647 = x2 at hn0 hn1 ⊢
        refine ⟨_, rfl, _, rfl, _, _, rfl, rfl, ⟨by decide, by decide⟩, _, _, rfl, rfl, _, _, rfl, rfl, .inl ⟨by omega, by omega⟩, .inl ⟨_, rfl, _, _, rfl, rfl, (by show (0 : Int) < 2147483399; decide), ?_⟩⟩
        refine ⟨_, rfl, _, _, rfl, rfl, ⟨by decide, by decide⟩, .inl ⟨_, rfl, _, rfl, _, _, rfl, rfl, hn, ?_⟩⟩
        exact k _ _ (b1.trans But.upd) h3 (Int.emod_nonneg _ (by omega)) (Int.emod_lt_of_pos _ hn)
end
section
variable {P : Program} {w : World} {K : PySem.W.Frag} {mg : Str → Option Value} {base : Heap} {A : Adr}
theorem cut_mem {xs : List V} {lo hi : Option Int} {v : V} (h : v ∈ cutV xs lo hi) : v ∈ xs := by
  unfold cutV at h
  first
    | exact List.mem_of_mem_drop (List.mem_of_mem_take h)
    | exact List.mem_of_mem_take (List.mem_of_mem_drop h)
theorem take_map_more {xs : List V} {f : V → Int} {i : Nat} {x : V} (h : xs[i]? = some x) : ((xs.take (i + 1)).map f).map V.int = ((xs.take i).map f).map V.int ++ [V.int (f x)] := by
  rw [List.take_add_one, h, List.map_append, List.map_append]
  rfl
theorem len_cut {xs : List V} {lo hi : Option Int} : (cutV xs lo hi).length ≤ xs.length := by
  unfold cutV
  first
    | (rw [List.length_take, List.length_drop]; omega)
    | (rw [List.length_drop, List.length_take]; omega)
def vInt : V → Int
  | .int n => n
  | _ => 0
def spHand (K : PySem.W.Frag) : Sp := fun vs H Q _ => ∃ (a : Addr) (ns : List Int), vs = [.ref a] ∧ SqL K H a (ns.map V.int) ∧ ns.length ≤ 63 ∧ ∀ (H' : Hp) (h g : Addr), Same H H' → H h = none → H g = none → HandAt H' h g → Q (.ref h) H'
theorem ok_law_hand (T : Top K mg A) : FnOk P w K mg base CX0 1 A.a_law_hand A.d_law_hand P_law_hand (spHand K) := by
  refine T.F_law_hand.ok sc_law_hand (fun vs H Q E h => ?_) (fun cdv A outer s H vs Q E hr h => ?_)
  · obtain ⟨a, ns, rfl, _⟩ := h
    rfl
  · obtain ⟨a, ns, rfl, ha, hn, k⟩ := h
    refine ⟨_, (pss_cons (ps_setLc (i := 1) (own := [("_law_cell", 2)]) (by rfl) sc_law_hand.nd rfl rfl (sw_true rfl rfl rfl (by decide +kernel)) (pi_list (pe_slice sl_list (pv 0) po_none (po_some pe_int))) (blkOk_by (own := [("_law_cell", 2)]) (N := N_law_hand) (sc := defScope s_law_hand) (by decide +kernel)) (fun _ _ _ _ _ => (pg_name (i := 2) sc_law_hand.nd rfl (.inl rfl))) (fun _ _ _ _ _ => pts_nil) (fun _ _ _ _ _ => (pe_callB call_abs (by rfl) T.z_abs (by decide +kernel) (pa_cons (pe_callTy call_int1 (by rfl) T.z_int (by decide +kernel) (pa_cons (pv 2) pa_nil)) pa_nil))))
    (pss_one (ps_ret (pe_lst (pa_cons (pv 1) (pa_cons pe_int (pa_cons pe_int (pa_cons (pe_op op_add pe_int (pe_callB call_len_seq (by rfl) T.z_len (by decide +kernel) (pa_cons (pv 1) pa_nil))) (pa_cons pe_int pa_nil))))))))), ?_⟩
    refine ⟨_, rfl, _, rfl, a, _, rfl, ha, fun p np => ?_⟩
    have sp : Same H (upd H p (.lst (cutV (ns.map V.int) none (some 63)))) := same_upd np
    refine ⟨p, rfl, ⟨_, SqL.of upd_same⟩, fun D hD => ?_⟩
    have hpD : p ≠ D := fun e => by
      rw [← e, upd_same] at hD
      cases hD
    have hDn := sp.free hD
    refine lc_list (K := K) (a := p) (xs := cutV (ns.map V.int) none (some 63)) (fun i H' => Same H H' ∧ H' p = some (.lst (cutV (ns.map V.int) none (some 63))) ∧ ∃ zs : List Int, H' D = some (.lst (zs.map V.int)) ∧ zs.length ≤ i)
      ⟨same_to sp hDn, by rw [upd_ne hpD]; exact upd_same, [], upd_same, Nat.le_refl _⟩ (fun i H' _ h => SqL.of h.2.1) ?_ ?_
    · rintro i x H' hi ⟨s1, p1, zs, d1, l1⟩
      obtain ⟨n, _, rfl⟩ := List.mem_map.mp (cut_mem (List.mem_of_getElem? hi))
      have hi2 : i < 63 := by
        have q := (List.getElem?_eq_some_iff.mp hi).1
        have q2 := len_cut (xs := ns.map V.int) (lo := none) (hi := some 63)
        rw [List.length_map] at q2
        omega
      refine ⟨rfl, ?_⟩
      refine ⟨_, rfl, .inl ⟨_, rfl, _, rfl, _, d1, ?_, same_to s1 hDn, ?_, zs ++ [if n < 0 then -n else n], ?_, ?_⟩⟩
      · rw [List.length_map]
        exact small1000 (by omega)
      · rw [upd_ne hpD]
        exact p1
      · rw [upd_same, List.map_append]
        rfl
      · rw [List.length_append, List.length_singleton]
        omega
    · rintro H' ⟨s1, p1, zs, d1, l1⟩
      have lz : zs.length ≤ 63 := by
        have q2 := len_cut (xs := ns.map V.int) (lo := none) (hi := some 63)
        rw [List.length_map] at q2
        omega
      -- return [given, 0, 0, 1 + len(given), 0]
      refine ⟨_, rfl, _, rfl, D, _, rfl, .inl (SqL.of d1), 1, _, rfl, rfl, (by show 5 ≤ sizeLine; decide), fun h hh => ?_⟩
      have hhD : h ≠ D := fun e => by
        rw [e, d1] at hh
        cases hh
      refine k _ h D (same_to s1 (s1.free hh)) (s1.free hh) hDn ⟨⟨zs, by rw [upd_ne hhD.symm]; exact d1⟩, ⟨0, 0, 1 + (zs.length : Int), 0, ?_, Int.le_refl _, by omega, by omega⟩, hhD⟩
      rw [upd_same, List.length_map]
      rfl
def spAny (K : PySem.W.Frag) : Sp := fun vs H Q _ => ∃ (h g l : Addr) (xs : List V), vs = [.ref h, .ref l] ∧ HandAt H h g ∧ SqL K H l xs ∧ (∀ H', But h H H' → SqL K H' l xs) ∧ 0 < xs.length ∧ xs.length ≤ 100000 ∧ ∀ (H' : Hp) (j : Nat) (v : V), But h H H' → HandAt H' h g → xs[j]? = some v → Q v H'
end
theorem But.kp {h : Addr} {H H' : Hp} (b : But h H H') : Kp h H H' := fun q o hq e => (b q hq).trans e
theorem HandAt.same {h g : Addr} {H H' : Hp} (s : Same H H') (a : HandAt H h g) : HandAt H' h g :=
  ⟨by obtain ⟨ns, e⟩ := a.cells; exact ⟨ns, s _ _ e⟩, by obtain ⟨i, m, s', t, e, q⟩ := a.five; exact ⟨i, m, s', t, s _ _ e, q⟩, a.ne⟩
theorem HandAt.some {h g : Addr} {H : Hp} (a : HandAt H h g) : ∃ ys, H h = some (.lst ys) := by
  obtain ⟨i, m, s', t, e, q⟩ := a.five
  exact ⟨_, e⟩
theorem HandAt.ne_none {h g p : Addr} {H : Hp} (a : HandAt H h g) (hp : H p = none) : p ≠ h := by
  obtain ⟨o, e⟩ := a.some
  exact (ne_of_none e hp).symm
theorem cut_lo {xs : List V} {n : Nat} (h : n ≤ xs.length) : cutV xs none (some (n : Int)) = xs.take n := by
  unfold cutV
  rw [HT.sIx_none, HT.sIx_nat, Nat.min_eq_left h]
  rfl
theorem cut_hi {xs : List V} {n : Nat} (h : n ≤ xs.length) : cutV xs (some (n : Int)) none = xs.drop n := by
  unfold cutV
  rw [HT.sIx_none, HT.sIx_nat, Nat.min_eq_left h]
  exact List.take_of_length_le (by rw [List.length_drop]; omega)
theorem Is.kp {h g : Addr} {H H' : Hp} {v : V} {d : Td} (t : Is h H v d) (k : Kp h H H') (a : HandAt H h g) : Is h H' v d := t.mv (.of k) a.some
theorem IsL.kp {h g : Addr} {H H' : Hp} {v : List V} {d : List Td} (t : IsL h H v d) (k : Kp h H H') (a : HandAt H h g) : IsL h H' v d := t.mv (.of k) a.some
/-- a new tuple, a new list, told as data -/
theorem Is.newT {h : Addr} {H : Hp} {p : Addr} {xs : List V} {ds : List Td} (l : IsL h H xs ds) (np : H p = none) : Is h (upd H p (.tup xs)) (.ref p) (.tup ds) := .tup upd_same (l.same (same_upd np))
theorem Is.newL {h g : Addr} {H : Hp} {p : Addr} {xs : List V} (np : H p = none) (a : HandAt H h g) : Is h (upd H p (.lst xs)) (.ref p) .oth := .lst upd_same (a.ne_none np)

/-! ### what many laws want -/
/-- one by one -/
inductive All2 {α β : Type} (R : α → β → Prop) : List α → List β → Prop where
  | nil : All2 R [] []
  | cons {a : α} {b : β} {as : List α} {bs : List β} : R a b → All2 R as bs → All2 R (a :: as) (b :: bs)
section
variable {α β : Type} {R R' : α → β → Prop}
theorem All2.imp (f : ∀ a b, R a b → R' a b) : ∀ {as : List α} {bs : List β}, All2 R as bs → All2 R' as bs
  | _, _, .nil => .nil
  | _, _, .cons h t => .cons (f _ _ h) (t.imp f)
theorem All2.snoc : ∀ {as : List α} {bs : List β} {a : α} {b : β}, All2 R as bs → R a b → All2 R (as ++ [a]) (bs ++ [b])
  | _, _, _, _, .nil, h => .cons h .nil
  | _, _, _, _, .cons h t, h' => .cons h (t.snoc h')
theorem All2.len : ∀ {as : List α} {bs : List β}, All2 R as bs → as.length = bs.length
  | _, _, .nil => rfl
  | _, _, .cons _ t => by rw [List.length_cons, List.length_cons, t.len]
theorem All2.get : ∀ {as : List α} {bs : List β}, All2 R as bs → ∀ {i : Nat} {b : β}, bs[i]? = some b → ∃ a, as[i]? = some a ∧ R a b
  | _, _, .cons h _, 0, _, e => by
    cases e
    exact ⟨_, rfl, h⟩
  | _, _, .cons _ t, i + 1, _, e => t.get (i := i) e
theorem All2.getL : ∀ {as : List α} {bs : List β}, All2 R as bs → ∀ {i : Nat} {a : α}, as[i]? = some a → ∃ b, bs[i]? = some b ∧ R a b
  | _, _, .cons h _, 0, _, e => by
    cases e
    exact ⟨_, rfl, h⟩
  | _, _, .cons _ t, i + 1, _, e => t.getL (i := i) e
theorem All2.take : ∀ {as : List α} {bs : List β}, All2 R as bs → ∀ n : Nat, All2 R (as.take n) (bs.take n)
  | _, _, _, 0 => .nil
  | _, _, .nil, _ + 1 => .nil
  | _, _, .cons h t, n + 1 => .cons h (t.take n)
theorem All2.drop : ∀ {as : List α} {bs : List β}, All2 R as bs → ∀ n : Nat, All2 R (as.drop n) (bs.drop n)
  | _, _, h, 0 => h
  | _, _, .nil, _ + 1 => .nil
  | _, _, .cons _ t, n + 1 => t.drop n
theorem All2.mem : ∀ {as : List α} {bs : List β}, All2 R as bs → ∀ {b : β}, b ∈ bs → ∃ a ∈ as, R a b
  | _, _, .cons h t, b, m => by
    rcases List.mem_cons.mp m with e | m
    · subst e
      exact ⟨_, List.mem_cons_self, h⟩
    · obtain ⟨a, h1, h2⟩ := t.mem m
      exact ⟨a, List.mem_cons_of_mem _ h1, h2⟩
theorem All2.append : ∀ {as : List α} {bs : List β} {as' : List α} {bs' : List β}, All2 R as bs → All2 R as' bs' → All2 R (as ++ as') (bs ++ bs')
  | _, _, _, _, .nil, h => h
  | _, _, _, _, .cons h t, h' => .cons h (t.append h')
end
/-! ### comprehensions whose items are known -/
def LP (H : Hp) (D : Addr) (vals : List V) (i : Nat) (H' : Hp) : Prop := Same H H' ∧ H' D = some (.lst (vals.take i))
theorem LP.start {H : Hp} {D : Addr} {vals : List V} (nD : H D = none) : LP H D vals 0 (upd H D (.lst [])) := ⟨same_upd nD, upd_same⟩
theorem lcPut {H0 H1 H4 : Hp} {D : Addr} {vals : List V} {i : Nat} {y : V} (nD : H0 D = none) (p : LP H0 D vals i H1) (s : Same H1 H4) (hy : vals[i]? = some y) (few : vals.length ≤ 100000) :
    ∃ acc, H4 D = some (.lst acc) ∧ acc.length < sizeLine ∧ LP H0 D vals (i + 1) (upd H4 D (.lst (acc ++ [y]))) := by
  refine ⟨_, s _ _ p.2, ?_, same_to (p.1.trans s) nD, ?_⟩
  · rw [List.length_take]
    exact Nat.lt_of_le_of_lt (Nat.le_trans (Nat.min_le_right _ _) few) (by decide)
  · rw [upd_same, List.take_add_one, hy]
    rfl
theorem map_at {α β : Type} {f : α → β} {l : List α} {i : Nat} {x : α} (h : l[i]? = some x) : (l.map f)[i]? = some (f x) := by
  rw [List.getElem?_map, h]
  rfl
theorem take_all {α : Type} {l : List α} {n : Nat} (h : n = l.length) : l.take n = l := List.take_of_length_le (by omega)
/-- a new object -/
theorem newS {H : Hp} {o : HO} {Q : VK} (k : ∀ (H' : Hp) (p : Addr), H p = none → Same H H' → H' p = some o → Q (.ref p) H') : ∀ p, H p = none → Q (.ref p) (upd H p o) := fun p n => k _ p n (same_upd n) upd_same
theorem lay_all : ∀ {ds : List PyData}, (∀ x ∈ ds, PyData.canLay0 x = true) → PyData.canLayAll0 ds = true
  | [], _ => rfl
  | x :: ds, h => by
    show (PyData.canLay0 x && PyData.canLayAll0 ds) = true
    rw [h x List.mem_cons_self, lay_all fun y hy => h y (List.mem_cons_of_mem _ hy)]
    rfl
theorem dep_all {n : Nat} : ∀ {ds : List PyData}, (∀ x ∈ ds, PyData.depth x ≤ n) → PyData.depthAll ds ≤ n
  | [], _ => Nat.zero_le _
  | x :: ds, h => by
    show max (PyData.depth x) (PyData.depthAll ds) ≤ n
    exact Nat.max_le.mpr ⟨h x List.mem_cons_self, dep_all fun y hy => h y (List.mem_cons_of_mem _ hy)⟩
/-- data that may be laid, of a depth -/
structure Lay (d : PyData) (n : Nat) : Prop where
  lay : d.canLay0 = true
  dep : d.depth ≤ n
theorem Lay.sh {d : PyData} {n : Nat} (h : Lay d n) (hn : n ≤ 64) : SeqAt.shaped d = true := by
  unfold SeqAt.shaped
  rw [h.lay, decide_eq_true (Nat.le_trans h.dep hn)]
  rfl
theorem Lay.int (i : Int) : Lay (.int i) 0 := ⟨rfl, Nat.le_refl _⟩
theorem Lay.tup {ds : List PyData} {n : Nat} (h : ∀ x ∈ ds, Lay x n) : Lay (.tuple ds) (n + 1) := ⟨lay_all fun x hx => (h x hx).lay, Nat.succ_le_succ (dep_all fun x hx => (h x hx).dep)⟩
theorem Lay.lst {ds : List PyData} {n : Nat} (h : ∀ x ∈ ds, Lay x n) : Lay (.list ds) (n + 1) := ⟨lay_all fun x hx => (h x hx).lay, Nat.succ_le_succ (dep_all fun x hx => (h x hx).dep)⟩
theorem Lay.mono {d : PyData} {n m : Nat} (h : Lay d n) (hm : n ≤ m) : Lay d m := ⟨h.lay, Nat.le_trans h.dep hm⟩
theorem dpAll_of {α : Type} {K : PySem.W.Frag} {H : Hp} {R : α → V → Prop} {f : α → PyData} (g : ∀ a v, R a v → Dp K H v (f a)) : ∀ {as : List α} {vs : List V}, All2 R as vs → DpAll K H vs (as.map f)
  | _, _, .nil => .nil
  | _, _, .cons h t => .cons (g _ _ h) (dpAll_of g t)
theorem eqv_int {i j : Int} : PyData.eqv (.int i) (.int j) = decide (i = j) := by
  show (i == j) = decide (i = j)
  by_cases h : i = j <;> simp [h]
theorem eqvAll_map {α : Type} [DecidableEq α] {f : α → PyData} (h : ∀ a b, PyData.eqv (f a) (f b) = decide (a = b)) : ∀ as bs : List α, PyData.eqvAll (as.map f) (bs.map f) = decide (as = bs)
  | [], [] => rfl
  | [], _ :: _ => rfl
  | _ :: _, [] => rfl
  | a :: as, b :: bs => by
    show (PyData.eqv (f a) (f b) && PyData.eqvAll (as.map f) (bs.map f)) = _
    rw [h, eqvAll_map h as bs]
    by_cases h1 : a = b <;> by_cases h2 : as = bs <;> simp [h1, h2]
def intsD (ns : List Int) : List PyData := ns.map PyData.int
theorem eqv_ints (ns ms : List Int) : PyData.eqv (.list (intsD ns)) (.list (intsD ms)) = decide (ns = ms) := eqvAll_map (fun _ _ => eqv_int) ns ms
theorem eqv_intsT (ns ms : List Int) : PyData.eqv (.tuple (intsD ns)) (.tuple (intsD ms)) = decide (ns = ms) := eqvAll_map (fun _ _ => eqv_int) ns ms
theorem dp_ints {K : PySem.W.Frag} {H : Hp} : ∀ {ns : List Int}, DpAll K H (ns.map V.int) (intsD ns)
  | [] => .nil
  | n :: _ => .cons (.int n) dp_ints
theorem lay_intsL (ns : List Int) : Lay (.list (intsD ns)) 1 := Lay.lst fun x hx => by
  obtain ⟨i, _, rfl⟩ := List.mem_map.mp hx
  exact Lay.int i
theorem lay_intsT (ns : List Int) : Lay (.tuple (intsD ns)) 1 := Lay.tup fun x hx => by
  obtain ⟨i, _, rfl⟩ := List.mem_map.mp hx
  exact Lay.int i
def matD (m : List (List Int)) : PyData := .tuple (m.map fun r => .tuple (intsD r))
theorem eqv_mat (a b : List (List Int)) : PyData.eqv (matD a) (matD b) = decide (a = b) := eqvAll_map (f := fun r => .tuple (intsD r)) eqv_intsT a b
theorem lay_mat (a : List (List Int)) : Lay (matD a) 2 := Lay.tup fun x hx => by
  obtain ⟨r, _, rfl⟩ := List.mem_map.mp hx
  exact lay_intsT r
theorem ixN_at {n j : Nat} (h : j < n) : ixN n (j : Int) = some j := by
  unfold ixN
  rw [if_pos (by omega), if_pos (by omega), Int.toNat_natCast]
theorem flat_len {α : Type} {m : Nat} : ∀ {l : List (List α)}, (∀ r ∈ l, r.length ≤ m) → l.flatten.length ≤ l.length * m
  | [], _ => by simp
  | r :: l, h => by
    rw [List.flatten_cons, List.length_append, List.length_cons, Nat.add_mul, Nat.one_mul]
    have h1 := h r List.mem_cons_self
    have h2 := flat_len (l := l) fun x hx => h x (List.mem_cons_of_mem _ hx)
    omega
theorem take_flat {α : Type} {l : List (List α)} {i : Nat} {r : List α} (h : l[i]? = some r) : (l.take (i + 1)).flatten = (l.take i).flatten ++ r := by
  rw [List.take_add_one, h, List.flatten_append]
  congr 1
  show [r].flatten = r
  rw [List.flatten_cons, List.flatten_nil, List.append_nil]
theorem take_flat_le {α : Type} {l : List (List α)} (n : Nat) : ((l.take n).flatten).length ≤ l.flatten.length := by
  conv => rhs; rw [← List.take_append_drop n l, List.flatten_append, List.length_append]
  omega
theorem newH {H : Hp} {p : Addr} {o : HO} (n : H p = none) : ∃ H', upd H p o = H' ∧ Same H H' ∧ H' p = some o := ⟨_, rfl, same_upd n, upd_same⟩
theorem sl_at {H : Hp} {K : PySem.W.Frag} {b : Addr} {us : List V} {lo hi : Option Int} {Q : VK} (e : H b = some (.tup us)) (q : ∀ H' p, Same H H' → H' p = some (.tup (cutV us lo hi)) → Q (.ref p) H') : rSlA K (.ref b) lo hi H Q := by
  refine ⟨b, us, rfl, SqT.of e, fun ⟨z1, z2⟩ => q _ _ (fun _ _ z => z) ?_, fun _ p np => q _ _ (same_upd np) upd_same⟩
  rw [e]
  unfold cutV
  rw [z1, z2, List.drop_zero, Nat.sub_zero, List.take_length]
/-! ### matchings: (line, output, place) -/
theorem cut_one {xs : List V} : cutV xs (some (1 : Int)) none = xs.drop 1 := by
  cases xs with
  | nil => rfl
  | cons y r =>
    show cutV (y :: r) (some ((1 : Nat) : Int)) none = _
    unfold cutV
    rw [HT.sIx_none, HT.sIx_nat, Nat.min_eq_left (by rw [List.length_cons]; omega)]
    exact List.take_of_length_le (by rw [List.length_drop]; exact Nat.le_refl _)
theorem cat_at {H : Hp} {K : PySem.W.Frag} {a b : Addr} {xs ys : List V} {Q : VK} (e1 : H a = some (.tup xs)) (e2 : H b = some (.tup ys)) (l : xs.length + ys.length ≤ 1000) (q : ∀ H' p, Same H H' → H' p = some (.tup (xs ++ ys)) → Q (.ref p) H') : rCatA K (.ref a) (.ref b) H Q := by
  refine ⟨a, b, xs, ys, rfl, rfl, SqT.of e1, SqT.of e2, Nat.le_trans l (by decide), fun z => ?_, fun _ z => ?_, fun _ _ p np => q _ p (same_upd np) upd_same⟩
  · subst z
    exact q H b (fun _ _ e => e) e2
  · subst z
    exact q H a (fun _ _ e => e) (by rw [List.append_nil]; exact e1)
theorem cut_to {xs : List V} {n : Nat} (h : n ≤ xs.length) : cutV xs none (some (n : Int)) = xs.take n := by
  unfold cutV
  rw [HT.sIx_none, HT.sIx_nat, Nat.min_eq_left h]
  rfl
theorem cut_from {xs : List V} {n : Nat} (h : n ≤ xs.length) : cutV xs (some (n : Int)) none = xs.drop n := by
  unfold cutV
  rw [HT.sIx_none, HT.sIx_nat, Nat.min_eq_left h]
  exact List.take_of_length_le (by rw [List.length_drop]; exact Nat.le_refl _)
/-- all stays but at S -/
def Off (S : List Addr) (H H' : Hp) : Prop := ∀ b o, b ∉ S → H b = some o → H' b = some o
theorem Off.refl (S : List Addr) (H : Hp) : Off S H H := fun _ _ _ h => h
theorem Off.trans {S : List Addr} {H H1 H2 : Hp} (a : Off S H H1) (b : Off S H1 H2) : Off S H H2 := fun c o hc h => b c o hc (a c o hc h)
theorem Off.mono {S S' : List Addr} {H H' : Hp} (a : Off S H H') (h : ∀ b ∈ S, b ∈ S') : Off S' H H' := fun c o hc e => a c o (fun z => hc (h c z)) e
theorem Off.same {S : List Addr} {H H' : Hp} (s : Same H H') : Off S H H' := fun b o _ e => s b o e
theorem Off.upd {S : List Addr} {H : Hp} {p : Addr} {o : HO} (h : p ∈ S) : Off S H (upd H p o) := fun b u hb e => by
  rw [upd_ne (fun z => hb (by rw [z]; exact h))]
  exact e
theorem Off.new {S : List Addr} {H : Hp} {p : Addr} {o : HO} (h : H p = none) : Off S H (L2.upd H p o) := Off.same (same_upd h)

/-! ### rows of buckets -/
abbrev Rw := Option (Int × Int × Int)
def RowAt (H : Hp) : Rw → V → Prop
  | none, v => v = .non
  | some (b, t, k), v => ∃ q, v = .ref q ∧ H q = some (.tup [.int b, .int t, .int k])
theorem RowAt.mv {H H' : Hp} (f : ∀ q xs, H q = some (.tup xs) → H' q = some (.tup xs)) : ∀ {r : Rw} {v : V}, RowAt H r v → RowAt H' r v
  | none, _, h => h
  | some (_, _, _), _, ⟨q, e, e1⟩ => ⟨q, e, f _ _ e1⟩
theorem RowAt.same {H H' : Hp} {r : Rw} {v : V} (t : RowAt H r v) (s : Same H H') : RowAt H' r v := t.mv fun q xs e => s _ _ e
def RowOk (bot : Int) : Rw → Prop
  | none => True
  | some (b, t, k) => (1 ≤ b ∧ b ≤ 20) ∧ (0 ≤ t ∧ t ≤ bot) ∧ 0 ≤ k ∧ k ≤ 7
structure RowsOk (bot : Int) (rs : List Rw) : Prop where
  one : 1 ≤ rs.length
  few : rs.length ≤ 12
  ok : ∀ r ∈ rs, RowOk bot r
  b1 : 1 ≤ bot
  b20 : bot ≤ 20
def RowsAt (H : Hp) (a : Addr) (rs : List Rw) : Prop := ∃ vs, H a = some (.tup vs) ∧ All2 (RowAt H) rs vs
theorem RowsAt.mv {H H' : Hp} {a : Addr} {rs : List Rw} (t : RowsAt H a rs) (f : ∀ q xs, H q = some (.tup xs) → H' q = some (.tup xs)) : RowsAt H' a rs := let ⟨vs, e, al⟩ := t; ⟨vs, f _ _ e, al.imp fun _ _ t => t.mv f⟩
theorem RowsAt.same {H H' : Hp} {a : Addr} {rs : List Rw} (t : RowsAt H a rs) (s : Same H H') : RowsAt H' a rs := t.mv fun q xs e => s _ _ e
def bF (bot : Int) (a : Addr) : List (Str × V) := putF "rows" (.ref a) (putF "bottom" (.int bot) [])
theorem bf1 {bot : Int} {a : Addr} : List.lookup ("bottom" : Str) (bF bot a) = some (V.int bot) := rfl
theorem bf2 {bot : Int} {a : Addr} : List.lookup ("rows" : Str) (bF bot a) = some (V.ref a) := rfl
def BkAt (C : Addr) (H : Hp) (p : Addr) (bot : Int) (rs : List Rw) : Prop := ∃ dx a, H p = some (.ins C dx (bF bot a)) ∧ RowsAt H a rs
theorem BkAt.same {C : Addr} {H H' : Hp} {p : Addr} {bot : Int} {rs : List Rw} (t : BkAt C H p bot rs) (s : Same H H') : BkAt C H' p bot rs := let ⟨dx, a, e, r⟩ := t; ⟨dx, a, s _ _ e, r.same s⟩
theorem tup_kp {h g p : Addr} {H H' : Hp} {xs : List V} (k : Kp h H H') (a : HandAt H h g) (e : H p = some (.tup xs)) : H' p = some (.tup xs) := by
  obtain ⟨_, _, _, _, e5, _⟩ := a.five
  exact k p _ (fun z => by rw [z, e5] at e; cases e) e
theorem BkAt.kp {C h g : Addr} {H H' : Hp} {p : Addr} {bot : Int} {rs : List Rw} (t : BkAt C H p bot rs) (k : Kp h H H') (ha : HandAt H h g) : BkAt C H' p bot rs := by
  obtain ⟨dx, a, e, r⟩ := t
  obtain ⟨_, _, _, _, e5, _⟩ := ha.five
  exact ⟨dx, a, k _ _ (fun z => by rw [z, e5] at e; cases e) e, r.mv fun q xs e => tup_kp k ha e⟩
theorem inI_ok {lo hi i : Int} (h1 : lo ≤ i) (h2 : i ≤ hi) : inI lo hi (.int i) = true := by
  show (decide (lo ≤ i) && decide (i ≤ hi)) = true
  rw [decide_eq_true h1, decide_eq_true h2]
  rfl
theorem putF_len {f : Str} {v : V} : ∀ fs : List (Str × V), (putF f v fs).length ≤ fs.length + 1
  | [] => Nat.le_refl _
  | (g, u) :: fs => by
    unfold putF
    split
    · exact Nat.le_succ _
    · rw [List.length_cons, List.length_cons]
      exact Nat.succ_le_succ (putF_len fs)
section
variable {P : Program} {w : World} {K : PySem.W.Frag} {mg : Str → Option Value} {base : Heap} {A : Adr}
def spBucket : Sp := fun vs H Q _ => ∃ (q : Addr) (bot b t k : Int), vs = [.int bot, .ref q] ∧ H q = some (.tup [.int b, .int t, .int k]) ∧ RowOk bot (some (b, t, k)) ∧ Q (.bl true) H
theorem ok_is_bucket (T : Top K mg A) : FnOk P w K mg base CX0 4 A.a_is_bucket A.d_is_bucket P_is_bucket spBucket := by
  refine T.F_is_bucket.ok sc_is_bucket (fun vs H Q E h => ?_) (fun cdv A' outer s H vs Q E hr h => ?_)
  · obtain ⟨q, bot, b, t, k, rfl, _⟩ := h
    rfl
  · obtain ⟨q, bot, b, t, k, rfl, e, ⟨⟨b1, b2⟩, ⟨t1, t2⟩, k1, k2⟩, kq⟩ := h
    refine ⟨_, (pss_cons (ps_if (pt_not (pt_val (pe_call (ok_is_tuple_of T) (hr.mono (by decide)) (by rfl) T.g_is_tuple_of T.F_is_tuple_of.kp T.b_is_tuple_of .nil pass0 (pa_cons pe_int (pa_cons (pv 1) pa_nil))))) (pss_one (ps_ret pe_bl)) pss_nil)
    (pss_cons (ps_asg (pv 1) (pg_tup rfl (pgs_cons (pg_name (i := 2) sc_is_bucket.nd rfl (.inl rfl)) (pgs_cons (pg_name (i := 3) sc_is_bucket.nd rfl (.inl rfl)) (pgs_cons (pg_name (i := 4) sc_is_bucket.nd rfl (.inl rfl)) pgs_nil)))))
    (pss_cons (ps_if (PW.pt (pw_or (pt_not (pt_val (pe_call (ok_is_integer_from T) (hr.mono (by decide)) (by rfl) T.g_is_integer_from T.F_is_integer_from.kp T.b_is_integer_from .nil pass0 (pa_cons pe_int (pa_cons (pe_glob (v := .int 20) rfl (T.k_GREATEST_BURST).choose_spec ⟨_, rfl⟩) (pa_cons (pv 2) pa_nil)))))) (pw_or1 (pt_not (pt_val (pe_call (ok_is_integer_from T) (hr.mono (by decide)) (by rfl) T.g_is_integer_from T.F_is_integer_from.kp T.b_is_integer_from .nil pass0 (pa_cons pe_int (pa_cons (pv 0) (pa_cons (pv 3) pa_nil))))))))) (pss_one (ps_ret pe_bl)) pss_nil)
    (pss_one (ps_ret (pe_call (ok_is_number_below T) (hr.mono (by decide)) (by rfl) T.g_is_number_below T.F_is_number_below.kp T.b_is_number_below .nil pass0 (pa_cons (pe_glob (v := .int 8) rfl (T.k_KINDS).choose_spec ⟨_, rfl⟩) (pa_cons (pv 4) pa_nil)))))))), ?_⟩
    have iq : Is 0 H (.ref q) (.tup [.int b, .int t, .int k]) := .tup e (.cons (.int _) (.cons (.int _) (.cons (.int _) .nil)))
    refine ⟨_, rfl, 3, _, _, 0, rfl, iq, true, rfl, iteF ?_⟩
    refine ⟨_, rfl, q, _, rfl, SqT.of e, rfl, _, _, rfl, _, _, rfl, _, _, rfl, rfl, ?_⟩
    refine ⟨_, rfl, 1, 20, _, _, 0, rfl, .int b, true, congrArg V.bl (inI_ok b1 b2), iteF ?_⟩
    refine ⟨_, rfl, _, rfl, 0, bot, _, _, 0, rfl, .int t, true, congrArg V.bl (inI_ok t1 t2), iteF ?_⟩
    refine ⟨_, rfl, 8, _, _, 0, rfl, .int k, ?_⟩
    rw [inI_ok k1 (show k ≤ 8 - 1 by omega)]
    exact kq
def spInit (C : Addr) : Sp := fun vs H Q _ => ∃ (p dx a : Addr) (bot : Int) (rs : List Rw), vs = [.ref p, .int bot, .ref a] ∧ H p = some (.ins C dx []) ∧ RowsAt H a rs ∧ RowsOk bot rs ∧ ∀ H', Kp p H H' → H' p = some (.ins C dx (bF bot a)) → Q .non H'
theorem ok_Buckets___init__ (T : Top K mg A) : FnOk P w K mg base CX0 5 A.a_Buckets___init__ A.d_Buckets___init__ P_Buckets___init__ (spInit A.c_Buckets) := by
  refine T.F_Buckets___init__.ok sc_Buckets___init__ (fun vs H Q E h => ?_) (fun cdv A' outer s H vs Q E hr h => ?_)
  · obtain ⟨p, dx, a, bot, rs, rfl, _⟩ := h
    rfl
  · obtain ⟨p, dx, a, bot, rs, rfl, ep, ⟨vs, ea, al⟩, ok, k⟩ := h
    refine ⟨_, (pss_cons (ps_if (pt_not (pt_val (pe_call (ok_is_integer_from T) (hr.mono (by decide)) (by rfl) T.g_is_integer_from T.F_is_integer_from.kp T.b_is_integer_from .nil pass0 (pa_cons pe_int (pa_cons (pe_glob (v := .int 20) rfl (T.k_GREATEST_BOTTOM).choose_spec ⟨_, rfl⟩) (pa_cons (pv 1) pa_nil)))))) (pss_one ps_never) pss_nil)
    (pss_cons (ps_if (PW.pt (pw_or (pt_not (pt_val (pe_callB call_isi (by rfl) T.z_isinstance (by decide +kernel) (pa_cons (pv 2) (pa_cons (pe_bltn (v := .ty "tuple") (by rfl) T.z_tuple (by decide +kernel) rfl) pa_nil))))) (pw_or1 (pt_not (pt_chain op_le op_le pe_int (pe_callB call_len_seq (by rfl) T.z_len (by decide +kernel) (pa_cons (pv 2) pa_nil)) (pe_glob (v := .int 12) rfl (T.k_MOST_LINES).choose_spec ⟨_, rfl⟩)))))) (pss_one ps_never) pss_nil)
    (pss_cons (ps_for PassesOwn.never rfl (GE.pi_enumA (by rfl) T.z_enumerate (pa_cons (pv 2) pa_nil)) (pg_tup rfl (pgs_cons (pg_name (i := 3) sc_Buckets___init__.nd rfl (.inl rfl)) (pgs_cons (pg_name (i := 4) sc_Buckets___init__.nd rfl (.inl rfl)) pgs_nil))) (pss_one (ps_if (PW.pt (pw_and (pt_cmpR op_notN (pv 4) pe_non (nomark _)) (pw_and1 (pt_not (pt_val (pe_call (ok_is_bucket T) (hr.mono (by decide)) (by rfl) T.g_is_bucket T.F_is_bucket.kp T.b_is_bucket .nil pass0 (pa_cons (pv 1) (pa_cons (pv 4) pa_nil)))))))) (pss_one ps_never) pss_nil)))
    (pss_cons (ps_fld (pv 0) (pv 1) (by rfl))
    (pss_one (ps_fld (pv 0) (pv 2) (by rfl))))))), ?_⟩
    have lv := al.len
    have one := ok.one
    have few := ok.few
    refine ⟨_, rfl, 1, 20, _, _, 0, rfl, .int bot, true, congrArg V.bl (inI_ok ok.b1 ok.b20), iteF ?_⟩
    refine ⟨_, rfl, _, _, _, _, _, rfl, .ty "tuple", .base (.tup ea), kitQ (a := "tuple") (b := "tuple") (r := true) (by decide +kernel) rfl, _, rfl, iteF ?_⟩
    refine ⟨_, rfl, _, _, rfl, .inr (SqT.of ea), _, _, rfl, rfl, _, rfl, ?_⟩
    rw [decide_eq_true (by omega)]
    refine iteT ⟨_, _, rfl, rfl, _, rfl, ?_⟩
    rw [decide_eq_true (by omega)]
    refine iteF ?_
    refine ⟨_, rfl, a, vs, rfl, .inr ⟨SqT.of ea, for_it GE.walk (fun i σ H' => ∃ y3 y4 : Option V, σ = [some (.ref p), some (.int bot), some (.ref a), y3, y4] ∧ Same H H') ⟨none, none, rfl, fun _ _ e => e⟩ (fun i σ H' _ ⟨_, _, _, s⟩ => SqT.of (s _ _ ea)) ?_ ?_⟩⟩
    · rintro i v σ H2 H2' hi ⟨y3, y4, rfl, s2⟩ ⟨q, x1, x2, rfl, nq, rfl, e1, e2⟩
      cases e1
      have e2 : vs[i]? = some x2 := e2
      obtain ⟨r, hr1, hr2⟩ := al.get e2
      have s3 := same_to s2 (s2.free nq) (o := .tup [.int (i : Nat), x2])
      refine ⟨q, _, rfl, SqT.of upd_same, rfl, _, _, rfl, _, _, rfl, rfl, ?_⟩
      match r, hr1, hr2 with
      | none, _, e =>
        subst e
        exact ⟨_, rfl, rfl, _, rfl, iteF ⟨_, _, rfl, s3⟩⟩
      | some (b, t, kk), hm, ⟨z, e, ez⟩ =>
        subst e
        refine ⟨_, rfl, rfl, _, rfl, iteT ?_⟩
        exact ⟨_, rfl, _, rfl, z, bot, b, t, kk, rfl, s3 _ _ ez, ok.ok _ (List.mem_of_getElem? hm), true, rfl, iteF ⟨_, _, rfl, s3⟩⟩
    · rintro σ H2 ⟨y3, y4, rfl, s2⟩
      refine ⟨_, rfl, _, rfl, p, _, dx, _, rfl, s2 _ _ ep, T.cl_Buckets, T.n_Buckets_bottom, (by show 0 < 1000; decide), ?_⟩
      refine ⟨_, rfl, _, rfl, p, _, dx, _, rfl, upd_same, T.cl_Buckets, T.n_Buckets_rows, Nat.lt_of_le_of_lt (putF_len _) (by show 1 < 1000; decide), ?_⟩
      refine k _ (fun q o hq e => ?_) upd_same
      rw [upd_ne hq, upd_ne hq]
      exact s2 _ _ e
/-- a new one -/
theorem mk_same {C x dx : Addr} {H1 H2 : Hp} (nx : H1 x = none) (nd : H1 dx = none) (k : Kp x (upd (upd H1 dx (.own x)) x (.ins C dx [])) H2) : Same H1 H2 := fun q o e => by
  have h1 : q ≠ x := ne_of_none e nx
  have h2 : q ≠ dx := ne_of_none e nd
  exact k q o h1 (by rw [upd_ne h1, upd_ne h2]; exact e)
theorem make_bk {C : Addr} {H1 : Hp} {a : Addr} {bot : Int} {rs : List Rw} {Q : VK} {E : XK} (ra : RowsAt H1 a rs) (ok : RowsOk bot rs) (k : ∀ H' p, Same H1 H' → H1 p = none → BkAt C H' p bot rs → Q (.ref p) H') :
    ∀ x dx, H1 x = none → H1 dx = none → dx ≠ x → spInit C [.ref x, .int bot, .ref a] (upd (upd H1 dx (.own x)) x (.ins C dx [])) (fun v H2 => v = .non ∧ Q (.ref x) H2) E := fun x dx nx nd ne => by
  have s0 : Same H1 (upd (upd H1 dx (.own x)) x (.ins C dx [])) := fun q o e => by
    rw [upd_ne (ne_of_none e nx), upd_ne (ne_of_none e nd)]
    exact e
  refine ⟨x, dx, a, bot, rs, rfl, upd_same, ra.same s0, ok, fun H' kp e => ⟨rfl, ?_⟩⟩
  have s := mk_same nx nd kp
  exact k H' x s nx ⟨dx, a, e, ra.same s⟩
end

/-! ### what may be held -/
def mn (i j : Int) : Int := if j < i then j else i
def sent1 (bot beats : Int) (r : Int × Int × Int) : Int := mn beats (r.1 + r.2.1 * beats / bot)
def sentR (bot beats : Int) : Rw → Int
  | none => 0
  | some r => sent1 bot beats r
def fH (bot : Int) (ts : List (Int × Int × Int)) (i : Nat) : Int := (ts.map (sent1 bot (i : Int))).sum - (i : Int)
def topsS (ts : List (Int × Int × Int)) : Int := (ts.map fun r => r.2.1).sum
def mx (f : Nat → Int) : Nat → Int
  | 0 => 0
  | n + 1 => if mx f n < f n then f n else mx f n
theorem mx_le {f : Nat → Int} : ∀ {n i : Nat}, i < n → f i ≤ mx f n
  | n + 1, i, h => by
    show f i ≤ if mx f n < f n then f n else mx f n
    by_cases e : i = n
    · subst e
      split <;> omega
    · have := mx_le (f := f) (n := n) (i := i) (by omega)
      split <;> omega
theorem mx_0 {f : Nat → Int} : ∀ n, 0 ≤ mx f n
  | 0 => Int.le_refl _
  | n + 1 => by
    have := mx_0 (f := f) n
    show 0 ≤ if mx f n < f n then f n else mx f n
    split <;> omega
theorem mx_at {f : Nat → Int} : ∀ n, mx f n = 0 ∨ ∃ i, i < n ∧ f i = mx f n
  | 0 => .inl rfl
  | n + 1 => by
    have ih := mx_at (f := f) n
    show (if mx f n < f n then f n else mx f n) = 0 ∨ ∃ i, i < n + 1 ∧ f i = if mx f n < f n then f n else mx f n
    split
    · exact .inr ⟨n, Nat.lt_succ_self _, rfl⟩
    · rcases ih with h | ⟨i, h1, h2⟩
      · exact .inl h
      · exact .inr ⟨i, Nat.lt_succ_of_lt h1, h2⟩
theorem mx_top {f : Nat → Int} {n : Nat} {b : Int} (hb : 0 ≤ b) (h : ∀ i, i < n → f i ≤ b) : mx f n ≤ b := by
  rcases mx_at (f := f) n with e | ⟨i, h1, h2⟩
  · omega
  · have := h i h1
    omega
theorem mx_is {f : Nat → Int} {n : Nat} {m : Int} (f0 : f 0 = 0) (n0 : 0 < n) (h1 : ∃ i, i < n ∧ f i = m) (h2 : ∀ i, i < n → f i ≤ m) : m = mx f n := by
  obtain ⟨i, hi, e⟩ := h1
  have := mx_le (f := f) hi
  have := mx_top (f := f) (b := m) (by have := h2 0 n0; omega) h2
  omega
theorem mx_from {f : Nat → Int} (f0 : f 0 = 0) : mx f 1 = 0 := by
  show (if (0 : Int) < f 0 then f 0 else 0) = 0
  rw [f0]
  rfl
theorem sent_step {bot : Int} (b1 : 1 ≤ bot) {r : Int × Int × Int} (hr : RowOk bot (some r)) {i : Int} (i0 : 0 ≤ i) (hi : r.1 * bot ≤ i) : sent1 bot (i + bot) r ≤ sent1 bot i r + r.2.1 := by
  obtain ⟨b, t, k⟩ := r
  obtain ⟨⟨h1, _⟩, ⟨h3, h4⟩, _⟩ := hr
  have hi : b * bot ≤ i := hi
  show mn (i + bot) (b + t * (i + bot) / bot) ≤ mn i (b + t * i / bot) + t
  have e : t * (i + bot) / bot = t * i / bot + t := by
    rw [Int.mul_add, Int.add_mul_ediv_right _ _ (by omega)]
  rw [e]
  unfold mn
  by_cases c : t = bot
  · subst c
    split <;> split <;> omega
  · have key : t * i / bot ≤ i - b := by
      have h : t * i ≤ (i - b) * bot := by
        have h5 : t * i ≤ (bot - 1) * i := Int.mul_le_mul_of_nonneg_right (by omega) i0
        rw [Int.sub_mul, Int.mul_comm i bot]
        rw [Int.sub_mul, Int.one_mul] at h5
        omega
      exact Int.ediv_le_of_le_mul (by omega) h
    split <;> split <;> omega
theorem sum_step {bot : Int} (b1 : 1 ≤ bot) {i : Int} (i0 : 0 ≤ i) : ∀ {ts : List (Int × Int × Int)}, (∀ r ∈ ts, RowOk bot (some r) ∧ r.1 * bot ≤ i) → (ts.map (sent1 bot (i + bot))).sum ≤ (ts.map (sent1 bot i)).sum + topsS ts
  | [], _ => by
    show (0 : Int) ≤ 0 + 0
    omega
  | r :: ts, h => by
    have h1 := sent_step b1 (h r List.mem_cons_self).1 i0 (h r List.mem_cons_self).2
    have h2 := sum_step b1 i0 (ts := ts) fun q hq => h q (List.mem_cons_of_mem _ hq)
    unfold topsS at h2 ⊢
    rw [List.map_cons, List.map_cons, List.map_cons, List.sum_cons, List.sum_cons, List.sum_cons]
    omega
theorem fH_0 {bot : Int} : ∀ {ts : List (Int × Int × Int)}, (∀ r ∈ ts, RowOk bot (some r)) → fH bot ts 0 = 0 := by
  intro ts h
  have z : (ts.map (sent1 bot ((0 : Nat) : Int))).sum = 0 := by
    induction ts with
    | nil => rfl
    | cons r ts ih =>
      rw [List.map_cons, List.sum_cons, ih fun q hq => h q (List.mem_cons_of_mem _ hq)]
      obtain ⟨⟨h1, _⟩, _⟩ := h r List.mem_cons_self
      show (if r.1 + r.2.1 * (0 : Int) / bot < (0 : Int) then _ else (0 : Int)) + 0 = 0
      rw [Int.mul_zero, Int.zero_ediv, if_neg (by omega)]
      rfl
  unfold fH
  rw [z]
  rfl
/-- the numbers of beats that are enough -/
theorem hold_eq {bot : Int} {ts : List (Int × Int × Int)} {R N : Nat} (b1 : 1 ≤ bot) (ok : ∀ r ∈ ts, RowOk bot (some r)) (tops : topsS ts ≤ bot) (R1 : 1 ≤ R) (reach : ∀ r ∈ ts, r.1 * bot + 2 * bot ≤ (R : Int)) (RN : R + 1 ≤ N) : mx (fH bot ts) (R + 1) = mx (fH bot ts) N := by
  have key : ∀ i : Nat, fH bot ts i ≤ mx (fH bot ts) (R + 1) := by
    intro i
    induction i using Nat.strongRecOn with
    | _ i ih =>
      by_cases c : i < R + 1
      · exact mx_le c
      · by_cases e : ts = []
        · subst e
          have := mx_0 (f := fH bot []) (R + 1)
          show (0 : Int) - (i : Int) ≤ _
          omega
        · obtain ⟨r0, hr0⟩ : ∃ r, r ∈ ts := by
            cases ts with
            | nil => exact absurd rfl e
            | cons r ts => exact ⟨r, List.mem_cons_self⟩
          have h0 := reach r0 hr0
          obtain ⟨⟨h1, _⟩, _⟩ := ok r0 hr0
          have h2 : 0 ≤ r0.1 * bot := Int.mul_nonneg (by omega) (by omega)
          obtain ⟨b, rfl⟩ : ∃ b : Nat, bot = (b : Int) := ⟨bot.toNat, by omega⟩
          have hj := ih (i - b) (by omega)
          have st := sum_step b1 (i := ((i - b : Nat) : Int)) (by omega) (ts := ts) fun r hr => ⟨ok r hr, by have := reach r hr; omega⟩
          have ei : ((i - b : Nat) : Int) + (b : Int) = (i : Int) := by omega
          rw [ei] at st
          unfold fH at hj ⊢
          omega
  have h1 := mx_top (f := fH bot ts) (n := N) (mx_0 (R + 1)) fun i _ => key i
  have h2 := mx_top (f := fH bot ts) (n := R + 1) (b := mx (fH bot ts) N) (mx_0 N) fun i hi => mx_le (by omega)
  omega
def someR (rs : List Rw) : List (Int × Int × Int) := rs.filterMap id
def holdO (bot : Int) (rs : List Rw) : Option Int := if bot < topsS (someR rs) then none else some (mx (fH bot (someR rs)) 420)
def letB (bot : Int) (rs : List Rw) (most : Int) : Bool := match holdO bot rs with
  | none => false
  | some m => decide (m ≤ most)
def optV : Option Int → V
  | none => .non
  | some i => .int i
def wr (rs : List Rw) (l : Nat) (r : Rw) : List Rw := rs.take l ++ [r] ++ rs.drop (l + 1)
theorem wr_ok {bot : Int} {rs : List Rw} {l : Nat} {r : Rw} (ok : RowsOk bot rs) (hl : l < rs.length) (hr : RowOk bot r) : RowsOk bot (wr rs l r) := by
  have len : (wr rs l r).length = rs.length := by
    unfold wr
    simp only [List.length_append, List.length_take, List.length_drop, List.length_cons, List.length_nil]
    omega
  refine ⟨by rw [len]; exact ok.one, by rw [len]; exact ok.few, fun q hq => ?_, ok.b1, ok.b20⟩
  unfold wr at hq
  rcases List.mem_append.mp hq with hq | hq
  · rcases List.mem_append.mp hq with hq | hq
    · exact ok.ok q (List.mem_of_mem_take hq)
    · rw [List.mem_singleton.mp hq]
      exact hr
  · exact ok.ok q (List.mem_of_mem_drop hq)
theorem some_ok {bot : Int} {rs : List Rw} (h : ∀ r ∈ rs, RowOk bot r) : ∀ t ∈ someR rs, RowOk bot (some t) := fun t ht => by
  obtain ⟨r, hr, e⟩ := List.mem_filterMap.mp ht
  have e : r = some t := e
  rw [← e]
  exact h r hr
/-- the last for which it is so -/
def lastP (p : Nat → Bool) : Nat → Option Nat
  | 0 => none
  | n + 1 => if p n = true then some n else lastP p n
theorem last_fil (p : Nat → Bool) : ∀ n, ((List.range n).filter p).getLast? = lastP p n
  | 0 => rfl
  | n + 1 => by
    rw [List.range_succ, List.filter_append]
    show _ = if p n = true then some n else lastP p n
    by_cases c : p n = true
    · rw [if_pos c, List.filter_cons_of_pos c]
      simp
    · rw [if_neg c, List.filter_cons_of_neg c, ← last_fil p n]
      simp
theorem last_none {p : Nat → Bool} {n : Nat} (h : (List.range n).filter p = []) : lastP p n = none := by
  rw [← last_fil, h]
  rfl
theorem last_max {p : Nat → Bool} {n i : Nat} (h : i ∈ (List.range n).filter p) (top : ∀ j ∈ (List.range n).filter p, j ≤ i) : lastP p n = some i := by
  induction n with
  | zero => cases h
  | succ n ih =>
    rw [List.range_succ, List.filter_append] at h top
    show (if p n = true then some n else lastP p n) = some i
    by_cases c : p n = true
    · rw [if_pos c]
      rw [List.filter_cons_of_pos c] at h top
      have h1 := top n (List.mem_append_right _ List.mem_cons_self)
      have h2 : i ≤ n := by
        rcases List.mem_append.mp h with h | h
        · have := List.mem_range.mp (List.mem_filter.mp h).1
          omega
        · rcases List.mem_cons.mp h with h | h
          · omega
          · cases h
      congr 1
      omega
    · rw [if_neg c]
      rw [List.filter_cons_of_neg c] at h top
      refine ih ?_ fun j hj => top j (List.mem_append_left _ hj)
      rcases List.mem_append.mp h with h | h
      · exact h
      · cases h

/-! ### what buckets let hold -/
def rwD : Rw → PyData
  | none => .none
  | some (b, t, k) => .tuple [.int b, .int t, .int k]
theorem rw_lay : ∀ r : Rw, Lay (rwD r) 1
  | none => ⟨rfl, Nat.zero_le _⟩
  | some (b, t, k) => Lay.tup fun x hx => by
    simp only [List.mem_cons, List.not_mem_nil, or_false] at hx
    rcases hx with e | e | e <;> subst e <;> exact Lay.int _
theorem rw_dp {K : PySem.W.Frag} {H : Hp} : ∀ (r : Rw) (v : V), RowAt H r v → Dp K H v (rwD r)
  | none, _, e => by
    cases (show _ = V.non from e)
    exact .non
  | some (b, t, k), _, ⟨q, e, e1⟩ => by
    subst e
    exact .tup (SqT.of e1) (.cons (.int _) (.cons (.int _) (.cons (.int _) .nil)))
theorem kit_self {C : Value} : PySem.W.kitOne K C C = some true := by
  unfold PySem.W.kitOne
  rw [if_pos (by simp)]
theorem someR_snoc {rs : List Rw} {i : Nat} {r : Rw} (h : rs[i]? = some r) : someR (rs.take (i + 1)) = someR (rs.take i) ++ r.toList := by
  unfold someR
  rw [List.take_add_one, h, List.filterMap_append]
  cases r <;> rfl
theorem someR_len {rs : List Rw} {i : Nat} : (someR (rs.take i)).length ≤ rs.length := by
  unfold someR
  exact Nat.le_trans (List.length_filterMap_le _ _) (by rw [List.length_take]; omega)
theorem cat3 {H : Hp} {rs : List Rw} {l : Nat} {r : Rw} {xs : List V} {v : V} (al : All2 (RowAt H) rs xs) (hv : RowAt H r v) : All2 (RowAt H) (wr rs l r) (xs.take l ++ [v] ++ xs.drop (l + 1)) := ((al.take l).append (.cons hv .nil)).append (al.drop (l + 1))
theorem lts {n : Nat} (h : n ≤ 1000) : n < sizeLine := Nat.lt_of_le_of_lt h (by decide)
section
variable {P : Program} {w : World} {K : PySem.W.Frag} {mg : Str → Option Value} {base : Heap} {A : Adr}
def spEqB (C : Addr) : Sp := fun vs H Q _ => ∃ (p q dx dy a b : Addr) (bot : Int) (rs : List Rw), vs = [.ref p, .ref q] ∧ H p = some (.ins C dx (bF bot a)) ∧ H q = some (.ins C dy (bF bot b)) ∧ RowsAt H a rs ∧ RowsAt H b rs ∧ Q (.bl true) H
theorem ok_Buckets___eq__ (T : Top K mg A) : FnOk P w K mg base CX0 1 A.a_Buckets___eq__ A.d_Buckets___eq__ P_Buckets___eq__ (spEqB A.c_Buckets) := by
  refine T.F_Buckets___eq__.ok sc_Buckets___eq__ (fun vs H Q E h => ?_) (fun cdv A' outer s H vs Q E hr h => ?_)
  · obtain ⟨p, q, dx, dy, a, b, bot, rs, rfl, _⟩ := h
    rfl
  · obtain ⟨p, q, dx, dy, a, b, bot, rs, rfl, hp, hq, ⟨xs, ea, ax⟩, ⟨ys, eb, ay⟩, k⟩ := h
    refine ⟨_, (pss_one (ps_ret (pe_and (pe_callB call_isi (by rfl) T.z_isinstance (by decide +kernel) (pa_cons (pv 1) (pa_cons (pe_glob (v := .ref A.c_Buckets) rfl T.gc_Buckets rfl) pa_nil))) (pe_and (pe_cmpR op_eq (pe_fld (pv 0) rfl) (pe_fld (pv 1) rfl) (nomark _)) (pe_one (pe_cmpR (op_eqD hr.units) (pe_fld (pv 0) rfl) (pe_fld (pv 1) rfl) (nomark _))))))), ?_⟩
    refine ⟨_, rfl, _, _, _, _, _, rfl, .own _, .base (.ins hq T.cl_Buckets T.ci_Buckets T.en1 T.en2 T.em_Buckets), kit_self, true, rfl, iteT ?_⟩
    refine ⟨_, rfl, p, _, _, _, _, rfl, hp, T.cl_Buckets, T.n_Buckets_bottom, bf1, _, rfl, q, _, _, _, _, rfl, hq, T.cl_Buckets, T.n_Buckets_bottom, bf1, rfl, true, by rw [dec_self], iteT ?_⟩
    have ld : Lay (.tuple (rs.map rwD)) 2 := Lay.tup fun x hx => by
      obtain ⟨r, _, rfl⟩ := List.mem_map.mp hx
      exact rw_lay r
    refine ⟨_, rfl, p, _, _, _, _, rfl, hp, T.cl_Buckets, T.n_Buckets_rows, bf2, _, rfl, q, _, _, _, _, rfl, hq, T.cl_Buckets, T.n_Buckets_rows, bf2, .tuple (rs.map rwD), .tuple (rs.map rwD), .tup (SqT.of ea) (dpAll_of rw_dp ax), .tup (SqT.of eb) (dpAll_of rw_dp ay), ld.sh (by decide), ld.sh (by decide), ?_⟩
    rw [SeqAt.eqv_refl _ ld.lay]
    exact k
def spChkL (C : Addr) : Sp := fun vs H Q _ => ∃ (p : Addr) (bot : Int) (rs : List Rw) (l : Nat), vs = [.ref p, .int (l : Int)] ∧ BkAt C H p bot rs ∧ l < rs.length ∧ Q .non H
theorem ok_check_line (T : Top K mg A) : FnOk P w K mg base CX0 4 A.a_check_line A.d_check_line P_check_line (spChkL A.c_Buckets) := by
  refine T.F_check_line.ok sc_check_line (fun vs H Q E h => ?_) (fun cdv A' outer s H vs Q E hr h => ?_)
  · obtain ⟨p, bot, rs, l, rfl, _⟩ := h
    rfl
  · obtain ⟨p, bot, rs, l, rfl, ⟨dx, a, hp, xs, ea, al⟩, hl, k⟩ := h
    refine ⟨_, (pss_one (ps_if (pt_not (pt_val (pe_call (ok_is_number_below T) (hr.mono (by decide)) (by rfl) T.g_is_number_below T.F_is_number_below.kp T.b_is_number_below .nil pass0 (pa_cons (pe_callB call_len_seq (by rfl) T.z_len (by decide +kernel) (pa_cons (pe_fld (pv 0) rfl) pa_nil)) (pa_cons (pv 1) pa_nil))))) (pss_one ps_never) pss_nil)), ?_⟩
    have lx := al.len
    refine ⟨_, rfl, p, _, _, _, _, rfl, hp, T.cl_Buckets, T.n_Buckets_rows, bf2, a, xs, rfl, .inr (SqT.of ea), _, rfl, (xs.length : Int), _, _, 0, rfl, .int _, true, congrArg V.bl (inI_ok (by omega) (by omega)), iteF k⟩
def spChkN : Sp := fun vs H Q _ => ∃ (n : Int), vs = [.int n] ∧ 0 ≤ n ∧ n ≤ 1000000000 ∧ Q .non H
theorem ok_check_number (T : Top K mg A) : FnOk P w K mg base CX0 3 A.a_check_number A.d_check_number P_check_number spChkN := by
  refine T.F_check_number.ok sc_check_number (fun vs H Q E h => ?_) (fun cdv A' outer s H vs Q E hr h => ?_)
  · obtain ⟨n, rfl, _⟩ := h
    rfl
  · obtain ⟨n, rfl, n0, n1, k⟩ := h
    refine ⟨_, (pss_one (ps_if (pt_not (pt_val (pe_call (ok_is_integer_from T) (hr.mono (by decide)) (by rfl) T.g_is_integer_from T.F_is_integer_from.kp T.b_is_integer_from .nil pass0 (pa_cons pe_int (pa_cons (pe_glob (v := .int 1000000000) rfl (T.k_GREATEST_NUMBER).choose_spec ⟨_, rfl⟩) (pa_cons (pv 0) pa_nil)))))) (pss_one ps_never) pss_nil)), ?_⟩
    exact ⟨_, rfl, 0, 1000000000, _, _, 0, rfl, .int n, true, congrArg V.bl (inI_ok n0 n1), iteF k⟩
def spMost : Sp := fun vs H Q _ => ∃ (bot beats : Int) (r : Rw) (v : V), vs = [.int bot, v, .int beats] ∧ RowAt H r v ∧ RowOk bot r ∧ 1 ≤ bot ∧ bot ≤ 20 ∧ Q (.int (sentR bot beats r)) H
theorem ok_most_of (T : Top K mg A) : FnOk P w K mg base CX0 1 A.a_most_of A.d_most_of P_most_of spMost := by
  refine T.F_most_of.ok sc_most_of (fun vs H Q E h => ?_) (fun cdv A' outer s H vs Q E hr h => ?_)
  · obtain ⟨bot, beats, r, v, rfl, _⟩ := h
    rfl
  · obtain ⟨bot, beats, r, v, rfl, hv, ok, b1, b20, k⟩ := h
    refine ⟨_, (pss_cons (ps_if (pt_cmpR op_isN (pv 1) pe_non (nomark _)) (pss_one (ps_ret pe_int)) pss_nil)
    (pss_cons (ps_asg (pv 1) (pg_tup rfl (pgs_cons (pg_name (i := 3) sc_most_of.nd rfl (.inl rfl)) (pgs_cons (pg_name (i := 4) sc_most_of.nd rfl (.inl rfl)) (pgs_cons (pg_name (i := 5) sc_most_of.nd rfl (.inl rfl)) pgs_nil)))))
    (pss_one (ps_ret (pe_callB (call_min2 rfl) (by rfl) T.z_min (by decide +kernel) (pa_cons (pv 2) (pa_cons (pe_op op_add (pv 3) (pe_op op_fdiv (pe_op op_mul (pv 4) (pv 2)) (pv 0))) pa_nil))))))), ?_⟩
    match r, hv, ok, k with
    | none, e, _, k =>
      cases (show v = V.non from e)
      exact ⟨_, rfl, rfl, _, rfl, iteT k⟩
    | some (b, t, kk), ⟨q, e, eq⟩, ok, k =>
      subst e
      obtain ⟨⟨h1, h2⟩, ⟨h3, h4⟩, _⟩ := ok
      refine ⟨_, rfl, rfl, _, rfl, iteF ?_⟩
      refine ⟨_, rfl, q, _, rfl, SqT.of eq, rfl, _, _, rfl, _, _, rfl, _, _, rfl, rfl, ?_⟩
      refine ⟨_, rfl, _, rfl, _, rfl, _, rfl, _, _, rfl, rfl, .inl ⟨by omega, by omega⟩, _, rfl, _, _, rfl, rfl, ⟨by omega, by omega⟩, _, _, rfl, rfl, _, _, rfl, ?_⟩
      exact k
def TrAt (H : Hp) (t : Int × Int × Int) (v : V) : Prop := RowAt H (some t) v
theorem TrAt.same {H H' : Hp} {t : Int × Int × Int} {v : V} (x : TrAt H t v) (s : Same H H') : TrAt H' t v := RowAt.same (r := some t) x s
def spTogether : Sp := fun vs H Q _ => ∃ (bot beats : Int) (D : Addr) (us : List V) (ts : List (Int × Int × Int)), vs = [.int bot, .ref D, .int beats] ∧ H D = some (.lst us) ∧ All2 (TrAt H) ts us ∧ ts.length ≤ 12 ∧ (∀ t ∈ ts, RowOk bot (some t)) ∧ 1 ≤ bot ∧ bot ≤ 20 ∧ ∀ H', Same H H' → Q (.int (ts.map (sent1 bot beats)).sum) H'
theorem ok_most_together (T : Top K mg A) : FnOk P w K mg base CX0 2 A.a_most_together A.d_most_together P_most_together spTogether := by
  refine T.F_most_together.ok sc_most_together (fun vs H Q E h => ?_) (fun cdv A' outer s H vs Q E hr h => ?_)
  · obtain ⟨bot, beats, D, us, ts, rfl, _⟩ := h
    rfl
  · obtain ⟨bot, beats, D, us, ts, rfl, eD, al, few, ok, b1, b20, k⟩ := h
    refine ⟨_, (pss_one (ps_ret (pe_callB (cr_sum rfl) (by rfl) T.z_sum (by decide +kernel) (pa_cons (pe_lc (own := [("row", 3)]) (by rfl) sc_most_together.nd (pi_list (pv 1)) (blkOk_by (own := [("row", 3)]) (N := N_most_together) (sc := defScope s_most_together) (by decide +kernel)) (fun _ _ _ _ _ => (pg_name (i := 3) sc_most_together.nd rfl (.inl rfl))) (fun _ _ _ _ _ => pts_nil) (fun _ _ _ _ _ => (pe_call (ok_most_of (P := P) (w := w) T) (hr.mono (by decide)) (by rfl) T.g_most_of T.F_most_of.kp T.b_most_of .nil pass0 (pa_cons (pv 0) (pa_cons (pv 3) (pa_cons (pv 2) pa_nil)))))) pa_nil)))), ?_⟩
    refine ⟨_, rfl, D, rfl, ⟨_, SqL.of eD⟩, fun F nF => ?_⟩
    refine lc_list (K := K) (a := D) (xs := us) (LP H F ((ts.map (sent1 bot beats)).map V.int)) (LP.start nF) (fun i H' _ p => SqL.of (p.1 _ _ eD)) ?_ ?_
    · rintro i x H' hx p
      obtain ⟨t, ht, hv⟩ := al.get hx
      refine ⟨rfl, ?_⟩
      refine ⟨_, rfl, _, rfl, _, rfl, bot, beats, some t, x, rfl, RowAt.same (r := some t) hv p.1, ok t (List.mem_of_getElem? ht), b1, b20, ?_⟩
      exact lcPut nF p (fun _ _ e => e) (map_at (map_at ht)) (by rw [List.length_map, List.length_map]; omega)
    · rintro H' ⟨s1, d1⟩
      rw [take_all (by rw [List.length_map, List.length_map]; exact al.len.symm)] at d1
      exact ⟨F, _, rfl, SqL.of d1, k H' s1⟩
def ks8 : List V := rgV 0 8
def spRowsOf (C : Addr) : Sp := fun vs H Q _ => ∃ (p l : Addr) (bot : Int) (rs : List Rw), vs = [.ref p, .ref l] ∧ BkAt C H p bot rs ∧ RowsOk bot rs ∧ H l = some (.lst (rgV 0 8)) ∧
  ∀ (H' : Hp) (D : Addr) (us : List V), Same H H' → H' D = some (.lst us) → All2 (TrAt H') (someR rs) us → Q (.ref D) H'
theorem in8 {k : Int} (k0 : 0 ≤ k) (k7 : k ≤ 7) : inV (.int k) (rgV 0 8) = true := by
  obtain ⟨n, rfl⟩ : ∃ n : Nat, k = (n : Int) := ⟨k.toNat, by omega⟩
  match n, k7 with
  | 0, _ => rfl
  | 1, _ => rfl
  | 2, _ => rfl
  | 3, _ => rfl
  | 4, _ => rfl
  | 5, _ => rfl
  | 6, _ => rfl
  | 7, _ => rfl
  | n + 8, h => omega
theorem ok_rows_of (T : Top K mg A) : FnOk P w K mg base CX0 1 A.a_rows_of A.d_rows_of P_rows_of (spRowsOf A.c_Buckets) := by
  refine T.F_rows_of.ok sc_rows_of (fun vs H Q E h => ?_) (fun cdv A' outer s H vs Q E hr h => ?_)
  · obtain ⟨p, l, bot, rs, rfl, _⟩ := h
    rfl
  · obtain ⟨p, l, bot, rs, rfl, ⟨dx, a, hp, xs, ea, al⟩, ok, el, k⟩ := h
    refine ⟨_, (pss_one (ps_ret (pe_lc (own := [("row", 2)]) (by rfl) sc_rows_of.nd (pi_tup (pe_fld (pv 0) rfl)) (blkOk_by (own := [("row", 2)]) (N := N_rows_of) (sc := defScope s_rows_of) (by decide +kernel)) (fun _ _ _ _ _ => (pg_name (i := 2) sc_rows_of.nd rfl (.inl rfl))) (fun _ _ _ _ _ => (pts_one (PW.pt (pw_and (pt_cmpR op_notN (pv 2) pe_non (nomark _)) (pw_and1 (pt_cmpR (show OpR _ _ (rIn K false) from op_in_seq) (pe_ix (show IxR _ (rIxT K) from ix_tup) (pv 2) pe_int (fun _ _ => rfl)) (pv 1) (by rfl))))))) (fun _ _ _ _ _ => (pv 2))))), ?_⟩
    have few := ok.few
    refine ⟨_, rfl, p, _, _, _, _, rfl, hp, T.cl_Buckets, T.n_Buckets_rows, bf2, a, rfl, ⟨_, SqT.of ea⟩, fun D nD => ?_⟩
    refine lc_tup (K := K) (a := a) (xs := xs) (fun i H' => ∃ us, Same H H' ∧ H' D = some (.lst us) ∧ All2 (TrAt H') (someR (rs.take i)) us) ⟨[], same_upd nD, upd_same, .nil⟩ (fun i H' _ ⟨_, s, _⟩ => SqT.of (s _ _ ea)) ?_ ?_
    · rintro i x H' hx ⟨us, s1, d1, au⟩
      obtain ⟨r, hr1, hv⟩ := al.get hx
      have hv := hv.same s1
      have ln := someR_len (rs := rs) (i := i)
      have lu := au.len
      refine ⟨rfl, ?_⟩
      match r, hr1, hv with
      | none, hr1, e =>
        cases (show x = V.non from e)
        refine ⟨_, rfl, rfl, _, rfl, iteF ⟨us, s1, d1, ?_⟩⟩
        rw [someR_snoc hr1]
        show All2 _ (_ ++ []) _
        rw [List.append_nil]
        exact au
      | some (b, t, kk), hr1, ⟨q, e, eq⟩ =>
        subst e
        obtain ⟨_, _, k0, k7⟩ := ok.ok _ (List.mem_of_getElem? hr1)
        refine ⟨_, rfl, rfl, _, rfl, iteT ?_⟩
        refine ⟨_, rfl, q, _, 2, _, rfl, rfl, SqT.of eq, atI_nat (j := 2) rfl, _, rfl, l, _, rfl, .inl (SqL.of (s1 _ _ el)), rfl, rfl, _, rfl, ?_⟩
        rw [show (if false = true then !inV (V.int kk) (rgV 0 8) else inV (V.int kk) (rgV 0 8)) = true from in8 k0 k7]
        refine iteT ⟨_, rfl, us, d1, by rw [← lu]; exact lts (by omega), us ++ [.ref q], same_to s1 nD, upd_same, ?_⟩
        rw [someR_snoc hr1]
        have tups : ∀ z xs, H' z = some (.tup xs) → (upd H' D (.lst (us ++ [.ref q]))) z = some (.tup xs) := fun z xs e => by
          rw [upd_ne (fun w => by rw [w, d1] at e; cases e)]
          exact e
        exact (au.imp fun t v h => RowAt.mv (r := some t) tups h).snoc ⟨q, rfl, tups _ _ eq⟩
    · rintro H' ⟨us, s1, d1, au⟩
      rw [← al.len, List.take_length] at au
      exact k H' D us s1 d1 au
def spTops : Sp := fun vs H Q _ => ∃ (D : Addr) (us : List V) (ts : List (Int × Int × Int)), vs = [.ref D] ∧ H D = some (.lst us) ∧ All2 (TrAt H) ts us ∧ ts.length ≤ 12 ∧ ∀ H', Same H H' → Q (.int (topsS ts)) H'
theorem ok_tops_of (T : Top K mg A) : FnOk P w K mg base CX0 1 A.a_tops_of A.d_tops_of P_tops_of spTops := by
  refine T.F_tops_of.ok sc_tops_of (fun vs H Q E h => ?_) (fun cdv A' outer s H vs Q E hr h => ?_)
  · obtain ⟨D, us, ts, rfl, _⟩ := h
    rfl
  · obtain ⟨D, us, ts, rfl, eD, al, few, k⟩ := h
    refine ⟨_, (pss_one (ps_ret (pe_callB (cr_sum rfl) (by rfl) T.z_sum (by decide +kernel) (pa_cons (pe_lc (own := [("_", 1), ("top", 2)]) (by rfl) sc_tops_of.nd (pi_list (pv 0)) (blkOk_by (own := [("_", 1), ("top", 2)]) (N := N_tops_of) (sc := defScope s_tops_of) (by decide +kernel)) (fun _ _ _ _ _ => (show PG _ _ (gTup K 3 _) from (pg_tup rfl (pgs_cons (pg_name (i := 1) sc_tops_of.nd rfl (.inl rfl)) (pgs_cons (pg_name (i := 2) sc_tops_of.nd rfl (.inl rfl)) (pgs_cons (pg_name (i := 1) sc_tops_of.nd rfl (.inl rfl)) pgs_nil)))))) (fun _ _ _ _ _ => pts_nil) (fun _ _ _ _ _ => (pv 2))) pa_nil)))), ?_⟩
    refine ⟨_, rfl, D, rfl, ⟨_, SqL.of eD⟩, fun F nF => ?_⟩
    refine lc_list (K := K) (a := D) (xs := us) (LP H F ((ts.map fun r => r.2.1).map V.int)) (LP.start nF) (fun i H' _ p => SqL.of (p.1 _ _ eD)) ?_ ?_
    · rintro i x H' hx p
      obtain ⟨⟨b, t, kk⟩, ht, q, rfl, eq⟩ := al.get hx
      refine ⟨q, _, rfl, SqT.of (p.1 _ _ eq), rfl, _, _, rfl, _, _, rfl, _, _, rfl, rfl, rfl, ?_⟩
      refine ⟨_, rfl, ?_⟩
      exact lcPut nF p (fun _ _ e => e) (map_at (map_at ht)) (by rw [List.length_map, List.length_map]; omega)
    · rintro H' ⟨s1, d1⟩
      rw [take_all (by rw [List.length_map, List.length_map]; exact al.len.symm)] at d1
      exact ⟨F, _, rfl, SqL.of d1, k H' s1⟩
def spHold (C : Addr) : Sp := fun vs H Q _ => ∃ (p : Addr) (bot : Int) (rs : List Rw), vs = [.ref p] ∧ BkAt C H p bot rs ∧ RowsOk bot rs ∧ ∀ H', Same H H' → Q (optV (holdO bot rs)) H'
theorem ok_greatest_hold (T : Top K mg A) : FnOk P w K mg base CX0 3 A.a_greatest_hold A.d_greatest_hold P_greatest_hold (spHold A.c_Buckets) := by
  refine T.F_greatest_hold.ok sc_greatest_hold (fun vs H Q E h => ?_) (fun cdv A' outer s H vs Q E hr h => ?_)
  · obtain ⟨p, bot, rs, rfl, _⟩ := h
    rfl
  · obtain ⟨p, bot, rs, rfl, bk, ok, k⟩ := h
    refine ⟨_, (pss_cons (ps_set (i := 1) sc_greatest_hold.nd rfl (.inr rfl) (pe_call (ok_rows_of T) (hr.mono (by decide)) (by rfl) T.g_rows_of T.F_rows_of.kp T.b_rows_of .nil pass0 (pa_cons (pv 0) (pa_cons (pe_listRg rfl (by rfl) T.z_list (prg_1 (by rfl) T.z_range (pe_glob (v := .int 8) rfl (T.k_KINDS).choose_spec ⟨_, rfl⟩))) pa_nil))))
    (pss_cons (ps_if (pt_cmpR op_gt (pe_call (ok_tops_of T) (hr.mono (by decide)) (by rfl) T.g_tops_of T.F_tops_of.kp T.b_tops_of .nil pass0 (pa_cons (pv 1) pa_nil)) (pe_fld (pv 0) rfl) (nomark _)) (pss_one (ps_ret pe_non)) pss_nil)
    (pss_one (ps_ret (pe_callB (cr_max rfl) (by rfl) T.z_max (by decide +kernel) (pa_cons (pe_lc (own := [("beats", 2)]) (by rfl) sc_greatest_hold.nd (pi_range1 rfl T.z_range (pa_cons (pe_glob (v := .int 420) rfl (T.k_LONGEST).choose_spec ⟨_, rfl⟩) pa_nil)) (blkOk_by (own := [("beats", 2)]) (N := N_greatest_hold) (sc := defScope s_greatest_hold) (by decide +kernel)) (fun _ _ _ _ _ => (pg_name (i := 2) sc_greatest_hold.nd rfl (.inl rfl))) (fun _ _ _ _ _ => pts_nil) (fun _ _ _ _ _ => (pe_op op_sub (pe_call (ok_most_together (P := P) (w := w) T) (hr.mono (by decide)) (by rfl) T.g_most_together T.F_most_together.kp T.b_most_together .nil pass0 (pa_cons (show PE _ _ (tFld K _ "bottom") from pe_fld (pv 0) (by rfl)) (pa_cons (pv 1) (pa_cons (pv 2) pa_nil)))) (pv 2)))) pa_nil)))))), ?_⟩
    refine ⟨_, rfl, 8, rfl, ⟨by decide, by decide, by decide⟩, fun l nl => ?_⟩
    have s1 := same_upd nl (o := .lst (rgV 0 8))
    refine ⟨p, l, bot, rs, rfl, bk.same s1, ok, upd_same, fun H2 D us s2 eD al => ?_⟩
    have s12 := s1.trans s2
    have lts1 : (someR rs).length ≤ 12 := Nat.le_trans (List.length_filterMap_le _ _) ok.few
    refine ⟨_, rfl, D, us, someR rs, rfl, eD, al, lts1, fun H3 s3 => ?_⟩
    obtain ⟨dx, a, hp, ra⟩ := bk.same (s12.trans s3)
    refine ⟨_, rfl, p, _, _, _, _, rfl, hp, T.cl_Buckets, T.n_Buckets_bottom, bf1, _, _, rfl, rfl, _, rfl, ?_⟩
    have s13 := s12.trans s3
    unfold holdO at k
    by_cases c : bot < topsS (someR rs)
    · rw [if_pos c] at k
      rw [decide_eq_true c]
      exact iteT (k H3 s13)
    · rw [if_neg c] at k
      rw [decide_eq_false c]
      refine iteF ?_
      refine ⟨420, rfl, by decide, by decide, fun F nF => ?_⟩
      refine lc_range (lo := 0) (n := (420 : Int).toNat) (fun j H' => Same H3 H' ∧ H' F = some (.lst (((List.range j).map (fH bot (someR rs))).map V.int))) ⟨same_upd nF, upd_same⟩ ?_ ?_
      · rintro j H4 hj ⟨s4, d4⟩
        refine ⟨rfl, ?_⟩
        rw [Int.zero_add]
        refine ⟨_, rfl, p, _, _, _, _, rfl, s4 _ _ hp, T.cl_Buckets, T.n_Buckets_bottom, bf1, _, rfl, _, rfl, bot, (j : Int), D, us, someR rs, rfl, s4 _ _ (s3 _ _ eD), al.imp fun _ _ t => (t.same s3).same s4, lts1, some_ok ok.ok, ok.b1, ok.b20, fun H5 s5 => ?_⟩
        refine ⟨_, rfl, _, _, rfl, rfl, ?_⟩
        have hj : j < 420 := hj
        refine ⟨_, s5 _ _ d4, lts (by rw [List.length_map, List.length_map, List.length_range]; omega), same_to (s4.trans s5) nF, ?_⟩
        rw [upd_same, List.range_succ, List.map_append, List.map_append]
        rfl
      · rintro H4 ⟨s4, d4⟩
        refine ⟨F, _, rfl, SqL.of d4, by rw [List.length_map, List.length_range]; decide, fun m hm top => ?_⟩
        have e : m = mx (fH bot (someR rs)) 420 := by
          refine mx_is (fH_0 (some_ok ok.ok)) (by decide) ?_ fun i hi => top _ (List.mem_map.mpr ⟨i, List.mem_range.mpr hi, rfl⟩)
          obtain ⟨i, hi, ei⟩ := List.mem_map.mp hm
          exact ⟨i, List.mem_range.mp hi, ei⟩
        rw [e]
        exact k H4 (s13.trans s4)
end

/-! ### lines let in -/
def lstAt {α : Type} (R : α → V → Prop) (H : Hp) (D : Addr) (l : List α) : Prop := ∃ us, H D = some (.lst us) ∧ All2 R l us
theorem bl_and {a b : Bool} : (if a = true then (V.bl b) else V.bl false) = V.bl (a && b) := by cases a <;> rfl
section
variable {P : Program} {w : World} {K : PySem.W.Frag} {mg : Str → Option Value} {base : Heap} {A : Adr}
def spWith (C : Addr) : Sp := fun vs H Q _ => ∃ (p : Addr) (bot : Int) (rs : List Rw) (l : Nat) (r : Rw) (v : V), vs = [.ref p, .int (l : Int), v] ∧ BkAt C H p bot rs ∧ RowsOk bot rs ∧ l < rs.length ∧ RowAt H r v ∧ RowOk bot r ∧
  ∀ H' p', Same H H' → BkAt C H' p' bot (wr rs l r) → Q (.ref p') H'
theorem ok_with_row (T : Top K mg A) : FnOk P w K mg base CX0 7 A.a_with_row A.d_with_row P_with_row (spWith A.c_Buckets) := by
  refine T.F_with_row.ok sc_with_row (fun vs H Q E h => ?_) (fun cdv A' outer s H vs Q E hr h => ?_)
  · obtain ⟨p, bot, rs, l, r, v, rfl, _⟩ := h
    rfl
  · obtain ⟨p, bot, rs, l, r, v, rfl, bk, ok, hl, hv, hr2, k⟩ := h
    refine ⟨_, (pss_cons (ps_expr (pe_call (ok_check_line T) (hr.mono (by decide)) (by rfl) T.g_check_line T.F_check_line.kp T.b_check_line .nil pass0 (pa_cons (pv 0) (pa_cons (pv 1) pa_nil))))
    (pss_one (ps_ret (pe_make T.mk_Buckets (ok_Buckets___init__ T) (hr.mono (by decide)) (by rfl) T.gc_Buckets T.b_Buckets___init__ .nil pass0 (pa_cons (pe_fld (pv 0) rfl) (pa_cons (pe_op op_catA (pe_op op_catA (pe_slice sl_tupA (pe_fld (pv 0) rfl) po_none (po_some (pv 1))) (pe_tup (pa_cons (pv 2) pa_nil))) (pe_slice sl_tupA (pe_fld (pv 0) rfl) (po_some (pe_op op_add (pv 1) pe_int)) po_none)) pa_nil)))))), ?_⟩
    unfold tNoPart
    refine ⟨_, rfl, _, rfl, p, bot, rs, l, rfl, bk, hl, ?_⟩
    obtain ⟨dx, a, hp, xs, ea, al⟩ := bk
    have lx := al.len
    have few := ok.few
    have hto : cutV xs none (some (l : Int)) = xs.take l := cut_to (by omega)
    have hfrom : cutV xs (some ((l : Int) + 1)) none = xs.drop (l + 1) := by
      rw [show (l : Int) + 1 = ((l + 1 : Nat) : Int) by omega]
      exact cut_from (by omega)
    refine ⟨_, rfl, p, _, _, _, _, rfl, hp, T.cl_Buckets, T.n_Buckets_bottom, bf1, ?_⟩
    refine ⟨_, rfl, p, _, _, _, _, rfl, hp, T.cl_Buckets, T.n_Buckets_rows, bf2, _, rfl, _, rfl, ?_⟩
    refine sl_at ea fun G1 p1 s1 z1 => ?_
    have e1 : G1 p1 = some (.tup (xs.take l)) := hto ▸ z1
    refine ⟨_, rfl, (by show 1 ≤ sizeLine; decide), fun p2 n2 => ?_⟩
    obtain ⟨G2, eH, s2, e2⟩ := newH n2 (o := .tup [v])
    rw [eH]
    clear eH
    refine cat_at (s2 _ _ e1) e2 (by simp only [List.length_take, List.length_cons, List.length_nil]; omega) fun G3 p3 s3 e3 => ?_
    have s13 := (s1.trans s2).trans s3
    refine ⟨_, rfl, p, _, _, _, _, rfl, s13 _ _ hp, T.cl_Buckets, T.n_Buckets_rows, bf2, _, rfl, _, _, rfl, rfl, _, rfl, ?_⟩
    refine sl_at (s13 _ _ ea) fun G4 p4 s4 z4 => ?_
    have e4 : G4 p4 = some (.tup (xs.drop (l + 1))) := hfrom ▸ z4
    refine cat_at (s4 _ _ e3) e4 (by simp only [List.length_append, List.length_take, List.length_drop, List.length_cons, List.length_nil]; omega) fun G5 p5 s5 e5 => ?_
    have s15 := (s13.trans s4).trans s5
    exact make_bk ⟨_, e5, (cat3 al hv).imp fun _ _ t => t.same s15⟩ (wr_ok ok hl hr2) fun H' p' s' _ bk' => k H' p' (s15.trans s') bk'
def spAtMost (C : Addr) : Sp := fun vs H Q _ => ∃ (p : Addr) (bot most : Int) (rs : List Rw), vs = [.ref p, .int most] ∧ BkAt C H p bot rs ∧ RowsOk bot rs ∧ ∀ H', Same H H' → Q (.bl (letB bot rs most)) H'
theorem ok_holds_at_most (T : Top K mg A) : FnOk P w K mg base CX0 4 A.a_holds_at_most A.d_holds_at_most P_holds_at_most (spAtMost A.c_Buckets) := by
  refine T.F_holds_at_most.ok sc_holds_at_most (fun vs H Q E h => ?_) (fun cdv A' outer s H vs Q E hr h => ?_)
  · obtain ⟨p, bot, most, rs, rfl, _⟩ := h
    rfl
  · obtain ⟨p, bot, most, rs, rfl, bk, ok, k⟩ := h
    refine ⟨_, (pss_cons (ps_set (i := 2) sc_holds_at_most.nd rfl (.inl rfl) (pe_call (ok_greatest_hold T) (hr.mono (by decide)) (by rfl) T.g_greatest_hold T.F_greatest_hold.kp T.b_greatest_hold .nil pass0 (pa_cons (pv 0) pa_nil)))
    (pss_one (ps_ret (pe_and (pe_cmpR op_notN (pv 2) pe_non (nomark _)) (pe_one (pe_cmpR op_le (pv 2) (pv 1) (nomark _))))))), ?_⟩
    refine ⟨_, rfl, p, bot, rs, rfl, bk, ok, fun H' s => ?_⟩
    have k := k H' s
    unfold letB at k
    refine ⟨_, rfl, rfl, _, rfl, ?_⟩
    cases c : holdO bot rs with
    | none =>
      rw [c] at k
      exact iteF k
    | some m =>
      rw [c] at k
      exact iteT ⟨_, rfl, _, rfl, _, _, rfl, rfl, k⟩
def spLetIn (C : Addr) : Sp := fun vs H Q _ => ∃ (p : Addr) (bot most : Int) (rs : List Rw) (l : Nat) (r : Rw) (v : V), vs = [.ref p, .int (l : Int), v, .int most] ∧ BkAt C H p bot rs ∧ RowsOk bot rs ∧ l < rs.length ∧ RowAt H r v ∧ RowOk bot r ∧ 0 ≤ most ∧ most ≤ 1000 ∧
  ∀ H', Same H H' → Q (.bl (letB bot (wr rs l r) most)) H'
theorem ok_let_in (T : Top K mg A) : FnOk P w K mg base CX0 8 A.a_let_in A.d_let_in P_let_in (spLetIn A.c_Buckets) := by
  refine T.F_let_in.ok sc_let_in (fun vs H Q E h => ?_) (fun cdv A' outer s H vs Q E hr h => ?_)
  · obtain ⟨p, bot, most, rs, l, r, v, rfl, _⟩ := h
    rfl
  · obtain ⟨p, bot, most, rs, l, r, v, rfl, bk, ok, hl, hv, hr2, m0, m1, k⟩ := h
    refine ⟨_, (pss_cons (ps_set (i := 4) sc_let_in.nd rfl (.inl rfl) (pe_call (ok_with_row T) (hr.mono (by decide)) (by rfl) T.g_with_row T.F_with_row.kp T.b_with_row .nil pass0 (pa_cons (pv 0) (pa_cons (pv 1) (pa_cons (pv 2) pa_nil)))))
    (pss_cons (ps_expr (pe_call (ok_check_number T) (hr.mono (by decide)) (by rfl) T.g_check_number T.F_check_number.kp T.b_check_number .nil pass0 (pa_cons (pv 3) pa_nil)))
    (pss_one (ps_ret (pe_call (ok_holds_at_most T) (hr.mono (by decide)) (by rfl) T.g_holds_at_most T.F_holds_at_most.kp T.b_holds_at_most .nil pass0 (pa_cons (pv 4) (pa_cons (pv 3) pa_nil))))))), ?_⟩
    refine ⟨_, rfl, _, rfl, _, rfl, p, bot, rs, l, r, v, rfl, bk, ok, hl, hv, hr2, fun H' p' s bk' => ?_⟩
    refine ⟨_, rfl, most, rfl, m0, by omega, ?_⟩
    exact ⟨_, rfl, _, rfl, p', bot, most, wr rs l r, rfl, bk', wr_ok ok hl hr2, fun H2 s2 => k H2 (s.trans s2)⟩
def lstD (p : Nat → Bool) (n : Nat) : List V := ((List.range n).filter p).map fun (i : Nat) => V.int (i : Int)
theorem fil_next {p : Nat → Bool} {i : Nat} : lstD p (i + 1) = lstD p i ++ if p i = true then [V.int (i : Int)] else [] := by
  unfold lstD
  rw [List.range_succ, List.filter_append, List.map_append]
  congr 1
  by_cases c : p i = true
  · rw [if_pos c, List.filter_cons_of_pos c]
    rfl
  · rw [if_neg c, List.filter_cons_of_neg c]
    rfl
theorem fil_len {p : Nat → Bool} {i : Nat} : (lstD p i).length ≤ i := by
  unfold lstD
  rw [List.length_map]
  exact Nat.le_trans (List.length_filter_le _ _) (by rw [List.length_range]; exact Nat.le_refl _)
def lastV (o : Option Nat) : V := match o with
  | none => .non
  | some i => .int (i : Int)
def spGIn (C : Addr) : Sp := fun vs H Q _ => ∃ (p D : Addr) (bot most : Int) (rs qs : List Rw) (l : Nat) (us : List V), vs = [.ref p, .int (l : Int), .ref D, .int most] ∧ BkAt C H p bot rs ∧ RowsOk bot rs ∧ l < rs.length ∧ H D = some (.lst us) ∧ All2 (RowAt H) qs us ∧ (∀ r ∈ qs, RowOk bot r) ∧ 1 ≤ qs.length ∧ qs.length ≤ 100 ∧ 0 ≤ most ∧ most ≤ 1000 ∧
  ∀ H', Same H H' → Q (lastV (lastP (fun i => letB bot (wr rs l (qs.getD i none)) most) qs.length)) H'
theorem ok_greatest_in (T : Top K mg A) : FnOk P w K mg base CX0 8 A.a_greatest_in A.d_greatest_in P_greatest_in (spGIn A.c_Buckets) := by
  refine T.F_greatest_in.ok sc_greatest_in (fun vs H Q E h => ?_) (fun cdv A' outer s H vs Q E hr h => ?_)
  · obtain ⟨p, D, bot, most, rs, qs, l, us, rfl, _⟩ := h
    rfl
  · obtain ⟨p, D, bot, most, rs, qs, l, us, rfl, bk, ok, hl, eD, al, good, one, few, m0, m1, k⟩ := h
    refine ⟨_, (pss_cons (ps_expr (pe_call (ok_with_row T) (hr.mono (by decide)) (by rfl) T.g_with_row T.F_with_row.kp T.b_with_row .nil pass0 (pa_cons (pv 0) (pa_cons (pv 1) (pa_cons (pe_ix ix_list (pv 2) pe_int (fun _ _ => rfl)) pa_nil)))))
    (pss_cons (ps_expr (pe_call (ok_check_number T) (hr.mono (by decide)) (by rfl) T.g_check_number T.F_check_number.kp T.b_check_number .nil pass0 (pa_cons (pv 3) pa_nil)))
    (pss_cons (ps_setLc (i := 4) (own := [("number", 5), ("row", 6)]) (by rfl) sc_greatest_in.nd rfl rfl (sw_true rfl rfl rfl (by decide +kernel)) (GE.pi_enumA (by rfl) T.z_enumerate (pa_cons (pv 2) pa_nil)) (blkOk_by (own := [("number", 5), ("row", 6)]) (N := N_greatest_in) (sc := defScope s_greatest_in) (by decide +kernel)) (fun _ _ _ _ _ => (show PG _ _ (gTup K 2 _) from (pg_tup rfl (pgs_cons (pg_name (i := 5) sc_greatest_in.nd rfl (.inl rfl)) (pgs_cons (pg_name (i := 6) sc_greatest_in.nd rfl (.inl rfl)) pgs_nil))))) (fun _ _ _ _ _ => (pts_one (pt_val (pe_call (ok_holds_at_most (P := P) (w := w) T) (hr.mono (by decide)) (by rfl) T.g_holds_at_most T.F_holds_at_most.kp T.b_holds_at_most .nil pass0 (pa_cons (pe_call (ok_with_row (P := P) (w := w) T) (hr.mono (by decide)) (by rfl) T.g_with_row T.F_with_row.kp T.b_with_row .nil pass0 (pa_cons (pv 0) (pa_cons (pv 1) (pa_cons (pv 6) pa_nil)))) (pa_cons (pv 3) pa_nil)))))) (fun _ _ _ _ _ => (pv 5)))
    (pss_one (ps_ret (pe_callBK (GMd.cr_maxD rfl) (by rfl) T.z_max (by decide +kernel) (pa_cons (pv 4) pa_nil) (pk_cons pe_non pk_nil))))))), ?_⟩
    have lu := al.len
    obtain ⟨v0, hv0⟩ : ∃ v, us[0]? = some v := ⟨_, List.getElem?_eq_getElem (show 0 < us.length by omega)⟩
    obtain ⟨r0, hr0, rv0⟩ := al.get hv0
    refine ⟨_, rfl, _, rfl, _, rfl, D, _, 0, _, rfl, rfl, SqL.of eD, atI_nat (j := 0) hv0, p, bot, rs, l, r0, v0, rfl, bk, ok, hl, rv0, good _ (List.mem_of_getElem? hr0), fun H1 _ s1 _ => ?_⟩
    refine ⟨_, rfl, most, rfl, m0, by omega, ?_⟩
    have bk1 := bk.same s1
    have eD1 := s1 _ _ eD
    have al1 := al.imp fun _ _ t => t.same s1
    refine ⟨_, rfl, D, us, rfl, .inl ⟨SqL.of eD1, fun F nF => ?_⟩⟩
    generalize hp : (fun i => letB bot (wr rs l (qs.getD i none)) most) = pp at k
    have hFD : F ≠ D := (ne_of_none eD1 nF).symm
    refine lc_it walk_enum (fun i H' => Same H1 H' ∧ H' F = some (.lst (lstD pp i))) ⟨same_upd nF, upd_same⟩ (fun i H' _ q => SqL.of (q.1 _ _ eD1)) ?_ ?_
    · rintro i v H2 H3 hi ⟨s2, d2⟩ ⟨z, x1, x2, rfl, nz, rfl, e1, e2⟩
      cases e1
      have e2 : us[i]? = some x2 := e2
      obtain ⟨r, hr1, hv⟩ := al1.get e2
      have lt := (List.getElem?_eq_some_iff.mp hr1).1
      have s3 := same_upd nz (o := .tup [.int (i : Nat), x2])
      have ez : (upd H2 z (.tup [.int (i : Nat), x2])) z = some (.tup [.int (i : Nat), x2]) := upd_same
      generalize upd H2 z (.tup [.int (i : Nat), x2]) = H3 at s3 ez ⊢
      have d3 := s3 _ _ d2
      have s13 := s2.trans s3
      refine ⟨z, _, rfl, SqT.of ez, rfl, _, _, rfl, _, _, rfl, rfl, rfl, ?_⟩
      refine ⟨_, rfl, _, rfl, _, rfl, p, bot, rs, l, r, x2, rfl, bk1.same s13, ok, hl, hv.same s13, good _ (List.mem_of_getElem? hr1), fun H4 p4 s4 bk4 => ?_⟩
      have er : qs.getD i none = r := by rw [List.getD_eq_getElem?_getD, hr1]; rfl
      refine ⟨_, rfl, p4, bot, most, _, rfl, bk4, wr_ok ok hl (good _ (List.mem_of_getElem? hr1)), fun H5 s5 => ?_⟩
      have d5 := s5 _ _ (s4 _ _ d3)
      have s15 := (s13.trans s4).trans s5
      have ep : letB bot (wr rs l r) most = pp i := by rw [← hp, ← er]
      refine ⟨_, rfl, ?_⟩
      rw [ep]
      cases c : pp i with
      | true =>
        refine iteT ⟨_, rfl, _, d5, ?_, same_to s15 nF, ?_⟩
        · have := fil_len (p := pp) (i := i)
          have z : sizeLine ≥ 1000000 := by decide
          omega
        · rw [upd_same, fil_next, if_pos c]
      | false =>
        refine iteF ⟨s15, ?_⟩
        rw [fil_next, if_neg (by rw [c]; exact Bool.false_ne_true), List.append_nil]
        exact d5
    · rintro H2 ⟨s2, d2⟩
      rw [← lu] at d2
      have k := k H2 (s1.trans s2)
      refine ⟨_, rfl, rfl, F, (((List.range qs.length).filter pp).map fun (i : Nat) => (i : Int)), rfl, ?_, fun none_ => ?_, fun m hm top => ?_⟩
      · rw [List.map_map]
        exact SqL.of d2
      · rw [List.map_eq_nil_iff] at none_
        rw [last_none none_] at k
        exact k
      · obtain ⟨i, hi, rfl⟩ := List.mem_map.mp hm
        rw [last_max hi fun j hj => by have := top _ (List.mem_map_of_mem hj); omega] at k
        exact k
end

/-! ### the greatest burst, the greatest top -/
section
variable {P : Program} {w : World} {K : PySem.W.Frag} {mg : Str → Option Value} {base : Heap} {A : Adr}
def burstP (bot : Int) (rs : List Rw) (l : Nat) (t k most : Int) (i : Nat) : Bool := letB bot (wr rs l (some (1 + (i : Int), t, k))) most
def topP (bot : Int) (rs : List Rw) (l : Nat) (b k most : Int) (i : Nat) : Bool := letB bot (wr rs l (some (b, (i : Int), k))) most
def nextV (o : Option Nat) : V := match o with
  | none => .non
  | some i => .int (1 + (i : Int))
theorem last_congr {p q : Nat → Bool} : ∀ {n : Nat}, (∀ i, i < n → p i = q i) → lastP p n = lastP q n
  | 0, _ => rfl
  | n + 1, h => by
    show (if p n = true then some n else lastP p n) = if q n = true then some n else lastP q n
    rw [h n (Nat.lt_succ_self n), last_congr (n := n) fun i hi => h i (Nat.lt_succ_of_lt hi)]
def spGBurst (C : Addr) : Sp := fun vs H Q _ => ∃ (p : Addr) (bot most t k : Int) (rs : List Rw) (l : Nat), vs = [.ref p, .int (l : Int), .int t, .int k, .int most] ∧ BkAt C H p bot rs ∧ RowsOk bot rs ∧ l < rs.length ∧ (0 ≤ t ∧ t ≤ bot) ∧ (0 ≤ k ∧ k ≤ 7) ∧ 0 ≤ most ∧ most ≤ 1000 ∧
  ∀ H', Same H H' → Q (nextV (lastP (burstP bot rs l t k most) 20)) H'
theorem ok_greatest_burst (T : Top K mg A) : FnOk P w K mg base CX0 9 A.a_greatest_burst A.d_greatest_burst P_greatest_burst (spGBurst A.c_Buckets) := by
  refine T.F_greatest_burst.ok sc_greatest_burst (fun vs H Q E h => ?_) (fun cdv A' outer s H vs Q E hr h => ?_)
  · obtain ⟨p, bot, most, t, k, rs, l, rfl, _⟩ := h
    rfl
  · obtain ⟨p, bot, most, t, k, rs, l, rfl, bk, ok, hl, ht, hk, m0, m1, kq⟩ := h
    refine ⟨_, (pss_cons (ps_setLc (i := 5) (own := [("burst", 7)]) (by rfl) sc_greatest_burst.nd rfl rfl (sw_true rfl rfl rfl (by decide +kernel)) (pi_range2 rfl T.z_range (pa_cons pe_int (pa_cons (pe_op op_add (pe_glob (v := .int 20) rfl (T.k_GREATEST_BURST).choose_spec ⟨_, rfl⟩) pe_int) pa_nil))) (blkOk_by (own := [("burst", 7)]) (N := N_greatest_burst) (sc := defScope s_greatest_burst) (by decide +kernel)) (fun _ _ _ _ _ => (pg_name (i := 7) sc_greatest_burst.nd rfl (.inl rfl))) (fun _ _ _ _ _ => pts_nil) (fun _ _ _ _ _ => (pe_tup (pa_cons (pv 7) (pa_cons (pv 2) (pa_cons (pv 3) pa_nil))))))
    (pss_cons (ps_set (i := 6) sc_greatest_burst.nd rfl (.inl rfl) (pe_call (ok_greatest_in T) (hr.mono (by decide)) (by rfl) T.g_greatest_in T.F_greatest_in.kp T.b_greatest_in .nil pass0 (pa_cons (pv 0) (pa_cons (pv 1) (pa_cons (pv 5) (pa_cons (pv 4) pa_nil))))))
    (pss_one (ps_ret (pe_ifExp (pt_cmpR op_isN (pv 6) pe_non (nomark _)) pe_non (pe_op op_add (pv 6) pe_int)))))), ?_⟩
    refine ⟨20, 1, rfl, rfl, 1, 21, rfl, ⟨by decide, by decide, by decide, by decide⟩, fun D nD => ?_⟩
    refine lc_range (lo := 1) (n := (21 - 1 : Int).toNat) (fun i H' => ∃ us, Same H H' ∧ H' D = some (.lst us) ∧ All2 (RowAt H') ((List.range i).map fun (j : Nat) => some (1 + (j : Int), t, k)) us) ⟨[], same_upd nD, upd_same, .nil⟩ ?_ ?_
    · rintro i H1 hi ⟨us, s1, d1, al⟩
      have hi : i < 20 := hi
      refine ⟨rfl, ?_⟩
      refine ⟨_, rfl, _, rfl, _, rfl, (by show 3 ≤ sizeLine; decide), fun q nq => ?_⟩
      obtain ⟨H2, eH, s2, e2⟩ := newH nq (o := .tup [.int (1 + (i : Int)), .int t, .int k])
      rw [eH]
      have d2 := s2 _ _ d1
      have lu := al.len
      rw [List.length_map, List.length_range] at lu
      refine ⟨us, d2, lts (by omega), us ++ [.ref q], same_to (s1.trans s2) nD, upd_same, ?_⟩
      have tups : ∀ z xs, H2 z = some (.tup xs) → (upd H2 D (.lst (us ++ [.ref q]))) z = some (.tup xs) := fun z xs e => by
        rw [upd_ne (fun w => by rw [w, d2] at e; cases e)]
        exact e
      rw [List.range_succ, List.map_append]
      exact (al.imp fun r v h => (h.same s2).mv tups).snoc ⟨q, rfl, tups _ _ e2⟩
    · rintro H1 ⟨us, s1, d1, al⟩
      have e20 : (21 - 1 : Int).toNat = 20 := rfl
      rw [e20] at al
      refine ⟨_, rfl, _, rfl, _, rfl, _, rfl, p, D, bot, most, rs, _, l, us, rfl, bk.same s1, ok, hl, d1, al, fun r hr => ?_, by rw [List.length_map, List.length_range]; decide, by rw [List.length_map, List.length_range]; decide, m0, m1, fun H2 s2 => ?_⟩
      · obtain ⟨i, hi, rfl⟩ := List.mem_map.mp hr
        have hi := List.mem_range.mp hi
        exact ⟨⟨by omega, by omega⟩, ht, hk⟩
      · have kq := kq H2 (s1.trans s2)
        rw [List.length_map, List.length_range]
        rw [last_congr (q := burstP bot rs l t k most) fun i hi => by
          unfold burstP
          rw [List.getD_eq_getElem?_getD, map_at (List.getElem?_range hi)]
          rfl]
        generalize lastP (burstP bot rs l t k most) 20 = o at kq
        cases o with
        | none => exact ⟨_, rfl, rfl, _, rfl, iteT kq⟩
        | some i =>
          refine ⟨_, rfl, rfl, _, rfl, iteF ⟨_, rfl, _, _, rfl, rfl, ?_⟩⟩
          have z : Q (V.int ((i : Int) + 1)) H2 := by
            rw [Int.add_comm]
            exact kq
          exact z
def spGTop (C : Addr) : Sp := fun vs H Q _ => ∃ (p : Addr) (bot most b k : Int) (rs : List Rw) (l : Nat), vs = [.ref p, .int (l : Int), .int b, .int k, .int most] ∧ BkAt C H p bot rs ∧ RowsOk bot rs ∧ l < rs.length ∧ (1 ≤ b ∧ b ≤ 20) ∧ (0 ≤ k ∧ k ≤ 7) ∧ 0 ≤ most ∧ most ≤ 1000 ∧
  ∀ H', Same H H' → Q (lastV (lastP (topP bot rs l b k most) (bot + 1).toNat)) H'
theorem ok_greatest_top (T : Top K mg A) : FnOk P w K mg base CX0 9 A.a_greatest_top A.d_greatest_top P_greatest_top (spGTop A.c_Buckets) := by
  refine T.F_greatest_top.ok sc_greatest_top (fun vs H Q E h => ?_) (fun cdv A' outer s H vs Q E hr h => ?_)
  · obtain ⟨p, bot, most, b, k, rs, l, rfl, _⟩ := h
    rfl
  · obtain ⟨p, bot, most, b, k, rs, l, rfl, bk, ok, hl, hb, hk, m0, m1, kq⟩ := h
    refine ⟨_, (pss_cons (ps_setLc (i := 5) (own := [("top", 6)]) (by rfl) sc_greatest_top.nd rfl rfl (sw_true rfl rfl rfl (by decide +kernel)) (pi_range1 rfl T.z_range (pa_cons (pe_op op_add (pe_fld (pv 0) rfl) pe_int) pa_nil)) (blkOk_by (own := [("top", 6)]) (N := N_greatest_top) (sc := defScope s_greatest_top) (by decide +kernel)) (fun _ _ _ _ _ => (pg_name (i := 6) sc_greatest_top.nd rfl (.inl rfl))) (fun _ _ _ _ _ => pts_nil) (fun _ _ _ _ _ => (pe_tup (pa_cons (pv 2) (pa_cons (pv 6) (pa_cons (pv 3) pa_nil))))))
    (pss_one (ps_ret (pe_call (ok_greatest_in T) (hr.mono (by decide)) (by rfl) T.g_greatest_in T.F_greatest_in.kp T.b_greatest_in .nil pass0 (pa_cons (pv 0) (pa_cons (pv 1) (pa_cons (pv 5) (pa_cons (pv 4) pa_nil)))))))), ?_⟩
    obtain ⟨dx, a, hp, ra⟩ := id bk
    have b1 := ok.b1
    have b20 := ok.b20
    refine ⟨_, rfl, p, _, _, _, _, rfl, hp, T.cl_Buckets, T.n_Buckets_bottom, bf1, _, _, rfl, rfl, bot + 1, rfl, by omega, by omega, fun D nD => ?_⟩
    refine lc_range (lo := 0) (n := (bot + 1).toNat) (fun i H' => ∃ us, Same H H' ∧ H' D = some (.lst us) ∧ All2 (RowAt H') ((List.range i).map fun (j : Nat) => some (b, (j : Int), k)) us) ⟨[], same_upd nD, upd_same, .nil⟩ ?_ ?_
    · rintro i H1 hi ⟨us, s1, d1, al⟩
      refine ⟨rfl, ?_⟩
      rw [Int.zero_add]
      refine ⟨_, rfl, _, rfl, _, rfl, (by show 3 ≤ sizeLine; decide), fun q nq => ?_⟩
      obtain ⟨H2, eH, s2, e2⟩ := newH nq (o := .tup [.int b, .int (i : Int), .int k])
      rw [eH]
      have d2 := s2 _ _ d1
      have lu := al.len
      rw [List.length_map, List.length_range] at lu
      refine ⟨us, d2, lts (by omega), us ++ [.ref q], same_to (s1.trans s2) nD, upd_same, ?_⟩
      have tups : ∀ z xs, H2 z = some (.tup xs) → (upd H2 D (.lst (us ++ [.ref q]))) z = some (.tup xs) := fun z xs e => by
        rw [upd_ne (fun w => by rw [w, d2] at e; cases e)]
        exact e
      rw [List.range_succ, List.map_append]
      exact (al.imp fun r v h => (h.same s2).mv tups).snoc ⟨q, rfl, tups _ _ e2⟩
    · rintro H1 ⟨us, s1, d1, al⟩
      refine ⟨_, rfl, _, rfl, _, rfl, _, rfl, p, D, bot, most, rs, _, l, us, rfl, bk.same s1, ok, hl, d1, al, fun r hr => ?_, by rw [List.length_map, List.length_range]; omega, by rw [List.length_map, List.length_range]; omega, m0, m1, fun H2 s2 => ?_⟩
      · obtain ⟨i, hi, rfl⟩ := List.mem_map.mp hr
        have hi := List.mem_range.mp hi
        exact ⟨hb, ⟨by omega, by omega⟩, hk⟩
      · have kq := kq H2 (s1.trans s2)
        rw [List.length_map, List.length_range]
        rw [last_congr (q := topP bot rs l b k most) fun i hi => by
          unfold topP
          rw [List.getD_eq_getElem?_getD, map_at (List.getElem?_range hi)]
          rfl]
        exact kq
end

/-! ### the law's own functions -/
section
variable {P : Program} {w : World} {K : PySem.W.Frag} {mg : Str → Option Value} {base : Heap} {A : Adr}
theorem ok_law_pick (T : Top K mg A) : FnOk P w K mg base CX0 2 A.a_law_pick A.d_law_pick P_law_pick (spAny K) := by
  refine T.F_law_pick.ok sc_law_pick (fun vs H Q E h => ?_) (fun cdv A outer s H vs Q E hr h => ?_)
  · obtain ⟨h, g, l, xs, rfl, _⟩ := h
    rfl
  · obtain ⟨h, g, l, xs, rfl, ha, hl, hst, h0, h1, k⟩ := h
    refine ⟨_, (pss_one (ps_ret (pe_ix ix_list (pv 1) (pe_call (ok_law_draw T) (hr.mono (by decide)) (by rfl) T.g_law_draw T.F_law_draw.kp T.b_law_draw .nil pass0 (pa_cons (pv 0) (pa_cons (pe_callB call_len_seq (by rfl) T.z_len (by decide +kernel) (pa_cons (pv 1) pa_nil)) pa_nil))) (fun _ _ => rfl)))), ?_⟩
    refine ⟨_, rfl, _, rfl, _, rfl, l, _, rfl, .inl hl, h, g, _, rfl, ha, by omega, by omega, fun H' d hb hh d0 d1 => ?_⟩
    have hj : d.toNat < xs.length := by omega
    exact ⟨l, xs, d, _, rfl, rfl, hst H' hb, at_of (by omega) (List.getElem?_eq_getElem hj), k H' _ _ hb hh (List.getElem?_eq_getElem hj)⟩
inductive Plain : V → Prop where
  | non : Plain .non
  | int (i : Int) : Plain (.int i)
  | bl (b : Bool) : Plain (.bl b)
def spSame : Sp := fun vs H Q _ => ∃ v, vs = [v, v] ∧ Plain v ∧ ∀ H', Same H H' → Q (.bl true) H'
theorem kit2 {K : PySem.W.Frag} {a : String} (h1 : kitB a "tuple" = some false) (h2 : kitB a "list" = some false) : PySem.W.kitAny K (.type a) [.type "tuple", .type "list"] = some false := by
  unfold PySem.W.kitAny
  rw [kitQ h1 rfl]
  dsimp only
  unfold PySem.W.kitAny
  rw [kitQ h2 rfl]
  rfl
theorem ok_law_same (T : Top K mg A) : FnOk P w K mg base CX0 1 A.a_law_same A.d_law_same P_law_same spSame := by
  refine T.F_law_same.ok sc_law_same (fun vs H Q E h => ?_) (fun cdv A' outer s H vs Q E hr h => ?_)
  · obtain ⟨v, rfl, _⟩ := h
    rfl
  · obtain ⟨v, rfl, pl, k⟩ := h
    refine ⟨_, (pss_cons (ps_if (pt_val (pe_callB call_isiT (by rfl) T.z_isinstance (by decide +kernel) (pa_cons (pv 1) (pa_cons (pe_tup (pa_cons (pe_bltn (v := .ty "tuple") (by rfl) T.z_tuple (by decide +kernel) rfl) (pa_cons (pe_bltn (v := .ty "list") (by rfl) T.z_list (by decide +kernel) rfl) pa_nil))) pa_nil)))) (pss_cons (ps_if (PW.pt (pw_or (pt_cmpR op_ne (pe_callB call_isi (by rfl) T.z_isinstance (by decide +kernel) (pa_cons (pv 0) (pa_cons (pe_bltn (v := .ty "tuple") (by rfl) T.z_tuple (by decide +kernel) rfl) pa_nil))) (pe_callB call_isi (by rfl) T.z_isinstance (by decide +kernel) (pa_cons (pv 1) (pa_cons (pe_bltn (v := .ty "tuple") (by rfl) T.z_tuple (by decide +kernel) rfl) pa_nil))) (nomark _)) (pw_or1 (pt_not (pt_val (pe_callB call_isiT (by rfl) T.z_isinstance (by decide +kernel) (pa_cons (pv 0) (pa_cons (pe_tup (pa_cons (pe_bltn (v := .ty "tuple") (by rfl) T.z_tuple (by decide +kernel) rfl) (pa_cons (pe_bltn (v := .ty "list") (by rfl) T.z_list (by decide +kernel) rfl) pa_nil))) pa_nil)))))))) (pss_one (ps_ret pe_bl)) pss_nil)
    (pss_one (ps_ret (pe_and (pe_cmpR op_eq (pe_callB call_len_seq (by rfl) T.z_len (by decide +kernel) (pa_cons (pv 0) pa_nil)) (pe_callB call_len_seq (by rfl) T.z_len (by decide +kernel) (pa_cons (pv 1) pa_nil)) (nomark _)) (pe_one (pe_callB (cr_all rfl) (by rfl) T.z_all (by decide +kernel) (pa_cons (pe_lc (own := [("_law_one", 2), ("_law_two", 3)]) (by rfl) sc_law_same.nd (RZ.pi_zipA (by rfl) T.z_zip (pa_cons (pv 0) (pa_cons (pv 1) pa_nil))) (blkOk_by (own := [("_law_one", 2), ("_law_two", 3)]) (N := N_law_same) (sc := defScope s_law_same) (by decide +kernel)) (fun _ _ _ _ _ => (show PG _ _ (gTup K 2 _) from (pg_tup rfl (pgs_cons (pg_name (i := 2) sc_law_same.nd rfl (.inl rfl)) (pgs_cons (pg_name (i := 3) sc_law_same.nd rfl (.inl rfl)) pgs_nil))))) (fun _ _ _ _ _ => pts_nil) (fun _ _ _ _ _ => GL.pe_dead)) pa_nil))))))) pss_nil)
    (pss_one (ps_ret (pe_and (pe_cmpR op_eq (pe_callB call_isi (by rfl) T.z_isinstance (by decide +kernel) (pa_cons (pv 0) (pa_cons (pe_bltn (v := .ty "bool") (by rfl) T.z_bool (by decide +kernel) rfl) pa_nil))) (pe_callB call_isi (by rfl) T.z_isinstance (by decide +kernel) (pa_cons (pv 1) (pa_cons (pe_bltn (v := .ty "bool") (by rfl) T.z_bool (by decide +kernel) rfl) pa_nil))) (nomark _)) (pe_one (pe_cmpR op_eq (pv 0) (pv 1) (nomark _))))))), ?_⟩
    obtain ⟨t, b, ty, k2, kb⟩ : ∃ t b, (∀ H', TyX K H' v t) ∧ PySem.W.kitAny K t [.type "tuple", .type "list"] = some false ∧ PySem.W.kitOne K t (.type "bool") = some b := by
      cases pl with
      | non => exact ⟨_, false, fun _ => .base .non, kit2 (by decide +kernel) (by decide +kernel), kitQ (by decide +kernel) rfl⟩
      | int i => exact ⟨_, false, fun _ => .base (.int i), kit2 (by decide +kernel) (by decide +kernel), kitQ (by decide +kernel) rfl⟩
      | bl c => exact ⟨_, true, fun _ => .base (.bl c), kit2 (by decide +kernel) (by decide +kernel), kitQ (by decide +kernel) rfl⟩
    refine ⟨_, rfl, (by show 2 ≤ sizeLine; decide), fun p np => ?_⟩
    have s1 := same_upd np (o := .tup [.ty "tuple", .ty "list"])
    refine ⟨_, p, _, t, _, false, rfl, upd_same, .cons (.ty _) (.cons (.ty _) .nil), ty _, k2, _, rfl, iteF ?_⟩
    refine ⟨_, rfl, _, _, _, _, _, rfl, .ty "bool", ty _, kb, _, rfl, _, _, _, _, _, rfl, .ty "bool", ty _, kb, rfl, _, rfl, ?_⟩
    rw [dec_self]
    refine iteT ⟨_, rfl, _, rfl, ?_, ?_⟩
    · cases pl <;> rfl
    · rw [dec_self]
      exact k _ s1
def spLRows : Sp := fun vs H Q _ => ∃ (h g : Addr) (many bot burst share : Int), vs = [.ref h, .int many, .int bot, .int burst, .int share] ∧ HandAt H h g ∧ (1 ≤ many ∧ many ≤ 11) ∧ (1 ≤ bot ∧ bot ≤ 20) ∧ (1 ≤ burst ∧ burst ≤ 20) ∧ (1 ≤ share ∧ share ≤ 100) ∧
  ∀ (H' : Hp) (a : Addr) (rs : List Rw), Kp h H H' → HandAt H' h g → RowsAt H' a rs → RowsOk bot rs → Q (.ref a) H'
theorem ok_law_rows (T : Top K mg A) : FnOk P w K mg base CX0 3 A.a_law_rows A.d_law_rows P_law_rows spLRows := by
  refine T.F_law_rows.ok sc_law_rows (fun vs H Q E h => ?_) (fun cdv A' outer s H vs Q E hr h => ?_)
  · obtain ⟨h, g, many, bot, burst, share, rfl, _⟩ := h
    rfl
  · obtain ⟨h, g, many, bot, burst, share, rfl, ha, ⟨m1, m2⟩, ⟨o1, o2⟩, ⟨u1, u2⟩, ⟨r1, r2⟩, k⟩ := h
    refine ⟨_, (pss_cons (ps_par (by rfl) sc_law_rows.nd (i := 5) (j := 6) rfl rfl (by decide) rfl rfl (pa_cons (pe_lst pa_nil) (pa_cons (pv 2) pa_nil)) (by rfl))
    (pss_cons (ps_for PassesOwn.never rfl (pi_range1 rfl T.z_range (pa_cons (pe_op op_add pe_int (pe_call (ok_law_draw T) (hr.mono (by decide)) (by rfl) T.g_law_draw T.F_law_draw.kp T.b_law_draw .nil pass0 (pa_cons (pv 0) (pa_cons (pv 1) pa_nil)))) pa_nil)) (pg_name (i := 7) sc_law_rows.nd rfl (.inl rfl)) (pss_one (ps_if (pt_cmpR op_eq (pe_call (ok_law_draw T) (hr.mono (by decide)) (by rfl) T.g_law_draw T.F_law_draw.kp T.b_law_draw .nil pass0 (pa_cons (pv 0) (pa_cons pe_int pa_nil))) pe_int (nomark _)) (pss_one (ps_expr (pe_bm PySem.F.plainAttrs_list PySem.F.slot_list_append PySem.F.type_list_append mt_append (pv 5) (pa_cons pe_non pa_nil)))) (pss_cons (ps_set (i := 8) sc_law_rows.nd rfl (.inl rfl) (pe_ifExp (pt_cmpR op_gt (pe_call (ok_law_draw T) (hr.mono (by decide)) (by rfl) T.g_law_draw T.F_law_draw.kp T.b_law_draw .nil pass0 (pa_cons (pv 0) (pa_cons (pv 4) pa_nil))) pe_int (nomark _)) (pe_call (ok_law_draw T) (hr.mono (by decide)) (by rfl) T.g_law_draw T.F_law_draw.kp T.b_law_draw .nil pass0 (pa_cons (pv 0) (pa_cons (pe_op op_add (pv 6) pe_int) pa_nil))) (pe_call (ok_law_draw T) (hr.mono (by decide)) (by rfl) T.g_law_draw T.F_law_draw.kp T.b_law_draw .nil pass0 (pa_cons (pv 0) (pa_cons (pe_op op_add (pv 2) pe_int) pa_nil)))))
    (pss_cons (ps_set (i := 6) sc_law_rows.nd rfl (.inl rfl) (pe_callB (call_max2 rfl) (by rfl) T.z_max (by decide +kernel) (pa_cons pe_int (pa_cons (pe_op op_sub (pv 6) (pv 8)) pa_nil))))
    (pss_one (ps_expr (pe_bm PySem.F.plainAttrs_list PySem.F.slot_list_append PySem.F.type_list_append mt_append (pv 5) (pa_cons (pe_tup (pa_cons (pe_op op_add pe_int (pe_call (ok_law_draw T) (hr.mono (by decide)) (by rfl) T.g_law_draw T.F_law_draw.kp T.b_law_draw .nil pass0 (pa_cons (pv 0) (pa_cons (pv 3) pa_nil)))) (pa_cons (pv 8) (pa_cons (pe_call (ok_law_draw T) (hr.mono (by decide)) (by rfl) T.g_law_draw T.F_law_draw.kp T.b_law_draw .nil pass0 (pa_cons (pv 0) (pa_cons pe_int pa_nil))) pa_nil)))) pa_nil)))))))))
    (pss_one (ps_ret (pe_callTy call_tuple_of (by rfl) T.z_tuple (by decide +kernel) (pa_cons (pv 5) pa_nil)))))), ?_⟩
    refine ⟨Nat.zero_le _, fun F nF => ?_⟩
    obtain ⟨H1, eH, s1, e1⟩ := newH nF (o := .lst [])
    rw [eH]
    clear eH
    have Fh : F ≠ h := ha.ne_none nF
    refine ⟨_, rfl, _, _, rfl, ?_⟩
    refine ⟨_, rfl, _, rfl, h, g, many, rfl, ha.same s1, by omega, by omega, fun H2 n b2 a2 n0 n1 => ?_⟩
    refine ⟨_, _, rfl, rfl, _, rfl, by omega, by omega, ?_⟩
    have k2 : Kp h H H2 := Kp.trans (kp_of s1 h) b2.kp
    refine for_range (lo := 0) (n := (1 + n).toNat) (fun i σ H' => ∃ (left : Int) (y7 y8 : Option V) (us : List V) (rs : List Rw), σ = [some (.ref h), some (.int many), some (.int bot), some (.int burst), some (.int share), some (.ref F), some (.int left), y7, y8] ∧ HandAt H' h g ∧ Kp h H H' ∧ H' F = some (.lst us) ∧ All2 (RowAt H') rs us ∧ rs.length = i ∧ (∀ r ∈ rs, RowOk bot r) ∧ 0 ≤ left ∧ left ≤ bot)
      ⟨bot, none, none, [], [], rfl, a2, k2, b2.kp _ _ Fh e1, .nil, rfl, fun r hr => absurd hr List.not_mem_nil, by omega, by omega⟩ ?_ ?_
    · rintro i σ H3 hi ⟨left, y7, y8, us, rs, rfl, a3, k3, e3, al, len, ok, l0, l1⟩
      have nF0 : H F = none := nF
      have put : ∀ {H4 : Hp} {r : Rw} {v : V}, Kp h H3 H4 → HandAt H4 h g → RowAt H4 r v → H4 F = some (.lst us) → HandAt (upd H4 F (.lst (us ++ [v]))) h g ∧ Kp h H (upd H4 F (.lst (us ++ [v]))) ∧ (upd H4 F (.lst (us ++ [v]))) F = some (.lst (us ++ [v])) ∧ All2 (RowAt (upd H4 F (.lst (us ++ [v])))) (rs ++ [r]) (us ++ [v]) := fun {H4 r v} k4 a4 rv e4 => by
        have tups : ∀ z xs, H4 z = some (.tup xs) → (upd H4 F (.lst (us ++ [v]))) z = some (.tup xs) := fun z xs e => by
          rw [upd_ne (fun w => by rw [w, e4] at e; cases e)]
          exact e
        refine ⟨?_, fun q o hq e => ?_, upd_same, ((al.imp fun r' v' t => (t.mv fun q xs e => tup_kp k4 a3 e).mv tups)).snoc (rv.mv tups)⟩
        · obtain ⟨⟨ns, ec⟩, ⟨i', m', s', t', ef, q⟩, ne⟩ := a4
          have gF : g ≠ F := fun z => by
            obtain ⟨⟨ns4, ec4⟩, _, _⟩ := ha
            rw [z, nF0] at ec4
            cases ec4
          exact ⟨⟨ns, by rw [upd_ne gF]; exact ec⟩, ⟨i', m', s', t', by rw [upd_ne Fh.symm]; exact ef, q⟩, ne⟩
        · rw [upd_ne (ne_of_none e nF0)]
          exact k4 q o hq (k3 q o hq e)
      have lu := al.len
      refine ⟨_, rfl, h, g, 5, rfl, a3, by decide, by decide, fun H4 d b4 a4 _ _ => ?_⟩
      have e4 := b4.kp _ _ Fh e3
      refine ⟨rfl, _, rfl, ite2 (fun _ => ?_) (fun _ => ?_)⟩
      · obtain ⟨p1, p2, p3, p4⟩ := put (r := none) (v := .non) b4.kp a4 rfl e4
        refine ⟨_, rfl, .inl ⟨rfl, _, SqL.of e4⟩, F, us, _, rfl, rfl, e4, lts (by omega), left, _, _, _, _, rfl, p1, p2, p3, p4, by rw [List.length_append, len]; rfl, fun r hr => ?_, l0, l1⟩
        rcases List.mem_append.mp hr with hr | hr
        · exact ok r hr
        · rw [List.mem_singleton.mp hr]
          trivial
      · refine ⟨_, rfl, _, rfl, h, g, share, rfl, a4, by omega, by omega, fun H5 sh b5 a5 _ _ => ?_⟩
        refine ⟨_, _, rfl, rfl, _, rfl, ite2 (fun _ => ⟨_, rfl, _, rfl, _, _, rfl, rfl, h, g, left + 1, rfl, a5, by omega, by omega, fun H6 tp b6 a6 t0 t1 => ?_⟩) (fun _ => ⟨_, rfl, _, rfl, _, _, rfl, rfl, h, g, bot + 1, rfl, a5, by omega, by omega, fun H6 tp b6 a6 t0 t1 => ?_⟩)⟩
        all_goals
          have t2 : tp ≤ bot := by omega
          have k6 : Kp h H3 H6 := (b4.kp.trans b5.kp).trans b6.kp
          refine ⟨_, rfl, _, rfl, _, _, rfl, rfl, _, _, rfl, ?_⟩
          refine ⟨_, rfl, .inl ⟨rfl, _, SqL.of (k6 _ _ Fh e3)⟩, _, rfl, _, rfl, h, g, burst, rfl, a6, by omega, by omega, fun H7 bu b7 a7 bu0 bu1 => ⟨1, bu, rfl, rfl, _, rfl, _, rfl, h, g, 3, rfl, a7, by decide, by decide, fun H8 kd b8 a8 kd0 kd1 => ⟨(by show 3 ≤ sizeLine; decide), fun q nq => ?_⟩⟩⟩
          generalize hG : upd H8 q _ = H9
          have s9 : Same H8 H9 := by rw [← hG]; exact same_upd nq
          have e9 : H9 q = some (.tup [.int (1 + bu), .int tp, .int kd]) := by rw [← hG]; exact upd_same
          clear hG
          have k9 : Kp h H3 H9 := ((k6.trans b7.kp).trans b8.kp).same s9
          obtain ⟨p1, p2, p3, p4⟩ := put (r := some (1 + bu, tp, kd)) (v := .ref q) k9 (a8.same s9) ⟨q, rfl, e9⟩ (k9 _ _ Fh e3)
          refine ⟨F, us, _, rfl, rfl, k9 _ _ Fh e3, lts (by omega), _, _, _, _, _, rfl, p1, p2, p3, p4, by rw [List.length_append, len]; rfl, fun r hr => ?_, ?_, ?_⟩
          · rcases List.mem_append.mp hr with hr | hr
            · exact ok r hr
            · rw [List.mem_singleton.mp hr]
              exact ⟨⟨by omega, by omega⟩, ⟨t0, t2⟩, kd0, by omega⟩
          · show 0 ≤ if left - tp > 0 then left - tp else 0
            split <;> omega
          · show (if left - tp > 0 then left - tp else 0) ≤ bot
            split <;> omega
    · rintro σ H3 ⟨left, y7, y8, us, rs, rfl, a3, k3, e3, al, len, ok, l0, l1⟩
      refine ⟨_, rfl, F, us, rfl, .inl ⟨SqL.of e3, fun p np => ?_⟩⟩
      have s5 := same_upd np (o := .tup us)
      exact k _ p rs (k3.same s5) (a3.same s5) ⟨us, upd_same, al.imp fun _ _ t => t.same s5⟩ ⟨by omega, by omega, ok, o1, o2⟩
def spSent : Sp := fun vs H Q _ => ∃ (bot beats : Int) (r : Rw) (v : V), vs = [v, .int bot, .int beats] ∧ RowAt H r v ∧ RowOk bot r ∧ 1 ≤ bot ∧ bot ≤ 20 ∧ Q (.int (sentR bot beats r)) H
theorem ok_law_sent (T : Top K mg A) : FnOk P w K mg base CX0 1 A.a_law_sent A.d_law_sent P_law_sent spSent := by
  refine T.F_law_sent.ok sc_law_sent (fun vs H Q E h => ?_) (fun cdv A' outer s H vs Q E hr h => ?_)
  · obtain ⟨bot, beats, r, v, rfl, _⟩ := h
    rfl
  · obtain ⟨bot, beats, r, v, rfl, hv, ok, b1, b20, k⟩ := h
    refine ⟨_, (pss_one (ps_ret (pe_ifExp (pt_cmpR op_isN (pv 0) pe_non (nomark _)) pe_int (pe_callB (call_min2 rfl) (by rfl) T.z_min (by decide +kernel) (pa_cons (pv 2) (pa_cons (pe_op op_add (pe_ix ix_tup (pv 0) pe_int (fun _ _ => rfl)) (pe_callTy call_int1 (by rfl) T.z_int (by decide +kernel) (pa_cons (pe_op op_fdiv (pe_op op_mul (pe_ix ix_tup (pv 0) pe_int (fun _ _ => rfl)) (pv 2)) (pv 1)) pa_nil))) pa_nil)))))), ?_⟩
    match r, hv, ok, k with
    | none, e, _, k =>
      cases (show v = V.non from e)
      exact ⟨_, rfl, rfl, _, rfl, iteT k⟩
    | some (b, t, kk), ⟨q, e, eq⟩, ok, k =>
      subst e
      obtain ⟨⟨h1, h2⟩, ⟨h3, h4⟩, _⟩ := ok
      refine ⟨_, rfl, rfl, _, rfl, iteF ?_⟩
      refine ⟨_, rfl, _, rfl, q, _, 0, _, rfl, rfl, SqT.of eq, atI_nat (j := 0) rfl, _, rfl, q, _, 1, _, rfl, rfl, SqT.of eq, atI_nat (j := 1) rfl, _, rfl, _, _, rfl, rfl, .inl ⟨by omega, by omega⟩, _, rfl, _, _, rfl, rfl, ⟨by omega, by omega⟩, .inl ⟨_, rfl, _, _, rfl, rfl, _, _, rfl, k⟩⟩
def spReach : Sp := fun vs H Q _ => ∃ (a : Addr) (bot : Int) (rs : List Rw), vs = [.ref a, .int bot] ∧ RowsAt H a rs ∧ RowsOk bot rs ∧
  ∀ (H' : Hp) (R : Nat), Same H H' → 1 ≤ R → (∀ r ∈ someR rs, r.1 * bot + 2 * bot ≤ (R : Int)) → ((R : Int) ≤ 1 ∨ (R : Int) ≤ 22 * bot) → Q (.int (R : Int)) H'
theorem ok_law_reach (T : Top K mg A) : FnOk P w K mg base CX0 1 A.a_law_reach A.d_law_reach P_law_reach spReach := by
  refine T.F_law_reach.ok sc_law_reach (fun vs H Q E h => ?_) (fun cdv A' outer s H vs Q E hr h => ?_)
  · obtain ⟨a, bot, rs, rfl, _⟩ := h
    rfl
  · obtain ⟨a, bot, rs, rfl, ⟨xs, ea, al⟩, ok, k⟩ := h
    refine ⟨_, (pss_one (ps_ret (pe_callB (cr_max rfl) (by rfl) T.z_max (by decide +kernel) (pa_cons (pe_op op_cat (pe_lst (pa_cons pe_int pa_nil)) (pe_lc (own := [("_law_row", 2)]) (by rfl) sc_law_reach.nd (pi_tup (pv 0)) (blkOk_by (own := [("_law_row", 2)]) (N := N_law_reach) (sc := defScope s_law_reach) (by decide +kernel)) (fun _ _ _ _ _ => (pg_name (i := 2) sc_law_reach.nd rfl (.inl rfl))) (fun _ _ _ _ _ => (pts_one (pt_cmpR op_notN (pv 2) pe_non (nomark _)))) (fun _ _ _ _ _ => (pe_op op_add (pe_op op_mul (pe_ix (show IxR _ (rIxT K) from ix_tup) (pv 2) pe_int (fun _ _ => rfl)) (pv 1)) (pe_op op_mul pe_int (pv 1)))))) pa_nil)))), ?_⟩
    have few := ok.few
    have b1 := ok.b1
    have b20 := ok.b20
    refine ⟨(by show 1 ≤ sizeLine; decide), fun l nl => ?_⟩
    obtain ⟨H1, eH, s1, e1⟩ := newH nl (o := .lst [.int 1])
    rw [eH]
    clear eH
    refine ⟨_, rfl, a, rfl, ⟨_, SqT.of (s1 _ _ ea)⟩, fun D nD => ?_⟩
    refine lc_tup (K := K) (a := a) (xs := xs) (fun i H' => Same H1 H' ∧ H' D = some (.lst (((someR (rs.take i)).map fun r => r.1 * bot + 2 * bot).map V.int))) ⟨same_upd nD, upd_same⟩ (fun i H' _ ⟨s, _⟩ => SqT.of (s _ _ (s1 _ _ ea))) ?_ ?_
    · rintro i x H' hx ⟨s2, d2⟩
      obtain ⟨r, hr1, hv⟩ := al.get hx
      have hv := (hv.same s1).same s2
      have ln := someR_len (rs := rs) (i := i)
      refine ⟨rfl, ?_⟩
      match r, hr1, hv with
      | none, hr1, e =>
        cases (show x = V.non from e)
        refine ⟨_, rfl, rfl, _, rfl, iteF ⟨s2, ?_⟩⟩
        rw [someR_snoc hr1]
        show H' D = some (.lst (((someR (rs.take i) ++ []).map _).map V.int))
        rw [List.append_nil]
        exact d2
      | some (b, t, kk), hr1, ⟨q, e, eq⟩ =>
        subst e
        obtain ⟨⟨h1, h2⟩, _⟩ := ok.ok _ (List.mem_of_getElem? hr1)
        refine ⟨_, rfl, rfl, _, rfl, iteT ?_⟩
        refine ⟨_, rfl, q, _, 0, _, rfl, rfl, SqT.of eq, atI_nat (j := 0) rfl, _, rfl, _, _, rfl, rfl, .inl ⟨by omega, by omega⟩, _, rfl, _, _, rfl, rfl, .inl ⟨by decide, by decide⟩, _, _, rfl, rfl, ?_⟩
        refine ⟨_, d2, lts (by rw [List.length_map, List.length_map]; omega), same_to s2 nD, ?_⟩
        rw [upd_same, someR_snoc hr1, List.map_append, List.map_append]
        rfl
    · rintro H2 ⟨s2, d2⟩
      rw [← al.len, List.take_length] at d2
      have e2 := s2 _ _ e1
      have ln : (someR rs).length ≤ 12 := Nat.le_trans (List.length_filterMap_le _ _) few
      refine ⟨l, D, [.int 1], _, rfl, rfl, e2, d2, by (rw [List.length_map, List.length_map]; have z : sizeLine ≥ 1000000 := by decide
                                                       show 1 + _ ≤ _
                                                       omega), fun p np => ?_⟩
      have s3 := same_upd np (o := .lst ([.int 1] ++ ((someR rs).map fun r => r.1 * bot + 2 * bot).map V.int))
      refine ⟨p, 1 :: (someR rs).map fun r => r.1 * bot + 2 * bot, rfl, SqL.of upd_same, Nat.succ_pos _, fun m hm top => ?_⟩
      have t1 := top 1 List.mem_cons_self
      obtain ⟨R, rfl⟩ : ∃ R : Nat, m = (R : Int) := ⟨m.toNat, by omega⟩
      refine k _ R ((s1.trans s2).trans s3) (by omega) (fun r hr => top _ (List.mem_cons_of_mem _ (List.mem_map_of_mem (f := fun r => r.1 * bot + 2 * bot) hr))) ?_
      rcases List.mem_cons.mp hm with e | hm
      · exact .inl (by omega)
      · obtain ⟨r, hr, e⟩ := List.mem_map.mp hm
        obtain ⟨⟨_, h2⟩, _⟩ := some_ok ok.ok r hr
        have : r.1 * bot ≤ 20 * bot := Int.mul_le_mul_of_nonneg_right h2 (by omega)
        exact .inr (by omega)
def spLHold : Sp := fun vs H Q _ => ∃ (a : Addr) (bot : Int) (rs : List Rw), vs = [.ref a, .int bot] ∧ RowsAt H a rs ∧ RowsOk bot rs ∧ bot ≤ 6 ∧ ∀ H', Same H H' → Q (optV (holdO bot rs)) H'
theorem ok_law_hold (T : Top K mg A) : FnOk P w K mg base CX0 2 A.a_law_hold A.d_law_hold P_law_hold spLHold := by
  refine T.F_law_hold.ok sc_law_hold (fun vs H Q E h => ?_) (fun cdv A' outer s H vs Q E hr h => ?_)
  · obtain ⟨a, bot, rs, rfl, _⟩ := h
    rfl
  · obtain ⟨a, bot, rs, rfl, ⟨xs, ea, al⟩, ok, b6, k⟩ := h
    refine ⟨_, (pss_cons (ps_setLc (i := 2) (own := [("_law_row", 5)]) (by rfl) sc_law_hold.nd rfl rfl (sw_true rfl rfl rfl (by decide +kernel)) (pi_tup (pv 0)) (blkOk_by (own := [("_law_row", 5)]) (N := N_law_hold) (sc := defScope s_law_hold) (by decide +kernel)) (fun _ _ _ _ _ => (pg_name (i := 5) sc_law_hold.nd rfl (.inl rfl))) (fun _ _ _ _ _ => (pts_one (pt_cmpR op_notN (pv 5) pe_non (nomark _)))) (fun _ _ _ _ _ => (pv 5)))
    (pss_cons (ps_if (pt_cmpR op_gt (pe_callB (cr_sum rfl) (by rfl) T.z_sum (by decide +kernel) (pa_cons (pe_lc (own := [("_law_row", 5)]) (by rfl) sc_law_hold.nd (pi_list (pv 2)) (blkOk_by (own := [("_law_row", 5)]) (N := N_law_hold) (sc := defScope s_law_hold) (by decide +kernel)) (fun _ _ _ _ _ => (pg_name (i := 5) sc_law_hold.nd rfl (.inl rfl))) (fun _ _ _ _ _ => pts_nil) (fun _ _ _ _ _ => (pe_ix (show IxR _ (rIxT K) from ix_tup) (pv 5) pe_int (fun _ _ => rfl)))) pa_nil)) (pv 1) (nomark _)) (pss_one (ps_ret pe_non)) pss_nil)
    (pss_cons (ps_set (i := 3) sc_law_hold.nd rfl (.inl rfl) pe_int)
    (pss_cons (ps_for PassesOwn.never rfl (pi_range2 rfl T.z_range (pa_cons pe_int (pa_cons (pe_op op_add (pe_call (ok_law_reach T) (hr.mono (by decide)) (by rfl) T.g_law_reach T.F_law_reach.kp T.b_law_reach .nil pass0 (pa_cons (pv 0) (pa_cons (pv 1) pa_nil))) pe_int) pa_nil))) (pg_name (i := 4) sc_law_hold.nd rfl (.inr rfl)) (pss_one (ps_set (i := 3) sc_law_hold.nd rfl (.inl rfl) (pe_callB (call_max2 rfl) (by rfl) T.z_max (by decide +kernel) (pa_cons (pv 3) (pa_cons (pe_op op_sub (pe_callB (cr_sum rfl) (by rfl) T.z_sum (by decide +kernel) (pa_cons (pe_lc (own := [("_law_row", 5)]) (by rfl) sc_law_hold.nd (pi_list (pv 2)) (blkOk_by (own := [("_law_row", 5)]) (N := N_law_hold) (sc := defScope s_law_hold) (by decide +kernel)) (fun _ _ _ _ _ => (pg_name (i := 5) sc_law_hold.nd rfl (.inl rfl))) (fun _ _ _ _ _ => pts_nil) (fun _ _ _ _ _ => (pe_call (ok_law_sent (P := P) (w := w) T) (hr.mono (by decide)) (by rfl) T.g_law_sent T.F_law_sent.kp T.b_law_sent .nil pass0 (pa_cons (pv 5) (pa_cons (pv 1) (pa_cons (pv 4) pa_nil)))))) pa_nil)) (pv 4)) pa_nil))))))
    (pss_one (ps_ret (pv 3))))))), ?_⟩
    have few := ok.few
    have b1 := ok.b1
    have b20 := ok.b20
    have ln : (someR rs).length ≤ 12 := Nat.le_trans (List.length_filterMap_le _ _) few
    refine ⟨_, rfl, a, rfl, ⟨_, SqT.of ea⟩, fun D nD => ?_⟩
    refine lc_tup (K := K) (a := a) (xs := xs) (fun i H' => ∃ us, Same H H' ∧ H' D = some (.lst us) ∧ All2 (TrAt H') (someR (rs.take i)) us) ⟨[], same_upd nD, upd_same, .nil⟩ (fun i H' _ ⟨_, s, _⟩ => SqT.of (s _ _ ea)) ?_ ?_
    · rintro i x H' hx ⟨us, s1, d1, au⟩
      obtain ⟨r, hr1, hv⟩ := al.get hx
      have hv := hv.same s1
      have ln := someR_len (rs := rs) (i := i)
      have lu := au.len
      refine ⟨rfl, ?_⟩
      match r, hr1, hv with
      | none, hr1, e =>
        cases (show x = V.non from e)
        refine ⟨_, rfl, rfl, _, rfl, iteF ⟨us, s1, d1, ?_⟩⟩
        rw [someR_snoc hr1]
        show All2 _ (_ ++ []) _
        rw [List.append_nil]
        exact au
      | some (b, t, kk), hr1, ⟨q, e, eq⟩ =>
        subst e
        refine ⟨_, rfl, rfl, _, rfl, iteT ?_⟩
        refine ⟨_, rfl, us, d1, by rw [← lu]; exact lts (by omega), us ++ [.ref q], same_to s1 nD, upd_same, ?_⟩
        rw [someR_snoc hr1]
        have tups : ∀ z xs, H' z = some (.tup xs) → (upd H' D (.lst (us ++ [.ref q]))) z = some (.tup xs) := fun z xs e => by
          rw [upd_ne (fun w => by rw [w, d1] at e; cases e)]
          exact e
        exact (au.imp fun t v h => RowAt.mv (r := some t) tups h).snoc ⟨q, rfl, tups _ _ eq⟩
    rintro H1 ⟨us, s1, d1, au⟩
    rw [← al.len, List.take_length] at au
    have good := some_ok ok.ok
    refine ⟨_, rfl, D, rfl, ⟨_, SqL.of d1⟩, fun F nF => ?_⟩
    refine lc_list (K := K) (a := D) (xs := us) (LP H1 F (((someR rs).map fun r => r.2.1).map V.int)) (LP.start nF) (fun i H' _ p => SqL.of (p.1 _ _ d1)) ?_ ?_
    · rintro i x H' hx p
      obtain ⟨⟨b, t, kk⟩, ht, q, rfl, eq⟩ := au.get hx
      refine ⟨rfl, ?_⟩
      refine ⟨_, rfl, q, _, 1, _, rfl, rfl, SqT.of (p.1 _ _ eq), atI_nat (j := 1) rfl, ?_⟩
      exact lcPut nF p (fun _ _ e => e) (map_at (map_at ht)) (by rw [List.length_map, List.length_map]; omega)
    rintro H2 ⟨s2, d2⟩
    rw [take_all (by rw [List.length_map, List.length_map]; exact au.len.symm)] at d2
    refine ⟨F, _, rfl, SqL.of d2, _, rfl, _, _, rfl, rfl, _, rfl, ?_⟩
    have s12 := s1.trans s2
    unfold holdO at k
    have et : ((someR rs).map fun r => r.2.1).sum = topsS (someR rs) := rfl
    rw [et]
    by_cases c : bot < topsS (someR rs)
    · rw [if_pos c] at k
      rw [decide_eq_true c]
      exact iteT (k H2 s12)
    · rw [if_neg c] at k
      rw [decide_eq_false c]
      refine iteF ?_
      refine ⟨_, rfl, _, rfl, a, bot, rs, rfl, ⟨xs, s12 _ _ ea, al.imp fun _ _ t => t.same s12⟩, ok, fun H3 R s3 R1 reach Rb => ?_⟩
      have s13 := s12.trans s3
      have f0 := fH_0 (bot := bot) good
      refine ⟨_, _, rfl, rfl, 1, (R : Int) + 1, rfl, ⟨by decide, by decide, by omega, by omega⟩, ?_⟩
      refine for_range (lo := 1) (n := ((R : Int) + 1 - 1).toNat) (fun i σ H' => ∃ (y4 : Option V), σ = [some (.ref a), some (.int bot), some (.ref D), some (.int (mx (fH bot (someR rs)) (i + 1))), y4, none] ∧ Same H3 H') ⟨none, by rw [mx_from f0]; rfl, fun _ _ e => e⟩ ?_ ?_
      · rintro i σ H4 hi ⟨y4, rfl, s4⟩
        have d4 := s4 _ _ (s3 _ _ (s2 _ _ d1))
        refine ⟨_, rfl, _, rfl, D, rfl, ⟨_, SqL.of d4⟩, fun G nG => ?_⟩
        refine lc_list (K := K) (a := D) (xs := us) (LP H4 G (((someR rs).map (sent1 bot ((i + 1 : Nat) : Int))).map V.int)) (LP.start nG) (fun i H' _ p => SqL.of (p.1 _ _ d4)) ?_ ?_
        · rintro j x H' hx p
          obtain ⟨t, ht, hv⟩ := au.get hx
          refine ⟨rfl, ?_⟩
          refine ⟨_, rfl, _, rfl, _, rfl, bot, 1 + (i : Int), some t, x, rfl, RowAt.same (r := some t) hv (((s2.trans s3).trans s4).trans p.1), good t (List.mem_of_getElem? ht), b1, b20, ?_⟩
          have ei : 1 + (i : Int) = ((i + 1 : Nat) : Int) := by omega
          rw [ei]
          exact lcPut nG p (fun _ _ e => e) (map_at (map_at ht)) (by rw [List.length_map, List.length_map]; omega)
        · rintro H5 ⟨s5, d5⟩
          rw [take_all (by rw [List.length_map, List.length_map]; exact au.len.symm)] at d5
          refine ⟨G, _, rfl, SqL.of d5, _, rfl, _, _, rfl, rfl, _, _, rfl, some (.int (1 + (i : Int))), ?_, s4.trans s5⟩
          have ei : 1 + (i : Int) = ((i + 1 : Nat) : Int) := by omega
          rw [ei]
          rfl
      · rintro σ H4 ⟨y4, rfl, s4⟩
        have e : ((R : Int) + 1 - 1).toNat = R := by omega
        rw [e, hold_eq b1 good (by omega) R1 reach (N := 420) (by omega)]
        exact ⟨_, rfl, k H4 (s13.trans s4)⟩
def spIsLet : Sp := fun vs H Q _ => ∃ (a : Addr) (bot most : Int) (rs : List Rw) (l : Nat) (r : Rw) (v : V), vs = [.ref a, .int bot, .int (l : Int), v, .int most] ∧ RowsAt H a rs ∧ RowsOk bot rs ∧ bot ≤ 6 ∧ l < rs.length ∧ RowAt H r v ∧ RowOk bot r ∧ ∀ H', Same H H' → Q (.bl (letB bot (wr rs l r) most)) H'
theorem ok_law_is_let (T : Top K mg A) : FnOk P w K mg base CX0 3 A.a_law_is_let A.d_law_is_let P_law_is_let spIsLet := by
  refine T.F_law_is_let.ok sc_law_is_let (fun vs H Q E h => ?_) (fun cdv A' outer s H vs Q E hr h => ?_)
  · obtain ⟨a, bot, most, rs, l, r, v, rfl, _⟩ := h
    rfl
  · obtain ⟨a, bot, most, rs, l, r, v, rfl, ⟨xs, ea, al⟩, ok, b6, hl, hv, hr2, k⟩ := h
    refine ⟨_, (pss_cons (ps_set (i := 5) sc_law_is_let.nd rfl (.inl rfl) (pe_call (ok_law_hold T) (hr.mono (by decide)) (by rfl) T.g_law_hold T.F_law_hold.kp T.b_law_hold .nil pass0 (pa_cons (pe_op op_catA (pe_op op_catA (pe_slice sl_tupA (pv 0) po_none (po_some (pv 2))) (pe_tup (pa_cons (pv 3) pa_nil))) (pe_slice sl_tupA (pv 0) (po_some (pe_op op_add (pv 2) pe_int)) po_none)) (pa_cons (pv 1) pa_nil))))
    (pss_one (ps_ret (pe_and (pe_cmpR op_notN (pv 5) pe_non (nomark _)) (pe_one (pe_cmpR op_le (pv 5) (pv 4) (nomark _))))))), ?_⟩
    unfold tNoPart
    have lx := al.len
    have few := ok.few
    have hto : cutV xs none (some (l : Int)) = xs.take l := cut_to (by omega)
    have hfrom : cutV xs (some ((l : Int) + 1)) none = xs.drop (l + 1) := by
      rw [show (l : Int) + 1 = ((l + 1 : Nat) : Int) by omega]
      exact cut_from (by omega)
    refine ⟨_, rfl, _, rfl, _, rfl, ?_⟩
    refine sl_at ea fun G1 p1 s1 z1 => ?_
    have e1 : G1 p1 = some (.tup (xs.take l)) := hto ▸ z1
    refine ⟨_, rfl, (by show 1 ≤ sizeLine; decide), fun p2 n2 => ?_⟩
    obtain ⟨G2, eH, s2, e2⟩ := newH n2 (o := .tup [v])
    rw [eH]
    clear eH
    refine cat_at (s2 _ _ e1) e2 (by simp only [List.length_take, List.length_cons, List.length_nil]; omega) fun G3 p3 s3 e3 => ?_
    have s13 := (s1.trans s2).trans s3
    refine ⟨_, rfl, _, rfl, _, _, rfl, rfl, _, rfl, ?_⟩
    refine sl_at (s13 _ _ ea) fun G4 p4 s4 z4 => ?_
    have e4 : G4 p4 = some (.tup (xs.drop (l + 1))) := hfrom ▸ z4
    refine cat_at (s4 _ _ e3) e4 (by simp only [List.length_append, List.length_take, List.length_drop, List.length_cons, List.length_nil]; omega) fun G5 p5 s5 e5 => ?_
    have s15 := (s13.trans s4).trans s5
    refine ⟨_, rfl, p5, bot, wr rs l r, rfl, ⟨_, e5, (cat3 al hv).imp fun _ _ t => t.same s15⟩, wr_ok ok hl hr2, b6, fun H' s => ?_⟩
    have k := k H' (s15.trans s)
    unfold letB at k
    refine ⟨_, rfl, rfl, _, rfl, ?_⟩
    cases c : holdO bot (wr rs l r) with
    | none =>
      rw [c] at k
      exact iteF k
    | some m =>
      rw [c] at k
      exact iteT ⟨_, rfl, _, rfl, _, _, rfl, rfl, k⟩
end

/-! ### the law -/
theorem at_last {L : List V} (h : 0 < L.length) : atI L (-1) = L.getLast? := by
  have e : ixN L.length (-1) = some (L.length - 1) := by
    unfold ixN
    rw [if_neg (by decide), if_pos (by omega)]
    congr 1
    omega
  unfold atI
  rw [e, List.getLast?_eq_getElem?]
  rfl
theorem last_map {p : Nat → Bool} {n : Nat} {f : Nat → V} : (((List.range n).filter p).map f).getLast? = (lastP p n).map f := by
  rw [List.getLast?_map, last_fil]
theorem last_none' {p : Nat → Bool} {n : Nat} {f : Nat → V} (h : ¬ 0 < (((List.range n).filter p).map f).length) : lastP p n = none := by
  refine last_none ?_
  rw [List.length_map] at h
  exact List.eq_nil_of_length_eq_zero (by omega)
def lstF (p : Nat → Bool) (f : Nat → V) (n : Nat) : List V := ((List.range n).filter p).map f
theorem filF_next {p : Nat → Bool} {f : Nat → V} {i : Nat} : lstF p f (i + 1) = lstF p f i ++ if p i = true then [f i] else [] := by
  unfold lstF
  rw [List.range_succ, List.filter_append, List.map_append]
  congr 1
  by_cases c : p i = true
  · rw [if_pos c, List.filter_cons_of_pos c]
    rfl
  · rw [if_neg c, List.filter_cons_of_neg c]
    rfl
theorem filF_len {p : Nat → Bool} {f : Nat → V} {i : Nat} : (lstF p f i).length ≤ i := by
  unfold lstF
  rw [List.length_map]
  exact Nat.le_trans (List.length_filter_le _ _) (by rw [List.length_range]; exact Nat.le_refl _)
theorem next_eq {p : Nat → Bool} {n : Nat} : nextV (lastP p n) = match (lastP p n).map (fun (i : Nat) => V.int (1 + (i : Int))) with
    | none => V.non
    | some v => v := by
  cases lastP p n <;> rfl
theorem plain_next (o : Option Nat) : Plain (nextV o) := by
  cases o with
  | none => exact .non
  | some i => exact .int _
theorem plain_last (o : Option Nat) : Plain (lastV o) := by
  cases o with
  | none => exact .non
  | some i => exact .int _
/-- the hand, the rows, the buckets -/
structure Wd (A : Adr) (h g a p : Addr) (H : Hp) (bot : Int) (rs : List Rw) : Prop where
  hand : HandAt H h g
  rows : RowsAt H a rs
  bk : BkAt A.c_Buckets H p bot rs
section
variable {A : Adr} {h g a p : Addr} {H H' : Hp} {bot : Int} {rs : List Rw}
theorem Wd.same (w : Wd A h g a p H bot rs) (s : Same H H') : Wd A h g a p H' bot rs := ⟨w.hand.same s, w.rows.same s, w.bk.same s⟩
theorem Wd.kp (w : Wd A h g a p H bot rs) (k : Kp h H H') (ha : HandAt H' h g) : Wd A h g a p H' bot rs := ⟨ha, w.rows.mv fun _ _ e => tup_kp k w.hand e, w.bk.kp k w.hand⟩
end
section
variable {P : Program} {w : World} {K : PySem.W.Frag} {mg : Str → Option Value} {base : Heap} {A : Adr}
theorem make_bk2 {C : Addr} {H1 : Hp} {a x dx : Addr} {bot : Int} {rs : List Rw} {R : Hp → Prop} {E : XK} (ra : RowsAt H1 a rs) (ok : RowsOk bot rs) (nx : H1 x = none) (nd : H1 dx = none) (ne : dx ≠ x) (k : ∀ H', Same H1 H' → BkAt C H' x bot rs → R H') :
    spInit C [.ref x, .int bot, .ref a] (upd (upd H1 dx (.own x)) x (.ins C dx [])) (fun v H2 => v = .non ∧ R H2) E := by
  have s0 : Same H1 (upd (upd H1 dx (.own x)) x (.ins C dx [])) := fun q o e => by
    rw [upd_ne (ne_of_none e nx), upd_ne (ne_of_none e nd)]
    exact e
  refine ⟨x, dx, a, bot, rs, rfl, upd_same, ra.same s0, ok, fun H' kp e => ⟨rfl, ?_⟩⟩
  have s := mk_same nx nd kp
  exact k H' s ⟨dx, a, e, ra.same s⟩
def spLaw (K : PySem.W.Frag) : Sp := fun vs H Q _ => ∃ (a : Addr) (ns : List Int), vs = [.ref a] ∧ SqL K H a (ns.map V.int) ∧ ns.length ≤ 63 ∧ ∀ H', Q (.bl true) H'
theorem ok_law (T : Top K mg A) : FnOk P w K mg base CX0 14 A.a_law A.d_law P_law (spLaw K) := by
  refine T.F_law.ok sc_law (fun vs H Q E h => ?_) (fun cdv A' outer s H vs Q E hr h => ?_)
  · obtain ⟨a, ns, rfl, _⟩ := h
    rfl
  · obtain ⟨sa, ns, rfl, hS, hn, kq⟩ := h
    refine ⟨_, (pss_cons (ps_set (i := 1) sc_law.nd rfl (.inl rfl) (pe_call (ok_law_hand T) (hr.mono (by decide)) (by rfl) T.g_law_hand T.F_law_hand.kp T.b_law_hand .nil pass0 (pa_cons (pv 0) pa_nil)))
    (pss_cons (ps_set (i := 2) sc_law.nd rfl (.inr rfl) (pe_op op_add pe_int (pe_call (ok_law_draw T) (hr.mono (by decide)) (by rfl) T.g_law_draw T.F_law_draw.kp T.b_law_draw .nil pass0 (pa_cons (pv 1) (pa_cons pe_int pa_nil)))))
    (pss_cons (ps_set (i := 3) sc_law.nd rfl (.inr rfl) (pe_call (ok_law_rows T) (hr.mono (by decide)) (by rfl) T.g_law_rows T.F_law_rows.kp T.b_law_rows .nil pass0 (pa_cons (pv 1) (pa_cons pe_int (pa_cons (pv 2) (pa_cons pe_int (pa_cons pe_int pa_nil)))))))
    (pss_cons (ps_set (i := 4) sc_law.nd rfl (.inl rfl) (pe_make T.mk_Buckets (ok_Buckets___init__ T) (hr.mono (by decide)) (by rfl) T.gc_Buckets T.b_Buckets___init__ .nil pass0 (pa_cons (pv 2) (pa_cons (pv 3) pa_nil))))
    (pss_cons (ps_for PassesOwn.never rfl (pi_range1 rfl T.z_range (pa_cons pe_int pa_nil)) (pg_name (i := 5) sc_law.nd rfl (.inl rfl)) (pss_cons (ps_asg (pe_tup (pa_cons (pe_call (ok_law_draw T) (hr.mono (by decide)) (by rfl) T.g_law_draw T.F_law_draw.kp T.b_law_draw .nil pass0 (pa_cons (pv 1) (pa_cons (pe_callB call_len_seq (by rfl) T.z_len (by decide +kernel) (pa_cons (pv 3) pa_nil)) pa_nil))) (pa_cons (pe_call (ok_law_pick T) (hr.mono (by decide)) (by rfl) T.g_law_pick T.F_law_pick.kp T.b_law_pick .nil pass0 (pa_cons (pv 1) (pa_cons (pe_lst (pa_cons pe_int (pa_cons pe_int (pa_cons pe_int (pa_cons pe_int (pa_cons (pe_call (ok_law_draw T) (hr.mono (by decide)) (by rfl) T.g_law_draw T.F_law_draw.kp T.b_law_draw .nil pass0 (pa_cons (pv 1) (pa_cons pe_int pa_nil))) (pa_cons pe_int pa_nil))))))) pa_nil))) pa_nil))) (pg_tup rfl (pgs_cons (pg_name (i := 6) sc_law.nd rfl (.inr rfl)) (pgs_cons (pg_name (i := 7) sc_law.nd rfl (.inr rfl)) pgs_nil))))
    (pss_cons (ps_set (i := 8) sc_law.nd rfl (.inl rfl) (pe_call (ok_law_pick T) (hr.mono (by decide)) (by rfl) T.g_law_pick T.F_law_pick.kp T.b_law_pick .nil pass0 (pa_cons (pv 1) (pa_cons (pe_lst (pa_cons pe_non (pa_cons (pe_tup (pa_cons (pe_op op_add pe_int (pe_call (ok_law_draw T) (hr.mono (by decide)) (by rfl) T.g_law_draw T.F_law_draw.kp T.b_law_draw .nil pass0 (pa_cons (pv 1) (pa_cons pe_int pa_nil)))) (pa_cons (pe_call (ok_law_draw T) (hr.mono (by decide)) (by rfl) T.g_law_draw T.F_law_draw.kp T.b_law_draw .nil pass0 (pa_cons (pv 1) (pa_cons (pe_op op_add (pv 2) pe_int) pa_nil))) (pa_cons (pe_call (ok_law_draw T) (hr.mono (by decide)) (by rfl) T.g_law_draw T.F_law_draw.kp T.b_law_draw .nil pass0 (pa_cons (pv 1) (pa_cons pe_int pa_nil))) pa_nil)))) pa_nil))) pa_nil))))
    (pss_cons (ps_set (i := 9) sc_law.nd rfl (.inl rfl) (pe_call (ok_with_row T) (hr.mono (by decide)) (by rfl) T.g_with_row T.F_with_row.kp T.b_with_row .nil pass0 (pa_cons (pv 4) (pa_cons (pv 6) (pa_cons (pv 8) pa_nil)))))
    (pss_cons (ps_if (pt_not (pt_cmpR (GP.op_eqO T.eo_Buckets.eq T.eo_Buckets.fn (ok_Buckets___eq__ T) T.b_Buckets___eq__ (hr.mono (by decide))) (pv 9) (pe_make T.mk_Buckets (ok_Buckets___init__ T) (hr.mono (by decide)) (by rfl) T.gc_Buckets T.b_Buckets___init__ .nil pass0 (pa_cons (pv 2) (pa_cons (pe_op op_catA (pe_op op_catA (pe_slice sl_tupA (pv 3) po_none (po_some (pv 6))) (pe_tup (pa_cons (pv 8) pa_nil))) (pe_slice sl_tupA (pv 3) (po_some (pe_op op_add (pv 6) pe_int)) po_none)) pa_nil))) (nomark _))) (pss_one (ps_ret pe_bl)) pss_nil)
    (pss_cons (ps_if (pt_not (pt_val (pe_call (ok_law_same T) (hr.mono (by decide)) (by rfl) T.g_law_same T.F_law_same.kp T.b_law_same .nil pass0 (pa_cons (pe_call (ok_let_in T) (hr.mono (by decide)) (by rfl) T.g_let_in T.F_let_in.kp T.b_let_in .nil pass0 (pa_cons (pv 4) (pa_cons (pv 6) (pa_cons (pv 8) (pa_cons (pv 7) pa_nil))))) (pa_cons (pe_call (ok_law_is_let T) (hr.mono (by decide)) (by rfl) T.g_law_is_let T.F_law_is_let.kp T.b_law_is_let .nil pass0 (pa_cons (pv 3) (pa_cons (pv 2) (pa_cons (pv 6) (pa_cons (pv 8) (pa_cons (pv 7) pa_nil)))))) pa_nil))))) (pss_one (ps_ret pe_bl)) pss_nil)
    (pss_cons (ps_asg (pe_tup (pa_cons (pe_call (ok_law_draw T) (hr.mono (by decide)) (by rfl) T.g_law_draw T.F_law_draw.kp T.b_law_draw .nil pass0 (pa_cons (pv 1) (pa_cons (pe_op op_add (pv 2) pe_int) pa_nil))) (pa_cons (pe_op op_add pe_int (pe_call (ok_law_draw T) (hr.mono (by decide)) (by rfl) T.g_law_draw T.F_law_draw.kp T.b_law_draw .nil pass0 (pa_cons (pv 1) (pa_cons pe_int pa_nil)))) pa_nil))) (pg_tup rfl (pgs_cons (pg_name (i := 10) sc_law.nd rfl (.inr rfl)) (pgs_cons (pg_name (i := 11) sc_law.nd rfl (.inr rfl)) pgs_nil))))
    (Evl.pss_cut (ps_if (pt_cmpR op_eq (pv 5) pe_int (nomark _)) (pss_cons (ps_setLc (i := 12) (own := [("_law_one", 14)]) (by rfl) sc_law.nd rfl rfl (sw_true rfl rfl rfl (by decide +kernel)) (pi_range2 rfl T.z_range (pa_cons pe_int (pa_cons pe_int pa_nil))) (blkOk_by (own := [("_law_one", 14)]) (N := N_law) (sc := defScope s_law) (by decide +kernel)) (fun _ _ _ _ _ => (pg_name (i := 14) sc_law.nd rfl (.inl rfl))) (fun _ _ _ _ _ => (pts_one (pt_val (pe_call (ok_law_is_let (P := P) (w := w) T) (hr.mono (by decide)) (by rfl) T.g_law_is_let T.F_law_is_let.kp T.b_law_is_let .nil pass0 (pa_cons (pv 3) (pa_cons (pv 2) (pa_cons (pv 6) (pa_cons (pe_tup (pa_cons (pv 14) (pa_cons (pv 10) (pa_cons pe_int pa_nil)))) (pa_cons (pv 7) pa_nil))))))))) (fun _ _ _ _ _ => (pv 14)))
    (pss_cons (ps_set (i := 13) sc_law.nd rfl (.inl rfl) (pe_ifExp (pt_cmpR op_gt (pe_callB call_len_seq (by rfl) T.z_len (by decide +kernel) (pa_cons (pv 12) pa_nil)) pe_int (nomark _)) (pe_ix ix_list (pv 12) (pe_un un_neg pe_int) (fun _ _ => rfl)) pe_non))
    (pss_one (ps_if (pt_not (pt_val (pe_call (ok_law_same T) (hr.mono (by decide)) (by rfl) T.g_law_same T.F_law_same.kp T.b_law_same .nil pass0 (pa_cons (pe_call (ok_greatest_burst T) (hr.mono (by decide)) (by rfl) T.g_greatest_burst T.F_greatest_burst.kp T.b_greatest_burst .nil pass0 (pa_cons (pv 4) (pa_cons (pv 6) (pa_cons (pv 10) (pa_cons pe_int (pa_cons (pv 7) pa_nil)))))) (pa_cons (pv 13) pa_nil))))) (pss_one (ps_ret pe_bl)) pss_nil)))) pss_nil)
    (pss_cons (ps_setLc (i := 12) (own := [("_law_one", 14)]) (by rfl) sc_law.nd rfl rfl (sw_true rfl rfl rfl (by decide +kernel)) (pi_range1 rfl T.z_range (pa_cons (pe_op op_add (pv 2) pe_int) pa_nil)) (blkOk_by (own := [("_law_one", 14)]) (N := N_law) (sc := defScope s_law) (by decide +kernel)) (fun _ _ _ _ _ => (pg_name (i := 14) sc_law.nd rfl (.inl rfl))) (fun _ _ _ _ _ => (pts_one (pt_val (pe_call (ok_law_is_let (P := P) (w := w) T) (hr.mono (by decide)) (by rfl) T.g_law_is_let T.F_law_is_let.kp T.b_law_is_let .nil pass0 (pa_cons (pv 3) (pa_cons (pv 2) (pa_cons (pv 6) (pa_cons (pe_tup (pa_cons (pv 11) (pa_cons (pv 14) (pa_cons pe_int pa_nil)))) (pa_cons (pv 7) pa_nil))))))))) (fun _ _ _ _ _ => (pv 14)))
    (pss_one (ps_if (pt_not (pt_val (pe_call (ok_law_same T) (hr.mono (by decide)) (by rfl) T.g_law_same T.F_law_same.kp T.b_law_same .nil pass0 (pa_cons (pe_call (ok_greatest_top T) (hr.mono (by decide)) (by rfl) T.g_greatest_top T.F_greatest_top.kp T.b_greatest_top .nil pass0 (pa_cons (pv 4) (pa_cons (pv 6) (pa_cons (pv 11) (pa_cons pe_int (pa_cons (pv 7) pa_nil)))))) (pa_cons (pe_ifExp (pt_cmpR op_gt (pe_callB call_len_seq (by rfl) T.z_len (by decide +kernel) (pa_cons (pv 12) pa_nil)) pe_int (nomark _)) (pe_ix ix_list (pv 12) (pe_un un_neg pe_int) (fun _ _ => rfl)) pe_non) pa_nil))))) (pss_one (ps_ret pe_bl)) pss_nil)))))))))))
    (pss_one (ps_ret pe_bl))))))), ?_⟩
    unfold tNoPart
    refine ⟨_, rfl, sa, ns, rfl, hS, hn, fun H1 h g s1 _ _ a1 => ?_⟩
    refine ⟨_, rfl, h, g, 6, rfl, a1, by decide, by decide, fun H2 d b2 a2 d0 d1 => ⟨1, d, rfl, rfl, ?_⟩⟩
    obtain ⟨bot, eb⟩ : ∃ bot : Int, 1 + d = bot := ⟨_, rfl⟩
    have o1 : 1 ≤ bot := by omega
    have o6 : bot ≤ 6 := by omega
    show tSeq _ _ _ ([some (.ref sa), some (.ref h), some (.int (1 + d)), none, none, none, none, none, none, none, none, none, none, none, none] : L2.St) _
    rw [eb]
    clear eb d0 d1
    refine ⟨_, rfl, _, rfl, h, g, 5, bot, 4, 5, rfl, a2, ⟨by decide, by decide⟩, ⟨o1, by omega⟩, ⟨by decide, by decide⟩, ⟨by decide, by decide⟩, fun H3 a rs k3 a3 ra ok => ?_⟩
    refine ⟨_, rfl, _, rfl, ?_⟩
    intro p x1 nx nd ne
    refine make_bk2 ra ok nx nd ne fun H4 s4 bk => ?_
    clear nx nd ne
    have w4 : Wd A h g a p H4 bot rs := ⟨a3.same s4, ra.same s4, bk⟩
    clear ra bk k3 a3 s4
    refine ⟨3, rfl, by decide, by decide, ?_⟩
    refine for_range (lo := 0) (n := (3 : Int).toNat) (fun i σ H' => ∃ y5 y6 y7 y8 y9 y10 y11 y12 y13 : Option V, σ = [some (.ref sa), some (.ref h), some (.int bot), some (.ref a), some (.ref p), y5, y6, y7, y8, y9, y10, y11, y12, y13, none] ∧ Wd A h g a p H' bot rs) ⟨_, _, _, _, _, _, _, _, _, rfl, w4⟩ ?_ ?_
    · rintro i σ H5 hi ⟨y5, y6, y7, y8, y9, y10, y11, y12, y13, rfl, w5⟩
      clear w4
      obtain ⟨xs, ea, al⟩ := id w5.rows
      have lx := al.len
      have one := ok.one
      have few := ok.few
      -- line, most
      refine ⟨_, rfl, _, rfl, a, xs, rfl, .inr (SqT.of ea), h, g, (xs.length : Int), rfl, w5.hand, by omega, by omega, fun H6 l b6 a6 l0 l1 => ?_⟩
      have w6 := w5.kp b6.kp a6
      obtain ⟨l, rfl⟩ : ∃ z : Nat, l = (z : Int) := ⟨l.toNat, by omega⟩
      have hl : l < rs.length := by omega
      clear w5 b6 a6
      refine ⟨_, rfl, _, rfl, h, g, 20, rfl, w6.hand, by decide, by decide, fun H7 d b7 a7 d0 d1 => ?_⟩
      have w7 := w6.kp b7.kp a7
      clear w6 b7 a7
      refine ⟨(by show 6 ≤ sizeLine; decide), fun q nq => ?_⟩
      have nqh := w7.hand.ne_none nq
      obtain ⟨H8, eH, s8, e8⟩ := newH nq (o := .lst [.int 0, .int 1, .int 3, .int 8, .int d, .int 80])
      rw [eH]
      clear eH
      have w8 := w7.same s8
      clear w7
      refine ⟨h, g, q, _, rfl, w8.hand, SqL.of e8, fun H' b => SqL.of (by rw [b q nqh]; exact e8), (by show 0 < 6; decide), (by show 6 ≤ 100000; decide), fun H9 j v b9 a9 hj => ?_⟩
      have w9 := w8.kp b9.kp a9
      clear w8 b9 a9
      obtain ⟨most, rfl, m0, m1⟩ : ∃ most : Int, v = .int most ∧ 0 ≤ most ∧ most ≤ 100 := by
        have hm := List.mem_of_getElem? hj
        simp only [List.mem_cons, List.not_mem_nil, or_false] at hm
        rcases hm with e | e | e | e | e | e <;> subst e
        · exact ⟨0, rfl, by decide, by decide⟩
        · exact ⟨1, rfl, by decide, by decide⟩
        · exact ⟨3, rfl, by decide, by decide⟩
        · exact ⟨8, rfl, by decide, by decide⟩
        · exact ⟨d, rfl, d0, by omega⟩
        · exact ⟨80, rfl, by decide, by decide⟩
      clear hj d0 d1 e8 nqh nq s8
      refine ⟨(by show 2 ≤ sizeLine; decide), fun q nq => ?_⟩
      obtain ⟨H10, eH, s10, e10⟩ := newH nq (o := .tup [.int (l : Int), .int most])
      rw [eH]
      clear eH
      have w10 := w9.same s10
      clear w9
      refine ⟨q, _, rfl, SqT.of e10, rfl, _, _, rfl, _, _, rfl, rfl, ?_⟩
      clear e10 s10 nq
      -- the row
      refine ⟨_, rfl, _, rfl, h, g, 9, rfl, w10.hand, by decide, by decide, fun H11 d1 b11 a11 d10 d11 => ⟨1, d1, rfl, rfl, ?_⟩⟩
      have w11 := w10.kp b11.kp a11
      clear w10 b11 a11
      refine ⟨_, rfl, _, rfl, _, _, rfl, rfl, h, g, bot + 1, rfl, w11.hand, by omega, by omega, fun H12 d2 b12 a12 d20 d21 => ?_⟩
      have w12 := w11.kp b12.kp a12
      clear w11 b12 a12
      refine ⟨_, rfl, h, g, 8, rfl, w12.hand, by decide, by decide, fun H13 d3 b13 a13 d30 d31 => ?_⟩
      have w13 := w12.kp b13.kp a13
      clear w12 b13 a13
      refine ⟨(by show 3 ≤ sizeLine; decide), fun q nq => ?_⟩
      generalize hG : upd H13 q _ = H14
      have s14 : Same H13 H14 := by rw [← hG]; exact same_upd nq
      have e14 : H14 q = some (.tup [.int (1 + d1), .int d2, .int d3]) := by rw [← hG]; exact upd_same
      clear hG
      have w14 := w13.same s14
      clear w13
      refine ⟨(by show 2 ≤ sizeLine; decide), fun q2 nq2 => ?_⟩
      have nqh := w14.hand.ne_none nq2
      obtain ⟨H15, eH, s15, e15⟩ := newH nq2 (o := .lst [.non, .ref q])
      rw [eH]
      clear eH
      have w15 := w14.same s15
      have e14 := s15 _ _ e14
      clear w14
      refine ⟨h, g, q2, _, rfl, w15.hand, SqL.of e15, fun H' b => SqL.of (by rw [b q2 nqh]; exact e15), (by show 0 < 2; decide), (by show 2 ≤ 100000; decide), fun H16 j v b16 a16 hj => ?_⟩
      have w16 := w15.kp b16.kp a16
      have e14 := tup_kp b16.kp w15.hand e14
      clear w15 b16 a16
      obtain ⟨r, rv, rok⟩ : ∃ r : Rw, RowAt H16 r v ∧ RowOk bot r := by
        have hm := List.mem_of_getElem? hj
        simp only [List.mem_cons, List.not_mem_nil, or_false] at hm
        rcases hm with e | e <;> subst e
        · exact ⟨none, rfl, trivial⟩
        · exact ⟨some (1 + d1, d2, d3), ⟨q, rfl, e14⟩, ⟨by omega, by omega⟩, ⟨d20, by omega⟩, d30, by omega⟩
      clear hj e14 e15 nqh nq2 nq s14 s15 d10 d11 d20 d21 d30 d31
      -- later
      refine ⟨_, rfl, _, rfl, _, rfl, p, bot, rs, l, r, v, rfl, w16.bk, ok, hl, rv, rok, fun H17 p2 s17 bk2 => ?_⟩
      have w17 := w16.same s17
      have rv := rv.same s17
      clear w16 s17
      -- the same
      obtain ⟨xs, ea, al⟩ := id w17.rows
      have lx := al.len
      have hto : cutV xs none (some (l : Int)) = xs.take l := cut_to (by omega)
      have hfrom : cutV xs (some ((l : Int) + 1)) none = xs.drop (l + 1) := by
        rw [show (l : Int) + 1 = ((l + 1 : Nat) : Int) by omega]
        exact cut_from (by omega)
      refine ⟨_, rfl, _, rfl, _, rfl, _, rfl, _, rfl, ?_⟩
      refine sl_at ea fun G1 p1 t1 z1 => ?_
      have f1 : G1 p1 = some (.tup (xs.take l)) := hto ▸ z1
      refine ⟨_, rfl, (by show 1 ≤ sizeLine; decide), fun c2 n2 => ?_⟩
      obtain ⟨G2, eH, t2, f2⟩ := newH n2 (o := .tup [v])
      rw [eH]
      clear eH
      refine cat_at (t2 _ _ f1) f2 (by simp only [List.length_take, List.length_cons, List.length_nil]; omega) fun G3 p3 t3 f3 => ?_
      have t13 := (t1.trans t2).trans t3
      refine ⟨_, rfl, _, rfl, _, _, rfl, rfl, _, rfl, ?_⟩
      refine sl_at (t13 _ _ ea) fun G4 p4 t4 z4 => ?_
      have f4 : G4 p4 = some (.tup (xs.drop (l + 1))) := hfrom ▸ z4
      refine cat_at (t4 _ _ f3) f4 (by simp only [List.length_append, List.length_take, List.length_drop, List.length_cons, List.length_nil]; omega) fun G5 p5 t5 f5 => ?_
      have t15 := (t13.trans t4).trans t5
      intro p6 x1 nx nd ne
      refine make_bk2 ⟨_, f5, (cat3 al rv).imp fun _ _ t => t.same t15⟩ (wr_ok ok hl rok) nx nd ne fun G6 t6 bk6 => ?_
      clear nx nd ne
      have t16 := t15.trans t6
      have w18 := w17.same t16
      have rv := rv.same t16
      obtain ⟨dx, ax, hx, rx⟩ := bk2.same t16
      obtain ⟨dy, ay, hy, ry⟩ := bk6
      refine ⟨p2, dx, _, _, rfl, hx, .base (.ins hy T.cl_Buckets T.ci_Buckets T.en1 T.en2 T.em_Buckets), GP.first_self, p2, p6, dx, dy, ax, ay, bot, _, rfl, hx, hy, rx, ry, true, rfl, _, rfl, iteF ?_⟩
      clear w17 t16 t15 t13 t1 t2 t3 t4 t5 t6 f1 f2 f3 f4 f5 z1 z4 n2 bk2 hx rx hy ry ea al lx hto hfrom
      -- let in
      refine ⟨_, rfl, _, rfl, _, rfl, _, rfl, p, bot, most, rs, l, r, v, rfl, w18.bk, ok, hl, rv, rok, m0, by omega, fun H19 s19 => ?_⟩
      have w19 := w18.same s19
      have rv := rv.same s19
      clear w18 s19
      refine ⟨_, rfl, _, rfl, _, rfl, _, rfl, _, rfl, a, bot, most, rs, l, r, v, rfl, w19.rows, ok, o6, hl, rv, rok, fun H20 s20 => ?_⟩
      have w20 := w19.same s20
      clear w19 s20
      refine ⟨_, rfl, .bl _, fun H21 s21 => ⟨_, rfl, iteF ?_⟩⟩
      have w21 := w20.same s21
      clear w20 s21 rv rok
      -- top, burst
      refine ⟨_, rfl, _, rfl, _, _, rfl, rfl, h, g, bot + 1, rfl, w21.hand, by omega, by omega, fun H22 tp b22 a22 tp0 tp1 => ?_⟩
      have w22 := w21.kp b22.kp a22
      clear w21 b22 a22
      refine ⟨_, rfl, h, g, 6, rfl, w22.hand, by decide, by decide, fun H23 bu b23 a23 bu0 bu1 => ⟨1, bu, rfl, rfl, ?_⟩⟩
      have w23 := w22.kp b23.kp a23
      clear w22 b23 a23
      obtain ⟨bs, eb⟩ : ∃ bs : Int, 1 + bu = bs := ⟨_, rfl⟩
      have bs1 : 1 ≤ bs := by omega
      have bs2 : bs ≤ 20 := by omega
      refine ⟨(by show 2 ≤ sizeLine; decide), fun q nq => ?_⟩
      generalize hG : upd H23 q _ = H24
      have s24 : Same H23 H24 := by rw [← hG]; exact same_upd nq
      have e24 : H24 q = some (.tup [.int tp, .int bs]) := by rw [← hG, ← eb]; exact upd_same
      clear hG eb
      have w24 := w23.same s24
      clear w23
      refine ⟨q, _, rfl, SqT.of e24, rfl, _, _, rfl, _, _, rfl, rfl, ?_⟩
      clear e24 s24 nq bu0 bu1
      -- bursts
      refine ⟨fun σ' H' => ∃ y12 y13 : Option V, σ' = [some (.ref sa), some (.ref h), some (.int bot), some (.ref a), some (.ref p), some (.int (0 + (i : Int))), some (.int (l : Int)), some (.int most), some v, some (.ref p2), some (.int tp), some (.int bs), y12, y13, none] ∧ Wd A h g a p H' bot rs, ?_, ?_⟩
      · refine ⟨_, rfl, rfl, _, rfl, ite2 (fun _ => ?_) (fun _ => ⟨_, _, rfl, w24⟩)⟩
        refine ⟨1, 21, rfl, ⟨by decide, by decide, by decide, by decide⟩, fun D nD => ?_⟩
        refine lc_range (lo := 1) (n := (21 - 1 : Int).toNat) (fun j H' => Same H24 H' ∧ H' D = some (.lst (lstF (burstP bot rs l tp 0 most) (fun (j : Nat) => V.int (1 + (j : Int))) j))) ⟨same_upd nD, upd_same⟩ ?_ ?_
        · rintro j H25 hj ⟨s25, d25⟩
          have hj : j < 20 := hj
          refine ⟨rfl, ?_⟩
          refine ⟨_, rfl, _, rfl, _, rfl, _, rfl, _, rfl, (by show 3 ≤ sizeLine; decide), fun q nq => ?_⟩
          obtain ⟨H26, eH, s26, e26⟩ := newH nq (o := .tup [.int (1 + (j : Int)), .int tp, .int 0])
          rw [eH]
          clear eH
          have s26' := s25.trans s26
          refine ⟨_, rfl, a, bot, most, rs, l, some (1 + (j : Int), tp, 0), .ref q, rfl, (w24.same s26').rows, ok, o6, hl, ⟨q, rfl, e26⟩, ⟨⟨by omega, by omega⟩, ⟨tp0, by omega⟩, by decide, by decide⟩, fun H27 s27 => ?_⟩
          have d27 := s27 _ _ (s26 _ _ d25)
          have s27' := s26'.trans s27
          refine ⟨_, rfl, ?_⟩
          have ep : letB bot (wr rs l (some (1 + (j : Int), tp, 0))) most = burstP bot rs l tp 0 most j := rfl
          rw [ep]
          cases c : burstP bot rs l tp 0 most j with
          | true =>
            refine iteT ⟨_, rfl, _, d27, ?_, same_to s27' nD, ?_⟩
            · have := filF_len (p := burstP bot rs l tp 0 most) (f := fun (j : Nat) => V.int (1 + (j : Int))) (i := j)
              exact lts (by omega)
            · rw [upd_same, filF_next, if_pos c]
          | false =>
            refine iteF ⟨s27', ?_⟩
            rw [filF_next, if_neg (by rw [c]; exact Bool.false_ne_true), List.append_nil]
            exact d27
        · rintro H25 ⟨s25, d25⟩
          have e20 : (21 - 1 : Int).toNat = 20 := rfl
          rw [e20] at d25
          have w25 := w24.same s25
          have nx : (match (lastP (burstP bot rs l tp 0 most) 20).map (fun (j : Nat) => V.int (1 + (j : Int))) with
              | none => V.non
              | some v => v) = nextV (lastP (burstP bot rs l tp 0 most) 20) := next_eq.symm
          have due : ∃ u : V, u = nextV (lastP (burstP bot rs l tp 0 most) 20) := ⟨_, rfl⟩
          refine ⟨_, rfl, D, _, rfl, .inl (SqL.of d25), _, _, rfl, rfl, _, rfl, ite2 (fun c => ?_) (fun c => ?_)⟩
          · have c := of_decide_eq_true c
            have c : 0 < (lstF (burstP bot rs l tp 0 most) (fun (j : Nat) => V.int (1 + (j : Int))) 20).length := by omega
            have e := at_last c
            unfold lstF at e
            rw [last_map] at e
            cases z : lastP (burstP bot rs l tp 0 most) 20 with
            | none =>
              rw [z] at e
              have q : (lstF (burstP bot rs l tp 0 most) (fun (j : Nat) => V.int (1 + (j : Int))) 20).getLast? = none := by
                unfold lstF
                rw [last_map, z]
                rfl
              rw [List.getLast?_eq_none_iff] at q
              rw [q] at c
              cases c
            | some m =>
              rw [z] at e
              refine ⟨_, rfl, 1, rfl, D, _, -1, _, rfl, rfl, SqL.of d25, e, ?_⟩
              refine ⟨_, rfl, _, rfl, _, rfl, _, rfl, p, bot, most, tp, 0, rs, l, rfl, w25.bk, ok, hl, ⟨tp0, by omega⟩, ⟨by decide, by decide⟩, m0, by omega, fun H26 s26 => ?_⟩
              rw [z]
              exact ⟨_, rfl, nextV (some m), rfl, plain_next _, fun H27 s27 => ⟨_, rfl, iteF ⟨_, _, rfl, (w25.same s26).same s27⟩⟩⟩
          · have c : ¬ 0 < (lstF (burstP bot rs l tp 0 most) (fun (j : Nat) => V.int (1 + (j : Int))) 20).length := fun z => c (decide_eq_true (by omega))
            have z := last_none' c
            refine ⟨_, rfl, _, rfl, _, rfl, _, rfl, p, bot, most, tp, 0, rs, l, rfl, w25.bk, ok, hl, ⟨tp0, by omega⟩, ⟨by decide, by decide⟩, m0, by omega, fun H26 s26 => ?_⟩
            rw [z]
            exact ⟨_, rfl, .non, rfl, .non, fun H27 s27 => ⟨_, rfl, iteF ⟨_, _, rfl, (w25.same s26).same s27⟩⟩⟩
      rintro σ' H25 ⟨y12, y13, rfl, w25⟩
      clear w24
      -- tops
      refine ⟨_, rfl, _, _, rfl, rfl, bot + 1, rfl, by omega, by omega, fun D nD => ?_⟩
      refine lc_range (lo := 0) (n := (bot + 1).toNat) (fun j H' => Same H25 H' ∧ H' D = some (.lst (lstF (topP bot rs l bs 3 most) (fun (j : Nat) => V.int (j : Int)) j))) ⟨same_upd nD, upd_same⟩ ?_ ?_
      · rintro j H26 hj ⟨s26, d26⟩
        refine ⟨rfl, ?_⟩
        rw [Int.zero_add (j : Int)]
        refine ⟨_, rfl, _, rfl, _, rfl, _, rfl, _, rfl, (by show 3 ≤ sizeLine; decide), fun q nq => ?_⟩
        obtain ⟨H27, eH, s27, e27⟩ := newH nq (o := .tup [.int bs, .int (j : Int), .int 3])
        rw [eH]
        clear eH
        have s27' := s26.trans s27
        refine ⟨_, rfl, a, bot, most, rs, l, some (bs, (j : Int), 3), .ref q, rfl, (w25.same s27').rows, ok, o6, hl, ⟨q, rfl, e27⟩, ⟨⟨bs1, bs2⟩, ⟨by omega, by omega⟩, by decide, by decide⟩, fun H28 s28 => ?_⟩
        have d28 := s28 _ _ (s27 _ _ d26)
        have s28' := s27'.trans s28
        refine ⟨_, rfl, ?_⟩
        have ep : letB bot (wr rs l (some (bs, (j : Int), 3))) most = topP bot rs l bs 3 most j := rfl
        rw [ep]
        cases c : topP bot rs l bs 3 most j with
        | true =>
          refine iteT ⟨_, rfl, _, d28, ?_, same_to s28' nD, ?_⟩
          · have := filF_len (p := topP bot rs l bs 3 most) (f := fun (j : Nat) => V.int (j : Int)) (i := j)
            exact lts (by omega)
          · rw [upd_same, filF_next, if_pos c]
        | false =>
          refine iteF ⟨s28', ?_⟩
          rw [filF_next, if_neg (by rw [c]; exact Bool.false_ne_true), List.append_nil]
          exact d28
      · rintro H26 ⟨s26, d26⟩
        have w26 := w25.same s26
        refine ⟨_, rfl, _, rfl, _, rfl, _, rfl, p, bot, most, bs, 3, rs, l, rfl, w26.bk, ok, hl, ⟨bs1, bs2⟩, ⟨by decide, by decide⟩, m0, by omega, fun H27 s27 => ?_⟩
        have d27 := s27 _ _ d26
        have w27 := w26.same s27
        refine ⟨_, rfl, D, _, rfl, .inl (SqL.of d27), _, _, rfl, rfl, _, rfl, ite2 (fun c => ?_) (fun c => ?_)⟩
        · have c := of_decide_eq_true c
          have c : 0 < (lstF (topP bot rs l bs 3 most) (fun (j : Nat) => V.int (j : Int)) (bot + 1).toNat).length := by omega
          have e := at_last c
          unfold lstF at e
          rw [last_map] at e
          cases z : lastP (topP bot rs l bs 3 most) (bot + 1).toNat with
          | none =>
            have q : (lstF (topP bot rs l bs 3 most) (fun (j : Nat) => V.int (j : Int)) (bot + 1).toNat).getLast? = none := by
              unfold lstF
              rw [last_map, z]
              rfl
            rw [List.getLast?_eq_none_iff] at q
            rw [q] at c
            cases c
          | some m =>
            rw [z] at e
            refine ⟨_, rfl, 1, rfl, D, _, -1, _, rfl, rfl, SqL.of d27, e, ?_⟩
            exact ⟨lastV (some m), rfl, plain_last _, fun H28 s28 => ⟨_, rfl, iteF ⟨_, _, _, _, _, _, _, _, _, rfl, w27.same s28⟩⟩⟩
        · have c : ¬ 0 < (lstF (topP bot rs l bs 3 most) (fun (j : Nat) => V.int (j : Int)) (bot + 1).toNat).length := fun z => c (decide_eq_true (by omega))
          have z := last_none' c
          rw [z]
          exact ⟨.non, rfl, .non, fun H28 s28 => ⟨_, rfl, iteF ⟨_, _, _, _, _, _, _, _, _, rfl, w27.same s28⟩⟩⟩
    · rintro σ H5 ⟨y5, y6, y7, y8, y9, y10, y11, y12, y13, rfl, w5⟩
      exact kq H5
end

theorem end_mk {l : PySem.W.OpenLaw} {w : World} {K : PySem.W.Frag} {mg : Str → Option Value} {fa f_law : Addr} {kV dc pm cd ct : Value} {an : Option Addr} (E : ∃ A : Adr, Top K mg A ∧ A.d_law = PySem.W.fnOf "law" "law" (defArgs s_law) (defBody s_law) (defScope s_law) .none kV dc pm an cd ct ∧ A.a_law = f_law) (hfa : mg "law" = some (.ref fa)) :
    ∃ fd : FuncData, (∀ (s : Shared) (v : Value), BindsTo s fd ⟨[v], []⟩ [("_law_script", v)]) ∧ ∀ base : Heap, K.In base → base.Ns mainGlobals mg → FnOk l.prog w K mg base CX0 14 fa fd ["_law_script"] (spLaw K) := by
  obtain ⟨A, T, ed, ea⟩ := E
  have e := hfa.symm.trans T.g_law
  cases e
  exact ⟨A.d_law, fun s v => by rw [ed]; exact .of_eq rfl, fun base _ _ => ok_law T⟩
theorem top_end {l : PySem.W.OpenLaw} {w : World} {K : PySem.W.Frag} {h : Heap} {mg : Str → Option Value} {fa : Addr} (X : K.In h) (G : h.Ns mainGlobals mg) (hfa : mg "law" = some (.ref fa))
    {f_is_integer : Addr} {od_is_integer an_is_integer : Option Addr} {sl_is_integer : Array (Option Value)} {oc_is_integer kV_is_integer dc_is_integer pm_is_integer cd_is_integer ct_is_integer : Value}
    {f_is_integer_from : Addr} {od_is_integer_from an_is_integer_from : Option Addr} {sl_is_integer_from : Array (Option Value)} {oc_is_integer_from kV_is_integer_from dc_is_integer_from pm_is_integer_from cd_is_integer_from ct_is_integer_from : Value}
    {f_is_number_below : Addr} {od_is_number_below an_is_number_below : Option Addr} {sl_is_number_below : Array (Option Value)} {oc_is_number_below kV_is_number_below dc_is_number_below pm_is_number_below cd_is_number_below ct_is_number_below : Value}
    {f_is_tuple_of : Addr} {od_is_tuple_of an_is_tuple_of : Option Addr} {sl_is_tuple_of : Array (Option Value)} {oc_is_tuple_of kV_is_tuple_of dc_is_tuple_of pm_is_tuple_of cd_is_tuple_of ct_is_tuple_of : Value}
    {f_is_bucket : Addr} {od_is_bucket an_is_bucket : Option Addr} {sl_is_bucket : Array (Option Value)} {oc_is_bucket kV_is_bucket dc_is_bucket pm_is_bucket cd_is_bucket ct_is_bucket : Value}
    {f_Buckets___init__ : Addr} {od_Buckets___init__ an_Buckets___init__ : Option Addr} {sl_Buckets___init__ : Array (Option Value)} {oc_Buckets___init__ kV_Buckets___init__ dc_Buckets___init__ pm_Buckets___init__ cd_Buckets___init__ ct_Buckets___init__ : Value}
    {f_Buckets___eq__ : Addr} {od_Buckets___eq__ an_Buckets___eq__ : Option Addr} {sl_Buckets___eq__ : Array (Option Value)} {oc_Buckets___eq__ kV_Buckets___eq__ dc_Buckets___eq__ pm_Buckets___eq__ cd_Buckets___eq__ ct_Buckets___eq__ : Value}
    {f_check_line : Addr} {od_check_line an_check_line : Option Addr} {sl_check_line : Array (Option Value)} {oc_check_line kV_check_line dc_check_line pm_check_line cd_check_line ct_check_line : Value}
    {f_check_number : Addr} {od_check_number an_check_number : Option Addr} {sl_check_number : Array (Option Value)} {oc_check_number kV_check_number dc_check_number pm_check_number cd_check_number ct_check_number : Value}
    {f_most_of : Addr} {od_most_of an_most_of : Option Addr} {sl_most_of : Array (Option Value)} {oc_most_of kV_most_of dc_most_of pm_most_of cd_most_of ct_most_of : Value}
    {f_most_together : Addr} {od_most_together an_most_together : Option Addr} {sl_most_together : Array (Option Value)} {oc_most_together kV_most_together dc_most_together pm_most_together cd_most_together ct_most_together : Value}
    {f_rows_of : Addr} {od_rows_of an_rows_of : Option Addr} {sl_rows_of : Array (Option Value)} {oc_rows_of kV_rows_of dc_rows_of pm_rows_of cd_rows_of ct_rows_of : Value}
    {f_tops_of : Addr} {od_tops_of an_tops_of : Option Addr} {sl_tops_of : Array (Option Value)} {oc_tops_of kV_tops_of dc_tops_of pm_tops_of cd_tops_of ct_tops_of : Value}
    {f_greatest_hold : Addr} {od_greatest_hold an_greatest_hold : Option Addr} {sl_greatest_hold : Array (Option Value)} {oc_greatest_hold kV_greatest_hold dc_greatest_hold pm_greatest_hold cd_greatest_hold ct_greatest_hold : Value}
    {f_with_row : Addr} {od_with_row an_with_row : Option Addr} {sl_with_row : Array (Option Value)} {oc_with_row kV_with_row dc_with_row pm_with_row cd_with_row ct_with_row : Value}
    {f_holds_at_most : Addr} {od_holds_at_most an_holds_at_most : Option Addr} {sl_holds_at_most : Array (Option Value)} {oc_holds_at_most kV_holds_at_most dc_holds_at_most pm_holds_at_most cd_holds_at_most ct_holds_at_most : Value}
    {f_let_in : Addr} {od_let_in an_let_in : Option Addr} {sl_let_in : Array (Option Value)} {oc_let_in kV_let_in dc_let_in pm_let_in cd_let_in ct_let_in : Value}
    {f_greatest_in : Addr} {od_greatest_in an_greatest_in : Option Addr} {sl_greatest_in : Array (Option Value)} {oc_greatest_in kV_greatest_in dc_greatest_in pm_greatest_in cd_greatest_in ct_greatest_in : Value}
    {f_greatest_burst : Addr} {od_greatest_burst an_greatest_burst : Option Addr} {sl_greatest_burst : Array (Option Value)} {oc_greatest_burst kV_greatest_burst dc_greatest_burst pm_greatest_burst cd_greatest_burst ct_greatest_burst : Value}
    {f_greatest_top : Addr} {od_greatest_top an_greatest_top : Option Addr} {sl_greatest_top : Array (Option Value)} {oc_greatest_top kV_greatest_top dc_greatest_top pm_greatest_top cd_greatest_top ct_greatest_top : Value}
    {f_law_hand : Addr} {od_law_hand an_law_hand : Option Addr} {sl_law_hand : Array (Option Value)} {oc_law_hand kV_law_hand dc_law_hand pm_law_hand cd_law_hand ct_law_hand : Value}
    {f_law_draw : Addr} {od_law_draw an_law_draw : Option Addr} {sl_law_draw : Array (Option Value)} {oc_law_draw kV_law_draw dc_law_draw pm_law_draw cd_law_draw ct_law_draw : Value}
    {f_law_pick : Addr} {od_law_pick an_law_pick : Option Addr} {sl_law_pick : Array (Option Value)} {oc_law_pick kV_law_pick dc_law_pick pm_law_pick cd_law_pick ct_law_pick : Value}
    {f_law_same : Addr} {od_law_same an_law_same : Option Addr} {sl_law_same : Array (Option Value)} {oc_law_same kV_law_same dc_law_same pm_law_same cd_law_same ct_law_same : Value}
    {f_law_rows : Addr} {od_law_rows an_law_rows : Option Addr} {sl_law_rows : Array (Option Value)} {oc_law_rows kV_law_rows dc_law_rows pm_law_rows cd_law_rows ct_law_rows : Value}
    {f_law_sent : Addr} {od_law_sent an_law_sent : Option Addr} {sl_law_sent : Array (Option Value)} {oc_law_sent kV_law_sent dc_law_sent pm_law_sent cd_law_sent ct_law_sent : Value}
    {f_law_reach : Addr} {od_law_reach an_law_reach : Option Addr} {sl_law_reach : Array (Option Value)} {oc_law_reach kV_law_reach dc_law_reach pm_law_reach cd_law_reach ct_law_reach : Value}
    {f_law_hold : Addr} {od_law_hold an_law_hold : Option Addr} {sl_law_hold : Array (Option Value)} {oc_law_hold kV_law_hold dc_law_hold pm_law_hold cd_law_hold ct_law_hold : Value}
    {f_law_is_let : Addr} {od_law_is_let an_law_is_let : Option Addr} {sl_law_is_let : Array (Option Value)} {oc_law_is_let kV_law_is_let dc_law_is_let pm_law_is_let cd_law_is_let ct_law_is_let : Value}
    {f_law : Addr} {od_law an_law : Option Addr} {sl_law : Array (Option Value)} {oc_law kV_law dc_law pm_law cd_law ct_law : Value}
    {c_Buckets : Addr}
    {t_MOST_LINES : Tok}
    {t_KINDS : Tok}
    {t_GREATEST_BOTTOM : Tok}
    {t_GREATEST_BURST : Tok}
    {t_GREATEST_NUMBER : Tok}
    {t_LONGEST : Tok}
    (ac_Buckets : PySem.W.nsIn K mainGlobals "Buckets" = some (some (.ref c_Buckets)))
    (a_is_integer : PySem.W.nsIn K mainGlobals "is_integer" = some (some (.ref f_is_integer)))
    (l_is_integer : K.lookup f_is_integer = some ⟨oc_is_integer, od_is_integer, .func (PySem.W.fnOf "is_integer" "is_integer" (defArgs s_is_integer) (defBody s_is_integer) (defScope s_is_integer) .none kV_is_integer dc_is_integer pm_is_integer an_is_integer cd_is_integer ct_is_integer), sl_is_integer⟩)
    (q_is_integer : PySem.W.codeIn K cd_is_integer "is_integer" = true)
    (p_is_integer : PySem.W.keepIn K (.ref f_is_integer) = true)
    (a_is_integer_from : PySem.W.nsIn K mainGlobals "is_integer_from" = some (some (.ref f_is_integer_from)))
    (l_is_integer_from : K.lookup f_is_integer_from = some ⟨oc_is_integer_from, od_is_integer_from, .func (PySem.W.fnOf "is_integer_from" "is_integer_from" (defArgs s_is_integer_from) (defBody s_is_integer_from) (defScope s_is_integer_from) .none kV_is_integer_from dc_is_integer_from pm_is_integer_from an_is_integer_from cd_is_integer_from ct_is_integer_from), sl_is_integer_from⟩)
    (q_is_integer_from : PySem.W.codeIn K cd_is_integer_from "is_integer_from" = true)
    (p_is_integer_from : PySem.W.keepIn K (.ref f_is_integer_from) = true)
    (a_is_number_below : PySem.W.nsIn K mainGlobals "is_number_below" = some (some (.ref f_is_number_below)))
    (l_is_number_below : K.lookup f_is_number_below = some ⟨oc_is_number_below, od_is_number_below, .func (PySem.W.fnOf "is_number_below" "is_number_below" (defArgs s_is_number_below) (defBody s_is_number_below) (defScope s_is_number_below) .none kV_is_number_below dc_is_number_below pm_is_number_below an_is_number_below cd_is_number_below ct_is_number_below), sl_is_number_below⟩)
    (q_is_number_below : PySem.W.codeIn K cd_is_number_below "is_number_below" = true)
    (p_is_number_below : PySem.W.keepIn K (.ref f_is_number_below) = true)
    (a_is_tuple_of : PySem.W.nsIn K mainGlobals "is_tuple_of" = some (some (.ref f_is_tuple_of)))
    (l_is_tuple_of : K.lookup f_is_tuple_of = some ⟨oc_is_tuple_of, od_is_tuple_of, .func (PySem.W.fnOf "is_tuple_of" "is_tuple_of" (defArgs s_is_tuple_of) (defBody s_is_tuple_of) (defScope s_is_tuple_of) .none kV_is_tuple_of dc_is_tuple_of pm_is_tuple_of an_is_tuple_of cd_is_tuple_of ct_is_tuple_of), sl_is_tuple_of⟩)
    (q_is_tuple_of : PySem.W.codeIn K cd_is_tuple_of "is_tuple_of" = true)
    (p_is_tuple_of : PySem.W.keepIn K (.ref f_is_tuple_of) = true)
    (a_is_bucket : PySem.W.nsIn K mainGlobals "is_bucket" = some (some (.ref f_is_bucket)))
    (l_is_bucket : K.lookup f_is_bucket = some ⟨oc_is_bucket, od_is_bucket, .func (PySem.W.fnOf "is_bucket" "is_bucket" (defArgs s_is_bucket) (defBody s_is_bucket) (defScope s_is_bucket) .none kV_is_bucket dc_is_bucket pm_is_bucket an_is_bucket cd_is_bucket ct_is_bucket), sl_is_bucket⟩)
    (q_is_bucket : PySem.W.codeIn K cd_is_bucket "is_bucket" = true)
    (p_is_bucket : PySem.W.keepIn K (.ref f_is_bucket) = true)
    (a_Buckets___init__ : PySem.W.findIn K (.ref c_Buckets) "__init__" = some (some (.ref f_Buckets___init__)))
    (i_Buckets___init__ : PySem.W.isFn K (.ref f_Buckets___init__) = true)
    (l_Buckets___init__ : K.lookup f_Buckets___init__ = some ⟨oc_Buckets___init__, od_Buckets___init__, .func (PySem.W.fnOf "__init__" "Buckets.__init__" (defArgs s_Buckets___init__) (defBody s_Buckets___init__) (defScope s_Buckets___init__) .none kV_Buckets___init__ dc_Buckets___init__ pm_Buckets___init__ an_Buckets___init__ cd_Buckets___init__ ct_Buckets___init__), sl_Buckets___init__⟩)
    (q_Buckets___init__ : PySem.W.codeIn K cd_Buckets___init__ "Buckets.__init__" = true)
    (p_Buckets___init__ : PySem.W.keepIn K (.ref f_Buckets___init__) = true)
    (a_Buckets___eq__ : PySem.W.findIn K (.ref c_Buckets) "__eq__" = some (some (.ref f_Buckets___eq__)))
    (i_Buckets___eq__ : PySem.W.isFn K (.ref f_Buckets___eq__) = true)
    (l_Buckets___eq__ : K.lookup f_Buckets___eq__ = some ⟨oc_Buckets___eq__, od_Buckets___eq__, .func (PySem.W.fnOf "__eq__" "Buckets.__eq__" (defArgs s_Buckets___eq__) (defBody s_Buckets___eq__) (defScope s_Buckets___eq__) .none kV_Buckets___eq__ dc_Buckets___eq__ pm_Buckets___eq__ an_Buckets___eq__ cd_Buckets___eq__ ct_Buckets___eq__), sl_Buckets___eq__⟩)
    (q_Buckets___eq__ : PySem.W.codeIn K cd_Buckets___eq__ "Buckets.__eq__" = true)
    (p_Buckets___eq__ : PySem.W.keepIn K (.ref f_Buckets___eq__) = true)
    (a_check_line : PySem.W.nsIn K mainGlobals "check_line" = some (some (.ref f_check_line)))
    (l_check_line : K.lookup f_check_line = some ⟨oc_check_line, od_check_line, .func (PySem.W.fnOf "check_line" "check_line" (defArgs s_check_line) (defBody s_check_line) (defScope s_check_line) .none kV_check_line dc_check_line pm_check_line an_check_line cd_check_line ct_check_line), sl_check_line⟩)
    (q_check_line : PySem.W.codeIn K cd_check_line "check_line" = true)
    (p_check_line : PySem.W.keepIn K (.ref f_check_line) = true)
    (a_check_number : PySem.W.nsIn K mainGlobals "check_number" = some (some (.ref f_check_number)))
    (l_check_number : K.lookup f_check_number = some ⟨oc_check_number, od_check_number, .func (PySem.W.fnOf "check_number" "check_number" (defArgs s_check_number) (defBody s_check_number) (defScope s_check_number) .none kV_check_number dc_check_number pm_check_number an_check_number cd_check_number ct_check_number), sl_check_number⟩)
    (q_check_number : PySem.W.codeIn K cd_check_number "check_number" = true)
    (p_check_number : PySem.W.keepIn K (.ref f_check_number) = true)
    (a_most_of : PySem.W.nsIn K mainGlobals "most_of" = some (some (.ref f_most_of)))
    (l_most_of : K.lookup f_most_of = some ⟨oc_most_of, od_most_of, .func (PySem.W.fnOf "most_of" "most_of" (defArgs s_most_of) (defBody s_most_of) (defScope s_most_of) .none kV_most_of dc_most_of pm_most_of an_most_of cd_most_of ct_most_of), sl_most_of⟩)
    (q_most_of : PySem.W.codeIn K cd_most_of "most_of" = true)
    (p_most_of : PySem.W.keepIn K (.ref f_most_of) = true)
    (a_most_together : PySem.W.nsIn K mainGlobals "most_together" = some (some (.ref f_most_together)))
    (l_most_together : K.lookup f_most_together = some ⟨oc_most_together, od_most_together, .func (PySem.W.fnOf "most_together" "most_together" (defArgs s_most_together) (defBody s_most_together) (defScope s_most_together) .none kV_most_together dc_most_together pm_most_together an_most_together cd_most_together ct_most_together), sl_most_together⟩)
    (q_most_together : PySem.W.codeIn K cd_most_together "most_together" = true)
    (p_most_together : PySem.W.keepIn K (.ref f_most_together) = true)
    (a_rows_of : PySem.W.nsIn K mainGlobals "rows_of" = some (some (.ref f_rows_of)))
    (l_rows_of : K.lookup f_rows_of = some ⟨oc_rows_of, od_rows_of, .func (PySem.W.fnOf "rows_of" "rows_of" (defArgs s_rows_of) (defBody s_rows_of) (defScope s_rows_of) .none kV_rows_of dc_rows_of pm_rows_of an_rows_of cd_rows_of ct_rows_of), sl_rows_of⟩)
    (q_rows_of : PySem.W.codeIn K cd_rows_of "rows_of" = true)
    (p_rows_of : PySem.W.keepIn K (.ref f_rows_of) = true)
    (a_tops_of : PySem.W.nsIn K mainGlobals "tops_of" = some (some (.ref f_tops_of)))
    (l_tops_of : K.lookup f_tops_of = some ⟨oc_tops_of, od_tops_of, .func (PySem.W.fnOf "tops_of" "tops_of" (defArgs s_tops_of) (defBody s_tops_of) (defScope s_tops_of) .none kV_tops_of dc_tops_of pm_tops_of an_tops_of cd_tops_of ct_tops_of), sl_tops_of⟩)
    (q_tops_of : PySem.W.codeIn K cd_tops_of "tops_of" = true)
    (p_tops_of : PySem.W.keepIn K (.ref f_tops_of) = true)
    (a_greatest_hold : PySem.W.nsIn K mainGlobals "greatest_hold" = some (some (.ref f_greatest_hold)))
    (l_greatest_hold : K.lookup f_greatest_hold = some ⟨oc_greatest_hold, od_greatest_hold, .func (PySem.W.fnOf "greatest_hold" "greatest_hold" (defArgs s_greatest_hold) (defBody s_greatest_hold) (defScope s_greatest_hold) .none kV_greatest_hold dc_greatest_hold pm_greatest_hold an_greatest_hold cd_greatest_hold ct_greatest_hold), sl_greatest_hold⟩)
    (q_greatest_hold : PySem.W.codeIn K cd_greatest_hold "greatest_hold" = true)
    (p_greatest_hold : PySem.W.keepIn K (.ref f_greatest_hold) = true)
    (a_with_row : PySem.W.nsIn K mainGlobals "with_row" = some (some (.ref f_with_row)))
    (l_with_row : K.lookup f_with_row = some ⟨oc_with_row, od_with_row, .func (PySem.W.fnOf "with_row" "with_row" (defArgs s_with_row) (defBody s_with_row) (defScope s_with_row) .none kV_with_row dc_with_row pm_with_row an_with_row cd_with_row ct_with_row), sl_with_row⟩)
    (q_with_row : PySem.W.codeIn K cd_with_row "with_row" = true)
    (p_with_row : PySem.W.keepIn K (.ref f_with_row) = true)
    (a_holds_at_most : PySem.W.nsIn K mainGlobals "holds_at_most" = some (some (.ref f_holds_at_most)))
    (l_holds_at_most : K.lookup f_holds_at_most = some ⟨oc_holds_at_most, od_holds_at_most, .func (PySem.W.fnOf "holds_at_most" "holds_at_most" (defArgs s_holds_at_most) (defBody s_holds_at_most) (defScope s_holds_at_most) .none kV_holds_at_most dc_holds_at_most pm_holds_at_most an_holds_at_most cd_holds_at_most ct_holds_at_most), sl_holds_at_most⟩)
    (q_holds_at_most : PySem.W.codeIn K cd_holds_at_most "holds_at_most" = true)
    (p_holds_at_most : PySem.W.keepIn K (.ref f_holds_at_most) = true)
    (a_let_in : PySem.W.nsIn K mainGlobals "let_in" = some (some (.ref f_let_in)))
    (l_let_in : K.lookup f_let_in = some ⟨oc_let_in, od_let_in, .func (PySem.W.fnOf "let_in" "let_in" (defArgs s_let_in) (defBody s_let_in) (defScope s_let_in) .none kV_let_in dc_let_in pm_let_in an_let_in cd_let_in ct_let_in), sl_let_in⟩)
    (q_let_in : PySem.W.codeIn K cd_let_in "let_in" = true)
    (p_let_in : PySem.W.keepIn K (.ref f_let_in) = true)
    (a_greatest_in : PySem.W.nsIn K mainGlobals "greatest_in" = some (some (.ref f_greatest_in)))
    (l_greatest_in : K.lookup f_greatest_in = some ⟨oc_greatest_in, od_greatest_in, .func (PySem.W.fnOf "greatest_in" "greatest_in" (defArgs s_greatest_in) (defBody s_greatest_in) (defScope s_greatest_in) .none kV_greatest_in dc_greatest_in pm_greatest_in an_greatest_in cd_greatest_in ct_greatest_in), sl_greatest_in⟩)
    (q_greatest_in : PySem.W.codeIn K cd_greatest_in "greatest_in" = true)
    (p_greatest_in : PySem.W.keepIn K (.ref f_greatest_in) = true)
    (a_greatest_burst : PySem.W.nsIn K mainGlobals "greatest_burst" = some (some (.ref f_greatest_burst)))
    (l_greatest_burst : K.lookup f_greatest_burst = some ⟨oc_greatest_burst, od_greatest_burst, .func (PySem.W.fnOf "greatest_burst" "greatest_burst" (defArgs s_greatest_burst) (defBody s_greatest_burst) (defScope s_greatest_burst) .none kV_greatest_burst dc_greatest_burst pm_greatest_burst an_greatest_burst cd_greatest_burst ct_greatest_burst), sl_greatest_burst⟩)
    (q_greatest_burst : PySem.W.codeIn K cd_greatest_burst "greatest_burst" = true)
    (p_greatest_burst : PySem.W.keepIn K (.ref f_greatest_burst) = true)
    (a_greatest_top : PySem.W.nsIn K mainGlobals "greatest_top" = some (some (.ref f_greatest_top)))
    (l_greatest_top : K.lookup f_greatest_top = some ⟨oc_greatest_top, od_greatest_top, .func (PySem.W.fnOf "greatest_top" "greatest_top" (defArgs s_greatest_top) (defBody s_greatest_top) (defScope s_greatest_top) .none kV_greatest_top dc_greatest_top pm_greatest_top an_greatest_top cd_greatest_top ct_greatest_top), sl_greatest_top⟩)
    (q_greatest_top : PySem.W.codeIn K cd_greatest_top "greatest_top" = true)
    (p_greatest_top : PySem.W.keepIn K (.ref f_greatest_top) = true)
    (a_law_hand : PySem.W.nsIn K mainGlobals "_law_hand" = some (some (.ref f_law_hand)))
    (l_law_hand : K.lookup f_law_hand = some ⟨oc_law_hand, od_law_hand, .func (PySem.W.fnOf "_law_hand" "_law_hand" (defArgs s_law_hand) (defBody s_law_hand) (defScope s_law_hand) .none kV_law_hand dc_law_hand pm_law_hand an_law_hand cd_law_hand ct_law_hand), sl_law_hand⟩)
    (q_law_hand : PySem.W.codeIn K cd_law_hand "_law_hand" = true)
    (p_law_hand : PySem.W.keepIn K (.ref f_law_hand) = true)
    (a_law_draw : PySem.W.nsIn K mainGlobals "_law_draw" = some (some (.ref f_law_draw)))
    (l_law_draw : K.lookup f_law_draw = some ⟨oc_law_draw, od_law_draw, .func (PySem.W.fnOf "_law_draw" "_law_draw" (defArgs s_law_draw) (defBody s_law_draw) (defScope s_law_draw) .none kV_law_draw dc_law_draw pm_law_draw an_law_draw cd_law_draw ct_law_draw), sl_law_draw⟩)
    (q_law_draw : PySem.W.codeIn K cd_law_draw "_law_draw" = true)
    (p_law_draw : PySem.W.keepIn K (.ref f_law_draw) = true)
    (a_law_pick : PySem.W.nsIn K mainGlobals "_law_pick" = some (some (.ref f_law_pick)))
    (l_law_pick : K.lookup f_law_pick = some ⟨oc_law_pick, od_law_pick, .func (PySem.W.fnOf "_law_pick" "_law_pick" (defArgs s_law_pick) (defBody s_law_pick) (defScope s_law_pick) .none kV_law_pick dc_law_pick pm_law_pick an_law_pick cd_law_pick ct_law_pick), sl_law_pick⟩)
    (q_law_pick : PySem.W.codeIn K cd_law_pick "_law_pick" = true)
    (p_law_pick : PySem.W.keepIn K (.ref f_law_pick) = true)
    (a_law_same : PySem.W.nsIn K mainGlobals "_law_same" = some (some (.ref f_law_same)))
    (l_law_same : K.lookup f_law_same = some ⟨oc_law_same, od_law_same, .func (PySem.W.fnOf "_law_same" "_law_same" (defArgs s_law_same) (defBody s_law_same) (defScope s_law_same) .none kV_law_same dc_law_same pm_law_same an_law_same cd_law_same ct_law_same), sl_law_same⟩)
    (q_law_same : PySem.W.codeIn K cd_law_same "_law_same" = true)
    (p_law_same : PySem.W.keepIn K (.ref f_law_same) = true)
    (a_law_rows : PySem.W.nsIn K mainGlobals "_law_rows" = some (some (.ref f_law_rows)))
    (l_law_rows : K.lookup f_law_rows = some ⟨oc_law_rows, od_law_rows, .func (PySem.W.fnOf "_law_rows" "_law_rows" (defArgs s_law_rows) (defBody s_law_rows) (defScope s_law_rows) .none kV_law_rows dc_law_rows pm_law_rows an_law_rows cd_law_rows ct_law_rows), sl_law_rows⟩)
    (q_law_rows : PySem.W.codeIn K cd_law_rows "_law_rows" = true)
    (p_law_rows : PySem.W.keepIn K (.ref f_law_rows) = true)
    (a_law_sent : PySem.W.nsIn K mainGlobals "_law_sent" = some (some (.ref f_law_sent)))
    (l_law_sent : K.lookup f_law_sent = some ⟨oc_law_sent, od_law_sent, .func (PySem.W.fnOf "_law_sent" "_law_sent" (defArgs s_law_sent) (defBody s_law_sent) (defScope s_law_sent) .none kV_law_sent dc_law_sent pm_law_sent an_law_sent cd_law_sent ct_law_sent), sl_law_sent⟩)
    (q_law_sent : PySem.W.codeIn K cd_law_sent "_law_sent" = true)
    (p_law_sent : PySem.W.keepIn K (.ref f_law_sent) = true)
    (a_law_reach : PySem.W.nsIn K mainGlobals "_law_reach" = some (some (.ref f_law_reach)))
    (l_law_reach : K.lookup f_law_reach = some ⟨oc_law_reach, od_law_reach, .func (PySem.W.fnOf "_law_reach" "_law_reach" (defArgs s_law_reach) (defBody s_law_reach) (defScope s_law_reach) .none kV_law_reach dc_law_reach pm_law_reach an_law_reach cd_law_reach ct_law_reach), sl_law_reach⟩)
    (q_law_reach : PySem.W.codeIn K cd_law_reach "_law_reach" = true)
    (p_law_reach : PySem.W.keepIn K (.ref f_law_reach) = true)
    (a_law_hold : PySem.W.nsIn K mainGlobals "_law_hold" = some (some (.ref f_law_hold)))
    (l_law_hold : K.lookup f_law_hold = some ⟨oc_law_hold, od_law_hold, .func (PySem.W.fnOf "_law_hold" "_law_hold" (defArgs s_law_hold) (defBody s_law_hold) (defScope s_law_hold) .none kV_law_hold dc_law_hold pm_law_hold an_law_hold cd_law_hold ct_law_hold), sl_law_hold⟩)
    (q_law_hold : PySem.W.codeIn K cd_law_hold "_law_hold" = true)
    (p_law_hold : PySem.W.keepIn K (.ref f_law_hold) = true)
    (a_law_is_let : PySem.W.nsIn K mainGlobals "_law_is_let" = some (some (.ref f_law_is_let)))
    (l_law_is_let : K.lookup f_law_is_let = some ⟨oc_law_is_let, od_law_is_let, .func (PySem.W.fnOf "_law_is_let" "_law_is_let" (defArgs s_law_is_let) (defBody s_law_is_let) (defScope s_law_is_let) .none kV_law_is_let dc_law_is_let pm_law_is_let an_law_is_let cd_law_is_let ct_law_is_let), sl_law_is_let⟩)
    (q_law_is_let : PySem.W.codeIn K cd_law_is_let "_law_is_let" = true)
    (p_law_is_let : PySem.W.keepIn K (.ref f_law_is_let) = true)
    (a_law : PySem.W.nsIn K mainGlobals "law" = some (some (.ref f_law)))
    (l_law : K.lookup f_law = some ⟨oc_law, od_law, .func (PySem.W.fnOf "law" "law" (defArgs s_law) (defBody s_law) (defScope s_law) .none kV_law dc_law pm_law an_law cd_law ct_law), sl_law⟩)
    (q_law : PySem.W.codeIn K cd_law "law" = true)
    (p_law : PySem.W.keepIn K (.ref f_law) = true)
    (pg_Buckets : PySem.W.plainGet K c_Buckets Str.empty = true)
    (hd_Buckets : PySem.W.hasDictIn K c_Buckets = true)
    (po_Buckets : PySem.W.plainOver K c_Buckets = true)
    (sa_Buckets : PySem.W.findIn K (.ref c_Buckets) "__setattr__" = some (some (.builtin "object.__setattr__")))
    (mk_Buckets : PySem.W.makesIn K c_Buckets = true)
    (kc_Buckets : PySem.W.keepIn K (.ref c_Buckets) = true)
    (n_Buckets_bottom : PySem.W.findIn K (.ref c_Buckets) "bottom" = some none)
    (n_Buckets_rows : PySem.W.findIn K (.ref c_Buckets) "rows" = some none)
    (ne_Buckets : PySem.W.findIn K (.ref c_Buckets) "__ne__" = some (some (.builtin "object.__ne__")))
    (tt_Buckets : PySem.W.typeIn K (.ref c_Buckets) = some (.type "type"))
    (ci_Buckets : PySem.W.findIn K (.ref c_Buckets) "__class__" = some (some (.builtin "object.__class__")))
    (em_Buckets : PySem.W.mroIn K c_Buckets (.type "object") = some true)
    (en1 : PySem.W.specialIn K (.builtin "object.__class__") "__get__" = some (some (.builtin "getset_descriptor.__get__")))
    (en2 : PySem.W.takesIn K (.builtin "object.__class__") = some true)
    (su_Buckets_int : PySem.W.subIn K (.ref c_Buckets) (.type "int") = some false)
    (su_Buckets_bool : PySem.W.subIn K (.ref c_Buckets) (.type "bool") = some false)
    (su_Buckets_tuple : PySem.W.subIn K (.ref c_Buckets) (.type "tuple") = some false)
    (k_MOST_LINES : PySem.W.nsIn K mainGlobals "MOST_LINES" = some (some (.int 12 t_MOST_LINES)))
    (k_KINDS : PySem.W.nsIn K mainGlobals "KINDS" = some (some (.int 8 t_KINDS)))
    (k_GREATEST_BOTTOM : PySem.W.nsIn K mainGlobals "GREATEST_BOTTOM" = some (some (.int 20 t_GREATEST_BOTTOM)))
    (k_GREATEST_BURST : PySem.W.nsIn K mainGlobals "GREATEST_BURST" = some (some (.int 20 t_GREATEST_BURST)))
    (k_GREATEST_NUMBER : PySem.W.nsIn K mainGlobals "GREATEST_NUMBER" = some (some (.int 1000000000 t_GREATEST_NUMBER)))
    (k_LONGEST : PySem.W.nsIn K mainGlobals "LONGEST" = some (some (.int 420 t_LONGEST)))
    (z_abs : PySem.W.nsIn K mainGlobals "abs" = some none)
    (z_all : PySem.W.nsIn K mainGlobals "all" = some none)
    (z_bool : PySem.W.nsIn K mainGlobals "bool" = some none)
    (z_enumerate : PySem.W.nsIn K mainGlobals "enumerate" = some none)
    (z_int : PySem.W.nsIn K mainGlobals "int" = some none)
    (z_isinstance : PySem.W.nsIn K mainGlobals "isinstance" = some none)
    (z_len : PySem.W.nsIn K mainGlobals "len" = some none)
    (z_list : PySem.W.nsIn K mainGlobals "list" = some none)
    (z_max : PySem.W.nsIn K mainGlobals "max" = some none)
    (z_min : PySem.W.nsIn K mainGlobals "min" = some none)
    (z_range : PySem.W.nsIn K mainGlobals "range" = some none)
    (z_sum : PySem.W.nsIn K mainGlobals "sum" = some none)
    (z_tuple : PySem.W.nsIn K mainGlobals "tuple" = some none)
    (z_zip : PySem.W.nsIn K mainGlobals "zip" = some none)
    : ∃ fd : FuncData, (∀ (s : Shared) (v : Value), BindsTo s fd ⟨[v], []⟩ [("_law_script", v)]) ∧ ∀ base : Heap, K.In base → base.Ns mainGlobals mg → FnOk l.prog w K mg base CX0 14 fa fd ["_law_script"] (spLaw K) :=
  end_mk (top_mk (l := l) (w := w) X G ac_Buckets a_is_integer l_is_integer q_is_integer p_is_integer a_is_integer_from l_is_integer_from q_is_integer_from p_is_integer_from a_is_number_below l_is_number_below q_is_number_below p_is_number_below a_is_tuple_of l_is_tuple_of q_is_tuple_of p_is_tuple_of a_is_bucket l_is_bucket q_is_bucket p_is_bucket a_Buckets___init__ i_Buckets___init__ l_Buckets___init__ q_Buckets___init__ p_Buckets___init__ a_Buckets___eq__ i_Buckets___eq__ l_Buckets___eq__ q_Buckets___eq__ p_Buckets___eq__ a_check_line l_check_line q_check_line p_check_line a_check_number l_check_number q_check_number p_check_number a_most_of l_most_of q_most_of p_most_of a_most_together l_most_together q_most_together p_most_together a_rows_of l_rows_of q_rows_of p_rows_of a_tops_of l_tops_of q_tops_of p_tops_of a_greatest_hold l_greatest_hold q_greatest_hold p_greatest_hold a_with_row l_with_row q_with_row p_with_row a_holds_at_most l_holds_at_most q_holds_at_most p_holds_at_most a_let_in l_let_in q_let_in p_let_in a_greatest_in l_greatest_in q_greatest_in p_greatest_in a_greatest_burst l_greatest_burst q_greatest_burst p_greatest_burst a_greatest_top l_greatest_top q_greatest_top p_greatest_top a_law_hand l_law_hand q_law_hand p_law_hand a_law_draw l_law_draw q_law_draw p_law_draw a_law_pick l_law_pick q_law_pick p_law_pick a_law_same l_law_same q_law_same p_law_same a_law_rows l_law_rows q_law_rows p_law_rows a_law_sent l_law_sent q_law_sent p_law_sent a_law_reach l_law_reach q_law_reach p_law_reach a_law_hold l_law_hold q_law_hold p_law_hold a_law_is_let l_law_is_let q_law_is_let p_law_is_let a_law l_law q_law p_law pg_Buckets hd_Buckets po_Buckets sa_Buckets mk_Buckets kc_Buckets n_Buckets_bottom n_Buckets_rows ne_Buckets tt_Buckets ci_Buckets em_Buckets en1 en2 su_Buckets_int su_Buckets_bool su_Buckets_tuple k_MOST_LINES k_KINDS k_GREATEST_BOTTOM k_GREATEST_BURST k_GREATEST_NUMBER k_LONGEST z_abs z_all z_bool z_enumerate z_int z_isinstance z_len z_list z_max z_min z_range z_sum z_tuple z_zip) hfa

end KX
open PySem PySem.W PyProof.Rows in
set_option maxRecDepth 100000 in
set_option maxHeartbeats 0 in
theorem PySem.Challenge.cw_exactbeats_k58_whole_lines_let_in_holds : PySem.Challenge.rw_exactbeats_k58_whole_lines_let_in.Holds := by
  w_on; o_law; k_head; (case hw => w_witness2)
  k_fill
  refine L2.walk_of (l := PySem.Challenge.rw_exactbeats_k58_whole_lines_let_in) (n := 63) (k := 14) (x := "_law_script") (CX := fun _ => L2.CX0) (sp := fun w => KX.spLaw _) rfl (by decide) rfl ⟨rfl, by decide, by decide⟩ (fun w h Y => PySem.W.kIn_of Y) ?F (fun _ _ a ns hl _ hS => ⟨a, ns, rfl, hS, hl, fun _ => rfl⟩) (fun _ _ _ _ _ h => h)
  case F =>
    intro w mg fa h KX_ G hmg
    refine' KX.top_end KX_ G hmg ?ac_Buckets ?a_is_integer ?l_is_integer ?q_is_integer ?p_is_integer ?a_is_integer_from ?l_is_integer_from ?q_is_integer_from ?p_is_integer_from ?a_is_number_below ?l_is_number_below ?q_is_number_below ?p_is_number_below ?a_is_tuple_of ?l_is_tuple_of ?q_is_tuple_of ?p_is_tuple_of ?a_is_bucket ?l_is_bucket ?q_is_bucket ?p_is_bucket ?a_Buckets___init__ ?i_Buckets___init__ ?l_Buckets___init__ ?q_Buckets___init__ ?p_Buckets___init__ ?a_Buckets___eq__ ?i_Buckets___eq__ ?l_Buckets___eq__ ?q_Buckets___eq__ ?p_Buckets___eq__ ?a_check_line ?l_check_line ?q_check_line ?p_check_line ?a_check_number ?l_check_number ?q_check_number ?p_check_number ?a_most_of ?l_most_of ?q_most_of ?p_most_of ?a_most_together ?l_most_together ?q_most_together ?p_most_together ?a_rows_of ?l_rows_of ?q_rows_of ?p_rows_of ?a_tops_of ?l_tops_of ?q_tops_of ?p_tops_of ?a_greatest_hold ?l_greatest_hold ?q_greatest_hold ?p_greatest_hold ?a_with_row ?l_with_row ?q_with_row ?p_with_row ?a_holds_at_most ?l_holds_at_most ?q_holds_at_most ?p_holds_at_most ?a_let_in ?l_let_in ?q_let_in ?p_let_in ?a_greatest_in ?l_greatest_in ?q_greatest_in ?p_greatest_in ?a_greatest_burst ?l_greatest_burst ?q_greatest_burst ?p_greatest_burst ?a_greatest_top ?l_greatest_top ?q_greatest_top ?p_greatest_top ?a_law_hand ?l_law_hand ?q_law_hand ?p_law_hand ?a_law_draw ?l_law_draw ?q_law_draw ?p_law_draw ?a_law_pick ?l_law_pick ?q_law_pick ?p_law_pick ?a_law_same ?l_law_same ?q_law_same ?p_law_same ?a_law_rows ?l_law_rows ?q_law_rows ?p_law_rows ?a_law_sent ?l_law_sent ?q_law_sent ?p_law_sent ?a_law_reach ?l_law_reach ?q_law_reach ?p_law_reach ?a_law_hold ?l_law_hold ?q_law_hold ?p_law_hold ?a_law_is_let ?l_law_is_let ?q_law_is_let ?p_law_is_let ?a_law ?l_law ?q_law ?p_law ?pg_Buckets ?hd_Buckets ?po_Buckets ?sa_Buckets ?mk_Buckets ?kc_Buckets ?n_Buckets_bottom ?n_Buckets_rows ?ne_Buckets ?tt_Buckets ?ci_Buckets ?em_Buckets ?en1 ?en2 ?su_Buckets_int ?su_Buckets_bool ?su_Buckets_tuple ?k_MOST_LINES ?k_KINDS ?k_GREATEST_BOTTOM ?k_GREATEST_BURST ?k_GREATEST_NUMBER ?k_LONGEST ?z_abs ?z_all ?z_bool ?z_enumerate ?z_int ?z_isinstance ?z_len ?z_list ?z_max ?z_min ?z_range ?z_sum ?z_tuple ?z_zip
    (case ac_Buckets => k_is)
    (case a_is_integer => k_is)
    (case l_is_integer => k_is)
    (case q_is_integer => k_is)
    (case p_is_integer => k_is)
    (case a_is_integer_from => k_is)
    (case l_is_integer_from => k_is)
    (case q_is_integer_from => k_is)
    (case p_is_integer_from => k_is)
    (case a_is_number_below => k_is)
    (case l_is_number_below => k_is)
    (case q_is_number_below => k_is)
    (case p_is_number_below => k_is)
    (case a_is_tuple_of => k_is)
    (case l_is_tuple_of => k_is)
    (case q_is_tuple_of => k_is)
    (case p_is_tuple_of => k_is)
    (case a_is_bucket => k_is)
    (case l_is_bucket => k_is)
    (case q_is_bucket => k_is)
    (case p_is_bucket => k_is)
    (case a_Buckets___init__ => k_is)
    (case i_Buckets___init__ => k_is)
    (case l_Buckets___init__ => k_is)
    (case q_Buckets___init__ => k_is)
    (case p_Buckets___init__ => k_is)
    (case a_Buckets___eq__ => k_is)
    (case i_Buckets___eq__ => k_is)
    (case l_Buckets___eq__ => k_is)
    (case q_Buckets___eq__ => k_is)
    (case p_Buckets___eq__ => k_is)
    (case a_check_line => k_is)
    (case l_check_line => k_is)
    (case q_check_line => k_is)
    (case p_check_line => k_is)
    (case a_check_number => k_is)
    (case l_check_number => k_is)
    (case q_check_number => k_is)
    (case p_check_number => k_is)
    (case a_most_of => k_is)
    (case l_most_of => k_is)
    (case q_most_of => k_is)
    (case p_most_of => k_is)
    (case a_most_together => k_is)
    (case l_most_together => k_is)
    (case q_most_together => k_is)
    (case p_most_together => k_is)
    (case a_rows_of => k_is)
    (case l_rows_of => k_is)
    (case q_rows_of => k_is)
    (case p_rows_of => k_is)
    (case a_tops_of => k_is)
    (case l_tops_of => k_is)
    (case q_tops_of => k_is)
    (case p_tops_of => k_is)
    (case a_greatest_hold => k_is)
    (case l_greatest_hold => k_is)
    (case q_greatest_hold => k_is)
    (case p_greatest_hold => k_is)
    (case a_with_row => k_is)
    (case l_with_row => k_is)
    (case q_with_row => k_is)
    (case p_with_row => k_is)
    (case a_holds_at_most => k_is)
    (case l_holds_at_most => k_is)
    (case q_holds_at_most => k_is)
    (case p_holds_at_most => k_is)
    (case a_let_in => k_is)
    (case l_let_in => k_is)
    (case q_let_in => k_is)
    (case p_let_in => k_is)
    (case a_greatest_in => k_is)
    (case l_greatest_in => k_is)
    (case q_greatest_in => k_is)
    (case p_greatest_in => k_is)
    (case a_greatest_burst => k_is)
    (case l_greatest_burst => k_is)
    (case q_greatest_burst => k_is)
    (case p_greatest_burst => k_is)
    (case a_greatest_top => k_is)
    (case l_greatest_top => k_is)
    (case q_greatest_top => k_is)
    (case p_greatest_top => k_is)
    (case a_law_hand => k_is)
    (case l_law_hand => k_is)
    (case q_law_hand => k_is)
    (case p_law_hand => k_is)
    (case a_law_draw => k_is)
    (case l_law_draw => k_is)
    (case q_law_draw => k_is)
    (case p_law_draw => k_is)
    (case a_law_pick => k_is)
    (case l_law_pick => k_is)
    (case q_law_pick => k_is)
    (case p_law_pick => k_is)
    (case a_law_same => k_is)
    (case l_law_same => k_is)
    (case q_law_same => k_is)
    (case p_law_same => k_is)
    (case a_law_rows => k_is)
    (case l_law_rows => k_is)
    (case q_law_rows => k_is)
    (case p_law_rows => k_is)
    (case a_law_sent => k_is)
    (case l_law_sent => k_is)
    (case q_law_sent => k_is)
    (case p_law_sent => k_is)
    (case a_law_reach => k_is)
    (case l_law_reach => k_is)
    (case q_law_reach => k_is)
    (case p_law_reach => k_is)
    (case a_law_hold => k_is)
    (case l_law_hold => k_is)
    (case q_law_hold => k_is)
    (case p_law_hold => k_is)
    (case a_law_is_let => k_is)
    (case l_law_is_let => k_is)
    (case q_law_is_let => k_is)
    (case p_law_is_let => k_is)
    (case a_law => k_is)
    (case l_law => k_is)
    (case q_law => k_is)
    (case p_law => k_is)
    (case pg_Buckets => k_is)
    (case hd_Buckets => k_is)
    (case po_Buckets => k_is)
    (case sa_Buckets => k_is)
    (case mk_Buckets => k_is)
    (case kc_Buckets => k_is)
    (case n_Buckets_bottom => k_is)
    (case n_Buckets_rows => k_is)
    (case ne_Buckets => k_is)
    (case tt_Buckets => k_is)
    (case ci_Buckets => k_is)
    (case em_Buckets => k_is)
    (case en1 => k_is)
    (case en2 => k_is)
    (case su_Buckets_int => k_is)
    (case su_Buckets_bool => k_is)
    (case su_Buckets_tuple => k_is)
    (case k_MOST_LINES => k_is)
    (case k_KINDS => k_is)
    (case k_GREATEST_BOTTOM => k_is)
    (case k_GREATEST_BURST => k_is)
    (case k_GREATEST_NUMBER => k_is)
    (case k_LONGEST => k_is)
    (case z_abs => k_is)
    (case z_all => k_is)
    (case z_bool => k_is)
    (case z_enumerate => k_is)
    (case z_int => k_is)
    (case z_isinstance => k_is)
    (case z_len => k_is)
    (case z_list => k_is)
    (case z_max => k_is)
    (case z_min => k_is)
    (case z_range => k_is)
    (case z_sum => k_is)
    (case z_tuple => k_is)
    (case z_zip => k_is)
