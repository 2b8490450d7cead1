import PyProof.Rows.All
import Wide.All
import OpenK.AllK
import Wide.FinOn
import HandS.ForMost
import HandS.IsInst
import HandS.More
import HandS.SetFor
import HandS.Evl
import HandS.Walk
import PyProof.Rows.CountFlat
import HandS.ForExc
import HandS.TryMany
import HandS.Small
import HandS.Style
import HandS.Lambda
import HandS.EndTab
import HandS.ExcIs
import KE.KNestM
import HandS.Zip
import HandS.TupAny
import HandS.Strs
import HandS.SortInts
import HandS.ExcInit
import HandS.ExcField
import KE.KExcIs
import KE.GoesMore
import PyProof.EnumMake
import PyProof.Draws
import PyProof.ReprRoads
import PyProof.CallFns
import PyProof.ReprLen
import PyProof.InstEq
import HandS.TupMul
import HandS.Flow
import HandS.Dict
import HandS.DictComp
import HandS.Deep
import HandS.TupSets
import HandS.Conv
import HandS.Rev
import KE.SortData
import HandS.TupLe
import PyProof.TupleOfSeq
import HandS.ExcValue
import PyProof.Transfer
import HandS.TupSets
import HandS.SortKw
import HandS.IsInst
import HandS.TupMul
import HandS.TupSets
import HandS.Comp
import HandS.Sort
import HandS.Conv
import HandS.ForMost
import HandS.Deep
import KE.DataFind
import KE.DataMinMax
import KE.SortData
import KE.KSortAsk
import KE.LtData
import KE.LtSeq
import KE.KDictList
import PyProof.P3In
import HandS.Zip0
import PyProof.EnumIter
import PyProof.Rows.SumAny
import PySem.Challenge.RW_exactbeats_k57_whole_greatest_waits
set_option Elab.async false
set_option linter.all false
set_option maxRecDepth 100000
set_option maxHeartbeats 4000000
/-! Rules that the layer lacks: an own exception made without arguments; what a lambda's call may raise. -/
namespace GX
open PySem PySem.Spec PyProof.Rows L2
section
variable {X : Cx}
/-- X(): an own exception class without an __init__ of its own, no argument -/
theorem pmk_own0 {C : Addr} {bmB : List Value} {B newId initId : String} {x : Str} {p pos : Pos} (FB : ExcBaseFacts B newId initId bmB) (hx : PySem.W.excIn X.K C bmB newId = true) (hm : X.mg x = some (.ref C)) (hk : PySem.W.keepIn X.K (.ref C) = true)
    (hR : Raises X (.ref C)) (hg : Gl X x) (hdb : (x == ("__debug__" : Str)) = false := by decide) : PMk X (.Call (.Name x p) [] [] pos) (fun _ H Q => Q (.ref C) none H) := by
  intro pins s σ H Q I h
  refine wpAny_Call_Name_kw (ld_glob I hg hm (PySem.W.callWith_K0 I.kIn hk ?_) hdb)
  obtain ⟨bm, N, nm, qn, bs, hdct, sn, sub, ab, col, dd, k0, k1, k2, k3, k5, mN, e1, e2, e3, tail⟩ := exc_obj I.kIn hx
  refine wpAny_call_exc_subT (rest := [] ++ []) FB tail e1 e2 e3 (fun h' e made => ?_)
  refine mk_of I made hR h ?_
  -- the new address is tracked by nothing
  cases q : H e with
  | none => rfl
  | some o =>
    have z := made.new
    obtain ⟨b, hb⟩ := objOk_get (I.hok e o q)
    rw [hb] at z
    cases z
/-- raising calls within a def's own body (or a lambda's) -/
theorem passX {E : XK} (h1 : X.stack = X.env :: X.outer) (h2 : X.env.frame = some X.env.locals) (h3 : X.ex = []) {E₁ : Value → Shared → Prop}
    (h4 : X.xe = fun e s' => wpAny (model X.prog X.w) X.A (leaving X.env e) (fun _ s'' => L2.CX X.prog X.w X.outer X.H_0 X.s_0 E e s'') E₁ s') : Passes (L2.CX X.prog X.w) X E :=
  passes_call (takes_of h1 h2 h3 h4) fun _ _ _ _ h => h
theorem takes_len {W : WX} (h : Takes X W) : Takes X (fun cls d σ H => σ.length = X.N.length → W cls d σ H) := fun u s' z => by
  obtain ⟨a, B, sI, pins, σ, H, cls, d, e1, I, r1, r2, r3, r4, r5, r6, r7⟩ := z
  exact h u s' ⟨a, B, sI, pins, σ, H, cls, d, e1, I, r1, r2, r3, r4, r5, r6, r7 I.len⟩
theorem call_isEg {a : Addr} {cls : Value} {d : Option Addr} {oe : Obj} {pn : List (Addr × Obj)} (hz : Zc cls d oe) (hf : ∃ vs, oe.data = Data.fields vs) :
    CallR (X.suite a ((a, oe) :: pn)) (.builtin "isinstance") (fun xs H Q => ∃ D, cls = .ref D ∧ d = none ∧ ExcC X.K D ∧ rIsE X.K D a xs H Q) := by
  intro pins s σ H xs us Q I r h
  obtain ⟨D, rfl, rfl, hE, h⟩ := h
  exact call_isE hE hz hf pins s σ H xs us Q I r h
/-- isinstance(e, c), e the error that the suite holds, with fields or without -/
theorem call_isEa {a : Addr} {cls : Value} {d : Option Addr} {oe : Obj} {pn : List (Addr × Obj)} (hz : Zc cls d oe) (hf : ∃ vs, oe.data = Data.fields vs) :
    CallR (X.suite a ((a, oe) :: pn)) (.builtin "isinstance") (fun xs H Q => ∃ D, cls = .ref D ∧ ExcC X.K D ∧ (d = none ∨ ∃ dd fs, d = some dd ∧ H dd = some (.xd fs)) ∧ rIsE X.K D a xs H Q) := by
  intro pins s σ H xs us Q I r h
  obtain ⟨D, rfl, C, hd, c, cv, b, rfl, hcv, e, q⟩ := h
  obtain ⟨u, u2, rfl, ru, ru2⟩ := r.two
  cases (show u = Value.ref a from ru)
  cases hcv _ ru2
  obtain ⟨there, _⟩ := I.pin (a, oe) (List.mem_append.mpr (.inl List.mem_cons_self))
  obtain ⟨vs, hv⟩ := hf
  have nc : PySem.W.notCls oe = true := by
    unfold PySem.W.notCls
    rw [hv]
  have od : ∃ od, PySem.W.InstAt s.heap a oe D od := by
    rcases hd with e1 | ⟨dd, fs, e1, e2⟩
    · subst e1
      exact ⟨none, there, hz.1, nc, by rw [hz.2]; trivial⟩
    · subst e1
      obtain ⟨mA, hns, _⟩ : ObjOk X.prog X.w H s.heap dd (.xd fs) := I.hok dd _ e2
      obtain ⟨od, ho, _⟩ := lookIn_ns hns
      exact ⟨some od, there, hz.1, nc, by rw [hz.2]; exact ho⟩
  obtain ⟨od, J⟩ := od
  have isC : (PySem.W.clsIn X.K D).isSome = true := by
    obtain ⟨cd, hc, _⟩ := PySem.W.any_some C.hd
    rw [hc] <;> rfl
  exact PySem.W.kia_one (PySem.W.kitx_exc isC C.hg C.hk C.hs C.ha C.hn C.ht C.hm) I.kIn J e (fun z => nomatch z) fun tk => ⟨.bl b, H, I.kept (t' := tk) fun _ _ z => z, rfl, q⟩
theorem exm_kit {K : PySem.W.Frag} {t c : Value} {b : Bool} (h : PySem.W.exmOne K t c = some b) : PySem.W.kitCls K t c = some b := by
  unfold PySem.W.exmOne at h
  split at h
  · exact h
  · cases h
theorem kit_yes {K : PySem.W.Frag} {t c : Value} (h : PySem.W.exmOne K t c = some true) : PySem.W.kitOne K t c = some true := by
  unfold PySem.W.kitOne
  split
  · rfl
  · exact exm_kit h
theorem kit_no {K : PySem.W.Frag} {D C : Addr} (h : PySem.W.exmOne K (.ref D) (.ref C) = some false) (self : PySem.W.subIn K (.ref C) (.ref C) = some true) (no : PySem.W.subIn K (.ref D) (.ref C) = some false) : PySem.W.kitOne K (.ref D) (.ref C) = some false := by
  unfold PySem.W.kitOne
  split
  · rename_i e
    have e2 : (Value.ref D) = .ref C := eq_of_beq e
    rw [e2, self] at no
    cases no
  · exact exm_kit h
theorem kit_bi {K : PySem.W.Frag} {D : Addr} {T : String} {b : Bool} (m : PySem.W.kitMeta T = true) (h : PySem.W.subIn K (.ref D) (.type T) = some b) : PySem.W.kitOne K (.ref D) (.type T) = some b := by
  unfold PySem.W.kitOne
  split
  · rename_i e
    have e2 : (Value.ref D) = .type T := eq_of_beq e
    cases e2
  · show (if PySem.W.kitMeta T = true then PySem.W.subIn K (.ref D) (.type T) else none) = some b
    rw [if_pos m]
    exact h
/-- a def of the text whose code is known -/
structure FunC (K : PySem.W.Frag) (x qual : Str) (st : Stmt) (f : Addr) (fd : FuncData) (c : Addr) : Prop where
  ex : ∃ oc od kV doc pm an ct osl, fd = PySem.W.fnOf x qual (defArgs st) (defBody st) (defScope st) .none kV doc pm an (.ref c) ct ∧ K.lookup f = some ⟨oc, od, .func fd, osl⟩ ∧ PySem.W.codeIn K (.ref c) qual = true
theorem FunC.ok {P : Program} {w : World} {K : PySem.W.Frag} {mg : Str → Option Value} {base : Heap} {x qual : Str} {st : Stmt} {f c : Addr} {fd : FuncData} {N ps : List Str} {k : Nat} {sp : Sp} (F : FunC K x qual st f fd c) (S : FnScope N ps (defScope st))
    (len : ∀ vs H Q E, sp vs H Q E → vs.length = ps.length)
    (hb : ∀ (A : Around) (outer : List Env) (s : Shared) (H : Hp) (vs : List V) (Q : VK) (E : XK), Room k (A.deeper (envOfC qual (defScope st) s.heap.objs.size f (.ref c))) → sp vs H Q E →
      ∃ t, PSs (cxOf L2.CX0 P w K mg base N qual (defScope st) f (.ref c) A outer s H E).nox (defBody st) t ∧ t { nx := fun _ H' => Q .non H', rt := Q } (L2.start N vs) H) : FnOk P w K mg base L2.CX0 (k + 1) f fd ps sp := by
  obtain ⟨oc, od, kV, doc, pm, an, ct, osl, rfl, lk, hcd⟩ := F.ex
  refine fn_of lk hcd S len fun A outer s H vs Q E hr h => ?_
  obtain ⟨t, h1, h2⟩ := hb A outer s H vs Q E hr h
  exact ⟨t, h1.nox, h2⟩
def tTru (K : PySem.W.Frag) (ta : TE) : L2.St → Hp → (Bool → Hp → Prop) → Prop := fun σ H Q => ta σ H fun x H' => ∃ k, TruV K x H' k ∧ Q k H'
def WL (n : Nat) (W : WX) : WX := fun cls d σ H => σ.length = n → W cls d σ H
def EE (n : Nat) (W : WX) : XK := fun cls d H => ∀ σ : L2.St, σ.length = n → W cls d σ H
/-- raising calls within a try's body -/
theorem passT (n : Nat) {W : WX} (tk : Takes X W) (hn : X.N.length = n := by rfl) : Passes (L2.CX X.prog X.w) X (EE n W) := passes_call (takes_len tk) fun cls d σ H h hl => h σ (hl.trans hn)
/-- f(lambda: e) -/
theorem pe_lam {T : List (Addr × Str)} {TT : (XK → Hp → VK → Prop) → Hp → VK → Prop} {x a : Str} {g c P : Addr} {fd : FuncData} {k : Nat} {st : Stmt} {Ng : List Str} {params : Arguments} {body : Expr} {scope : Scope} {t : XK → TE} {p lpos pos : Pos}
    (F : Fun X.K x x st g fd) (Sg : FnScope Ng [a] (defScope st)) (hg : Gl X x) (hm : X.mg x = some (.ref g)) (hb : Binds X.K fd [a] []) (hNg : Ng[0]? = some a) (hva : Vis (defScope st) a)
    (hG : ∀ cdv, LamX.GivesTo X Ng x (defScope st) g cdv (defBody st) a (X.env.qual ++ "<lambda>") TT) (TB : LamX.TabB X.base X.mg c P) (hcode : X.env.code = .ref c) (hmT : (P, X.env.qual ++ "<lambda>") ∈ T)
    (hu : ∀ p ∈ T, p.1 = P → p.2 = X.env.qual ++ "<lambda>") (hr : Room (k + 2) X.A) (L : LamX.LamS X.env.scope scope) (hdef : defaultsOf params X.env = ([], []))
    (hbind : ∀ (q : Str) (cl : List (Str × Addr)) (pm cv ctv : Value), bindArgs (PySem.W.kla_fn "<lambda>" q params body scope cl pm cv ctv) ⟨[], []⟩ = pure [])
    (hbody : ∀ (A : Around) (outer : List Env) (s : Shared) (H : Hp) (E : XK) (f c' : Addr), Room k (A.deeper (LamX.lamEnv X scope s.heap.objs.size f c')) → PE (LamX.lamCx X A outer s H E scope f c') body (t E))
    (h1 : (x == ("__debug__" : Str)) = false := by decide) (h2 : (a == ("__debug__" : Str)) = false := by decide) (h3 : (a == ("__classdict__" : Str)) = false := by decide) :
    PE X (.Call (.Name x p) [.Lambda params body scope lpos] [] pos) (LamX.tLam T TT t) := by
  obtain ⟨oc, od, kV, doc, pm, an, cdv, ct, osl, rfl, lk, hcd⟩ := F.ex
  exact LamX.pe_lamcall hg hm F.kp lk hcd hb Sg hNg hva (hG cdv) TB hcode hmT hu hr L hdef hbind hbody h1 h2 h3
end
end GX
namespace KX
open PySem PySem.Spec PyProof.Rows L2
section
variable {X : Cx}
/-- xs.count(True), xs a list of bools -/
def rCntB (K : PySem.W.Frag) : V → List V → Hp → VK → Prop := fun x xs H Q => ∃ (p : Addr) (bs : List Bool) (k : Bool), x = .ref p ∧ xs = [.bl k] ∧ SqL K H p (bs.map V.bl) ∧ Q (.int (bs.countP (fun b => b == k) : Nat)) H
theorem bools_of : ∀ {bs : List Bool} {its : List Value}, Vals (bs.map V.bl) its → its = bs.map Value.bool
  | [], _, .nil => rfl
  | b :: bs, _, .cons r t => by
    cases (show _ = Value.bool b from r)
    rw [bools_of t]
    rfl
theorem mt_count_bl : MtR X "list.count" (rCntB X.K) := by
  intro pins s σ H x xs v us Q I rx rxs h
  obtain ⟨p, bs, k, rfl, rfl, hs, q⟩ := h
  cases rx
  obtain ⟨u, rfl, ru⟩ := rxs.one
  cases (show u = Value.bool k from ru)
  obtain ⟨its, rv, ⟨⟨cls, dd, data, sl⟩, n, ho, hc, hdn, hd⟩, hlen⟩ := I.list hs
  simp only at hc hd
  subst hc hd
  have hi := bools_of rv
  refine call_meets PySem.F.slot_list_count ⟨_, ho, rfl⟩ PySem.F.entry_list_count (PySem.F.args_list_count_2 _ _)
    (SeqAt.list_countAt p its.toArray n dd sl (.bool k) (isBoolOf k)) ⟨ho, fun y hy => ?_, ?_⟩
  · have hy' : y ∈ its := by simpa using hy
    rw [hi] at hy'
    obtain ⟨b, _, rfl⟩ := List.mem_map.mp hy'
    exact PySem.SeqAt.EqAt.bool_bool b k
  · have ec : its.toArray.toList.countP (isBoolOf k) = bs.countP (fun b => b == k) := by
      show its.countP (isBoolOf k) = _
      rw [hi, List.countP_map]
      rfl
    refine ⟨.int (bs.countP (fun b => b == k) : Nat), H, I.tok _, ⟨s.toks, ?_⟩, q⟩
    show Value.int ((its.toArray.toList.countP (isBoolOf k) : Nat) : Int) s.toks = _
    rw [ec]
end
end KX

/-! enumerate(t), t a tuple. -/
namespace GE
open PySem PySem.Spec PyProof.Rows L2 Builtin
/-- a tuple's items with their places, a new pair at each turn -/
def Etp (K : PySem.W.Frag) (t : Addr) : It where
  go i H := ∃ xs x, SqT K H t xs ∧ xs[i]? = some x
  yld i H v H' := ∃ (p : Addr) (x : V), v = .ref p ∧ H p = none ∧ H' = upd H p (.tup [.int ((i : Nat) : Int), x]) ∧ ∀ xs, SqT K H t xs → xs[i]? = some x
  stop i H := ∃ xs, SqT K H t xs ∧ xs.length ≤ i
abbrev tIt (t : Addr) : Obj := { cls := .type "tuple_iterator", data := .fields #[.ref t, .int 0 0] }
abbrev eOb (i : Addr) : Obj := { cls := .type "enumerate", data := .fields #[.none, .bool false, .ref i, rawInt 0, .none, .none] }
set_option maxHeartbeats 8000000 in
theorem made (t : Addr) (vs : Array Value) : Meets (Builtin.«enumerate.__new__» ⟨[.type "enumerate", .ref t], []⟩)
    (fun _ R s => s.heap.IsTuple t vs ∧ R (.ok (.ret (.ref (s.heap.push (tIt t)).objs.size))) { s with heap := (s.heap.push (tIt t)).push (eOb s.heap.objs.size) }) := by
  refine Meets.of_wp fun prog w A R s both => ?_
  obtain ⟨h0, gs, dr, tk, os⟩ := s
  obtain ⟨isT, back⟩ := both
  have z1 := PySem.sub_enumerate
  have z2 : ∀ {B : Around} {F : Value → Shared → Prop} {G : Value → Shared → Prop}, G (.ref h0.objs.size) ⟨h0.push (tIt t), gs, dr, tk, os⟩ → wpAny (model prog w) B (pyIter (.ref t)) G F ⟨h0, gs, dr, tk, os⟩ := fun g => wpAny_pyIter_tuple isT g
  wp_walk using z2
  refine wpAny_stack_any fun st => ?_
  refine wpAny_pure ?_
  split
  · rename_i c _ _ _ _ _
    cases (c == Value.type "enumerate") <;> (wp_walk using z2; exact ⟨_, rfl, back⟩)
  · wp_walk using z2
    exact ⟨_, rfl, back⟩
section
variable {P : Program} {w : World} {A : Around} {E : Value → Shared → Prop} {s : Shared}
theorem begins {t : Addr} {vs : Array Value} {Q : Value → Shared → Prop} (isT : s.heap.IsTuple t vs)
    (k : ∀ h1, IsEnum h1 (s.heap.objs.size + 1) s.heap.objs.size 0 .none → h1.IsTupleIter s.heap.objs.size t 0 → h1.objs.size = s.heap.objs.size + 2 → (∀ b o, s.heap.get? b = some o → h1.get? b = some o) → Q (.ref (s.heap.objs.size + 1)) { s with heap := h1 }) :
    wpAny (model P w) A (call (.type "enumerate") [.ref t]) Q E s := by
  refine callType_new F.called_enumerate (by decide) (F.typeCall_enumerate_1 _) (F.newCall_enumerate_1 _) (fun y => F.args_object_init_2 y _) F.entry_enumerate_new (made t vs) ⟨isT, ?_⟩
  have sz : (s.heap.push (tIt t)).objs.size = s.heap.objs.size + 1 := Heap.size_push ..
  have at_ : IsEnum ((s.heap.push (tIt t)).push (eOb s.heap.objs.size)) (s.heap.objs.size + 1) s.heap.objs.size 0 .none := by
    have z := Heap.get?_push_size (s.heap.push (tIt t)) (o := eOb s.heap.objs.size) rfl
    rw [sz] at z
    exact z
  show _ ∧ _
  rw [sz]
  exact ⟨⟨_, at_, rfl⟩, k _ at_ ⟨_, Heap.get?_push_of_some _ (Heap.get?_push_size _ rfl), rfl, rfl⟩ (by rw [Heap.size_push, sz]) fun b o x => Heap.get?_push_of_some _ (Heap.get?_push_of_some _ x)⟩
end
theorem turn {P : Program} {w : World} {K : PySem.W.Frag} {elts : List Expr} {kk : Nat} {tpos : Pos} (t e i : Addr) :
    Turn P w K (.Tuple elts kk tpos) (Etp K t) [e, i] e (fun n h => (∃ old, IsEnum h e i ((n : Nat) : Int) old) ∧ h.IsTupleIter i t n ∧ e ≠ i) := by
  have two : ∀ {b : Addr}, b ∈ [e, i] → b = e ∨ b = i := fun hb => by simpa using hb
  constructor
  case mem => simp
  case obj =>
    rintro n h ⟨⟨old, h1⟩, ⟨o, h2, h3, h4⟩, _⟩ b hb
    rcases two hb with q | q <;> subst q
    · exact ⟨_, h1, fun v z => nomatch z⟩
    · exact ⟨o, h2, fun v z => by rw [h4] at z; cases z⟩
  case keep =>
    rintro n h h' ⟨⟨old, h1⟩, h2, h3⟩ k
    exact ⟨⟨old, k e (by simp) _ h1⟩, h2.at fun o q => k i (by simp) o q, h3⟩
  case item =>
    intro X eP ew eK calm n pins s σ H Er I free st go
    subst eP ew eK
    obtain ⟨⟨old, h1⟩, h2, apart⟩ := st
    obtain ⟨xs, x, hq, hx⟩ := go
    obtain ⟨vs, rv, isT, _⟩ := I.tuple hq
    obtain ⟨u, hu, ru⟩ := rv.get hx
    have le : e < s.heap.objs.size := Heap.lt_size h1
    have li : i < s.heap.objs.size := by
      obtain ⟨_, q, _⟩ := h2
      exact Heap.lt_size q
    have ti : t ≠ i := fun z => by
      subst z
      obtain ⟨o1, q1, c1, _⟩ := h2
      obtain ⟨o2, q2, c2, _⟩ := isT
      rw [q1] at q2
      cases q2
      rw [c1] at c2
      exact absurd (Value.type.inj c2) (by decide)
    have te : t ≠ e := fun z => by
      subst z
      obtain ⟨o2, q2, c2, _⟩ := isT
      rw [h1] at q2
      cases q2
      exact absurd (Value.type.inj c2) (by decide)
    have quiet : X.A.in1.handled = none := by
      have z := I.ok.hd calm
      simp [z]
    have lt : n < vs.toArray.size := by
      have z := (List.getElem?_eq_some_iff.mp hu).1
      simpa using z
    refine wpAny_pyNext_enum_itemD (Draws.tuple quiet i t ti vs.toArray) h1 ⟨h2, isT⟩ lt apart (by simp [apart, te.symm]) fun y h' tk py out st' tup size keep => ?_
    have ey : y = u := by
      have z : vs.toArray[n]? = some y := py
      rw [List.getElem?_toArray, hu] at z
      exact (Option.some.inj z).symm
    subst ey
    refine ⟨_, rfl, wpAny_letOwnedTupleGo_enum (s := { s with heap := h', toks := tk + 1 }) out fun h'' again sb => ?_⟩
    have tup2 : h''.get? s.heap.objs.size = some { cls := .type "tuple", data := .seq #[.int n tk, y] } := (sb.2 _ (Nat.ne_of_gt le)).trans tup
    have fresh : ObjOk X.prog X.w (upd H s.heap.objs.size (.tup [.int ((n : Nat) : Int), x])) h'' s.heap.objs.size (.tup [.int ((n : Nat) : Int), x]) :=
      ⟨by show 2 ≤ sizeLine; decide, [.int n tk, y], .cons ⟨_, rfl⟩ (.cons ru .nil), ⟨_, tup2, rfl, _, rfl⟩⟩
    have J : Inv X pins σ (upd H s.heap.objs.size (.tup [.int ((n : Nat) : Int), x])) { s with heap := h'', toks := tk + 1 } :=
      I.turnedNew (t' := tk + 1) (ch := [e, i]) (fun b ob hb q => (sb.2 b (fun z => hb (by simp [z]))).trans (keep b ob (fun z => hb (by simp [z])) (fun z => hb (by simp [z])) q)) free (Nat.le_refl _) fresh
    refine ⟨.ref s.heap.objs.size, _, J, rfl, ⟨_, x, rfl, I.hok.fresh (Nat.le_refl _), rfl, fun ys hy => by rw [I.tuple_inj hy hq]; exact hx⟩, ⟨⟨y, ?_⟩, st'.1.at fun o q => (sb.2 i (Ne.symm apart)).trans q, apart⟩, fun b hb => ?_⟩
    · rw [show ((n + 1 : Nat) : Int) = (n : Int) + 1 by omega]
      exact again
    · have lb : b < s.heap.objs.size := by
        rcases two hb with z | z <;> subst z
        · exact le
        · exact li
      rw [upd_ne (Nat.ne_of_lt lb)]
      exact (free b hb).1
  case done =>
    intro X eP ew eK calm n pins s σ H Er I free st stop
    subst eP ew eK
    obtain ⟨⟨old, h1⟩, h2, apart⟩ := st
    obtain ⟨xs, hq, hl⟩ := stop
    obtain ⟨vs, rv, isT, _⟩ := I.tuple hq
    have long := rv.length
    have quiet : X.A.in1.handled = none := by
      have z := I.ok.hd calm
      simp [z]
    have hT : s.TypeIs (.ref e) "enumerate" := ⟨_, h1, rfl⟩
    obtain ⟨f0, f1, f2, f3, f4, f5⟩ := free i (by simp)
    unfold pyNext
    refine wpAny_bind (wpAny_attempt (wpAny_callSpecial?_slot (name := Str.ofString "__next__") hT F.slot_enumerate_next (wpAny_call_entry F.slot_enumerate_next hT F.entry_enumerate_next ?_ (F.args_enumerate_next_1 _))))
    show wpAny _ _ (field (.ref e) 2 >>= _) _ _ _
    refine wpAny_bind (wpAny_field h1 rfl (x := .ref i) rfl (wpAny_bind ?_))
    refine wpAny_nextOf_tuple_end quiet h2 isT (by simp; omega) fun h' ex eb isx => ?_
    obtain ⟨o, ho, hc⟩ := isx
    refine wpAny_bind (wpAny_isInstance (T := "StopIteration") (b := true) ⟨o, ho, hc⟩ isSubtype_stop (wpAny_pure ?_))
    exact ⟨rfl, I.turned (t' := s.toks) (fun b o hb q => eb b o hb q) f0 f1 f3 f4 f5⟩
  case self =>
    rintro A n s Q Er ⟨⟨_, h1⟩, _⟩ q
    exact wpAny_pyIter_enum h1 q
/-- enumerate of a list or a tuple -/
def iEnA (K : PySem.W.Frag) (ta : TA) : TI := fun σ H R => ta σ H fun vs H1 => ∃ a xs, vs = [.ref a] ∧ ((SqL K H1 a xs ∧ R (Ite K a) H1) ∨ (SqT K H1 a xs ∧ R (Etp K a) H1))
theorem pi_enumA {X : Cx} {e : Expr} {ta : TA} {p pos tpos : Pos} {elts : List Expr} {kk : Nat} (hg : Gl X "enumerate") (hm : X.mg "enumerate" = none) (ha : PA X [e] ta) (hs : starEach [e] X.env = [(false, eval e X.env)] := by rfl) :
    PI X (.Tuple elts kk tpos) (.Call (.Name "enumerate" p) [e] [] pos) (iEnA X.K ta) := by
  constructor
  intro pins s σ H R I h
  refine Call_ (ld_blt I hg hm boot_enumerate (PyProof.Rows.callWith_type1 (thn (ha.run pos pins s σ H _ I h) fun us s1 got => ?_) hs rfl))
  obtain ⟨_, H1, I1, r1, a, xs, rfl, q⟩ := got
  have fp : ∀ b ∈ [s1.heap.objs.size + 1, s1.heap.objs.size], FpOk X pins H1 b := fun b hb => by
    have le : s1.heap.objs.size ≤ b := by
      rcases (show b = s1.heap.objs.size + 1 ∨ b = s1.heap.objs.size by simpa using hb) with z | z <;> omega
    exact I1.fpOk le (I1.hok.fresh le)
  cases r1 with
  | cons r rr =>
    cases rr
    cases r
    rcases q with ⟨hq, q⟩ | ⟨hq, q⟩
    · obtain ⟨vs, rv, isL, _⟩ := I1.list hq
      refine call_enumerate_list isL.isList fun h' at_ it size keep => wpAny_pyIter_enum at_ ?_
      exact ⟨_, _, _, _, H1, rfl, I1.kept (t' := s1.toks) keep, turn_enum a (s1.heap.objs.size + 1) s1.heap.objs.size, ⟨⟨.none, at_⟩, it, Nat.succ_ne_self _⟩, fp, q⟩
    · obtain ⟨vs, rv, isT, _⟩ := I1.tuple hq
      refine begins isT fun h' at_ it size keep => wpAny_pyIter_enum at_ ?_
      exact ⟨_, _, _, _, H1, rfl, I1.kept (t' := s1.toks) keep, turn a (s1.heap.objs.size + 1) s1.heap.objs.size, ⟨⟨.none, at_⟩, it, Nat.succ_ne_self _⟩, fp, q⟩
theorem walk {K : PySem.W.Frag} {a : Addr} {xs : List V} : Walk (Etp K a) xs.length (fun H => SqT K H a xs) (YPair (fun i => some (.int (i : Nat))) (fun i => xs[i]?)) := by
  constructor
  · exact fun i _ hi q => ⟨xs, xs[i], q, by simp [hi]⟩
  · exact fun _ q => ⟨xs, q, Nat.le_refl _⟩
  · rintro i H v H' _ q ⟨p, x, h1, h2, h3, h4⟩
    exact ⟨p, .int (i : Nat), x, h1, h2, h3, rfl, h4 xs q⟩
/-- zip of two tuples -/
theorem walk_zipT {K : PySem.W.Frag} {a b : Addr} {xs ys : List V} {n : Nat} (hn : n = min xs.length ys.length) : Walk (RZ.ItzT K a b) n (fun H => SqT K H a xs ∧ SqT K H b ys) (YPair (fun i => xs[i]?) (fun i => ys[i]?)) := by
  subst hn
  constructor
  · intro i _ hi q
    exact ⟨xs, ys, xs[i]'(by omega), ys[i]'(by omega), q.1, q.2, List.getElem?_eq_getElem _, List.getElem?_eq_getElem _⟩
  · exact fun _ q => ⟨xs, ys, q.1, q.2, by omega⟩
  · rintro i H v H' _ q ⟨p, x, y, h1, h2, h3, h4, h5⟩
    exact ⟨p, x, y, h1, h2, h3, h4 xs q.1, h5 ys q.2⟩
end GE

/-! comprehensions with two clauses, dict comprehensions, over any walk. -/
namespace GC
open PySem PySem.Spec PyProof.Rows L2
section
variable {J J1 : It} {n n1 : Nat} {G G1 : Hp → Prop} {Y Y1 : Nat → Hp → V → Hp → Prop}
/-- the outer clause -/
theorem lc2_it (w : Walk J n G Y) {g : TG} {tt : TT} {wi1 : TI} {g1 : TG} {tt1 : TT} {te : TE} {vs vs1 : List Nat} {σ : L2.St} {H1 : Hp} {D : Addr} {Qd : Hp → Prop} (Pv : Nat → Hp → Prop) (h0 : Pv 0 (upd H1 D (.lst []))) (hG : ∀ i H, i ≤ n → Pv i H → G H)
    (hs : ∀ i x H H', i < n → Pv i H → Y i H x H' → g x (wipe σ vs) H' fun σ2 H2 => wipe σ2 vs = wipe σ vs ∧ tt σ2 H2 fun b H3 =>
      if b = true then wi1 σ2 H3 fun J1 H4 => ∃ W1 : Nat → Nat → Hp → Prop, (∃ m, W1 0 m H4) ∧ ∀ j k H, W1 j k H →
        (J1.stop j H ∧ Pv (i + 1) H) ∨ (J1.go j H ∧ ∃ Nx1 : Hp → Prop, (∀ H', Nx1 H' → ∃ k', k' < k ∧ W1 (j + 1) k' H') ∧ ∀ x H', J1.yld j H x H' → g1 x (wipe σ2 vs1) H' fun σ3 H5 => wipe σ3 vs1 = wipe σ2 vs1 ∧ tt1 σ3 H5 fun b H6 =>
          if b = true then te σ3 H6 fun y H7 => ∃ acc, H7 D = some (.lst acc) ∧ acc.length < sizeLine ∧ Nx1 (upd H7 D (.lst (acc ++ [y]))) else Nx1 H6)
      else Pv (i + 1) H3) (hd : ∀ H, Pv n H → Qd H) :
    ∃ W : Nat → Nat → Hp → Prop, (∃ m, W 0 m (upd H1 D (.lst []))) ∧ ∀ i m H, W i m H →
      (J.stop i H ∧ Qd H) ∨ (J.go i H ∧ ∃ Nx : Hp → Prop, (∀ H', Nx H' → ∃ m', m' < m ∧ W (i + 1) m' H') ∧ ∀ x H', J.yld i H x H' → g x (wipe σ vs) H' fun σ2 H2 => wipe σ2 vs = wipe σ vs ∧ tt σ2 H2 fun b H3 =>
        if b = true then wi1 σ2 H3 fun J1 H4 => ∃ W1 : Nat → Nat → Hp → Prop, (∃ m, W1 0 m H4) ∧ ∀ j k H, W1 j k H →
          (J1.stop j H ∧ Nx H) ∨ (J1.go j H ∧ ∃ Nx1 : Hp → Prop, (∀ H', Nx1 H' → ∃ k', k' < k ∧ W1 (j + 1) k' H') ∧ ∀ x H', J1.yld j H x H' → g1 x (wipe σ2 vs1) H' fun σ3 H5 => wipe σ3 vs1 = wipe σ2 vs1 ∧ tt1 σ3 H5 fun b H6 =>
            if b = true then te σ3 H6 fun y H7 => ∃ acc, H7 D = some (.lst acc) ∧ acc.length < sizeLine ∧ Nx1 (upd H7 D (.lst (acc ++ [y]))) else Nx1 H6)
        else Nx H3) := by
  refine ⟨fun i m H => m = n - i ∧ i ≤ n ∧ Pv i H, ⟨n, by simp, Nat.zero_le _, h0⟩, ?_⟩
  rintro i m H ⟨rfl, hi, p⟩
  have q := hG i H hi p
  by_cases hlt : i < n
  · exact .inr ⟨w.goes i H hlt q, Pv (i + 1), fun H' p' => ⟨n - (i + 1), by omega, rfl, hlt, p'⟩, fun x H' y => hs i x H H' hlt p (w.yields i H x H' hlt q y)⟩
  · have e : i = n := by omega
    subst e
    exact .inl ⟨w.stops H q, hd H p⟩
/-- the inner clause -/
theorem lc2_in (w : Walk J1 n1 G1 Y1) {g1 : TG} {tt1 : TT} {te : TE} {vs1 : List Nat} {σ2 : L2.St} {H4 : Hp} {D : Addr} {Nx : Hp → Prop} (Pv : Nat → Hp → Prop) (h0 : Pv 0 H4) (hG : ∀ i H, i ≤ n1 → Pv i H → G1 H)
    (hs : ∀ i x H H', i < n1 → Pv i H → Y1 i H x H' → g1 x (wipe σ2 vs1) H' fun σ3 H5 => wipe σ3 vs1 = wipe σ2 vs1 ∧ tt1 σ3 H5 fun b H6 =>
      if b = true then te σ3 H6 fun y H7 => ∃ acc, H7 D = some (.lst acc) ∧ acc.length < sizeLine ∧ Pv (i + 1) (upd H7 D (.lst (acc ++ [y]))) else Pv (i + 1) H6) (hd : ∀ H, Pv n1 H → Nx H) :
    ∃ W1 : Nat → Nat → Hp → Prop, (∃ m, W1 0 m H4) ∧ ∀ j k H, W1 j k H →
      (J1.stop j H ∧ Nx H) ∨ (J1.go j H ∧ ∃ Nx1 : Hp → Prop, (∀ H', Nx1 H' → ∃ k', k' < k ∧ W1 (j + 1) k' H') ∧ ∀ x H', J1.yld j H x H' → g1 x (wipe σ2 vs1) H' fun σ3 H5 => wipe σ3 vs1 = wipe σ2 vs1 ∧ tt1 σ3 H5 fun b H6 =>
        if b = true then te σ3 H6 fun y H7 => ∃ acc, H7 D = some (.lst acc) ∧ acc.length < sizeLine ∧ Nx1 (upd H7 D (.lst (acc ++ [y]))) else Nx1 H6) := by
  refine ⟨fun i m H => m = n1 - i ∧ i ≤ n1 ∧ Pv i H, ⟨n1, by simp, Nat.zero_le _, h0⟩, ?_⟩
  rintro i m H ⟨rfl, hi, p⟩
  have q := hG i H hi p
  by_cases hlt : i < n1
  · exact .inr ⟨w.goes i H hlt q, Pv (i + 1), fun H' p' => ⟨n1 - (i + 1), by omega, rfl, hlt, p'⟩, fun x H' y => hs i x H H' hlt p (w.yields i H x H' hlt q y)⟩
  · have e : i = n1 := by omega
    subst e
    exact .inl ⟨w.stops H q, hd H p⟩
/-- a dict comprehension -/
theorem dc_it (w : Walk J n G Y) {g : TG} {tt : TT} {tk tv : TE} {vs : List Nat} {σ : L2.St} {H1 : Hp} {D : Addr} {Qd : Hp → Prop} (Pv : Nat → Hp → Prop) (h0 : Pv 0 (upd H1 D (.dK []))) (hG : ∀ i H, i ≤ n → Pv i H → G H)
    (hs : ∀ i x H H', i < n → Pv i H → Y i H x H' → g x (wipe σ vs) H' fun σ2 H2 => wipe σ2 vs = wipe σ vs ∧ tt σ2 H2 fun b H3 =>
      if b = true then tk σ2 H3 fun y H4 => tv σ2 H4 fun z H5 => ∃ kvs k, y = kV k ∧ H5 D = some (.dK kvs) ∧ kvs.length < sizeLine ∧ Pv (i + 1) (upd H5 D (.dK (putK kvs k z))) else Pv (i + 1) H3) (hd : ∀ H, Pv n H → Qd H) :
    ∃ W : Nat → Nat → Hp → Prop, (∃ m, W 0 m (upd H1 D (.dK []))) ∧ ∀ i m H, W i m H →
      (J.stop i H ∧ Qd H) ∨ (J.go i H ∧ ∃ Nx : Hp → Prop, (∀ H', Nx H' → ∃ m', m' < m ∧ W (i + 1) m' H') ∧ ∀ x H', J.yld i H x H' → g x (wipe σ vs) H' fun σ2 H2 => wipe σ2 vs = wipe σ vs ∧ tt σ2 H2 fun b H3 =>
        if b = true then tk σ2 H3 fun y H4 => tv σ2 H4 fun z H5 => ∃ kvs k, y = kV k ∧ H5 D = some (.dK kvs) ∧ kvs.length < sizeLine ∧ Nx (upd H5 D (.dK (putK kvs k z))) else Nx H3) := by
  refine ⟨fun i m H => m = n - i ∧ i ≤ n ∧ Pv i H, ⟨n, by simp, Nat.zero_le _, h0⟩, ?_⟩
  rintro i m H ⟨rfl, hi, p⟩
  have q := hG i H hi p
  by_cases hlt : i < n
  · exact .inr ⟨w.goes i H hlt q, Pv (i + 1), fun H' p' => ⟨n - (i + 1), by omega, rfl, hlt, p'⟩, fun x H' y => hs i x H H' hlt p (w.yields i H x H' hlt q y)⟩
  · have e : i = n := by omega
    subst e
    exact .inl ⟨w.stops H q, hd H p⟩
end
section
variable {X : Cx}
/-- xs[i], by values: for xs[i] += e -/
def rGetI : V → V → Hp → VK → Prop := fun x y H Q => ∃ p xs i j v, x = .ref p ∧ y = .int i ∧ H p = some (.lst xs) ∧ i = ((j : Nat) : Int) ∧ xs[j]? = some v ∧ Q v H
theorem get_listI : PGet X rGetI := by
  intro pins s σ H x y ov iv Q I rx ry h
  obtain ⟨p, xs, i, j, z, rfl, rfl, hq, rfl, he, q⟩ := h
  cases rx
  obtain ⟨t, rfl⟩ := ry
  obtain ⟨its, r, pl, hz⟩ := I.list (.inl (.inl hq))
  obtain ⟨w, ew, rw'⟩ := r.get he
  have hl := r.length
  have hn := line63
  have lt := (List.getElem?_eq_some_iff.mp he).1
  exact wpAny_getItem_list (x := w) pl.isList (by omega) (by omega) (by simpa using ew) ⟨z, H, I, rw', q⟩
end
theorem hu1 {k : Nat} {A : Around} (r : Room k A) : A.units + 1 < cLine := by have := r.un; omega
theorem hu65 {k : Nat} {A : Around} (r : Room k A) : A.units + 65 < cLine := by have := r.un; omega
theorem hu4 {k : Nat} {A : Around} (r : Room k A) : A.units + 4 < cLine := by have := r.un; omega
/-- tuple(xs), said for comprehensions -/
def rTupK (K : PySem.W.Frag) : List V → Hp → VK → Prop := fun xs H Q => ∃ p ys, xs = [.ref p] ∧ ((SqL K H p ys ∧ ∀ l, H l = none → Q (.ref l) (upd H l (.tup ys))) ∨ (SqT K H p ys ∧ Q (.ref p) H))
end GC

/-! sorted(xs), xs a list of tuples that read as data, of any length. -/
namespace GD
open PySem PySem.Spec PyProof.Rows L2 PySem.W
/-- sorted of tuples, by what they read as -/
def rSortD (K : PySem.W.Frag) : List V → Hp → VK → Prop := fun vs H Q => ∃ (a : Addr) (rs : List Addr) (D : Addr → PyData), vs = [V.ref a] ∧ SqL K H a (rs.map V.ref) ∧ (∀ r ∈ rs, Dp K H (.ref r) (D r)) ∧ (∀ r s, alike (D r) (D s) = true) ∧ (∀ r, ∃ x t, D r = .tuple (x :: t)) ∧ (∀ r, (D r).depth ≤ 50) ∧
  ∀ p, H p = none → Q (.ref p) (upd H p (.lst ((rs.mergeSort (dataLe false D)).map V.ref)))
theorem refs_eq : ∀ {rs : List Addr} {us : List Value}, Vals (rs.map V.ref) us → us = rs.map Value.ref
  | [], _, .nil => rfl
  | r :: rs, _, .cons q t => by
    cases (show _ = Value.ref r from q)
    rw [refs_eq t]
    rfl
theorem each_refs : ∀ (rs : List Addr), EachIs (fun (v : Value) (r : Addr) => v = Value.ref r) (rs.map Value.ref) rs
  | [] => .nil
  | r :: rs => .cons rfl (each_refs rs)
theorem each_eq : ∀ {us : List Value} {rs : List Addr}, EachIs (fun (v : Value) (r : Addr) => v = Value.ref r) us rs → us = rs.map Value.ref
  | _, _, .nil => rfl
  | _, _, .cons h t => by rw [h, each_eq t]; rfl
theorem each_reads {X : Cx} {pins : List (Addr × Obj)} {σ : L2.St} {H : Hp} {s : Shared} {D : Addr → PyData} (I : Inv X pins σ H s) : ∀ {rs : List Addr}, (∀ r ∈ rs, Dp X.K H (.ref r) (D r)) → EachIs (fun v r => ∃ as, Reads s.heap v (D r) as) (rs.map Value.ref) rs
  | [], _ => .nil
  | r :: rs, h => .cons (Dp.reads I _ _ _ (h r List.mem_cons_self) rfl) (each_reads I fun q hq => h q (List.mem_cons_of_mem _ hq))
theorem vals_refs : ∀ (rs : List Addr), Vals (rs.map V.ref) (rs.map Value.ref)
  | [] => .nil
  | r :: rs => .cons rfl (vals_refs rs)
theorem cr_sortD {X : Cx} (hu : X.A.units + 64 < cLine) : CallR X (.builtin "sorted") (rSortD X.K) := by
  intro pins s σ H vs us Q I r h
  obtain ⟨a, rs, D, rfl, hs, hx, al, tp, dep, q⟩ := h
  obtain ⟨its, rv, hl, hz⟩ := I.list hs
  rw [Vals.ref1 r]
  have e1 := refs_eq rv
  subst e1
  rw [List.length_map] at hz
  refine sorted_data (enc := D) (R := fun v r => v = Value.ref r) hl.isList (each_refs rs) (each_reads I hx) (AllAlike.of fun b b' => al b b') (Sortable.tuples fun b => tp b) hz (fun b _ => by have := dep b; omega) fun out ho hr => ?_
  have eo := each_eq hr
  obtain ⟨ep, he'⟩ := PyProof.Rows.sortedAll_at s.heap (rs.map Value.ref) (List.toArray out)
  refine ⟨.ref _, upd H (s.heap.objs.size + 1) (.lst ((rs.mergeSort (dataLe false D)).map V.ref)), I.laid (t' := s.toks) (fun _ _ => PyProof.Rows.sortedAll_old) (Nat.le_succ _) ⟨?_, out, ep, ?_, he'⟩, rfl, q _ (I.hok.fresh (Nat.le_succ _))⟩
  · rw [List.length_map, List.length_mergeSort]
    exact hz
  · rw [eo]
    exact vals_refs _
end GD

/-! len(set(xs)) of ints, t[::-1] of a tuple, what is never come to. -/
namespace GL
open PySem PySem.Spec PyProof.Rows PySem.Calls L2 Builtin
/-- the unlike ones, as met -/
def met (ns : List Int) : List Int := firstMet (fun i => ns.getD i 0) ns.length
theorem fold_dedup : ∀ (xs acc : List Int), acc.Nodup → (xs.foldl step_dedup acc).length ≤ acc.length + xs.length ∧ ((xs.foldl step_dedup acc).length = acc.length + xs.length ↔ xs.Nodup ∧ ∀ x ∈ xs, x ∉ acc)
  | [], acc, h => by simp
  | x :: xs, acc, h => by
    rw [List.foldl_cons]
    by_cases c : x ∈ acc
    · have e : step_dedup acc x = acc := by
        unfold step_dedup
        rw [if_pos (List.any_eq_true.mpr ⟨x, c, by simp⟩)]
      rw [e]
      obtain ⟨h1, h2⟩ := fold_dedup xs acc h
      refine ⟨by rw [List.length_cons]; omega, ⟨fun z => by rw [List.length_cons] at z; omega, fun ⟨z1, z2⟩ => absurd c (z2 x List.mem_cons_self)⟩⟩
    · have e : step_dedup acc x = acc ++ [x] := by
        unfold step_dedup
        rw [if_neg]
        intro z
        obtain ⟨y, hy, q⟩ := List.any_eq_true.mp z
        have q : y = x := by simpa using q
        exact c (by rw [← q]; exact hy)
      rw [e]
      have nd : (acc ++ [x]).Nodup := by
        rw [List.nodup_append]
        refine ⟨h, by simp, fun a ha b hb => ?_⟩
        rw [List.mem_singleton] at hb
        intro z
        exact c (by rw [← hb, ← z]; exact ha)
      obtain ⟨h1, h2⟩ := fold_dedup xs (acc ++ [x]) nd
      have el : (acc ++ [x]).length = acc.length + 1 := by rw [List.length_append]; rfl
      rw [el] at h1 h2
      rw [List.length_cons]
      refine ⟨by omega, ?_⟩
      rw [show acc.length + (xs.length + 1) = acc.length + 1 + xs.length by omega, h2, List.nodup_cons]
      constructor
      · rintro ⟨a, b⟩
        refine ⟨⟨fun z => b x z (by simp), a⟩, fun y hy => ?_⟩
        rcases List.mem_cons.mp hy with z | z
        · rw [z]
          exact c
        · exact fun q => b y z (List.mem_append_left _ q)
      · rintro ⟨⟨a, b⟩, d⟩
        refine ⟨b, fun y hy z => ?_⟩
        rcases List.mem_append.mp z with q | q
        · exact d y (List.mem_cons_of_mem _ hy) q
        · rw [List.mem_singleton] at q
          exact a (by rw [← q]; exact hy)
theorem getD_range (ns : List Int) : (List.range ns.length).map (fun i => ns.getD i 0) = ns := by
  refine List.ext_getElem? fun i => ?_
  rw [List.getElem?_map]
  by_cases h : i < ns.length
  · rw [List.getElem?_range h, List.getElem?_eq_getElem h]
    simp [List.getD_eq_getElem?_getD, h]
  · rw [List.getElem?_eq_none (by rw [List.length_range]; omega), List.getElem?_eq_none (by omega)]
    rfl
theorem met_len (ns : List Int) : (met ns).length ≤ ns.length ∧ ((met ns).length = ns.length ↔ ns.Nodup) := by
  unfold met firstMet
  rw [getD_range]
  obtain ⟨h1, h2⟩ := fold_dedup ns [] List.nodup_nil
  rw [List.length_nil, Nat.zero_add] at h1 h2
  refine ⟨h1, h2.trans ⟨fun z => z.1, fun z => ⟨z, fun x _ => List.not_mem_nil⟩⟩⟩
def tLenSetN (K : PySem.W.Frag) (ta : TE) : TE := fun σ H Q => ta σ H fun x H1 => ∃ (l : Addr) (ns : List Int), x = .ref l ∧ SqL K H1 l (ns.map V.int) ∧ ns.length ≤ 4000 ∧ Q (.int ((met ns).length : Nat)) H1
theorem pe_lenSetN {X : Cx} {a : Expr} {ta : TE} {p p2 q pos : Pos} (hg : Gl X "len") (hm : X.mg "len" = none) (hg2 : Gl X "set") (hm2 : X.mg "set" = none) (ha : PE X a ta) (hc : X.calm = true := by rfl)
    (na : starEach [a] X.env = (false, eval a X.env) :: starEach [] X.env := by rfl) : PE X (.Call (.Name "len" p) [.Call (.Name "set" p2) [a] [] q] [] pos) (tLenSetN X.K ta) := by
  refine ⟨fun pins s σ H Q I h => ?_⟩
  refine Call_ (ld_blt I hg hm boot_len ?_)
  refine PyProof.Rows.callWith_builtin1 (PyProof.Rows.args_cons ?_ rfl) rfl rfl
  refine Call_ (ld_blt I hg2 hm2 boot_set ?_)
  refine PyProof.Rows.callWith_type1 (PyProof.Rows.args_cons (thn (ha.run pins s σ H _ I h) fun v s1 ⟨x, H1, I1, r1, q1⟩ => PyProof.Rows.args_nil ?_) na) na rfl
  obtain ⟨l, ns, rfl, hq, hl, q1⟩ := q1
  cases r1
  obtain ⟨its, r, pl, hz⟩ := I1.list hq
  have hlen : its.toArray.size = ns.length := by rw [List.size_toArray, ← r.length, List.length_map]
  refine call_set_list (I1.ok.hd hc) pl.isList (by simpa using RZ.intsAre_vals r) (by rw [hlen]; unfold scanBound; omega) fun h' tk hS hk => ?_
  refine PyProof.Rows.args_nil ?_
  rw [hlen] at hS
  obtain ⟨o, es, ep, t, ho, hex, hd, _, _, _, hf, hn⟩ := hS
  have I2 : Inv X pins σ H1 { s1 with heap := h', toks := tk } := I1.kept fun b o e => hk b o (Heap.lt_size e) e
  have le := (met_len ns).1
  exact call_len_set ho hex hd hf (by rw [hn]; show ((met ns).length : Int) < _; omega) ⟨.int (met ns).length, H1, I2.tok _, ⟨_, by rw [hn]; rfl⟩, q1⟩
/-! ### t[::-1] -/
theorem filt_take {α : Type} {f : Nat → Option α} {L : List α} (h : ∀ m, m < L.length → f m = L[m]?) : ∀ n, n ≤ L.length → (List.range n).filterMap f = L.take n
  | 0, _ => rfl
  | n + 1, hn => by
    rw [List.range_succ, List.filterMap_append, filt_take h n (by omega), List.take_add_one]
    congr 1
    rw [List.filterMap_cons, h n (by omega), List.getElem?_eq_getElem (by omega)]
    rfl
theorem pick_back (xs : Array Value) : ((List.range xs.size).filterMap fun (m : Nat) => xs[((xs.size : Int) - 1 + (m : Int) * (-1)).toNat]?).toArray = xs.toList.reverse.toArray := by
  congr 1
  have e := filt_take (f := fun (m : Nat) => xs[((xs.size : Int) - 1 + (m : Int) * (-1)).toNat]?) (L := xs.toList.reverse) (fun m hm => ?_) xs.toList.reverse.length (Nat.le_refl _)
  · rw [List.length_reverse, Array.length_toList] at e
    rw [e]
    exact List.take_of_length_le (by rw [List.length_reverse, Array.length_toList]; omega)
  · rw [List.length_reverse, Array.length_toList] at hm
    rw [List.getElem?_reverse (by rw [Array.length_toList]; exact hm), Array.getElem?_toList, Array.length_toList]
    congr 1
    omega
section
variable {P : Program} {w : World} {A : Around} {E : Value → Shared → Prop} {s : Shared}
theorem sliceApplied_back {sl : Addr} {vs : Value} {n : Nat} {Q : Int × Int × Nat → Shared → Prop} (hs : s.heap.IsSliceOf sl .none .none vs) (ps : IsPart vs (some (-1)))
    (h : Q ((n : Int) - 1, -1, n) s) : wpAny (model P w) A (Builtin.Slice.sliceApplied (.ref sl) (pure (n : Int))) Q E s := by
  obtain ⟨os, hos, hcs, hds⟩ := id hs
  unfold Builtin.Slice.sliceApplied Builtin.Slice.sliceFields
  refine wpAny_bind (wpAny_bind (wpAny_field hos hds (x := .none) rfl (wpAny_bind (wpAny_field hos hds (x := .none) rfl (wpAny_bind (wpAny_field hos hds (x := vs) rfl (wpAny_pure ?_)))))))
  refine wpAny_bind (HT.slicePart_ ps ?_)
  show wpAny _ _ (if ((-1 : Int) == 0) = true then _ else _) _ _ s
  rw [if_neg (by decide)]
  refine wpAny_bind (HT.slicePart_ .none (wpAny_bind (HT.slicePart_ .none (wpAny_bind (wpAny_pure ?_)))))
  show wpAny _ _ (match Builtin.Slice.sliceAdjust none none (-1) (n : Int) with | (lo, hi) => pure (lo, (-1 : Int), Builtin.Slice.slicePlaces lo hi (-1))) _ _ s
  have e1 : Builtin.Slice.sliceAdjust none none (-1) (n : Int) = ((n : Int) - 1, -1) := by
    unfold Builtin.Slice.sliceAdjust
    simp
  rw [e1]
  show wpAny _ _ (pure ((n : Int) - 1, (-1 : Int), Builtin.Slice.slicePlaces ((n : Int) - 1) (-1) (-1))) _ _ s
  have e2 : Builtin.Slice.slicePlaces ((n : Int) - 1) (-1) (-1) = n := by
    unfold Builtin.Slice.slicePlaces
    have h1 : ¬ ((-1 : Int) > 0) := by omega
    simp only [h1, if_false, show (-(-1 : Int)) = 1 from rfl, Int.ediv_one]
    split <;> omega
  rw [e2]
  exact wpAny_pure h
theorem getItem_tuple_back {t sl : Addr} {items : Array Value} {vs : Value} {Q : Value → Shared → Prop} (ht : IsTup s.heap t items) (hs : s.heap.IsSliceOf sl .none .none vs) (ps : IsPart vs (some (-1)))
    (h : Q (.ref s.heap.objs.size) { s with heap := s.heap.push { cls := .type "tuple", data := .seq items.toList.reverse.toArray } })
    (hsz : items.size ≤ sizeLine) : wpAny (model P w) A (getItem (.ref t) (.ref sl)) Q E s := by
  have htake : sizeOk (.seq items.toList.reverse.toArray) := by
    show items.toList.reverse.toArray.size ≤ sizeLine
    rw [List.size_toArray, List.length_reverse, Array.length_toList]
    omega
  obtain ⟨os, hos, hcs, hds⟩ := id hs
  have hTs : s.TypeIs (.ref sl) "slice" := ⟨os, hos, hcs⟩
  unfold getItem
  try with_reducible refine wpAny_holding ?_
  first | refine wpAny_bind (wpAny_pure ?_) | skip
  refine wpAny_bind (wpAny_sequenceKey ht.typeIs (by decide) ?_)
  refine wpAny_bind (wpAny_callSpecial?_slot (name := Str.ofString "__getitem__") ht.typeIs PyProof.Rows.slot_tuple_getitem
    (wpAny_call_entry PyProof.Rows.slot_tuple_getitem ht.typeIs entry_tuple_getitem ?_ (args_tuple_getitem _ _)))
  show wpAny _ _ (Builtin.Tuple.tupleItemsOf (.ref t) >>= _) _ _ s
  refine wpAny_bind (tupleItemsOf_ ht ?_)
  refine wpAny_bind (wpAny_typeOf hTs ?_)
  rw [if_pos (by decide)]
  refine wpAny_bind (sliceApplied_back hs ps ?_)
  have hno : ¬ (((((items.size : Int) - 1) == 0 && (-1 : Int) == 1 && items.size == items.size)) = true) := by
    intro q
    rw [Bool.and_eq_true, Bool.and_eq_true] at q
    have q1 : (-1 : Int) = 1 := eq_of_beq q.1.2
    omega
  show wpAny _ _ (if ((((items.size : Int) - 1) == 0 && (-1 : Int) == 1 && items.size == items.size)) = true then _ else _) _ _ s
  rw [if_neg hno, pick_back]
  first
    | exact wpAny_bind (m := Builtin.Tuple.tupleExact _) (wpAny_newObj_type (wpAny_pure ⟨_, rfl, wpAny_pure h⟩) htake)
    | exact wpAny_bind (m := Builtin.Tuple.tupleExact _) (wpAny_newObj_type (wpAny_bind (wpAny_pure (wpAny_pure ⟨_, rfl, wpAny_pure h⟩))) htake)
    | exact wpAny_bind (wpAny_bind (m := Builtin.Tuple.tupleExact _) (wpAny_newObj_type (wpAny_pure (wpAny_pure ⟨_, rfl, wpAny_pure h⟩)) htake))
    | exact wpAny_bind (wpAny_bind (m := Builtin.Tuple.tupleExact _) (wpAny_newObj_type (wpAny_pure ⟨_, rfl, wpAny_pure h⟩) htake))
end
def tRevT (K : PySem.W.Frag) (te : TE) : TE := fun σ H Q => te σ H fun x H1 => ∃ a xs, x = .ref a ∧ SqT K H1 a xs ∧ ∀ p, H1 p = none → Q (.ref p) (upd H1 p (.tup xs.reverse))
theorem pe_revT {X : Cx} {e : Expr} {te : TE} {k : Nat} {p1 p2 p3 pos : Pos} (he : PE X e te) : PE X (.Subscript e (.Slice none none (some (.UnaryOp .USub (.Constant (.int 1) k p1) p2)) p3) pos) (tRevT X.K te) := by
  refine ⟨fun pins s σ H Q I h => ?_⟩
  refine Subscript_ (thn (he.run pins s σ H _ I h) fun v s1 ⟨x, H1, I1, r1, q1⟩ => ?_)
  obtain ⟨a, xs, ex, hx, q⟩ := q1
  subst ex
  cases r1
  have hst : PO X (some (.UnaryOp .USub (.Constant (.int 1) k p1) p2)) (tPart (tUn (rU fun i => .int (-i)) (tC (.int 1)))) := po_some (pe_un un_neg pe_int)
  refine wpAny_Slice (thn (po_none.run pins s1 σ H1 (fun o H2 => o = none ∧ H2 = H1) I1 ⟨rfl, rfl⟩) fun vl s2 ⟨l, H2, I2, pl, el, e2⟩ => ?_)
  subst el e2
  refine thn (po_none.run pins s2 σ H2 (fun o H3 => o = none ∧ H3 = H2) I2 ⟨rfl, rfl⟩) fun vu s3 ⟨u, H3, I3, pu, eu, e3⟩ => ?_
  subst eu e3
  refine thn (hst.run pins s3 σ H3 (fun o H4 => o = some (-1) ∧ H4 = H3) I3 ⟨1, rfl, -1, rfl, rfl, rfl⟩) fun vs s4 ⟨o, H4, I4, ps, eo, e4⟩ => ?_
  subst eo e4
  cases pl
  cases pu
  have I5 : Inv X pins σ H4 { s4 with heap := s4.heap.push { cls := .type "slice", data := .fields #[.none, .none, vs] } } := I4.kept (t' := s4.toks) fun b ob q => Heap.get?_push_of_some _ q
  obtain ⟨its, r, ht, hz⟩ := I5.tuple hx
  have hlen := r.length
  show wpAny (model X.prog X.w) X.A (subscriptTail e (.Slice none none (some (.UnaryOp .USub (.Constant (.int 1) k p1) p2)) p3) (.ref a) (.ref s4.heap.objs.size)) (EP X pins σ Q) X.xe { s4 with heap := s4.heap.push { cls := .type "slice", data := .fields #[.none, .none, vs] } }
  refine tail_any (ops := [.ref a, .ref s4.heap.objs.size]) ht.typeIs (PyProof.Rows.slot_tuple_getitem.lookup) ?_ (by with_unfolding_all rfl)
  refine getItem_tuple_back ht (Heap.IsSliceOf.new _ .none .none vs) ps ?_ (by rw [List.size_toArray]; omega)
  refine ⟨.ref _, _, I5.laid (t' := s4.toks) (o := .tup xs.reverse) (fun b ob q => Heap.get?_push_of_some _ q) (Nat.le_refl _) ?_, rfl, q _ (I5.hok.fresh (Nat.le_refl _))⟩
  exact ⟨by rw [List.length_reverse]; exact hz, _, r.reverse, IsTup.new _ _⟩
/-! ### what is never come to -/
def tDead : TE := fun _ _ _ => False
theorem pe_dead {X : Cx} {e : Expr} : PE X e tDead := ⟨fun _ _ _ _ _ _ h => h.elim⟩
def sDead : TS := fun _ _ _ => False
end GL

/-! list(d.values()); min of a list of tuples. -/
namespace GV
open PySem PySem.Spec PyProof.Rows L2 PySem.W PySem.Calls
section
variable {X : Cx}
/-- list(o.values()) -/
def tListVals (td : TE) : TE := fun σ H Q => td σ H fun x H1 => ∃ a kvs, x = V.ref a ∧ H1 a = some (.dK kvs) ∧ ∀ q, H1 q = none → Q (.ref q) (upd H1 q (.lst (kvs.map (·.2))))
variable {o : Expr} {p pos apos mpos : Pos} {td : TE}
theorem pe_listVals (hc : X.calm = true) (hg : Gl X "list") (hm : X.mg "list" = none) (hd : PE X o td) (hbase : attributeBase o "values" X.env (eval o X.env) = eval o X.env := by rfl) (hline : (apos.endLine == mpos.line) = true := by rfl)
    (na : starEach [Expr.Call (.Attribute o "values" apos) [] [] mpos] X.env = (false, eval (Expr.Call (.Attribute o "values" apos) [] [] mpos) X.env) :: starEach [] X.env := by rfl) :
    PE X (.Call (.Name "list" p) [.Call (.Attribute o "values" apos) [] [] mpos] [] pos) (tListVals td) := by
  refine ⟨fun pins s σ H Q I h => ?_⟩
  refine Call_ (ld_blt I hg hm boot_list (PyProof.Rows.callWith_type1 (args_cons (wpAny_Call_method0_late hbase hline (thn (hd.run pins s σ H _ I h) fun v s1 ⟨x, H1, I1, r1, a, kvs, ex, ha, q⟩ => ?_)) na) na))
  subst ex
  obtain rfl : v = Value.ref a := r1
  obtain ⟨z, hsys, vs, rel, dof⟩ := dk_of I1.hok ha
  obtain ⟨ep, dat⟩ := dof.dictAt
  have dat' := dat
  obtain ⟨ob, es, ho, ex, hdat, hko, hpr, hnd⟩ := dat'
  refine ⟨"dict", "dict.values", F.plainAttrs_dict, F.slot_dict_values, F.type_dict_values, ⟨ob, ho, ex.1⟩, fun b e => ?_, Calls.callWith_builtin rfl (PySem.evalArgs_none ?_)⟩
  · cases e
    exact ⟨ob, ho, ex.2.1⟩
  refine call_meetsIn F.slot_dict_values ⟨ob, ho, ex.1⟩ F.entry_dict_values (F.args_dict_values_1 _) (meets_dict_values (mixKind X.prog X.w) a hsys) ⟨⟨vs, dof⟩, ?_⟩
  have k1 : ∀ b u, s1.heap.get? b = some u → (s1.heap.push { cls := .type "dict_values", data := .fields #[.ref a] }).get? b = some u := fun b u e => Heap.get?_push_of_some _ e
  have dat1 : (s1.heap.push { cls := .type "dict_values", data := .fields #[.ref a] }).DictAt (mixKind X.prog X.w) a vs ep := dat.keep k1
  have hl : kvs.length = vs.length := KV.length rel
  have hsz : (s1.heap.push { cls := .type "dict_values", data := .fields #[.ref a] }).objs.size = s1.heap.objs.size + 1 := Heap.size_push _ _
  refine args_nil (PySem.W.kdl_call (PySem.W.kdl_values (knd := mixKind X.prog X.w) (kvs := vs) (ep := ep) (r := s1.heap.objs.size) (d := a)) (I1.ok.hd hc) ⟨⟨_, Heap.get?_push_size _ rfl, rfl, rfl⟩, dat1⟩ (by rw [← hl]; exact z) fun h' tk acc' c' hkeep hS hacc => ?_)
  refine ⟨.ref _, upd H1 _ (.lst (kvs.map (·.2))), I1.laid (t' := tk) (fun b u e => hkeep b u (k1 b u e)) (by rw [hsz]; exact Nat.le_succ _) (show ObjOk X.prog X.w _ _ _ (.lst (kvs.map (·.2))) from ⟨?_, acc'.toList, c', ?_, hS⟩), rfl, q _ (I1.hok.fresh (by rw [hsz]; exact Nat.le_succ _))⟩
  · rw [List.length_map]; exact z
  · have el : acc'.toList.length = acc'.size := by simp
    refine vals_of_at (by rw [List.length_map, el, hacc.1, hl]) fun j x w h1 h2 => ?_
    obtain ⟨k, hk⟩ := hacc.2 j w (by rw [← Array.getElem?_toList]; exact h2)
    obtain ⟨y, h3, h4⟩ := KV.at' rel hk
    rw [List.getElem?_map, h3] at h1
    cases h1
    exact h4
/-- min of a list of tuples, by what they read as -/
def rMinD (K : PySem.W.Frag) : List V → Hp → VK → Prop := fun vs H Q => ∃ (a r0 : Addr) (rs : List Addr) (D : Addr → PyData), vs = [V.ref a] ∧ SqL K H a ((r0 :: rs).map V.ref) ∧ (∀ r ∈ r0 :: rs, Dp K H (.ref r) (D r)) ∧ (∀ r ∈ r0 :: rs, (D r).canLay0 = true ∧ (D r).depth ≤ 50 ∧ D r ≠ .none) ∧
  (∀ r ∈ r0 :: rs, ∀ t ∈ r0 :: rs, alike (D r) (D t) = true) ∧ ∀ r, r ∈ r0 :: rs → D r = minD (D r0) (rs.map D) → Q (.ref r) H
theorem minD_mem : ∀ (x : PyData) (xs : List PyData), minD x xs ∈ x :: xs
  | x, [] => List.mem_cons_self
  | x, y :: ys => by
    have h := minD_mem (if dataLt y x then y else x) ys
    rcases List.mem_cons.mp h with e | e
    · have z : minD x (y :: ys) = if dataLt y x then y else x := e
      rw [z]
      by_cases c : dataLt y x = true
      · rw [if_pos c]
        exact List.mem_cons_of_mem _ List.mem_cons_self
      · rw [if_neg c]
        exact List.mem_cons_self
    · exact List.mem_cons_of_mem _ (List.mem_cons_of_mem _ e)
theorem refsV : ∀ {rs : List Addr} {us : List Value}, Vals (rs.map V.ref) us → us = rs.map Value.ref
  | [], _, .nil => rfl
  | r :: rs, _, .cons q t => by
    cases (show _ = Value.ref r from q)
    rw [refsV t]
    rfl
theorem dpAllD {K : PySem.W.Frag} {H : Hp} {D : Addr → PyData} : ∀ {rs : List Addr}, (∀ r ∈ rs, Dp K H (.ref r) (D r)) → DpAll K H (rs.map V.ref) (rs.map D)
  | [], _ => .nil
  | r :: rs, h => .cons (h r List.mem_cons_self) (dpAllD fun q hq => h q (List.mem_cons_of_mem _ hq))
theorem depAll {n : Nat} : ∀ {ds : List PyData}, (∀ x ∈ ds, PyData.depth x ≤ n) → PyData.depthAll ds ≤ n
  | [], _ => Nat.zero_le _
  | d :: ds, h => by
    show max (PyData.depth d) (PyData.depthAll ds) ≤ n
    exact Nat.max_le.mpr ⟨h d List.mem_cons_self, depAll fun x hx => h x (List.mem_cons_of_mem _ hx)⟩
theorem cr_minD (hc : X.calm = true) (hu : X.A.units + 64 < cLine) : CallR X (.builtin "min") (rMinD X.K) := by
  intro pins s σ H vs us Q I r h
  obtain ⟨a, r0, rs, D, rfl, hs, hx, fl, al, q⟩ := h
  obtain ⟨its, rv, hl, hz⟩ := I.list hs
  rw [Vals.ref1 r]
  have e1 := refsV rv
  subst e1
  obtain ⟨as, rd⟩ := Dp.readsAll I ((r0 :: rs).map D) _ _ (dpAllD hx) rv
  have inn : ∀ {d}, d ∈ (r0 :: rs).map D → ∃ r ∈ r0 :: rs, d = D r := fun h => by
    obtain ⟨r, h1, h2⟩ := List.mem_map.mp h
    exact ⟨r, h1, h2.symm⟩
  refine min_list_data (x := D r0) (xs := rs.map D) (as := as) (I.ok.hd hc) hl.isList (by simpa using rd) ⟨fun x hx' y hy => ?_, fun x hx' => ?_⟩ ?_ fun i v h' tk bs hv hr keep => ?_
  · obtain ⟨r, h1, rfl⟩ := inn hx'
    obtain ⟨t, h2, rfl⟩ := inn hy
    exact al r h1 t h2
  · obtain ⟨r, h1, rfl⟩ := inn hx'
    exact (fl r h1).2.2
  · have : PyData.depthAll (D r0 :: rs.map D) ≤ 50 := depAll fun x hx' => by
      obtain ⟨r, h1, rfl⟩ := inn hx'
      exact (fl r h1).2.1
    omega
  · have hv' : ((r0 :: rs).map Value.ref)[i]? = some v := by simpa using hv
    rw [List.getElem?_map] at hv'
    obtain ⟨t, ht, rfl⟩ := Option.map_eq_some_iff.mp hv'
    have hm := List.mem_of_getElem? ht
    obtain ⟨cs, rt⟩ := Dp.reads I _ _ _ (hx t hm) rfl
    have cm : (minD (D r0) (rs.map D)).canLay0 = true := by
      obtain ⟨r, h1, h2⟩ := inn (minD_mem (D r0) (rs.map D))
      rw [h2]
      exact (fl r h1).1
    have ea := SeqAt.readOf_eq (fl t hm).1 (reads_keeps keep rt)
    have eb := SeqAt.readOf_eq cm hr
    exact ⟨.ref t, H, I.kept keep, rfl, q t hm (by rw [← ea, ← eb])⟩
/-- what is walked: a list or a tuple -/
def iSq (K : PySem.W.Frag) (tl : TE) : TI := fun σ H R => tl σ H fun x H1 => ∃ a, x = .ref a ∧ (((∃ xs, SqL K H1 a xs) ∧ R (Itl K a) H1) ∨ ((∃ xs, SqT K H1 a xs) ∧ R (Itt K a) H1))
theorem pi_seq {tg l : Expr} {tl : TE} (hl : PE X l tl) : PI X tg l (iSq X.K tl) := by
  refine ⟨fun pins s σ H R I h => ?_⟩
  refine thn (hl.run pins s σ H _ I h) fun v s1 ⟨x, H1, I1, r1, a, e, q1⟩ => ?_
  subst e
  cases r1
  have new : ∀ b ∈ [s1.heap.objs.size], b = s1.heap.objs.size := fun b hb => by simpa using hb
  rcases q1 with ⟨⟨xs, hq⟩, q⟩ | ⟨⟨xs, hq⟩, q⟩
  · obtain ⟨its, rv, p, hz⟩ := I1.list hq
    refine wpAny_pyIter_list p.isList ⟨s1.heap.objs.size, [s1.heap.objs.size], _, _, H1, rfl, I1.kept (t' := s1.toks) fun b o e => Heap.get?_push_of_some _ e, turn_list a _, ⟨_, Heap.get?_push_size _ rfl, rfl, rfl⟩, fun b hb => ?_, q⟩
    cases new b hb
    exact I1.fpOk (Nat.le_refl _) (I1.hok.fresh (Nat.le_refl _))
  · obtain ⟨its, rv, p, hz⟩ := I1.tuple hq
    refine wpAny_pyIter_tuple (show s1.heap.IsTuple a its.toArray from p) ⟨s1.heap.objs.size, [s1.heap.objs.size], _, _, H1, rfl, I1.kept (t' := s1.toks) fun b o e => Heap.get?_push_of_some _ e, turn_tuple a _, ⟨_, Heap.get?_push_size _ rfl, rfl, rfl⟩, fun b hb => ?_, q⟩
    cases new b hb
    exact I1.fpOk (Nat.le_refl _) (I1.hok.fresh (Nat.le_refl _))
end
end GV

/-! x != y of instances of one class that has an __eq__ of its own and no __ne__. -/
namespace GO
open PySem PySem.Spec PyProof.Rows L2 Builtin
/-- what is asked of the class at C, its __eq__ at g -/
structure EqO (K : PySem.W.Frag) (C g : Addr) : Prop where
  top : PySem.W.mroIn K C (.type "object") = some true
  ne : PySem.W.findIn K (.ref C) "__ne__" = some (some (.builtin "object.__ne__"))
  eq : PySem.W.findIn K (.ref C) "__eq__" = some (some (.ref g))
  fn : PySem.W.isFn K (.ref g) = true
section
variable {P : Program} {w : World} {A : Around} {E : Value → Shared → Prop} {s : Shared} {K : PySem.W.Frag} {x y C D g : Addr} {ox oy : Obj} {od od' : Option Obj}
theorem bound {M : Model} {more : List Value} {Q : Option Value → Shared → Prop} (X : K.In s.heap) (I : PySem.W.InstAt s.heap x ox C od) (c : EqO K C g)
    (h : wpAny M A (call (.builtin "object.__ne__") (.ref x :: more)) (fun v => Q (some v)) E s) : wpAny M A (callSpecialIfBound? (.ref x) "__ne__" more) Q E s := by
  have last : wpAny M A (call (.builtin "object.__ne__") ([.ref x] ++ more) >>= fun v => pure (some v)) Q E s := wpAny_bind (wpAny_mono h (fun _ _ z => wpAny_pure z) fun _ _ z => z)
  simp only [callSpecialIfBound?, bindSpecialIfBound?]
  refine wpAny_holding (wpAny_bind ?_)
  refine wpAny_bind (wpAny_bind (I.type.here ((PySem.W.looks_findIn X c.ne).here ?_)))
  refine wpAny_bind (wpAny_askSetting (wpAny_ite ?_))
  split
  · exact wpAny_bind (wpAny_of_eq (F.cmp_object.ne.bind _) (wpAny_pure (by exact last)))
  · refine wpAny_tryCatch ?_
    exact wpAny_bind (wpAny_of_eq (F.cmp_object.ne.bind _) (wpAny_pure (by exact last)))
theorem entry {Q : Fin → Shared → Prop} (X : K.In s.heap) (I : PySem.W.InstAt s.heap x ox C od) (c : EqO K C g) (hu : A.units < cLine)
    (h : wpAny (model P w) A (call (.ref g) [.ref x, .ref y]) (fun v s' => ∃ b, v = .bool b ∧ Q (.done (.ret (.bool (!b)))) s') E s) :
    wpAny (model P w) A (Builtin.«object.__ne__» ⟨[.ref x, .ref y], []⟩) Q E s := by
  obtain ⟨h0, gs, dr, tk, os⟩ := s
  unfold Builtin.«object.__ne__»
  repeat (first
    | with_reducible refine wpAny_cRoomFor hu ?_
    | (refine wpAny_bind (m := callSpecialIfBound? (.ref x) (Str.ofString "__eq__") [.ref y]) (PySem.W.ifBound_K X I c.eq c.fn (wpAny_mono h (fun r s' got => by
        obtain ⟨b, rfl, q⟩ := got
        repeat (first | exact q | exact wpAny_pure q | exact wpAny_truthy_bool q | (refine wpAny_bind (m := truthy (.bool _)) (wpAny_truthy_bool ?_)) | wp_step)) fun _ _ z => z)))
    | wp_step)
theorem tried {Q : Option Value → Shared → Prop} (X : K.In s.heap) (I : PySem.W.InstAt s.heap x ox C od) (c : EqO K C g) (hu : A.units + 1 < cLine)
    (h : wpAny (model P w) A.in1 (call (.ref g) [.ref x, .ref y]) (fun v s' => ∃ b, v = .bool b ∧ Q (some (.bool (!b))) s') E s) : wpAny (model P w) A (tryCompare (.ref x) "__ne__" (.ref y)) Q E s := by
  unfold tryCompare
  refine wpAny_bind (bound X I c (wpAny_call (codeAny_call_builtin F.cmp_object.ne.plain F.cmpEntry_ne (PySem.W.check_slot F.cmpKind_ne F.cmpSplit_ne (I.type.andThen (PySem.W.looks_mroIn X c.top)) (F.cmpArgs_ne _ _) ?_))))
  refine entry X I c hu (wpAny_mono h (fun v s' got => ?_) fun _ _ z => z)
  obtain ⟨b, rfl, q⟩ := got
  first | exact ⟨b, rfl, wpAny_pure q⟩ | exact ⟨b, rfl, wpAny_pure (wpAny_pure q)⟩ | exact ⟨b, rfl, q⟩
theorem rich {Q : Value → Shared → Prop} (X : K.In s.heap) (I : PySem.W.InstAt s.heap x ox C od) (J : PySem.W.InstAt s.heap y oy C od') (c : EqO K C g) (hu : A.units + 1 < cLine)
    (h : wpAny (model P w) A.in1 (call (.ref g) [.ref x, .ref y]) (fun v s' => ∃ b, v = .bool b ∧ Q (.bool (!b)) s') E s) : wpAny (model P w) A (richCompare .NotEq (.ref x) (.ref y)) Q E s := by
  have one : wpAny (model P w) A (tryCompare (.ref x) "__ne__" (.ref y)) (fun r s' => ∃ b, r = some (.bool b) ∧ Q (.bool b) s') E s :=
    tried X I c hu (wpAny_mono h (fun v s' got => by obtain ⟨b, e, q⟩ := got; exact ⟨b, e, !b, rfl, q⟩) fun _ _ z => z)
  simp only [richCompare, cmpInfo_NotEq, oneThing_ref]
  refine wpAny_holding (wpAny_bind (wpAny_cRoomFor (Nat.lt_of_succ_lt hu) ?_))
  refine wpAny_bind (I.type.here (wpAny_bind (J.type.here ?_)))
  split
  · rename_i z
    exact absurd z (by simp)
  · refine wpAny_bind (wpAny_pure ?_)
    simp only [Bool.false_eq_true, if_false]
    refine wpAny_bind (wpAny_mono one (fun r s' got => ?_) fun _ _ z => z)
    obtain ⟨b, rfl, q⟩ := got
    exact wpAny_pure q
end
section
variable {X : Cx} {C g : Addr} {k : Nat} {fd : FuncData} {ps : List Str} {sp : Sp}
def rNeO (C : Addr) (sp : Sp) : V → V → Hp → VK → Prop := fun x y H Q => ∃ a b dx dy fs gs, x = .ref a ∧ y = .ref b ∧ H a = some (.ins C dx fs) ∧ H b = some (.ins C dy gs) ∧ sp [x, y] H (fun v H' => ∃ j, v = .bl j ∧ Q (.bl (!j)) H') (fun _ _ _ => False)
theorem op_neO (c : EqO X.K C g) (F : FnOk X.prog X.w X.K X.mg X.base L2.CX0 k g fd ps sp) (hb : Binds X.K fd ps []) (hr : Room (k + 2) X.A) : OpR X (compareOp .NotEq) (rNeO C sp) := by
  intro pins s σ H x y u v Q I rx ry h
  obtain ⟨a, b, dx, dy, fs, gs, rfl, rfl, ha, hb', q⟩ := h
  cases (show u = Value.ref a from rx)
  cases (show v = Value.ref b from ry)
  obtain ⟨mA, O, _⟩ := ins_get I.hok ha
  obtain ⟨od, J, _⟩ := O.look
  obtain ⟨mB, O', _⟩ := ins_get I.hok hb'
  obtain ⟨od', J', _⟩ := O'.look
  have hr1 : Room k X.A.in1 := (show Room (k + 1) X.A.in1 from Room.in1 hr).mono (Nat.le_succ k)
  show wpAny _ _ (richCompare .NotEq (.ref a) (.ref b)) _ _ _
  refine rich I.kIn J J' c ?_ ?_
  · exact Nat.lt_of_le_of_lt (Nat.add_le_add_left (by decide) _) hr.units
  · have ran := F.raw hb .nil X.A.in1 X.stack s H [.ref a, .ref b] [.ref a, .ref b] _ _ hr1 I.env0.in1 (.cons rfl (.cons rfl .nil)) (by exact q)
    refine wpAny_call (codeAny_mono ran fun r s' told => ?_)
    match r, told with
    | .error e, told => exact (show False from told).elim
    | .ok (.ret u), told =>
      obtain ⟨z, H', I', rz, j, ej, qz⟩ := I.after told
      subst ej
      cases (show u = Value.bool j from rz)
      exact ⟨j, rfl, .bl (!j), H', I', rfl, qz⟩
    | .ok .next, told => exact told.elim
    | .ok .brk, told => exact told.elim
    | .ok .cont, told => exact told.elim
end
end GO

/-! x == y, x an instance of a class that has an __eq__ of its own, y anything whose type is known. -/
namespace GP
open PySem PySem.Spec PyProof.Rows L2 Builtin
section
variable {X : Cx} {C g : Addr} {k : Nat} {fd : FuncData} {ps : List Str} {sp : Sp}
def rEqO (K : PySem.W.Frag) (C : Addr) (sp : Sp) : V → V → Hp → VK → Prop := fun x y H Q => ∃ a dx fs t, x = .ref a ∧ H a = some (.ins C dx fs) ∧ TyX K H y t ∧ PySem.W.notFirst K C t = true ∧ sp [x, y] H (fun v H' => ∃ j, v = .bl j ∧ Q (.bl j) H') (fun _ _ _ => False)
theorem op_eqO (hs : PySem.W.findIn X.K (.ref C) "__eq__" = some (some (.ref g))) (hf : PySem.W.isFn X.K (.ref g) = true) (F : FnOk X.prog X.w X.K X.mg X.base L2.CX0 k g fd ps sp) (hb : Binds X.K fd ps []) (hr : Room k X.A) : OpR X (compareOp .Eq) (rEqO X.K C sp) := by
  intro pins s σ H x y u v Q I rx ry h
  obtain ⟨a, dx, fs, t, rfl, ha, ty, nf, q⟩ := h
  cases (show u = Value.ref a from rx)
  obtain ⟨mA, O, _⟩ := ins_get I.hok ha
  obtain ⟨od, J, _⟩ := O.look
  obtain ⟨m, hF⟩ := I.fr
  obtain ⟨Pz, Z, pz, _⟩ := kit_of I ry ty
  show wpAny _ _ (richCompare .Eq (.ref a) v) _ _ _
  refine PySem.W.cmp_K (op := .Eq) (tb := t) (Nat.lt_of_le_of_lt (Nat.le_add_right _ _) hr.units) hF I.ok.mod.kin J (Z.ty _ _ I.kIn pz) nf hs hf ?_
  have ran := F.raw hb .nil X.A X.stack s H [.ref a, v] [.ref a, y] _ _ hr I.env0 (.cons rfl (.cons ry .nil)) (by exact q)
  refine wpAny_call (codeAny_mono ran fun r s' told => ?_)
  match r, told with
  | .error e, told => exact (show False from told).elim
  | .ok (.ret u), told =>
    obtain ⟨z, H', I', rz, j, ej, qz⟩ := I.after told
    subst ej
    cases (show u = Value.bool j from rz)
    exact ⟨.bl j, H', I', rfl, qz⟩
  | .ok .next, told => exact told.elim
  | .ok .brk, told => exact told.elim
  | .ok .cont, told => exact told.elim
end
def noRef (T : String) : Bool := match PySem.fastBuiltinMro T with
  | some l => l.all fun v => match v with | .type _ => true | _ => false
  | none => false
theorem sub_ref {K : PySem.W.Frag} {T : String} {C : Addr} (h : noRef T = true) : PySem.W.subIn K (.type T) (.ref C) = some false := by
  unfold noRef at h
  show (PySem.fastBuiltinMro T).map (·.contains (Value.ref C)) = some false
  cases e : PySem.fastBuiltinMro T with
  | none =>
    rw [e] at h
    cases h
  | some l =>
    rw [e] at h
    simp only [Option.map_some]
    congr 1
    rw [List.all_eq_true] at h
    rw [← Bool.not_eq_true]
    intro z
    have hm := List.contains_iff_mem.mp z
    have := h _ hm
    cases this
theorem kit_rev {K : PySem.W.Frag} {T : String} {C : Addr} (cl : Cls K C) (tt : PySem.W.typeIn K (.ref C) = some (.type "type")) (h : noRef T = true) : PySem.W.kitOne K (.type T) (.ref C) = some false := by
  obtain ⟨cd, hc, _⟩ := PySem.W.any_some cl.hd
  unfold PySem.W.kitOne
  rw [if_neg (by intro z; cases eq_of_beq z)]
  show (if ((PySem.W.clsIn K C).isSome && PySem.W.typeIn K (.ref C) == some (.type "type")) = true then PySem.W.subIn K (.type T) (.ref C) else none) = some false
  rw [if_pos (by rw [hc, tt] <;> rfl)]
  exact sub_ref h
theorem first_rev {K : PySem.W.Frag} {T : String} {C : Addr} (h : noRef T = true) : PySem.W.notFirst K C (.type T) = true := by
  unfold PySem.W.notFirst
  rw [sub_ref h]
  simp
theorem first_self {K : PySem.W.Frag} {C : Addr} : PySem.W.notFirst K C (.ref C) = true := by
  unfold PySem.W.notFirst
  simp
end GP

/-! l.remove(x), l a list of data and x one of them. -/
namespace GRm
open PySem PySem.Spec PySem.Calls L2 Builtin
section
variable {P : Program} {w : World} {A : Around} {E : Value → Shared → Prop} {s : Shared}
variable {L : Lay} {X : Cx} {pins : List Addr} {σ : L2.St} {H : Hp}
def rRemoveD (K : PySem.W.Frag) : V → List V → Hp → VK → Prop := fun x vs H Q => ∃ (a : Addr) (y : V) (d : PyData) (ds : List PyData) (xs : List V) (j : Nat), x = V.ref a ∧ vs = [y] ∧ H a = some (.lst xs) ∧ DpAll K H xs ds ∧ Dp K H y d ∧
  PyData.plainAll ds = true ∧ d.plain = true ∧ min (PyData.depthAll ds) d.depth ≤ 30 ∧ SeqAt.dataPlace ds d = some j ∧ Q .non (upd H a (.lst (xs.eraseIdx j)))
theorem mt_removeD (hu : X.A.units + 64 < cLine) : MtM X "list.remove" (rRemoveD X.K) := by
  intro pins s σ H x vs v us Q I rx rv h
  obtain ⟨a, y, d, ds, xs, j, rfl, rfl, hH, ha, hy, p1, p2, hd, hj, q⟩ := h
  cases rx
  obtain ⟨uy, rfl, ry⟩ := rv.one
  obtain ⟨bs, r1⟩ := Dp.reads I d y uy hy ry
  obtain ⟨z, its, n, r, hl, e⟩ := I.lstM hH
  obtain ⟨as, h4⟩ := Dp.readsAll I ds _ its ha r
  have hL : s.heap.IsList a its.toArray := ⟨_, e, rfl, n, rfl⟩
  refine SeqAt.remove_list_data (vs := its.toArray) hL (show ReadsAll s.heap its.toArray.toList ds as from h4) r1 p1 p2 (by omega) hj (by rw [List.size_toArray]; omega) ?_
  refine ⟨.non, _, I.lset (its' := its.eraseIdx j) hH e ?_ (r.eraseIdx j) ?_, rfl, q⟩
  · show its.toArray.eraseIdxIfInBounds j = (its.eraseIdx j).toArray
    rw [List.eraseIdxIfInBounds_toArray]
  · have := len_erase xs j
    omega
end
end GRm

/-! sorted of a list of tuples of which the first is the empty one: the same tuples in some order. -/
namespace GSt
open PySem PySem.Spec PyProof.Rows L2 PySem.W PySem.Calls
section
variable {M : Model} {A : Around} {E : Value → Shared → Prop} {s : Shared}
theorem first_of {a : Addr} {xs : Array Value} {Q : Option Value → Shared → Prop} (t : s.heap.IsTuple a xs) (q : Q xs[0]? s) : wpAny M A (firstOfTuple' (.ref a)) Q E s := by
  obtain ⟨o, ho, hc, n, hd⟩ := id t
  rw [kas_first_eq]
  refine wpAny_bind ?_
  refine Looks.here (r := o.cls) ((Looks.ld ho).andThen .now) ?_
  rw [hc]
  have e : (Value.type "tuple" != Value.type "tuple") = false := by simp
  rw [e]
  exact wpAny_bind (listItems_at ho hd (wpAny_pure q))
theorem mapM_each {α β : Type} {f : α → Sem β} {r : α → β} : ∀ (l : List α) {Q : List β → Shared → Prop}, (∀ v ∈ l, ∀ Q' : β → Shared → Prop, Q' (r v) s → wpAny M A (f v) Q' E s) → Q (l.map r) s → wpAny M A (l.mapM f) Q E s
  | [], Q, _, q => by
    rw [List.mapM_nil]
    exact wpAny_pure q
  | v :: l, Q, h, q => by
    rw [List.mapM_cons]
    refine wpAny_bind (h v List.mem_cons_self _ (wpAny_bind ?_))
    exact mapM_each l (Q := fun bs s' => wpAny M A (pure (r v :: bs)) Q E s') (fun u hu => h u (List.mem_cons_of_mem _ hu)) (wpAny_pure q)
/-- the kind of keys: tuples, the first of them empty -/
theorem kind_empty {a : Addr} {vs : List Value} {Q : SortKind → Shared → Prop} (t0 : s.heap.IsTuple a #[]) (ts : ∀ v ∈ vs, ∃ b xs, v = Value.ref b ∧ s.heap.IsTuple b xs) (q : Q oneType' s) : wpAny M A (keyKind' (Value.ref a :: vs).toArray) Q E s := by
  have all : ∀ v ∈ Value.ref a :: vs, ∃ b xs, v = Value.ref b ∧ s.heap.IsTuple b xs := fun v hv => by
    rcases List.mem_cons.mp hv with rfl | hv
    · exact ⟨a, #[], rfl, t0⟩
    · exact ts v hv
  let r : Value → Option Value := fun v => open Classical in if h : ∃ b xs, v = Value.ref b ∧ s.heap.IsTuple b xs then h.choose_spec.choose[0]? else none
  have hr : ∀ v ∈ Value.ref a :: vs, ∀ Q' : Option Value → Shared → Prop, Q' (r v) s → wpAny M A (firstOfTuple' v) Q' E s := fun v hv Q' h => by
    have ex := all v hv
    have e : r v = ex.choose_spec.choose[0]? := dif_pos ex
    obtain ⟨e1, e2⟩ := ex.choose_spec.choose_spec
    have z : wpAny M A (firstOfTuple' (.ref ex.choose)) Q' E s := first_of e2 (by rw [← e]; exact h)
    rw [← e1] at z
    exact z
  have r0 : r (.ref a) = none := by
    have ex := all (.ref a) List.mem_cons_self
    have e : r (.ref a) = ex.choose_spec.choose[0]? := dif_pos ex
    obtain ⟨e1, e2⟩ := ex.choose_spec.choose_spec
    rw [e]
    have ea : a = ex.choose := Value.ref.inj e1
    have ee : ex.choose_spec.choose = #[] := by
      obtain ⟨o1, h1, _, n1, d1⟩ := e2
      obtain ⟨o2, h2, _, n2, d2⟩ := id t0
      rw [← ea, h2] at h1
      cases h1
      rw [d2] at d1
      injection d1 with z1
      exact z1.symm
    rw [ee]
    rfl
  rw [keyKind'_eq, List.mapM_toArray, map_eq_pure_bind]
  refine wpAny_bind (wpAny_bind (mapM_each (r := r) _ hr (wpAny_pure ?_)))
  have n1 : (((Value.ref a :: vs).map r).toArray.all fun x => x.isSome) = false := by
    rw [List.map_cons, r0]
    simp
  have n2 : ((((Value.ref a :: vs).map r).toArray)[0]?.bind id).isSome = false := by
    rw [List.map_cons, r0]
    simp
  rw [n1, n2]
  simp only [Bool.false_eq_true, if_false]
  rw [oneTypeOnly'_eq, List.mapM_toArray, map_eq_pure_bind]
  refine wpAny_bind (wpAny_bind (wpAny_bind (mapM_each (r := fun _ => Value.type "tuple") _ (fun v hv Q' h => ?_) (wpAny_pure ?_))))
  · obtain ⟨b, xs, rfl, o, ho, hc, _⟩ := all v hv
    refine Looks.here (r := o.cls) ((Looks.ld ho).andThen .now) ?_
    rw [hc]
    exact h
  · have y1 : ((List.map (fun _ => Value.type "tuple") (Value.ref a :: vs)).toArray)[0]? = some (Value.type "tuple") := by simp
    have y2 : ((List.map (fun _ => Value.type "tuple") (Value.ref a :: vs)).toArray.all fun x => x == Value.type "tuple") = true := by simp
    rw [y1]
    simp only [y2, if_true]
    exact wpAny_pure (wpAny_pure q)
end
section
variable {prog : Program} {w : World} {A : Around} {E : Value → Shared → Prop} {s : Shared}
/-- one tuple against another, both known to be tuples -/
theorem lt_tups {xs ys : List PyData} {a b : Value} {as bs : List Addr} {Q : Bool → Shared → Prop} (ra : Reads s.heap a (.tuple xs) as) (rb : Reads s.heap b (.tuple ys) bs) (al : alike (.tuple xs) (.tuple ys) = true)
    (hu : A.units + min (PyData.tuple xs).depth (PyData.tuple ys).depth < cLine) (q : Q (dataLt (.tuple xs) (.tuple ys)) s) : wpAny (model prog w) A (keyLt' oneType' a b) Q E s := by
  have al2 : alikeAll xs ys = true := by simpa [alike] using al
  rw [keyLt'_oneType, oneLt'_eq]
  cases ra with
  | @tuple l o us n _ _ h1 h2 h3 h4 =>
    cases rb with
    | @tuple l' o' us' n' _ _ k1 k2 k3 k4 =>
      have n1 : us.size = xs.length := by simpa using SeqAt.ReadsAll.length _ _ _ h4
      have n2 : us'.size = ys.length := by simpa using SeqAt.ReadsAll.length _ _ _ k4
      rw [dataLt_tuple, ← firstLt_toks xs ys al2, ← n1, ← n2] at q
      obtain ⟨cls, dd, data, sl⟩ := o
      obtain ⟨cls2, dd2, data2, sl2⟩ := o'
      dsimp only at h2 h3 k2 k3
      subst h2 h3 k2 k3
      rw [if_pos rfl]
      refine wpAny_bind (wpAny_cRoomFor (SeqAt.room_here hu) ?_)
      refine wpAny_bind (wpAny_callSpecialIfBound?_slot (T := "tuple") ⟨_, h1, rfl⟩ F.slot_tuple_lt ?_)
      refine call_meets F.slot_tuple_lt ⟨_, h1, rfl⟩ F.entry_tuple_lt (F.args_tuple_lt_2 _ _) (SeqAt.tuple_ltAt l l' us us' n n' dd dd2 sl sl2 (SeqAt.pairEq xs ys) fun j => dataLt (xs.getD j .none) (ys.getD j .none)) ⟨h1, k1, fun j j1 j2 => ?_, fun j j1 j2 hj => ?_, ?_⟩
      · have z := eqAt_alikeAll xs ys A.in1 s us.toList us'.toList _ _ h4 k4 al2 (SeqAt.room_in hu) j (by simpa using j1) (by simpa using j2)
        simpa using z
      · have z := rcLt_alikeAll xs ys A.in1 s us.toList us'.toList _ _ h4 k4 al2 (SeqAt.room_in hu) j (by simpa using j1) (by simpa using j2) hj
        simpa using z
      · exact wpAny_truthy_bool q
end
section
variable {X : Cx}
/-- sorted(l), l a list of tuples, the first the empty one: the same, in some order -/
def rSortE (K : PySem.W.Frag) : List V → Hp → VK → Prop := fun vs H Q => ∃ (a r0 : Addr) (rs : List Addr) (D : Addr → List PyData), vs = [V.ref a] ∧ SqL K H a ((r0 :: rs).map V.ref) ∧ D r0 = [] ∧ (∀ r ∈ r0 :: rs, Dp K H (.ref r) (.tuple (D r))) ∧ (∀ r ∈ r0 :: rs, ∀ t ∈ r0 :: rs, alike (.tuple (D r)) (.tuple (D t)) = true) ∧
  (∀ r ∈ r0 :: rs, (PyData.tuple (D r)).depth ≤ 50) ∧ ∀ (rs' : List Addr) (p : Addr), rs'.Perm (r0 :: rs) → H p = none → Q (.ref p) (upd H p (.lst (rs'.map V.ref)))
theorem cr_sortE (hu : X.A.units + 64 < cLine) : CallR X (.builtin "sorted") (rSortE X.K) := by
  intro pins s σ H vs us Q I r h
  obtain ⟨a, r0, rs, D, rfl, hs, d0, hx, al, dep, q⟩ := h
  obtain ⟨its, rv, hl, hz⟩ := I.list hs
  rw [Vals.ref1 r]
  have e1 := GD.refs_eq rv
  subst e1
  have rd : ∀ t ∈ r0 :: rs, ∃ cs, Reads s.heap (.ref t) (.tuple (D t)) cs := fun t ht => Dp.reads I _ _ _ (hx t ht) rfl
  refine Srt.sorted_any hl.isList (by rw [List.length_map] at hz ⊢; exact hz) (fun h2 h₁ b hb keep => ?_) fun out hp => ?_
  · intro h' k'
    have old : ∀ c o, s.heap.get? c = some o → h'.get? c = some o := fun c o e => k' c o (keep c o e).1 (keep c o e).2
    have rd' : ∀ t ∈ r0 :: rs, ∃ cs, Reads h' (.ref t) (.tuple (D t)) cs := fun t ht => by
      obtain ⟨cs, z⟩ := rd t ht
      exact ⟨cs, Reads.keeps old z⟩
    have tup' : ∀ t ∈ r0 :: rs, ∃ xs : Array Value, h'.IsTuple t xs ∧ xs.size = (D t).length := fun t ht => by
      obtain ⟨cs, z⟩ := rd' t ht
      cases z with
      | @tuple _ o us n _ _ g1 g2 g3 g4 => exact ⟨us, ⟨o, g1, g2, n, g3⟩, by simpa using SeqAt.ReadsAll.length _ _ _ g4⟩
    refine ⟨oneType', fun Q' E' q' => ?_, fun p p' hp hp' => ?_⟩
    · obtain ⟨xs, t0, z0⟩ := tup' r0 List.mem_cons_self
      rw [d0] at z0
      have ex : xs = #[] := Array.eq_empty_of_size_eq_zero z0
      subst ex
      refine kind_empty t0 (fun v hv => ?_) q'
      obtain ⟨t, ht, rfl⟩ := List.mem_map.mp hv
      obtain ⟨us, g, _⟩ := tup' t (List.mem_cons_of_mem _ ht)
      exact ⟨t, us, rfl, g⟩
    · obtain ⟨t, ht, et⟩ := List.mem_map.mp hp
      obtain ⟨t', ht', et'⟩ := List.mem_map.mp hp'
      rw [← et, ← et']
      obtain ⟨cs, z⟩ := rd' t ht
      obtain ⟨cs', z'⟩ := rd' t' ht'
      refine ⟨dataLt (.tuple (D t)) (.tuple (D t')), lt_tups (s := { s with heap := h' }) z z' (al t ht t' ht') ?_ ⟨rfl, rfl⟩⟩
      have d1 := dep t ht
      have d2 : min (PyData.tuple (D t)).depth (PyData.tuple (D t')).depth ≤ 50 := Nat.le_trans (Nat.min_le_left _ _) d1
      show X.A.units + 1 + 1 + _ < _
      omega
  · have h3 : ∀ u ∈ out, ∃ t, u = Value.ref t := fun u hu => by
      obtain ⟨t, _, e⟩ := List.mem_map.mp (hp.mem_iff.mp hu)
      exact ⟨t, e.symm⟩
    obtain ⟨rs', er, hperm⟩ : ∃ rs' : List Addr, out = rs'.map Value.ref ∧ rs'.Perm (r0 :: rs) := by
      let g : Value → Addr := fun v => match v with
        | .ref t => t
        | _ => 0
      refine ⟨out.map g, ?_, ?_⟩
      · rw [List.map_map]
        conv => lhs; rw [← List.map_id out]
        refine List.map_congr_left fun u hu => ?_
        obtain ⟨t, rfl⟩ := h3 u hu
        rfl
      · have z := hp.map g
        rw [List.map_map] at z
        have e : (g ∘ Value.ref) = id := rfl
        rw [e, List.map_id] at z
        exact z
    subst er
    obtain ⟨ep, he'⟩ := PyProof.Rows.sortedAll_at s.heap ((r0 :: rs).map Value.ref) (List.toArray (rs'.map Value.ref))
    refine ⟨.ref _, upd H _ (.lst (rs'.map V.ref)), I.laid (t' := s.toks) (fun b o e => sortedAll_old e) (Nat.le_succ _) ⟨?_, rs'.map Value.ref, ep, ?_, he'⟩, rfl, q rs' _ hperm (I.hok.fresh (Nat.le_succ _))⟩
    · rw [List.length_map, hperm.length_eq]
      rw [List.length_map] at hz
      exact hz
    · exact GD.vals_refs rs'
end
end GSt

/-! max of a tuple of ints. -/
namespace GMx
open PySem PySem.Spec PyProof.Rows L2 PySem.W PySem.Calls GV
theorem lt_int (i j : Int) : dataLt (.int i) (.int j) = decide (i < j) :=
   dataLt_int i j
/-- the greatest of ints, as data -/
theorem maxD_ints : ∀ (ns : List Int) (n : Int), ∃ m, maxD (.int n) (ns.map PyData.int) = .int m ∧ m ∈ n :: ns ∧ ∀ y ∈ n :: ns, y ≤ m
  | [], n => ⟨n, rfl, List.mem_cons_self, fun y hy => by rw [List.mem_singleton.mp hy]; exact Int.le_refl _⟩
  | k :: ns, n => by
    have e : maxD (.int n) ((k :: ns).map PyData.int) = maxD (if dataLt (.int n) (.int k) then .int k else .int n) (ns.map PyData.int) := rfl
    rw [e, lt_int]
    by_cases c : n < k
    · rw [decide_eq_true c, if_pos rfl]
      obtain ⟨m, h1, h2, h3⟩ := maxD_ints ns k
      refine ⟨m, h1, List.mem_cons_of_mem _ h2, fun y hy => ?_⟩
      rcases List.mem_cons.mp hy with z | z
      · have := h3 k List.mem_cons_self
        omega
      · exact h3 y z
    · rw [decide_eq_false c, if_neg Bool.false_ne_true]
      obtain ⟨m, h1, h2, h3⟩ := maxD_ints ns n
      refine ⟨m, h1, ?_, fun y hy => ?_⟩
      · rcases List.mem_cons.mp h2 with z | z
        · rw [z]; exact List.mem_cons_self
        · exact List.mem_cons_of_mem _ (List.mem_cons_of_mem _ z)
      · rcases List.mem_cons.mp hy with z | z
        · rw [z]; exact h3 n List.mem_cons_self
        · rcases List.mem_cons.mp z with z | z
          · have := h3 n List.mem_cons_self
            omega
          · exact h3 y (List.mem_cons_of_mem _ z)
theorem alike_int (i j : Int) : alike (.int i) (.int j) = true := by simp [alike]
theorem dep_ints : ∀ ns : List Int, PyData.depthAll (ns.map PyData.int) = 0
  | [] => rfl
  | n :: ns => by
    show max (PyData.depth (.int n)) (PyData.depthAll (ns.map PyData.int)) = 0
    rw [dep_ints ns]
    rfl
section
variable {X : Cx}
/-- max(t), t a tuple of ints -/
def rMaxT (K : PySem.W.Frag) : List V → Hp → VK → Prop := fun vs H Q => ∃ (a : Addr) (n : Int) (ns : List Int), vs = [V.ref a] ∧ SqT K H a ((n :: ns).map V.int) ∧ ∀ m, m ∈ n :: ns → (∀ y ∈ n :: ns, y ≤ m) → Q (.int m) H
theorem cr_maxT (hc : X.calm = true) (hu : X.A.units + 64 < cLine) : CallR X (.builtin "max") (rMaxT X.K) := by
  intro pins s σ H vs us Q I r h
  obtain ⟨a, n, ns, rfl, hs, q⟩ := h
  obtain ⟨its, rv, isT, _⟩ := I.tuple hs
  rw [Vals.ref1 r]
  have dp : ∀ ns : List Int, DpAll X.K H (ns.map V.int) (ns.map PyData.int) := fun ns => by
    induction ns with
    | nil => exact .nil
    | cons n ns ih => exact .cons (.int n) ih
  obtain ⟨as, rd⟩ := Dp.readsAll I ((n :: ns).map PyData.int) _ _ (dp (n :: ns)) rv
  have inn : ∀ {d}, d ∈ (n :: ns).map PyData.int → ∃ i, d = PyData.int i := fun h => by
    obtain ⟨r, h1, h2⟩ := List.mem_map.mp h
    exact ⟨r, h2.symm⟩
  refine max_tuple_data (x := .int n) (xs := ns.map PyData.int) (as := as) (I.ok.hd hc) isT (by simpa using rd) ⟨fun x hx' y hy => ?_, fun x hx' => ?_⟩ ?_ fun i v h' tk bs hv hr keep => ?_
  · obtain ⟨r, rfl⟩ := inn hx'
    obtain ⟨t, rfl⟩ := inn hy
    exact alike_int r t
  · obtain ⟨r, rfl⟩ := inn hx'
    intro z
    cases z
  · have e : PyData.depthAll (PyData.int n :: ns.map PyData.int) = 0 := dep_ints (n :: ns)
    rw [e]
    omega
  · obtain ⟨m, h1, h2, h3⟩ := maxD_ints ns n
    rw [h1] at hr
    have hv' : its[i]? = some v := by simpa using hv
    obtain ⟨t, rfl⟩ := IntsAre.int_at (show IntsAre its (n :: ns) from rv.ints) i v hv'
    have ek := SeqAt.readOf_eq (d := .int ((n :: ns).getD i 0)) rfl (Reads.int (h := h') _ t)
    have em := SeqAt.readOf_eq (d := .int m) rfl hr
    rw [ek] at em
    have em : (n :: ns).getD i 0 = m := by injection em
    exact ⟨.int m, H, I.kept keep, ⟨t, by rw [em]⟩, q m h2 h3⟩
end
end GMx

namespace KX
open PySem L2
/-! ### the text by places -/
def top (i : Nat) : Stmt := PySem.Challenge.pw_exactbeats_k57_whole_greatest_waits.main.body.getD i (.Pass ⟨0, 0, 0, 0⟩)
abbrev s_is_integer : Stmt := top 7
abbrev N_is_integer : List Str := ["thing"]
abbrev P_is_integer : List Str := ["thing"]
theorem sc_is_integer : FnScope N_is_integer P_is_integer (defScope s_is_integer) := ⟨rfl, rfl, rfl, by decide +kernel, rfl, by decide +kernel, by decide +kernel⟩
abbrev s_is_integer_from : Stmt := top 8
abbrev N_is_integer_from : List Str := ["least", "greatest", "thing"]
abbrev P_is_integer_from : List Str := ["least", "greatest", "thing"]
theorem sc_is_integer_from : FnScope N_is_integer_from P_is_integer_from (defScope s_is_integer_from) := ⟨rfl, rfl, rfl, by decide +kernel, rfl, by decide +kernel, by decide +kernel⟩
abbrev s_is_number_below : Stmt := top 9
abbrev N_is_number_below : List Str := ["bound", "thing"]
abbrev P_is_number_below : List Str := ["bound", "thing"]
theorem sc_is_number_below : FnScope N_is_number_below P_is_number_below (defScope s_is_number_below) := ⟨rfl, rfl, rfl, by decide +kernel, rfl, by decide +kernel, by decide +kernel⟩
abbrev s_is_tuple_of : Stmt := top 10
abbrev N_is_tuple_of : List Str := ["many", "thing"]
abbrev P_is_tuple_of : List Str := ["many", "thing"]
theorem sc_is_tuple_of : FnScope N_is_tuple_of P_is_tuple_of (defScope s_is_tuple_of) := ⟨rfl, rfl, rfl, by decide +kernel, rfl, by decide +kernel, by decide +kernel⟩
abbrev s_is_bucket : Stmt := top 17
abbrev N_is_bucket : List Str := ["bottom", "thing", "burst", "top", "kind"]
abbrev P_is_bucket : List Str := ["bottom", "thing"]
theorem sc_is_bucket : FnScope N_is_bucket P_is_bucket (defScope s_is_bucket) := ⟨rfl, rfl, rfl, by decide +kernel, rfl, by decide +kernel, by decide +kernel⟩
abbrev s_Buckets___init__ : Stmt := inClass (top 18) 0
abbrev N_Buckets___init__ : List Str := ["self", "bottom", "rows", "line", "row"]
abbrev P_Buckets___init__ : List Str := ["self", "bottom", "rows"]
theorem sc_Buckets___init__ : FnScope N_Buckets___init__ P_Buckets___init__ (defScope s_Buckets___init__) := ⟨rfl, rfl, rfl, by decide +kernel, rfl, by decide +kernel, by decide +kernel⟩
abbrev s_Buckets___eq__ : Stmt := inClass (top 18) 1
abbrev N_Buckets___eq__ : List Str := ["self", "other"]
abbrev P_Buckets___eq__ : List Str := ["self", "other"]
theorem sc_Buckets___eq__ : FnScope N_Buckets___eq__ P_Buckets___eq__ (defScope s_Buckets___eq__) := ⟨rfl, rfl, rfl, by decide +kernel, rfl, by decide +kernel, by decide +kernel⟩
abbrev s_check_kind : Stmt := top 19
abbrev N_check_kind : List Str := ["kind"]
abbrev P_check_kind : List Str := ["kind"]
theorem sc_check_kind : FnScope N_check_kind P_check_kind (defScope s_check_kind) := ⟨rfl, rfl, rfl, by decide +kernel, rfl, by decide +kernel, by decide +kernel⟩
abbrev s_most_of : Stmt := top 20
abbrev N_most_of : List Str := ["bottom", "row", "beats", "burst", "top", "_"]
abbrev P_most_of : List Str := ["bottom", "row", "beats"]
theorem sc_most_of : FnScope N_most_of P_most_of (defScope s_most_of) := ⟨rfl, rfl, rfl, by decide +kernel, rfl, by decide +kernel, by decide +kernel⟩
abbrev s_most_together : Stmt := top 21
abbrev N_most_together : List Str := ["bottom", "rows", "beats", "row"]
abbrev P_most_together : List Str := ["bottom", "rows", "beats"]
theorem sc_most_together : FnScope N_most_together P_most_together (defScope s_most_together) := ⟨rfl, rfl, rfl, by decide +kernel, rfl, by decide +kernel, by decide +kernel⟩
abbrev s_rows_of : Stmt := top 22
abbrev N_rows_of : List Str := ["buckets", "kinds", "row"]
abbrev P_rows_of : List Str := ["buckets", "kinds"]
theorem sc_rows_of : FnScope N_rows_of P_rows_of (defScope s_rows_of) := ⟨rfl, rfl, rfl, by decide +kernel, rfl, by decide +kernel, by decide +kernel⟩
abbrev s_tops_of : Stmt := top 23
abbrev N_tops_of : List Str := ["rows", "_", "top"]
abbrev P_tops_of : List Str := ["rows"]
theorem sc_tops_of : FnScope N_tops_of P_tops_of (defScope s_tops_of) := ⟨rfl, rfl, rfl, by decide +kernel, rfl, by decide +kernel, by decide +kernel⟩
abbrev s_sends : Stmt := top 24
abbrev N_sends : List Str := ["buckets", "line", "beat", "row"]
abbrev P_sends : List Str := ["buckets", "line", "beat"]
theorem sc_sends : FnScope N_sends P_sends (defScope s_sends) := ⟨rfl, rfl, rfl, by decide +kernel, rfl, by decide +kernel, by decide +kernel⟩
abbrev s_soonest : Stmt := top 25
abbrev N_soonest : List Str := ["buckets", "beats", "lines", "beat", "line"]
abbrev P_soonest : List Str := ["buckets", "beats"]
theorem sc_soonest : FnScope N_soonest P_soonest (defScope s_soonest) := ⟨rfl, rfl, rfl, by decide +kernel, rfl, by decide +kernel, by decide +kernel⟩
abbrev s_is_boundless : Stmt := top 26
abbrev N_is_boundless : List Str := ["buckets", "kind", "lesser"]
abbrev P_is_boundless : List Str := ["buckets", "kind"]
theorem sc_is_boundless : FnScope N_is_boundless P_is_boundless (defScope s_is_boundless) := ⟨rfl, rfl, rfl, by decide +kernel, rfl, by decide +kernel, by decide +kernel⟩
abbrev s_longest_wait : Stmt := top 27
abbrev N_longest_wait : List Str := ["buckets", "kind", "own", "lesser", "longest", "end", "beats", "ahead"]
abbrev P_longest_wait : List Str := ["buckets", "kind"]
theorem sc_longest_wait : FnScope N_longest_wait P_longest_wait (defScope s_longest_wait) := ⟨rfl, rfl, rfl, by decide +kernel, rfl, by decide +kernel, by decide +kernel⟩
abbrev s_greatest_wait : Stmt := top 28
abbrev N_greatest_wait : List Str := ["buckets", "kind"]
abbrev P_greatest_wait : List Str := ["buckets", "kind"]
theorem sc_greatest_wait : FnScope N_greatest_wait P_greatest_wait (defScope s_greatest_wait) := ⟨rfl, rfl, rfl, by decide +kernel, rfl, by decide +kernel, by decide +kernel⟩
abbrev s_worst_stream_for : Stmt := top 29
abbrev N_worst_stream_for : List Str := ["buckets", "kind", "_", "end"]
abbrev P_worst_stream_for : List Str := ["buckets", "kind"]
theorem sc_worst_stream_for : FnScope N_worst_stream_for P_worst_stream_for (defScope s_worst_stream_for) := ⟨rfl, rfl, rfl, by decide +kernel, rfl, by decide +kernel, by decide +kernel⟩
abbrev s_law_hand : Stmt := top 31
abbrev N_law_hand : List Str := ["_law_script", "_law_cells", "_law_cell"]
abbrev P_law_hand : List Str := ["_law_script"]
theorem sc_law_hand : FnScope N_law_hand P_law_hand (defScope s_law_hand) := ⟨rfl, rfl, rfl, by decide +kernel, rfl, by decide +kernel, by decide +kernel⟩
abbrev s_law_draw : Stmt := top 32
abbrev N_law_draw : List Str := ["_law_hand_here", "_law_many", "_law_cell", "_law_digit", "_law_number"]
abbrev P_law_draw : List Str := ["_law_hand_here", "_law_many"]
theorem sc_law_draw : FnScope N_law_draw P_law_draw (defScope s_law_draw) := ⟨rfl, rfl, rfl, by decide +kernel, rfl, by decide +kernel, by decide +kernel⟩
abbrev s_law_pick : Stmt := top 33
abbrev N_law_pick : List Str := ["_law_hand_here", "_law_things"]
abbrev P_law_pick : List Str := ["_law_hand_here", "_law_things"]
theorem sc_law_pick : FnScope N_law_pick P_law_pick (defScope s_law_pick) := ⟨rfl, rfl, rfl, by decide +kernel, rfl, by decide +kernel, by decide +kernel⟩
abbrev s_law_same : Stmt := top 34
abbrev N_law_same : List Str := ["_law_told", "_law_due", "_law_one", "_law_two"]
abbrev P_law_same : List Str := ["_law_told", "_law_due"]
theorem sc_law_same : FnScope N_law_same P_law_same (defScope s_law_same) := ⟨rfl, rfl, rfl, by decide +kernel, rfl, by decide +kernel, by decide +kernel⟩
abbrev s_law_rows : Stmt := top 35
abbrev N_law_rows : List Str := ["_law_hand_here", "_law_many", "_law_bottom", "_law_burst", "_law_share", "_law_found", "_law_left", "_law_line", "_law_top"]
abbrev P_law_rows : List Str := ["_law_hand_here", "_law_many", "_law_bottom", "_law_burst", "_law_share"]
theorem sc_law_rows : FnScope N_law_rows P_law_rows (defScope s_law_rows) := ⟨rfl, rfl, rfl, by decide +kernel, rfl, by decide +kernel, by decide +kernel⟩
abbrev s_law_sent : Stmt := top 36
abbrev N_law_sent : List Str := ["_law_row", "_law_bottom", "_law_beats"]
abbrev P_law_sent : List Str := ["_law_row", "_law_bottom", "_law_beats"]
theorem sc_law_sent : FnScope N_law_sent P_law_sent (defScope s_law_sent) := ⟨rfl, rfl, rfl, by decide +kernel, rfl, by decide +kernel, by decide +kernel⟩
abbrev s_law_stream : Stmt := top 38
abbrev N_law_stream : List Str := ["_law_hand_here", "_law_many", "_law_beats", "_law_share", "_law_found", "_law_beat", "_law_line"]
abbrev P_law_stream : List Str := ["_law_hand_here", "_law_many", "_law_beats"]
theorem sc_law_stream : FnScope N_law_stream P_law_stream (defScope s_law_stream) := ⟨rfl, rfl, rfl, by decide +kernel, rfl, by decide +kernel, by decide +kernel⟩
abbrev s_law_thinned : Stmt := top 39
abbrev N_law_thinned : List Str := ["_law_rows_here", "_law_bottom", "_law_stream_here", "_law_came", "_law_found", "_law_beat", "_law_lot", "_law_some", "_law_line", "_law_later", "_law_is_let", "_law_at", "_law_begin", "_law_row"]
abbrev P_law_thinned : List Str := ["_law_rows_here", "_law_bottom", "_law_stream_here"]
theorem sc_law_thinned : FnScope N_law_thinned P_law_thinned (defScope s_law_thinned) := ⟨rfl, rfl, rfl, by decide +kernel, rfl, by decide +kernel, by decide +kernel⟩
abbrev s_law_breach : Stmt := top 40
abbrev N_law_breach : List Str := ["_law_rows_here", "_law_bottom", "_law_stream_here", "_law_to", "_law_line", "_law_row", "_law_many", "_law_begin"]
abbrev P_law_breach : List Str := ["_law_rows_here", "_law_bottom", "_law_stream_here"]
theorem sc_law_breach : FnScope N_law_breach P_law_breach (defScope s_law_breach) := ⟨rfl, rfl, rfl, by decide +kernel, rfl, by decide +kernel, by decide +kernel⟩
abbrev s_law_played : Stmt := top 41
abbrev N_law_played : List Str := ["_law_rows_here", "_law_stream_here", "_law_held", "_law_waits", "_law_counts", "_law_beat", "_law_first", "_law_line"]
abbrev P_law_played : List Str := ["_law_rows_here", "_law_stream_here"]
theorem sc_law_played : FnScope N_law_played P_law_played (defScope s_law_played) := ⟨rfl, rfl, rfl, by decide +kernel, rfl, by decide +kernel, by decide +kernel⟩
abbrev s_law_reach : Stmt := top 42
abbrev N_law_reach : List Str := ["_law_rows_here", "_law_bottom", "_law_row"]
abbrev P_law_reach : List Str := ["_law_rows_here", "_law_bottom"]
theorem sc_law_reach : FnScope N_law_reach P_law_reach (defScope s_law_reach) := ⟨rfl, rfl, rfl, by decide +kernel, rfl, by decide +kernel, by decide +kernel⟩
abbrev s_law_wait : Stmt := top 43
abbrev N_law_wait : List Str := ["_law_rows_here", "_law_bottom", "_law_kind", "_law_own", "_law_less", "_law_tops", "_law_found", "_law_end", "_law_beats", "_law_mine", "_law_row"]
abbrev P_law_wait : List Str := ["_law_rows_here", "_law_bottom", "_law_kind"]
theorem sc_law_wait : FnScope N_law_wait P_law_wait (defScope s_law_wait) := ⟨rfl, rfl, rfl, by decide +kernel, rfl, by decide +kernel, by decide +kernel⟩
abbrev s_law_lots : Stmt := top 44
abbrev N_law_lots : List Str := ["_law_many", "_law_found", "_law_one", "_law_lot"]
abbrev P_law_lots : List Str := ["_law_many"]
theorem sc_law_lots : FnScope N_law_lots P_law_lots (defScope s_law_lots) := ⟨rfl, rfl, rfl, by decide +kernel, rfl, by decide +kernel, by decide +kernel⟩
abbrev s_law_all : Stmt := top 45
abbrev N_law_all : List Str := ["_law_rows_here", "_law_bottom", "_law_beats", "_law_there", "_law_lots_here", "_law_found", "_law_beat", "_law_later", "_law_stream_here", "_law_line", "_law_row", "_law_lot", "_law_at"]
abbrev P_law_all : List Str := ["_law_rows_here", "_law_bottom", "_law_beats"]
theorem sc_law_all : FnScope N_law_all P_law_all (defScope s_law_all) := ⟨rfl, rfl, rfl, by decide +kernel, rfl, by decide +kernel, by decide +kernel⟩
abbrev s_law_word : Stmt := top 46
abbrev N_law_word : List Str := ["_law_call", "_law_word_here", "e"]
abbrev P_law_word : List Str := ["_law_call"]
theorem sc_law_word : FnScope N_law_word P_law_word (defScope s_law_word) := ⟨rfl, rfl, rfl, by decide +kernel, rfl, by decide +kernel, by decide +kernel⟩
abbrev s_law_longest : Stmt := top 47
abbrev N_law_longest : List Str := ["_law_rows_here", "_law_stream_here", "_law_kind", "_law_beat", "_law_line", "_law_wait_here"]
abbrev P_law_longest : List Str := ["_law_rows_here", "_law_stream_here", "_law_kind"]
theorem sc_law_longest : FnScope N_law_longest P_law_longest (defScope s_law_longest) := ⟨rfl, rfl, rfl, by decide +kernel, rfl, by decide +kernel, by decide +kernel⟩
abbrev s_law_small_right : Stmt := top 48
abbrev N_law_small_right : List Str := ["_law_hand_here", "_law_bottom", "_law_rows_here", "_law_beats", "_law_every", "_law_kind", "_law_due", "_law_row", "_law_stream_here"]
abbrev P_law_small_right : List Str := ["_law_hand_here"]
theorem sc_law_small_right : FnScope N_law_small_right P_law_small_right (defScope s_law_small_right) := ⟨rfl, rfl, rfl, by decide +kernel, rfl, by decide +kernel, by decide +kernel⟩
abbrev s_law_kind_right : Stmt := top 49
abbrev N_law_kind_right : List Str := ["_law_hand_here", "_law_rows_here", "_law_bottom", "_law_kind", "_law_due", "_law_is_there", "_law_stream_here", "_law_some", "_law_lot", "_law_drawn", "_law_buckets", "_law_row", "_law_line"]
abbrev P_law_kind_right : List Str := ["_law_hand_here", "_law_rows_here", "_law_bottom", "_law_kind"]
theorem sc_law_kind_right : FnScope N_law_kind_right P_law_kind_right (defScope s_law_kind_right) := ⟨rfl, rfl, rfl, by decide +kernel, rfl, by decide +kernel, by decide +kernel⟩
abbrev s_law : Stmt := top 50
abbrev N_law : List Str := ["_law_script", "_law_hand_here", "_law_bottom", "_law_rows_here", "_law_kind"]
abbrev P_law : List Str := ["_law_script"]
theorem sc_law : FnScope N_law P_law (defScope s_law) := ⟨rfl, rfl, rfl, by decide +kernel, rfl, by decide +kernel, by decide +kernel⟩
/-! ### what the top has left -/
structure Adr where
  a_is_integer : Addr
  d_is_integer : FuncData
  a_is_integer_from : Addr
  d_is_integer_from : FuncData
  a_is_number_below : Addr
  d_is_number_below : FuncData
  a_is_tuple_of : Addr
  d_is_tuple_of : FuncData
  a_is_bucket : Addr
  d_is_bucket : FuncData
  a_Buckets___init__ : Addr
  d_Buckets___init__ : FuncData
  a_Buckets___eq__ : Addr
  d_Buckets___eq__ : FuncData
  a_check_kind : Addr
  d_check_kind : FuncData
  a_most_of : Addr
  d_most_of : FuncData
  a_most_together : Addr
  d_most_together : FuncData
  a_rows_of : Addr
  d_rows_of : FuncData
  a_tops_of : Addr
  d_tops_of : FuncData
  a_sends : Addr
  d_sends : FuncData
  a_soonest : Addr
  d_soonest : FuncData
  a_is_boundless : Addr
  d_is_boundless : FuncData
  a_longest_wait : Addr
  d_longest_wait : FuncData
  a_greatest_wait : Addr
  d_greatest_wait : FuncData
  a_worst_stream_for : Addr
  d_worst_stream_for : FuncData
  a_law_hand : Addr
  d_law_hand : FuncData
  a_law_draw : Addr
  d_law_draw : FuncData
  a_law_pick : Addr
  d_law_pick : FuncData
  a_law_same : Addr
  d_law_same : FuncData
  a_law_rows : Addr
  d_law_rows : FuncData
  a_law_sent : Addr
  d_law_sent : FuncData
  a_law_stream : Addr
  d_law_stream : FuncData
  a_law_thinned : Addr
  d_law_thinned : FuncData
  a_law_breach : Addr
  d_law_breach : FuncData
  a_law_played : Addr
  d_law_played : FuncData
  a_law_reach : Addr
  d_law_reach : FuncData
  a_law_wait : Addr
  d_law_wait : FuncData
  a_law_lots : Addr
  d_law_lots : FuncData
  a_law_all : Addr
  d_law_all : FuncData
  a_law_word : Addr
  d_law_word : FuncData
  a_law_longest : Addr
  d_law_longest : FuncData
  a_law_small_right : Addr
  d_law_small_right : FuncData
  a_law_kind_right : Addr
  d_law_kind_right : FuncData
  a_law : Addr
  d_law : FuncData
  c_Buckets : Addr
  c_FabricError : Addr
  c_NoCell : Addr
  c_Boundless : Addr
  cd_law_kind_right : Addr
  tb_law_kind_right : Addr
structure Top (K : PySem.W.Frag) (mg : Str → Option Value) (A : Adr) : Prop where
  F_is_integer : Fun K "is_integer" "is_integer" s_is_integer A.a_is_integer A.d_is_integer
  g_is_integer : mg "is_integer" = some (.ref A.a_is_integer)
  b_is_integer : Binds K A.d_is_integer P_is_integer []
  F_is_integer_from : Fun K "is_integer_from" "is_integer_from" s_is_integer_from A.a_is_integer_from A.d_is_integer_from
  g_is_integer_from : mg "is_integer_from" = some (.ref A.a_is_integer_from)
  b_is_integer_from : Binds K A.d_is_integer_from P_is_integer_from []
  F_is_number_below : Fun K "is_number_below" "is_number_below" s_is_number_below A.a_is_number_below A.d_is_number_below
  g_is_number_below : mg "is_number_below" = some (.ref A.a_is_number_below)
  b_is_number_below : Binds K A.d_is_number_below P_is_number_below []
  F_is_tuple_of : Fun K "is_tuple_of" "is_tuple_of" s_is_tuple_of A.a_is_tuple_of A.d_is_tuple_of
  g_is_tuple_of : mg "is_tuple_of" = some (.ref A.a_is_tuple_of)
  b_is_tuple_of : Binds K A.d_is_tuple_of P_is_tuple_of []
  F_is_bucket : Fun K "is_bucket" "is_bucket" s_is_bucket A.a_is_bucket A.d_is_bucket
  g_is_bucket : mg "is_bucket" = some (.ref A.a_is_bucket)
  b_is_bucket : Binds K A.d_is_bucket P_is_bucket []
  F_Buckets___init__ : Fun K "__init__" "Buckets.__init__" s_Buckets___init__ A.a_Buckets___init__ A.d_Buckets___init__
  b_Buckets___init__ : Binds K A.d_Buckets___init__ P_Buckets___init__ []
  F_Buckets___eq__ : Fun K "__eq__" "Buckets.__eq__" s_Buckets___eq__ A.a_Buckets___eq__ A.d_Buckets___eq__
  b_Buckets___eq__ : Binds K A.d_Buckets___eq__ P_Buckets___eq__ []
  F_check_kind : Fun K "check_kind" "check_kind" s_check_kind A.a_check_kind A.d_check_kind
  g_check_kind : mg "check_kind" = some (.ref A.a_check_kind)
  b_check_kind : Binds K A.d_check_kind P_check_kind []
  F_most_of : Fun K "most_of" "most_of" s_most_of A.a_most_of A.d_most_of
  g_most_of : mg "most_of" = some (.ref A.a_most_of)
  b_most_of : Binds K A.d_most_of P_most_of []
  F_most_together : Fun K "most_together" "most_together" s_most_together A.a_most_together A.d_most_together
  g_most_together : mg "most_together" = some (.ref A.a_most_together)
  b_most_together : Binds K A.d_most_together P_most_together []
  F_rows_of : Fun K "rows_of" "rows_of" s_rows_of A.a_rows_of A.d_rows_of
  g_rows_of : mg "rows_of" = some (.ref A.a_rows_of)
  b_rows_of : Binds K A.d_rows_of P_rows_of []
  F_tops_of : Fun K "tops_of" "tops_of" s_tops_of A.a_tops_of A.d_tops_of
  g_tops_of : mg "tops_of" = some (.ref A.a_tops_of)
  b_tops_of : Binds K A.d_tops_of P_tops_of []
  F_sends : Fun K "sends" "sends" s_sends A.a_sends A.d_sends
  g_sends : mg "sends" = some (.ref A.a_sends)
  b_sends : Binds K A.d_sends P_sends []
  F_soonest : Fun K "soonest" "soonest" s_soonest A.a_soonest A.d_soonest
  g_soonest : mg "soonest" = some (.ref A.a_soonest)
  b_soonest : Binds K A.d_soonest P_soonest []
  F_is_boundless : Fun K "is_boundless" "is_boundless" s_is_boundless A.a_is_boundless A.d_is_boundless
  g_is_boundless : mg "is_boundless" = some (.ref A.a_is_boundless)
  b_is_boundless : Binds K A.d_is_boundless P_is_boundless []
  F_longest_wait : Fun K "longest_wait" "longest_wait" s_longest_wait A.a_longest_wait A.d_longest_wait
  g_longest_wait : mg "longest_wait" = some (.ref A.a_longest_wait)
  b_longest_wait : Binds K A.d_longest_wait P_longest_wait []
  F_greatest_wait : Fun K "greatest_wait" "greatest_wait" s_greatest_wait A.a_greatest_wait A.d_greatest_wait
  g_greatest_wait : mg "greatest_wait" = some (.ref A.a_greatest_wait)
  b_greatest_wait : Binds K A.d_greatest_wait P_greatest_wait []
  F_worst_stream_for : Fun K "worst_stream_for" "worst_stream_for" s_worst_stream_for A.a_worst_stream_for A.d_worst_stream_for
  g_worst_stream_for : mg "worst_stream_for" = some (.ref A.a_worst_stream_for)
  b_worst_stream_for : Binds K A.d_worst_stream_for P_worst_stream_for []
  F_law_hand : Fun K "_law_hand" "_law_hand" s_law_hand A.a_law_hand A.d_law_hand
  g_law_hand : mg "_law_hand" = some (.ref A.a_law_hand)
  b_law_hand : Binds K A.d_law_hand P_law_hand []
  F_law_draw : Fun K "_law_draw" "_law_draw" s_law_draw A.a_law_draw A.d_law_draw
  g_law_draw : mg "_law_draw" = some (.ref A.a_law_draw)
  b_law_draw : Binds K A.d_law_draw P_law_draw []
  F_law_pick : Fun K "_law_pick" "_law_pick" s_law_pick A.a_law_pick A.d_law_pick
  g_law_pick : mg "_law_pick" = some (.ref A.a_law_pick)
  b_law_pick : Binds K A.d_law_pick P_law_pick []
  F_law_same : Fun K "_law_same" "_law_same" s_law_same A.a_law_same A.d_law_same
  g_law_same : mg "_law_same" = some (.ref A.a_law_same)
  b_law_same : Binds K A.d_law_same P_law_same []
  F_law_rows : Fun K "_law_rows" "_law_rows" s_law_rows A.a_law_rows A.d_law_rows
  g_law_rows : mg "_law_rows" = some (.ref A.a_law_rows)
  b_law_rows : Binds K A.d_law_rows P_law_rows []
  F_law_sent : Fun K "_law_sent" "_law_sent" s_law_sent A.a_law_sent A.d_law_sent
  g_law_sent : mg "_law_sent" = some (.ref A.a_law_sent)
  b_law_sent : Binds K A.d_law_sent P_law_sent []
  F_law_stream : Fun K "_law_stream" "_law_stream" s_law_stream A.a_law_stream A.d_law_stream
  g_law_stream : mg "_law_stream" = some (.ref A.a_law_stream)
  b_law_stream : Binds K A.d_law_stream P_law_stream []
  F_law_thinned : Fun K "_law_thinned" "_law_thinned" s_law_thinned A.a_law_thinned A.d_law_thinned
  g_law_thinned : mg "_law_thinned" = some (.ref A.a_law_thinned)
  b_law_thinned : Binds K A.d_law_thinned P_law_thinned []
  F_law_breach : Fun K "_law_breach" "_law_breach" s_law_breach A.a_law_breach A.d_law_breach
  g_law_breach : mg "_law_breach" = some (.ref A.a_law_breach)
  b_law_breach : Binds K A.d_law_breach P_law_breach []
  F_law_played : Fun K "_law_played" "_law_played" s_law_played A.a_law_played A.d_law_played
  g_law_played : mg "_law_played" = some (.ref A.a_law_played)
  b_law_played : Binds K A.d_law_played P_law_played []
  F_law_reach : Fun K "_law_reach" "_law_reach" s_law_reach A.a_law_reach A.d_law_reach
  g_law_reach : mg "_law_reach" = some (.ref A.a_law_reach)
  b_law_reach : Binds K A.d_law_reach P_law_reach []
  F_law_wait : Fun K "_law_wait" "_law_wait" s_law_wait A.a_law_wait A.d_law_wait
  g_law_wait : mg "_law_wait" = some (.ref A.a_law_wait)
  b_law_wait : Binds K A.d_law_wait P_law_wait []
  F_law_lots : Fun K "_law_lots" "_law_lots" s_law_lots A.a_law_lots A.d_law_lots
  g_law_lots : mg "_law_lots" = some (.ref A.a_law_lots)
  b_law_lots : Binds K A.d_law_lots P_law_lots []
  F_law_all : Fun K "_law_all" "_law_all" s_law_all A.a_law_all A.d_law_all
  g_law_all : mg "_law_all" = some (.ref A.a_law_all)
  b_law_all : Binds K A.d_law_all P_law_all []
  F_law_word : Fun K "_law_word" "_law_word" s_law_word A.a_law_word A.d_law_word
  g_law_word : mg "_law_word" = some (.ref A.a_law_word)
  b_law_word : Binds K A.d_law_word P_law_word []
  F_law_longest : Fun K "_law_longest" "_law_longest" s_law_longest A.a_law_longest A.d_law_longest
  g_law_longest : mg "_law_longest" = some (.ref A.a_law_longest)
  b_law_longest : Binds K A.d_law_longest P_law_longest []
  F_law_small_right : Fun K "_law_small_right" "_law_small_right" s_law_small_right A.a_law_small_right A.d_law_small_right
  g_law_small_right : mg "_law_small_right" = some (.ref A.a_law_small_right)
  b_law_small_right : Binds K A.d_law_small_right P_law_small_right []
  F_law_kind_right : Fun K "_law_kind_right" "_law_kind_right" s_law_kind_right A.a_law_kind_right A.d_law_kind_right
  g_law_kind_right : mg "_law_kind_right" = some (.ref A.a_law_kind_right)
  b_law_kind_right : Binds K A.d_law_kind_right P_law_kind_right []
  F_law : Fun K "law" "law" s_law A.a_law A.d_law
  g_law : mg "law" = some (.ref A.a_law)
  b_law : Binds K A.d_law P_law []
  cl_Buckets : Cls K A.c_Buckets
  gc_Buckets : mg "Buckets" = some (.ref A.c_Buckets)
  mk_Buckets : Mk K A.c_Buckets A.a_Buckets___init__
  m_Buckets___eq__ : Meth K A.c_Buckets "__eq__" A.a_Buckets___eq__
  n_Buckets_bottom : NoAttr K A.c_Buckets "bottom"
  n_Buckets_rows : NoAttr K A.c_Buckets "rows"
  eo_Buckets : GO.EqO K A.c_Buckets A.a_Buckets___eq__
  gc_FabricError : mg "FabricError" = some (.ref A.c_FabricError)
  gc_NoCell : mg "NoCell" = some (.ref A.c_NoCell)
  gc_Boundless : mg "Boundless" = some (.ref A.c_Boundless)
  x_Boundless : PySem.W.excIn K A.c_Boundless [.type "ValueError", .type "Exception", .type "BaseException", .type "object"] "ValueError.__new__" = true
  kp_Boundless : PySem.W.keepIn K (.ref A.c_Boundless) = true
  s_Boundless : PySem.W.subIn K (.ref A.c_Boundless) (.type "BaseException") = some true
  t_Boundless : PySem.W.typeIn K (.ref A.c_Boundless) = some (.type "type")
  e1_Boundless : PySem.W.findIn K (.ref A.c_Boundless) "__getattribute__" = some (some (.builtin "BaseException.__getattribute__"))
  e2_Boundless : PySem.W.findIn K (.ref A.c_Boundless) "__getattr__" = some none
  e3_Boundless : PySem.W.hasDictIn K A.c_Boundless = true
  e4_Boundless : PySem.W.findIn K (.ref A.c_Boundless) "__class__" = some (some (.builtin "object.__class__"))
  e5_Boundless : PySem.W.mroIn K A.c_Boundless (.type "object") = some true
  x_NoCell : PySem.W.excIn K A.c_NoCell [.type "ValueError", .type "Exception", .type "BaseException", .type "object"] "ValueError.__new__" = true
  kp_NoCell : PySem.W.keepIn K (.ref A.c_NoCell) = true
  s_NoCell : PySem.W.subIn K (.ref A.c_NoCell) (.type "BaseException") = some true
  t_NoCell : PySem.W.typeIn K (.ref A.c_NoCell) = some (.type "type")
  e1_NoCell : PySem.W.findIn K (.ref A.c_NoCell) "__getattribute__" = some (some (.builtin "BaseException.__getattribute__"))
  e2_NoCell : PySem.W.findIn K (.ref A.c_NoCell) "__getattr__" = some none
  e3_NoCell : PySem.W.hasDictIn K A.c_NoCell = true
  e4_NoCell : PySem.W.findIn K (.ref A.c_NoCell) "__class__" = some (some (.builtin "object.__class__"))
  e5_NoCell : PySem.W.mroIn K A.c_NoCell (.type "object") = some true
  ki_Buckets_int : PySem.W.kitOne K (.ref A.c_Buckets) (.type "int") = some false
  ki_Buckets_bool : PySem.W.kitOne K (.ref A.c_Buckets) (.type "bool") = some false
  ki_Buckets_tuple : PySem.W.kitOne K (.ref A.c_Buckets) (.type "tuple") = some false
  tt_Buckets : PySem.W.typeIn K (.ref A.c_Buckets) = some (.type "type")
  ci_Buckets : PySem.W.findIn K (.ref A.c_Buckets) "__class__" = some (some (.builtin "object.__class__"))
  em_Buckets : PySem.W.mroIn K A.c_Buckets (.type "object") = some true
  en1 : PySem.W.specialIn K (.builtin "object.__class__") "__get__" = some (some (.builtin "getset_descriptor.__get__"))
  en2 : PySem.W.takesIn K (.builtin "object.__class__") = some true
  kt_Boundless_FabricError : PySem.W.kitOne K (.ref A.c_Boundless) (.ref A.c_FabricError) = some true
  xm_Boundless_FabricError : PySem.W.exmOne K (.ref A.c_Boundless) (.ref A.c_FabricError) = some true
  kt_Boundless_Boundless : PySem.W.kitOne K (.ref A.c_Boundless) (.ref A.c_Boundless) = some true
  xm_Boundless_Boundless : PySem.W.exmOne K (.ref A.c_Boundless) (.ref A.c_Boundless) = some true
  kt_Boundless_NoCell : PySem.W.kitOne K (.ref A.c_Boundless) (.ref A.c_NoCell) = some false
  xm_Boundless_NoCell : PySem.W.exmOne K (.ref A.c_Boundless) (.ref A.c_NoCell) = some false
  kt_NoCell_FabricError : PySem.W.kitOne K (.ref A.c_NoCell) (.ref A.c_FabricError) = some true
  xm_NoCell_FabricError : PySem.W.exmOne K (.ref A.c_NoCell) (.ref A.c_FabricError) = some true
  kt_NoCell_Boundless : PySem.W.kitOne K (.ref A.c_NoCell) (.ref A.c_Boundless) = some false
  xm_NoCell_Boundless : PySem.W.exmOne K (.ref A.c_NoCell) (.ref A.c_Boundless) = some false
  kt_NoCell_NoCell : PySem.W.kitOne K (.ref A.c_NoCell) (.ref A.c_NoCell) = some true
  xm_NoCell_NoCell : PySem.W.exmOne K (.ref A.c_NoCell) (.ref A.c_NoCell) = some true
  L_law_kind_right : GX.FunC K "_law_kind_right" "_law_kind_right" s_law_kind_right A.a_law_kind_right A.d_law_kind_right A.cd_law_kind_right
  k_MOST_LINES : ∃ t, mg "MOST_LINES" = some (.int 12 t)
  k_KINDS : ∃ t, mg "KINDS" = some (.int 8 t)
  k_GREATEST_BOTTOM : ∃ t, mg "GREATEST_BOTTOM" = some (.int 20 t)
  k_GREATEST_BURST : ∃ t, mg "GREATEST_BURST" = some (.int 20 t)
  k_LONGEST : ∃ t, mg "LONGEST" = some (.int 420 t)
  z_abs : mg "abs" = none
  z_all : mg "all" = none
  z_any : mg "any" = none
  z_bool : mg "bool" = none
  z_enumerate : mg "enumerate" = none
  z_int : mg "int" = none
  z_isinstance : mg "isinstance" = none
  z_len : mg "len" = none
  z_list : mg "list" = none
  z_max : mg "max" = none
  z_min : mg "min" = none
  z_range : mg "range" = none
  z_sorted : mg "sorted" = none
  z_sum : mg "sum" = none
  z_tuple : mg "tuple" = none
  z_zip : mg "zip" = none
abbrev qlam_law_kind_right : Str := (("_law_kind_right" : Str) ++ (".<locals>." : Str)) ++ ("<lambda>" : Str)
structure Tbs (base : Heap) (mg : Str → Option Value) (A : Adr) : Prop where
  t_law_kind_right : LamX.TabB base mg A.cd_law_kind_right A.tb_law_kind_right
theorem top_mk {l : PySem.W.OpenLaw} {w : World} {K : PySem.W.Frag} {h : Heap} {mg : Str → Option Value} (X : K.In h) (G : h.Ns mainGlobals mg)
    {f_is_integer : Addr} {od_is_integer an_is_integer : Option Addr} {sl_is_integer : Array (Option Value)} {oc_is_integer kV_is_integer dc_is_integer pm_is_integer cd_is_integer ct_is_integer : Value}
    {f_is_integer_from : Addr} {od_is_integer_from an_is_integer_from : Option Addr} {sl_is_integer_from : Array (Option Value)} {oc_is_integer_from kV_is_integer_from dc_is_integer_from pm_is_integer_from cd_is_integer_from ct_is_integer_from : Value}
    {f_is_number_below : Addr} {od_is_number_below an_is_number_below : Option Addr} {sl_is_number_below : Array (Option Value)} {oc_is_number_below kV_is_number_below dc_is_number_below pm_is_number_below cd_is_number_below ct_is_number_below : Value}
    {f_is_tuple_of : Addr} {od_is_tuple_of an_is_tuple_of : Option Addr} {sl_is_tuple_of : Array (Option Value)} {oc_is_tuple_of kV_is_tuple_of dc_is_tuple_of pm_is_tuple_of cd_is_tuple_of ct_is_tuple_of : Value}
    {f_is_bucket : Addr} {od_is_bucket an_is_bucket : Option Addr} {sl_is_bucket : Array (Option Value)} {oc_is_bucket kV_is_bucket dc_is_bucket pm_is_bucket cd_is_bucket ct_is_bucket : Value}
    {f_Buckets___init__ : Addr} {od_Buckets___init__ an_Buckets___init__ : Option Addr} {sl_Buckets___init__ : Array (Option Value)} {oc_Buckets___init__ kV_Buckets___init__ dc_Buckets___init__ pm_Buckets___init__ cd_Buckets___init__ ct_Buckets___init__ : Value}
    {f_Buckets___eq__ : Addr} {od_Buckets___eq__ an_Buckets___eq__ : Option Addr} {sl_Buckets___eq__ : Array (Option Value)} {oc_Buckets___eq__ kV_Buckets___eq__ dc_Buckets___eq__ pm_Buckets___eq__ cd_Buckets___eq__ ct_Buckets___eq__ : Value}
    {f_check_kind : Addr} {od_check_kind an_check_kind : Option Addr} {sl_check_kind : Array (Option Value)} {oc_check_kind kV_check_kind dc_check_kind pm_check_kind cd_check_kind ct_check_kind : Value}
    {f_most_of : Addr} {od_most_of an_most_of : Option Addr} {sl_most_of : Array (Option Value)} {oc_most_of kV_most_of dc_most_of pm_most_of cd_most_of ct_most_of : Value}
    {f_most_together : Addr} {od_most_together an_most_together : Option Addr} {sl_most_together : Array (Option Value)} {oc_most_together kV_most_together dc_most_together pm_most_together cd_most_together ct_most_together : Value}
    {f_rows_of : Addr} {od_rows_of an_rows_of : Option Addr} {sl_rows_of : Array (Option Value)} {oc_rows_of kV_rows_of dc_rows_of pm_rows_of cd_rows_of ct_rows_of : Value}
    {f_tops_of : Addr} {od_tops_of an_tops_of : Option Addr} {sl_tops_of : Array (Option Value)} {oc_tops_of kV_tops_of dc_tops_of pm_tops_of cd_tops_of ct_tops_of : Value}
    {f_sends : Addr} {od_sends an_sends : Option Addr} {sl_sends : Array (Option Value)} {oc_sends kV_sends dc_sends pm_sends cd_sends ct_sends : Value}
    {f_soonest : Addr} {od_soonest an_soonest : Option Addr} {sl_soonest : Array (Option Value)} {oc_soonest kV_soonest dc_soonest pm_soonest cd_soonest ct_soonest : Value}
    {f_is_boundless : Addr} {od_is_boundless an_is_boundless : Option Addr} {sl_is_boundless : Array (Option Value)} {oc_is_boundless kV_is_boundless dc_is_boundless pm_is_boundless cd_is_boundless ct_is_boundless : Value}
    {f_longest_wait : Addr} {od_longest_wait an_longest_wait : Option Addr} {sl_longest_wait : Array (Option Value)} {oc_longest_wait kV_longest_wait dc_longest_wait pm_longest_wait cd_longest_wait ct_longest_wait : Value}
    {f_greatest_wait : Addr} {od_greatest_wait an_greatest_wait : Option Addr} {sl_greatest_wait : Array (Option Value)} {oc_greatest_wait kV_greatest_wait dc_greatest_wait pm_greatest_wait cd_greatest_wait ct_greatest_wait : Value}
    {f_worst_stream_for : Addr} {od_worst_stream_for an_worst_stream_for : Option Addr} {sl_worst_stream_for : Array (Option Value)} {oc_worst_stream_for kV_worst_stream_for dc_worst_stream_for pm_worst_stream_for cd_worst_stream_for ct_worst_stream_for : Value}
    {f_law_hand : Addr} {od_law_hand an_law_hand : Option Addr} {sl_law_hand : Array (Option Value)} {oc_law_hand kV_law_hand dc_law_hand pm_law_hand cd_law_hand ct_law_hand : Value}
    {f_law_draw : Addr} {od_law_draw an_law_draw : Option Addr} {sl_law_draw : Array (Option Value)} {oc_law_draw kV_law_draw dc_law_draw pm_law_draw cd_law_draw ct_law_draw : Value}
    {f_law_pick : Addr} {od_law_pick an_law_pick : Option Addr} {sl_law_pick : Array (Option Value)} {oc_law_pick kV_law_pick dc_law_pick pm_law_pick cd_law_pick ct_law_pick : Value}
    {f_law_same : Addr} {od_law_same an_law_same : Option Addr} {sl_law_same : Array (Option Value)} {oc_law_same kV_law_same dc_law_same pm_law_same cd_law_same ct_law_same : Value}
    {f_law_rows : Addr} {od_law_rows an_law_rows : Option Addr} {sl_law_rows : Array (Option Value)} {oc_law_rows kV_law_rows dc_law_rows pm_law_rows cd_law_rows ct_law_rows : Value}
    {f_law_sent : Addr} {od_law_sent an_law_sent : Option Addr} {sl_law_sent : Array (Option Value)} {oc_law_sent kV_law_sent dc_law_sent pm_law_sent cd_law_sent ct_law_sent : Value}
    {f_law_stream : Addr} {od_law_stream an_law_stream : Option Addr} {sl_law_stream : Array (Option Value)} {oc_law_stream kV_law_stream dc_law_stream pm_law_stream cd_law_stream ct_law_stream : Value}
    {f_law_thinned : Addr} {od_law_thinned an_law_thinned : Option Addr} {sl_law_thinned : Array (Option Value)} {oc_law_thinned kV_law_thinned dc_law_thinned pm_law_thinned cd_law_thinned ct_law_thinned : Value}
    {f_law_breach : Addr} {od_law_breach an_law_breach : Option Addr} {sl_law_breach : Array (Option Value)} {oc_law_breach kV_law_breach dc_law_breach pm_law_breach cd_law_breach ct_law_breach : Value}
    {f_law_played : Addr} {od_law_played an_law_played : Option Addr} {sl_law_played : Array (Option Value)} {oc_law_played kV_law_played dc_law_played pm_law_played cd_law_played ct_law_played : Value}
    {f_law_reach : Addr} {od_law_reach an_law_reach : Option Addr} {sl_law_reach : Array (Option Value)} {oc_law_reach kV_law_reach dc_law_reach pm_law_reach cd_law_reach ct_law_reach : Value}
    {f_law_wait : Addr} {od_law_wait an_law_wait : Option Addr} {sl_law_wait : Array (Option Value)} {oc_law_wait kV_law_wait dc_law_wait pm_law_wait cd_law_wait ct_law_wait : Value}
    {f_law_lots : Addr} {od_law_lots an_law_lots : Option Addr} {sl_law_lots : Array (Option Value)} {oc_law_lots kV_law_lots dc_law_lots pm_law_lots cd_law_lots ct_law_lots : Value}
    {f_law_all : Addr} {od_law_all an_law_all : Option Addr} {sl_law_all : Array (Option Value)} {oc_law_all kV_law_all dc_law_all pm_law_all cd_law_all ct_law_all : Value}
    {f_law_word : Addr} {od_law_word an_law_word : Option Addr} {sl_law_word : Array (Option Value)} {oc_law_word kV_law_word dc_law_word pm_law_word cd_law_word ct_law_word : Value}
    {f_law_longest : Addr} {od_law_longest an_law_longest : Option Addr} {sl_law_longest : Array (Option Value)} {oc_law_longest kV_law_longest dc_law_longest pm_law_longest cd_law_longest ct_law_longest : Value}
    {f_law_small_right : Addr} {od_law_small_right an_law_small_right : Option Addr} {sl_law_small_right : Array (Option Value)} {oc_law_small_right kV_law_small_right dc_law_small_right pm_law_small_right cd_law_small_right ct_law_small_right : Value}
    {f_law_kind_right : Addr} {od_law_kind_right an_law_kind_right : Option Addr} {sl_law_kind_right : Array (Option Value)} {oc_law_kind_right kV_law_kind_right dc_law_kind_right pm_law_kind_right ct_law_kind_right : Value}
    {f_law : Addr} {od_law an_law : Option Addr} {sl_law : Array (Option Value)} {oc_law kV_law dc_law pm_law cd_law ct_law : Value}
    {c_Buckets : Addr}
    {c_FabricError : Addr}
    {c_NoCell : Addr}
    {c_Boundless : Addr}
    {co_law_kind_right tb_law_kind_right : Addr}
    {t_MOST_LINES : Tok}
    {t_KINDS : Tok}
    {t_GREATEST_BOTTOM : Tok}
    {t_GREATEST_BURST : Tok}
    {t_LONGEST : Tok}
    (ac_Buckets : PySem.W.nsIn K mainGlobals "Buckets" = some (some (.ref c_Buckets)))
    (ac_FabricError : PySem.W.nsIn K mainGlobals "FabricError" = some (some (.ref c_FabricError)))
    (ac_NoCell : PySem.W.nsIn K mainGlobals "NoCell" = some (some (.ref c_NoCell)))
    (ac_Boundless : PySem.W.nsIn K mainGlobals "Boundless" = some (some (.ref c_Boundless)))
    (a_is_integer : PySem.W.nsIn K mainGlobals "is_integer" = some (some (.ref f_is_integer)))
    (l_is_integer : K.lookup f_is_integer = some ⟨oc_is_integer, od_is_integer, .func (PySem.W.fnOf "is_integer" "is_integer" (defArgs s_is_integer) (defBody s_is_integer) (defScope s_is_integer) .none kV_is_integer dc_is_integer pm_is_integer an_is_integer cd_is_integer ct_is_integer), sl_is_integer⟩)
    (q_is_integer : PySem.W.codeIn K cd_is_integer "is_integer" = true)
    (p_is_integer : PySem.W.keepIn K (.ref f_is_integer) = true)
    (a_is_integer_from : PySem.W.nsIn K mainGlobals "is_integer_from" = some (some (.ref f_is_integer_from)))
    (l_is_integer_from : K.lookup f_is_integer_from = some ⟨oc_is_integer_from, od_is_integer_from, .func (PySem.W.fnOf "is_integer_from" "is_integer_from" (defArgs s_is_integer_from) (defBody s_is_integer_from) (defScope s_is_integer_from) .none kV_is_integer_from dc_is_integer_from pm_is_integer_from an_is_integer_from cd_is_integer_from ct_is_integer_from), sl_is_integer_from⟩)
    (q_is_integer_from : PySem.W.codeIn K cd_is_integer_from "is_integer_from" = true)
    (p_is_integer_from : PySem.W.keepIn K (.ref f_is_integer_from) = true)
    (a_is_number_below : PySem.W.nsIn K mainGlobals "is_number_below" = some (some (.ref f_is_number_below)))
    (l_is_number_below : K.lookup f_is_number_below = some ⟨oc_is_number_below, od_is_number_below, .func (PySem.W.fnOf "is_number_below" "is_number_below" (defArgs s_is_number_below) (defBody s_is_number_below) (defScope s_is_number_below) .none kV_is_number_below dc_is_number_below pm_is_number_below an_is_number_below cd_is_number_below ct_is_number_below), sl_is_number_below⟩)
    (q_is_number_below : PySem.W.codeIn K cd_is_number_below "is_number_below" = true)
    (p_is_number_below : PySem.W.keepIn K (.ref f_is_number_below) = true)
    (a_is_tuple_of : PySem.W.nsIn K mainGlobals "is_tuple_of" = some (some (.ref f_is_tuple_of)))
    (l_is_tuple_of : K.lookup f_is_tuple_of = some ⟨oc_is_tuple_of, od_is_tuple_of, .func (PySem.W.fnOf "is_tuple_of" "is_tuple_of" (defArgs s_is_tuple_of) (defBody s_is_tuple_of) (defScope s_is_tuple_of) .none kV_is_tuple_of dc_is_tuple_of pm_is_tuple_of an_is_tuple_of cd_is_tuple_of ct_is_tuple_of), sl_is_tuple_of⟩)
    (q_is_tuple_of : PySem.W.codeIn K cd_is_tuple_of "is_tuple_of" = true)
    (p_is_tuple_of : PySem.W.keepIn K (.ref f_is_tuple_of) = true)
    (a_is_bucket : PySem.W.nsIn K mainGlobals "is_bucket" = some (some (.ref f_is_bucket)))
    (l_is_bucket : K.lookup f_is_bucket = some ⟨oc_is_bucket, od_is_bucket, .func (PySem.W.fnOf "is_bucket" "is_bucket" (defArgs s_is_bucket) (defBody s_is_bucket) (defScope s_is_bucket) .none kV_is_bucket dc_is_bucket pm_is_bucket an_is_bucket cd_is_bucket ct_is_bucket), sl_is_bucket⟩)
    (q_is_bucket : PySem.W.codeIn K cd_is_bucket "is_bucket" = true)
    (p_is_bucket : PySem.W.keepIn K (.ref f_is_bucket) = true)
    (a_Buckets___init__ : PySem.W.findIn K (.ref c_Buckets) "__init__" = some (some (.ref f_Buckets___init__)))
    (i_Buckets___init__ : PySem.W.isFn K (.ref f_Buckets___init__) = true)
    (l_Buckets___init__ : K.lookup f_Buckets___init__ = some ⟨oc_Buckets___init__, od_Buckets___init__, .func (PySem.W.fnOf "__init__" "Buckets.__init__" (defArgs s_Buckets___init__) (defBody s_Buckets___init__) (defScope s_Buckets___init__) .none kV_Buckets___init__ dc_Buckets___init__ pm_Buckets___init__ an_Buckets___init__ cd_Buckets___init__ ct_Buckets___init__), sl_Buckets___init__⟩)
    (q_Buckets___init__ : PySem.W.codeIn K cd_Buckets___init__ "Buckets.__init__" = true)
    (p_Buckets___init__ : PySem.W.keepIn K (.ref f_Buckets___init__) = true)
    (a_Buckets___eq__ : PySem.W.findIn K (.ref c_Buckets) "__eq__" = some (some (.ref f_Buckets___eq__)))
    (i_Buckets___eq__ : PySem.W.isFn K (.ref f_Buckets___eq__) = true)
    (l_Buckets___eq__ : K.lookup f_Buckets___eq__ = some ⟨oc_Buckets___eq__, od_Buckets___eq__, .func (PySem.W.fnOf "__eq__" "Buckets.__eq__" (defArgs s_Buckets___eq__) (defBody s_Buckets___eq__) (defScope s_Buckets___eq__) .none kV_Buckets___eq__ dc_Buckets___eq__ pm_Buckets___eq__ an_Buckets___eq__ cd_Buckets___eq__ ct_Buckets___eq__), sl_Buckets___eq__⟩)
    (q_Buckets___eq__ : PySem.W.codeIn K cd_Buckets___eq__ "Buckets.__eq__" = true)
    (p_Buckets___eq__ : PySem.W.keepIn K (.ref f_Buckets___eq__) = true)
    (a_check_kind : PySem.W.nsIn K mainGlobals "check_kind" = some (some (.ref f_check_kind)))
    (l_check_kind : K.lookup f_check_kind = some ⟨oc_check_kind, od_check_kind, .func (PySem.W.fnOf "check_kind" "check_kind" (defArgs s_check_kind) (defBody s_check_kind) (defScope s_check_kind) .none kV_check_kind dc_check_kind pm_check_kind an_check_kind cd_check_kind ct_check_kind), sl_check_kind⟩)
    (q_check_kind : PySem.W.codeIn K cd_check_kind "check_kind" = true)
    (p_check_kind : PySem.W.keepIn K (.ref f_check_kind) = true)
    (a_most_of : PySem.W.nsIn K mainGlobals "most_of" = some (some (.ref f_most_of)))
    (l_most_of : K.lookup f_most_of = some ⟨oc_most_of, od_most_of, .func (PySem.W.fnOf "most_of" "most_of" (defArgs s_most_of) (defBody s_most_of) (defScope s_most_of) .none kV_most_of dc_most_of pm_most_of an_most_of cd_most_of ct_most_of), sl_most_of⟩)
    (q_most_of : PySem.W.codeIn K cd_most_of "most_of" = true)
    (p_most_of : PySem.W.keepIn K (.ref f_most_of) = true)
    (a_most_together : PySem.W.nsIn K mainGlobals "most_together" = some (some (.ref f_most_together)))
    (l_most_together : K.lookup f_most_together = some ⟨oc_most_together, od_most_together, .func (PySem.W.fnOf "most_together" "most_together" (defArgs s_most_together) (defBody s_most_together) (defScope s_most_together) .none kV_most_together dc_most_together pm_most_together an_most_together cd_most_together ct_most_together), sl_most_together⟩)
    (q_most_together : PySem.W.codeIn K cd_most_together "most_together" = true)
    (p_most_together : PySem.W.keepIn K (.ref f_most_together) = true)
    (a_rows_of : PySem.W.nsIn K mainGlobals "rows_of" = some (some (.ref f_rows_of)))
    (l_rows_of : K.lookup f_rows_of = some ⟨oc_rows_of, od_rows_of, .func (PySem.W.fnOf "rows_of" "rows_of" (defArgs s_rows_of) (defBody s_rows_of) (defScope s_rows_of) .none kV_rows_of dc_rows_of pm_rows_of an_rows_of cd_rows_of ct_rows_of), sl_rows_of⟩)
    (q_rows_of : PySem.W.codeIn K cd_rows_of "rows_of" = true)
    (p_rows_of : PySem.W.keepIn K (.ref f_rows_of) = true)
    (a_tops_of : PySem.W.nsIn K mainGlobals "tops_of" = some (some (.ref f_tops_of)))
    (l_tops_of : K.lookup f_tops_of = some ⟨oc_tops_of, od_tops_of, .func (PySem.W.fnOf "tops_of" "tops_of" (defArgs s_tops_of) (defBody s_tops_of) (defScope s_tops_of) .none kV_tops_of dc_tops_of pm_tops_of an_tops_of cd_tops_of ct_tops_of), sl_tops_of⟩)
    (q_tops_of : PySem.W.codeIn K cd_tops_of "tops_of" = true)
    (p_tops_of : PySem.W.keepIn K (.ref f_tops_of) = true)
    (a_sends : PySem.W.nsIn K mainGlobals "sends" = some (some (.ref f_sends)))
    (l_sends : K.lookup f_sends = some ⟨oc_sends, od_sends, .func (PySem.W.fnOf "sends" "sends" (defArgs s_sends) (defBody s_sends) (defScope s_sends) .none kV_sends dc_sends pm_sends an_sends cd_sends ct_sends), sl_sends⟩)
    (q_sends : PySem.W.codeIn K cd_sends "sends" = true)
    (p_sends : PySem.W.keepIn K (.ref f_sends) = true)
    (a_soonest : PySem.W.nsIn K mainGlobals "soonest" = some (some (.ref f_soonest)))
    (l_soonest : K.lookup f_soonest = some ⟨oc_soonest, od_soonest, .func (PySem.W.fnOf "soonest" "soonest" (defArgs s_soonest) (defBody s_soonest) (defScope s_soonest) .none kV_soonest dc_soonest pm_soonest an_soonest cd_soonest ct_soonest), sl_soonest⟩)
    (q_soonest : PySem.W.codeIn K cd_soonest "soonest" = true)
    (p_soonest : PySem.W.keepIn K (.ref f_soonest) = true)
    (a_is_boundless : PySem.W.nsIn K mainGlobals "is_boundless" = some (some (.ref f_is_boundless)))
    (l_is_boundless : K.lookup f_is_boundless = some ⟨oc_is_boundless, od_is_boundless, .func (PySem.W.fnOf "is_boundless" "is_boundless" (defArgs s_is_boundless) (defBody s_is_boundless) (defScope s_is_boundless) .none kV_is_boundless dc_is_boundless pm_is_boundless an_is_boundless cd_is_boundless ct_is_boundless), sl_is_boundless⟩)
    (q_is_boundless : PySem.W.codeIn K cd_is_boundless "is_boundless" = true)
    (p_is_boundless : PySem.W.keepIn K (.ref f_is_boundless) = true)
    (a_longest_wait : PySem.W.nsIn K mainGlobals "longest_wait" = some (some (.ref f_longest_wait)))
    (l_longest_wait : K.lookup f_longest_wait = some ⟨oc_longest_wait, od_longest_wait, .func (PySem.W.fnOf "longest_wait" "longest_wait" (defArgs s_longest_wait) (defBody s_longest_wait) (defScope s_longest_wait) .none kV_longest_wait dc_longest_wait pm_longest_wait an_longest_wait cd_longest_wait ct_longest_wait), sl_longest_wait⟩)
    (q_longest_wait : PySem.W.codeIn K cd_longest_wait "longest_wait" = true)
    (p_longest_wait : PySem.W.keepIn K (.ref f_longest_wait) = true)
    (a_greatest_wait : PySem.W.nsIn K mainGlobals "greatest_wait" = some (some (.ref f_greatest_wait)))
    (l_greatest_wait : K.lookup f_greatest_wait = some ⟨oc_greatest_wait, od_greatest_wait, .func (PySem.W.fnOf "greatest_wait" "greatest_wait" (defArgs s_greatest_wait) (defBody s_greatest_wait) (defScope s_greatest_wait) .none kV_greatest_wait dc_greatest_wait pm_greatest_wait an_greatest_wait cd_greatest_wait ct_greatest_wait), sl_greatest_wait⟩)
    (q_greatest_wait : PySem.W.codeIn K cd_greatest_wait "greatest_wait" = true)
    (p_greatest_wait : PySem.W.keepIn K (.ref f_greatest_wait) = true)
    (a_worst_stream_for : PySem.W.nsIn K mainGlobals "worst_stream_for" = some (some (.ref f_worst_stream_for)))
    (l_worst_stream_for : K.lookup f_worst_stream_for = some ⟨oc_worst_stream_for, od_worst_stream_for, .func (PySem.W.fnOf "worst_stream_for" "worst_stream_for" (defArgs s_worst_stream_for) (defBody s_worst_stream_for) (defScope s_worst_stream_for) .none kV_worst_stream_for dc_worst_stream_for pm_worst_stream_for an_worst_stream_for cd_worst_stream_for ct_worst_stream_for), sl_worst_stream_for⟩)
    (q_worst_stream_for : PySem.W.codeIn K cd_worst_stream_for "worst_stream_for" = true)
    (p_worst_stream_for : PySem.W.keepIn K (.ref f_worst_stream_for) = true)
    (a_law_hand : PySem.W.nsIn K mainGlobals "_law_hand" = some (some (.ref f_law_hand)))
    (l_law_hand : K.lookup f_law_hand = some ⟨oc_law_hand, od_law_hand, .func (PySem.W.fnOf "_law_hand" "_law_hand" (defArgs s_law_hand) (defBody s_law_hand) (defScope s_law_hand) .none kV_law_hand dc_law_hand pm_law_hand an_law_hand cd_law_hand ct_law_hand), sl_law_hand⟩)
    (q_law_hand : PySem.W.codeIn K cd_law_hand "_law_hand" = true)
    (p_law_hand : PySem.W.keepIn K (.ref f_law_hand) = true)
    (a_law_draw : PySem.W.nsIn K mainGlobals "_law_draw" = some (some (.ref f_law_draw)))
    (l_law_draw : K.lookup f_law_draw = some ⟨oc_law_draw, od_law_draw, .func (PySem.W.fnOf "_law_draw" "_law_draw" (defArgs s_law_draw) (defBody s_law_draw) (defScope s_law_draw) .none kV_law_draw dc_law_draw pm_law_draw an_law_draw cd_law_draw ct_law_draw), sl_law_draw⟩)
    (q_law_draw : PySem.W.codeIn K cd_law_draw "_law_draw" = true)
    (p_law_draw : PySem.W.keepIn K (.ref f_law_draw) = true)
    (a_law_pick : PySem.W.nsIn K mainGlobals "_law_pick" = some (some (.ref f_law_pick)))
    (l_law_pick : K.lookup f_law_pick = some ⟨oc_law_pick, od_law_pick, .func (PySem.W.fnOf "_law_pick" "_law_pick" (defArgs s_law_pick) (defBody s_law_pick) (defScope s_law_pick) .none kV_law_pick dc_law_pick pm_law_pick an_law_pick cd_law_pick ct_law_pick), sl_law_pick⟩)
    (q_law_pick : PySem.W.codeIn K cd_law_pick "_law_pick" = true)
    (p_law_pick : PySem.W.keepIn K (.ref f_law_pick) = true)
    (a_law_same : PySem.W.nsIn K mainGlobals "_law_same" = some (some (.ref f_law_same)))
    (l_law_same : K.lookup f_law_same = some ⟨oc_law_same, od_law_same, .func (PySem.W.fnOf "_law_same" "_law_same" (defArgs s_law_same) (defBody s_law_same) (defScope s_law_same) .none kV_law_same dc_law_same pm_law_same an_law_same cd_law_same ct_law_same), sl_law_same⟩)
    (q_law_same : PySem.W.codeIn K cd_law_same "_law_same" = true)
    (p_law_same : PySem.W.keepIn K (.ref f_law_same) = true)
    (a_law_rows : PySem.W.nsIn K mainGlobals "_law_rows" = some (some (.ref f_law_rows)))
    (l_law_rows : K.lookup f_law_rows = some ⟨oc_law_rows, od_law_rows, .func (PySem.W.fnOf "_law_rows" "_law_rows" (defArgs s_law_rows) (defBody s_law_rows) (defScope s_law_rows) .none kV_law_rows dc_law_rows pm_law_rows an_law_rows cd_law_rows ct_law_rows), sl_law_rows⟩)
    (q_law_rows : PySem.W.codeIn K cd_law_rows "_law_rows" = true)
    (p_law_rows : PySem.W.keepIn K (.ref f_law_rows) = true)
    (a_law_sent : PySem.W.nsIn K mainGlobals "_law_sent" = some (some (.ref f_law_sent)))
    (l_law_sent : K.lookup f_law_sent = some ⟨oc_law_sent, od_law_sent, .func (PySem.W.fnOf "_law_sent" "_law_sent" (defArgs s_law_sent) (defBody s_law_sent) (defScope s_law_sent) .none kV_law_sent dc_law_sent pm_law_sent an_law_sent cd_law_sent ct_law_sent), sl_law_sent⟩)
    (q_law_sent : PySem.W.codeIn K cd_law_sent "_law_sent" = true)
    (p_law_sent : PySem.W.keepIn K (.ref f_law_sent) = true)
    (a_law_stream : PySem.W.nsIn K mainGlobals "_law_stream" = some (some (.ref f_law_stream)))
    (l_law_stream : K.lookup f_law_stream = some ⟨oc_law_stream, od_law_stream, .func (PySem.W.fnOf "_law_stream" "_law_stream" (defArgs s_law_stream) (defBody s_law_stream) (defScope s_law_stream) .none kV_law_stream dc_law_stream pm_law_stream an_law_stream cd_law_stream ct_law_stream), sl_law_stream⟩)
    (q_law_stream : PySem.W.codeIn K cd_law_stream "_law_stream" = true)
    (p_law_stream : PySem.W.keepIn K (.ref f_law_stream) = true)
    (a_law_thinned : PySem.W.nsIn K mainGlobals "_law_thinned" = some (some (.ref f_law_thinned)))
    (l_law_thinned : K.lookup f_law_thinned = some ⟨oc_law_thinned, od_law_thinned, .func (PySem.W.fnOf "_law_thinned" "_law_thinned" (defArgs s_law_thinned) (defBody s_law_thinned) (defScope s_law_thinned) .none kV_law_thinned dc_law_thinned pm_law_thinned an_law_thinned cd_law_thinned ct_law_thinned), sl_law_thinned⟩)
    (q_law_thinned : PySem.W.codeIn K cd_law_thinned "_law_thinned" = true)
    (p_law_thinned : PySem.W.keepIn K (.ref f_law_thinned) = true)
    (a_law_breach : PySem.W.nsIn K mainGlobals "_law_breach" = some (some (.ref f_law_breach)))
    (l_law_breach : K.lookup f_law_breach = some ⟨oc_law_breach, od_law_breach, .func (PySem.W.fnOf "_law_breach" "_law_breach" (defArgs s_law_breach) (defBody s_law_breach) (defScope s_law_breach) .none kV_law_breach dc_law_breach pm_law_breach an_law_breach cd_law_breach ct_law_breach), sl_law_breach⟩)
    (q_law_breach : PySem.W.codeIn K cd_law_breach "_law_breach" = true)
    (p_law_breach : PySem.W.keepIn K (.ref f_law_breach) = true)
    (a_law_played : PySem.W.nsIn K mainGlobals "_law_played" = some (some (.ref f_law_played)))
    (l_law_played : K.lookup f_law_played = some ⟨oc_law_played, od_law_played, .func (PySem.W.fnOf "_law_played" "_law_played" (defArgs s_law_played) (defBody s_law_played) (defScope s_law_played) .none kV_law_played dc_law_played pm_law_played an_law_played cd_law_played ct_law_played), sl_law_played⟩)
    (q_law_played : PySem.W.codeIn K cd_law_played "_law_played" = true)
    (p_law_played : PySem.W.keepIn K (.ref f_law_played) = true)
    (a_law_reach : PySem.W.nsIn K mainGlobals "_law_reach" = some (some (.ref f_law_reach)))
    (l_law_reach : K.lookup f_law_reach = some ⟨oc_law_reach, od_law_reach, .func (PySem.W.fnOf "_law_reach" "_law_reach" (defArgs s_law_reach) (defBody s_law_reach) (defScope s_law_reach) .none kV_law_reach dc_law_reach pm_law_reach an_law_reach cd_law_reach ct_law_reach), sl_law_reach⟩)
    (q_law_reach : PySem.W.codeIn K cd_law_reach "_law_reach" = true)
    (p_law_reach : PySem.W.keepIn K (.ref f_law_reach) = true)
    (a_law_wait : PySem.W.nsIn K mainGlobals "_law_wait" = some (some (.ref f_law_wait)))
    (l_law_wait : K.lookup f_law_wait = some ⟨oc_law_wait, od_law_wait, .func (PySem.W.fnOf "_law_wait" "_law_wait" (defArgs s_law_wait) (defBody s_law_wait) (defScope s_law_wait) .none kV_law_wait dc_law_wait pm_law_wait an_law_wait cd_law_wait ct_law_wait), sl_law_wait⟩)
    (q_law_wait : PySem.W.codeIn K cd_law_wait "_law_wait" = true)
    (p_law_wait : PySem.W.keepIn K (.ref f_law_wait) = true)
    (a_law_lots : PySem.W.nsIn K mainGlobals "_law_lots" = some (some (.ref f_law_lots)))
    (l_law_lots : K.lookup f_law_lots = some ⟨oc_law_lots, od_law_lots, .func (PySem.W.fnOf "_law_lots" "_law_lots" (defArgs s_law_lots) (defBody s_law_lots) (defScope s_law_lots) .none kV_law_lots dc_law_lots pm_law_lots an_law_lots cd_law_lots ct_law_lots), sl_law_lots⟩)
    (q_law_lots : PySem.W.codeIn K cd_law_lots "_law_lots" = true)
    (p_law_lots : PySem.W.keepIn K (.ref f_law_lots) = true)
    (a_law_all : PySem.W.nsIn K mainGlobals "_law_all" = some (some (.ref f_law_all)))
    (l_law_all : K.lookup f_law_all = some ⟨oc_law_all, od_law_all, .func (PySem.W.fnOf "_law_all" "_law_all" (defArgs s_law_all) (defBody s_law_all) (defScope s_law_all) .none kV_law_all dc_law_all pm_law_all an_law_all cd_law_all ct_law_all), sl_law_all⟩)
    (q_law_all : PySem.W.codeIn K cd_law_all "_law_all" = true)
    (p_law_all : PySem.W.keepIn K (.ref f_law_all) = true)
    (a_law_word : PySem.W.nsIn K mainGlobals "_law_word" = some (some (.ref f_law_word)))
    (l_law_word : K.lookup f_law_word = some ⟨oc_law_word, od_law_word, .func (PySem.W.fnOf "_law_word" "_law_word" (defArgs s_law_word) (defBody s_law_word) (defScope s_law_word) .none kV_law_word dc_law_word pm_law_word an_law_word cd_law_word ct_law_word), sl_law_word⟩)
    (q_law_word : PySem.W.codeIn K cd_law_word "_law_word" = true)
    (p_law_word : PySem.W.keepIn K (.ref f_law_word) = true)
    (a_law_longest : PySem.W.nsIn K mainGlobals "_law_longest" = some (some (.ref f_law_longest)))
    (l_law_longest : K.lookup f_law_longest = some ⟨oc_law_longest, od_law_longest, .func (PySem.W.fnOf "_law_longest" "_law_longest" (defArgs s_law_longest) (defBody s_law_longest) (defScope s_law_longest) .none kV_law_longest dc_law_longest pm_law_longest an_law_longest cd_law_longest ct_law_longest), sl_law_longest⟩)
    (q_law_longest : PySem.W.codeIn K cd_law_longest "_law_longest" = true)
    (p_law_longest : PySem.W.keepIn K (.ref f_law_longest) = true)
    (a_law_small_right : PySem.W.nsIn K mainGlobals "_law_small_right" = some (some (.ref f_law_small_right)))
    (l_law_small_right : K.lookup f_law_small_right = some ⟨oc_law_small_right, od_law_small_right, .func (PySem.W.fnOf "_law_small_right" "_law_small_right" (defArgs s_law_small_right) (defBody s_law_small_right) (defScope s_law_small_right) .none kV_law_small_right dc_law_small_right pm_law_small_right an_law_small_right cd_law_small_right ct_law_small_right), sl_law_small_right⟩)
    (q_law_small_right : PySem.W.codeIn K cd_law_small_right "_law_small_right" = true)
    (p_law_small_right : PySem.W.keepIn K (.ref f_law_small_right) = true)
    (a_law_kind_right : PySem.W.nsIn K mainGlobals "_law_kind_right" = some (some (.ref f_law_kind_right)))
    (l_law_kind_right : K.lookup f_law_kind_right = some ⟨oc_law_kind_right, od_law_kind_right, .func (PySem.W.fnOf "_law_kind_right" "_law_kind_right" (defArgs s_law_kind_right) (defBody s_law_kind_right) (defScope s_law_kind_right) .none kV_law_kind_right dc_law_kind_right pm_law_kind_right an_law_kind_right (.ref co_law_kind_right) ct_law_kind_right), sl_law_kind_right⟩)
    (q_law_kind_right : PySem.W.codeIn K (.ref co_law_kind_right) "_law_kind_right" = true)
    (p_law_kind_right : PySem.W.keepIn K (.ref f_law_kind_right) = true)
    (a_law : PySem.W.nsIn K mainGlobals "law" = some (some (.ref f_law)))
    (l_law : K.lookup f_law = some ⟨oc_law, od_law, .func (PySem.W.fnOf "law" "law" (defArgs s_law) (defBody s_law) (defScope s_law) .none kV_law dc_law pm_law an_law cd_law ct_law), sl_law⟩)
    (q_law : PySem.W.codeIn K cd_law "law" = true)
    (p_law : PySem.W.keepIn K (.ref f_law) = true)
    (pg_Buckets : PySem.W.plainGet K c_Buckets Str.empty = true)
    (hd_Buckets : PySem.W.hasDictIn K c_Buckets = true)
    (po_Buckets : PySem.W.plainOver K c_Buckets = true)
    (sa_Buckets : PySem.W.findIn K (.ref c_Buckets) "__setattr__" = some (some (.builtin "object.__setattr__")))
    (mk_Buckets : PySem.W.makesIn K c_Buckets = true)
    (kc_Buckets : PySem.W.keepIn K (.ref c_Buckets) = true)
    (n_Buckets_bottom : PySem.W.findIn K (.ref c_Buckets) "bottom" = some none)
    (n_Buckets_rows : PySem.W.findIn K (.ref c_Buckets) "rows" = some none)
    (ne_Buckets : PySem.W.findIn K (.ref c_Buckets) "__ne__" = some (some (.builtin "object.__ne__")))
    (x_Boundless : PySem.W.excIn K c_Boundless [.type "ValueError", .type "Exception", .type "BaseException", .type "object"] "ValueError.__new__" = true)
    (kp_Boundless : PySem.W.keepIn K (.ref c_Boundless) = true)
    (s_Boundless : PySem.W.subIn K (.ref c_Boundless) (.type "BaseException") = some true)
    (t_Boundless : PySem.W.typeIn K (.ref c_Boundless) = some (.type "type"))
    (e1_Boundless : PySem.W.findIn K (.ref c_Boundless) "__getattribute__" = some (some (.builtin "BaseException.__getattribute__")))
    (e2_Boundless : PySem.W.findIn K (.ref c_Boundless) "__getattr__" = some none)
    (e3_Boundless : PySem.W.hasDictIn K c_Boundless = true)
    (e4_Boundless : PySem.W.findIn K (.ref c_Boundless) "__class__" = some (some (.builtin "object.__class__")))
    (e5_Boundless : PySem.W.mroIn K c_Boundless (.type "object") = some true)
    (x_NoCell : PySem.W.excIn K c_NoCell [.type "ValueError", .type "Exception", .type "BaseException", .type "object"] "ValueError.__new__" = true)
    (kp_NoCell : PySem.W.keepIn K (.ref c_NoCell) = true)
    (s_NoCell : PySem.W.subIn K (.ref c_NoCell) (.type "BaseException") = some true)
    (t_NoCell : PySem.W.typeIn K (.ref c_NoCell) = some (.type "type"))
    (e1_NoCell : PySem.W.findIn K (.ref c_NoCell) "__getattribute__" = some (some (.builtin "BaseException.__getattribute__")))
    (e2_NoCell : PySem.W.findIn K (.ref c_NoCell) "__getattr__" = some none)
    (e3_NoCell : PySem.W.hasDictIn K c_NoCell = true)
    (e4_NoCell : PySem.W.findIn K (.ref c_NoCell) "__class__" = some (some (.builtin "object.__class__")))
    (e5_NoCell : PySem.W.mroIn K c_NoCell (.type "object") = some true)
    (tt_Buckets : PySem.W.typeIn K (.ref c_Buckets) = some (.type "type"))
    (ci_Buckets : PySem.W.findIn K (.ref c_Buckets) "__class__" = some (some (.builtin "object.__class__")))
    (em_Buckets : PySem.W.mroIn K c_Buckets (.type "object") = some true)
    (en1 : PySem.W.specialIn K (.builtin "object.__class__") "__get__" = some (some (.builtin "getset_descriptor.__get__")))
    (en2 : PySem.W.takesIn K (.builtin "object.__class__") = some true)
    (su_Buckets_int : PySem.W.subIn K (.ref c_Buckets) (.type "int") = some false)
    (su_Buckets_bool : PySem.W.subIn K (.ref c_Buckets) (.type "bool") = some false)
    (su_Buckets_tuple : PySem.W.subIn K (.ref c_Buckets) (.type "tuple") = some false)
    (s_FabricError : PySem.W.subIn K (.ref c_FabricError) (.type "BaseException") = some true)
    (t_FabricError : PySem.W.typeIn K (.ref c_FabricError) = some (.type "type"))
    (e3_FabricError : PySem.W.hasDictIn K c_FabricError = true)
    (su_FabricError_FabricError : PySem.W.subIn K (.ref c_FabricError) (.ref c_FabricError) = some true)
    (su_Boundless_FabricError : PySem.W.subIn K (.ref c_Boundless) (.ref c_FabricError) = some true)
    (su_Boundless_Boundless : PySem.W.subIn K (.ref c_Boundless) (.ref c_Boundless) = some true)
    (su_Boundless_NoCell : PySem.W.subIn K (.ref c_Boundless) (.ref c_NoCell) = some false)
    (su_NoCell_FabricError : PySem.W.subIn K (.ref c_NoCell) (.ref c_FabricError) = some true)
    (su_NoCell_Boundless : PySem.W.subIn K (.ref c_NoCell) (.ref c_Boundless) = some false)
    (su_NoCell_NoCell : PySem.W.subIn K (.ref c_NoCell) (.ref c_NoCell) = some true)
    (k_MOST_LINES : PySem.W.nsIn K mainGlobals "MOST_LINES" = some (some (.int 12 t_MOST_LINES)))
    (k_KINDS : PySem.W.nsIn K mainGlobals "KINDS" = some (some (.int 8 t_KINDS)))
    (k_GREATEST_BOTTOM : PySem.W.nsIn K mainGlobals "GREATEST_BOTTOM" = some (some (.int 20 t_GREATEST_BOTTOM)))
    (k_GREATEST_BURST : PySem.W.nsIn K mainGlobals "GREATEST_BURST" = some (some (.int 20 t_GREATEST_BURST)))
    (k_LONGEST : PySem.W.nsIn K mainGlobals "LONGEST" = some (some (.int 420 t_LONGEST)))
    (z_abs : PySem.W.nsIn K mainGlobals "abs" = some none)
    (z_all : PySem.W.nsIn K mainGlobals "all" = some none)
    (z_any : PySem.W.nsIn K mainGlobals "any" = some none)
    (z_bool : PySem.W.nsIn K mainGlobals "bool" = some none)
    (z_enumerate : PySem.W.nsIn K mainGlobals "enumerate" = some none)
    (z_int : PySem.W.nsIn K mainGlobals "int" = some none)
    (z_isinstance : PySem.W.nsIn K mainGlobals "isinstance" = some none)
    (z_len : PySem.W.nsIn K mainGlobals "len" = some none)
    (z_list : PySem.W.nsIn K mainGlobals "list" = some none)
    (z_max : PySem.W.nsIn K mainGlobals "max" = some none)
    (z_min : PySem.W.nsIn K mainGlobals "min" = some none)
    (z_range : PySem.W.nsIn K mainGlobals "range" = some none)
    (z_sorted : PySem.W.nsIn K mainGlobals "sorted" = some none)
    (z_sum : PySem.W.nsIn K mainGlobals "sum" = some none)
    (z_tuple : PySem.W.nsIn K mainGlobals "tuple" = some none)
    (z_zip : PySem.W.nsIn K mainGlobals "zip" = some none)
    : ∃ A : Adr, Top K mg A ∧ A.d_law = PySem.W.fnOf "law" "law" (defArgs s_law) (defBody s_law) (defScope s_law) .none kV_law dc_law pm_law an_law cd_law ct_law ∧ A.a_law = f_law ∧ A.cd_law_kind_right = co_law_kind_right ∧ A.tb_law_kind_right = tb_law_kind_right := by
  have F_is_integer := fun_mk (st := s_is_integer) l_is_integer q_is_integer p_is_integer
  have F_is_integer_from := fun_mk (st := s_is_integer_from) l_is_integer_from q_is_integer_from p_is_integer_from
  have F_is_number_below := fun_mk (st := s_is_number_below) l_is_number_below q_is_number_below p_is_number_below
  have F_is_tuple_of := fun_mk (st := s_is_tuple_of) l_is_tuple_of q_is_tuple_of p_is_tuple_of
  have F_is_bucket := fun_mk (st := s_is_bucket) l_is_bucket q_is_bucket p_is_bucket
  have F_Buckets___init__ := fun_mk (st := s_Buckets___init__) l_Buckets___init__ q_Buckets___init__ p_Buckets___init__
  have F_Buckets___eq__ := fun_mk (st := s_Buckets___eq__) l_Buckets___eq__ q_Buckets___eq__ p_Buckets___eq__
  have F_check_kind := fun_mk (st := s_check_kind) l_check_kind q_check_kind p_check_kind
  have F_most_of := fun_mk (st := s_most_of) l_most_of q_most_of p_most_of
  have F_most_together := fun_mk (st := s_most_together) l_most_together q_most_together p_most_together
  have F_rows_of := fun_mk (st := s_rows_of) l_rows_of q_rows_of p_rows_of
  have F_tops_of := fun_mk (st := s_tops_of) l_tops_of q_tops_of p_tops_of
  have F_sends := fun_mk (st := s_sends) l_sends q_sends p_sends
  have F_soonest := fun_mk (st := s_soonest) l_soonest q_soonest p_soonest
  have F_is_boundless := fun_mk (st := s_is_boundless) l_is_boundless q_is_boundless p_is_boundless
  have F_longest_wait := fun_mk (st := s_longest_wait) l_longest_wait q_longest_wait p_longest_wait
  have F_greatest_wait := fun_mk (st := s_greatest_wait) l_greatest_wait q_greatest_wait p_greatest_wait
  have F_worst_stream_for := fun_mk (st := s_worst_stream_for) l_worst_stream_for q_worst_stream_for p_worst_stream_for
  have F_law_hand := fun_mk (st := s_law_hand) l_law_hand q_law_hand p_law_hand
  have F_law_draw := fun_mk (st := s_law_draw) l_law_draw q_law_draw p_law_draw
  have F_law_pick := fun_mk (st := s_law_pick) l_law_pick q_law_pick p_law_pick
  have F_law_same := fun_mk (st := s_law_same) l_law_same q_law_same p_law_same
  have F_law_rows := fun_mk (st := s_law_rows) l_law_rows q_law_rows p_law_rows
  have F_law_sent := fun_mk (st := s_law_sent) l_law_sent q_law_sent p_law_sent
  have F_law_stream := fun_mk (st := s_law_stream) l_law_stream q_law_stream p_law_stream
  have F_law_thinned := fun_mk (st := s_law_thinned) l_law_thinned q_law_thinned p_law_thinned
  have F_law_breach := fun_mk (st := s_law_breach) l_law_breach q_law_breach p_law_breach
  have F_law_played := fun_mk (st := s_law_played) l_law_played q_law_played p_law_played
  have F_law_reach := fun_mk (st := s_law_reach) l_law_reach q_law_reach p_law_reach
  have F_law_wait := fun_mk (st := s_law_wait) l_law_wait q_law_wait p_law_wait
  have F_law_lots := fun_mk (st := s_law_lots) l_law_lots q_law_lots p_law_lots
  have F_law_all := fun_mk (st := s_law_all) l_law_all q_law_all p_law_all
  have F_law_word := fun_mk (st := s_law_word) l_law_word q_law_word p_law_word
  have F_law_longest := fun_mk (st := s_law_longest) l_law_longest q_law_longest p_law_longest
  have F_law_small_right := fun_mk (st := s_law_small_right) l_law_small_right q_law_small_right p_law_small_right
  have F_law_kind_right := fun_mk (st := s_law_kind_right) l_law_kind_right q_law_kind_right p_law_kind_right
  have F_law := fun_mk (st := s_law) l_law q_law p_law
  refine ⟨⟨f_is_integer, PySem.W.fnOf "is_integer" "is_integer" (defArgs s_is_integer) (defBody s_is_integer) (defScope s_is_integer) .none kV_is_integer dc_is_integer pm_is_integer an_is_integer cd_is_integer ct_is_integer, f_is_integer_from, PySem.W.fnOf "is_integer_from" "is_integer_from" (defArgs s_is_integer_from) (defBody s_is_integer_from) (defScope s_is_integer_from) .none kV_is_integer_from dc_is_integer_from pm_is_integer_from an_is_integer_from cd_is_integer_from ct_is_integer_from, f_is_number_below, PySem.W.fnOf "is_number_below" "is_number_below" (defArgs s_is_number_below) (defBody s_is_number_below) (defScope s_is_number_below) .none kV_is_number_below dc_is_number_below pm_is_number_below an_is_number_below cd_is_number_below ct_is_number_below, f_is_tuple_of, PySem.W.fnOf "is_tuple_of" "is_tuple_of" (defArgs s_is_tuple_of) (defBody s_is_tuple_of) (defScope s_is_tuple_of) .none kV_is_tuple_of dc_is_tuple_of pm_is_tuple_of an_is_tuple_of cd_is_tuple_of ct_is_tuple_of, f_is_bucket, PySem.W.fnOf "is_bucket" "is_bucket" (defArgs s_is_bucket) (defBody s_is_bucket) (defScope s_is_bucket) .none kV_is_bucket dc_is_bucket pm_is_bucket an_is_bucket cd_is_bucket ct_is_bucket, f_Buckets___init__, PySem.W.fnOf "__init__" "Buckets.__init__" (defArgs s_Buckets___init__) (defBody s_Buckets___init__) (defScope s_Buckets___init__) .none kV_Buckets___init__ dc_Buckets___init__ pm_Buckets___init__ an_Buckets___init__ cd_Buckets___init__ ct_Buckets___init__, f_Buckets___eq__, PySem.W.fnOf "__eq__" "Buckets.__eq__" (defArgs s_Buckets___eq__) (defBody s_Buckets___eq__) (defScope s_Buckets___eq__) .none kV_Buckets___eq__ dc_Buckets___eq__ pm_Buckets___eq__ an_Buckets___eq__ cd_Buckets___eq__ ct_Buckets___eq__, f_check_kind, PySem.W.fnOf "check_kind" "check_kind" (defArgs s_check_kind) (defBody s_check_kind) (defScope s_check_kind) .none kV_check_kind dc_check_kind pm_check_kind an_check_kind cd_check_kind ct_check_kind, f_most_of, PySem.W.fnOf "most_of" "most_of" (defArgs s_most_of) (defBody s_most_of) (defScope s_most_of) .none kV_most_of dc_most_of pm_most_of an_most_of cd_most_of ct_most_of, f_most_together, PySem.W.fnOf "most_together" "most_together" (defArgs s_most_together) (defBody s_most_together) (defScope s_most_together) .none kV_most_together dc_most_together pm_most_together an_most_together cd_most_together ct_most_together, f_rows_of, PySem.W.fnOf "rows_of" "rows_of" (defArgs s_rows_of) (defBody s_rows_of) (defScope s_rows_of) .none kV_rows_of dc_rows_of pm_rows_of an_rows_of cd_rows_of ct_rows_of, f_tops_of, PySem.W.fnOf "tops_of" "tops_of" (defArgs s_tops_of) (defBody s_tops_of) (defScope s_tops_of) .none kV_tops_of dc_tops_of pm_tops_of an_tops_of cd_tops_of ct_tops_of, f_sends, PySem.W.fnOf "sends" "sends" (defArgs s_sends) (defBody s_sends) (defScope s_sends) .none kV_sends dc_sends pm_sends an_sends cd_sends ct_sends, f_soonest, PySem.W.fnOf "soonest" "soonest" (defArgs s_soonest) (defBody s_soonest) (defScope s_soonest) .none kV_soonest dc_soonest pm_soonest an_soonest cd_soonest ct_soonest, f_is_boundless, PySem.W.fnOf "is_boundless" "is_boundless" (defArgs s_is_boundless) (defBody s_is_boundless) (defScope s_is_boundless) .none kV_is_boundless dc_is_boundless pm_is_boundless an_is_boundless cd_is_boundless ct_is_boundless, f_longest_wait, PySem.W.fnOf "longest_wait" "longest_wait" (defArgs s_longest_wait) (defBody s_longest_wait) (defScope s_longest_wait) .none kV_longest_wait dc_longest_wait pm_longest_wait an_longest_wait cd_longest_wait ct_longest_wait, f_greatest_wait, PySem.W.fnOf "greatest_wait" "greatest_wait" (defArgs s_greatest_wait) (defBody s_greatest_wait) (defScope s_greatest_wait) .none kV_greatest_wait dc_greatest_wait pm_greatest_wait an_greatest_wait cd_greatest_wait ct_greatest_wait, f_worst_stream_for, PySem.W.fnOf "worst_stream_for" "worst_stream_for" (defArgs s_worst_stream_for) (defBody s_worst_stream_for) (defScope s_worst_stream_for) .none kV_worst_stream_for dc_worst_stream_for pm_worst_stream_for an_worst_stream_for cd_worst_stream_for ct_worst_stream_for, f_law_hand, PySem.W.fnOf "_law_hand" "_law_hand" (defArgs s_law_hand) (defBody s_law_hand) (defScope s_law_hand) .none kV_law_hand dc_law_hand pm_law_hand an_law_hand cd_law_hand ct_law_hand, f_law_draw, PySem.W.fnOf "_law_draw" "_law_draw" (defArgs s_law_draw) (defBody s_law_draw) (defScope s_law_draw) .none kV_law_draw dc_law_draw pm_law_draw an_law_draw cd_law_draw ct_law_draw, f_law_pick, PySem.W.fnOf "_law_pick" "_law_pick" (defArgs s_law_pick) (defBody s_law_pick) (defScope s_law_pick) .none kV_law_pick dc_law_pick pm_law_pick an_law_pick cd_law_pick ct_law_pick, f_law_same, PySem.W.fnOf "_law_same" "_law_same" (defArgs s_law_same) (defBody s_law_same) (defScope s_law_same) .none kV_law_same dc_law_same pm_law_same an_law_same cd_law_same ct_law_same, f_law_rows, PySem.W.fnOf "_law_rows" "_law_rows" (defArgs s_law_rows) (defBody s_law_rows) (defScope s_law_rows) .none kV_law_rows dc_law_rows pm_law_rows an_law_rows cd_law_rows ct_law_rows, f_law_sent, PySem.W.fnOf "_law_sent" "_law_sent" (defArgs s_law_sent) (defBody s_law_sent) (defScope s_law_sent) .none kV_law_sent dc_law_sent pm_law_sent an_law_sent cd_law_sent ct_law_sent, f_law_stream, PySem.W.fnOf "_law_stream" "_law_stream" (defArgs s_law_stream) (defBody s_law_stream) (defScope s_law_stream) .none kV_law_stream dc_law_stream pm_law_stream an_law_stream cd_law_stream ct_law_stream, f_law_thinned, PySem.W.fnOf "_law_thinned" "_law_thinned" (defArgs s_law_thinned) (defBody s_law_thinned) (defScope s_law_thinned) .none kV_law_thinned dc_law_thinned pm_law_thinned an_law_thinned cd_law_thinned ct_law_thinned, f_law_breach, PySem.W.fnOf "_law_breach" "_law_breach" (defArgs s_law_breach) (defBody s_law_breach) (defScope s_law_breach) .none kV_law_breach dc_law_breach pm_law_breach an_law_breach cd_law_breach ct_law_breach, f_law_played, PySem.W.fnOf "_law_played" "_law_played" (defArgs s_law_played) (defBody s_law_played) (defScope s_law_played) .none kV_law_played dc_law_played pm_law_played an_law_played cd_law_played ct_law_played, f_law_reach, PySem.W.fnOf "_law_reach" "_law_reach" (defArgs s_law_reach) (defBody s_law_reach) (defScope s_law_reach) .none kV_law_reach dc_law_reach pm_law_reach an_law_reach cd_law_reach ct_law_reach, f_law_wait, PySem.W.fnOf "_law_wait" "_law_wait" (defArgs s_law_wait) (defBody s_law_wait) (defScope s_law_wait) .none kV_law_wait dc_law_wait pm_law_wait an_law_wait cd_law_wait ct_law_wait, f_law_lots, PySem.W.fnOf "_law_lots" "_law_lots" (defArgs s_law_lots) (defBody s_law_lots) (defScope s_law_lots) .none kV_law_lots dc_law_lots pm_law_lots an_law_lots cd_law_lots ct_law_lots, f_law_all, PySem.W.fnOf "_law_all" "_law_all" (defArgs s_law_all) (defBody s_law_all) (defScope s_law_all) .none kV_law_all dc_law_all pm_law_all an_law_all cd_law_all ct_law_all, f_law_word, PySem.W.fnOf "_law_word" "_law_word" (defArgs s_law_word) (defBody s_law_word) (defScope s_law_word) .none kV_law_word dc_law_word pm_law_word an_law_word cd_law_word ct_law_word, f_law_longest, PySem.W.fnOf "_law_longest" "_law_longest" (defArgs s_law_longest) (defBody s_law_longest) (defScope s_law_longest) .none kV_law_longest dc_law_longest pm_law_longest an_law_longest cd_law_longest ct_law_longest, f_law_small_right, PySem.W.fnOf "_law_small_right" "_law_small_right" (defArgs s_law_small_right) (defBody s_law_small_right) (defScope s_law_small_right) .none kV_law_small_right dc_law_small_right pm_law_small_right an_law_small_right cd_law_small_right ct_law_small_right, f_law_kind_right, PySem.W.fnOf "_law_kind_right" "_law_kind_right" (defArgs s_law_kind_right) (defBody s_law_kind_right) (defScope s_law_kind_right) .none kV_law_kind_right dc_law_kind_right pm_law_kind_right an_law_kind_right (.ref co_law_kind_right) ct_law_kind_right, f_law, PySem.W.fnOf "law" "law" (defArgs s_law) (defBody s_law) (defScope s_law) .none kV_law dc_law pm_law an_law cd_law ct_law, c_Buckets, c_FabricError, c_NoCell, c_Boundless, co_law_kind_right, tb_law_kind_right⟩, ?_, rfl, rfl, rfl, rfl⟩
  exact ⟨F_is_integer,
    PySem.W.mg_of X G a_is_integer,
    F_is_integer.binds (fun _ _ _ _ _ _ us hl => match us, hl with | [_], _ => rfl),
    F_is_integer_from,
    PySem.W.mg_of X G a_is_integer_from,
    F_is_integer_from.binds (fun _ _ _ _ _ _ us hl => match us, hl with | [_, _, _], _ => rfl),
    F_is_number_below,
    PySem.W.mg_of X G a_is_number_below,
    F_is_number_below.binds (fun _ _ _ _ _ _ us hl => match us, hl with | [_, _], _ => rfl),
    F_is_tuple_of,
    PySem.W.mg_of X G a_is_tuple_of,
    F_is_tuple_of.binds (fun _ _ _ _ _ _ us hl => match us, hl with | [_, _], _ => rfl),
    F_is_bucket,
    PySem.W.mg_of X G a_is_bucket,
    F_is_bucket.binds (fun _ _ _ _ _ _ us hl => match us, hl with | [_, _], _ => rfl),
    F_Buckets___init__,
    F_Buckets___init__.binds (fun _ _ _ _ _ _ us hl => match us, hl with | [_, _, _], _ => rfl),
    F_Buckets___eq__,
    F_Buckets___eq__.binds (fun _ _ _ _ _ _ us hl => match us, hl with | [_, _], _ => rfl),
    F_check_kind,
    PySem.W.mg_of X G a_check_kind,
    F_check_kind.binds (fun _ _ _ _ _ _ us hl => match us, hl with | [_], _ => rfl),
    F_most_of,
    PySem.W.mg_of X G a_most_of,
    F_most_of.binds (fun _ _ _ _ _ _ us hl => match us, hl with | [_, _, _], _ => rfl),
    F_most_together,
    PySem.W.mg_of X G a_most_together,
    F_most_together.binds (fun _ _ _ _ _ _ us hl => match us, hl with | [_, _, _], _ => rfl),
    F_rows_of,
    PySem.W.mg_of X G a_rows_of,
    F_rows_of.binds (fun _ _ _ _ _ _ us hl => match us, hl with | [_, _], _ => rfl),
    F_tops_of,
    PySem.W.mg_of X G a_tops_of,
    F_tops_of.binds (fun _ _ _ _ _ _ us hl => match us, hl with | [_], _ => rfl),
    F_sends,
    PySem.W.mg_of X G a_sends,
    F_sends.binds (fun _ _ _ _ _ _ us hl => match us, hl with | [_, _, _], _ => rfl),
    F_soonest,
    PySem.W.mg_of X G a_soonest,
    F_soonest.binds (fun _ _ _ _ _ _ us hl => match us, hl with | [_, _], _ => rfl),
    F_is_boundless,
    PySem.W.mg_of X G a_is_boundless,
    F_is_boundless.binds (fun _ _ _ _ _ _ us hl => match us, hl with | [_, _], _ => rfl),
    F_longest_wait,
    PySem.W.mg_of X G a_longest_wait,
    F_longest_wait.binds (fun _ _ _ _ _ _ us hl => match us, hl with | [_, _], _ => rfl),
    F_greatest_wait,
    PySem.W.mg_of X G a_greatest_wait,
    F_greatest_wait.binds (fun _ _ _ _ _ _ us hl => match us, hl with | [_, _], _ => rfl),
    F_worst_stream_for,
    PySem.W.mg_of X G a_worst_stream_for,
    F_worst_stream_for.binds (fun _ _ _ _ _ _ us hl => match us, hl with | [_, _], _ => rfl),
    F_law_hand,
    PySem.W.mg_of X G a_law_hand,
    F_law_hand.binds (fun _ _ _ _ _ _ us hl => match us, hl with | [_], _ => rfl),
    F_law_draw,
    PySem.W.mg_of X G a_law_draw,
    F_law_draw.binds (fun _ _ _ _ _ _ us hl => match us, hl with | [_, _], _ => rfl),
    F_law_pick,
    PySem.W.mg_of X G a_law_pick,
    F_law_pick.binds (fun _ _ _ _ _ _ us hl => match us, hl with | [_, _], _ => rfl),
    F_law_same,
    PySem.W.mg_of X G a_law_same,
    F_law_same.binds (fun _ _ _ _ _ _ us hl => match us, hl with | [_, _], _ => rfl),
    F_law_rows,
    PySem.W.mg_of X G a_law_rows,
    F_law_rows.binds (fun _ _ _ _ _ _ us hl => match us, hl with | [_, _, _, _, _], _ => rfl),
    F_law_sent,
    PySem.W.mg_of X G a_law_sent,
    F_law_sent.binds (fun _ _ _ _ _ _ us hl => match us, hl with | [_, _, _], _ => rfl),
    F_law_stream,
    PySem.W.mg_of X G a_law_stream,
    F_law_stream.binds (fun _ _ _ _ _ _ us hl => match us, hl with | [_, _, _], _ => rfl),
    F_law_thinned,
    PySem.W.mg_of X G a_law_thinned,
    F_law_thinned.binds (fun _ _ _ _ _ _ us hl => match us, hl with | [_, _, _], _ => rfl),
    F_law_breach,
    PySem.W.mg_of X G a_law_breach,
    F_law_breach.binds (fun _ _ _ _ _ _ us hl => match us, hl with | [_, _, _], _ => rfl),
    F_law_played,
    PySem.W.mg_of X G a_law_played,
    F_law_played.binds (fun _ _ _ _ _ _ us hl => match us, hl with | [_, _], _ => rfl),
    F_law_reach,
    PySem.W.mg_of X G a_law_reach,
    F_law_reach.binds (fun _ _ _ _ _ _ us hl => match us, hl with | [_, _], _ => rfl),
    F_law_wait,
    PySem.W.mg_of X G a_law_wait,
    F_law_wait.binds (fun _ _ _ _ _ _ us hl => match us, hl with | [_, _, _], _ => rfl),
    F_law_lots,
    PySem.W.mg_of X G a_law_lots,
    F_law_lots.binds (fun _ _ _ _ _ _ us hl => match us, hl with | [_], _ => rfl),
    F_law_all,
    PySem.W.mg_of X G a_law_all,
    F_law_all.binds (fun _ _ _ _ _ _ us hl => match us, hl with | [_, _, _], _ => rfl),
    F_law_word,
    PySem.W.mg_of X G a_law_word,
    F_law_word.binds (fun _ _ _ _ _ _ us hl => match us, hl with | [_], _ => rfl),
    F_law_longest,
    PySem.W.mg_of X G a_law_longest,
    F_law_longest.binds (fun _ _ _ _ _ _ us hl => match us, hl with | [_, _, _], _ => rfl),
    F_law_small_right,
    PySem.W.mg_of X G a_law_small_right,
    F_law_small_right.binds (fun _ _ _ _ _ _ us hl => match us, hl with | [_], _ => rfl),
    F_law_kind_right,
    PySem.W.mg_of X G a_law_kind_right,
    F_law_kind_right.binds (fun _ _ _ _ _ _ us hl => match us, hl with | [_, _, _, _], _ => rfl),
    F_law,
    PySem.W.mg_of X G a_law,
    F_law.binds (fun _ _ _ _ _ _ us hl => match us, hl with | [_], _ => rfl),
    ⟨pg_Buckets, hd_Buckets, po_Buckets, sa_Buckets⟩,
    PySem.W.mg_of X G ac_Buckets,
    ⟨mk_Buckets, a_Buckets___init__, i_Buckets___init__, kc_Buckets⟩,
    ⟨a_Buckets___eq__, i_Buckets___eq__, p_Buckets___eq__⟩,
    n_Buckets_bottom,
    n_Buckets_rows,
    ⟨em_Buckets, ne_Buckets, a_Buckets___eq__, i_Buckets___eq__⟩,
    PySem.W.mg_of X G ac_FabricError,
    PySem.W.mg_of X G ac_NoCell,
    PySem.W.mg_of X G ac_Boundless,
    x_Boundless,
    kp_Boundless,
    s_Boundless,
    t_Boundless,
    e1_Boundless,
    e2_Boundless,
    e3_Boundless,
    e4_Boundless,
    e5_Boundless,
    x_NoCell,
    kp_NoCell,
    s_NoCell,
    t_NoCell,
    e1_NoCell,
    e2_NoCell,
    e3_NoCell,
    e4_NoCell,
    e5_NoCell,
    GX.kit_bi (by decide) su_Buckets_int,
    GX.kit_bi (by decide) su_Buckets_bool,
    GX.kit_bi (by decide) su_Buckets_tuple,
    tt_Buckets,
    ci_Buckets,
    em_Buckets,
    en1,
    en2,
    GX.kit_yes (PySem.W.exm_ref s_FabricError e3_FabricError t_FabricError su_Boundless_FabricError),
    (PySem.W.exm_ref s_FabricError e3_FabricError t_FabricError su_Boundless_FabricError),
    GX.kit_yes (PySem.W.exm_ref s_Boundless e3_Boundless t_Boundless su_Boundless_Boundless),
    (PySem.W.exm_ref s_Boundless e3_Boundless t_Boundless su_Boundless_Boundless),
    GX.kit_no (PySem.W.exm_ref s_NoCell e3_NoCell t_NoCell su_Boundless_NoCell) su_NoCell_NoCell su_Boundless_NoCell,
    (PySem.W.exm_ref s_NoCell e3_NoCell t_NoCell su_Boundless_NoCell),
    GX.kit_yes (PySem.W.exm_ref s_FabricError e3_FabricError t_FabricError su_NoCell_FabricError),
    (PySem.W.exm_ref s_FabricError e3_FabricError t_FabricError su_NoCell_FabricError),
    GX.kit_no (PySem.W.exm_ref s_Boundless e3_Boundless t_Boundless su_NoCell_Boundless) su_Boundless_Boundless su_NoCell_Boundless,
    (PySem.W.exm_ref s_Boundless e3_Boundless t_Boundless su_NoCell_Boundless),
    GX.kit_yes (PySem.W.exm_ref s_NoCell e3_NoCell t_NoCell su_NoCell_NoCell),
    (PySem.W.exm_ref s_NoCell e3_NoCell t_NoCell su_NoCell_NoCell),
    ⟨⟨_, _, _, _, _, _, _, _, rfl, l_law_kind_right, q_law_kind_right⟩⟩,
    ⟨_, PySem.W.mg_of X G k_MOST_LINES⟩,
    ⟨_, PySem.W.mg_of X G k_KINDS⟩,
    ⟨_, PySem.W.mg_of X G k_GREATEST_BOTTOM⟩,
    ⟨_, PySem.W.mg_of X G k_GREATEST_BURST⟩,
    ⟨_, PySem.W.mg_of X G k_LONGEST⟩,
    PySem.W.mg_none_of X G z_abs,
    PySem.W.mg_none_of X G z_all,
    PySem.W.mg_none_of X G z_any,
    PySem.W.mg_none_of X G z_bool,
    PySem.W.mg_none_of X G z_enumerate,
    PySem.W.mg_none_of X G z_int,
    PySem.W.mg_none_of X G z_isinstance,
    PySem.W.mg_none_of X G z_len,
    PySem.W.mg_none_of X G z_list,
    PySem.W.mg_none_of X G z_max,
    PySem.W.mg_none_of X G z_min,
    PySem.W.mg_none_of X G z_range,
    PySem.W.mg_none_of X G z_sorted,
    PySem.W.mg_none_of X G z_sum,
    PySem.W.mg_none_of X G z_tuple,
    PySem.W.mg_none_of X G z_zip⟩

/-! ### heaps -/
theorem dec_int {a b : Int} : decide (V.int a = V.int b) = decide (a = b) := decide_eq_decide.mpr ⟨fun e => V.int.inj e, fun e => by rw [e]⟩
theorem dec_self {a : V} : decide (a = a) = true := decide_eq_true rfl
theorem same_upd {H : Hp} {p : Addr} {o : HO} (h : H p = none) : Same H (upd H p o) := fun b x e => by
  rw [upd_ne (ne_of_none e h)]
  exact e
theorem same_to {H H1 : Hp} {p : Addr} {o : HO} (s : Same H H1) (h : H p = none) : Same H (upd H1 p o) := fun b x e => by
  rw [upd_ne (ne_of_none e h)]
  exact s b x e
/-- as H but at x, new objects apart -/
def Kp (x : Addr) (H H' : Hp) : Prop := ∀ q o, q ≠ x → H q = some o → H' q = some o
theorem Kp.same {x : Addr} {H H1 H2 : Hp} (a : Kp x H H1) (b : Same H1 H2) : Kp x H H2 := fun q o hq h => b _ _ (a q o hq h)
theorem kp_of {H H' : Hp} (a : Same H H') (x : Addr) : Kp x H H' := fun q o _ h => a q o h
theorem Kp.upd {x : Addr} {H H1 : Hp} {o : HO} (a : Kp x H H1) : Kp x H (upd H1 x o) := fun q u hq h => by
  rw [upd_ne hq]
  exact a q u hq h
theorem Kp.trans {h : Addr} {H H1 H2 : Hp} (a : Kp h H H1) (b : Kp h H1 H2) : Kp h H H2 := fun q o hq e => b q o hq (a q o hq e)
theorem Kp.free {h p : Addr} {H H' : Hp} (a : Kp h H H') (hp : p ≠ h) (e : H' p = none) : H p = none := by
  cases q : H p with
  | none => rfl
  | some o =>
    rw [a p o hp q] at e
    cases e
theorem small1000 {n : Nat} (h : n < 1000) : n < sizeLine := Nat.lt_trans h (by decide)
theorem ne_of {H : Hp} {p q : Addr} {o u : HO} (hp : H p = some o) (hq : H q = some u) (h : o ≠ u) : p ≠ q := fun e => by
  rw [e, hq] at hp
  exact h (Option.some.inj hp).symm
def NT (o : HO) : Prop := ∀ ps, o ≠ .tbl ps
/-- as H but at h, tables apart -/
def Mv (h : Addr) (H H' : Hp) : Prop := ∀ q o, q ≠ h → H q = some o → NT o → H' q = some o
theorem Mv.of {h : Addr} {H H' : Hp} (k : Kp h H H') : Mv h H H' := fun q o hq e _ => k q o hq e
theorem Mv.same {h : Addr} {H H' : Hp} (k : Same H H') : Mv h H H' := fun q o _ e _ => k q o e
theorem Mv.ext {h : Addr} {H H' : Hp} (k : LamX.ExtN H H') : Mv h H H' := fun q o _ e n => k q o e n
theorem Mv.trans {h : Addr} {H H1 H2 : Hp} (a : Mv h H H1) (b : Mv h H1 H2) : Mv h H H2 := fun q o hq e n => b q o hq (a q o hq e n) n
theorem nt_lst {xs : List V} : NT (.lst xs) := fun _ z => by cases z
theorem nt_tup {xs : List V} : NT (.tup xs) := fun _ z => by cases z
theorem nt_ins {a b : Addr} {fs : List (Str × V)} : NT (.ins a b fs) := fun _ z => by cases z
theorem nt_dK {kvs : List (Key × V)} : NT (.dK kvs) := fun _ z => by cases z
/-! ### things of any sort, told as data -/
inductive Td where
  | int (i : Int) | bl (b : Bool) | non | str (s : Str) | tup (ds : List Td) | oth
mutual
/-- v tells d; what may change (the list at h) is none of it -/
inductive Is (h : Addr) (H : Hp) : V → Td → Prop
  | int (i : Int) : Is h H (.int i) (.int i)
  | bl (b : Bool) : Is h H (.bl b) (.bl b)
  | non : Is h H .non .non
  | str (s : Str) : Is h H (.str s) (.str s)
  | tup {a : Addr} {xs : List V} {ds : List Td} : H a = some (.tup xs) → IsL h H xs ds → Is h H (.ref a) (.tup ds)
  | lst {a : Addr} {xs : List V} : H a = some (.lst xs) → a ≠ h → Is h H (.ref a) .oth
  | dK {a : Addr} {kvs : List (Key × V)} : H a = some (.dK kvs) → Is h H (.ref a) .oth
inductive IsL (h : Addr) (H : Hp) : List V → List Td → Prop
  | nil : IsL h H [] []
  | cons {v : V} {d : Td} {vs : List V} {ds : List Td} : Is h H v d → IsL h H vs ds → IsL h H (v :: vs) (d :: ds)
end
section
variable {h : Addr} {H H' : Hp}
theorem Is.mv {v : V} {d : Td} (t : Is h H v d) (k : Mv h H H') (hh : ∃ ys, H h = some (.lst ys)) : Is h H' v d := by
  obtain ⟨ys, hh⟩ := hh
  refine Is.rec (motive_1 := fun v d _ => Is h H' v d) (motive_2 := fun vs ds _ => IsL h H' vs ds) (fun i => .int i) (fun b => .bl b) .non (fun s => .str s) (fun e _ ih => .tup (k _ _ (ne_of e hh (by intro z; cases z)) e nt_tup) ih)
    (fun e n => .lst (k _ _ n e nt_lst) n) (fun e => .dK (k _ _ (ne_of e hh (by intro z; cases z)) e nt_dK)) .nil (fun _ _ a b => .cons a b) t
theorem IsL.mv {vs : List V} {ds : List Td} (t : IsL h H vs ds) (k : Mv h H H') (hh : ∃ ys, H h = some (.lst ys)) : IsL h H' vs ds := by
  obtain ⟨ys, hh⟩ := hh
  refine IsL.rec (motive_1 := fun v d _ => Is h H' v d) (motive_2 := fun vs ds _ => IsL h H' vs ds) (fun i => .int i) (fun b => .bl b) .non (fun s => .str s) (fun e _ ih => .tup (k _ _ (ne_of e hh (by intro z; cases z)) e nt_tup) ih)
    (fun e n => .lst (k _ _ n e nt_lst) n) (fun e => .dK (k _ _ (ne_of e hh (by intro z; cases z)) e nt_dK)) .nil (fun _ _ a b => .cons a b) t
theorem Is.same {v : V} {d : Td} (t : Is h H v d) (s : Same H H') : Is h H' v d := by
  refine Is.rec (motive_1 := fun v d _ => Is h H' v d) (motive_2 := fun vs ds _ => IsL h H' vs ds) (fun i => .int i) (fun b => .bl b) .non (fun s => .str s) (fun e _ ih => .tup (s _ _ e) ih)
    (fun e n => .lst (s _ _ e) n) (fun e => .dK (s _ _ e)) .nil (fun _ _ a b => .cons a b) t
theorem IsL.same {v : List V} {d : List Td} (t : IsL h H v d) (s : Same H H') : IsL h H' v d := by
  refine IsL.rec (motive_1 := fun v d _ => Is h H' v d) (motive_2 := fun vs ds _ => IsL h H' vs ds) (fun i => .int i) (fun b => .bl b) .non (fun s => .str s) (fun e _ ih => .tup (s _ _ e) ih)
    (fun e n => .lst (s _ _ e) n) (fun e => .dK (s _ _ e)) .nil (fun _ _ a b => .cons a b) t
theorem IsL.len : ∀ {vs : List V} {ds : List Td}, IsL h H vs ds → vs.length = ds.length
  | _, _, .nil => rfl
  | _, _, .cons _ t => by rw [List.length_cons, List.length_cons, t.len]
theorem IsL.get : ∀ {vs : List V} {ds : List Td}, IsL h H vs ds → ∀ {i : Nat} {v : V}, vs[i]? = some v → ∃ d, ds[i]? = some d ∧ Is h H v d
  | _, _, .cons a _, 0, _, e => by
    cases e
    exact ⟨_, rfl, a⟩
  | _, _, .cons _ t, i + 1, _, e => by
    obtain ⟨d, e1, e2⟩ := t.get (i := i) e
    exact ⟨d, e1, e2⟩
theorem IsL.append : ∀ {vs us : List V} {ds es : List Td}, IsL h H vs ds → IsL h H us es → IsL h H (vs ++ us) (ds ++ es)
  | _, _, _, _, .nil, t => t
  | _, _, _, _, .cons a r, t => .cons a (r.append t)
theorem IsL.three {x y z : V} {ds : List Td} (t : IsL h H [x, y, z] ds) : ∃ a b c, ds = [a, b, c] ∧ Is h H x a ∧ Is h H y b ∧ Is h H z c := by
  cases t with
  | cons a t => cases t with
    | cons b t => cases t with
      | cons c t => cases t with
        | nil => exact ⟨_, _, _, rfl, a, b, c⟩
theorem IsL.ints : ∀ {ns : List Int}, IsL h H (ns.map V.int) (ns.map Td.int)
  | [] => .nil
  | n :: ns => .cons (.int n) IsL.ints
end
def isI : Td → Bool
  | .int _ => true
  | _ => false
def isBl : Td → Bool
  | .bl _ => true
  | _ => false
def isT : Td → Bool
  | .tup _ => true
  | _ => false
/-- an integer from lo to hi -/
def inI (lo hi : Int) : Td → Bool
  | .int i => decide (lo ≤ i) && decide (i ≤ hi)
  | _ => false
def tupN (n : Int) : Td → Bool
  | .tup ds => decide ((ds.length : Int) = n)
  | _ => false
section
variable {P : Program} {w : World} {K : PySem.W.Frag} {mg : Str → Option Value} {base : Heap} {A : Adr}
theorem kitQ {a b : String} {r r' : Bool} (h : kitB a b = some r) (e : r' = r) : PySem.W.kitOne K (.type a) (.type b) = some r' := by
  rw [e]
  exact kit_ty h
theorem is_ty (T : Top K mg A) {h : Addr} {H : Hp} {x : V} {d : Td} (t : Is h H x d) : ∃ t, TyX K H x t ∧ PySem.W.kitOne K t (.type "int") = some (isI d || isBl d) ∧ PySem.W.kitOne K t (.type "bool") = some (isBl d) ∧ PySem.W.kitOne K t (.type "tuple") = some (isT d) := by
  cases t with
  | non => exact ⟨_, .base .non, kitQ (a := "NoneType") (b := "int") (r := false) (by decide +kernel) rfl, kitQ (a := "NoneType") (b := "bool") (r := false) (by decide +kernel) rfl, kitQ (a := "NoneType") (b := "tuple") (r := false) (by decide +kernel) rfl⟩
  | bl b => exact ⟨_, .base (.bl b), kitQ (a := "bool") (b := "int") (r := true) (by decide +kernel) rfl, kitQ (a := "bool") (b := "bool") (r := true) (by decide +kernel) rfl, kitQ (a := "bool") (b := "tuple") (r := false) (by decide +kernel) rfl⟩
  | int i => exact ⟨_, .base (.int i), kitQ (a := "int") (b := "int") (r := true) (by decide +kernel) rfl, kitQ (a := "int") (b := "bool") (r := false) (by decide +kernel) rfl, kitQ (a := "int") (b := "tuple") (r := false) (by decide +kernel) rfl⟩
  | str s => exact ⟨_, .base (.str s), kitQ (a := "str") (b := "int") (r := false) (by decide +kernel) rfl, kitQ (a := "str") (b := "bool") (r := false) (by decide +kernel) rfl, kitQ (a := "str") (b := "tuple") (r := false) (by decide +kernel) rfl⟩
  | tup e l => exact ⟨_, .base (.tup e), kitQ (a := "tuple") (b := "int") (r := false) (by decide +kernel) rfl, kitQ (a := "tuple") (b := "bool") (r := false) (by decide +kernel) rfl, kitQ (a := "tuple") (b := "tuple") (r := true) (by decide +kernel) rfl⟩
  | lst e n => exact ⟨_, .base (.lst e), kitQ (a := "list") (b := "int") (r := false) (by decide +kernel) rfl, kitQ (a := "list") (b := "bool") (r := false) (by decide +kernel) rfl, kitQ (a := "list") (b := "tuple") (r := false) (by decide +kernel) rfl⟩
  | dK e => exact ⟨_, .base (.dK e), kitQ (a := "dict") (b := "int") (r := false) (by decide +kernel) rfl, kitQ (a := "dict") (b := "bool") (r := false) (by decide +kernel) rfl, kitQ (a := "dict") (b := "tuple") (r := false) (by decide +kernel) rfl⟩
theorem isT_of {h : Addr} {H : Hp} {x : V} {d : Td} (t : Is h H x d) (c : isT d = true) : ∃ a xs ds, x = .ref a ∧ d = .tup ds ∧ H a = some (.tup xs) ∧ IsL h H xs ds := by
  cases t with
  | tup e l => exact ⟨_, _, _, rfl, rfl, e, l⟩
  | _ => cases c
/-! ### what counts as an integer -/
def spIsInteger : Sp := fun vs H Q _ => ∃ x d h, vs = [x] ∧ Is h H x d ∧ Q (.bl (isI d)) H
theorem ok_is_integer (T : Top K mg A) : FnOk P w K mg base CX0 1 A.a_is_integer A.d_is_integer P_is_integer spIsInteger := by
  refine T.F_is_integer.ok sc_is_integer (fun vs H Q E h => ?_) (fun cdv A' outer s H vs Q E hr h => ?_)
  · obtain ⟨x, d, h, rfl, _⟩ := h
    rfl
  · obtain ⟨x, d, h, rfl, ht, k⟩ := h
    obtain ⟨t, ty, e1, e2, _⟩ := is_ty T ht
    refine ⟨_, (pss_one (ps_ret (pe_and (pe_callB call_isi (by rfl) T.z_isinstance (by decide +kernel) (pa_cons (pv 0) (pa_cons (pe_bltn (v := .ty "int") (by rfl) T.z_int (by decide +kernel) rfl) pa_nil))) (pe_one (pe_not (pe_callB call_isi (by rfl) T.z_isinstance (by decide +kernel) (pa_cons (pv 0) (pa_cons (pe_bltn (v := .ty "bool") (by rfl) T.z_bool (by decide +kernel) rfl) pa_nil)))))))), ?_⟩
    refine ⟨_, rfl, _, _, _, _, _, rfl, .ty "int", ty, e1, (isI d || isBl d), rfl, ?_⟩
    cases c : (isI d || isBl d) with
    | false =>
      refine iteF ?_
      have q : isI d = false := by
        cases d <;> first | rfl | cases c
      rw [q] at k
      exact k
    | true =>
      refine iteT ?_
      refine ⟨_, rfl, _, _, _, _, _, rfl, .ty "bool", ty, e2, _, rfl, ?_⟩
      have q : isI d = !isBl d := by
        cases d <;> first | rfl | cases c
      rw [q] at k
      exact k
theorem is_int {h : Addr} {H : Hp} {x : V} {d : Td} (t : Is h H x d) (c : isI d = true) : ∃ i, x = .int i ∧ d = .int i := by
  cases t with
  | int i => exact ⟨i, rfl, rfl⟩
  | _ => cases c
theorem inI_no {lo hi : Int} {d : Td} (c : isI d = false) : inI lo hi d = false := by
  cases d with
  | int i => cases c
  | _ => rfl
def spIIF : Sp := fun vs H Q _ => ∃ (lo hi : Int) (x : V) (d : Td) (h : Addr), vs = [.int lo, .int hi, x] ∧ Is h H x d ∧ Q (.bl (inI lo hi d)) H
theorem ok_is_integer_from (T : Top K mg A) : FnOk P w K mg base CX0 2 A.a_is_integer_from A.d_is_integer_from P_is_integer_from spIIF := by
  refine T.F_is_integer_from.ok sc_is_integer_from (fun vs H Q E h => ?_) (fun cdv A' outer s H vs Q E hr h => ?_)
  · obtain ⟨lo, hi, x, d, h, rfl, _⟩ := h
    rfl
  · obtain ⟨lo, hi, x, d, h, rfl, ht, k⟩ := h
    refine ⟨_, (pss_one (ps_ret (pe_and (pe_call (ok_is_integer T) (hr.mono (by decide)) (by rfl) T.g_is_integer T.F_is_integer.kp T.b_is_integer .nil pass0 (pa_cons (pv 2) pa_nil)) (pe_one (pe_chain op_le op_le (pv 0) (pv 2) (pv 1)))))), ?_⟩
    refine ⟨_, rfl, x, d, h, rfl, ht, _, rfl, ?_⟩
    cases c : isI d with
    | true =>
      obtain ⟨i, rfl, rfl⟩ := is_int ht c
      refine iteT ?_
      refine ⟨_, rfl, _, rfl, _, _, rfl, rfl, _, rfl, ?_⟩
      by_cases c : lo ≤ i
      · simp only [inI, decide_eq_true c, Bool.true_and] at k
        rw [decide_eq_true c]
        refine iteT ⟨_, rfl, _, _, rfl, rfl, k⟩
      · simp only [inI, decide_eq_false c, Bool.false_and] at k
        rw [decide_eq_false c]
        exact iteF k
    | false =>
      rw [inI_no c] at k
      exact iteF k
def spINB : Sp := fun vs H Q _ => ∃ (n : Int) (x : V) (d : Td) (h : Addr), vs = [.int n, x] ∧ Is h H x d ∧ Q (.bl (inI 0 (n - 1) d)) H
theorem ok_is_number_below (T : Top K mg A) : FnOk P w K mg base CX0 3 A.a_is_number_below A.d_is_number_below P_is_number_below spINB := by
  refine T.F_is_number_below.ok sc_is_number_below (fun vs H Q E h => ?_) (fun cdv A' outer s H vs Q E hr h => ?_)
  · obtain ⟨n, x, d, h, rfl, _⟩ := h
    rfl
  · obtain ⟨n, x, d, h, rfl, ht, k⟩ := h
    refine ⟨_, (pss_one (ps_ret (pe_call (ok_is_integer_from T) (hr.mono (by decide)) (by rfl) T.g_is_integer_from T.F_is_integer_from.kp T.b_is_integer_from .nil pass0 (pa_cons pe_int (pa_cons (pe_op op_sub (pv 0) pe_int) (pa_cons (pv 1) pa_nil)))))), ?_⟩
    exact ⟨_, rfl, _, _, rfl, rfl, _, rfl, _, _, _, _, _, rfl, ht, k⟩
theorem tupN_no {n : Int} {d : Td} (c : isT d = false) : tupN n d = false := by
  cases d with
  | tup i => cases c
  | _ => rfl
def spITO : Sp := fun vs H Q _ => ∃ (n : Int) (x : V) (d : Td) (h : Addr), vs = [.int n, x] ∧ Is h H x d ∧ Q (.bl (tupN n d)) H
theorem ok_is_tuple_of (T : Top K mg A) : FnOk P w K mg base CX0 1 A.a_is_tuple_of A.d_is_tuple_of P_is_tuple_of spITO := by
  refine T.F_is_tuple_of.ok sc_is_tuple_of (fun vs H Q E h => ?_) (fun cdv A' outer s H vs Q E hr h => ?_)
  · obtain ⟨n, x, d, h, rfl, _⟩ := h
    rfl
  · obtain ⟨n, x, d, h, rfl, ht, k⟩ := h
    obtain ⟨t, ty, _, _, e3⟩ := is_ty T ht
    refine ⟨_, (pss_one (ps_ret (pe_and (pe_callB call_isi (by rfl) T.z_isinstance (by decide +kernel) (pa_cons (pv 1) (pa_cons (pe_bltn (v := .ty "tuple") (by rfl) T.z_tuple (by decide +kernel) rfl) pa_nil))) (pe_one (pe_cmpR op_eq (pe_callB call_len_seq (by rfl) T.z_len (by decide +kernel) (pa_cons (pv 1) pa_nil)) (pv 0) (nomark _)))))), ?_⟩
    refine ⟨_, rfl, _, _, _, _, _, rfl, .ty "tuple", ty, e3, _, rfl, ?_⟩
    cases c : isT d with
    | false =>
      rw [tupN_no c] at k
      exact iteF k
    | true =>
      obtain ⟨a, xs, ds, rfl, rfl, ha, hl⟩ := isT_of ht c
      refine iteT ?_
      refine ⟨_, rfl, _, _, rfl, .inr (SqT.of ha), _, rfl, rfl, ?_⟩
      rw [dec_int, hl.len]
      exact k
end

section
variable {P : Program} {w : World} {K : PySem.W.Frag} {mg : Str → Option Value} {base : Heap} {A : Adr}
/-! ### the hand: a list of five, [the script's numbers, place, rest, mix, turns] -/
theorem upd_upd {H : Hp} {a : Addr} {o u : HO} : upd (upd H a o) a u = upd H a u := by
  funext b
  by_cases h : b = a
  · subst h
    rw [upd_same, upd_same]
  · rw [upd_ne h, upd_ne h, upd_ne h]
def handO (g : Addr) (i m s t : Int) : HO := .lst [.ref g, .int i, .int m, .int s, .int t]
/-- the hand stands at h, its numbers at g -/
structure HandAt (H : Hp) (h g : Addr) : Prop where
  cells : ∃ ns : List Int, H g = some (.lst (ns.map V.int))
  five : ∃ i m s t, H h = some (handO g i m s t) ∧ 0 ≤ i ∧ -(2 ^ 64) < s ∧ s < 2 ^ 64
  ne : h ≠ g
/-- as H but at h -/
def But (h : Addr) (H H' : Hp) : Prop := ∀ b, b ≠ h → H' b = H b
theorem But.upd {h : Addr} {H : Hp} {o : HO} : But h H (upd H h o) := fun _ hb => upd_ne hb
theorem But.trans {h : Addr} {H H1 H2 : Hp} (a : But h H H1) (b : But h H1 H2) : But h H H2 := fun c hc => (b c hc).trans (a c hc)
theorem But.refl (h : Addr) (H : Hp) : But h H H := fun _ _ => rfl
theorem hand_upd {H : Hp} {h g : Addr} (a : HandAt H h g) {i m s t : Int} (hi : 0 ≤ i) (hs : -(2 ^ 64) < s) (hs2 : s < 2 ^ 64) : HandAt (upd H h (handO g i m s t)) h g :=
  ⟨by
    obtain ⟨ns, e⟩ := a.cells
    exact ⟨ns, by rw [upd_ne a.ne.symm]; exact e⟩, ⟨i, m, s, t, upd_same, hi, hs, hs2⟩, a.ne⟩
def spDraw : Sp := fun vs H Q _ => ∃ (h g : Addr) (n : Int), vs = [.ref h, .int n] ∧ HandAt H h g ∧ 0 < n ∧ n < 1073741824 ∧ ∀ (H' : Hp) (d : Int), But h H H' → HandAt H' h g → 0 ≤ d → d < n → Q (.int d) H'
theorem ixn5 {g : Addr} {i m s t : Int} {v : V} : ∀ j : Nat, [V.ref g, V.int i, V.int m, V.int s, V.int t][j]? = some v → atI [V.ref g, V.int i, V.int m, V.int s, V.int t] (j : Int) = some v := fun j h => atI_nat h
theorem ok_law_draw (T : Top K mg A) : FnOk P w K mg base CX0 1 A.a_law_draw A.d_law_draw P_law_draw spDraw := by
  refine T.F_law_draw.ok sc_law_draw (fun vs H Q E h => ?_) (fun cdv A outer s H vs Q E hr h => ?_)
  · obtain ⟨h, g, n, rfl, _⟩ := h
    rfl
  · obtain ⟨h, g, n, rfl, ha, hn, hn2, k⟩ := h
    obtain ⟨ns, eg⟩ := ha.cells
    obtain ⟨i, m, sd, t, eh, hi, hs1, hs2⟩ := ha.five
    have hne := ha.ne
    refine ⟨_, (Evl.pss_cut (ps_if (PW.pt (pw_and (pt_cmpR op_eq (pe_ix ix_list (pv 0) pe_int (fun _ _ => rfl)) pe_int (nomark _)) (pw_and1 (pt_cmpR op_lt (pe_ix ix_list (pv 0) pe_int (fun _ _ => rfl)) (pe_callB call_len_seq (by rfl) T.z_len (by decide +kernel) (pa_cons (pe_ix ix_list (pv 0) pe_int (fun _ _ => rfl)) pa_nil)) (nomark _))))) (pss_cons (ps_set (i := 2) sc_law_draw.nd rfl (.inl rfl) (pe_ix ix_list (pe_ix ix_list (pv 0) pe_int (fun _ _ => rfl)) (pe_ix ix_list (pv 0) pe_int (fun _ _ => rfl)) (fun _ _ => rfl)))
    (pss_cons (ps_asg (pe_op op_add (pe_ix ix_list (pv 0) pe_int (fun _ _ => rfl)) pe_int) (pg_sub (pv 0) pe_int set_list))
    (pss_cons (ps_asg (pe_op op_mod (pe_callTy call_int1 (by rfl) T.z_int (by decide +kernel) (pa_cons (pe_op op_add (pe_op op_add (pe_op op_mul (pe_ix ix_list (pv 0) pe_int (fun _ _ => rfl)) pe_int) (pv 2)) pe_int) pa_nil)) pe_int) (pg_sub (pv 0) pe_int set_list))
    (pss_one (ps_if (pt_cmpR op_ge (pv 2) (pe_op op_pow pe_int pe_int) (nomark _)) (pss_one (ps_asg (pv 2) (pg_sub (pv 0) pe_int set_list))) pss_nil))))) pss_nil)
    (pss_cons (ps_if (pt_cmpR op_gt (pe_ix ix_list (pv 0) pe_int (fun _ _ => rfl)) pe_int (nomark _)) (pss_cons (ps_set (i := 3) sc_law_draw.nd rfl (.inl rfl) (pe_op op_mod (pe_callTy call_int1 (by rfl) T.z_int (by decide +kernel) (pa_cons (pe_ix ix_list (pv 0) pe_int (fun _ _ => rfl)) pa_nil)) (pv 1)))
    (pss_cons (ps_asg (pe_op op_fdiv (pe_ix ix_list (pv 0) pe_int (fun _ _ => rfl)) (pv 1)) (pg_sub (pv 0) pe_int set_list))
    (pss_one (ps_ret (pv 3))))) pss_nil)
    (pss_cons (ps_asg (pe_op op_add (pe_ix ix_list (pv 0) pe_int (fun _ _ => rfl)) pe_int) (pg_sub (pv 0) pe_int set_list))
    (pss_cons (ps_set (i := 4) sc_law_draw.nd rfl (.inl rfl) (pe_op op_mod (pe_callTy call_int1 (by rfl) T.z_int (by decide +kernel) (pa_cons (pe_op op_mul (pe_callTy call_int1 (by rfl) T.z_int (by decide +kernel) (pa_cons (pe_op op_add (pe_ix ix_list (pv 0) pe_int (fun _ _ => rfl)) (pe_op op_mul pe_int (pe_ix ix_list (pv 0) pe_int (fun _ _ => rfl)))) pa_nil)) pe_int) pa_nil)) pe_int))
    (pss_cons (ps_set (i := 4) sc_law_draw.nd rfl (.inl rfl) (pe_op op_mod (pe_callTy call_int1 (by rfl) T.z_int (by decide +kernel) (pa_cons (pe_op op_mul (pv 4) (pe_op op_add (pe_op op_fdiv (pv 4) pe_int) pe_int)) pa_nil)) pe_int))
    (pss_cons (ps_set (i := 4) sc_law_draw.nd rfl (.inl rfl) (pe_op op_mod (pe_callTy call_int1 (by rfl) T.z_int (by decide +kernel) (pa_cons (pe_op op_mul (pv 4) (pe_op op_add (pe_op op_fdiv (pv 4) pe_int) pe_int)) pa_nil)) pe_int))
    (pss_one (ps_ret (pe_op op_mod (pe_callTy call_int1 (by rfl) T.z_int (by decide +kernel) (pa_cons (pe_op op_fdiv (pv 4) pe_int) pa_nil)) (pv 1)))))))))), ?_⟩
    refine ⟨fun σ' H' => ∃ y2, σ' = [some (.ref h), some (.int n), y2, none, none] ∧ But h H H' ∧ HandAt H' h g, ?_, ?_⟩
    · -- the first if
      have stay : ∃ y2, (start N_law_draw [V.ref h, V.int n]) = [some (.ref h), some (.int n), y2, none, none] ∧ But h H H ∧ HandAt H h g := ⟨none, rfl, But.refl h H, ha⟩
      refine ⟨_, rfl, h, _, 2, _, rfl, rfl, SqL.of eh, atI_nat (j := 2) rfl, rfl, _, rfl, ite2 (fun c1 => ?_) (fun _ => iteF stay)⟩
      refine ⟨_, rfl, h, _, 1, _, rfl, rfl, SqL.of eh, atI_nat (j := 1) rfl, _, rfl, h, _, 0, _, rfl, rfl, SqL.of eh, atI_nat (j := 0) rfl, g, _, rfl, .inl (SqL.of eg), _, _, rfl, rfl, _, rfl, ite2 (fun c2 => ?_) (fun _ => stay)⟩
      have c3 : i < (ns.length : Int) := by
        have q := of_decide_eq_true c2
        rw [List.length_map] at q
        exact q
      have hj : i.toNat < ns.length := by omega
      have ej : (ns.map V.int)[i.toNat]? = some (.int ns[i.toNat]) := by
        rw [List.getElem?_map, List.getElem?_eq_getElem hj]
        rfl
      -- cell = hand[0][hand[1]]
      refine ⟨_, rfl, h, _, 0, _, rfl, rfl, SqL.of eh, atI_nat (j := 0) rfl, _, rfl, h, _, 1, _, rfl, rfl, SqL.of eh, atI_nat (j := 1) rfl, g, _, i, _, rfl, rfl, SqL.of eg, at_of (by omega) ej, ?_⟩
      -- hand[1] = hand[1] + 1
      refine ⟨_, rfl, h, _, 1, _, rfl, rfl, SqL.of eh, atI_nat (j := 1) rfl, i, 1, rfl, rfl, _, rfl, h, _, _, 1, rfl, rfl, eh, rfl, ?_⟩
      have eh1 : (upd H h (handO g (i + 1) m sd t)) h = some (handO g (i + 1) m sd t) := upd_same
      -- hand[3] = int(hand[3] * 69621 + cell + 11) % 2147483629
      refine ⟨_, rfl, h, _, 3, _, rfl, rfl, SqL.of eh1, atI_nat (j := 3) rfl, _, _, rfl, rfl, .inl ⟨hs1, hs2⟩, _, rfl, _, _, rfl, rfl, _, _, rfl, rfl, .inl ⟨_, rfl, _, _, rfl, rfl, (by show (0 : Int) < 2147483629; decide), _, rfl, h, _, _, 3, rfl, rfl, eh1, rfl, ?_⟩⟩
      have hm0 := Int.emod_nonneg (sd * 69621 + ns[i.toNat] + 11) (show (2147483629 : Int) ≠ 0 by decide)
      have hm1 := Int.emod_lt_of_pos (sd * 69621 + ns[i.toNat] + 11) (show (0 : Int) < 2147483629 by decide)
      obtain ⟨s2, es⟩ : ∃ s2, (sd * 69621 + ns[i.toNat] + 11) % 2147483629 = s2 := ⟨_, rfl⟩
      rw [es] at hm0 hm1
      rw [show ((fun i j => V.int (i % j)) (sd * 69621 + ns[i.toNat] + 11) 2147483629) = V.int s2 from congrArg V.int es]
      have eh2 : (upd (upd H h (handO g (i + 1) m sd t)) h (handO g (i + 1) m s2 t)) h = some (handO g (i + 1) m s2 t) := upd_same
      have h2 : HandAt (upd (upd H h (handO g (i + 1) m sd t)) h (handO g (i + 1) m s2 t)) h g := by
        rw [upd_upd]
        exact hand_upd ha (by omega) (by omega) (by omega)
      have b2 : But h H (upd (upd H h (handO g (i + 1) m sd t)) h (handO g (i + 1) m s2 t)) := But.upd.trans But.upd
      -- if cell >= 10 ** 18: hand[2] = cell
      refine ⟨_, rfl, 10, 18, rfl, rfl, ⟨by decide, by decide, by decide⟩, _, _, rfl, rfl, _, rfl, ite2 (fun _ => ?_) (fun _ => ⟨_, rfl, b2, h2⟩)⟩
      refine ⟨_, rfl, _, rfl, h, _, _, 2, rfl, rfl, eh2, rfl, ?_⟩
      exact ⟨_, rfl, b2.trans But.upd, hand_upd h2 (by omega) (by omega) (by omega)⟩
    · rintro σ' H1 ⟨y2, rfl, b1, h1⟩
      obtain ⟨i, m, sd, t, eh, hi, hs1, hs2⟩ := h1.five
      -- if hand[2] > 0
      refine ⟨_, rfl, h, _, 2, _, rfl, rfl, SqL.of eh, atI_nat (j := 2) rfl, _, _, rfl, rfl, _, rfl, ite2 (fun c => ?_) (fun _ => ?_)⟩
      · refine ⟨_, rfl, h, _, 2, _, rfl, rfl, SqL.of eh, atI_nat (j := 2) rfl, .inl ⟨_, rfl, _, rfl, _, _, rfl, rfl, hn, ?_⟩⟩
        refine ⟨_, rfl, h, _, 2, _, rfl, rfl, SqL.of eh, atI_nat (j := 2) rfl, _, rfl, _, _, rfl, rfl, ⟨hn, hn2⟩, _, rfl, h, _, _, 2, rfl, rfl, eh, rfl, ?_⟩
        exact ⟨_, rfl, k _ _ (b1.trans But.upd) (hand_upd h1 hi hs1 hs2) (Int.emod_nonneg _ (by omega)) (Int.emod_lt_of_pos _ hn)⟩
      · -- hand[4] = hand[4] + 1
        refine ⟨_, rfl, h, _, 4, _, rfl, rfl, SqL.of eh, atI_nat (j := 4) rfl, _, _, rfl, rfl, _, rfl, h, _, _, 4, rfl, rfl, eh, rfl, ?_⟩
        have eh1 : (upd H1 h (handO g i m sd (t + 1))) h = some (handO g i m sd (t + 1)) := upd_same
        have h3 : HandAt (upd H1 h (handO g i m sd (t + 1))) h g := hand_upd h1 hi hs1 hs2
        -- number = int(int(hand[3] + 7919 * hand[4]) * 48271) % 2147483647
        refine ⟨_, rfl, h, _, 3, _, rfl, rfl, SqL.of eh1, atI_nat (j := 3) rfl, _, rfl, h, _, 4, _, rfl, rfl, SqL.of eh1, atI_nat (j := 4) rfl, _, _, rfl, rfl, .inl ⟨by decide, by decide⟩, _, _, rfl, rfl, .inl ⟨_, rfl, _, _, rfl, rfl, .inr ⟨by decide, by decide⟩, .inl ⟨_, rfl, _, _, rfl, rfl, (by show (0 : Int) < 2147483647; decide), ?_⟩⟩⟩
        have hm0 := Int.emod_nonneg ((sd + 7919 * (t + 1)) * 48271) (show (2147483647 : Int) ≠ 0 by decide)
        have hm1 := Int.emod_lt_of_pos ((sd + 7919 * (t + 1)) * 48271) (show (0 : Int) < 2147483647 by decide)
        generalize ((sd + 7919 * (t + 1)) * 48271) % 2147483647 = x1 at hm0 hm1 ⊢
        refine ⟨_, rfl, _, rfl, _, _, rfl, rfl, ⟨by decide, by decide⟩, _, _, rfl, rfl, _, _, rfl, rfl, .inl ⟨by omega, by omega⟩, .inl ⟨_, rfl, _, _, rfl, rfl, (by show (0 : Int) < 2147483647; decide), ?_⟩⟩
        have hn0 := Int.emod_nonneg (x1 * (x1 / 1009 + 69621)) (show (2147483647 : Int) ≠ 0 by decide)
        have hn1 := Int.emod_lt_of_pos (x1 * (x1 / 1009 + 69621)) (show (0 : Int) < 2147483647 by decide)
        generalize (x1 * (x1 / 1009 + 69621)) % 2147483647 = x2 at hn0 hn1 ⊢
        refine ⟨_, rfl, _, rfl, _, _, rfl, rfl, ⟨by decide, by decide⟩, _, _, rfl, rfl, _, _, rfl, rfl, .inl ⟨by omega, by omega⟩, .inl ⟨_, rfl, _, _, rfl, rfl, (by show (0 : Int) < 2147483399; decide), ?_⟩⟩
        refine ⟨_, rfl, _, _, rfl, rfl, ⟨by decide, by decide⟩, .inl ⟨_, rfl, _, rfl, _, _, rfl, rfl, hn, ?_⟩⟩
        exact k _ _ (b1.trans But.upd) h3 (Int.emod_nonneg _ (by omega)) (Int.emod_lt_of_pos _ hn)
end
section
variable {P : Program} {w : World} {K : PySem.W.Frag} {mg : Str → Option Value} {base : Heap} {A : Adr}
theorem cut_mem {xs : List V} {lo hi : Option Int} {v : V} (h : v ∈ cutV xs lo hi) : v ∈ xs := by
  unfold cutV at h
  first
    | exact List.mem_of_mem_drop (List.mem_of_mem_take h)
    | exact List.mem_of_mem_take (List.mem_of_mem_drop h)
theorem take_map_more {xs : List V} {f : V → Int} {i : Nat} {x : V} (h : xs[i]? = some x) : ((xs.take (i + 1)).map f).map V.int = ((xs.take i).map f).map V.int ++ [V.int (f x)] := by
  rw [List.take_add_one, h, List.map_append, List.map_append]
  rfl
theorem len_cut {xs : List V} {lo hi : Option Int} : (cutV xs lo hi).length ≤ xs.length := by
  unfold cutV
  first
    | (rw [List.length_take, List.length_drop]; omega)
    | (rw [List.length_drop, List.length_take]; omega)
def vInt : V → Int
  | .int n => n
  | _ => 0
def spHand (K : PySem.W.Frag) : Sp := fun vs H Q _ => ∃ (a : Addr) (ns : List Int), vs = [.ref a] ∧ SqL K H a (ns.map V.int) ∧ ns.length ≤ 63 ∧ ∀ (H' : Hp) (h g : Addr), Same H H' → H h = none → H g = none → HandAt H' h g → Q (.ref h) H'
theorem ok_law_hand (T : Top K mg A) : FnOk P w K mg base CX0 1 A.a_law_hand A.d_law_hand P_law_hand (spHand K) := by
  refine T.F_law_hand.ok sc_law_hand (fun vs H Q E h => ?_) (fun cdv A outer s H vs Q E hr h => ?_)
  · obtain ⟨a, ns, rfl, _⟩ := h
    rfl
  · obtain ⟨a, ns, rfl, ha, hn, k⟩ := h
    refine ⟨_, (pss_cons (ps_setLc (i := 1) (own := [("_law_cell", 2)]) (by rfl) sc_law_hand.nd rfl rfl (sw_true rfl rfl rfl (by decide +kernel)) (pi_list (pe_slice sl_list (pv 0) po_none (po_some pe_int))) (blkOk_by (own := [("_law_cell", 2)]) (N := N_law_hand) (sc := defScope s_law_hand) (by decide +kernel)) (fun _ _ _ _ _ => (pg_name (i := 2) sc_law_hand.nd rfl (.inl rfl))) (fun _ _ _ _ _ => pts_nil) (fun _ _ _ _ _ => (pe_callB call_abs (by rfl) T.z_abs (by decide +kernel) (pa_cons (pe_callTy call_int1 (by rfl) T.z_int (by decide +kernel) (pa_cons (pv 2) pa_nil)) pa_nil))))
    (pss_one (ps_ret (pe_lst (pa_cons (pv 1) (pa_cons pe_int (pa_cons pe_int (pa_cons (pe_op op_add pe_int (pe_callB call_len_seq (by rfl) T.z_len (by decide +kernel) (pa_cons (pv 1) pa_nil))) (pa_cons pe_int pa_nil))))))))), ?_⟩
    refine ⟨_, rfl, _, rfl, a, _, rfl, ha, fun p np => ?_⟩
    have sp : Same H (upd H p (.lst (cutV (ns.map V.int) none (some 63)))) := same_upd np
    refine ⟨p, rfl, ⟨_, SqL.of upd_same⟩, fun D hD => ?_⟩
    have hpD : p ≠ D := fun e => by
      rw [← e, upd_same] at hD
      cases hD
    have hDn := sp.free hD
    refine lc_list (K := K) (a := p) (xs := cutV (ns.map V.int) none (some 63)) (fun i H' => Same H H' ∧ H' p = some (.lst (cutV (ns.map V.int) none (some 63))) ∧ ∃ zs : List Int, H' D = some (.lst (zs.map V.int)) ∧ zs.length ≤ i)
      ⟨same_to sp hDn, by rw [upd_ne hpD]; exact upd_same, [], upd_same, Nat.le_refl _⟩ (fun i H' _ h => SqL.of h.2.1) ?_ ?_
    · rintro i x H' hi ⟨s1, p1, zs, d1, l1⟩
      obtain ⟨n, _, rfl⟩ := List.mem_map.mp (cut_mem (List.mem_of_getElem? hi))
      have hi2 : i < 63 := by
        have q := (List.getElem?_eq_some_iff.mp hi).1
        have q2 := len_cut (xs := ns.map V.int) (lo := none) (hi := some 63)
        rw [List.length_map] at q2
        omega
      refine ⟨rfl, ?_⟩
      refine ⟨_, rfl, .inl ⟨_, rfl, _, rfl, _, d1, ?_, same_to s1 hDn, ?_, zs ++ [if n < 0 then -n else n], ?_, ?_⟩⟩
      · rw [List.length_map]
        exact small1000 (by omega)
      · rw [upd_ne hpD]
        exact p1
      · rw [upd_same, List.map_append]
        rfl
      · rw [List.length_append, List.length_singleton]
        omega
    · rintro H' ⟨s1, p1, zs, d1, l1⟩
      have lz : zs.length ≤ 63 := by
        have q2 := len_cut (xs := ns.map V.int) (lo := none) (hi := some 63)
        rw [List.length_map] at q2
        omega
      -- return [given, 0, 0, 1 + len(given), 0]
      refine ⟨_, rfl, _, rfl, D, _, rfl, .inl (SqL.of d1), 1, _, rfl, rfl, (by show 5 ≤ sizeLine; decide), fun h hh => ?_⟩
      have hhD : h ≠ D := fun e => by
        rw [e, d1] at hh
        cases hh
      refine k _ h D (same_to s1 (s1.free hh)) (s1.free hh) hDn ⟨⟨zs, by rw [upd_ne hhD.symm]; exact d1⟩, ⟨0, 0, 1 + (zs.length : Int), 0, ?_, Int.le_refl _, by omega, by omega⟩, hhD⟩
      rw [upd_same, List.length_map]
      rfl
def spAny (K : PySem.W.Frag) : Sp := fun vs H Q _ => ∃ (h g l : Addr) (xs : List V), vs = [.ref h, .ref l] ∧ HandAt H h g ∧ SqL K H l xs ∧ (∀ H', But h H H' → SqL K H' l xs) ∧ 0 < xs.length ∧ xs.length ≤ 100000 ∧ ∀ (H' : Hp) (j : Nat) (v : V), But h H H' → HandAt H' h g → xs[j]? = some v → Q v H'
end
theorem But.kp {h : Addr} {H H' : Hp} (b : But h H H') : Kp h H H' := fun q o hq e => (b q hq).trans e
theorem HandAt.same {h g : Addr} {H H' : Hp} (s : Same H H') (a : HandAt H h g) : HandAt H' h g :=
  ⟨by obtain ⟨ns, e⟩ := a.cells; exact ⟨ns, s _ _ e⟩, by obtain ⟨i, m, s', t, e, q⟩ := a.five; exact ⟨i, m, s', t, s _ _ e, q⟩, a.ne⟩
theorem HandAt.some {h g : Addr} {H : Hp} (a : HandAt H h g) : ∃ ys, H h = some (.lst ys) := by
  obtain ⟨i, m, s', t, e, q⟩ := a.five
  exact ⟨_, e⟩
theorem HandAt.ne_none {h g p : Addr} {H : Hp} (a : HandAt H h g) (hp : H p = none) : p ≠ h := by
  obtain ⟨o, e⟩ := a.some
  exact (ne_of_none e hp).symm
theorem cut_lo {xs : List V} {n : Nat} (h : n ≤ xs.length) : cutV xs none (some (n : Int)) = xs.take n := by
  unfold cutV
  rw [HT.sIx_none, HT.sIx_nat, Nat.min_eq_left h]
  rfl
theorem cut_hi {xs : List V} {n : Nat} (h : n ≤ xs.length) : cutV xs (some (n : Int)) none = xs.drop n := by
  unfold cutV
  rw [HT.sIx_none, HT.sIx_nat, Nat.min_eq_left h]
  exact List.take_of_length_le (by rw [List.length_drop]; omega)
theorem Is.kp {h g : Addr} {H H' : Hp} {v : V} {d : Td} (t : Is h H v d) (k : Kp h H H') (a : HandAt H h g) : Is h H' v d := t.mv (.of k) a.some
theorem IsL.kp {h g : Addr} {H H' : Hp} {v : List V} {d : List Td} (t : IsL h H v d) (k : Kp h H H') (a : HandAt H h g) : IsL h H' v d := t.mv (.of k) a.some
/-- a new tuple, a new list, told as data -/
theorem Is.newT {h : Addr} {H : Hp} {p : Addr} {xs : List V} {ds : List Td} (l : IsL h H xs ds) (np : H p = none) : Is h (upd H p (.tup xs)) (.ref p) (.tup ds) := .tup upd_same (l.same (same_upd np))
theorem Is.newL {h g : Addr} {H : Hp} {p : Addr} {xs : List V} (np : H p = none) (a : HandAt H h g) : Is h (upd H p (.lst xs)) (.ref p) .oth := .lst upd_same (a.ne_none np)

/-! ### what many laws want -/
/-- one by one -/
inductive All2 {α β : Type} (R : α → β → Prop) : List α → List β → Prop where
  | nil : All2 R [] []
  | cons {a : α} {b : β} {as : List α} {bs : List β} : R a b → All2 R as bs → All2 R (a :: as) (b :: bs)
section
variable {α β : Type} {R R' : α → β → Prop}
theorem All2.imp (f : ∀ a b, R a b → R' a b) : ∀ {as : List α} {bs : List β}, All2 R as bs → All2 R' as bs
  | _, _, .nil => .nil
  | _, _, .cons h t => .cons (f _ _ h) (t.imp f)
theorem All2.snoc : ∀ {as : List α} {bs : List β} {a : α} {b : β}, All2 R as bs → R a b → All2 R (as ++ [a]) (bs ++ [b])
  | _, _, _, _, .nil, h => .cons h .nil
  | _, _, _, _, .cons h t, h' => .cons h (t.snoc h')
theorem All2.len : ∀ {as : List α} {bs : List β}, All2 R as bs → as.length = bs.length
  | _, _, .nil => rfl
  | _, _, .cons _ t => by rw [List.length_cons, List.length_cons, t.len]
theorem All2.get : ∀ {as : List α} {bs : List β}, All2 R as bs → ∀ {i : Nat} {b : β}, bs[i]? = some b → ∃ a, as[i]? = some a ∧ R a b
  | _, _, .cons h _, 0, _, e => by
    cases e
    exact ⟨_, rfl, h⟩
  | _, _, .cons _ t, i + 1, _, e => t.get (i := i) e
theorem All2.getL : ∀ {as : List α} {bs : List β}, All2 R as bs → ∀ {i : Nat} {a : α}, as[i]? = some a → ∃ b, bs[i]? = some b ∧ R a b
  | _, _, .cons h _, 0, _, e => by
    cases e
    exact ⟨_, rfl, h⟩
  | _, _, .cons _ t, i + 1, _, e => t.getL (i := i) e
theorem All2.take : ∀ {as : List α} {bs : List β}, All2 R as bs → ∀ n : Nat, All2 R (as.take n) (bs.take n)
  | _, _, _, 0 => .nil
  | _, _, .nil, _ + 1 => .nil
  | _, _, .cons h t, n + 1 => .cons h (t.take n)
theorem All2.drop : ∀ {as : List α} {bs : List β}, All2 R as bs → ∀ n : Nat, All2 R (as.drop n) (bs.drop n)
  | _, _, h, 0 => h
  | _, _, .nil, _ + 1 => .nil
  | _, _, .cons _ t, n + 1 => t.drop n
theorem All2.mem : ∀ {as : List α} {bs : List β}, All2 R as bs → ∀ {b : β}, b ∈ bs → ∃ a ∈ as, R a b
  | _, _, .cons h t, b, m => by
    rcases List.mem_cons.mp m with e | m
    · subst e
      exact ⟨_, List.mem_cons_self, h⟩
    · obtain ⟨a, h1, h2⟩ := t.mem m
      exact ⟨a, List.mem_cons_of_mem _ h1, h2⟩
theorem All2.append : ∀ {as : List α} {bs : List β} {as' : List α} {bs' : List β}, All2 R as bs → All2 R as' bs' → All2 R (as ++ as') (bs ++ bs')
  | _, _, _, _, .nil, h => h
  | _, _, _, _, .cons h t, h' => .cons h (t.append h')
end
/-! ### comprehensions whose items are known -/
def LP (H : Hp) (D : Addr) (vals : List V) (i : Nat) (H' : Hp) : Prop := Same H H' ∧ H' D = some (.lst (vals.take i))
theorem LP.start {H : Hp} {D : Addr} {vals : List V} (nD : H D = none) : LP H D vals 0 (upd H D (.lst [])) := ⟨same_upd nD, upd_same⟩
theorem lcPut {H0 H1 H4 : Hp} {D : Addr} {vals : List V} {i : Nat} {y : V} (nD : H0 D = none) (p : LP H0 D vals i H1) (s : Same H1 H4) (hy : vals[i]? = some y) (few : vals.length ≤ 100000) :
    ∃ acc, H4 D = some (.lst acc) ∧ acc.length < sizeLine ∧ LP H0 D vals (i + 1) (upd H4 D (.lst (acc ++ [y]))) := by
  refine ⟨_, s _ _ p.2, ?_, same_to (p.1.trans s) nD, ?_⟩
  · rw [List.length_take]
    exact Nat.lt_of_le_of_lt (Nat.le_trans (Nat.min_le_right _ _) few) (by decide)
  · rw [upd_same, List.take_add_one, hy]
    rfl
theorem map_at {α β : Type} {f : α → β} {l : List α} {i : Nat} {x : α} (h : l[i]? = some x) : (l.map f)[i]? = some (f x) := by
  rw [List.getElem?_map, h]
  rfl
theorem take_all {α : Type} {l : List α} {n : Nat} (h : n = l.length) : l.take n = l := List.take_of_length_le (by omega)
/-- a new object -/
theorem newS {H : Hp} {o : HO} {Q : VK} (k : ∀ (H' : Hp) (p : Addr), H p = none → Same H H' → H' p = some o → Q (.ref p) H') : ∀ p, H p = none → Q (.ref p) (upd H p o) := fun p n => k _ p n (same_upd n) upd_same
theorem lay_all : ∀ {ds : List PyData}, (∀ x ∈ ds, PyData.canLay0 x = true) → PyData.canLayAll0 ds = true
  | [], _ => rfl
  | x :: ds, h => by
    show (PyData.canLay0 x && PyData.canLayAll0 ds) = true
    rw [h x List.mem_cons_self, lay_all fun y hy => h y (List.mem_cons_of_mem _ hy)]
    rfl
theorem dep_all {n : Nat} : ∀ {ds : List PyData}, (∀ x ∈ ds, PyData.depth x ≤ n) → PyData.depthAll ds ≤ n
  | [], _ => Nat.zero_le _
  | x :: ds, h => by
    show max (PyData.depth x) (PyData.depthAll ds) ≤ n
    exact Nat.max_le.mpr ⟨h x List.mem_cons_self, dep_all fun y hy => h y (List.mem_cons_of_mem _ hy)⟩
/-- data that may be laid, of a depth -/
structure Lay (d : PyData) (n : Nat) : Prop where
  lay : d.canLay0 = true
  dep : d.depth ≤ n
theorem Lay.sh {d : PyData} {n : Nat} (h : Lay d n) (hn : n ≤ 64) : SeqAt.shaped d = true := by
  unfold SeqAt.shaped
  rw [h.lay, decide_eq_true (Nat.le_trans h.dep hn)]
  rfl
theorem Lay.int (i : Int) : Lay (.int i) 0 := ⟨rfl, Nat.le_refl _⟩
theorem Lay.tup {ds : List PyData} {n : Nat} (h : ∀ x ∈ ds, Lay x n) : Lay (.tuple ds) (n + 1) := ⟨lay_all fun x hx => (h x hx).lay, Nat.succ_le_succ (dep_all fun x hx => (h x hx).dep)⟩
theorem Lay.lst {ds : List PyData} {n : Nat} (h : ∀ x ∈ ds, Lay x n) : Lay (.list ds) (n + 1) := ⟨lay_all fun x hx => (h x hx).lay, Nat.succ_le_succ (dep_all fun x hx => (h x hx).dep)⟩
theorem Lay.mono {d : PyData} {n m : Nat} (h : Lay d n) (hm : n ≤ m) : Lay d m := ⟨h.lay, Nat.le_trans h.dep hm⟩
theorem dpAll_of {α : Type} {K : PySem.W.Frag} {H : Hp} {R : α → V → Prop} {f : α → PyData} (g : ∀ a v, R a v → Dp K H v (f a)) : ∀ {as : List α} {vs : List V}, All2 R as vs → DpAll K H vs (as.map f)
  | _, _, .nil => .nil
  | _, _, .cons h t => .cons (g _ _ h) (dpAll_of g t)
theorem eqv_int {i j : Int} : PyData.eqv (.int i) (.int j) = decide (i = j) := by
  show (i == j) = decide (i = j)
  by_cases h : i = j <;> simp [h]
theorem eqvAll_map {α : Type} [DecidableEq α] {f : α → PyData} (h : ∀ a b, PyData.eqv (f a) (f b) = decide (a = b)) : ∀ as bs : List α, PyData.eqvAll (as.map f) (bs.map f) = decide (as = bs)
  | [], [] => rfl
  | [], _ :: _ => rfl
  | _ :: _, [] => rfl
  | a :: as, b :: bs => by
    show (PyData.eqv (f a) (f b) && PyData.eqvAll (as.map f) (bs.map f)) = _
    rw [h, eqvAll_map h as bs]
    by_cases h1 : a = b <;> by_cases h2 : as = bs <;> simp [h1, h2]
def intsD (ns : List Int) : List PyData := ns.map PyData.int
theorem eqv_ints (ns ms : List Int) : PyData.eqv (.list (intsD ns)) (.list (intsD ms)) = decide (ns = ms) := eqvAll_map (fun _ _ => eqv_int) ns ms
theorem eqv_intsT (ns ms : List Int) : PyData.eqv (.tuple (intsD ns)) (.tuple (intsD ms)) = decide (ns = ms) := eqvAll_map (fun _ _ => eqv_int) ns ms
theorem dp_ints {K : PySem.W.Frag} {H : Hp} : ∀ {ns : List Int}, DpAll K H (ns.map V.int) (intsD ns)
  | [] => .nil
  | n :: _ => .cons (.int n) dp_ints
theorem lay_intsL (ns : List Int) : Lay (.list (intsD ns)) 1 := Lay.lst fun x hx => by
  obtain ⟨i, _, rfl⟩ := List.mem_map.mp hx
  exact Lay.int i
theorem lay_intsT (ns : List Int) : Lay (.tuple (intsD ns)) 1 := Lay.tup fun x hx => by
  obtain ⟨i, _, rfl⟩ := List.mem_map.mp hx
  exact Lay.int i
def matD (m : List (List Int)) : PyData := .tuple (m.map fun r => .tuple (intsD r))
theorem eqv_mat (a b : List (List Int)) : PyData.eqv (matD a) (matD b) = decide (a = b) := eqvAll_map (f := fun r => .tuple (intsD r)) eqv_intsT a b
theorem lay_mat (a : List (List Int)) : Lay (matD a) 2 := Lay.tup fun x hx => by
  obtain ⟨r, _, rfl⟩ := List.mem_map.mp hx
  exact lay_intsT r
theorem ixN_at {n j : Nat} (h : j < n) : ixN n (j : Int) = some j := by
  unfold ixN
  rw [if_pos (by omega), if_pos (by omega), Int.toNat_natCast]
theorem flat_len {α : Type} {m : Nat} : ∀ {l : List (List α)}, (∀ r ∈ l, r.length ≤ m) → l.flatten.length ≤ l.length * m
  | [], _ => by simp
  | r :: l, h => by
    rw [List.flatten_cons, List.length_append, List.length_cons, Nat.add_mul, Nat.one_mul]
    have h1 := h r List.mem_cons_self
    have h2 := flat_len (l := l) fun x hx => h x (List.mem_cons_of_mem _ hx)
    omega
theorem take_flat {α : Type} {l : List (List α)} {i : Nat} {r : List α} (h : l[i]? = some r) : (l.take (i + 1)).flatten = (l.take i).flatten ++ r := by
  rw [List.take_add_one, h, List.flatten_append]
  congr 1
  show [r].flatten = r
  rw [List.flatten_cons, List.flatten_nil, List.append_nil]
theorem take_flat_le {α : Type} {l : List (List α)} (n : Nat) : ((l.take n).flatten).length ≤ l.flatten.length := by
  conv => rhs; rw [← List.take_append_drop n l, List.flatten_append, List.length_append]
  omega
theorem newH {H : Hp} {p : Addr} {o : HO} (n : H p = none) : ∃ H', upd H p o = H' ∧ Same H H' ∧ H' p = some o := ⟨_, rfl, same_upd n, upd_same⟩
theorem sl_at {H : Hp} {K : PySem.W.Frag} {b : Addr} {us : List V} {lo hi : Option Int} {Q : VK} (e : H b = some (.tup us)) (q : ∀ H' p, Same H H' → H' p = some (.tup (cutV us lo hi)) → Q (.ref p) H') : rSlA K (.ref b) lo hi H Q := by
  refine ⟨b, us, rfl, SqT.of e, fun ⟨z1, z2⟩ => q _ _ (fun _ _ z => z) ?_, fun _ p np => q _ _ (same_upd np) upd_same⟩
  rw [e]
  unfold cutV
  rw [z1, z2, List.drop_zero, Nat.sub_zero, List.take_length]
/-! ### matchings: (line, output, place) -/
theorem cut_one {xs : List V} : cutV xs (some (1 : Int)) none = xs.drop 1 := by
  cases xs with
  | nil => rfl
  | cons y r =>
    show cutV (y :: r) (some ((1 : Nat) : Int)) none = _
    unfold cutV
    rw [HT.sIx_none, HT.sIx_nat, Nat.min_eq_left (by rw [List.length_cons]; omega)]
    exact List.take_of_length_le (by rw [List.length_drop]; exact Nat.le_refl _)
theorem cat_at {H : Hp} {K : PySem.W.Frag} {a b : Addr} {xs ys : List V} {Q : VK} (e1 : H a = some (.tup xs)) (e2 : H b = some (.tup ys)) (l : xs.length + ys.length ≤ 1000) (q : ∀ H' p, Same H H' → H' p = some (.tup (xs ++ ys)) → Q (.ref p) H') : rCatA K (.ref a) (.ref b) H Q := by
  refine ⟨a, b, xs, ys, rfl, rfl, SqT.of e1, SqT.of e2, Nat.le_trans l (by decide), fun z => ?_, fun _ z => ?_, fun _ _ p np => q _ p (same_upd np) upd_same⟩
  · subst z
    exact q H b (fun _ _ e => e) e2
  · subst z
    exact q H a (fun _ _ e => e) (by rw [List.append_nil]; exact e1)
theorem cut_to {xs : List V} {n : Nat} (h : n ≤ xs.length) : cutV xs none (some (n : Int)) = xs.take n := by
  unfold cutV
  rw [HT.sIx_none, HT.sIx_nat, Nat.min_eq_left h]
  rfl
theorem cut_from {xs : List V} {n : Nat} (h : n ≤ xs.length) : cutV xs (some (n : Int)) none = xs.drop n := by
  unfold cutV
  rw [HT.sIx_none, HT.sIx_nat, Nat.min_eq_left h]
  exact List.take_of_length_le (by rw [List.length_drop]; exact Nat.le_refl _)
/-- all stays but at S -/
def Off (S : List Addr) (H H' : Hp) : Prop := ∀ b o, b ∉ S → H b = some o → H' b = some o
theorem Off.refl (S : List Addr) (H : Hp) : Off S H H := fun _ _ _ h => h
theorem Off.trans {S : List Addr} {H H1 H2 : Hp} (a : Off S H H1) (b : Off S H1 H2) : Off S H H2 := fun c o hc h => b c o hc (a c o hc h)
theorem Off.mono {S S' : List Addr} {H H' : Hp} (a : Off S H H') (h : ∀ b ∈ S, b ∈ S') : Off S' H H' := fun c o hc e => a c o (fun z => hc (h c z)) e
theorem Off.same {S : List Addr} {H H' : Hp} (s : Same H H') : Off S H H' := fun b o _ e => s b o e
theorem Off.upd {S : List Addr} {H : Hp} {p : Addr} {o : HO} (h : p ∈ S) : Off S H (upd H p o) := fun b u hb e => by
  rw [upd_ne (fun z => hb (by rw [z]; exact h))]
  exact e
theorem Off.new {S : List Addr} {H : Hp} {p : Addr} {o : HO} (h : H p = none) : Off S H (L2.upd H p o) := Off.same (same_upd h)

/-! ### rows of buckets -/
abbrev Rw := Option (Int × Int × Int)
def RowAt (H : Hp) : Rw → V → Prop
  | none, v => v = .non
  | some (b, t, k), v => ∃ q, v = .ref q ∧ H q = some (.tup [.int b, .int t, .int k])
theorem RowAt.mv {H H' : Hp} (f : ∀ q xs, H q = some (.tup xs) → H' q = some (.tup xs)) : ∀ {r : Rw} {v : V}, RowAt H r v → RowAt H' r v
  | none, _, h => h
  | some (_, _, _), _, ⟨q, e, e1⟩ => ⟨q, e, f _ _ e1⟩
theorem RowAt.same {H H' : Hp} {r : Rw} {v : V} (t : RowAt H r v) (s : Same H H') : RowAt H' r v := t.mv fun q xs e => s _ _ e
def RowOk (bot : Int) : Rw → Prop
  | none => True
  | some (b, t, k) => (1 ≤ b ∧ b ≤ 20) ∧ (0 ≤ t ∧ t ≤ bot) ∧ 0 ≤ k ∧ k ≤ 7
structure RowsOk (bot : Int) (rs : List Rw) : Prop where
  one : 1 ≤ rs.length
  few : rs.length ≤ 12
  ok : ∀ r ∈ rs, RowOk bot r
  b1 : 1 ≤ bot
  b20 : bot ≤ 20
def RowsAt (H : Hp) (a : Addr) (rs : List Rw) : Prop := ∃ vs, H a = some (.tup vs) ∧ All2 (RowAt H) rs vs
theorem RowsAt.mv {H H' : Hp} {a : Addr} {rs : List Rw} (t : RowsAt H a rs) (f : ∀ q xs, H q = some (.tup xs) → H' q = some (.tup xs)) : RowsAt H' a rs := let ⟨vs, e, al⟩ := t; ⟨vs, f _ _ e, al.imp fun _ _ t => t.mv f⟩
theorem RowsAt.same {H H' : Hp} {a : Addr} {rs : List Rw} (t : RowsAt H a rs) (s : Same H H') : RowsAt H' a rs := t.mv fun q xs e => s _ _ e
def bF (bot : Int) (a : Addr) : List (Str × V) := putF "rows" (.ref a) (putF "bottom" (.int bot) [])
theorem bf1 {bot : Int} {a : Addr} : List.lookup ("bottom" : Str) (bF bot a) = some (V.int bot) := rfl
theorem bf2 {bot : Int} {a : Addr} : List.lookup ("rows" : Str) (bF bot a) = some (V.ref a) := rfl
def BkAt (C : Addr) (H : Hp) (p : Addr) (bot : Int) (rs : List Rw) : Prop := ∃ dx a, H p = some (.ins C dx (bF bot a)) ∧ RowsAt H a rs
theorem BkAt.same {C : Addr} {H H' : Hp} {p : Addr} {bot : Int} {rs : List Rw} (t : BkAt C H p bot rs) (s : Same H H') : BkAt C H' p bot rs := let ⟨dx, a, e, r⟩ := t; ⟨dx, a, s _ _ e, r.same s⟩
theorem tup_kp {h g p : Addr} {H H' : Hp} {xs : List V} (k : Kp h H H') (a : HandAt H h g) (e : H p = some (.tup xs)) : H' p = some (.tup xs) := by
  obtain ⟨_, _, _, _, e5, _⟩ := a.five
  exact k p _ (fun z => by rw [z, e5] at e; cases e) e
theorem BkAt.kp {C h g : Addr} {H H' : Hp} {p : Addr} {bot : Int} {rs : List Rw} (t : BkAt C H p bot rs) (k : Kp h H H') (ha : HandAt H h g) : BkAt C H' p bot rs := by
  obtain ⟨dx, a, e, r⟩ := t
  obtain ⟨_, _, _, _, e5, _⟩ := ha.five
  exact ⟨dx, a, k _ _ (fun z => by rw [z, e5] at e; cases e) e, r.mv fun q xs e => tup_kp k ha e⟩
theorem inI_ok {lo hi i : Int} (h1 : lo ≤ i) (h2 : i ≤ hi) : inI lo hi (.int i) = true := by
  show (decide (lo ≤ i) && decide (i ≤ hi)) = true
  rw [decide_eq_true h1, decide_eq_true h2]
  rfl
theorem putF_len {f : Str} {v : V} : ∀ fs : List (Str × V), (putF f v fs).length ≤ fs.length + 1
  | [] => Nat.le_refl _
  | (g, u) :: fs => by
    unfold putF
    split
    · exact Nat.le_succ _
    · rw [List.length_cons, List.length_cons]
      exact Nat.succ_le_succ (putF_len fs)
section
variable {P : Program} {w : World} {K : PySem.W.Frag} {mg : Str → Option Value} {base : Heap} {A : Adr}
def spBucket : Sp := fun vs H Q _ => ∃ (q : Addr) (bot b t k : Int), vs = [.int bot, .ref q] ∧ H q = some (.tup [.int b, .int t, .int k]) ∧ RowOk bot (some (b, t, k)) ∧ Q (.bl true) H
theorem ok_is_bucket (T : Top K mg A) : FnOk P w K mg base CX0 4 A.a_is_bucket A.d_is_bucket P_is_bucket spBucket := by
  refine T.F_is_bucket.ok sc_is_bucket (fun vs H Q E h => ?_) (fun cdv A' outer s H vs Q E hr h => ?_)
  · obtain ⟨q, bot, b, t, k, rfl, _⟩ := h
    rfl
  · obtain ⟨q, bot, b, t, k, rfl, e, ⟨⟨b1, b2⟩, ⟨t1, t2⟩, k1, k2⟩, kq⟩ := h
    refine ⟨_, (pss_cons (ps_if (pt_not (pt_val (pe_call (ok_is_tuple_of T) (hr.mono (by decide)) (by rfl) T.g_is_tuple_of T.F_is_tuple_of.kp T.b_is_tuple_of .nil pass0 (pa_cons pe_int (pa_cons (pv 1) pa_nil))))) (pss_one (ps_ret pe_bl)) pss_nil)
    (pss_cons (ps_asg (pv 1) (pg_tup rfl (pgs_cons (pg_name (i := 2) sc_is_bucket.nd rfl (.inl rfl)) (pgs_cons (pg_name (i := 3) sc_is_bucket.nd rfl (.inl rfl)) (pgs_cons (pg_name (i := 4) sc_is_bucket.nd rfl (.inl rfl)) pgs_nil)))))
    (pss_cons (ps_if (PW.pt (pw_or (pt_not (pt_val (pe_call (ok_is_integer_from T) (hr.mono (by decide)) (by rfl) T.g_is_integer_from T.F_is_integer_from.kp T.b_is_integer_from .nil pass0 (pa_cons pe_int (pa_cons (pe_glob (v := .int 20) rfl (T.k_GREATEST_BURST).choose_spec ⟨_, rfl⟩) (pa_cons (pv 2) pa_nil)))))) (pw_or1 (pt_not (pt_val (pe_call (ok_is_integer_from T) (hr.mono (by decide)) (by rfl) T.g_is_integer_from T.F_is_integer_from.kp T.b_is_integer_from .nil pass0 (pa_cons pe_int (pa_cons (pv 0) (pa_cons (pv 3) pa_nil))))))))) (pss_one (ps_ret pe_bl)) pss_nil)
    (pss_one (ps_ret (pe_call (ok_is_number_below T) (hr.mono (by decide)) (by rfl) T.g_is_number_below T.F_is_number_below.kp T.b_is_number_below .nil pass0 (pa_cons (pe_glob (v := .int 8) rfl (T.k_KINDS).choose_spec ⟨_, rfl⟩) (pa_cons (pv 4) pa_nil)))))))), ?_⟩
    have iq : Is 0 H (.ref q) (.tup [.int b, .int t, .int k]) := .tup e (.cons (.int _) (.cons (.int _) (.cons (.int _) .nil)))
    refine ⟨_, rfl, 3, _, _, 0, rfl, iq, true, rfl, iteF ?_⟩
    refine ⟨_, rfl, q, _, rfl, SqT.of e, rfl, _, _, rfl, _, _, rfl, _, _, rfl, rfl, ?_⟩
    refine ⟨_, rfl, 1, 20, _, _, 0, rfl, .int b, true, congrArg V.bl (inI_ok b1 b2), iteF ?_⟩
    refine ⟨_, rfl, _, rfl, 0, bot, _, _, 0, rfl, .int t, true, congrArg V.bl (inI_ok t1 t2), iteF ?_⟩
    refine ⟨_, rfl, 8, _, _, 0, rfl, .int k, ?_⟩
    rw [inI_ok k1 (show k ≤ 8 - 1 by omega)]
    exact kq
def spInit (C : Addr) : Sp := fun vs H Q _ => ∃ (p dx a : Addr) (bot : Int) (rs : List Rw), vs = [.ref p, .int bot, .ref a] ∧ H p = some (.ins C dx []) ∧ RowsAt H a rs ∧ RowsOk bot rs ∧ ∀ H', Kp p H H' → H' p = some (.ins C dx (bF bot a)) → Q .non H'
theorem ok_Buckets___init__ (T : Top K mg A) : FnOk P w K mg base CX0 5 A.a_Buckets___init__ A.d_Buckets___init__ P_Buckets___init__ (spInit A.c_Buckets) := by
  refine T.F_Buckets___init__.ok sc_Buckets___init__ (fun vs H Q E h => ?_) (fun cdv A' outer s H vs Q E hr h => ?_)
  · obtain ⟨p, dx, a, bot, rs, rfl, _⟩ := h
    rfl
  · obtain ⟨p, dx, a, bot, rs, rfl, ep, ⟨vs, ea, al⟩, ok, k⟩ := h
    refine ⟨_, (pss_cons (ps_if (pt_not (pt_val (pe_call (ok_is_integer_from T) (hr.mono (by decide)) (by rfl) T.g_is_integer_from T.F_is_integer_from.kp T.b_is_integer_from .nil pass0 (pa_cons pe_int (pa_cons (pe_glob (v := .int 20) rfl (T.k_GREATEST_BOTTOM).choose_spec ⟨_, rfl⟩) (pa_cons (pv 1) pa_nil)))))) (pss_one ps_never) pss_nil)
    (pss_cons (ps_if (PW.pt (pw_or (pt_not (pt_val (pe_callB call_isi (by rfl) T.z_isinstance (by decide +kernel) (pa_cons (pv 2) (pa_cons (pe_bltn (v := .ty "tuple") (by rfl) T.z_tuple (by decide +kernel) rfl) pa_nil))))) (pw_or1 (pt_not (pt_chain op_le op_le pe_int (pe_callB call_len_seq (by rfl) T.z_len (by decide +kernel) (pa_cons (pv 2) pa_nil)) (pe_glob (v := .int 12) rfl (T.k_MOST_LINES).choose_spec ⟨_, rfl⟩)))))) (pss_one ps_never) pss_nil)
    (pss_cons (ps_for PassesOwn.never rfl (GE.pi_enumA (by rfl) T.z_enumerate (pa_cons (pv 2) pa_nil)) (pg_tup rfl (pgs_cons (pg_name (i := 3) sc_Buckets___init__.nd rfl (.inl rfl)) (pgs_cons (pg_name (i := 4) sc_Buckets___init__.nd rfl (.inl rfl)) pgs_nil))) (pss_one (ps_if (PW.pt (pw_and (pt_cmpR op_notN (pv 4) pe_non (nomark _)) (pw_and1 (pt_not (pt_val (pe_call (ok_is_bucket T) (hr.mono (by decide)) (by rfl) T.g_is_bucket T.F_is_bucket.kp T.b_is_bucket .nil pass0 (pa_cons (pv 1) (pa_cons (pv 4) pa_nil)))))))) (pss_one ps_never) pss_nil)))
    (pss_cons (ps_fld (pv 0) (pv 1) (by rfl))
    (pss_one (ps_fld (pv 0) (pv 2) (by rfl))))))), ?_⟩
    have lv := al.len
    have one := ok.one
    have few := ok.few
    refine ⟨_, rfl, 1, 20, _, _, 0, rfl, .int bot, true, congrArg V.bl (inI_ok ok.b1 ok.b20), iteF ?_⟩
    refine ⟨_, rfl, _, _, _, _, _, rfl, .ty "tuple", .base (.tup ea), kitQ (a := "tuple") (b := "tuple") (r := true) (by decide +kernel) rfl, _, rfl, iteF ?_⟩
    refine ⟨_, rfl, _, _, rfl, .inr (SqT.of ea), _, _, rfl, rfl, _, rfl, ?_⟩
    rw [decide_eq_true (by omega)]
    refine iteT ⟨_, _, rfl, rfl, _, rfl, ?_⟩
    rw [decide_eq_true (by omega)]
    refine iteF ?_
    refine ⟨_, rfl, a, vs, rfl, .inr ⟨SqT.of ea, for_it GE.walk (fun i σ H' => ∃ y3 y4 : Option V, σ = [some (.ref p), some (.int bot), some (.ref a), y3, y4] ∧ Same H H') ⟨none, none, rfl, fun _ _ e => e⟩ (fun i σ H' _ ⟨_, _, _, s⟩ => SqT.of (s _ _ ea)) ?_ ?_⟩⟩
    · rintro i v σ H2 H2' hi ⟨y3, y4, rfl, s2⟩ ⟨q, x1, x2, rfl, nq, rfl, e1, e2⟩
      cases e1
      have e2 : vs[i]? = some x2 := e2
      obtain ⟨r, hr1, hr2⟩ := al.get e2
      have s3 := same_to s2 (s2.free nq) (o := .tup [.int (i : Nat), x2])
      refine ⟨q, _, rfl, SqT.of upd_same, rfl, _, _, rfl, _, _, rfl, rfl, ?_⟩
      match r, hr1, hr2 with
      | none, _, e =>
        subst e
        exact ⟨_, rfl, rfl, _, rfl, iteF ⟨_, _, rfl, s3⟩⟩
      | some (b, t, kk), hm, ⟨z, e, ez⟩ =>
        subst e
        refine ⟨_, rfl, rfl, _, rfl, iteT ?_⟩
        exact ⟨_, rfl, _, rfl, z, bot, b, t, kk, rfl, s3 _ _ ez, ok.ok _ (List.mem_of_getElem? hm), true, rfl, iteF ⟨_, _, rfl, s3⟩⟩
    · rintro σ H2 ⟨y3, y4, rfl, s2⟩
      refine ⟨_, rfl, _, rfl, p, _, dx, _, rfl, s2 _ _ ep, T.cl_Buckets, T.n_Buckets_bottom, (by show 0 < 1000; decide), ?_⟩
      refine ⟨_, rfl, _, rfl, p, _, dx, _, rfl, upd_same, T.cl_Buckets, T.n_Buckets_rows, Nat.lt_of_le_of_lt (putF_len _) (by show 1 < 1000; decide), ?_⟩
      refine k _ (fun q o hq e => ?_) upd_same
      rw [upd_ne hq, upd_ne hq]
      exact s2 _ _ e
/-- a new one -/
theorem mk_same {C x dx : Addr} {H1 H2 : Hp} (nx : H1 x = none) (nd : H1 dx = none) (k : Kp x (upd (upd H1 dx (.own x)) x (.ins C dx [])) H2) : Same H1 H2 := fun q o e => by
  have h1 : q ≠ x := ne_of_none e nx
  have h2 : q ≠ dx := ne_of_none e nd
  exact k q o h1 (by rw [upd_ne h1, upd_ne h2]; exact e)
theorem make_bk {C : Addr} {H1 : Hp} {a : Addr} {bot : Int} {rs : List Rw} {Q : VK} {E : XK} (ra : RowsAt H1 a rs) (ok : RowsOk bot rs) (k : ∀ H' p, Same H1 H' → H1 p = none → BkAt C H' p bot rs → Q (.ref p) H') :
    ∀ x dx, H1 x = none → H1 dx = none → dx ≠ x → spInit C [.ref x, .int bot, .ref a] (upd (upd H1 dx (.own x)) x (.ins C dx [])) (fun v H2 => v = .non ∧ Q (.ref x) H2) E := fun x dx nx nd ne => by
  have s0 : Same H1 (upd (upd H1 dx (.own x)) x (.ins C dx [])) := fun q o e => by
    rw [upd_ne (ne_of_none e nx), upd_ne (ne_of_none e nd)]
    exact e
  refine ⟨x, dx, a, bot, rs, rfl, upd_same, ra.same s0, ok, fun H' kp e => ⟨rfl, ?_⟩⟩
  have s := mk_same nx nd kp
  exact k H' x s nx ⟨dx, a, e, ra.same s⟩
end

/-! ### what may be held -/
def mn (i j : Int) : Int := if j < i then j else i
def sent1 (bot beats : Int) (r : Int × Int × Int) : Int := mn beats (r.1 + r.2.1 * beats / bot)
def sentR (bot beats : Int) : Rw → Int
  | none => 0
  | some r => sent1 bot beats r
def fH (bot : Int) (ts : List (Int × Int × Int)) (i : Nat) : Int := (ts.map (sent1 bot (i : Int))).sum - (i : Int)
def topsS (ts : List (Int × Int × Int)) : Int := (ts.map fun r => r.2.1).sum
def mx (f : Nat → Int) : Nat → Int
  | 0 => 0
  | n + 1 => if mx f n < f n then f n else mx f n
theorem mx_le {f : Nat → Int} : ∀ {n i : Nat}, i < n → f i ≤ mx f n
  | n + 1, i, h => by
    show f i ≤ if mx f n < f n then f n else mx f n
    by_cases e : i = n
    · subst e
      split <;> omega
    · have := mx_le (f := f) (n := n) (i := i) (by omega)
      split <;> omega
theorem mx_0 {f : Nat → Int} : ∀ n, 0 ≤ mx f n
  | 0 => Int.le_refl _
  | n + 1 => by
    have := mx_0 (f := f) n
    show 0 ≤ if mx f n < f n then f n else mx f n
    split <;> omega
theorem mx_at {f : Nat → Int} : ∀ n, mx f n = 0 ∨ ∃ i, i < n ∧ f i = mx f n
  | 0 => .inl rfl
  | n + 1 => by
    have ih := mx_at (f := f) n
    show (if mx f n < f n then f n else mx f n) = 0 ∨ ∃ i, i < n + 1 ∧ f i = if mx f n < f n then f n else mx f n
    split
    · exact .inr ⟨n, Nat.lt_succ_self _, rfl⟩
    · rcases ih with h | ⟨i, h1, h2⟩
      · exact .inl h
      · exact .inr ⟨i, Nat.lt_succ_of_lt h1, h2⟩
theorem mx_top {f : Nat → Int} {n : Nat} {b : Int} (hb : 0 ≤ b) (h : ∀ i, i < n → f i ≤ b) : mx f n ≤ b := by
  rcases mx_at (f := f) n with e | ⟨i, h1, h2⟩
  · omega
  · have := h i h1
    omega
theorem mx_is {f : Nat → Int} {n : Nat} {m : Int} (f0 : f 0 = 0) (n0 : 0 < n) (h1 : ∃ i, i < n ∧ f i = m) (h2 : ∀ i, i < n → f i ≤ m) : m = mx f n := by
  obtain ⟨i, hi, e⟩ := h1
  have := mx_le (f := f) hi
  have := mx_top (f := f) (b := m) (by have := h2 0 n0; omega) h2
  omega
theorem mx_from {f : Nat → Int} (f0 : f 0 = 0) : mx f 1 = 0 := by
  show (if (0 : Int) < f 0 then f 0 else 0) = 0
  rw [f0]
  rfl
theorem sent_step {bot : Int} (b1 : 1 ≤ bot) {r : Int × Int × Int} (hr : RowOk bot (some r)) {i : Int} (i0 : 0 ≤ i) (hi : r.1 * bot ≤ i) : sent1 bot (i + bot) r ≤ sent1 bot i r + r.2.1 := by
  obtain ⟨b, t, k⟩ := r
  obtain ⟨⟨h1, _⟩, ⟨h3, h4⟩, _⟩ := hr
  have hi : b * bot ≤ i := hi
  show mn (i + bot) (b + t * (i + bot) / bot) ≤ mn i (b + t * i / bot) + t
  have e : t * (i + bot) / bot = t * i / bot + t := by
    rw [Int.mul_add, Int.add_mul_ediv_right _ _ (by omega)]
  rw [e]
  unfold mn
  by_cases c : t = bot
  · subst c
    split <;> split <;> omega
  · have key : t * i / bot ≤ i - b := by
      have h : t * i ≤ (i - b) * bot := by
        have h5 : t * i ≤ (bot - 1) * i := Int.mul_le_mul_of_nonneg_right (by omega) i0
        rw [Int.sub_mul, Int.mul_comm i bot]
        rw [Int.sub_mul, Int.one_mul] at h5
        omega
      exact Int.ediv_le_of_le_mul (by omega) h
    split <;> split <;> omega
theorem sum_step {bot : Int} (b1 : 1 ≤ bot) {i : Int} (i0 : 0 ≤ i) : ∀ {ts : List (Int × Int × Int)}, (∀ r ∈ ts, RowOk bot (some r) ∧ r.1 * bot ≤ i) → (ts.map (sent1 bot (i + bot))).sum ≤ (ts.map (sent1 bot i)).sum + topsS ts
  | [], _ => by
    show (0 : Int) ≤ 0 + 0
    omega
  | r :: ts, h => by
    have h1 := sent_step b1 (h r List.mem_cons_self).1 i0 (h r List.mem_cons_self).2
    have h2 := sum_step b1 i0 (ts := ts) fun q hq => h q (List.mem_cons_of_mem _ hq)
    unfold topsS at h2 ⊢
    rw [List.map_cons, List.map_cons, List.map_cons, List.sum_cons, List.sum_cons, List.sum_cons]
    omega
theorem fH_0 {bot : Int} : ∀ {ts : List (Int × Int × Int)}, (∀ r ∈ ts, RowOk bot (some r)) → fH bot ts 0 = 0 := by
  intro ts h
  have z : (ts.map (sent1 bot ((0 : Nat) : Int))).sum = 0 := by
    induction ts with
    | nil => rfl
    | cons r ts ih =>
      rw [List.map_cons, List.sum_cons, ih fun q hq => h q (List.mem_cons_of_mem _ hq)]
      obtain ⟨⟨h1, _⟩, _⟩ := h r List.mem_cons_self
      show (if r.1 + r.2.1 * (0 : Int) / bot < (0 : Int) then _ else (0 : Int)) + 0 = 0
      rw [Int.mul_zero, Int.zero_ediv, if_neg (by omega)]
      rfl
  unfold fH
  rw [z]
  rfl
/-- the numbers of beats that are enough -/
theorem hold_eq {bot : Int} {ts : List (Int × Int × Int)} {R N : Nat} (b1 : 1 ≤ bot) (ok : ∀ r ∈ ts, RowOk bot (some r)) (tops : topsS ts ≤ bot) (R1 : 1 ≤ R) (reach : ∀ r ∈ ts, r.1 * bot + 2 * bot ≤ (R : Int)) (RN : R + 1 ≤ N) : mx (fH bot ts) (R + 1) = mx (fH bot ts) N := by
  have key : ∀ i : Nat, fH bot ts i ≤ mx (fH bot ts) (R + 1) := by
    intro i
    induction i using Nat.strongRecOn with
    | _ i ih =>
      by_cases c : i < R + 1
      · exact mx_le c
      · by_cases e : ts = []
        · subst e
          have := mx_0 (f := fH bot []) (R + 1)
          show (0 : Int) - (i : Int) ≤ _
          omega
        · obtain ⟨r0, hr0⟩ : ∃ r, r ∈ ts := by
            cases ts with
            | nil => exact absurd rfl e
            | cons r ts => exact ⟨r, List.mem_cons_self⟩
          have h0 := reach r0 hr0
          obtain ⟨⟨h1, _⟩, _⟩ := ok r0 hr0
          have h2 : 0 ≤ r0.1 * bot := Int.mul_nonneg (by omega) (by omega)
          obtain ⟨b, rfl⟩ : ∃ b : Nat, bot = (b : Int) := ⟨bot.toNat, by omega⟩
          have hj := ih (i - b) (by omega)
          have st := sum_step b1 (i := ((i - b : Nat) : Int)) (by omega) (ts := ts) fun r hr => ⟨ok r hr, by have := reach r hr; omega⟩
          have ei : ((i - b : Nat) : Int) + (b : Int) = (i : Int) := by omega
          rw [ei] at st
          unfold fH at hj ⊢
          omega
  have h1 := mx_top (f := fH bot ts) (n := N) (mx_0 (R + 1)) fun i _ => key i
  have h2 := mx_top (f := fH bot ts) (n := R + 1) (b := mx (fH bot ts) N) (mx_0 N) fun i hi => mx_le (by omega)
  omega
def someR (rs : List Rw) : List (Int × Int × Int) := rs.filterMap id
def holdO (bot : Int) (rs : List Rw) : Option Int := if bot < topsS (someR rs) then none else some (mx (fH bot (someR rs)) 420)
def letB (bot : Int) (rs : List Rw) (most : Int) : Bool := match holdO bot rs with
  | none => false
  | some m => decide (m ≤ most)
def optV : Option Int → V
  | none => .non
  | some i => .int i
def wr (rs : List Rw) (l : Nat) (r : Rw) : List Rw := rs.take l ++ [r] ++ rs.drop (l + 1)
theorem wr_ok {bot : Int} {rs : List Rw} {l : Nat} {r : Rw} (ok : RowsOk bot rs) (hl : l < rs.length) (hr : RowOk bot r) : RowsOk bot (wr rs l r) := by
  have len : (wr rs l r).length = rs.length := by
    unfold wr
    simp only [List.length_append, List.length_take, List.length_drop, List.length_cons, List.length_nil]
    omega
  refine ⟨by rw [len]; exact ok.one, by rw [len]; exact ok.few, fun q hq => ?_, ok.b1, ok.b20⟩
  unfold wr at hq
  rcases List.mem_append.mp hq with hq | hq
  · rcases List.mem_append.mp hq with hq | hq
    · exact ok.ok q (List.mem_of_mem_take hq)
    · rw [List.mem_singleton.mp hq]
      exact hr
  · exact ok.ok q (List.mem_of_mem_drop hq)
theorem some_ok {bot : Int} {rs : List Rw} (h : ∀ r ∈ rs, RowOk bot r) : ∀ t ∈ someR rs, RowOk bot (some t) := fun t ht => by
  obtain ⟨r, hr, e⟩ := List.mem_filterMap.mp ht
  have e : r = some t := e
  rw [← e]
  exact h r hr
/-- the last for which it is so -/
def lastP (p : Nat → Bool) : Nat → Option Nat
  | 0 => none
  | n + 1 => if p n = true then some n else lastP p n
theorem last_fil (p : Nat → Bool) : ∀ n, ((List.range n).filter p).getLast? = lastP p n
  | 0 => rfl
  | n + 1 => by
    rw [List.range_succ, List.filter_append]
    show _ = if p n = true then some n else lastP p n
    by_cases c : p n = true
    · rw [if_pos c, List.filter_cons_of_pos c]
      simp
    · rw [if_neg c, List.filter_cons_of_neg c, ← last_fil p n]
      simp
theorem last_none {p : Nat → Bool} {n : Nat} (h : (List.range n).filter p = []) : lastP p n = none := by
  rw [← last_fil, h]
  rfl
theorem last_max {p : Nat → Bool} {n i : Nat} (h : i ∈ (List.range n).filter p) (top : ∀ j ∈ (List.range n).filter p, j ≤ i) : lastP p n = some i := by
  induction n with
  | zero => cases h
  | succ n ih =>
    rw [List.range_succ, List.filter_append] at h top
    show (if p n = true then some n else lastP p n) = some i
    by_cases c : p n = true
    · rw [if_pos c]
      rw [List.filter_cons_of_pos c] at h top
      have h1 := top n (List.mem_append_right _ List.mem_cons_self)
      have h2 : i ≤ n := by
        rcases List.mem_append.mp h with h | h
        · have := List.mem_range.mp (List.mem_filter.mp h).1
          omega
        · rcases List.mem_cons.mp h with h | h
          · omega
          · cases h
      congr 1
      omega
    · rw [if_neg c]
      rw [List.filter_cons_of_neg c] at h top
      refine ih ?_ fun j hj => top j (List.mem_append_left _ hj)
      rcases List.mem_append.mp h with h | h
      · exact h
      · cases h

/-! ### where a stream breaks its buckets -/
abbrev Strm := List (List Nat)
def inL (ss : Strm) (l t : Nat) : Bool := decide (l ∈ ss.getD t [])
/-- how many of the n beats up to t line l sends at -/
def dn (ss : Strm) (l t : Nat) : Nat → Nat
  | 0 => 0
  | n + 1 => dn ss l t n + (if inL ss l (t - n) = true then 1 else 0)
theorem dn_le {ss : Strm} {l t : Nat} : ∀ n, dn ss l t n ≤ n
  | 0 => Nat.le_refl _
  | n + 1 => by
    have h := dn_le (ss := ss) (l := l) (t := t) n
    show dn ss l t n + _ ≤ n + 1
    split <;> omega
/-- a beat later -/
theorem dn_next {ss : Strm} {l t : Nat} : ∀ n, dn ss l (t + 1) (n + 1) = dn ss l t n + (if inL ss l (t + 1) = true then 1 else 0)
  | 0 => by
    show 0 + (if inL ss l (t + 1 - 0) = true then 1 else 0) = 0 + _
    rfl
  | n + 1 => by
    have h := dn_next (ss := ss) (l := l) (t := t) n
    show dn ss l (t + 1) (n + 1) + (if inL ss l (t + 1 - (n + 1)) = true then 1 else 0) = (dn ss l t n + (if inL ss l (t - n) = true then 1 else 0)) + _
    rw [h, show t + 1 - (n + 1) = t - n by omega]
    omega
/-- what a line may send in n beats -/
def brk (bot : Int) (r : Rw) (ss : Strm) (l t n : Nat) : Bool := decide (sentR bot (n : Int) r < (dn ss l t n : Int))
def fstN (bot : Int) (r : Rw) (ss : Strm) (l t : Nat) : Option Nat := (List.range (t + 1)).find? fun k => brk bot r ss l t (k + 1)
def lineF (bot : Int) (rs : List Rw) (ss : Strm) (t : Nat) : Option (Nat × Nat × Nat) := (List.range rs.length).findSome? fun l => (fstN bot (rs.getD l none) ss l t).map fun k => (l, t - k, t)
def brF (bot : Int) (rs : List Rw) (ss : Strm) : Option (Nat × Nat × Nat) := (List.range ss.length).findSome? (lineF bot rs ss)
theorem findSome_at {α : Type} {f : Nat → Option α} {n i : Nat} {a : α} (hi : i < n) (low : ∀ j, j < i → f j = none) (h : f i = some a) : (List.range n).findSome? f = some a := by
  have e : List.range n = List.range i ++ (List.range' i (n - i)) := by
    have z := List.range'_append_1 (s := 0) (m := i) (n := n - i)
    rw [Nat.zero_add, show i + (n - i) = n by omega] at z
    rw [List.range_eq_range', List.range_eq_range']
    exact z.symm
  rw [e, List.findSome?_append]
  have e1 : (List.range i).findSome? f = none := List.findSome?_eq_none_iff.mpr fun j hj => low j (List.mem_range.mp hj)
  rw [e1, Option.none_or]
  rw [show n - i = (n - i - 1) + 1 by omega, List.range'_succ, List.findSome?_cons, h]
theorem findSome_no {α : Type} {f : Nat → Option α} {n : Nat} (low : ∀ j, j < n → f j = none) : (List.range n).findSome? f = none := List.findSome?_eq_none_iff.mpr fun j hj => low j (List.mem_range.mp hj)
theorem find_at {p : Nat → Bool} {n i : Nat} (hi : i < n) (low : ∀ j, j < i → p j = false) (h : p i = true) : (List.range n).find? p = some i := by
  have e : List.range n = List.range i ++ (List.range' i (n - i)) := by
    have z := List.range'_append_1 (s := 0) (m := i) (n := n - i)
    rw [Nat.zero_add, show i + (n - i) = n by omega] at z
    rw [List.range_eq_range', List.range_eq_range']
    exact z.symm
  rw [e, List.find?_append]
  have e1 : (List.range i).find? p = none := List.find?_eq_none.mpr fun j hj => by
    rw [low j (List.mem_range.mp hj)]
    exact Bool.false_ne_true
  rw [e1, Option.none_or]
  rw [show n - i = (n - i - 1) + 1 by omega, List.range'_succ, List.find?_cons, h]
theorem find_none {p : Nat → Bool} {n : Nat} (low : ∀ j, j < n → p j = false) : (List.range n).find? p = none := List.find?_eq_none.mpr fun j hj => by
  rw [low j (List.mem_range.mp hj)]
  exact Bool.false_ne_true
/-! ### the gauge -/
def lvl (ss : Strm) (l : Nat) (bot tp : Int) : Nat → Int
  | 0 => 0
  | n + 1 => lvl ss l bot tp n + ((if inL ss l n = true then bot else 0) - tp)
def mnl (ss : Strm) (l : Nat) (bot tp : Int) : Nat → Int
  | 0 => 0
  | n + 1 => min (mnl ss l bot tp n) (lvl ss l bot tp n)
theorem mnl_le {ss : Strm} {l : Nat} {bot tp : Int} : ∀ {n j : Nat}, j < n → mnl ss l bot tp n ≤ lvl ss l bot tp j
  | n + 1, j, h => by
    show min (mnl ss l bot tp n) (lvl ss l bot tp n) ≤ _
    by_cases e : j = n
    · subst e
      exact Int.min_le_right _ _
    · exact Int.le_trans (Int.min_le_left _ _) (mnl_le (by omega))
theorem mnl_at {ss : Strm} {l : Nat} {bot tp : Int} : ∀ n, ∃ j, j ≤ n ∧ mnl ss l bot tp (n + 1) = lvl ss l bot tp j
  | 0 => ⟨0, Nat.le_refl _, by show min (0 : Int) 0 = 0; rfl⟩
  | n + 1 => by
    obtain ⟨j, h1, h2⟩ := mnl_at (ss := ss) (l := l) (bot := bot) (tp := tp) n
    show ∃ j, j ≤ n + 1 ∧ min (mnl ss l bot tp (n + 1)) (lvl ss l bot tp (n + 1)) = _
    by_cases c : mnl ss l bot tp (n + 1) ≤ lvl ss l bot tp (n + 1)
    · exact ⟨j, by omega, by rw [Int.min_eq_left c]; exact h2⟩
    · exact ⟨n + 1, Nat.le_refl _, Int.min_eq_right (by omega)⟩
theorem lvl_dn {ss : Strm} {l : Nat} {bot tp : Int} : ∀ (t n : Nat), n ≤ t + 1 → lvl ss l bot tp (t + 1) - lvl ss l bot tp (t + 1 - n) = bot * (dn ss l t n : Int) - tp * (n : Int)
  | t, 0, _ => by
    rw [Nat.sub_zero]
    show _ = bot * ((0 : Nat) : Int) - tp * ((0 : Nat) : Int)
    simp
  | t, n + 1, h => by
    have ih := lvl_dn (ss := ss) (l := l) (bot := bot) (tp := tp) t n (by omega)
    have e : t + 1 - n = (t - n) + 1 := by omega
    have e2 : lvl ss l bot tp (t + 1 - n) = lvl ss l bot tp (t - n) + ((if inL ss l (t - n) = true then bot else 0) - tp) := by
      rw [e]
      rfl
    have e3 : t + 1 - (n + 1) = t - n := by omega
    rw [e3]
    have d : dn ss l t (n + 1) = dn ss l t n + (if inL ss l (t - n) = true then 1 else 0) := rfl
    rw [d, Int.natCast_add, Int.natCast_add, Int.mul_add, Int.mul_add]
    rw [e2] at ih
    have one : tp * ((1 : Nat) : Int) = tp := by simp
    rw [one]
    by_cases c : inL ss l (t - n) = true
    · rw [if_pos c] at ih ⊢
      have : bot * ((1 : Nat) : Int) = bot := by simp
      rw [this]
      omega
    · rw [if_neg c] at ih ⊢
      have : bot * ((0 : Nat) : Int) = 0 := by simp
      rw [this]
      omega
theorem mn_lt {i j x : Int} : mn i j < x ↔ i < x ∨ j < x := by
  unfold mn
  split <;> omega
theorem le_mn {i j x : Int} : x ≤ mn i j ↔ x ≤ i ∧ x ≤ j := by
  unfold mn
  split <;> omega
/-- the fill overflows just where some window breaks -/
theorem brk_gauge {bot b tp k : Int} {ss : Strm} {l t n : Nat} (hb : 1 ≤ bot) : brk bot (some (b, tp, k)) ss l t n = true ↔ bot * b < bot * (dn ss l t n : Int) - tp * (n : Int) := by
  unfold brk
  rw [decide_eq_true_eq]
  have h := dn_le (ss := ss) (l := l) (t := t) n
  show mn (n : Int) (b + tp * (n : Int) / bot) < (dn ss l t n : Int) ↔ _
  have h1 : mn (n : Int) (b + tp * (n : Int) / bot) < (dn ss l t n : Int) ↔ b + tp * (n : Int) / bot < (dn ss l t n : Int) := by
    rw [mn_lt]
    omega
  rw [h1]
  have h2 : b + tp * (n : Int) / bot < (dn ss l t n : Int) ↔ tp * (n : Int) / bot < (dn ss l t n : Int) - b := by omega
  rw [h2, Int.ediv_lt_iff_lt_mul (by omega), Int.sub_mul, Int.mul_comm (dn ss l t n : Int) bot, Int.mul_comm b bot]
  omega
def overB (bot : Int) (r : Rw) (ss : Strm) (l t : Nat) : Bool := match r with
  | none => inL ss l t
  | some (b, tp, _) => decide (bot * b < lvl ss l bot tp (t + 1) - mnl ss l bot tp (t + 1))
theorem over_some {bot b tp k : Int} {ss : Strm} {l t : Nat} (hb : 1 ≤ bot) : overB bot (some (b, tp, k)) ss l t = true ↔ ∃ j, j ≤ t ∧ brk bot (some (b, tp, k)) ss l t (j + 1) = true := by
  show decide (bot * b < lvl ss l bot tp (t + 1) - mnl ss l bot tp (t + 1)) = true ↔ _
  rw [decide_eq_true_eq]
  constructor
  · intro h
    obtain ⟨j, h1, h2⟩ := mnl_at (ss := ss) (l := l) (bot := bot) (tp := tp) t
    refine ⟨t - j, by omega, ?_⟩
    rw [brk_gauge hb, ← lvl_dn t (t - j + 1) (by omega), show t + 1 - (t - j + 1) = j by omega, ← h2]
    exact h
  · rintro ⟨j, h1, h2⟩
    rw [brk_gauge hb, ← lvl_dn t (j + 1) (by omega)] at h2
    have q := mnl_le (ss := ss) (l := l) (bot := bot) (tp := tp) (n := t + 1) (j := t + 1 - (j + 1)) (by omega)
    omega
theorem fst_none {bot : Int} {r : Rw} {ss : Strm} {l t : Nat} : fstN bot r ss l t = none ↔ ∀ j, j ≤ t → brk bot r ss l t (j + 1) = false := by
  unfold fstN
  rw [List.find?_eq_none]
  constructor
  · intro h j hj
    have z := h j (List.mem_range.mpr (by omega))
    rw [Bool.not_eq_true] at z
    exact z
  · intro h j hj
    rw [h j (by have := List.mem_range.mp hj; omega)]
    exact Bool.false_ne_true
theorem sent_nn {bot n : Int} {r : Rw} (ok : RowOk bot r) (hb : 1 ≤ bot) (hn : 0 ≤ n) : 0 ≤ sentR bot n r := by
  match r, ok with
  | none, _ => exact Int.le_refl _
  | some (b, tp, k), ok =>
    show 0 ≤ mn n (b + tp * n / bot)
    obtain ⟨⟨b1, _⟩, ⟨t1, _⟩, _⟩ := ok
    have q : 0 ≤ tp * n / bot := Int.ediv_nonneg (Int.mul_nonneg t1 hn) (by omega)
    rw [le_mn]
    exact ⟨hn, by omega⟩
theorem sent_mono {bot n m : Int} {r : Rw} (ok : RowOk bot r) (hb : 1 ≤ bot) (h : n ≤ m) : sentR bot n r ≤ sentR bot m r := by
  match r, ok with
  | none, _ => exact Int.le_refl _
  | some (b, tp, k), ok =>
    show mn n (b + tp * n / bot) ≤ mn m (b + tp * m / bot)
    obtain ⟨⟨b1, _⟩, ⟨t1, _⟩, _⟩ := ok
    have q : tp * n / bot ≤ tp * m / bot := Int.ediv_le_ediv (by omega) (Int.mul_le_mul_of_nonneg_left h t1)
    have h0 := (le_mn (x := mn n (b + tp * n / bot))).mp (Int.le_refl _)
    rw [le_mn]
    exact ⟨by omega, by omega⟩
/-- none broke before: one that breaks now sends now -/
theorem brk_sends {bot : Int} {r : Rw} {ss : Strm} {l t j : Nat} (ok : RowOk bot r) (hb : 1 ≤ bot) (low : ∀ t', t' < t → fstN bot r ss l t' = none) (hj : j ≤ t) (h : brk bot r ss l t (j + 1) = true) : inL ss l t = true := by
  cases c : inL ss l t with
  | true => rfl
  | false =>
    exfalso
    unfold brk at h
    rw [decide_eq_true_eq] at h
    match t, j, hj with
    | t, 0, _ =>
      have e : dn ss l t (0 + 1) = 0 + (if inL ss l (t - 0) = true then 1 else 0) := rfl
      rw [Nat.sub_zero, c, if_neg Bool.false_ne_true] at e
      rw [e] at h
      have := sent_nn (n := ((0 + 1 : Nat) : Int)) ok hb (by omega)
      omega
    | t + 1, j + 1, hj =>
      rw [dn_next, c, if_neg Bool.false_ne_true, Nat.add_zero] at h
      have z := fst_none.mp (low t (Nat.lt_succ_self _)) j (by omega)
      unfold brk at z
      rw [decide_eq_false_iff_not] at z
      have m := sent_mono (n := ((j + 1 : Nat) : Int)) (m := ((j + 1 + 1 : Nat) : Int)) ok hb (by omega)
      exact absurd (Int.lt_of_le_of_lt m h) z
theorem over_iff {bot : Int} {r : Rw} {ss : Strm} {l t : Nat} (ok : RowOk bot r) (hb : 1 ≤ bot) (low : ∀ t', t' < t → fstN bot r ss l t' = none) : overB bot r ss l t = (fstN bot r ss l t).isSome := by
  have key : overB bot r ss l t = true ↔ ∃ j, j ≤ t ∧ brk bot r ss l t (j + 1) = true := by
    match r, ok with
    | some (b, tp, k), _ => exact over_some hb
    | none, ok =>
      show inL ss l t = true ↔ _
      constructor
      · intro h
        refine ⟨0, Nat.zero_le _, ?_⟩
        unfold brk
        have e : dn ss l t (0 + 1) = 0 + (if inL ss l (t - 0) = true then 1 else 0) := rfl
        rw [Nat.sub_zero, h, if_pos rfl] at e
        rw [e]
        exact decide_eq_true (show (0 : Int) < ((0 + 1 : Nat) : Int) by omega)
      · rintro ⟨j, h1, h2⟩
        exact brk_sends ok hb low h1 h2
  cases c : fstN bot r ss l t with
  | none =>
    have z := fst_none.mp c
    show _ = false
    rw [← Bool.not_eq_true, key]
    rintro ⟨j, h1, h2⟩
    rw [z j h1] at h2
    cases h2
  | some k =>
    show _ = true
    rw [key]
    have h1 := List.mem_of_find?_eq_some c
    have h2 := List.find?_some c
    exact ⟨k, by have := List.mem_range.mp h1; omega, h2⟩

/-! ### what buckets let hold -/
def rwD : Rw → PyData
  | none => .none
  | some (b, t, k) => .tuple [.int b, .int t, .int k]
theorem rw_lay : ∀ r : Rw, Lay (rwD r) 1
  | none => ⟨rfl, Nat.zero_le _⟩
  | some (b, t, k) => Lay.tup fun x hx => by
    simp only [List.mem_cons, List.not_mem_nil, or_false] at hx
    rcases hx with e | e | e <;> subst e <;> exact Lay.int _
theorem rw_dp {K : PySem.W.Frag} {H : Hp} : ∀ (r : Rw) (v : V), RowAt H r v → Dp K H v (rwD r)
  | none, _, e => by
    cases (show _ = V.non from e)
    exact .non
  | some (b, t, k), _, ⟨q, e, e1⟩ => by
    subst e
    exact .tup (SqT.of e1) (.cons (.int _) (.cons (.int _) (.cons (.int _) .nil)))
theorem kit_self {C : Value} : PySem.W.kitOne K C C = some true := by
  unfold PySem.W.kitOne
  rw [if_pos (by simp)]
theorem someR_snoc {rs : List Rw} {i : Nat} {r : Rw} (h : rs[i]? = some r) : someR (rs.take (i + 1)) = someR (rs.take i) ++ r.toList := by
  unfold someR
  rw [List.take_add_one, h, List.filterMap_append]
  cases r <;> rfl
theorem someR_len {rs : List Rw} {i : Nat} : (someR (rs.take i)).length ≤ rs.length := by
  unfold someR
  exact Nat.le_trans (List.length_filterMap_le _ _) (by rw [List.length_take]; omega)
theorem cat3 {H : Hp} {rs : List Rw} {l : Nat} {r : Rw} {xs : List V} {v : V} (al : All2 (RowAt H) rs xs) (hv : RowAt H r v) : All2 (RowAt H) (wr rs l r) (xs.take l ++ [v] ++ xs.drop (l + 1)) := ((al.take l).append (.cons hv .nil)).append (al.drop (l + 1))
theorem lts {n : Nat} (h : n ≤ 1000) : n < sizeLine := Nat.lt_of_le_of_lt h (by decide)
section
variable {P : Program} {w : World} {K : PySem.W.Frag} {mg : Str → Option Value} {base : Heap} {A : Adr}
def spEqB (C : Addr) : Sp := fun vs H Q _ => ∃ (p q dx dy a b : Addr) (bot : Int) (rs : List Rw), vs = [.ref p, .ref q] ∧ H p = some (.ins C dx (bF bot a)) ∧ H q = some (.ins C dy (bF bot b)) ∧ RowsAt H a rs ∧ RowsAt H b rs ∧ Q (.bl true) H
theorem ok_Buckets___eq__ (T : Top K mg A) : FnOk P w K mg base CX0 1 A.a_Buckets___eq__ A.d_Buckets___eq__ P_Buckets___eq__ (spEqB A.c_Buckets) := by
  refine T.F_Buckets___eq__.ok sc_Buckets___eq__ (fun vs H Q E h => ?_) (fun cdv A' outer s H vs Q E hr h => ?_)
  · obtain ⟨p, q, dx, dy, a, b, bot, rs, rfl, _⟩ := h
    rfl
  · obtain ⟨p, q, dx, dy, a, b, bot, rs, rfl, hp, hq, ⟨xs, ea, ax⟩, ⟨ys, eb, ay⟩, k⟩ := h
    refine ⟨_, (pss_one (ps_ret (pe_and (pe_callB call_isi (by rfl) T.z_isinstance (by decide +kernel) (pa_cons (pv 1) (pa_cons (pe_glob (v := .ref A.c_Buckets) rfl T.gc_Buckets rfl) pa_nil))) (pe_and (pe_cmpR op_eq (pe_fld (pv 0) rfl) (pe_fld (pv 1) rfl) (nomark _)) (pe_one (pe_cmpR (op_eqD hr.units) (pe_fld (pv 0) rfl) (pe_fld (pv 1) rfl) (nomark _))))))), ?_⟩
    refine ⟨_, rfl, _, _, _, _, _, rfl, .own _, .base (.ins hq T.cl_Buckets T.ci_Buckets T.en1 T.en2 T.em_Buckets), kit_self, true, rfl, iteT ?_⟩
    refine ⟨_, rfl, p, _, _, _, _, rfl, hp, T.cl_Buckets, T.n_Buckets_bottom, bf1, _, rfl, q, _, _, _, _, rfl, hq, T.cl_Buckets, T.n_Buckets_bottom, bf1, rfl, true, by rw [dec_self], iteT ?_⟩
    have ld : Lay (.tuple (rs.map rwD)) 2 := Lay.tup fun x hx => by
      obtain ⟨r, _, rfl⟩ := List.mem_map.mp hx
      exact rw_lay r
    refine ⟨_, rfl, p, _, _, _, _, rfl, hp, T.cl_Buckets, T.n_Buckets_rows, bf2, _, rfl, q, _, _, _, _, rfl, hq, T.cl_Buckets, T.n_Buckets_rows, bf2, .tuple (rs.map rwD), .tuple (rs.map rwD), .tup (SqT.of ea) (dpAll_of rw_dp ax), .tup (SqT.of eb) (dpAll_of rw_dp ay), ld.sh (by decide), ld.sh (by decide), ?_⟩
    rw [SeqAt.eqv_refl _ ld.lay]
    exact k
def spChkL (C : Addr) : Sp := fun vs H Q _ => ∃ (p : Addr) (bot : Int) (rs : List Rw) (l : Nat), vs = [.ref p, .int (l : Int)] ∧ BkAt C H p bot rs ∧ l < rs.length ∧ Q .non H
def spChkN : Sp := fun vs H Q _ => ∃ (n : Int), vs = [.int n] ∧ 0 ≤ n ∧ n ≤ 1000000000 ∧ Q .non H
def spMost : Sp := fun vs H Q _ => ∃ (bot beats : Int) (r : Rw) (v : V), vs = [.int bot, v, .int beats] ∧ RowAt H r v ∧ RowOk bot r ∧ 1 ≤ bot ∧ bot ≤ 20 ∧ Q (.int (sentR bot beats r)) H
theorem ok_most_of (T : Top K mg A) : FnOk P w K mg base CX0 1 A.a_most_of A.d_most_of P_most_of spMost := by
  refine T.F_most_of.ok sc_most_of (fun vs H Q E h => ?_) (fun cdv A' outer s H vs Q E hr h => ?_)
  · obtain ⟨bot, beats, r, v, rfl, _⟩ := h
    rfl
  · obtain ⟨bot, beats, r, v, rfl, hv, ok, b1, b20, k⟩ := h
    refine ⟨_, (pss_cons (ps_if (pt_cmpR op_isN (pv 1) pe_non (nomark _)) (pss_one (ps_ret pe_int)) pss_nil)
    (pss_cons (ps_asg (pv 1) (pg_tup rfl (pgs_cons (pg_name (i := 3) sc_most_of.nd rfl (.inl rfl)) (pgs_cons (pg_name (i := 4) sc_most_of.nd rfl (.inl rfl)) (pgs_cons (pg_name (i := 5) sc_most_of.nd rfl (.inl rfl)) pgs_nil)))))
    (pss_one (ps_ret (pe_callB (call_min2 rfl) (by rfl) T.z_min (by decide +kernel) (pa_cons (pv 2) (pa_cons (pe_op op_add (pv 3) (pe_op op_fdiv (pe_op op_mul (pv 4) (pv 2)) (pv 0))) pa_nil))))))), ?_⟩
    match r, hv, ok, k with
    | none, e, _, k =>
      cases (show v = V.non from e)
      exact ⟨_, rfl, rfl, _, rfl, iteT k⟩
    | some (b, t, kk), ⟨q, e, eq⟩, ok, k =>
      subst e
      obtain ⟨⟨h1, h2⟩, ⟨h3, h4⟩, _⟩ := ok
      refine ⟨_, rfl, rfl, _, rfl, iteF ?_⟩
      refine ⟨_, rfl, q, _, rfl, SqT.of eq, rfl, _, _, rfl, _, _, rfl, _, _, rfl, rfl, ?_⟩
      refine ⟨_, rfl, _, rfl, _, rfl, _, rfl, _, _, rfl, rfl, .inl ⟨by omega, by omega⟩, _, rfl, _, _, rfl, rfl, ⟨by omega, by omega⟩, _, _, rfl, rfl, _, _, rfl, ?_⟩
      exact k
def TrAt (H : Hp) (t : Int × Int × Int) (v : V) : Prop := RowAt H (some t) v
theorem TrAt.same {H H' : Hp} {t : Int × Int × Int} {v : V} (x : TrAt H t v) (s : Same H H') : TrAt H' t v := RowAt.same (r := some t) x s
def spTogether : Sp := fun vs H Q _ => ∃ (bot beats : Int) (D : Addr) (us : List V) (rs : List Rw), vs = [.int bot, .ref D, .int beats] ∧ (H D = some (.lst us) ∨ H D = some (.tup us)) ∧ All2 (RowAt H) rs us ∧ rs.length ≤ 12 ∧ (∀ t ∈ rs, RowOk bot t) ∧ 1 ≤ bot ∧ bot ≤ 20 ∧ ∀ H', Same H H' → Q (.int (rs.map (sentR bot beats)).sum) H'
theorem ok_most_together (T : Top K mg A) : FnOk P w K mg base CX0 2 A.a_most_together A.d_most_together P_most_together spTogether := by
  refine T.F_most_together.ok sc_most_together (fun vs H Q E h => ?_) (fun cdv A' outer s H vs Q E hr h => ?_)
  · obtain ⟨bot, beats, D, us, rs, rfl, _⟩ := h
    rfl
  · obtain ⟨bot, beats, D, us, rs, rfl, eD, al, few, ok, b1, b20, k⟩ := h
    refine ⟨_, (pss_one (ps_ret (pe_callB (cr_sum rfl) (by rfl) T.z_sum (by decide +kernel) (pa_cons (pe_lc (own := [("row", 3)]) (by rfl) sc_most_together.nd (GV.pi_seq (pv 1)) (blkOk_by (own := [("row", 3)]) (N := N_most_together) (sc := defScope s_most_together) (by decide +kernel)) (fun _ _ _ _ _ => (pg_name (i := 3) sc_most_together.nd rfl (.inl rfl))) (fun _ _ _ _ _ => pts_nil) (fun _ _ _ _ _ => (pe_call (ok_most_of (P := P) (w := w) T) (hr.mono (by decide)) (by rfl) T.g_most_of T.F_most_of.kp T.b_most_of .nil pass0 (pa_cons (pv 0) (pa_cons (pv 3) (pa_cons (pv 2) pa_nil)))))) pa_nil)))), ?_⟩
    rcases eD with eD | eD
    · refine ⟨_, rfl, D, rfl, .inl ⟨⟨_, SqL.of eD⟩, fun F nF => ?_⟩⟩
      refine lc_list (K := K) (a := D) (xs := us) (LP H F ((rs.map (sentR bot beats)).map V.int)) (LP.start nF) (fun i H' _ p => SqL.of (p.1 _ _ eD)) ?_ ?_
      · rintro i x H' hx p
        obtain ⟨t, ht, hv⟩ := al.get hx
        refine ⟨rfl, ?_⟩
        refine ⟨_, rfl, _, rfl, _, rfl, bot, beats, t, x, rfl, hv.same p.1, ok t (List.mem_of_getElem? ht), b1, b20, ?_⟩
        exact lcPut nF p (fun _ _ e => e) (map_at (map_at ht)) (by rw [List.length_map, List.length_map]; omega)
      · rintro H' ⟨s1, d1⟩
        rw [take_all (by rw [List.length_map, List.length_map]; exact al.len.symm)] at d1
        exact ⟨F, _, rfl, SqL.of d1, k H' s1⟩
    · refine ⟨_, rfl, D, rfl, .inr ⟨⟨_, SqT.of eD⟩, fun F nF => ?_⟩⟩
      refine lc_tup (K := K) (a := D) (xs := us) (LP H F ((rs.map (sentR bot beats)).map V.int)) (LP.start nF) (fun i H' _ p => SqT.of (p.1 _ _ eD)) ?_ ?_
      · rintro i x H' hx p
        obtain ⟨t, ht, hv⟩ := al.get hx
        refine ⟨rfl, ?_⟩
        refine ⟨_, rfl, _, rfl, _, rfl, bot, beats, t, x, rfl, hv.same p.1, ok t (List.mem_of_getElem? ht), b1, b20, ?_⟩
        exact lcPut nF p (fun _ _ e => e) (map_at (map_at ht)) (by rw [List.length_map, List.length_map]; omega)
      · rintro H' ⟨s1, d1⟩
        rw [take_all (by rw [List.length_map, List.length_map]; exact al.len.symm)] at d1
        exact ⟨F, _, rfl, SqL.of d1, k H' s1⟩
theorem tr_rows {H : Hp} : ∀ {ts : List (Int × Int × Int)} {us : List V}, All2 (TrAt H) ts us → All2 (RowAt H) (ts.map some) us
  | _, _, .nil => .nil
  | _, _, .cons h t => .cons h (tr_rows t)
theorem tr_sum {bot n : Int} : ∀ ts : List (Int × Int × Int), ((ts.map some).map (sentR bot n)).sum = (ts.map (sent1 bot n)).sum
  | [] => rfl
  | t :: ts => by
    rw [List.map_cons, List.map_cons, List.map_cons, List.sum_cons, List.sum_cons, tr_sum ts]
    rfl
def spRowsOf (C : Addr) : Sp := fun vs H Q _ => ∃ (p l : Addr) (bot : Int) (rs : List Rw) (ks : List V) (f : Int → Bool), vs = [.ref p, .ref l] ∧ BkAt C H p bot rs ∧ RowsOk bot rs ∧ H l = some (.lst ks) ∧ ks.all flatV = true ∧ (∀ k : Int, 0 ≤ k → k ≤ 7 → inV (.int k) ks = f k) ∧
  ∀ (H' : Hp) (D : Addr) (us : List V), Same H H' → H' D = some (.lst us) → All2 (TrAt H') ((someR rs).filter fun r => f r.2.2) us → Q (.ref D) H'
theorem ok_rows_of (T : Top K mg A) : FnOk P w K mg base CX0 1 A.a_rows_of A.d_rows_of P_rows_of (spRowsOf A.c_Buckets) := by
  refine T.F_rows_of.ok sc_rows_of (fun vs H Q E h => ?_) (fun cdv A' outer s H vs Q E hr h => ?_)
  · obtain ⟨p, l, bot, rs, ks, f, rfl, _⟩ := h
    rfl
  · obtain ⟨p, l, bot, rs, ks, f, rfl, ⟨dx, a, hp, xs, ea, al⟩, ok, el, fl, hin, k⟩ := h
    refine ⟨_, (pss_one (ps_ret (pe_lc (own := [("row", 2)]) (by rfl) sc_rows_of.nd (pi_tup (pe_fld (pv 0) rfl)) (blkOk_by (own := [("row", 2)]) (N := N_rows_of) (sc := defScope s_rows_of) (by decide +kernel)) (fun _ _ _ _ _ => (pg_name (i := 2) sc_rows_of.nd rfl (.inl rfl))) (fun _ _ _ _ _ => (pts_one (PW.pt (pw_and (pt_cmpR op_notN (pv 2) pe_non (nomark _)) (pw_and1 (pt_cmpR (show OpR _ _ (rIn K false) from op_in_seq) (pe_ix (show IxR _ (rIxT K) from ix_tup) (pv 2) pe_int (fun _ _ => rfl)) (pv 1) (by rfl))))))) (fun _ _ _ _ _ => (pv 2))))), ?_⟩
    have few := ok.few
    refine ⟨_, rfl, p, _, _, _, _, rfl, hp, T.cl_Buckets, T.n_Buckets_rows, bf2, a, rfl, ⟨_, SqT.of ea⟩, fun D nD => ?_⟩
    refine lc_tup (K := K) (a := a) (xs := xs) (fun i H' => ∃ us, Same H H' ∧ H' D = some (.lst us) ∧ All2 (TrAt H') ((someR (rs.take i)).filter fun r => f r.2.2) us) ⟨[], same_upd nD, upd_same, .nil⟩ (fun i H' _ ⟨_, s, _⟩ => SqT.of (s _ _ ea)) ?_ ?_
    · rintro i x H' hx ⟨us, s1, d1, au⟩
      obtain ⟨r, hr1, hv⟩ := al.get hx
      have hv := hv.same s1
      have ln := someR_len (rs := rs) (i := i)
      have lu := au.len
      have lf := List.length_filter_le (fun r => f r.2.2) (someR (rs.take i))
      refine ⟨rfl, ?_⟩
      match r, hr1, hv with
      | none, hr1, e =>
        cases (show x = V.non from e)
        refine ⟨_, rfl, rfl, _, rfl, iteF ⟨us, s1, d1, ?_⟩⟩
        rw [someR_snoc hr1]
        show All2 _ ((_ ++ []).filter _) _
        rw [List.append_nil]
        exact au
      | some (b, t, kk), hr1, ⟨q, e, eq⟩ =>
        subst e
        obtain ⟨_, _, k0, k7⟩ := ok.ok _ (List.mem_of_getElem? hr1)
        refine ⟨_, rfl, rfl, _, rfl, iteT ?_⟩
        refine ⟨_, rfl, q, _, 2, _, rfl, rfl, SqT.of eq, atI_nat (j := 2) rfl, _, rfl, l, _, rfl, .inl (SqL.of (s1 _ _ el)), rfl, fl, _, rfl, ?_⟩
        rw [show (if false = true then !inV (V.int kk) ks else inV (V.int kk) ks) = f kk from hin kk k0 k7]
        rw [someR_snoc hr1, List.filter_append]
        by_cases c : f kk = true
        · rw [c]
          refine iteT ⟨_, rfl, us, d1, by rw [← lu]; exact lts (by omega), us ++ [.ref q], same_to s1 nD, upd_same, ?_⟩
          have e1 : ((some (b, t, kk) : Rw).toList.filter fun r => f r.2.2) = [(b, t, kk)] := List.filter_cons_of_pos (p := fun r : Int × Int × Int => f r.2.2) c
          rw [e1]
          have tups : ∀ z xs, H' z = some (.tup xs) → (upd H' D (.lst (us ++ [.ref q]))) z = some (.tup xs) := fun z xs e => by
            rw [upd_ne (fun w => by rw [w, d1] at e; cases e)]
            exact e
          exact (au.imp fun t v h => RowAt.mv (r := some t) tups h).snoc ⟨q, rfl, tups _ _ eq⟩
        · have c : f kk = false := Bool.eq_false_iff.mpr c
          rw [c]
          refine iteF ⟨us, s1, d1, ?_⟩
          have e1 : ((some (b, t, kk) : Rw).toList.filter fun r => f r.2.2) = [] := List.filter_cons_of_neg (p := fun r : Int × Int × Int => f r.2.2) (by rw [c]; exact Bool.false_ne_true)
          rw [e1, List.append_nil]
          exact au
    · rintro H' ⟨us, s1, d1, au⟩
      rw [← al.len, List.take_length] at au
      exact k H' D us s1 d1 au
def spTops : Sp := fun vs H Q _ => ∃ (D : Addr) (us : List V) (ts : List (Int × Int × Int)), vs = [.ref D] ∧ H D = some (.lst us) ∧ All2 (TrAt H) ts us ∧ ts.length ≤ 12 ∧ ∀ H', Same H H' → Q (.int (topsS ts)) H'
theorem ok_tops_of (T : Top K mg A) : FnOk P w K mg base CX0 1 A.a_tops_of A.d_tops_of P_tops_of spTops := by
  refine T.F_tops_of.ok sc_tops_of (fun vs H Q E h => ?_) (fun cdv A' outer s H vs Q E hr h => ?_)
  · obtain ⟨D, us, ts, rfl, _⟩ := h
    rfl
  · obtain ⟨D, us, ts, rfl, eD, al, few, k⟩ := h
    refine ⟨_, (pss_one (ps_ret (pe_callB (cr_sum rfl) (by rfl) T.z_sum (by decide +kernel) (pa_cons (pe_lc (own := [("_", 1), ("top", 2)]) (by rfl) sc_tops_of.nd (pi_list (pv 0)) (blkOk_by (own := [("_", 1), ("top", 2)]) (N := N_tops_of) (sc := defScope s_tops_of) (by decide +kernel)) (fun _ _ _ _ _ => (show PG _ _ (gTup K 3 _) from (pg_tup rfl (pgs_cons (pg_name (i := 1) sc_tops_of.nd rfl (.inl rfl)) (pgs_cons (pg_name (i := 2) sc_tops_of.nd rfl (.inl rfl)) (pgs_cons (pg_name (i := 1) sc_tops_of.nd rfl (.inl rfl)) pgs_nil)))))) (fun _ _ _ _ _ => pts_nil) (fun _ _ _ _ _ => (pv 2))) pa_nil)))), ?_⟩
    refine ⟨_, rfl, D, rfl, ⟨_, SqL.of eD⟩, fun F nF => ?_⟩
    refine lc_list (K := K) (a := D) (xs := us) (LP H F ((ts.map fun r => r.2.1).map V.int)) (LP.start nF) (fun i H' _ p => SqL.of (p.1 _ _ eD)) ?_ ?_
    · rintro i x H' hx p
      obtain ⟨⟨b, t, kk⟩, ht, q, rfl, eq⟩ := al.get hx
      refine ⟨q, _, rfl, SqT.of (p.1 _ _ eq), rfl, _, _, rfl, _, _, rfl, _, _, rfl, rfl, rfl, ?_⟩
      refine ⟨_, rfl, ?_⟩
      exact lcPut nF p (fun _ _ e => e) (map_at (map_at ht)) (by rw [List.length_map, List.length_map]; omega)
    · rintro H' ⟨s1, d1⟩
      rw [take_all (by rw [List.length_map, List.length_map]; exact al.len.symm)] at d1
      exact ⟨F, _, rfl, SqL.of d1, k H' s1⟩
def spHold (C : Addr) : Sp := fun vs H Q _ => ∃ (p : Addr) (bot : Int) (rs : List Rw), vs = [.ref p] ∧ BkAt C H p bot rs ∧ RowsOk bot rs ∧ ∀ H', Same H H' → Q (optV (holdO bot rs)) H'
end

/-! ### streams -/
def natsV (l : List Nat) : List V := l.map fun (x : Nat) => V.int (x : Int)
def LotAt (H : Hp) (ls : List Nat) (v : V) : Prop := ∃ q, v = .ref q ∧ H q = some (.tup (natsV ls))
theorem LotAt.mv {H H' : Hp} (f : ∀ q xs, H q = some (.tup xs) → H' q = some (.tup xs)) {ls : List Nat} {v : V} (h : LotAt H ls v) : LotAt H' ls v := let ⟨q, e, e1⟩ := h; ⟨q, e, f _ _ e1⟩
def StrmAt (H : Hp) (a : Addr) (ss : Strm) : Prop := ∃ vs, H a = some (.tup vs) ∧ All2 (LotAt H) ss vs
theorem StrmAt.mv {H H' : Hp} (f : ∀ q xs, H q = some (.tup xs) → H' q = some (.tup xs)) {a : Addr} {ss : Strm} (h : StrmAt H a ss) : StrmAt H' a ss := let ⟨vs, e, al⟩ := h; ⟨vs, f _ _ e, al.imp fun _ _ t => t.mv f⟩
theorem StrmAt.same {H H' : Hp} {a : Addr} {ss : Strm} (h : StrmAt H a ss) (s : Same H H') : StrmAt H' a ss := h.mv fun q xs e => s _ _ e
def LotOk (n : Nat) (ls : List Nat) : Prop := ls.Pairwise (· < ·) ∧ ∀ x ∈ ls, x < n
structure StrmOk (n : Nat) (ss : Strm) : Prop where
  few : ss.length ≤ 6000
  ok : ∀ ls ∈ ss, LotOk n ls
theorem inV_nats {k : Nat} (l : List Nat) : inV (.int (k : Int)) (natsV l) = decide (k ∈ l) := by
  unfold inV natsV
  rw [List.any_map]
  induction l with
  | nil => simp
  | cons x l ih =>
    rw [List.any_cons, ih]
    show (decide ((x : Int) = (k : Int)) || decide (k ∈ l)) = decide (k ∈ x :: l)
    by_cases h : k = x <;> simp [h, List.mem_cons] <;> omega
theorem flat_nats (l : List Nat) : (natsV l).all flatV = true := by
  unfold natsV
  rw [List.all_map, List.all_eq_true]
  intro x hx
  rfl
theorem getD_some {α : Type} {l : List α} {i : Nat} {a d : α} (h : l[i]? = some a) : l.getD i d = a := by
  rw [List.getD_eq_getElem?_getD, h]
  rfl
theorem all_rep (n : Nat) : ((List.replicate n true).all id) = true := by
  induction n with
  | zero => rfl
  | succ n ih => rw [List.replicate_succ, List.all_cons, ih]; rfl
/-! ### breaches -/
def TriV (H : Hp) : Option (Nat × Nat × Nat) → V → Prop
  | none, v => v = .non
  | some (l, b, t), v => ∃ q, v = .ref q ∧ H q = some (.tup [.int (l : Int), .int (b : Int), .int (t : Int)])
theorem TriV.same {H H' : Hp} {o : Option (Nat × Nat × Nat)} {v : V} (h : TriV H o v) (s : Same H H') : TriV H' o v := by
  match o, h with
  | none, h => exact h
  | some (l, b, t), ⟨q, e, e1⟩ => exact ⟨q, e, s _ _ e1⟩

/-! ### what is held behind a beat -/
def lenAt (ss : Strm) (j : Nat) : Nat := (ss.getD j []).length
def heldN (ss : Strm) : Nat → Nat
  | 0 => 0
  | j + 1 => heldN ss j + lenAt ss j - 1
/-- what came in the last n beats ahead of beat t -/
def cx (ss : Strm) (t : Nat) : Nat → Nat
  | 0 => 0
  | n + 1 => cx ss t n + lenAt ss (t - (n + 1))
theorem cx_next {ss : Strm} {t : Nat} : ∀ n, cx ss (t + 1) (n + 1) = cx ss t n + lenAt ss t
  | 0 => by
    show 0 + lenAt ss (t + 1 - (0 + 1)) = 0 + lenAt ss t
    rfl
  | n + 1 => by
    show cx ss (t + 1) (n + 1) + lenAt ss (t + 1 - (n + 1 + 1)) = cx ss t n + lenAt ss (t - (n + 1)) + lenAt ss t
    rw [cx_next n, show t + 1 - (n + 1 + 1) = t - (n + 1) by omega]
    omega
theorem held_at {ss : Strm} : ∀ t, ∃ n, n ≤ t ∧ (heldN ss t : Int) = (cx ss t n : Int) - (n : Int)
  | 0 => ⟨0, Nat.le_refl _, rfl⟩
  | t + 1 => by
    obtain ⟨n, h1, h2⟩ := held_at (ss := ss) t
    have e : heldN ss (t + 1) = heldN ss t + lenAt ss t - 1 := rfl
    by_cases c : heldN ss t + lenAt ss t = 0
    · refine ⟨0, Nat.zero_le _, ?_⟩
      rw [e, c]
      rfl
    · refine ⟨n + 1, by omega, ?_⟩
      rw [cx_next, e]
      omega
theorem held_ge {ss : Strm} : ∀ t n, n ≤ t → (cx ss t n : Int) - (n : Int) ≤ (heldN ss t : Int)
  | 0, n, h => by
    have : n = 0 := by omega
    subst this
    exact Int.le_refl _
  | t + 1, 0, _ => by
    show ((0 : Nat) : Int) - ((0 : Nat) : Int) ≤ _
    omega
  | t + 1, n + 1, h => by
    have ih := held_ge (ss := ss) t n (by omega)
    have e : heldN ss (t + 1) = heldN ss t + lenAt ss t - 1 := rfl
    rw [cx_next, e]
    omega
theorem held_tail {ss : Strm} {t : Nat} (h : ss.length ≤ t) : heldN ss (t + 1) = heldN ss t - 1 := by
  have e : heldN ss (t + 1) = heldN ss t + lenAt ss t - 1 := rfl
  have z : lenAt ss t = 0 := by
    unfold lenAt
    rw [List.getD_eq_getElem?_getD, List.getElem?_eq_none h]
    rfl
  rw [e, z, Nat.add_zero]
theorem held_end {ss : Strm} : ∀ k, heldN ss (ss.length + k) ≤ heldN ss ss.length
  | 0 => Nat.le_refl _
  | k + 1 => by
    have := held_end (ss := ss) k
    rw [show ss.length + (k + 1) = (ss.length + k) + 1 by omega, held_tail (by omega)]
    omega
/-! ### lines together -/
def sumN (n : Nat) (f : Nat → Int) : Int := ((List.range n).map f).sum
theorem sumN_succ {n : Nat} {f : Nat → Int} : sumN (n + 1) f = sumN n f + f n := by
  unfold sumN
  rw [List.range_succ, List.map_append, List.sum_append]
  simp
theorem sumN_le {n : Nat} {f g : Nat → Int} (h : ∀ i, i < n → f i ≤ g i) : sumN n f ≤ sumN n g := by
  induction n with
  | zero => exact Int.le_refl _
  | succ n ih =>
    rw [sumN_succ, sumN_succ]
    have h1 := ih fun i hi => h i (by omega)
    have h2 := h n (Nat.lt_succ_self _)
    omega
theorem sumN_add {n : Nat} {f g : Nat → Int} : sumN n (fun i => f i + g i) = sumN n f + sumN n g := by
  induction n with
  | zero => rfl
  | succ n ih =>
    rw [sumN_succ, sumN_succ, sumN_succ, ih]
    omega
theorem sumN_eq {n : Nat} {f g : Nat → Int} (h : ∀ i, i < n → f i = g i) : sumN n f = sumN n g := by
  have h1 := sumN_le (n := n) (f := f) (g := g) fun i hi => by rw [h i hi]; exact Int.le_refl _
  have h2 := sumN_le (n := n) (f := g) (g := f) fun i hi => by rw [h i hi]; exact Int.le_refl _
  omega
theorem sumN_0 {n : Nat} : sumN n (fun _ => 0) = 0 := by
  induction n with
  | zero => rfl
  | succ n ih => rw [sumN_succ, ih]; rfl
theorem below_succ {N : Nat} : ∀ {ls : List Nat}, ls.Pairwise (· < ·) → (ls.filter (fun x => decide (x < N + 1))).length = (ls.filter (fun x => decide (x < N))).length + (if N ∈ ls then 1 else 0)
  | [], _ => rfl
  | x :: ls, p => by
    have ih := below_succ (N := N) (List.pairwise_cons.mp p).2
    have low := (List.pairwise_cons.mp p).1
    by_cases c1 : x < N
    · rw [List.filter_cons_of_pos (by exact decide_eq_true (show x < N + 1 by omega)), List.filter_cons_of_pos (by exact decide_eq_true c1), List.length_cons, List.length_cons, ih]
      have e : N ∈ x :: ls ↔ N ∈ ls := by
        rw [List.mem_cons]
        constructor
        · intro z
          rcases z with z | z
          · omega
          · exact z
        · exact .inr
      simp only [e]
      omega
    · have n1 : N ∉ ls := fun z => by have := low N z; omega
      rw [if_neg n1] at ih
      rw [List.filter_cons_of_neg (p := fun x => decide (x < N)) (by rw [decide_eq_true_eq]; exact c1)]
      by_cases c2 : x = N
      · subst c2
        rw [List.filter_cons_of_pos (by exact decide_eq_true (Nat.lt_succ_self _)), List.length_cons, ih, if_pos List.mem_cons_self]
      · rw [List.filter_cons_of_neg (by rw [decide_eq_true_eq]; omega), ih]
        have e : N ∉ x :: ls := by
          rw [List.mem_cons]
          rintro (z | z)
          · exact c2 z.symm
          · exact n1 z
        rw [if_neg e]
theorem lot_below {ls : List Nat} (p : ls.Pairwise (· < ·)) : ∀ N, ((ls.filter (fun x => decide (x < N))).length : Int) = sumN N fun l => if l ∈ ls then 1 else 0
  | 0 => by
    have e : ls.filter (fun x => decide (x < 0)) = [] := List.filter_eq_nil_iff.mpr fun x _ => by simp
    rw [e]
    rfl
  | N + 1 => by
    rw [below_succ p, sumN_succ, ← lot_below p N]
    by_cases c : N ∈ ls
    · rw [if_pos c, if_pos c]; omega
    · rw [if_neg c, if_neg c]; omega
theorem lot_sum {ls : List Nat} {N : Nat} (p : LotOk N ls) : (ls.length : Int) = sumN N fun l => if l ∈ ls then 1 else 0 := by
  rw [← lot_below p.1 N]
  have e : ls.filter (fun x => decide (x < N)) = ls := List.filter_eq_self.mpr fun x hx => decide_eq_true (p.2 x hx)
  rw [e]
theorem len_sum {N : Nat} {ss : Strm} (ok : ∀ ls ∈ ss, LotOk N ls) (j : Nat) : (lenAt ss j : Int) = sumN N fun l => if inL ss l j = true then 1 else 0 := by
  have h : LotOk N (ss.getD j []) := by
    rw [List.getD_eq_getElem?_getD]
    cases c : ss[j]? with
    | none => exact ⟨.nil, fun x hx => absurd hx List.not_mem_nil⟩
    | some ls => exact ok ls (List.mem_of_getElem? c)
  unfold lenAt
  rw [lot_sum h]
  refine sumN_eq fun l _ => ?_
  unfold inL
  by_cases c : l ∈ ss.getD j []
  · rw [if_pos c, if_pos (decide_eq_true c)]
  · rw [if_neg c, if_neg (by rw [decide_eq_true_eq]; exact c)]
theorem cx_sum {N : Nat} {ss : Strm} {t : Nat} (ok : ∀ ls ∈ ss, LotOk N ls) : ∀ n, n ≤ t + 1 → (cx ss (t + 1) n : Int) = sumN N fun l => (dn ss l t n : Int)
  | 0, _ => (sumN_0 (n := N)).symm
  | n + 1, h => by
    have ih := cx_sum (t := t) ok n (by omega)
    show ((cx ss (t + 1) n + lenAt ss (t + 1 - (n + 1)) : Nat) : Int) = _
    rw [Int.natCast_add, ih, len_sum ok, ← sumN_add, show t + 1 - (n + 1) = t - n by omega]
    refine sumN_eq fun l _ => ?_
    show _ = ((dn ss l t n + (if inL ss l (t - n) = true then 1 else 0) : Nat) : Int)
    rw [Int.natCast_add]
    by_cases c : inL ss l (t - n) = true
    · rw [if_pos c, if_pos c]; rfl
    · rw [if_neg c, if_neg c]; rfl
/-- a sum over lines, a sum over rows -/
theorem sum_rows {f : Rw → Int} (rs : List Rw) : sumN rs.length (fun l => f (rs.getD l none)) = (rs.map f).sum := by
  unfold sumN
  congr 1
  refine List.ext_getElem (by simp) fun i h1 h2 => ?_
  have hi : i < rs.length := by simpa using h2
  rw [List.getElem_map, List.getElem_map, List.getElem_range, List.getD_eq_getElem?_getD, List.getElem?_eq_getElem hi]
  rfl
theorem sum_some {bot n : Int} : ∀ rs : List Rw, (rs.map (sentR bot n)).sum = ((someR rs).map (sent1 bot n)).sum
  | [] => rfl
  | none :: rs => by
    rw [List.map_cons, List.sum_cons, sum_some rs]
    show 0 + _ = _
    rw [Int.zero_add]
    rfl
  | some r :: rs => by
    rw [List.map_cons, List.sum_cons, sum_some rs]
    rfl
theorem fH_sum {bot : Int} {rs : List Rw} (n : Nat) : fH bot (someR rs) n = sumN rs.length (fun l => sentR bot (n : Int) (rs.getD l none)) - (n : Int) := by
  rw [sum_rows (f := sentR bot (n : Int)) rs, sum_some]
  rfl
/-- a stream that keeps its buckets -/
def Kept (bot : Int) (rs : List Rw) (ss : Strm) : Prop := ∀ l, l < rs.length → ∀ t, t < ss.length → ∀ n, n ≤ t + 1 → (dn ss l t n : Int) ≤ sentR bot (n : Int) (rs.getD l none)
theorem findSome_low {α : Type} {f : Nat → Option α} {n : Nat} (h : (List.range n).findSome? f = none) : ∀ j, j < n → f j = none := fun j hj => List.findSome?_eq_none_iff.mp h j (List.mem_range.mpr hj)
theorem kept_of {bot : Int} {rs : List Rw} {ss : Strm} (ok : RowsOk bot rs) (h : brF bot rs ss = none) : Kept bot rs ss := fun l hl t ht n hn => by
  have rl : rs[l]? = some (rs.getD l none) := by
    rw [List.getD_eq_getElem?_getD, List.getElem?_eq_getElem hl]
    rfl
  have z := findSome_low (findSome_low h t ht) l hl
  have z : fstN bot (rs.getD l none) ss l t = none := by
    cases c : fstN bot (rs.getD l none) ss l t with
    | none => rfl
    | some k => rw [c] at z; cases z
  match n, hn with
  | 0, _ => exact sent_nn (ok.ok _ (List.mem_of_getElem? rl)) ok.b1 (by omega)
  | n + 1, hn =>
    have q := fst_none.mp z n (by omega)
    unfold brk at q
    rw [decide_eq_false_iff_not] at q
    omega
theorem kept_to {bot : Int} {rs : List Rw} {ss : Strm} (h : Kept bot rs ss) : brF bot rs ss = none := by
  unfold brF
  refine findSome_no fun t ht => ?_
  unfold lineF
  refine findSome_no fun l hl => ?_
  have z : fstN bot (rs.getD l none) ss l t = none := fst_none.mpr fun j hj => by
    unfold brk
    rw [decide_eq_false_iff_not]
    have q := h l hl t ht (j + 1) (by omega)
    omega
  rw [z]
  rfl
/-- no stream that keeps the buckets holds more -/
theorem held_le {bot : Int} {rs : List Rw} {ss : Strm} (kp : Kept bot rs ss) (ok : ∀ ls ∈ ss, LotOk rs.length ls) : ∀ t, t ≤ ss.length → (heldN ss t : Int) ≤ mx (fH bot (someR rs)) (t + 1) := fun t ht => by
  obtain ⟨n, h1, h2⟩ := held_at (ss := ss) t
  match t, n, h1, h2 with
  | t, 0, h1, h2 =>
    have := mx_0 (f := fH bot (someR rs)) (t + 1)
    have e : cx ss t 0 = 0 := rfl
    rw [e] at h2
    omega
  | t + 1, n + 1, h1, h2 =>
    have e := cx_sum (t := t) ok (n + 1) (by omega)
    have q := sumN_le (n := rs.length) (f := fun l => (dn ss l t (n + 1) : Int)) (g := fun l => sentR bot ((n + 1 : Nat) : Int) (rs.getD l none)) fun l hl => kp l hl t (by omega) (n + 1) (by omega)
    have f := fH_sum (bot := bot) (rs := rs) (n + 1)
    have m := mx_le (f := fH bot (someR rs)) (n := t + 1 + 1) (i := n + 1) (by omega)
    omega
/-! ### the soonest -/
def sndB (bot : Int) (rs : List Rw) (l j : Nat) : Bool := decide (sentR bot (j : Int) (rs.getD l none) < sentR bot ((j + 1 : Nat) : Int) (rs.getD l none))
def sooS (bot : Int) (rs : List Rw) (m : Nat) : Strm := (List.range m).map fun j => (List.range rs.length).filter fun l => sndB bot rs l j
theorem soo_len {bot : Int} {rs : List Rw} {m : Nat} : (sooS bot rs m).length = m := by
  unfold sooS
  rw [List.length_map, List.length_range]
theorem soo_ok {bot : Int} {rs : List Rw} {m : Nat} : ∀ ls ∈ sooS bot rs m, LotOk rs.length ls := fun ls h => by
  obtain ⟨j, _, rfl⟩ := List.mem_map.mp h
  exact ⟨List.Pairwise.filter _ List.pairwise_lt_range, fun x hx => List.mem_range.mp (List.mem_filter.mp hx).1⟩
theorem soo_in {bot : Int} {rs : List Rw} {m l j : Nat} (hl : l < rs.length) (hj : j < m) : inL (sooS bot rs m) l j = sndB bot rs l j := by
  unfold inL sooS
  rw [List.getD_eq_getElem?_getD, List.getElem?_map, List.getElem?_range hj]
  show decide (l ∈ (List.range rs.length).filter fun l => sndB bot rs l j) = _
  cases c : sndB bot rs l j with
  | true => exact decide_eq_true (List.mem_filter.mpr ⟨List.mem_range.mpr hl, c⟩)
  | false =>
    refine decide_eq_false fun z => ?_
    have := (List.mem_filter.mp z).2
    rw [c] at this
    cases this
theorem soo_snoc {bot : Int} {rs : List Rw} {m : Nat} : sooS bot rs (m + 1) = sooS bot rs m ++ [(List.range rs.length).filter fun l => sndB bot rs l m] := by
  unfold sooS
  rw [List.range_succ, List.map_append]
  rfl
theorem sent_0 {bot : Int} {r : Rw} (ok : RowOk bot r) : sentR bot 0 r = 0 := by
  match r, ok with
  | none, _ => rfl
  | some (b, t, k), ⟨⟨h1, _⟩, _⟩ =>
    show (if b + t * (0 : Int) / bot < (0 : Int) then _ else (0 : Int)) = 0
    rw [Int.mul_zero, Int.zero_ediv, if_neg (by omega)]
/-- in a beat more one more at most -/
theorem sent_one {bot n : Int} {r : Rw} (ok : RowOk bot r) (hb : 1 ≤ bot) : sentR bot (n + 1) r ≤ sentR bot n r + 1 := by
  match r, ok with
  | none, _ => show (0 : Int) ≤ 0 + 1; decide
  | some (b, t, k), ⟨⟨h1, _⟩, ⟨t0, t1⟩, _⟩ =>
    show mn (n + 1) (b + t * (n + 1) / bot) ≤ mn n (b + t * n / bot) + 1
    have q : t * (n + 1) / bot ≤ t * n / bot + 1 := by
      have e : t * n / bot + 1 = (t * n + bot * 1) / bot := by
        rw [Int.add_mul_ediv_left _ _ (by omega)]
      rw [e, Int.mul_add, Int.mul_one, Int.mul_one]
      exact Int.ediv_le_ediv (by omega) (by omega)
    unfold mn
    split <;> split <;> omega
theorem sent_sub {bot a b : Int} {r : Rw} (ok : RowOk bot r) (hb : 1 ≤ bot) (ha : 0 ≤ a) (hb0 : 0 ≤ b) : sentR bot (a + b) r ≤ sentR bot a r + sentR bot b r := by
  match r, ok with
  | none, _ => show (0 : Int) ≤ 0 + 0; decide
  | some (u, t, k), ⟨⟨h1, _⟩, ⟨t0, t1⟩, _⟩ =>
    show mn (a + b) (u + t * (a + b) / bot) ≤ mn a (u + t * a / bot) + mn b (u + t * b / bot)
    have qa : t * (a + b) / bot ≤ t * a / bot + b := by
      have e : t * a / bot + b = (t * a + bot * b) / bot := by
        rw [Int.add_mul_ediv_left _ _ (by omega)]
      rw [e, Int.mul_add]
      have : t * b ≤ bot * b := Int.mul_le_mul_of_nonneg_right t1 hb0
      exact Int.ediv_le_ediv (by omega) (by omega)
    have qb : t * (a + b) / bot ≤ t * b / bot + a := by
      have e : t * b / bot + a = (t * b + bot * a) / bot := by
        rw [Int.add_mul_ediv_left _ _ (by omega)]
      rw [e, Int.mul_add]
      have : t * a ≤ bot * a := Int.mul_le_mul_of_nonneg_right t1 ha
      exact Int.ediv_le_ediv (by omega) (by omega)
    have qq : t * (a + b) / bot ≤ t * a / bot + t * b / bot + 1 := by
      have e1 := Int.mul_ediv_add_emod (t * a) bot
      have e2 := Int.mul_ediv_add_emod (t * b) bot
      have m1 := Int.emod_lt_of_pos (t * a) (b := bot) (by omega)
      have m2 := Int.emod_lt_of_pos (t * b) (b := bot) (by omega)
      have z : t * (a + b) / bot < t * a / bot + t * b / bot + 1 + 1 := by
        rw [Int.ediv_lt_iff_lt_mul (by omega), Int.mul_add t, Int.add_mul, Int.add_mul, Int.add_mul, Int.mul_comm (t * a / bot) bot, Int.mul_comm (t * b / bot) bot]
        omega
      omega
    unfold mn
    split <;> split <;> split <;> omega
theorem soo_dn {bot : Int} {rs : List Rw} {m l : Nat} (ok : RowsOk bot rs) (hl : l < rs.length) : ∀ t n, t < m → n ≤ t + 1 → (dn (sooS bot rs m) l t n : Int) = sentR bot ((t + 1 : Nat) : Int) (rs.getD l none) - sentR bot ((t + 1 - n : Nat) : Int) (rs.getD l none)
  | t, 0, _, _ => by
    show ((0 : Nat) : Int) = _
    rw [Nat.sub_zero]
    omega
  | t, n + 1, ht, hn => by
    have ih := soo_dn (m := m) ok hl t n ht (by omega)
    have rl : rs[l]? = some (rs.getD l none) := by
      rw [List.getD_eq_getElem?_getD, List.getElem?_eq_getElem hl]
      rfl
    have rok := ok.ok _ (List.mem_of_getElem? rl)
    show ((dn (sooS bot rs m) l t n + (if inL (sooS bot rs m) l (t - n) = true then 1 else 0) : Nat) : Int) = _
    rw [Int.natCast_add, ih, soo_in hl (by omega), show t + 1 - (n + 1) = t - n by omega, show t + 1 - n = (t - n) + 1 by omega]
    unfold sndB
    have s1 := sent_one (n := ((t - n : Nat) : Int)) rok ok.b1
    have s2 := sent_mono (n := ((t - n : Nat) : Int)) (m := ((t - n + 1 : Nat) : Int)) rok ok.b1 (by omega)
    rw [show ((t - n : Nat) : Int) + 1 = ((t - n + 1 : Nat) : Int) by omega] at s1
    by_cases c : sentR bot ((t - n : Nat) : Int) (rs.getD l none) < sentR bot ((t - n + 1 : Nat) : Int) (rs.getD l none)
    · rw [if_pos (decide_eq_true c)]
      omega
    · rw [if_neg (by rw [decide_eq_true_eq]; exact c)]
      omega
theorem soo_kept {bot : Int} {rs : List Rw} {m : Nat} (ok : RowsOk bot rs) : Kept bot rs (sooS bot rs m) := fun l hl t ht n hn => by
  rw [soo_len] at ht
  have rl : rs[l]? = some (rs.getD l none) := by
    rw [List.getD_eq_getElem?_getD, List.getElem?_eq_getElem hl]
    rfl
  have rok := ok.ok _ (List.mem_of_getElem? rl)
  rw [soo_dn ok hl t n ht hn]
  have s := sent_sub (a := ((t + 1 - n : Nat) : Int)) (b := (n : Int)) rok ok.b1 (by omega) (by omega)
  rw [show ((t + 1 - n : Nat) : Int) + (n : Int) = ((t + 1 : Nat) : Int) by omega] at s
  omega
theorem soo_ge {bot : Int} {rs : List Rw} {m : Nat} (ok : RowsOk bot rs) : ∀ t, t ≤ m → fH bot (someR rs) t ≤ (heldN (sooS bot rs m) t : Int)
  | 0, _ => by
    rw [fH_0 (some_ok ok.ok)]
    show (0 : Int) ≤ ((0 : Nat) : Int)
    decide
  | t + 1, ht => by
    have h := held_ge (ss := sooS bot rs m) (t + 1) (t + 1) (Nat.le_refl _)
    rw [cx_sum (t := t) soo_ok (t + 1) (Nat.le_refl _)] at h
    have e : sumN rs.length (fun l => (dn (sooS bot rs m) l t (t + 1) : Int)) = sumN rs.length fun l => sentR bot ((t + 1 : Nat) : Int) (rs.getD l none) := sumN_eq fun l hl => by
      rw [soo_dn ok hl t (t + 1) (by omega) (Nat.le_refl _), Nat.sub_self]
      have rl : rs[l]? = some (rs.getD l none) := by
        rw [List.getD_eq_getElem?_getD, List.getElem?_eq_getElem hl]
        rfl
      have z := sent_0 (ok.ok _ (List.mem_of_getElem? rl))
      show _ - sentR bot (0 : Int) _ = _
      rw [z]
      omega
    rw [e] at h
    rw [fH_sum]
    exact h
/-- all numbers of beats -/
theorem hold_key {bot : Int} {ts : List (Int × Int × Int)} {M : Nat} (b1 : 1 ≤ bot) (ok : ∀ r ∈ ts, RowOk bot (some r)) (tops : topsS ts ≤ bot) (reach : ∀ r ∈ ts, r.1 * bot + bot ≤ (M : Int)) (M1 : 1 ≤ M) : ∀ i : Nat, fH bot ts i ≤ mx (fH bot ts) M := by
  intro i
  induction i using Nat.strongRecOn with
  | _ i ih =>
    by_cases c : i < M
    · exact mx_le c
    · by_cases e : ts = []
      · subst e
        have := mx_0 (f := fH bot []) M
        show (0 : Int) - (i : Int) ≤ _
        omega
      · obtain ⟨r0, hr0⟩ : ∃ r, r ∈ ts := by
          cases ts with
          | nil => exact absurd rfl e
          | cons r ts => exact ⟨r, List.mem_cons_self⟩
        have h0 := reach r0 hr0
        obtain ⟨⟨h1, _⟩, _⟩ := ok r0 hr0
        have h2 : 0 ≤ r0.1 * bot := Int.mul_nonneg (by omega) (by omega)
        obtain ⟨b, rfl⟩ : ∃ b : Nat, bot = (b : Int) := ⟨bot.toNat, by omega⟩
        have hj := ih (i - b) (by omega)
        have st := sum_step b1 (i := ((i - b : Nat) : Int)) (by omega) (ts := ts) fun r hr => ⟨ok r hr, by have := reach r hr; omega⟩
        have ei : ((i - b : Nat) : Int) + (b : Int) = (i : Int) := by omega
        rw [ei] at st
        unfold fH at hj ⊢
        omega
theorem hold_any {bot : Int} {ts : List (Int × Int × Int)} (b1 : 1 ≤ bot) (b20 : bot ≤ 20) (ok : ∀ r ∈ ts, RowOk bot (some r)) (tops : topsS ts ≤ bot) : ∀ i : Nat, fH bot ts i ≤ mx (fH bot ts) 420 := hold_key b1 ok tops (fun r hr => by
  obtain ⟨⟨_, h2⟩, _⟩ := ok r hr
  have : r.1 * bot ≤ 20 * bot := Int.mul_le_mul_of_nonneg_right h2 (by omega)
  omega) (by decide)
theorem hold_R {bot : Int} {ts : List (Int × Int × Int)} {R : Nat} (b1 : 1 ≤ bot) (b20 : bot ≤ 20) (ok : ∀ r ∈ ts, RowOk bot (some r)) (tops : topsS ts ≤ bot) (reach : ∀ r ∈ ts, r.1 * bot + 2 * bot ≤ (R : Int)) : mx (fH bot ts) (R + 1) = mx (fH bot ts) 420 := by
  have k1 := hold_key (M := R + 1) b1 ok tops (fun r hr => by have := reach r hr; omega) (by omega)
  have k2 := hold_any b1 b20 ok tops
  have h1 := mx_top (f := fH bot ts) (n := 420) (mx_0 (R + 1)) fun i _ => k1 i
  have h2 := mx_top (f := fH bot ts) (n := R + 1) (mx_0 420) fun i _ => k2 i
  omega
theorem mx_mono {f : Nat → Int} {n m : Nat} (h : n ≤ m) : mx f n ≤ mx f m := mx_top (mx_0 m) fun i hi => mx_le (by omega)
/-- the first number of beats at which the most are held -/
theorem worst_at {f : Nat → Int} {N : Nat} (f0 : f 0 = 0) (N0 : 0 < N) : ∃ m, m < N ∧ f m = mx f N ∧ ∀ i, i < m → f i < mx f N := by
  have ex : ∃ i, i < N ∧ f i = mx f N := by
    rcases mx_at (f := f) N with e | e
    · exact ⟨0, N0, by rw [f0, e]⟩
    · exact e
  obtain ⟨i, hi, e⟩ := ex
  have low := fun (n : Nat) => (fun (j : Nat) (hj : j < n) => if f j = mx f N then 0 else 1)
  clear low
  induction i using Nat.strongRecOn with
  | _ i ih =>
    by_cases c : ∃ j, j < i ∧ f j = mx f N
    · obtain ⟨j, h1, h2⟩ := c
      exact ih j h1 (by omega) h2
    · refine ⟨i, hi, e, fun j hj => ?_⟩
      have h1 := mx_le (f := f) (n := N) (i := j) (by omega)
      have h2 : f j ≠ mx f N := fun z => c ⟨j, hj, z⟩
      omega

/-! ### the law's own functions -/
section
variable {P : Program} {w : World} {K : PySem.W.Frag} {mg : Str → Option Value} {base : Heap} {A : Adr}
theorem ok_law_pick (T : Top K mg A) : FnOk P w K mg base CX0 2 A.a_law_pick A.d_law_pick P_law_pick (spAny K) := by
  refine T.F_law_pick.ok sc_law_pick (fun vs H Q E h => ?_) (fun cdv A outer s H vs Q E hr h => ?_)
  · obtain ⟨h, g, l, xs, rfl, _⟩ := h
    rfl
  · obtain ⟨h, g, l, xs, rfl, ha, hl, hst, h0, h1, k⟩ := h
    refine ⟨_, (pss_one (ps_ret (pe_ix ix_list (pv 1) (pe_call (ok_law_draw T) (hr.mono (by decide)) (by rfl) T.g_law_draw T.F_law_draw.kp T.b_law_draw .nil pass0 (pa_cons (pv 0) (pa_cons (pe_callB call_len_seq (by rfl) T.z_len (by decide +kernel) (pa_cons (pv 1) pa_nil)) pa_nil))) (fun _ _ => rfl)))), ?_⟩
    refine ⟨_, rfl, _, rfl, _, rfl, l, _, rfl, .inl hl, h, g, _, rfl, ha, by omega, by omega, fun H' d hb hh d0 d1 => ?_⟩
    have hj : d.toNat < xs.length := by omega
    exact ⟨l, xs, d, _, rfl, rfl, hst H' hb, at_of (by omega) (List.getElem?_eq_getElem hj), k H' _ _ hb hh (List.getElem?_eq_getElem hj)⟩
inductive Plain : V → Prop where
  | non : Plain .non
  | int (i : Int) : Plain (.int i)
  | bl (b : Bool) : Plain (.bl b)
def spSame : Sp := fun vs H Q _ => ∃ v, vs = [v, v] ∧ Plain v ∧ ∀ H', Same H H' → Q (.bl true) H'
theorem kit2 {K : PySem.W.Frag} {a : String} (h1 : kitB a "tuple" = some false) (h2 : kitB a "list" = some false) : PySem.W.kitAny K (.type a) [.type "tuple", .type "list"] = some false := by
  unfold PySem.W.kitAny
  rw [kitQ h1 rfl]
  dsimp only
  unfold PySem.W.kitAny
  rw [kitQ h2 rfl]
  rfl
theorem ok_law_same (T : Top K mg A) : FnOk P w K mg base CX0 1 A.a_law_same A.d_law_same P_law_same spSame := by
  refine T.F_law_same.ok sc_law_same (fun vs H Q E h => ?_) (fun cdv A' outer s H vs Q E hr h => ?_)
  · obtain ⟨v, rfl, _⟩ := h
    rfl
  · obtain ⟨v, rfl, pl, k⟩ := h
    refine ⟨_, (pss_cons (ps_if (pt_val (pe_callB call_isiT (by rfl) T.z_isinstance (by decide +kernel) (pa_cons (pv 1) (pa_cons (pe_tup (pa_cons (pe_bltn (v := .ty "tuple") (by rfl) T.z_tuple (by decide +kernel) rfl) (pa_cons (pe_bltn (v := .ty "list") (by rfl) T.z_list (by decide +kernel) rfl) pa_nil))) pa_nil)))) (pss_cons (ps_if (PW.pt (pw_or (pt_cmpR op_ne (pe_callB call_isi (by rfl) T.z_isinstance (by decide +kernel) (pa_cons (pv 0) (pa_cons (pe_bltn (v := .ty "tuple") (by rfl) T.z_tuple (by decide +kernel) rfl) pa_nil))) (pe_callB call_isi (by rfl) T.z_isinstance (by decide +kernel) (pa_cons (pv 1) (pa_cons (pe_bltn (v := .ty "tuple") (by rfl) T.z_tuple (by decide +kernel) rfl) pa_nil))) (nomark _)) (pw_or1 (pt_not (pt_val (pe_callB call_isiT (by rfl) T.z_isinstance (by decide +kernel) (pa_cons (pv 0) (pa_cons (pe_tup (pa_cons (pe_bltn (v := .ty "tuple") (by rfl) T.z_tuple (by decide +kernel) rfl) (pa_cons (pe_bltn (v := .ty "list") (by rfl) T.z_list (by decide +kernel) rfl) pa_nil))) pa_nil)))))))) (pss_one (ps_ret pe_bl)) pss_nil)
    (pss_one (ps_ret (pe_and (pe_cmpR op_eq (pe_callB call_len_seq (by rfl) T.z_len (by decide +kernel) (pa_cons (pv 0) pa_nil)) (pe_callB call_len_seq (by rfl) T.z_len (by decide +kernel) (pa_cons (pv 1) pa_nil)) (nomark _)) (pe_one (pe_callB (cr_all rfl) (by rfl) T.z_all (by decide +kernel) (pa_cons (pe_lc (own := [("_law_one", 2), ("_law_two", 3)]) (by rfl) sc_law_same.nd (RZ.pi_zipA (by rfl) T.z_zip (pa_cons (pv 0) (pa_cons (pv 1) pa_nil))) (blkOk_by (own := [("_law_one", 2), ("_law_two", 3)]) (N := N_law_same) (sc := defScope s_law_same) (by decide +kernel)) (fun _ _ _ _ _ => (show PG _ _ (gTup K 2 _) from (pg_tup rfl (pgs_cons (pg_name (i := 2) sc_law_same.nd rfl (.inl rfl)) (pgs_cons (pg_name (i := 3) sc_law_same.nd rfl (.inl rfl)) pgs_nil))))) (fun _ _ _ _ _ => pts_nil) (fun _ _ _ _ _ => GL.pe_dead)) pa_nil))))))) pss_nil)
    (pss_one (ps_ret (pe_and (pe_cmpR op_eq (pe_callB call_isi (by rfl) T.z_isinstance (by decide +kernel) (pa_cons (pv 0) (pa_cons (pe_bltn (v := .ty "bool") (by rfl) T.z_bool (by decide +kernel) rfl) pa_nil))) (pe_callB call_isi (by rfl) T.z_isinstance (by decide +kernel) (pa_cons (pv 1) (pa_cons (pe_bltn (v := .ty "bool") (by rfl) T.z_bool (by decide +kernel) rfl) pa_nil))) (nomark _)) (pe_one (pe_cmpR op_eq (pv 0) (pv 1) (nomark _))))))), ?_⟩
    obtain ⟨t, b, ty, k2, kb⟩ : ∃ t b, (∀ H', TyX K H' v t) ∧ PySem.W.kitAny K t [.type "tuple", .type "list"] = some false ∧ PySem.W.kitOne K t (.type "bool") = some b := by
      cases pl with
      | non => exact ⟨_, false, fun _ => .base .non, kit2 (by decide +kernel) (by decide +kernel), kitQ (by decide +kernel) rfl⟩
      | int i => exact ⟨_, false, fun _ => .base (.int i), kit2 (by decide +kernel) (by decide +kernel), kitQ (by decide +kernel) rfl⟩
      | bl c => exact ⟨_, true, fun _ => .base (.bl c), kit2 (by decide +kernel) (by decide +kernel), kitQ (by decide +kernel) rfl⟩
    refine ⟨_, rfl, (by show 2 ≤ sizeLine; decide), fun p np => ?_⟩
    have s1 := same_upd np (o := .tup [.ty "tuple", .ty "list"])
    refine ⟨_, p, _, t, _, false, rfl, upd_same, .cons (.ty _) (.cons (.ty _) .nil), ty _, k2, _, rfl, iteF ?_⟩
    refine ⟨_, rfl, _, _, _, _, _, rfl, .ty "bool", ty _, kb, _, rfl, _, _, _, _, _, rfl, .ty "bool", ty _, kb, rfl, _, rfl, ?_⟩
    rw [dec_self]
    refine iteT ⟨_, rfl, _, rfl, ?_, ?_⟩
    · cases pl <;> rfl
    · rw [dec_self]
      exact k _ s1
def spLRows : Sp := fun vs H Q _ => ∃ (h g : Addr) (many bot burst share : Int), vs = [.ref h, .int many, .int bot, .int burst, .int share] ∧ HandAt H h g ∧ (1 ≤ many ∧ many ≤ 12) ∧ (1 ≤ bot ∧ bot ≤ 20) ∧ (1 ≤ burst ∧ burst ≤ 20) ∧ (1 ≤ share ∧ share ≤ 100) ∧
  ∀ (H' : Hp) (a : Addr) (rs : List Rw), Kp h H H' → HandAt H' h g → RowsAt H' a rs → RowsOk bot rs → (rs.length : Int) ≤ many → Q (.ref a) H'
theorem ok_law_rows (T : Top K mg A) : FnOk P w K mg base CX0 3 A.a_law_rows A.d_law_rows P_law_rows spLRows := by
  refine T.F_law_rows.ok sc_law_rows (fun vs H Q E h => ?_) (fun cdv A' outer s H vs Q E hr h => ?_)
  · obtain ⟨h, g, many, bot, burst, share, rfl, _⟩ := h
    rfl
  · obtain ⟨h, g, many, bot, burst, share, rfl, ha, ⟨m1, m2⟩, ⟨o1, o2⟩, ⟨u1, u2⟩, ⟨r1, r2⟩, k⟩ := h
    refine ⟨_, (pss_cons (ps_par (by rfl) sc_law_rows.nd (i := 5) (j := 6) rfl rfl (by decide) rfl rfl (pa_cons (pe_lst pa_nil) (pa_cons (pv 2) pa_nil)) (by rfl))
    (pss_cons (ps_for PassesOwn.never rfl (pi_range1 rfl T.z_range (pa_cons (pe_op op_add pe_int (pe_call (ok_law_draw T) (hr.mono (by decide)) (by rfl) T.g_law_draw T.F_law_draw.kp T.b_law_draw .nil pass0 (pa_cons (pv 0) (pa_cons (pv 1) pa_nil)))) pa_nil)) (pg_name (i := 7) sc_law_rows.nd rfl (.inl rfl)) (pss_one (ps_if (pt_cmpR op_eq (pe_call (ok_law_draw T) (hr.mono (by decide)) (by rfl) T.g_law_draw T.F_law_draw.kp T.b_law_draw .nil pass0 (pa_cons (pv 0) (pa_cons pe_int pa_nil))) pe_int (nomark _)) (pss_one (ps_expr (pe_bm PySem.F.plainAttrs_list PySem.F.slot_list_append PySem.F.type_list_append mt_append (pv 5) (pa_cons pe_non pa_nil)))) (pss_cons (ps_set (i := 8) sc_law_rows.nd rfl (.inl rfl) (pe_ifExp (pt_cmpR op_gt (pe_call (ok_law_draw T) (hr.mono (by decide)) (by rfl) T.g_law_draw T.F_law_draw.kp T.b_law_draw .nil pass0 (pa_cons (pv 0) (pa_cons (pv 4) pa_nil))) pe_int (nomark _)) (pe_call (ok_law_draw T) (hr.mono (by decide)) (by rfl) T.g_law_draw T.F_law_draw.kp T.b_law_draw .nil pass0 (pa_cons (pv 0) (pa_cons (pe_op op_add (pv 6) pe_int) pa_nil))) (pe_call (ok_law_draw T) (hr.mono (by decide)) (by rfl) T.g_law_draw T.F_law_draw.kp T.b_law_draw .nil pass0 (pa_cons (pv 0) (pa_cons (pe_op op_add (pv 2) pe_int) pa_nil)))))
    (pss_cons (ps_set (i := 6) sc_law_rows.nd rfl (.inl rfl) (pe_callB (call_max2 rfl) (by rfl) T.z_max (by decide +kernel) (pa_cons pe_int (pa_cons (pe_op op_sub (pv 6) (pv 8)) pa_nil))))
    (pss_one (ps_expr (pe_bm PySem.F.plainAttrs_list PySem.F.slot_list_append PySem.F.type_list_append mt_append (pv 5) (pa_cons (pe_tup (pa_cons (pe_op op_add pe_int (pe_call (ok_law_draw T) (hr.mono (by decide)) (by rfl) T.g_law_draw T.F_law_draw.kp T.b_law_draw .nil pass0 (pa_cons (pv 0) (pa_cons (pv 3) pa_nil)))) (pa_cons (pv 8) (pa_cons (pe_call (ok_law_draw T) (hr.mono (by decide)) (by rfl) T.g_law_draw T.F_law_draw.kp T.b_law_draw .nil pass0 (pa_cons (pv 0) (pa_cons pe_int pa_nil))) pa_nil)))) pa_nil)))))))))
    (pss_one (ps_ret (pe_callTy call_tuple_of (by rfl) T.z_tuple (by decide +kernel) (pa_cons (pv 5) pa_nil)))))), ?_⟩
    refine ⟨Nat.zero_le _, fun F nF => ?_⟩
    obtain ⟨H1, eH, s1, e1⟩ := newH nF (o := .lst [])
    rw [eH]
    clear eH
    have Fh : F ≠ h := ha.ne_none nF
    refine ⟨_, rfl, _, _, rfl, ?_⟩
    refine ⟨_, rfl, _, rfl, h, g, many, rfl, ha.same s1, by omega, by omega, fun H2 n b2 a2 n0 n1 => ?_⟩
    refine ⟨_, _, rfl, rfl, _, rfl, by omega, by omega, ?_⟩
    have k2 : Kp h H H2 := Kp.trans (kp_of s1 h) b2.kp
    refine for_range (lo := 0) (n := (1 + n).toNat) (fun i σ H' => ∃ (left : Int) (y7 y8 : Option V) (us : List V) (rs : List Rw), σ = [some (.ref h), some (.int many), some (.int bot), some (.int burst), some (.int share), some (.ref F), some (.int left), y7, y8] ∧ HandAt H' h g ∧ Kp h H H' ∧ H' F = some (.lst us) ∧ All2 (RowAt H') rs us ∧ rs.length = i ∧ (∀ r ∈ rs, RowOk bot r) ∧ 0 ≤ left ∧ left ≤ bot)
      ⟨bot, none, none, [], [], rfl, a2, k2, b2.kp _ _ Fh e1, .nil, rfl, fun r hr => absurd hr List.not_mem_nil, by omega, by omega⟩ ?_ ?_
    · rintro i σ H3 hi ⟨left, y7, y8, us, rs, rfl, a3, k3, e3, al, len, ok, l0, l1⟩
      have nF0 : H F = none := nF
      have put : ∀ {H4 : Hp} {r : Rw} {v : V}, Kp h H3 H4 → HandAt H4 h g → RowAt H4 r v → H4 F = some (.lst us) → HandAt (upd H4 F (.lst (us ++ [v]))) h g ∧ Kp h H (upd H4 F (.lst (us ++ [v]))) ∧ (upd H4 F (.lst (us ++ [v]))) F = some (.lst (us ++ [v])) ∧ All2 (RowAt (upd H4 F (.lst (us ++ [v])))) (rs ++ [r]) (us ++ [v]) := fun {H4 r v} k4 a4 rv e4 => by
        have tups : ∀ z xs, H4 z = some (.tup xs) → (upd H4 F (.lst (us ++ [v]))) z = some (.tup xs) := fun z xs e => by
          rw [upd_ne (fun w => by rw [w, e4] at e; cases e)]
          exact e
        refine ⟨?_, fun q o hq e => ?_, upd_same, ((al.imp fun r' v' t => (t.mv fun q xs e => tup_kp k4 a3 e).mv tups)).snoc (rv.mv tups)⟩
        · obtain ⟨⟨ns, ec⟩, ⟨i', m', s', t', ef, q⟩, ne⟩ := a4
          have gF : g ≠ F := fun z => by
            obtain ⟨⟨ns4, ec4⟩, _, _⟩ := ha
            rw [z, nF0] at ec4
            cases ec4
          exact ⟨⟨ns, by rw [upd_ne gF]; exact ec⟩, ⟨i', m', s', t', by rw [upd_ne Fh.symm]; exact ef, q⟩, ne⟩
        · rw [upd_ne (ne_of_none e nF0)]
          exact k4 q o hq (k3 q o hq e)
      have lu := al.len
      refine ⟨_, rfl, h, g, 5, rfl, a3, by decide, by decide, fun H4 d b4 a4 _ _ => ?_⟩
      have e4 := b4.kp _ _ Fh e3
      refine ⟨rfl, _, rfl, ite2 (fun _ => ?_) (fun _ => ?_)⟩
      · obtain ⟨p1, p2, p3, p4⟩ := put (r := none) (v := .non) b4.kp a4 rfl e4
        refine ⟨_, rfl, .inl ⟨rfl, _, SqL.of e4⟩, F, us, _, rfl, rfl, e4, lts (by omega), left, _, _, _, _, rfl, p1, p2, p3, p4, by rw [List.length_append, len]; rfl, fun r hr => ?_, l0, l1⟩
        rcases List.mem_append.mp hr with hr | hr
        · exact ok r hr
        · rw [List.mem_singleton.mp hr]
          trivial
      · refine ⟨_, rfl, _, rfl, h, g, share, rfl, a4, by omega, by omega, fun H5 sh b5 a5 _ _ => ?_⟩
        refine ⟨_, _, rfl, rfl, _, rfl, ite2 (fun _ => ⟨_, rfl, _, rfl, _, _, rfl, rfl, h, g, left + 1, rfl, a5, by omega, by omega, fun H6 tp b6 a6 t0 t1 => ?_⟩) (fun _ => ⟨_, rfl, _, rfl, _, _, rfl, rfl, h, g, bot + 1, rfl, a5, by omega, by omega, fun H6 tp b6 a6 t0 t1 => ?_⟩)⟩
        all_goals
          have t2 : tp ≤ bot := by omega
          have k6 : Kp h H3 H6 := (b4.kp.trans b5.kp).trans b6.kp
          refine ⟨_, rfl, _, rfl, _, _, rfl, rfl, _, _, rfl, ?_⟩
          refine ⟨_, rfl, .inl ⟨rfl, _, SqL.of (k6 _ _ Fh e3)⟩, _, rfl, _, rfl, h, g, burst, rfl, a6, by omega, by omega, fun H7 bu b7 a7 bu0 bu1 => ⟨1, bu, rfl, rfl, _, rfl, _, rfl, h, g, 3, rfl, a7, by decide, by decide, fun H8 kd b8 a8 kd0 kd1 => ⟨(by show 3 ≤ sizeLine; decide), fun q nq => ?_⟩⟩⟩
          generalize hG : upd H8 q _ = H9
          have s9 : Same H8 H9 := by rw [← hG]; exact same_upd nq
          have e9 : H9 q = some (.tup [.int (1 + bu), .int tp, .int kd]) := by rw [← hG]; exact upd_same
          clear hG
          have k9 : Kp h H3 H9 := ((k6.trans b7.kp).trans b8.kp).same s9
          obtain ⟨p1, p2, p3, p4⟩ := put (r := some (1 + bu, tp, kd)) (v := .ref q) k9 (a8.same s9) ⟨q, rfl, e9⟩ (k9 _ _ Fh e3)
          refine ⟨F, us, _, rfl, rfl, k9 _ _ Fh e3, lts (by omega), _, _, _, _, _, rfl, p1, p2, p3, p4, by rw [List.length_append, len]; rfl, fun r hr => ?_, ?_, ?_⟩
          · rcases List.mem_append.mp hr with hr | hr
            · exact ok r hr
            · rw [List.mem_singleton.mp hr]
              exact ⟨⟨by omega, by omega⟩, ⟨t0, t2⟩, kd0, by omega⟩
          · show 0 ≤ if left - tp > 0 then left - tp else 0
            split <;> omega
          · show (if left - tp > 0 then left - tp else 0) ≤ bot
            split <;> omega
    · rintro σ H3 ⟨left, y7, y8, us, rs, rfl, a3, k3, e3, al, len, ok, l0, l1⟩
      refine ⟨_, rfl, F, us, rfl, .inl ⟨SqL.of e3, fun p np => ?_⟩⟩
      have s5 := same_upd np (o := .tup us)
      exact k _ p rs (k3.same s5) (a3.same s5) ⟨us, upd_same, al.imp fun _ _ t => t.same s5⟩ ⟨by omega, by omega, ok, o1, o2⟩ (by omega)
def spSent : Sp := fun vs H Q _ => ∃ (bot beats : Int) (r : Rw) (v : V), vs = [v, .int bot, .int beats] ∧ RowAt H r v ∧ RowOk bot r ∧ 1 ≤ bot ∧ bot ≤ 20 ∧ Q (.int (sentR bot beats r)) H
theorem ok_law_sent (T : Top K mg A) : FnOk P w K mg base CX0 1 A.a_law_sent A.d_law_sent P_law_sent spSent := by
  refine T.F_law_sent.ok sc_law_sent (fun vs H Q E h => ?_) (fun cdv A' outer s H vs Q E hr h => ?_)
  · obtain ⟨bot, beats, r, v, rfl, _⟩ := h
    rfl
  · obtain ⟨bot, beats, r, v, rfl, hv, ok, b1, b20, k⟩ := h
    refine ⟨_, (pss_one (ps_ret (pe_ifExp (pt_cmpR op_isN (pv 0) pe_non (nomark _)) pe_int (pe_callB (call_min2 rfl) (by rfl) T.z_min (by decide +kernel) (pa_cons (pv 2) (pa_cons (pe_op op_add (pe_ix ix_tup (pv 0) pe_int (fun _ _ => rfl)) (pe_callTy call_int1 (by rfl) T.z_int (by decide +kernel) (pa_cons (pe_op op_fdiv (pe_op op_mul (pe_ix ix_tup (pv 0) pe_int (fun _ _ => rfl)) (pv 2)) (pv 1)) pa_nil))) pa_nil)))))), ?_⟩
    match r, hv, ok, k with
    | none, e, _, k =>
      cases (show v = V.non from e)
      exact ⟨_, rfl, rfl, _, rfl, iteT k⟩
    | some (b, t, kk), ⟨q, e, eq⟩, ok, k =>
      subst e
      obtain ⟨⟨h1, h2⟩, ⟨h3, h4⟩, _⟩ := ok
      refine ⟨_, rfl, rfl, _, rfl, iteF ?_⟩
      refine ⟨_, rfl, _, rfl, q, _, 0, _, rfl, rfl, SqT.of eq, atI_nat (j := 0) rfl, _, rfl, q, _, 1, _, rfl, rfl, SqT.of eq, atI_nat (j := 1) rfl, _, rfl, _, _, rfl, rfl, .inl ⟨by omega, by omega⟩, _, rfl, _, _, rfl, rfl, ⟨by omega, by omega⟩, .inl ⟨_, rfl, _, _, rfl, rfl, _, _, rfl, k⟩⟩
def spReach : Sp := fun vs H Q _ => ∃ (a : Addr) (bot : Int) (rs : List Rw), vs = [.ref a, .int bot] ∧ RowsAt H a rs ∧ RowsOk bot rs ∧
  ∀ (H' : Hp) (R : Nat), Same H H' → 1 ≤ R → (∀ r ∈ someR rs, r.1 * bot + 2 * bot ≤ (R : Int)) → ((R : Int) ≤ 1 ∨ (R : Int) ≤ 22 * bot) → Q (.int (R : Int)) H'
theorem ok_law_reach (T : Top K mg A) : FnOk P w K mg base CX0 1 A.a_law_reach A.d_law_reach P_law_reach spReach := by
  refine T.F_law_reach.ok sc_law_reach (fun vs H Q E h => ?_) (fun cdv A' outer s H vs Q E hr h => ?_)
  · obtain ⟨a, bot, rs, rfl, _⟩ := h
    rfl
  · obtain ⟨a, bot, rs, rfl, ⟨xs, ea, al⟩, ok, k⟩ := h
    refine ⟨_, (pss_one (ps_ret (pe_callB (cr_max rfl) (by rfl) T.z_max (by decide +kernel) (pa_cons (pe_op op_cat (pe_lst (pa_cons pe_int pa_nil)) (pe_lc (own := [("_law_row", 2)]) (by rfl) sc_law_reach.nd (pi_tup (pv 0)) (blkOk_by (own := [("_law_row", 2)]) (N := N_law_reach) (sc := defScope s_law_reach) (by decide +kernel)) (fun _ _ _ _ _ => (pg_name (i := 2) sc_law_reach.nd rfl (.inl rfl))) (fun _ _ _ _ _ => (pts_one (pt_cmpR op_notN (pv 2) pe_non (nomark _)))) (fun _ _ _ _ _ => (pe_op op_add (pe_op op_mul (pe_ix (show IxR _ (rIxT K) from ix_tup) (pv 2) pe_int (fun _ _ => rfl)) (pv 1)) (pe_op op_mul pe_int (pv 1)))))) pa_nil)))), ?_⟩
    have few := ok.few
    have b1 := ok.b1
    have b20 := ok.b20
    refine ⟨(by show 1 ≤ sizeLine; decide), fun l nl => ?_⟩
    obtain ⟨H1, eH, s1, e1⟩ := newH nl (o := .lst [.int 1])
    rw [eH]
    clear eH
    refine ⟨_, rfl, a, rfl, ⟨_, SqT.of (s1 _ _ ea)⟩, fun D nD => ?_⟩
    refine lc_tup (K := K) (a := a) (xs := xs) (fun i H' => Same H1 H' ∧ H' D = some (.lst (((someR (rs.take i)).map fun r => r.1 * bot + 2 * bot).map V.int))) ⟨same_upd nD, upd_same⟩ (fun i H' _ ⟨s, _⟩ => SqT.of (s _ _ (s1 _ _ ea))) ?_ ?_
    · rintro i x H' hx ⟨s2, d2⟩
      obtain ⟨r, hr1, hv⟩ := al.get hx
      have hv := (hv.same s1).same s2
      have ln := someR_len (rs := rs) (i := i)
      refine ⟨rfl, ?_⟩
      match r, hr1, hv with
      | none, hr1, e =>
        cases (show x = V.non from e)
        refine ⟨_, rfl, rfl, _, rfl, iteF ⟨s2, ?_⟩⟩
        rw [someR_snoc hr1]
        show H' D = some (.lst (((someR (rs.take i) ++ []).map _).map V.int))
        rw [List.append_nil]
        exact d2
      | some (b, t, kk), hr1, ⟨q, e, eq⟩ =>
        subst e
        obtain ⟨⟨h1, h2⟩, _⟩ := ok.ok _ (List.mem_of_getElem? hr1)
        refine ⟨_, rfl, rfl, _, rfl, iteT ?_⟩
        refine ⟨_, rfl, q, _, 0, _, rfl, rfl, SqT.of eq, atI_nat (j := 0) rfl, _, rfl, _, _, rfl, rfl, .inl ⟨by omega, by omega⟩, _, rfl, _, _, rfl, rfl, .inl ⟨by decide, by decide⟩, _, _, rfl, rfl, ?_⟩
        refine ⟨_, d2, lts (by rw [List.length_map, List.length_map]; omega), same_to s2 nD, ?_⟩
        rw [upd_same, someR_snoc hr1, List.map_append, List.map_append]
        rfl
    · rintro H2 ⟨s2, d2⟩
      rw [← al.len, List.take_length] at d2
      have e2 := s2 _ _ e1
      have ln : (someR rs).length ≤ 12 := Nat.le_trans (List.length_filterMap_le _ _) few
      refine ⟨l, D, [.int 1], _, rfl, rfl, e2, d2, by (rw [List.length_map, List.length_map]; have z : sizeLine ≥ 1000000 := by decide
                                                       show 1 + _ ≤ _
                                                       omega), fun p np => ?_⟩
      have s3 := same_upd np (o := .lst ([.int 1] ++ ((someR rs).map fun r => r.1 * bot + 2 * bot).map V.int))
      refine ⟨p, 1 :: (someR rs).map fun r => r.1 * bot + 2 * bot, rfl, SqL.of upd_same, Nat.succ_pos _, fun m hm top => ?_⟩
      have t1 := top 1 List.mem_cons_self
      obtain ⟨R, rfl⟩ : ∃ R : Nat, m = (R : Int) := ⟨m.toNat, by omega⟩
      refine k _ R ((s1.trans s2).trans s3) (by omega) (fun r hr => top _ (List.mem_cons_of_mem _ (List.mem_map_of_mem (f := fun r => r.1 * bot + 2 * bot) hr))) ?_
      rcases List.mem_cons.mp hm with e | hm
      · exact .inl (by omega)
      · obtain ⟨r, hr, e⟩ := List.mem_map.mp hm
        obtain ⟨⟨_, h2⟩, _⟩ := some_ok ok.ok r hr
        have : r.1 * bot ≤ 20 * bot := Int.mul_le_mul_of_nonneg_right h2 (by omega)
        exact .inr (by omega)
def spLHold : Sp := fun vs H Q _ => ∃ (a : Addr) (bot : Int) (rs : List Rw), vs = [.ref a, .int bot] ∧ RowsAt H a rs ∧ RowsOk bot rs ∧ ∀ H', Same H H' → Q (optV (holdO bot rs)) H'
end

section
variable {P : Program} {w : World} {K : PySem.W.Frag} {mg : Str → Option Value} {base : Heap} {A : Adr}
def spLBr : Sp := fun vs H Q _ => ∃ (a b : Addr) (bot : Int) (rs : List Rw) (ss : Strm), vs = [.ref a, .int bot, .ref b] ∧ RowsAt H a rs ∧ RowsOk bot rs ∧ StrmAt H b ss ∧ ss.length ≤ 6000 ∧ ∀ H' v, Same H H' → TriV H' (brF bot rs ss) v → Q v H'
theorem ok_law_breach (T : Top K mg A) : FnOk P w K mg base CX0 2 A.a_law_breach A.d_law_breach P_law_breach spLBr := by
  refine T.F_law_breach.ok sc_law_breach (fun vs H Q E h => ?_) (fun cdv A' outer s H vs Q E hr h => ?_)
  · obtain ⟨a, b, bot, rs, ss, rfl, _⟩ := h
    rfl
  · obtain ⟨a, b, bot, rs, ss, rfl, ⟨xs, ea, alr⟩, ok, ⟨vs, eb, al⟩, few, k⟩ := h
    refine ⟨_, (pss_cons (ps_for PassesOwn.never rfl (pi_range1 rfl T.z_range (pa_cons (pe_callB call_len_seq (by rfl) T.z_len (by decide +kernel) (pa_cons (pv 2) pa_nil)) pa_nil)) (pg_name (i := 3) sc_law_breach.nd rfl (.inl rfl)) (pss_one (ps_for PassesOwn.never rfl (GE.pi_enumA (by rfl) T.z_enumerate (pa_cons (pv 0) pa_nil)) (pg_tup rfl (pgs_cons (pg_name (i := 4) sc_law_breach.nd rfl (.inl rfl)) (pgs_cons (pg_name (i := 5) sc_law_breach.nd rfl (.inl rfl)) pgs_nil))) (pss_cons (ps_set (i := 6) sc_law_breach.nd rfl (.inl rfl) pe_int)
    (pss_one (ps_for PassesOwn.never rfl (pi_range3 rfl T.z_range (pa_cons (pv 3) (pa_cons (pe_un un_neg pe_int) (pa_cons (pe_un un_neg pe_int) pa_nil)))) (pg_name (i := 7) sc_law_breach.nd rfl (.inl rfl)) (pss_cons (ps_set (i := 6) sc_law_breach.nd rfl (.inl rfl) (pe_op op_add (pv 6) (pe_callTy call_int1 (by rfl) T.z_int (by decide +kernel) (pa_cons (pe_cmpR op_in_seq (pv 4) (pe_ix ix_tup (pv 2) (pv 7) (fun _ _ => rfl)) (by rfl)) pa_nil))))
    (pss_one (ps_if (pt_cmpR op_gt (pv 6) (pe_call (ok_law_sent T) (hr.mono (by decide)) (by rfl) T.g_law_sent T.F_law_sent.kp T.b_law_sent .nil pass0 (pa_cons (pv 5) (pa_cons (pv 1) (pa_cons (pe_op op_add (pe_op op_sub (pv 3) (pv 7)) pe_int) pa_nil)))) (nomark _)) (pss_one (ps_ret (pe_tup (pa_cons (pv 4) (pa_cons (pv 7) (pa_cons (pv 3) pa_nil)))))) pss_nil)))))))))
    (pss_one (ps_ret pe_non))), ?_⟩
    have lv := al.len
    have lr := alr.len
    refine ⟨_, rfl, b, vs, rfl, .inr (SqT.of eb), _, rfl, by omega, by omega, ?_⟩
    refine for_range (lo := 0) (n := (vs.length : Int).toNat) (fun t σ H' => ∃ y3 y4 y5 y6 y7 : Option V, σ = [some (.ref a), some (.int bot), some (.ref b), y3, y4, y5, y6, y7] ∧ Same H H' ∧ ∀ t', t' < t → lineF bot rs ss t' = none) ⟨_, _, _, _, _, rfl, fun _ _ e => e, fun t' h => absurd h (Nat.not_lt_zero _)⟩ ?_ ?_
    · rintro t σ H1 ht ⟨y3, y4, y5, y6, y7, rfl, s1, low⟩
      have tl : t < ss.length := by omega
      refine ⟨_, rfl, a, xs, rfl, .inr ⟨SqT.of (s1 _ _ ea), for_it GE.walk (fun l σ H' => ∃ y4 y5 y6 y7 : Option V, σ = [some (.ref a), some (.int bot), some (.ref b), some (.int (0 + (t : Int))), y4, y5, y6, y7] ∧ Same H H' ∧ ∀ l', l' < l → fstN bot (rs.getD l' none) ss l' t = none)
        ⟨_, _, _, _, rfl, s1, fun l' h => absurd h (Nat.not_lt_zero _)⟩ (fun i σ H' _ ⟨_, _, _, _, _, s, _⟩ => SqT.of (s _ _ ea)) ?_ ?_⟩⟩
      · rintro l x σ H2 H2' hl ⟨y4, y5, y6, y7, rfl, s2, lowL⟩ ⟨T1, x1, x2, rfl, nT, rfl, ex1, ex2⟩
        cases ex1
        have ex2 : xs[l]? = some x2 := ex2
        have hlx := (List.getElem?_eq_some_iff.mp ex2).1
        have hlr : l < rs.length := by omega
        have rl : rs[l]? = some (rs.getD l none) := by
          rw [List.getD_eq_getElem?_getD, List.getElem?_eq_getElem hlr]
          rfl
        have rok := ok.ok _ (List.mem_of_getElem? rl)
        obtain ⟨rv, hrv, hrw⟩ := alr.getL rl
        rw [ex2] at hrv
        cases hrv
        have s3 := same_upd nT (o := .tup [.int ((l : Nat) : Int), x2])
        refine ⟨T1, _, rfl, SqT.of upd_same, rfl, _, _, rfl, _, _, rfl, rfl, ?_⟩
        have s03 := s2.trans s3
        generalize upd H2 T1 (.tup [.int ((l : Nat) : Int), x2]) = H3 at s3 s03 ⊢
        refine ⟨_, rfl, _, rfl, _, rfl, (t : Int), -1, -1, t + 1, ?_, ?_, ?_⟩
        · show [V.int (0 + (t : Int)), V.int (-1), V.int (-1)] = _
          rw [Int.zero_add]
        · have z := RgC.neg (i := (t : Int)) (j := -1) (by omega) (by omega) (by decide) (by decide)
          rw [show ((t : Int) - -1).toNat = t + 1 by omega] at z
          exact z
        refine for_rangeC (lo := (t : Int)) (c := -1) (n := t + 1) (fun i σ H' => ∃ y7 : Option V, σ = [some (.ref a), some (.int bot), some (.ref b), some (.int (0 + (t : Int))), some (.int (l : Int)), some x2, some (.int (dn ss l t i : Int)), y7] ∧ Same H H' ∧ ∀ j, j < i → brk bot (rs.getD l none) ss l t (j + 1) = false) ⟨_, rfl, s03, fun j h => absurd h (Nat.not_lt_zero _)⟩ ?_ ?_
        · rintro i σ H4 hi ⟨y7, rfl, s4, lowJ⟩
          have e1 : (t : Int) + (i : Nat) * (-1) = ((t - i : Nat) : Int) := by omega
          obtain ⟨ls, hls⟩ : ∃ ls, ss[t - i]? = some ls := ⟨_, List.getElem?_eq_getElem (by omega)⟩
          obtain ⟨lv', hlv, q, rfl, hq⟩ := al.getL hls
          have ein : inL ss l (t - i) = decide (l ∈ ls) := by
            unfold inL
            rw [getD_some hls]
          have dnx : dn ss l t (i + 1) = dn ss l t i + (if inL ss l (t - i) = true then 1 else 0) := rfl
          refine ⟨_, rfl, _, rfl, _, rfl, _, rfl, b, vs, _, _, rfl, rfl, SqT.of (s4 _ _ eb), (show atI vs ((t : Int) + (i : Nat) * (-1)) = some (.ref q) by rw [e1]; exact atI_nat hlv), q, _, rfl, .inr (SqT.of (s4 _ _ hq)), rfl, flat_nats _, .inr ⟨_, rfl, _, _, rfl, rfl, ?_⟩⟩
          have em : (dn ss l t i : Int) + (if inV (.int (l : Int)) (natsV ls) = true then 1 else 0) = (dn ss l t (i + 1) : Int) := by
            rw [inV_nats, dnx, ein]
            by_cases c : l ∈ ls
            · rw [decide_eq_true c]
              rfl
            · rw [decide_eq_false c]
              rfl
          show gName 6 (V.int ((dn ss l t i : Int) + (if inV (.int (l : Int)) (natsV ls) = true then 1 else 0))) _ _ _
          rw [em]
          refine ⟨_, rfl, _, rfl, _, rfl, _, rfl, _, rfl, _, _, rfl, rfl, _, _, rfl, rfl, bot, ((i + 1 : Nat) : Int), _, x2, ?_, hrw.same s4, rok, ok.b1, ok.b20, _, _, rfl, rfl, _, rfl, ?_⟩
          · show [x2, V.int bot, V.int (0 + (t : Int) - ((t : Int) + (i : Nat) * (-1)) + 1)] = [x2, V.int bot, V.int ((i + 1 : Nat) : Int)]
            rw [show 0 + (t : Int) - ((t : Int) + (i : Nat) * (-1)) + 1 = ((i + 1 : Nat) : Int) by omega]
          by_cases c : sentR bot ((i + 1 : Nat) : Int) (rs.getD l none) < (dn ss l t (i + 1) : Int)
          · rw [decide_eq_true c]
            refine iteT ⟨_, rfl, _, rfl, _, rfl, by show 3 ≤ sizeLine; decide, fun z nz => ?_⟩
            refine k _ _ (s4.trans (same_upd nz)) ?_
            have hf : fstN bot (rs.getD l none) ss l t = some i := find_at hi lowJ (by unfold brk; exact decide_eq_true c)
            have hb : brF bot rs ss = some (l, t - i, t) := by
              unfold brF
              refine findSome_at tl low ?_
              unfold lineF
              refine findSome_at hlr (fun j hj => ?_) (by rw [hf]; rfl)
              rw [lowL j hj]
              rfl
            rw [hb]
            refine ⟨z, rfl, ?_⟩
            rw [upd_same]
            show some (HO.tup [V.int (l : Int), V.int ((t : Int) + (i : Nat) * (-1)), V.int (0 + (t : Int))]) = _
            rw [e1, Int.zero_add]
          · rw [decide_eq_false c]
            refine iteF ⟨_, rfl, s4, fun j hj => ?_⟩
            by_cases z : j = i
            · rw [z]
              unfold brk
              exact decide_eq_false c
            · exact lowJ j (by omega)
        · rintro σ H4 ⟨y7, rfl, s4, lowJ⟩
          refine ⟨_, _, _, _, rfl, s4, fun l' hl' => ?_⟩
          by_cases c : l' = l
          · subst c
            exact fst_none.mpr fun j hj => lowJ j (by omega)
          · exact lowL l' (by omega)
      · rintro σ H2 ⟨y4, y5, y6, y7, rfl, s2, lowL⟩
        refine ⟨_, _, _, _, _, rfl, s2, fun t' ht' => ?_⟩
        by_cases c : t' = t
        · subst c
          unfold lineF
          refine findSome_no fun j hj => ?_
          rw [lowL j (by omega)]
          rfl
        · exact low t' (by omega)
    · rintro σ H1 ⟨y3, y4, y5, y6, y7, rfl, s1, low⟩
      refine k H1 .non s1 ?_
      unfold brF
      rw [findSome_no fun t' ht' => low t' (by omega)]
      rfl
end

/-! ### streams drawn -/
theorem HandAt.ne_g {h g p : Addr} {H : Hp} (a : HandAt H h g) (hp : H p = none) : p ≠ g := by
  obtain ⟨ns, e⟩ := a.cells
  exact (ne_of_none e hp).symm
theorem HandAt.put {h g p : Addr} {H : Hp} {o : HO} (a : HandAt H h g) (h1 : p ≠ h) (h2 : p ≠ g) : HandAt (upd H p o) h g := by
  obtain ⟨⟨ns, ec⟩, ⟨i', m', s', t', ef, q⟩, ne⟩ := a
  exact ⟨⟨ns, by rw [upd_ne h2.symm]; exact ec⟩, ⟨i', m', s', t', by rw [upd_ne h1.symm]; exact ef, q⟩, ne⟩
theorem Kp.put {h p : Addr} {H0 H : Hp} {o : HO} (k : Kp h H0 H) (n : H0 p = none) : Kp h H0 (L2.upd H p o) := fun q u hq e => by
  rw [L2.upd_ne (ne_of_none e n)]
  exact k q u hq e
theorem tup_put {H : Hp} {p q : Addr} {xs ys zs : List V} (e : H p = some (.lst xs)) (f : H q = some (.tup ys)) : upd H p (.lst zs) q = some (.tup ys) := by
  rw [upd_ne (fun z => by rw [z, e] at f; cases f)]
  exact f
section
variable {P : Program} {w : World} {K : PySem.W.Frag} {mg : Str → Option Value} {base : Heap} {A : Adr}
def spLStream : Sp := fun vs H Q _ => ∃ (h g : Addr) (n m : Nat), vs = [.ref h, .int (n : Int), .int (m : Int)] ∧ HandAt H h g ∧ n ≤ 12 ∧ m ≤ 1000 ∧ ∀ (H' : Hp) (a : Addr) (ss : Strm), Kp h H H' → HandAt H' h g → StrmAt H' a ss → ss.length = m → (∀ ls ∈ ss, LotOk n ls) → Q (.ref a) H'
theorem ok_law_stream (T : Top K mg A) : FnOk P w K mg base CX0 3 A.a_law_stream A.d_law_stream P_law_stream spLStream := by
  refine T.F_law_stream.ok sc_law_stream (fun vs H Q E h => ?_) (fun cdv A' outer s H vs Q E hr h => ?_)
  · obtain ⟨h, g, n, m, rfl, _⟩ := h
    rfl
  · obtain ⟨h, g, n, m, rfl, ha, hn, hm, k⟩ := h
    refine ⟨_, (pss_cons (ps_set (i := 3) sc_law_stream.nd rfl (.inr rfl) (pe_call (ok_law_pick T) (hr.mono (by decide)) (by rfl) T.g_law_pick T.F_law_pick.kp T.b_law_pick .nil pass0 (pa_cons (pv 0) (pa_cons (pe_lst (pa_cons pe_int (pa_cons pe_int (pa_cons pe_int (pa_cons pe_int (pa_cons pe_int pa_nil)))))) pa_nil))))
    (pss_cons (ps_set (i := 4) sc_law_stream.nd rfl (.inl rfl) (pe_lst pa_nil))
    (pss_cons (ps_for PassesOwn.never rfl (pi_range1 rfl T.z_range (pa_cons (pv 2) pa_nil)) (pg_name (i := 5) sc_law_stream.nd rfl (.inl rfl)) (pss_one (ps_expr (pe_bm PySem.F.plainAttrs_list PySem.F.slot_list_append PySem.F.type_list_append mt_append (pv 4) (pa_cons (pe_callTy call_tuple_of (by rfl) T.z_tuple (by decide +kernel) (pa_cons (pe_lc (own := [("_law_line", 6)]) (by rfl) sc_law_stream.nd (pi_range1 rfl T.z_range (pa_cons (pv 1) pa_nil)) (blkOk_by (own := [("_law_line", 6)]) (N := N_law_stream) (sc := defScope s_law_stream) (by decide +kernel)) (fun _ _ _ _ _ => (pg_name (i := 6) sc_law_stream.nd rfl (.inl rfl))) (fun _ _ _ _ _ => (pts_one (pt_cmpR op_eq (pe_call (ok_law_draw (P := P) (w := w) T) (hr.mono (by decide)) (by rfl) T.g_law_draw T.F_law_draw.kp T.b_law_draw .nil pass0 (pa_cons (pv 0) (pa_cons (pv 3) pa_nil))) pe_int (nomark _)))) (fun _ _ _ _ _ => (pv 6))) pa_nil)) pa_nil)))))
    (pss_one (ps_ret (pe_callTy call_tuple_of (by rfl) T.z_tuple (by decide +kernel) (pa_cons (pv 4) pa_nil))))))), ?_⟩
    refine ⟨_, rfl, by show 5 ≤ sizeLine; decide, fun l nl => ?_⟩
    have a1 := ha.same (same_upd nl (o := .lst [.int 2, .int 2, .int 3, .int 5, .int 1]))
    have hl := ha.ne_none nl
    refine ⟨h, g, l, _, rfl, a1, SqL.of upd_same, fun H' b => SqL.of ((b l hl).trans upd_same), by show 0 < 5; decide, by show 5 ≤ 100000; decide, fun H2 j v b2 a2 hv => ?_⟩
    have hs : ∃ sh : Int, v = .int sh ∧ 1 ≤ sh ∧ sh ≤ 5 := by
      have q := List.mem_of_getElem? hv
      simp only [List.mem_cons, List.not_mem_nil, or_false] at q
      rcases q with q | q | q | q | q <;> subst q <;> exact ⟨_, rfl, by decide, by decide⟩
    obtain ⟨sh, rfl, sh1, sh5⟩ := hs
    have k2 : Kp h H H2 := (kp_of (same_upd nl) h).trans b2.kp
    clear b2 a1 hv nl hl
    refine ⟨by show 0 ≤ sizeLine; decide, fun F nF => ?_⟩
    have Fh := a2.ne_none nF
    have Fg := a2.ne_g nF
    have nF0 : H F = none := k2.free Fh nF
    have k3 := k2.put (o := .lst []) nF0
    have a3 := a2.put (o := .lst []) Fh Fg
    have e3 : upd H2 F (.lst []) F = some (.lst []) := upd_same
    generalize upd H2 F (.lst []) = H3 at k3 a3 e3 ⊢
    refine ⟨_, rfl, (m : Int), rfl, by omega, by omega, ?_⟩
    refine for_range (lo := 0) (n := (m : Int).toNat) (fun i σ H' => ∃ (y5 y6 : Option V) (us : List V) (ss : Strm), σ = [some (.ref h), some (.int (n : Int)), some (.int (m : Int)), some (.int sh), some (.ref F), y5, y6] ∧ Kp h H H' ∧ HandAt H' h g ∧ H' F = some (.lst us) ∧ All2 (LotAt H') ss us ∧ ss.length = i ∧ ∀ ls ∈ ss, LotOk n ls) ⟨_, _, [], [], rfl, k3, a3, e3, .nil, rfl, fun ls hls => absurd hls List.not_mem_nil⟩ ?_ ?_
    · rintro i σ H4 hi ⟨y5, y6, us, ss, rfl, k4, a4, e4, al4, l4, ok4⟩
      have lu := al4.len
      refine ⟨_, rfl, .inl ⟨rfl, _, SqL.of e4⟩, _, rfl, (n : Int), rfl, by omega, by omega, fun D nD => ?_⟩
      have Dh := a4.ne_none nD
      have Dg := a4.ne_g nD
      have s5 := same_upd nD (o := .lst [])
      refine lc_range (lo := 0) (n := (n : Int).toNat) (fun j H' => ∃ ls : List Nat, Kp h H4 H' ∧ HandAt H' h g ∧ H' D = some (.lst (natsV ls)) ∧ ls.Pairwise (· < ·) ∧ (∀ x ∈ ls, x < j) ∧ ls.length ≤ j) ⟨[], kp_of s5 h, a4.same s5, upd_same, .nil, fun x hx => absurd hx List.not_mem_nil, Nat.le_refl _⟩ ?_ ?_
      · rintro j H5 hj ⟨ls, k5, a5, e5, p5, b5, l5⟩
        refine ⟨by kernel_rfl, ?_⟩
        refine ⟨_, rfl, _, rfl, h, g, sh, rfl, a5, by omega, by omega, fun H6 d b6 a6 d0 d1 => ⟨rfl, _, rfl, ?_⟩⟩
        have k6 := k5.trans b6.kp
        have e6 := b6.kp _ _ Dh e5
        rw [dec_int]
        by_cases c : d = 0
        · rw [decide_eq_true c]
          refine iteT ⟨_, rfl, _, e6, by unfold natsV; rw [List.length_map]; exact lts (by omega), ls ++ [j], k6.put nD, a6.put Dh Dg, ?_, ?_, fun x hx => ?_, by rw [List.length_append]; exact Nat.succ_le_succ l5⟩
          · rw [upd_same, Int.zero_add]
            unfold natsV
            rw [List.map_append]
            rfl
          · rw [List.pairwise_append]
            refine ⟨p5, List.pairwise_singleton _ _, fun x hx y hy => ?_⟩
            rw [List.mem_singleton] at hy
            rw [hy]
            exact b5 x hx
          · rcases List.mem_append.mp hx with z | z
            · exact Nat.lt_succ_of_lt (b5 x z)
            · rw [List.mem_singleton] at z
              omega
        · rw [decide_eq_false c]
          exact iteF ⟨ls, k6, a6, e6, p5, fun x hx => Nat.lt_succ_of_lt (b5 x hx), by omega⟩
      · rintro H5 ⟨ls, k5, a5, e5, p5, b5, l5⟩
        refine ⟨D, _, rfl, .inl ⟨SqL.of e5, fun p np => ?_⟩⟩
        have s6 := same_upd np (o := .tup (natsV ls))
        have ep : upd H5 p (.tup (natsV ls)) p = some (.tup (natsV ls)) := upd_same
        have k6 := k5.same s6
        have a6 := a5.same s6
        have e6 := k6 _ _ Fh e4
        generalize upd H5 p (.tup (natsV ls)) = H6 at s6 ep k6 a6 e6 ⊢
        refine ⟨F, us, _, rfl, rfl, e6, lts (by omega), _, _, us ++ [.ref p], ss ++ [ls], rfl, (k4.trans k6).put nF0, a6.put Fh Fg, upd_same, ?_, by rw [List.length_append, l4]; rfl, fun x hx => ?_⟩
        · exact ((al4.imp fun _ _ t => (t.mv fun q xs e => tup_kp k6 a4 e).mv fun q xs e => tup_put e6 e)).snoc ⟨p, rfl, tup_put e6 ep⟩
        · rcases List.mem_append.mp hx with z | z
          · exact ok4 x z
          · rw [List.mem_singleton] at z
            rw [z]
            exact ⟨p5, fun x hx => by have := b5 x hx; omega⟩
    · rintro σ H4 ⟨y5, y6, us, ss, rfl, k4, a4, e4, al4, l4, ok4⟩
      refine ⟨_, rfl, F, us, rfl, .inl ⟨SqL.of e4, fun p np => ?_⟩⟩
      have s5 := same_upd np (o := .tup us)
      exact k _ p ss (k4.same s5) (a4.same s5) ⟨us, upd_same, al4.imp fun _ _ t => t.mv fun q xs e => s5 _ _ e⟩ (by omega) ok4
end

/-! ### streams thinned -/
def fl (ss : Strm) (l n : Nat) : List Nat := (List.range n).filter (inL ss l)
theorem fl_succ {ss : Strm} {l n : Nat} : fl ss l (n + 1) = fl ss l n ++ (if inL ss l n = true then [n] else []) := by
  unfold fl
  rw [List.range_succ, List.filter_append]
  congr 1
  by_cases c : inL ss l n = true
  · rw [if_pos c, List.filter_cons_of_pos c]
    rfl
  · rw [if_neg c, List.filter_cons_of_neg c]
    rfl
theorem dn_cnt {ss : Strm} {l t : Nat} : ∀ n, n ≤ t + 1 → dn ss l t n + (fl ss l (t + 1 - n)).length = (fl ss l (t + 1)).length
  | 0, _ => by
    rw [Nat.sub_zero]
    exact Nat.zero_add _
  | n + 1, h => by
    have ih := dn_cnt (ss := ss) (l := l) (t := t) n (by omega)
    have e : t + 1 - n = (t - n) + 1 := by omega
    rw [e, fl_succ, List.length_append] at ih
    have e2 : t + 1 - (n + 1) = t - n := by omega
    rw [e2]
    show dn ss l t n + (if inL ss l (t - n) = true then 1 else 0) + _ = _
    by_cases c : inL ss l (t - n) = true
    · rw [if_pos c] at ih ⊢
      have ih : dn ss l t n + ((fl ss l (t - n)).length + 1) = (fl ss l (t + 1)).length := ih
      omega
    · rw [if_neg c] at ih ⊢
      have ih : dn ss l t n + ((fl ss l (t - n)).length + 0) = (fl ss l (t + 1)).length := ih
      omega
theorem fl_pre {ss : Strm} {l n : Nat} : ∀ m, ∃ r, fl ss l (n + m) = fl ss l n ++ r
  | 0 => ⟨[], (List.append_nil _).symm⟩
  | m + 1 => by
    obtain ⟨r, e⟩ := fl_pre (ss := ss) (l := l) (n := n) m
    refine ⟨r ++ (if inL ss l (n + m) = true then [n + m] else []), ?_⟩
    rw [show n + (m + 1) = (n + m) + 1 by omega, fl_succ, e, List.append_assoc]
theorem fl_at {ss : Strm} {l s t : Nat} (h : inL ss l s = true) (hs : s ≤ t) : (fl ss l (t + 1))[(fl ss l s).length]? = some s := by
  obtain ⟨r, e⟩ := fl_pre (ss := ss) (l := l) (n := s + 1) (t - s)
  rw [show s + 1 + (t - s) = t + 1 by omega] at e
  rw [e, fl_succ, if_pos h, List.append_assoc, List.getElem?_append_right (Nat.le_refl _), Nat.sub_self]
  rfl
/-- every beat that is let keeps every window back to a let beat -/
def ThinAt (bot : Int) (r : Rw) (ss : Strm) (l t : Nat) : Prop := inL ss l t = true → ∀ s, s ≤ t → inL ss l s = true → (dn ss l t (t - s + 1) : Int) ≤ sentR bot ((t - s + 1 : Nat) : Int) r
theorem thin_ok {bot : Int} {r : Rw} {ss : Strm} {l T : Nat} (ok : RowOk bot r) (hb : 1 ≤ bot) (th : ∀ t, t < T → ThinAt bot r ss l t) : ∀ t, t < T → ∀ n, n ≤ t + 1 → (dn ss l t n : Int) ≤ sentR bot (n : Int) r := by
  intro t
  induction t with
  | zero =>
    intro ht n hn
    match n, hn with
    | 0, _ => exact sent_nn ok hb (by omega)
    | 1, _ =>
      cases c : inL ss l 0 with
      | true => exact th 0 ht c 0 (Nat.le_refl _) c
      | false =>
        have e : dn ss l 0 1 = 0 + (if inL ss l (0 - 0) = true then 1 else 0) := rfl
        rw [Nat.sub_zero, c, if_neg Bool.false_ne_true] at e
        rw [e]
        exact sent_nn ok hb (by omega)
  | succ t ih =>
    intro ht n
    have ih := ih (by omega)
    induction n with
    | zero => intro _; exact sent_nn ok hb (by omega)
    | succ n ihn =>
      intro hn
      cases c : inL ss l (t + 1) with
      | false =>
        rw [dn_next, c, if_neg Bool.false_ne_true, Nat.add_zero]
        exact Int.le_trans (ih n (by omega)) (sent_mono ok hb (by omega))
      | true =>
        cases c2 : inL ss l (t + 1 - n) with
        | true =>
          have z := th (t + 1) ht c (t + 1 - n) (by omega) c2
          rw [show t + 1 - (t + 1 - n) + 1 = n + 1 by omega] at z
          exact z
        | false =>
          have e : dn ss l (t + 1) (n + 1) = dn ss l (t + 1) n + (if inL ss l (t + 1 - n) = true then 1 else 0) := rfl
          rw [e, c2, if_neg Bool.false_ne_true, Nat.add_zero]
          exact Int.le_trans (ihn (by omega)) (sent_mono ok hb (by omega))
theorem thin_none {bot : Int} {rs : List Rw} {ss : Strm} (ok : RowsOk bot rs) (th : ∀ l, l < rs.length → ∀ t, t < ss.length → ThinAt bot (rs.getD l none) ss l t) : brF bot rs ss = none := by
  unfold brF
  refine findSome_no fun t ht => ?_
  unfold lineF
  refine findSome_no fun l hl => ?_
  have rl : rs[l]? = some (rs.getD l none) := by
    rw [List.getD_eq_getElem?_getD, List.getElem?_eq_getElem hl]
    rfl
  have z : fstN bot (rs.getD l none) ss l t = none := fst_none.mpr fun j hj => by
    unfold brk
    rw [decide_eq_false_iff_not]
    have q := thin_ok (ok.ok _ (List.mem_of_getElem? rl)) ok.b1 (th l hl) t ht (j + 1) (by omega)
    omega
  rw [z]
  rfl
theorem inL_old {ss : Strm} {so : List Nat} {l s : Nat} (h : s < ss.length) : inL (ss ++ [so]) l s = inL ss l s := by
  unfold inL
  rw [List.getD_eq_getElem?_getD, List.getD_eq_getElem?_getD, List.getElem?_append_left h]
theorem inL_new {ss : Strm} {so : List Nat} {l : Nat} : inL (ss ++ [so]) l ss.length = decide (l ∈ so) := by
  unfold inL
  rw [List.getD_eq_getElem?_getD, List.getElem?_append_right (Nat.le_refl _), Nat.sub_self]
  rfl
theorem fl_old {ss : Strm} {so : List Nat} {l n : Nat} (h : n ≤ ss.length) : fl (ss ++ [so]) l n = fl ss l n := by
  unfold fl
  refine List.filter_congr fun s hs => inL_old ?_
  have := List.mem_range.mp hs
  omega
theorem dn_old {ss : Strm} {so : List Nat} {l t : Nat} (h : t < ss.length) : ∀ n, dn (ss ++ [so]) l t n = dn ss l t n
  | 0 => rfl
  | n + 1 => by
    show dn (ss ++ [so]) l t n + (if inL (ss ++ [so]) l (t - n) = true then 1 else 0) = _
    rw [dn_old h n, inL_old (by omega)]
    rfl
theorem thin_old {bot : Int} {r : Rw} {ss : Strm} {so : List Nat} {l t : Nat} (h : t < ss.length) (th : ThinAt bot r ss l t) : ThinAt bot r (ss ++ [so]) l t := fun c s hs c2 => by
  rw [inL_old h] at c
  rw [inL_old (by omega)] at c2
  rw [dn_old h]
  exact th c s hs c2
theorem thin_new {bot : Int} {r : Rw} {ss : Strm} {so : List Nat} {l : Nat} (h : l ∈ so → ∀ (at_ s : Nat), (fl ss l ss.length ++ [ss.length])[at_]? = some s → ((fl ss l ss.length ++ [ss.length]).length : Int) - (at_ : Int) ≤ sentR bot ((ss.length : Int) - (s : Int) + 1) r) : ThinAt bot r (ss ++ [so]) l ss.length := fun c s hs c2 => by
  rw [inL_new, decide_eq_true_eq] at c
  have e1 : fl (ss ++ [so]) l (ss.length + 1) = fl ss l ss.length ++ [ss.length] := by
    rw [fl_succ, inL_new, decide_eq_true c, if_pos rfl, fl_old (Nat.le_refl _)]
  have z := fl_at c2 hs
  rw [e1] at z
  have q := h c _ s z
  have d := dn_cnt (ss := ss ++ [so]) (l := l) (t := ss.length) (ss.length - s + 1) (by omega)
  rw [show ss.length + 1 - (ss.length - s + 1) = s by omega, e1] at d
  rw [show ((ss.length - s + 1 : Nat) : Int) = (ss.length : Int) - s + 1 by omega]
  omega

/-- the lists of let beats; none of them is of av -/
def CameAt (H0 H : Hp) (us : List V) (n : Nat) (f : Nat → List Nat) (av : List Addr) : Prop := us.length = n ∧ ∀ l, l < n → ∃ q, us[l]? = some (.ref q) ∧ H0 q = none ∧ H q = some (.lst (natsV (f l))) ∧ q ∉ av
theorem CameAt.same {H0 H H' : Hp} {us : List V} {n : Nat} {f : Nat → List Nat} {av : List Addr} (c : CameAt H0 H us n f av) (s : Same H H') : CameAt H0 H' us n f av := ⟨c.1, fun l hl => let ⟨q, e1, e2, e3, e4⟩ := c.2 l hl; ⟨q, e1, e2, s _ _ e3, e4⟩⟩
theorem CameAt.more {H0 H : Hp} {us : List V} {n : Nat} {f : Nat → List Nat} {av : List Addr} {p : Addr} (c : CameAt H0 H us n f av) (np : H p = none) : CameAt H0 H us n f (p :: av) := ⟨c.1, fun l hl => let ⟨q, e1, e2, e3, e4⟩ := c.2 l hl; ⟨q, e1, e2, e3, fun z => by
  rcases List.mem_cons.mp z with z | z
  · exact ne_of_none e3 np z
  · exact e4 z⟩⟩
theorem CameAt.but {H0 H : Hp} {us : List V} {n : Nat} {f : Nat → List Nat} {av : List Addr} {p : Addr} {o : HO} (c : CameAt H0 H us n f av) (hp : p ∈ av) : CameAt H0 (upd H p o) us n f av := ⟨c.1, fun l hl => by
  obtain ⟨q, e1, e2, e3, e4⟩ := c.2 l hl
  exact ⟨q, e1, e2, by rw [upd_ne (fun z => e4 (by rw [z]; exact hp))]; exact e3, e4⟩⟩
theorem CameAt.less {H0 H : Hp} {us : List V} {n : Nat} {f : Nat → List Nat} {av av' : List Addr} (c : CameAt H0 H us n f av) (h : ∀ x ∈ av', x ∈ av) : CameAt H0 H us n f av' := ⟨c.1, fun l hl => let ⟨q, e1, e2, e3, e4⟩ := c.2 l hl; ⟨q, e1, e2, e3, fun z => e4 (h _ z)⟩⟩
theorem CameAt.as {H0 H : Hp} {us : List V} {n : Nat} {f f' : Nat → List Nat} {av : List Addr} (c : CameAt H0 H us n f av) (h : ∀ l, l < n → f l = f' l) : CameAt H0 H us n f' av := ⟨c.1, fun l hl => let ⟨q, e1, e2, e3, e4⟩ := c.2 l hl; ⟨q, e1, e2, by rw [← h l hl]; exact e3, e4⟩⟩
theorem CameAt.set {H0 H : Hp} {us : List V} {n : Nat} {f f' : Nat → List Nat} {av : List Addr} {l : Nat} {q : Addr} (c : CameAt H0 H us n f av) (hl : l < n) (e0 : H0 q = none) (eq : H q = some (.lst (natsV (f' l)))) (nq : q ∉ av) (h : ∀ j, j < n → j ≠ l → f j = f' j) : CameAt H0 H (us.set l (.ref q)) n f' av := ⟨by rw [List.length_set]; exact c.1, fun j hj => by
  by_cases z : j = l
  · subst z
    exact ⟨q, by rw [List.getElem?_set_self (by rw [c.1]; exact hj)], e0, eq, nq⟩
  · obtain ⟨q', e1, e2, e3, e4⟩ := c.2 j hj
    exact ⟨q', by rw [List.getElem?_set_ne (fun w => z w.symm)]; exact e1, e2, by rw [← h j hj z]; exact e3, e4⟩⟩
theorem nd_len_lt {n : Nat} {ls : List Nat} (p : ls.Pairwise (· < ·)) (h : ∀ x ∈ ls, x < n) : ls.length ≤ n := by
  have nd : ls.Nodup := p.imp fun h => Nat.ne_of_lt h
  have z := (List.nodup_range (n := n))
  have s : ls.length ≤ (List.range n).length := nat_nodup_len ls (List.range n) nd fun x hx => List.mem_range.mpr (h x hx)
  rw [List.length_range] at s
  exact s
section
variable {P : Program} {w : World} {K : PySem.W.Frag} {mg : Str → Option Value} {base : Heap} {A : Adr}
def LetC (bot : Int) (r : Rw) (later : List Nat) (t j : Nat) : Prop := ∀ (at_ s : Nat), at_ < j → later[at_]? = some s → (later.length : Int) - (at_ : Int) ≤ sentR bot ((t : Int) - (s : Int) + 1) r
def spThin : Sp := fun vs H Q _ => ∃ (a b : Addr) (bot : Int) (rs : List Rw) (ss : Strm), vs = [.ref a, .int bot, .ref b] ∧ RowsAt H a rs ∧ RowsOk bot rs ∧ StrmAt H b ss ∧ StrmOk rs.length ss ∧ ss.length ≤ 1000 ∧
  ∀ (H' : Hp) (c : Addr) (ts : Strm), Same H H' → StrmAt H' c ts → ts.length = ss.length → (∀ ls ∈ ts, LotOk rs.length ls) → brF bot rs ts = none → Q (.ref c) H'
theorem ok_law_thinned (T : Top K mg A) : FnOk P w K mg base CX0 2 A.a_law_thinned A.d_law_thinned P_law_thinned spThin := by
  refine T.F_law_thinned.ok sc_law_thinned (fun vs H Q E h => ?_) (fun cdv A' outer s H vs Q E hr h => ?_)
  · obtain ⟨a, b, bot, rs, ss, rfl, _⟩ := h
    rfl
  · obtain ⟨a, b, bot, rs, ss, rfl, ⟨xs, ea, alr⟩, ok, ⟨vs, eb, al⟩, sok, few, k⟩ := h
    refine ⟨_, (pss_cons (ps_setLc (i := 3) (own := [("_law_row", 13)]) (by rfl) sc_law_thinned.nd rfl rfl (sw_true rfl rfl rfl (by decide +kernel)) (pi_tup (pv 0)) (blkOk_by (own := [("_law_row", 13)]) (N := N_law_thinned) (sc := defScope s_law_thinned) (by decide +kernel)) (fun _ _ _ _ _ => (pg_name (i := 13) sc_law_thinned.nd rfl (.inl rfl))) (fun _ _ _ _ _ => pts_nil) (fun _ _ _ _ _ => (pe_lst pa_nil)))
    (pss_cons (ps_set (i := 4) sc_law_thinned.nd rfl (.inl rfl) (pe_lst pa_nil))
    (pss_cons (ps_for PassesOwn.never rfl (GE.pi_enumA (by rfl) T.z_enumerate (pa_cons (pv 2) pa_nil)) (pg_tup rfl (pgs_cons (pg_name (i := 5) sc_law_thinned.nd rfl (.inl rfl)) (pgs_cons (pg_name (i := 6) sc_law_thinned.nd rfl (.inl rfl)) pgs_nil))) (pss_cons (ps_set (i := 7) sc_law_thinned.nd rfl (.inl rfl) (pe_lst pa_nil))
    (pss_cons (ps_for PassesOwn.never rfl (pi_tup (pv 6)) (pg_name (i := 8) sc_law_thinned.nd rfl (.inl rfl)) (pss_cons (ps_set (i := 9) sc_law_thinned.nd rfl (.inl rfl) (pe_op op_cat (pe_ix ix_list (pv 3) (pv 8) (fun _ _ => rfl)) (pe_lst (pa_cons (pv 5) pa_nil))))
    (pss_cons (ps_set (i := 10) sc_law_thinned.nd rfl (.inl rfl) pe_bl)
    (pss_cons (ps_for PassesOwn.never rfl (GE.pi_enumA (by rfl) T.z_enumerate (pa_cons (pv 9) pa_nil)) (pg_tup rfl (pgs_cons (pg_name (i := 11) sc_law_thinned.nd rfl (.inl rfl)) (pgs_cons (pg_name (i := 12) sc_law_thinned.nd rfl (.inl rfl)) pgs_nil))) (pss_one (ps_set (i := 10) sc_law_thinned.nd rfl (.inl rfl) (pe_and (pv 10) (pe_one (pe_cmpR op_le (pe_op op_sub (pe_callB call_len_seq (by rfl) T.z_len (by decide +kernel) (pa_cons (pv 9) pa_nil)) (pv 11)) (pe_call (ok_law_sent T) (hr.mono (by decide)) (by rfl) T.g_law_sent T.F_law_sent.kp T.b_law_sent .nil pass0 (pa_cons (pe_ix ix_tup (pv 0) (pv 8) (fun _ _ => rfl)) (pa_cons (pv 1) (pa_cons (pe_op op_add (pe_op op_sub (pv 5) (pv 12)) pe_int) pa_nil)))) (nomark _)))))))
    (pss_one (ps_if (pt_truth (pv 10) (by intro _; rfl)) (pss_cons (ps_asg (pv 9) (pg_sub (pv 3) (pv 8) set_list))
    (pss_one (ps_expr (pe_bm PySem.F.plainAttrs_list PySem.F.slot_list_append PySem.F.type_list_append mt_append (pv 7) (pa_cons (pv 8) pa_nil))))) pss_nil))))))
    (pss_one (ps_expr (pe_bm PySem.F.plainAttrs_list PySem.F.slot_list_append PySem.F.type_list_append mt_append (pv 4) (pa_cons (pe_callTy call_tuple_of (by rfl) T.z_tuple (by decide +kernel) (pa_cons (pv 7) pa_nil)) pa_nil)))))))
    (pss_one (ps_ret (pe_callTy call_tuple_of (by rfl) T.z_tuple (by decide +kernel) (pa_cons (pv 4) pa_nil))))))), ?_⟩
    have lv := al.len
    have lr := alr.len
    have rfew := ok.few
    refine ⟨_, rfl, a, rfl, ⟨_, SqT.of ea⟩, fun C nC => ?_⟩
    refine lc_tup (K := K) (a := a) (xs := xs) (fun i H' => ∃ us, Same H H' ∧ H' C = some (.lst us) ∧ CameAt H H' us i (fun _ => []) [C]) ⟨[], same_upd nC, upd_same, rfl, fun l hl => absurd hl (Nat.not_lt_zero _)⟩ (fun i H' _ ⟨_, s, _⟩ => SqT.of (s _ _ ea)) ?_ ?_
    · rintro i x H1 hx ⟨us, s1, e1, cm⟩
      have hi := (List.getElem?_eq_some_iff.mp hx).1
      have lu := cm.1
      refine ⟨by kernel_rfl, ?_⟩
      refine ⟨Nat.zero_le _, fun q nq => ?_⟩
      have s2 := same_upd nq (o := .lst [])
      have eq : upd H1 q (.lst []) q = some (.lst []) := upd_same
      have cm2 := cm.same s2
      have e2 := s2 _ _ e1
      have Cq : q ≠ C := fun z => by rw [z, e1] at nq; cases nq
      generalize upd H1 q (.lst []) = H2 at s2 eq cm2 e2 ⊢
      have cm3 := cm2.but (o := .lst (us ++ [.ref q])) (List.mem_singleton.mpr rfl)
      refine ⟨us, e2, lts (by omega), us ++ [.ref q], same_to (s1.trans s2) nC, upd_same, by rw [List.length_append, lu]; rfl, fun l hl => ?_⟩
      by_cases c : l < i
      · obtain ⟨q', h1, h2, h3, h4⟩ := cm3.2 l c
        exact ⟨q', by rw [List.getElem?_append_left (by omega)]; exact h1, h2, h3, h4⟩
      · have : l = i := by omega
        subst this
        exact ⟨q, by rw [List.getElem?_append_right (by omega), show l - us.length = 0 by omega]; rfl, s1.free nq, by rw [upd_ne Cq]; exact eq, fun z => Cq (List.mem_singleton.mp z)⟩
    · rintro H1 ⟨us0, s1, e1, cm1⟩
      rw [← lr] at cm1
      refine ⟨by show 0 ≤ sizeLine; decide, fun F nF => ?_⟩
      have s2 := same_upd nF (o := .lst [])
      have eF2 : upd H1 F (.lst []) F = some (.lst []) := upd_same
      have cm2 := (cm1.more nF).same s2
      have eC2 := s2 _ _ e1
      have nF0 := s1.free nF
      have CF : C ≠ F := fun z => by rw [← z, e1] at nF; cases nF
      have s02 := s1.trans s2
      generalize upd H1 F (.lst []) = H2 at s2 eF2 cm2 eC2 s02 ⊢
      refine ⟨_, rfl, b, vs, rfl, .inr ⟨SqT.of (s02 _ _ eb), for_it GE.walk (fun t σ H' => ∃ (y5 y6 y7 y8 y9 y10 y11 y12 : Option V) (us fs : List V) (ts : Strm), σ = [some (.ref a), some (.int bot), some (.ref b), some (.ref C), some (.ref F), y5, y6, y7, y8, y9, y10, y11, y12, none] ∧ Same H H' ∧ H' C = some (.lst us) ∧ H' F = some (.lst fs) ∧ All2 (LotAt H') ts fs ∧ ts.length = t ∧ CameAt H H' us rs.length (fun l => fl ts l t) [F, C] ∧ (∀ ls ∈ ts, LotOk rs.length ls) ∧ ∀ l, l < rs.length → ∀ t', t' < t → ThinAt bot (rs.getD l none) ts l t')
        ⟨_, _, _, _, _, _, _, _, us0, [], [], rfl, s02, eC2, eF2, .nil, rfl, cm2, fun ls h => absurd h List.not_mem_nil, fun l _ t' h => absurd h (Nat.not_lt_zero _)⟩ (fun i σ H' _ ⟨_, _, _, _, _, _, _, _, _, _, _, _, s, _⟩ => SqT.of (s _ _ eb)) ?_ ?_⟩⟩
      · rintro t x σ H3 H3' ht ⟨y5, y6, y7, y8, y9, y10, y11, y12, us, fs, ts, rfl, s3, eC3, eF3, alF, lt3, cm3, ok3, th3⟩ ⟨T1, x1, x2, rfl, nT, rfl, ex1, ex2⟩
        cases ex1
        obtain ⟨ls, hls, q, rfl, hq⟩ := al.get ex2
        obtain ⟨lasc, llt⟩ := sok.ok ls (List.mem_of_getElem? hls)
        have tl := (List.getElem?_eq_some_iff.mp hls).1
        have lF := alF.len
        have s4 := same_upd nT (o := .tup [.int ((t : Nat) : Int), .ref q])
        refine ⟨T1, _, rfl, SqT.of upd_same, rfl, _, _, rfl, _, _, rfl, rfl, ?_⟩
        have s04 := s3.trans s4
        have eC4 := s4 _ _ eC3
        have eF4 := s4 _ _ eF3
        have alF4 := alF.imp fun _ _ z => z.mv (fun q xs e => s4 q _ e)
        have cm4 := cm3.same s4
        generalize upd H3 T1 (.tup [.int ((t : Nat) : Int), .ref q]) = H4 at s4 s04 eC4 eF4 alF4 cm4 ⊢
        refine ⟨by show 0 ≤ sizeLine; decide, fun S nS => ?_⟩
        have s5 := same_upd nS (o := .lst [])
        have s05 := s04.trans s5
        have eS5 : upd H4 S (.lst []) S = some (.lst []) := upd_same
        have eC5 := s5 _ _ eC4
        have eF5 := s5 _ _ eF4
        have alF5 := alF4.imp fun _ _ z => z.mv (fun q xs e => s5 q _ e)
        have cm5 := (cm4.more nS).same s5
        have nS0 := s04.free nS
        have CS : C ≠ S := fun z => by rw [← z, eC4] at nS; cases nS
        have FS : F ≠ S := fun z => by rw [← z, eF4] at nS; cases nS
        generalize upd H4 S (.lst []) = H5 at s5 s05 eS5 eC5 eF5 alF5 cm5 ⊢
        refine ⟨_, rfl, q, rfl, ⟨_, SqT.of (s05 _ _ hq)⟩, for_tup (xs := natsV ls) (fun i σ H' => ∃ (y8 y9 y10 y11 y12 : Option V) (us' : List V) (so : List Nat), σ = [some (.ref a), some (.int bot), some (.ref b), some (.ref C), some (.ref F), some (.int (t : Int)), some (.ref q), some (.ref S), y8, y9, y10, y11, y12, none] ∧ Same H H' ∧ H' C = some (.lst us') ∧ H' F = some (.lst fs) ∧ All2 (LotAt H') ts fs ∧ H' S = some (.lst (natsV so)) ∧ so.Pairwise (· < ·) ∧ (∀ x ∈ so, x ∈ ls.take i) ∧ so.length ≤ i ∧ CameAt H H' us' rs.length (fun l => fl ts l t ++ (if l ∈ so then [t] else [])) [S, F, C] ∧ ∀ l ∈ so, LetC bot (rs.getD l none) (fl ts l t ++ [t]) t ((fl ts l t ++ [t]).length))
          ⟨_, _, _, _, _, us, [], rfl, s05, eC5, eF5, alF5, eS5, .nil, fun x hx => absurd hx List.not_mem_nil, Nat.le_refl _, cm5.as fun l _ => (List.append_nil _).symm, fun l hl => absurd hl List.not_mem_nil⟩ (fun i σ H' _ ⟨_, _, _, _, _, _, _, _, s, _⟩ => SqT.of (s _ _ hq)) ?_ ?_⟩
        · rintro i x σ H6 hx ⟨y8, y9, y10, y11, y12, us', so, rfl, s6, eC6, eF6, alF6, eS6, pso, sub, lso, cm6, lc6⟩
          unfold natsV at hx
          rw [List.getElem?_map] at hx
          obtain ⟨l, hl, rfl⟩ := Option.map_eq_some_iff.mp hx
          have il := (List.getElem?_eq_some_iff.mp hl).1
          have hln := llt l (List.mem_of_getElem? hl)
          have lls : ls.length ≤ 12 := by
            have z := nd_len_lt (ls := ls) lasc llt
            omega
          have low : ∀ x ∈ so, x < l := fun x hx => by
            have z := lasc
            have hd : ls.drop i = l :: ls.drop (i + 1) := by
              obtain ⟨h1, h2⟩ := List.getElem?_eq_some_iff.mp hl
              rw [← h2, ← List.drop_eq_getElem_cons h1]
            rw [← List.take_append_drop i ls, hd, List.pairwise_append] at z
            exact z.2.2 x (sub x hx) l List.mem_cons_self
          have lno : l ∉ so := fun z => Nat.lt_irrefl _ (low l z)
          have rl : rs[l]? = some (rs.getD l none) := by
            rw [List.getD_eq_getElem?_getD, List.getElem?_eq_getElem hln]
            rfl
          have rok := ok.ok _ (List.mem_of_getElem? rl)
          obtain ⟨rv, hrv, hrw⟩ := alr.getL rl
          obtain ⟨ql, w1, w2, w3, w4⟩ := cm6.2 l hln
          have w3 : H6 ql = some (.lst (natsV (fl ts l t))) := by
            have z := w3
            simp only [if_neg lno, List.append_nil] at z
            exact z
          have llen : (fl ts l t).length ≤ t := by
            unfold fl
            exact Nat.le_trans (List.length_filter_le _ _) (by rw [List.length_range]; exact Nat.le_refl _)
          refine ⟨_, rfl, _, rfl, C, us', _, _, rfl, rfl, SqL.of eC6, atI_nat w1, _, rfl, by show 1 ≤ sizeLine; decide, fun L1 n1 => ?_⟩
          have s7 := same_upd n1 (o := .lst [.int (t : Int)])
          refine ⟨ql, L1, _, _, rfl, rfl, s7 _ _ w3, upd_same, ?_, fun L2 n2 => ?_⟩
          · unfold natsV
            rw [List.length_map]
            exact Nat.le_of_lt (lts (by show (fl ts l t).length + 1 ≤ 1000 + 1 - 1 + 0; omega))
          have elater : natsV (fl ts l t) ++ [V.int (t : Int)] = natsV (fl ts l t ++ [t]) := by
            unfold natsV
            rw [List.map_append]
            rfl
          rw [elater]
          have s8 := same_upd n2 (o := .lst (natsV (fl ts l t ++ [t])))
          have s68 := s7.trans s8
          have e8 : upd (upd H6 L1 (.lst [.int (t : Int)])) L2 (.lst (natsV (fl ts l t ++ [t]))) L2 = some (.lst (natsV (fl ts l t ++ [t]))) := upd_same
          have n26 : H6 L2 = none := s7.free n2
          have L2C : L2 ≠ C := (ne_of_none eC6 n26).symm
          have L2F : L2 ≠ F := (ne_of_none eF6 n26).symm
          have L2S : L2 ≠ S := (ne_of_none eS6 n26).symm
          have n20 := s6.free n26
          generalize upd (upd H6 L1 (.lst [.int (t : Int)])) L2 (.lst (natsV (fl ts l t ++ [t]))) = H8 at s8 s68 e8 ⊢
          have s08 := s6.trans s68
          have llater : (fl ts l t ++ [t]).length ≤ 1000 := by
            rw [List.length_append]
            show (fl ts l t).length + 1 ≤ 1000
            omega
          have lnats : (natsV (fl ts l t ++ [t])).length = (fl ts l t ++ [t]).length := by unfold natsV; rw [List.length_map]
          refine ⟨_, rfl, L2, _, rfl, .inl ⟨SqL.of e8, for_it walk_enum (fun j σ H' => ∃ (y11 y12 : Option V) (bb : Bool), σ = [some (.ref a), some (.int bot), some (.ref b), some (.ref C), some (.ref F), some (.int (t : Int)), some (.ref q), some (.ref S), some (.int (l : Int)), some (.ref L2), some (.bl bb), y11, y12, none] ∧ Same H8 H' ∧ (bb = true ↔ LetC bot (rs.getD l none) (fl ts l t ++ [t]) t j))
            ⟨_, _, true, rfl, fun _ _ e => e, ⟨fun _ at_ s h => absurd h (Nat.not_lt_zero _), fun _ => rfl⟩⟩ (fun i σ H' _ ⟨_, _, _, _, s, _⟩ => SqL.of (s _ _ e8)) ?_ ?_⟩⟩
          · rintro j x σ H9 H9' hj ⟨y11, y12, bb, rfl, s9, hbb⟩ ⟨T2, x1, x2, rfl, nT2, rfl, ex3, ex4⟩
            cases ex3
            have ex4 : (natsV (fl ts l t ++ [t]))[j]? = some x2 := ex4
            unfold natsV at ex4
            rw [List.getElem?_map] at ex4
            obtain ⟨sb, hsb, rfl⟩ := Option.map_eq_some_iff.mp ex4
            have s10 := same_upd nT2 (o := .tup [.int ((j : Nat) : Int), .int (sb : Int)])
            refine ⟨T2, _, rfl, SqT.of upd_same, rfl, _, _, rfl, _, _, rfl, rfl, ?_⟩
            have s810 := s9.trans s10
            have s010 := s08.trans s810
            generalize upd H9 T2 (.tup [.int ((j : Nat) : Int), .int (sb : Int)]) = H10 at s10 s810 s010 ⊢
            refine ⟨_, rfl, bb, rfl, ?_⟩
            cases bb with
            | false =>
              refine iteF ⟨_, _, false, rfl, s810, ⟨fun z => absurd z Bool.false_ne_true, fun z => ?_⟩⟩
              exact hbb.mpr fun at_ s h1 h2 => z at_ s (by omega) h2
            | true =>
              refine iteT ⟨_, rfl, L2, _, rfl, .inl (SqL.of (s810 _ _ e8)), _, rfl, _, _, rfl, rfl, _, rfl, _, rfl, a, xs, _, _, rfl, rfl, SqT.of (s010 _ _ ea), atI_nat hrv, _, rfl, _, rfl, _, rfl, _, _, rfl, rfl, _, _, rfl, rfl, bot, ((t : Int) - (sb : Int) + 1), _, rv, rfl, hrw.same s010, rok, ok.b1, ok.b20, _, _, rfl, rfl, ?_⟩
              refine ⟨_, _, _, rfl, s810, ?_⟩
              rw [decide_eq_true_eq, lnats]
              constructor
              · intro z at_ s h1 h2
                by_cases c : at_ = j
                · subst c
                  rw [hsb] at h2
                  cases h2
                  exact z
                · exact hbb.mp rfl at_ s (by omega) h2
              · intro z
                exact z j sb (Nat.lt_succ_self _) hsb
          · rintro σ H9 ⟨y11, y12, bb, rfl, s9, hbb⟩
            rw [lnats] at hbb
            have s69 := s68.trans s9
            have s09 := s08.trans s9
            have eC9 := s69 _ _ eC6
            have eF9 := s69 _ _ eF6
            have eS9 := s69 _ _ eS6
            have alF9 := alF6.imp fun _ _ z => z.mv (fun q xs e => s69 q _ e)
            have cm9 := cm6.same s69
            have e9 := s9 _ _ e8
            refine ⟨_, rfl, bb, rfl, ?_⟩
            cases bb with
            | false => exact iteF ⟨_, _, _, _, _, us', so, rfl, s09, eC9, eF9, alF9, eS9, pso, fun x hx => List.take_subset_take_left ls (Nat.le_succ i) (sub x hx), by omega, cm9, lc6⟩
            | true =>
              have lus := cm9.1
              refine iteT ⟨_, rfl, _, rfl, _, rfl, C, us', _, l, rfl, rfl, eC9, Evl.ixN_nat (by omega), ?_⟩
              have cm10 : CameAt H H9 (us'.set l (.ref L2)) rs.length (fun j => fl ts j t ++ (if j ∈ so ++ [l] then [t] else [])) [S, F, C] := by
                refine cm9.set hln n20 (by simp only [List.mem_append, List.mem_singleton, or_true, if_true]; exact e9) ?_ fun j hj hjl => ?_
                · simp only [List.mem_cons, List.not_mem_nil, or_false, not_or]
                  exact ⟨L2S, L2F, L2C⟩
                · by_cases c : j ∈ so
                  · simp only [c, List.mem_append, true_or, if_true]
                  · simp only [c, List.mem_append, List.mem_singleton, hjl, or_self, if_false]
              have cm11 := cm10.but (p := C) (o := .lst (us'.set l (.ref L2))) (by simp)
              have tC : ∀ q xs, H9 q = some (.tup xs) → upd H9 C (.lst (us'.set l (.ref L2))) q = some (.tup xs) := fun q xs e => tup_put eC9 e
              have eC11 : upd H9 C (.lst (us'.set l (.ref L2))) C = some (.lst (us'.set l (.ref L2))) := upd_same
              have eF11 : upd H9 C (.lst (us'.set l (.ref L2))) F = some (.lst fs) := by rw [upd_ne CF.symm]; exact eF9
              have eS11 : upd H9 C (.lst (us'.set l (.ref L2))) S = some (.lst (natsV so)) := by rw [upd_ne CS.symm]; exact eS9
              have s011 : Same H (upd H9 C (.lst (us'.set l (.ref L2)))) := same_to s09 nC
              have alF11 := alF9.imp fun _ _ z => z.mv tC
              generalize upd H9 C (.lst (us'.set l (.ref L2))) = H11 at cm11 eC11 eF11 eS11 s011 alF11 ⊢
              refine ⟨_, rfl, .inl ⟨rfl, _, SqL.of eS11⟩, _, rfl, S, _, _, rfl, rfl, eS11, by unfold natsV; rw [List.length_map]; exact lts (by omega), ?_⟩
              have tS : ∀ q xs, H11 q = some (.tup xs) → upd H11 S (.lst (natsV so ++ [.int (l : Int)])) q = some (.tup xs) := fun q xs e => tup_put eS11 e
              refine ⟨_, _, _, _, _, _, so ++ [l], rfl, same_to s011 nS0, by rw [upd_ne CS]; exact eC11, by rw [upd_ne FS]; exact eF11, alF11.imp fun _ _ z => z.mv tS, ?_, ?_, fun x hx => ?_, by rw [List.length_append]; exact Nat.succ_le_succ lso, cm11.but (by simp), fun x hx => ?_⟩
              · rw [upd_same]
                unfold natsV
                rw [List.map_append]
                rfl
              · rw [List.pairwise_append]
                refine ⟨pso, List.pairwise_singleton _ _, fun x hx y hy => ?_⟩
                rw [List.mem_singleton] at hy
                rw [hy]
                exact low x hx
              · rw [List.take_add_one, hl]
                rcases List.mem_append.mp hx with z | z
                · exact List.mem_append_left _ (sub x z)
                · rw [List.mem_singleton] at z
                  rw [z]
                  exact List.mem_append_right _ (List.mem_singleton.mpr rfl)
              · rcases List.mem_append.mp hx with z | z
                · exact lc6 x z
                · rw [List.mem_singleton] at z
                  rw [z]
                  exact hbb.mp rfl
        · rintro σ H6 ⟨y8, y9, y10, y11, y12, us', so, rfl, s6, eC6, eF6, alF6, eS6, pso, sub, lso, cm6, lc6⟩
          refine ⟨_, rfl, .inl ⟨rfl, _, SqL.of eF6⟩, _, rfl, S, _, rfl, .inl ⟨SqL.of eS6, fun p np => ?_⟩⟩
          have s7 := same_upd np (o := .tup (natsV so))
          have ep : upd H6 p (.tup (natsV so)) p = some (.tup (natsV so)) := upd_same
          have s07 := s6.trans s7
          have eC7 := s7 _ _ eC6
          have eF7 := s7 _ _ eF6
          have alF7 := alF6.imp fun _ _ z => z.mv (fun q xs e => s7 q _ e)
          have cm7 := cm6.same s7
          generalize upd H6 p (.tup (natsV so)) = H7 at s7 ep s07 eC7 eF7 alF7 cm7 ⊢
          refine ⟨F, fs, _, rfl, rfl, eF7, lts (by omega), ?_⟩
          have tF : ∀ q xs, H7 q = some (.tup xs) → upd H7 F (.lst (fs ++ [.ref p])) q = some (.tup xs) := fun q xs e => tup_put eF7 e
          have sub2 : ∀ x ∈ so, x ∈ ls := fun x hx => List.mem_of_mem_take (sub x hx)
          subst lt3
          refine ⟨_, _, _, _, _, _, _, _, us', fs ++ [.ref p], ts ++ [so], rfl, same_to s07 nF0, by rw [upd_ne CF]; exact eC7, upd_same, (alF7.imp fun _ _ z => z.mv tF).snoc ⟨p, rfl, tF _ _ ep⟩, by rw [List.length_append]; rfl, ?_, fun x hx => ?_, fun l hl t' ht' => ?_⟩
          · refine ((cm7.but (p := F) (by simp)).less (fun x hx => List.mem_cons_of_mem _ hx)).as fun l hl => ?_
            rw [fl_succ, inL_new, fl_old (Nat.le_refl _)]
            by_cases c : l ∈ so
            · rw [if_pos c, if_pos (decide_eq_true c)]
            · rw [if_neg c, if_neg (by rw [decide_eq_false c]; exact Bool.false_ne_true)]
          · rcases List.mem_append.mp hx with z | z
            · exact ok3 x z
            · rw [List.mem_singleton] at z
              rw [z]
              exact ⟨pso, fun y hy => llt y (sub2 y hy)⟩
          · by_cases c : t' = ts.length
            · rw [c]
              exact thin_new fun hso at_ s h2 => lc6 l hso at_ s (List.getElem?_eq_some_iff.mp h2).1 h2
            · exact thin_old (by omega) (th3 l hl t' (by omega))
      · rintro σ H3 ⟨y5, y6, y7, y8, y9, y10, y11, y12, us, fs, ts, rfl, s3, eC3, eF3, alF, lt3, cm3, ok3, th3⟩
        refine ⟨_, rfl, F, fs, rfl, .inl ⟨SqL.of eF3, fun p np => ?_⟩⟩
        have s4 := same_upd np (o := .tup fs)
        refine k _ p ts (s3.trans s4) ⟨fs, upd_same, alF.imp fun _ _ z => z.mv (fun q xs e => s4 q _ e)⟩ (by omega) ok3 (thin_none ok fun l hl t ht => th3 l hl t (by omega))
end

theorem natsV_at {l : List Nat} {i : Nat} {x : V} (h : (natsV l)[i]? = some x) : ∃ k, l[i]? = some k ∧ x = .int (k : Int) := by
  unfold natsV at h
  rw [List.getElem?_map] at h
  obtain ⟨k, hk, rfl⟩ := Option.map_eq_some_iff.mp h
  exact ⟨k, hk, rfl⟩
theorem natsV_len {l : List Nat} : (natsV l).length = l.length := by
  unfold natsV
  rw [List.length_map]
theorem natsV_snoc {l : List Nat} {k : Nat} : natsV (l ++ [k]) = natsV l ++ [.int (k : Int)] := by
  unfold natsV
  rw [List.map_append]
  rfl
theorem rg_nats (n : Nat) : rgV 0 (n : Int) = natsV (List.range n) := by
  unfold rgV natsV
  rw [show ((n : Int) - 0).toNat = n by omega]
  refine List.map_congr_left fun i _ => ?_
  rw [Int.zero_add]
theorem row_at {rs : List Rw} {l : Nat} (hl : l < rs.length) : rs[l]? = some (rs.getD l none) := by
  rw [List.getD_eq_getElem?_getD, List.getElem?_eq_getElem hl]
  rfl
theorem fil_range_succ {p : Nat → Bool} {i : Nat} : (List.range (i + 1)).filter p = (List.range i).filter p ++ (if p i = true then [i] else []) := by
  rw [List.range_succ, List.filter_append]
  congr 1
  by_cases c : p i = true
  · rw [if_pos c, List.filter_cons_of_pos c]
    rfl
  · rw [if_neg c, List.filter_cons_of_neg c]
    rfl
section
variable {P : Program} {w : World} {K : PySem.W.Frag} {mg : Str → Option Value} {base : Heap} {A : Adr}
def spSends (C : Addr) : Sp := fun vs H Q _ => ∃ (p : Addr) (bot : Int) (rs : List Rw) (l j : Nat), vs = [.ref p, .int (l : Int), .int (j : Int)] ∧ BkAt C H p bot rs ∧ RowsOk bot rs ∧ l < rs.length ∧ Q (.bl (sndB bot rs l j)) H
theorem ok_sends (T : Top K mg A) : FnOk P w K mg base CX0 2 A.a_sends A.d_sends P_sends (spSends A.c_Buckets) := by
  refine T.F_sends.ok sc_sends (fun vs H Q E h => ?_) (fun cdv A' outer s H vs Q E hr h => ?_)
  · obtain ⟨p, bot, rs, l, j, rfl, _⟩ := h
    rfl
  · obtain ⟨p, bot, rs, l, j, rfl, ⟨dx, a, ep, xs, ea, al⟩, ok, hl, k⟩ := h
    refine ⟨_, (pss_cons (ps_set (i := 3) sc_sends.nd rfl (.inl rfl) (pe_ix ix_tup (pe_fld (pv 0) rfl) (pv 1) (fun _ _ => rfl)))
    (pss_one (ps_ret (pe_cmpR op_gt (pe_call (ok_most_of T) (hr.mono (by decide)) (by rfl) T.g_most_of T.F_most_of.kp T.b_most_of .nil pass0 (pa_cons (pe_fld (pv 0) rfl) (pa_cons (pv 3) (pa_cons (pe_op op_add (pv 2) pe_int) pa_nil)))) (pe_call (ok_most_of T) (hr.mono (by decide)) (by rfl) T.g_most_of T.F_most_of.kp T.b_most_of .nil pass0 (pa_cons (pe_fld (pv 0) rfl) (pa_cons (pv 3) (pa_cons (pv 2) pa_nil)))) (nomark _))))), ?_⟩
    have rl := row_at hl
    obtain ⟨rv, hrv, hrw⟩ := al.getL rl
    have rok := ok.ok _ (List.mem_of_getElem? rl)
    refine ⟨_, rfl, p, _, _, _, _, rfl, ep, T.cl_Buckets, T.n_Buckets_rows, bf2, _, rfl, a, xs, _, _, rfl, rfl, SqT.of ea, atI_nat hrv, ?_⟩
    refine ⟨_, rfl, p, _, _, _, _, rfl, ep, T.cl_Buckets, T.n_Buckets_bottom, bf1, _, rfl, _, rfl, _, _, rfl, rfl, bot, ((j + 1 : Nat) : Int), _, rv, ?_, hrw, rok, ok.b1, ok.b20, ?_⟩
    · show [V.int bot, rv, V.int ((j : Int) + 1)] = _
      rw [show (j : Int) + 1 = ((j + 1 : Nat) : Int) by omega]
    refine ⟨_, rfl, p, _, _, _, _, rfl, ep, T.cl_Buckets, T.n_Buckets_bottom, bf1, _, rfl, _, rfl, bot, (j : Int), _, rv, rfl, hrw, rok, ok.b1, ok.b20, _, _, rfl, rfl, ?_⟩
    exact k
def spSoon (C : Addr) : Sp := fun vs H Q _ => ∃ (p : Addr) (bot : Int) (rs : List Rw) (m : Nat), vs = [.ref p, .int (m : Int)] ∧ BkAt C H p bot rs ∧ RowsOk bot rs ∧ m ≤ 6000 ∧ ∀ (H' : Hp) (a : Addr), Same H H' → StrmAt H' a (sooS bot rs m) → Q (.ref a) H'
theorem ok_soonest (T : Top K mg A) : FnOk P w K mg base CX0 3 A.a_soonest A.d_soonest P_soonest (spSoon A.c_Buckets) := by
  refine T.F_soonest.ok sc_soonest (fun vs H Q E h => ?_) (fun cdv A' outer s H vs Q E hr h => ?_)
  · obtain ⟨p, bot, rs, m, rfl, _⟩ := h
    rfl
  · obtain ⟨p, bot, rs, m, rfl, bk, ok, hm, k⟩ := h
    have bk0 := bk
    obtain ⟨dx, a, ep, xs, ea, al⟩ := bk
    refine ⟨_, (pss_cons (ps_set (i := 2) sc_soonest.nd rfl (.inr rfl) (pe_listRg rfl (by rfl) T.z_list (prg_1 (by rfl) T.z_range (pe_callB call_len_seq (by rfl) T.z_len (by decide +kernel) (pa_cons (pe_fld (pv 0) rfl) pa_nil)))))
    (pss_one (ps_ret (pe_callTy call_tuple_of (by rfl) T.z_tuple (by decide +kernel) (pa_cons (pe_lc (own := [("beat", 3)]) (by rfl) sc_soonest.nd (pi_range1 rfl T.z_range (pa_cons (pv 1) pa_nil)) (blkOk_by (own := [("beat", 3)]) (N := N_soonest) (sc := defScope s_soonest) (by decide +kernel)) (fun _ _ _ _ _ => (pg_name (i := 3) sc_soonest.nd rfl (.inr rfl))) (fun _ _ _ _ _ => pts_nil) (fun _ _ _ _ _ => (pe_callTy (show CallR _ _ (GC.rTupK K) from call_tuple_of) (by rfl) T.z_tuple (by decide +kernel) (pa_cons (pe_lc (own := [("line", 4)]) (by rfl) sc_soonest.nd (show PI _ _ _ (iList K _) from pi_list (pv 2)) (blkOk_by (own := [("line", 4)]) (N := N_soonest) (by rfl)) (fun _ _ _ _ _ => (pg_name (i := 4) sc_soonest.nd rfl (.inl rfl))) (fun _ _ _ _ _ => (pts_one (pt_val (pe_call (ok_sends (P := P) (w := w) T) (hr.mono (by decide)) (by rfl) T.g_sends T.F_sends.kp T.b_sends .nil pass0 (pa_cons (pv 0) (pa_cons (pv 4) (pa_cons (pv 3) pa_nil))))))) (fun _ _ _ _ _ => (pv 4))) pa_nil)))) pa_nil))))), ?_⟩
    have lx := al.len
    have few := ok.few
    refine ⟨_, rfl, p, _, _, _, _, rfl, ep, T.cl_Buckets, T.n_Buckets_rows, bf2, a, xs, rfl, .inr (SqT.of ea), (xs.length : Int), rfl, ⟨by omega, by omega, by omega⟩, fun l nl => ?_⟩
    have el : rgV 0 (xs.length : Int) = natsV (List.range rs.length) := by rw [rg_nats, lx]
    rw [el]
    have s1 := same_upd nl (o := .lst (natsV (List.range rs.length)))
    have e1 : upd H l (.lst (natsV (List.range rs.length))) l = some (.lst (natsV (List.range rs.length))) := upd_same
    generalize upd H l (.lst (natsV (List.range rs.length))) = H1 at s1 e1 ⊢
    refine ⟨_, rfl, (m : Int), rfl, by omega, by omega, fun F nF => ?_⟩
    refine lc_range (lo := 0) (n := (m : Int).toNat) (fun j H' => ∃ us, Same H1 H' ∧ H' F = some (.lst us) ∧ All2 (LotAt H') (sooS bot rs j) us) ⟨[], same_upd nF, upd_same, .nil⟩ ?_ ?_
    · rintro j H2 hj ⟨us, s2, e2, al2⟩
      have l2 := al2.len
      rw [soo_len] at l2
      refine ⟨by kernel_rfl, ?_⟩
      refine ⟨_, rfl, l, rfl, ⟨_, SqL.of (s2 _ _ e1)⟩, fun D nD => ?_⟩
      refine lc_list (K := K) (a := l) (xs := natsV (List.range rs.length)) (fun i H' => Same H2 H' ∧ H' D = some (.lst (natsV ((List.range i).filter fun x => sndB bot rs x j)))) ⟨same_upd nD, upd_same⟩ (fun i H' _ q => SqL.of (q.1 _ _ (s2 _ _ e1))) ?_ ?_
      · rintro i x H3 hx ⟨s3, e3⟩
        obtain ⟨kk, hk, rfl⟩ := natsV_at hx
        have hil := (List.getElem?_eq_some_iff.mp hk).1
        rw [List.length_range] at hil
        rw [List.getElem?_range hil] at hk
        cases hk
        refine ⟨by kernel_rfl, ?_⟩
        refine ⟨_, rfl, _, rfl, _, rfl, p, bot, rs, i, j, ?_, ((bk0.same s1).same s2).same s3, ok, hil, _, rfl, ?_⟩
        · show [V.ref p, V.int (i : Int), V.int (0 + (j : Int))] = _
          rw [Int.zero_add]
        rw [fil_range_succ]
        cases c : sndB bot rs i j with
        | true =>
          refine iteT ⟨_, rfl, _, e3, ?_, same_to s3 nD, ?_⟩
          · rw [natsV_len]
            exact lts (Nat.le_trans (List.length_filter_le _ _) (by rw [List.length_range]; omega))
          · rw [upd_same, if_pos rfl, natsV_snoc]
        | false =>
          refine iteF ⟨s3, ?_⟩
          rw [if_neg Bool.false_ne_true, List.append_nil]
          exact e3
      · rintro H3 ⟨s3, e3⟩
        rw [natsV_len, List.length_range] at e3
        refine ⟨D, _, rfl, .inl ⟨SqL.of e3, fun q nq => ?_⟩⟩
        have s4 := same_upd nq (o := .tup (natsV ((List.range rs.length).filter fun x => sndB bot rs x j)))
        have s24 := s3.trans s4
        have e4 := s24 _ _ e2
        have eq4 : upd H3 q (.tup (natsV ((List.range rs.length).filter fun x => sndB bot rs x j))) q = some (.tup (natsV ((List.range rs.length).filter fun x => sndB bot rs x j))) := upd_same
        generalize upd H3 q (.tup (natsV ((List.range rs.length).filter fun x => sndB bot rs x j))) = H4 at s24 e4 eq4 ⊢
        refine ⟨us, e4, Nat.lt_of_le_of_lt (show us.length ≤ 100000 by omega) (by decide), us ++ [.ref q], same_to (s2.trans s24) nF, upd_same, ?_⟩
        rw [soo_snoc]
        exact (al2.imp fun _ _ t => (t.mv fun q xs e => s24 _ _ e).mv fun q xs e => tup_put e4 e).snoc ⟨q, rfl, tup_put e4 eq4⟩
    · rintro H2 ⟨us, s2, e2, al2⟩
      refine ⟨F, us, rfl, .inl ⟨SqL.of e2, fun q nq => ?_⟩⟩
      have s3 := same_upd nq (o := .tup us)
      rw [Int.toNat_natCast] at al2
      exact k _ q ((s1.trans s2).trans s3) ⟨us, upd_same, al2.imp fun _ _ t => t.mv fun q xs e => s3 _ _ e⟩
end

/-! ### all lots, all streams -/
def subN : Nat → List (List Nat)
  | 0 => [[]]
  | k + 1 => subN k ++ (subN k).map fun ls => ls ++ [k]
theorem sub_len : ∀ n, (subN n).length = 2 ^ n
  | 0 => rfl
  | n + 1 => by
    show (subN n ++ (subN n).map fun ls => ls ++ [n]).length = _
    rw [List.length_append, List.length_map, sub_len n, Nat.pow_succ]
    omega
theorem sub_head : ∀ n, ∃ t, subN n = [] :: t
  | 0 => ⟨[], rfl⟩
  | n + 1 => by
    obtain ⟨t, e⟩ := sub_head n
    exact ⟨t ++ (subN n).map fun ls => ls ++ [n], by
      show subN n ++ _ = _
      conv => lhs; arg 1; rw [e]
      rfl⟩
theorem sub_ok : ∀ n, ∀ ls ∈ subN n, LotOk n ls
  | 0, ls, h => by
    rw [List.mem_singleton.mp h]
    exact ⟨.nil, fun x hx => absurd hx List.not_mem_nil⟩
  | n + 1, ls, h => by
    rcases List.mem_append.mp (show ls ∈ subN n ++ (subN n).map fun ls => ls ++ [n] from h) with z | z
    · obtain ⟨p, q⟩ := sub_ok n ls z
      exact ⟨p, fun x hx => Nat.lt_succ_of_lt (q x hx)⟩
    · obtain ⟨l0, h0, rfl⟩ := List.mem_map.mp z
      obtain ⟨p, q⟩ := sub_ok n l0 h0
      refine ⟨List.pairwise_append.mpr ⟨p, List.pairwise_singleton _ _, fun x hx y hy => ?_⟩, fun x hx => ?_⟩
      · rw [List.mem_singleton.mp hy]
        exact q x hx
      · rcases List.mem_append.mp hx with w | w
        · exact Nat.lt_succ_of_lt (q x w)
        · rw [List.mem_singleton.mp w]
          exact Nat.lt_succ_self _
theorem sub_fil (p : Nat → Bool) : ∀ n, (List.range n).filter p ∈ subN n
  | 0 => List.mem_singleton.mpr rfl
  | n + 1 => by
    rw [fil_range_succ]
    show _ ∈ subN n ++ (subN n).map fun ls => ls ++ [n]
    by_cases c : p n = true
    · rw [if_pos c]
      exact List.mem_append_right _ (List.mem_map.mpr ⟨_, sub_fil p n, rfl⟩)
    · rw [if_neg c, List.append_nil]
      exact List.mem_append_left _ (sub_fil p n)
def thereL (rs : List Rw) : List Nat := (List.range rs.length).filter fun l => (rs.getD l none).isSome
def lotsOf (there : List Nat) (n : Nat) : List (List Nat) := (subN n).map fun ix => ix.map fun i => there.getD i 0
theorem there_ok {rs : List Rw} : LotOk rs.length (thereL rs) := ⟨List.Pairwise.filter _ List.pairwise_lt_range, fun x hx => List.mem_range.mp (List.mem_filter.mp hx).1⟩
theorem there_live {rs : List Rw} {l : Nat} (h : l ∈ thereL rs) : ∃ r, rs.getD l none = some r := Option.isSome_iff_exists.mp (List.mem_filter.mp h).2
theorem as_range (there : List Nat) : there = (List.range there.length).map fun i => there.getD i 0 := by
  refine List.ext_getElem (by simp) fun i h1 h2 => ?_
  rw [List.getElem_map, List.getElem_range, List.getD_eq_getElem?_getD, List.getElem?_eq_getElem h1]
  rfl
theorem lots_fil (there : List Nat) (p : Nat → Bool) : there.filter p ∈ lotsOf there there.length := by
  refine List.mem_map.mpr ⟨(List.range there.length).filter fun i => p (there.getD i 0), sub_fil _ _, ?_⟩
  conv => rhs; rw [as_range there, List.filter_map]
  rfl
theorem lots_ok {rs : List Rw} {ls : List Nat} (h : ls ∈ lotsOf (thereL rs) (thereL rs).length) : LotOk rs.length ls ∧ ∀ l ∈ ls, ∃ r, rs.getD l none = some r := by
  obtain ⟨ix, hix, rfl⟩ := List.mem_map.mp h
  obtain ⟨p, q⟩ := sub_ok _ ix hix
  have hin : ∀ i ∈ ix, (thereL rs).getD i 0 ∈ thereL rs := fun i hi => by
    rw [List.getD_eq_getElem?_getD, List.getElem?_eq_getElem (q i hi)]
    exact List.getElem_mem _
  refine ⟨⟨?_, fun x hx => ?_⟩, fun l hl => ?_⟩
  · rw [List.pairwise_map]
    refine p.imp_of_mem fun {i j} hi hj hlt => ?_
    rw [List.getD_eq_getElem?_getD, List.getElem?_eq_getElem (q i hi), List.getD_eq_getElem?_getD, List.getElem?_eq_getElem (q j hj)]
    exact (List.pairwise_iff_getElem.mp there_ok.1) i j (q i hi) (q j hj) hlt
  · obtain ⟨i, hi, rfl⟩ := List.mem_map.mp hx
    exact there_ok.2 _ (hin i hi)
  · obtain ⟨i, hi, rfl⟩ := List.mem_map.mp hl
    exact there_live (hin i hi)
/-- the soonest lots are of them -/
theorem soo_lot {bot : Int} {rs : List Rw} {j : Nat} : ((List.range rs.length).filter fun l => sndB bot rs l j) ∈ lotsOf (thereL rs) (thereL rs).length := by
  have e : ((List.range rs.length).filter fun l => sndB bot rs l j) = (thereL rs).filter fun l => sndB bot rs l j := by
    unfold thereL
    rw [List.filter_filter]
    refine List.filter_congr fun l _ => ?_
    cases c : rs.getD l none with
    | some r => show _ = (_ && true); rw [Bool.and_true]
    | none =>
      show _ = (_ && false)
      rw [Bool.and_false]
      unfold sndB
      rw [c]
      rfl
  rw [e]
  exact lots_fil _ _
def extS (bot : Int) (rs : List Rw) (lots : List (List Nat)) (st : Strm) : List Strm := (lots.filter fun lot => (brF bot rs (st ++ [lot])).isNone).map fun lot => st ++ [lot]
def allS (bot : Int) (rs : List Rw) (lots : List (List Nat)) : Nat → List Strm
  | 0 => [[]]
  | k + 1 => ((allS bot rs lots k).map (extS bot rs lots)).flatten
theorem ext_len {bot : Int} {rs : List Rw} {lots : List (List Nat)} {st : Strm} : (extS bot rs lots st).length ≤ lots.length := by
  unfold extS
  rw [List.length_map]
  exact List.length_filter_le _ _
theorem all_len {bot : Int} {rs : List Rw} {lots : List (List Nat)} (h : lots.length ≤ 8) : ∀ k, (allS bot rs lots k).length ≤ 8 ^ k
  | 0 => Nat.le_refl _
  | k + 1 => by
    have ih := all_len (bot := bot) (rs := rs) h k
    have z := flat_len (l := (allS bot rs lots k).map (extS bot rs lots)) (m := 8) fun r hr => by
      obtain ⟨st, _, rfl⟩ := List.mem_map.mp hr
      exact Nat.le_trans ext_len h
    rw [List.length_map] at z
    show (((allS bot rs lots k).map (extS bot rs lots)).flatten).length ≤ _
    rw [Nat.pow_succ]
    omega
theorem all_ok {bot : Int} {rs : List Rw} {lots : List (List Nat)} (hl : ∀ ls ∈ lots, LotOk rs.length ls ∧ ∀ l ∈ ls, ∃ r, rs.getD l none = some r) : ∀ k, ∀ ss ∈ allS bot rs lots k, ss.length = k ∧ brF bot rs ss = none ∧ ∀ ls ∈ ss, LotOk rs.length ls ∧ ∀ l ∈ ls, ∃ r, rs.getD l none = some r
  | 0, ss, h => by
    rw [List.mem_singleton.mp h]
    exact ⟨rfl, rfl, fun ls hls => absurd hls List.not_mem_nil⟩
  | k + 1, ss, h => by
    obtain ⟨x, hx, hss⟩ := List.mem_flatten.mp (show ss ∈ ((allS bot rs lots k).map (extS bot rs lots)).flatten from h)
    obtain ⟨st, hst, rfl⟩ := List.mem_map.mp hx
    obtain ⟨lot, hlot, rfl⟩ := List.mem_map.mp hss
    obtain ⟨h1, h2⟩ := List.mem_filter.mp hlot
    obtain ⟨a1, a2, a3⟩ := all_ok hl k st hst
    refine ⟨by rw [List.length_append, a1]; rfl, Option.isNone_iff_eq_none.mp h2, fun ls hls => ?_⟩
    rcases List.mem_append.mp hls with z | z
    · exact a3 ls z
    · rw [List.mem_singleton.mp z]
      exact hl lot h1
theorem all_soo {bot : Int} {rs : List Rw} {lots : List (List Nat)} (ok : RowsOk bot rs) (h : ∀ ls ∈ lotsOf (thereL rs) (thereL rs).length, ls ∈ lots) : ∀ k, sooS bot rs k ∈ allS bot rs lots k
  | 0 => List.mem_singleton.mpr rfl
  | k + 1 => by
    refine List.mem_flatten.mpr ⟨_, List.mem_map.mpr ⟨_, all_soo ok h k, rfl⟩, ?_⟩
    rw [soo_snoc]
    refine List.mem_map.mpr ⟨_, List.mem_filter.mpr ⟨h _ soo_lot, ?_⟩, rfl⟩
    rw [← soo_snoc, kept_to (soo_kept ok)]
    rfl
/-! ### the greatest of what is held -/
/-- m is the greatest of 0 and what is held -/
def TopOf (ss : Strm) (L : Nat) (m : Int) : Prop := m ∈ (0 : Int) :: ((List.range L).map fun i => (heldN ss (i + 1) : Int)) ∧ ∀ y ∈ (0 : Int) :: ((List.range L).map fun i => (heldN ss (i + 1) : Int)), y ≤ m
theorem held_any {bot : Int} {rs : List Rw} {ss : Strm} (kp : Kept bot rs ss) (ok : ∀ ls ∈ ss, LotOk rs.length ls) (t : Nat) : (heldN ss t : Int) ≤ mx (fH bot (someR rs)) (ss.length + 1) := by
  by_cases c : t ≤ ss.length
  · exact Int.le_trans (held_le kp ok t c) (mx_mono (by omega))
  · have e := held_end (ss := ss) (t - ss.length)
    rw [show ss.length + (t - ss.length) = t by omega] at e
    have := held_le kp ok ss.length (Nat.le_refl _)
    omega
theorem top_le {bot : Int} {rs : List Rw} {ss : Strm} {L : Nat} {m : Int} (kp : Kept bot rs ss) (ok : ∀ ls ∈ ss, LotOk rs.length ls) (h : TopOf ss L m) : m ≤ mx (fH bot (someR rs)) (ss.length + 1) := by
  rcases List.mem_cons.mp h.1 with e | e
  · rw [e]
    exact mx_0 _
  · obtain ⟨i, _, rfl⟩ := List.mem_map.mp e
    exact held_any kp ok _
theorem top_0 {ss : Strm} {L : Nat} {m : Int} (h : TopOf ss L m) : 0 ≤ m := h.2 0 List.mem_cons_self
theorem top_soo {bot : Int} {rs : List Rw} {k L : Nat} {m : Int} (ok : RowsOk bot rs) (hL : k ≤ L) (h : TopOf (sooS bot rs k) L m) : m = mx (fH bot (someR rs)) (k + 1) := by
  have h1 := top_le (soo_kept ok) soo_ok h
  rw [soo_len] at h1
  have h2 : mx (fH bot (someR rs)) (k + 1) ≤ m := mx_top (top_0 h) fun i hi => by
    match i, hi with
    | 0, _ =>
      rw [fH_0 (some_ok ok.ok)]
      exact top_0 h
    | i + 1, hi =>
      have g := soo_ge (m := k) ok (i + 1) (by omega)
      have t := h.2 _ (List.mem_cons_of_mem _ (List.mem_map.mpr ⟨i, List.mem_range.mpr (by omega), rfl⟩))
      omega
  omega
theorem soo_live {bot : Int} {rs : List Rw} {m : Nat} : ∀ ls ∈ sooS bot rs m, ∀ l ∈ ls, ∃ r, rs.getD l none = some r := fun ls h l hl => by
  obtain ⟨j, _, rfl⟩ := List.mem_map.mp h
  have z := (List.mem_filter.mp hl).2
  cases c : rs.getD l none with
  | some r => exact ⟨r, rfl⟩
  | none =>
    have z : sndB bot rs l j = true := z
    unfold sndB at z
    rw [c] at z
    cases z
/-- a kept stream is of lines that have rows -/
theorem kept_live {bot : Int} {rs : List Rw} {ss : Strm} (kp : Kept bot rs ss) (ok : ∀ ls ∈ ss, LotOk rs.length ls) : ∀ ls ∈ ss, ∀ l ∈ ls, ∃ r, rs.getD l none = some r := fun ls h l hl => by
  obtain ⟨t, ht⟩ := List.getElem?_of_mem h
  have htl := (List.getElem?_eq_some_iff.mp ht).1
  cases c : rs.getD l none with
  | some r => exact ⟨r, rfl⟩
  | none =>
    have q := kp l ((ok ls h).2 l hl) t htl 1 (by omega)
    rw [c] at q
    have e : dn ss l t 1 = 0 + (if inL ss l (t - 0) = true then 1 else 0) := rfl
    have i1 : inL ss l (t - 0) = true := by
      unfold inL
      rw [Nat.sub_zero, getD_some ht]
      exact decide_eq_true hl
    rw [i1, if_pos rfl] at e
    rw [e] at q
    have q : ((0 + 1 : Nat) : Int) ≤ 0 := q
    omega

theorem lotS_nats (L : List Nat) : (natsV L).map (fun v => match v with | .int i => i.toNat | _ => 0) = L := by
  unfold natsV
  rw [List.map_map]
  conv => rhs; rw [← List.map_id L]
  exact List.map_congr_left fun x _ => Int.toNat_natCast x
/-- the lot that stands at an address -/
def lotN (H : Hp) (r : Addr) : List Nat := match H r with
  | some (.tup xs) => xs.map (fun v => match v with | .int i => i.toNat | _ => 0)
  | _ => []
theorem lotN_at {H : Hp} {r : Addr} {ls : List Nat} (e : H r = some (.tup (natsV ls))) : lotN H r = ls := by
  unfold lotN
  rw [e]
  exact lotS_nats ls
theorem lots_refs {H : Hp} : ∀ {L : List (List Nat)} {vs : List V}, All2 (LotAt H) L vs → ∃ rs : List Addr, vs = rs.map V.ref ∧ rs.map (lotN H) = L ∧ ∀ r ∈ rs, H r = some (.tup (natsV (lotN H r)))
  | _, _, .nil => ⟨[], rfl, rfl, fun r h => absurd h List.not_mem_nil⟩
  | _, _, .cons ⟨q, e, e1⟩ t => by
    subst e
    obtain ⟨rs, h1, h2, h3⟩ := lots_refs t
    refine ⟨q :: rs, by rw [h1]; rfl, by rw [List.map_cons, h2, lotN_at e1], fun r hr => ?_⟩
    rcases List.mem_cons.mp hr with z | z
    · subst z
      rw [lotN_at e1]
      exact e1
    · exact h3 r z
theorem refs_lots {H : Hp} : ∀ {rs : List Addr}, (∀ r ∈ rs, H r = some (.tup (natsV (lotN H r)))) → All2 (LotAt H) (rs.map (lotN H)) (rs.map V.ref)
  | [], _ => .nil
  | r :: rs, h => .cons ⟨r, rfl, h r List.mem_cons_self⟩ (refs_lots fun q hq => h q (List.mem_cons_of_mem _ hq))
def natsD (ls : List Nat) : List PyData := ls.map fun (x : Nat) => PyData.int (x : Int)
theorem dp_nats {K : PySem.W.Frag} {H : Hp} : ∀ ls : List Nat, DpAll K H (natsV ls) (natsD ls)
  | [] => .nil
  | x :: ls => .cons (.int _) (dp_nats ls)
theorem alike_nats : ∀ a b : List Nat, PySem.W.alikeAll (natsD a) (natsD b) = true
  | [], _ => by simp [PySem.W.alikeAll, natsD]
  | _ :: _, [] => by simp [PySem.W.alikeAll, natsD]
  | x :: a, y :: b => by
    have e : PySem.W.alikeAll (natsD (x :: a)) (natsD (y :: b)) = (PySem.W.alike (.int (x : Int)) (.int (y : Int)) && PySem.W.alikeAll (natsD a) (natsD b)) := rfl
    rw [e, alike_nats a b]
    rfl
theorem lot_lay (ls : List Nat) : Lay (.tuple (natsD ls)) 1 := Lay.tup fun x hx => by
  obtain ⟨i, _, rfl⟩ := List.mem_map.mp hx
  exact Lay.int _
theorem lot_dp {K : PySem.W.Frag} {H : Hp} {ls : List Nat} {v : V} (h : LotAt H ls v) : Dp K H v (.tuple (natsD ls)) := by
  obtain ⟨q, rfl, e⟩ := h
  exact .tup (SqT.of e) (dp_nats ls)
section
variable {P : Program} {w : World} {K : PySem.W.Frag} {mg : Str → Option Value} {base : Heap} {A : Adr}
def spLots : Sp := fun vs H Q _ => ∃ n : Nat, vs = [.int (n : Int)] ∧ n ≤ 8 ∧ ∀ (H' : Hp) (p : Addr) (us : List V) (L : List (List Nat)), Same H H' → H' p = some (.lst us) → All2 (LotAt H') L us → L.Perm (subN n) → Q (.ref p) H'
theorem ok_law_lots (T : Top K mg A) : FnOk P w K mg base CX0 1 A.a_law_lots A.d_law_lots P_law_lots spLots := by
  refine T.F_law_lots.ok sc_law_lots (fun vs H Q E h => ?_) (fun cdv A' outer s H vs Q E hr h => ?_)
  · obtain ⟨n, rfl, _⟩ := h
    rfl
  · obtain ⟨n, rfl, n8, k⟩ := h
    refine ⟨_, (pss_cons (ps_set (i := 1) sc_law_lots.nd rfl (.inl rfl) (pe_lst (pa_cons (pe_tup pa_nil) pa_nil)))
    (pss_cons (ps_for PassesOwn.never rfl (pi_range1 rfl T.z_range (pa_cons (pv 0) pa_nil)) (pg_name (i := 2) sc_law_lots.nd rfl (.inr rfl)) (pss_one (ps_set (i := 1) sc_law_lots.nd rfl (.inl rfl) (pe_op op_cat (pv 1) (pe_lc (own := [("_law_lot", 3)]) (by rfl) sc_law_lots.nd (pi_list (pv 1)) (blkOk_by (own := [("_law_lot", 3)]) (N := N_law_lots) (sc := defScope s_law_lots) (by decide +kernel)) (fun _ _ _ _ _ => (pg_name (i := 3) sc_law_lots.nd rfl (.inl rfl))) (fun _ _ _ _ _ => pts_nil) (fun _ _ _ _ _ => (pe_op (show OpR _ _ (rCatA K) from op_catA) (pv 3) (pe_tup (pa_cons (pv 2) pa_nil)))))))))
    (pss_one (ps_ret (pe_callB (GSt.cr_sortE hr.units) (by rfl) T.z_sorted (by decide +kernel) (pa_cons (pv 1) pa_nil)))))), ?_⟩
    refine ⟨by show 0 ≤ sizeLine; decide, fun q nq => ⟨by show 1 ≤ sizeLine; decide, fun F nF => ?_⟩⟩
    obtain ⟨G1, eH, s1, e1⟩ := newH nq (o := .tup [])
    rw [eH] at nF ⊢
    clear eH
    obtain ⟨G2, eH, s2, e2⟩ := newH nF (o := .lst [.ref q])
    rw [eH]
    clear eH
    refine ⟨_, rfl, (n : Int), rfl, by omega, by omega, ?_⟩
    refine for_range (lo := 0) (n := (n : Int).toNat) (fun i σ H' => ∃ (F : Addr) (y2 : Option V) (us : List V), σ = [some (.int (n : Int)), some (.ref F), y2, none] ∧ Same H H' ∧ H' F = some (.lst us) ∧ All2 (LotAt H') (subN i) us) ⟨F, _, _, rfl, s1.trans s2, e2, .cons ⟨q, rfl, s2 _ _ e1⟩ .nil⟩ ?_ ?_
    · rintro i σ H1 hi ⟨F, y2, us, rfl, s1, e1, al⟩
      have lu := al.len
      rw [sub_len] at lu
      have p8 : 2 ^ i ≤ 2 ^ 8 := Nat.pow_le_pow_right (by decide) (by omega)
      have p8 : 2 ^ i ≤ 256 := p8
      refine ⟨_, rfl, _, rfl, F, rfl, ⟨_, SqL.of e1⟩, fun D nD => ?_⟩
      refine lc_list (K := K) (a := F) (xs := us) (fun j H' => ∃ ws, Same H1 H' ∧ H' D = some (.lst ws) ∧ All2 (LotAt H') (((subN i).take j).map fun ls => ls ++ [i]) ws) ⟨[], same_upd nD, upd_same, .nil⟩ (fun j H' _ ⟨_, s, _⟩ => SqL.of (s _ _ e1)) ?_ ?_
      · rintro j x H2 hx ⟨ws, s2, e2, al2⟩
        obtain ⟨ls, hls, q, rfl, hq⟩ := al.get hx
        have lw := al2.len
        rw [List.length_map, List.length_take, sub_len] at lw
        have l12 : ls.length ≤ i := nd_len_lt (sub_ok i ls (List.mem_of_getElem? hls)).1 (sub_ok i ls (List.mem_of_getElem? hls)).2
        refine ⟨rfl, ?_⟩
        refine ⟨_, rfl, _, rfl, by show 1 ≤ sizeLine; decide, fun p np => ?_⟩
        obtain ⟨G1, eH, s3, e3⟩ := newH np (o := .tup [.int (0 + (i : Int))])
        rw [eH]
        clear eH
        have s23 := s2.trans s3
        refine cat_at (s23 _ _ hq) e3 (by rw [natsV_len]; show ls.length + 1 ≤ 1000; omega) fun G2 p2 s4 e4 => ?_
        rw [Int.zero_add, ← natsV_snoc] at e4
        have s24 := s23.trans s4
        have eD := s4 _ _ (s3 _ _ e2)
        refine ⟨ws, eD, lts (by omega), ws ++ [.ref p2], same_to s24 nD, upd_same, ?_⟩
        rw [List.take_add_one, hls, List.map_append]
        exact (al2.imp fun _ _ t => ((t.mv fun q xs e => s3 _ _ e).mv fun q xs e => s4 _ _ e).mv fun q xs e => tup_put eD e).snoc ⟨p2, rfl, tup_put eD e4⟩
      · rintro H2 ⟨ws, s2, e2, al2⟩
        rw [List.take_of_length_le (by rw [al.len]; exact Nat.le_refl _)] at al2
        have lw := al2.len
        rw [List.length_map, sub_len] at lw
        refine ⟨F, D, us, ws, rfl, rfl, s2 _ _ e1, e2, Nat.le_of_lt (lts (by omega)), fun N nN => ?_⟩
        have s3 := same_upd nN (o := .lst (us ++ ws))
        refine ⟨N, _, us ++ ws, rfl, (s1.trans s2).trans s3, upd_same, ?_⟩
        exact ((al.imp fun _ _ t => t.mv fun q xs e => s3 _ _ (s2 _ _ e))).append (al2.imp fun _ _ t => t.mv fun q xs e => s3 _ _ e)
    · rintro σ H1 ⟨F, y2, us, rfl, s1, e1, al⟩
      rw [Int.toNat_natCast] at al
      obtain ⟨rs, h1, h2, h3⟩ := lots_refs al
      obtain ⟨t, et⟩ := sub_head n
      subst h1
      match rs, h2, h3, e1 with
      | [], h2, h3, e1 =>
        rw [et] at h2
        cases h2
      | r0 :: rs, h2, h3, e1 =>
        have r00 : lotN H1 r0 = [] := by
          rw [et, List.map_cons] at h2
          exact (List.cons.inj h2).1
        refine ⟨_, rfl, F, r0, rs, fun r => natsD (lotN H1 r), rfl, SqL.of e1, ?_, fun r hr => lot_dp ⟨r, rfl, h3 r hr⟩, fun r _ t _ => ?_, fun r _ => Nat.le_trans (lot_lay _).dep (by decide), fun rs' p hp np => ?_⟩
        · show natsD (lotN H1 r0) = []
          rw [r00]
          rfl
        · show PySem.W.alikeAll (natsD (lotN H1 r)) (natsD (lotN H1 t)) = true
          exact alike_nats _ _
        · have s2 := same_upd np (o := .lst (rs'.map V.ref))
          refine k _ p (rs'.map V.ref) (rs'.map (lotN H1)) (s1.trans s2) upd_same ?_ (by rw [← h2]; exact hp.map _)
          exact (refs_lots fun r hr => h3 r (hp.mem_iff.mp hr)).imp fun _ _ t => t.mv fun q xs e => s2 _ _ e
end

/-- a stream, a value -/
def StrmV (H : Hp) (ss : Strm) (v : V) : Prop := ∃ a, v = .ref a ∧ StrmAt H a ss
theorem StrmV.mv {H H' : Hp} (f : ∀ q xs, H q = some (.tup xs) → H' q = some (.tup xs)) {ss : Strm} {v : V} (h : StrmV H ss v) : StrmV H' ss v := let ⟨a, e, t⟩ := h; ⟨a, e, t.mv f⟩
theorem ext_snoc {bot : Int} {rs : List Rw} {lots : List (List Nat)} {st : Strm} {y : Nat} {lot : List Nat} (h : lots[y]? = some lot) : extS bot rs (lots.take (y + 1)) st = extS bot rs (lots.take y) st ++ (if (brF bot rs (st ++ [lot])).isNone = true then [st ++ [lot]] else []) := by
  unfold extS
  rw [List.take_add_one, h, List.filter_append, List.map_append]
  congr 1
  by_cases c : (brF bot rs (st ++ [lot])).isNone = true
  · rw [if_pos c]
    have e : ((some lot).toList.filter fun lot => (brF bot rs (st ++ [lot])).isNone) = [lot] := List.filter_cons_of_pos (p := fun lot => (brF bot rs (st ++ [lot])).isNone) c
    rw [e]
    rfl
  · rw [if_neg c]
    have e : ((some lot).toList.filter fun lot => (brF bot rs (st ++ [lot])).isNone) = [] := List.filter_cons_of_neg (p := fun lot => (brF bot rs (st ++ [lot])).isNone) c
    rw [e]
    rfl
section
variable {P : Program} {w : World} {K : PySem.W.Frag} {mg : Str → Option Value} {base : Heap} {A : Adr}
theorem tup_new {H H' : Hp} (s : Same H H') : ∀ q xs, H q = some (.tup xs) → H' q = some (.tup xs) := fun _ _ e => s _ _ e
def spAll : Sp := fun vs H Q _ => ∃ (a : Addr) (bot : Int) (rs : List Rw) (k : Nat), vs = [.ref a, .int bot, .int (k : Int)] ∧ RowsAt H a rs ∧ RowsOk bot rs ∧ (thereL rs).length ≤ 3 ∧ k ≤ 5 ∧
  ∀ (H' : Hp) (p : Addr) (us : List V) (lots : List (List Nat)), Same H H' → H' p = some (.lst us) → All2 (StrmV H') (allS bot rs lots k) us → lots.Perm (lotsOf (thereL rs) (thereL rs).length) → Q (.ref p) H'
theorem ok_law_all (T : Top K mg A) : FnOk P w K mg base CX0 3 A.a_law_all A.d_law_all P_law_all spAll := by
  refine T.F_law_all.ok sc_law_all (fun vs H Q E h => ?_) (fun cdv A' outer s H vs Q E hr h => ?_)
  · obtain ⟨a, bot, rs, k, rfl, _⟩ := h
    rfl
  · obtain ⟨a, bot, rs, k, rfl, ⟨xs, ea, alr⟩, ok, t3, k5, kq⟩ := h
    refine ⟨_, (pss_cons (ps_set (i := 3) sc_law_all.nd rfl (.inr rfl) (pe_lc (own := [("_law_line", 9), ("_law_row", 10)]) (by rfl) sc_law_all.nd (GE.pi_enumA (by rfl) T.z_enumerate (pa_cons (pv 0) pa_nil)) (blkOk_by (own := [("_law_line", 9), ("_law_row", 10)]) (N := N_law_all) (sc := defScope s_law_all) (by decide +kernel)) (fun _ _ _ _ _ => (show PG _ _ (gTup K 2 _) from (pg_tup rfl (pgs_cons (pg_name (i := 9) sc_law_all.nd rfl (.inl rfl)) (pgs_cons (pg_name (i := 10) sc_law_all.nd rfl (.inl rfl)) pgs_nil))))) (fun _ _ _ _ _ => (pts_one (pt_cmpR op_notN (pv 10) pe_non (nomark _)))) (fun _ _ _ _ _ => (pv 9))))
    (pss_cons (ps_setLc (i := 4) (own := [("_law_lot", 11)]) (by rfl) sc_law_all.nd rfl rfl (sw_true rfl rfl rfl (by decide +kernel)) (pi_list (pe_call (ok_law_lots T) (hr.mono (by decide)) (by rfl) T.g_law_lots T.F_law_lots.kp T.b_law_lots .nil pass0 (pa_cons (pe_callB call_len_seq (by rfl) T.z_len (by decide +kernel) (pa_cons (pv 3) pa_nil)) pa_nil))) (blkOk_by (own := [("_law_lot", 11)]) (N := N_law_all) (sc := defScope s_law_all) (by decide +kernel)) (fun _ _ _ _ _ => (pg_name (i := 11) sc_law_all.nd rfl (.inl rfl))) (fun _ _ _ _ _ => pts_nil) (fun _ _ _ _ _ => (pe_callTy (show CallR _ _ (GC.rTupK K) from call_tuple_of) (by rfl) T.z_tuple (by decide +kernel) (pa_cons (pe_lc (own := [("_law_at", 12)]) (by rfl) sc_law_all.nd (show PI _ _ _ (iTup K _) from pi_tup (pv 11)) (blkOk_by (own := [("_law_at", 12)]) (N := N_law_all) (by rfl)) (fun _ _ _ _ _ => (pg_name (i := 12) sc_law_all.nd rfl (.inl rfl))) (fun _ _ _ _ _ => pts_nil) (fun _ _ _ _ _ => (pe_ix (show IxR _ (rIxL K) from ix_list) (pv 3) (pv 12) (fun _ _ => rfl)))) pa_nil))))
    (pss_cons (ps_set (i := 5) sc_law_all.nd rfl (.inl rfl) (pe_lst (pa_cons (pe_tup pa_nil) pa_nil)))
    (pss_cons (ps_for PassesOwn.never rfl (pi_range1 rfl T.z_range (pa_cons (pv 2) pa_nil)) (pg_name (i := 6) sc_law_all.nd rfl (.inl rfl)) (pss_cons (ps_set (i := 7) sc_law_all.nd rfl (.inl rfl) (pe_lst pa_nil))
    (pss_cons (ps_for PassesOwn.never rfl (pi_list (pv 5)) (pg_name (i := 8) sc_law_all.nd rfl (.inr rfl)) (pss_one (ps_expr (pe_bm PySem.F.plainAttrs_list PySem.F.slot_list_extend PySem.F.type_list_extend mt_extend (pv 7) (pa_cons (pe_lc (own := [("_law_lot", 11)]) (by rfl) sc_law_all.nd (pi_list (pv 4)) (blkOk_by (own := [("_law_lot", 11)]) (N := N_law_all) (sc := defScope s_law_all) (by decide +kernel)) (fun _ _ _ _ _ => (pg_name (i := 11) sc_law_all.nd rfl (.inl rfl))) (fun _ _ _ _ _ => (pts_one (pt_cmpR op_isN (pe_call (ok_law_breach (P := P) (w := w) T) (hr.mono (by decide)) (by rfl) T.g_law_breach T.F_law_breach.kp T.b_law_breach .nil pass0 (pa_cons (pv 0) (pa_cons (pv 1) (pa_cons (pe_op (show OpR _ _ (rCatA K) from op_catA) (pv 8) (pe_tup (pa_cons (pv 11) pa_nil))) pa_nil)))) pe_non (nomark _)))) (fun _ _ _ _ _ => (pe_op (show OpR _ _ (rCatA K) from op_catA) (pv 8) (pe_tup (pa_cons (pv 11) pa_nil))))) pa_nil)))))
    (pss_one (ps_set (i := 5) sc_law_all.nd rfl (.inl rfl) (pv 7))))))
    (pss_one (ps_ret (pv 5))))))), ?_⟩
    have lx := alr.len
    have few := ok.few
    refine ⟨_, rfl, a, xs, rfl, .inr ⟨SqT.of ea, fun D nD => ?_⟩⟩
    refine lc_it GE.walk (fun l H' => Same H H' ∧ H' D = some (.lst (natsV ((List.range l).filter fun x => (rs.getD x none).isSome)))) ⟨same_upd nD, upd_same⟩ (fun i H' _ q => SqT.of (q.1 _ _ ea)) ?_ ?_
    · rintro l x H3 H3' hl ⟨s3, e3⟩ ⟨T1, x1, x2, rfl, nT, rfl, ex1, ex2⟩
      cases ex1
      have ex2 : xs[l]? = some x2 := ex2
      have hlx := (List.getElem?_eq_some_iff.mp ex2).1
      have hlr : l < rs.length := by omega
      obtain ⟨rv, hrv, hrw⟩ := alr.getL (row_at hlr)
      rw [ex2] at hrv
      cases hrv
      have s4 := same_upd nT (o := .tup [.int ((l : Nat) : Int), x2])
      have e4 := s4 _ _ e3
      refine ⟨T1, _, rfl, SqT.of upd_same, rfl, _, _, rfl, _, _, rfl, rfl, by kernel_rfl, ?_⟩
      have s04 := s3.trans s4
      generalize upd H3 T1 (.tup [.int ((l : Nat) : Int), x2]) = H4 at s04 e4 ⊢
      rw [fil_range_succ]
      cases c : rs.getD l none with
      | none =>
        rw [c] at hrw
        cases (show x2 = V.non from hrw)
        refine ⟨_, rfl, rfl, _, rfl, iteF ⟨s04, ?_⟩⟩
        show _ = some (HO.lst (natsV (_ ++ ([] : List Nat))))
        rw [List.append_nil]
        exact e4
      | some r =>
        rw [c] at hrw
        obtain ⟨rb, rt, rk⟩ := r
        obtain ⟨z, rfl, hz⟩ := hrw
        refine ⟨_, rfl, rfl, _, rfl, iteT ⟨_, rfl, _, e4, ?_, same_to s04 nD, ?_⟩⟩
        · rw [natsV_len]
          exact lts (Nat.le_trans (List.length_filter_le _ _) (by rw [List.length_range]; omega))
        · rw [upd_same]
          show _ = some (HO.lst (natsV (_ ++ [l])))
          rw [natsV_snoc]
    rintro H1 ⟨s1, e1⟩
    rw [← lx] at e1
    have e1 : H1 D = some (.lst (natsV (thereL rs))) := e1
    refine ⟨_, rfl, D, _, rfl, .inl (SqL.of e1), _, rfl, by rw [natsV_len]; omega, fun H2 p us L s2 e2 al hp => ?_⟩
    rw [natsV_len] at hp
    have s02 := s1.trans s2
    have eD2 := s2 _ _ e1
    have lL := al.len
    have l8 : L.length ≤ 8 := by
      rw [hp.length_eq, sub_len]
      exact Nat.le_trans (Nat.pow_le_pow_right (by decide) t3) (by decide)
    refine ⟨p, rfl, ⟨_, SqL.of e2⟩, fun B nB => ?_⟩
    refine lc_list (K := K) (a := p) (xs := us) (fun j H' => ∃ ws, Same H2 H' ∧ H' B = some (.lst ws) ∧ All2 (LotAt H') ((L.take j).map fun ix => ix.map fun i => (thereL rs).getD i 0) ws) ⟨[], same_upd nB, upd_same, .nil⟩ (fun j H' _ ⟨_, s, _⟩ => SqL.of (s _ _ e2)) ?_ ?_
    · rintro j x H3 hx ⟨ws, s3, e3, al3⟩
      obtain ⟨ix, hix, q, rfl, hq⟩ := al.get hx
      have lw := al3.len
      rw [List.length_map, List.length_take] at lw
      obtain ⟨ixp, ixb⟩ := sub_ok _ ix (hp.mem_iff.mp (List.mem_of_getElem? hix))
      have lix := nd_len_lt ixp ixb
      have hq3 := s3 _ _ hq
      have eD3 := s3 _ _ eD2
      refine ⟨by kernel_rfl, ?_⟩
      refine ⟨_, rfl, q, rfl, ⟨_, SqT.of hq3⟩, fun G nG => ?_⟩
      refine lc_tup (K := K) (a := q) (xs := natsV ix) (fun i H' => Same H3 H' ∧ H' G = some (.lst (natsV ((ix.take i).map fun i => (thereL rs).getD i 0)))) ⟨same_upd nG, upd_same⟩ (fun i H' _ q => SqT.of (q.1 _ _ hq3)) ?_ ?_
      · rintro i y H4 hy ⟨s4, e4⟩
        obtain ⟨at_, hat, rfl⟩ := natsV_at hy
        have hb := ixb at_ (List.mem_of_getElem? hat)
        refine ⟨by kernel_rfl, ?_⟩
        have hD : (natsV (thereL rs))[at_]? = some (.int (((thereL rs).getD at_ 0 : Nat) : Int)) := by
          unfold natsV
          rw [List.getElem?_map, List.getElem?_eq_getElem hb, List.getD_eq_getElem?_getD, List.getElem?_eq_getElem hb]
          rfl
        refine ⟨_, rfl, _, rfl, D, _, _, _, rfl, rfl, SqL.of (s4 _ _ eD3), atI_nat hD, _, e4, ?_, same_to s4 nG, ?_⟩
        · rw [natsV_len, List.length_map, List.length_take]
          exact lts (by omega)
        · rw [upd_same, List.take_add_one, hat, List.map_append]
          show _ = some (HO.lst (natsV (_ ++ [_])))
          rw [natsV_snoc]
      · rintro H4 ⟨s4, e4⟩
        rw [natsV_len, List.take_length] at e4
        refine ⟨G, _, rfl, .inl ⟨SqL.of e4, fun z nz => ?_⟩⟩
        obtain ⟨G1, eH, s5, e5⟩ := newH nz (o := .tup (natsV (ix.map fun i => (thereL rs).getD i 0)))
        rw [eH]
        clear eH
        have s35 := s4.trans s5
        have eB5 := s35 _ _ e3
        refine ⟨ws, eB5, lts (by omega), ws ++ [.ref z], same_to (s3.trans s35) nB, upd_same, ?_⟩
        rw [List.take_add_one, hix, List.map_append]
        exact (al3.imp fun _ _ t => (t.mv (tup_new s35)).mv fun q xs e => tup_put eB5 e).snoc ⟨z, rfl, tup_put eB5 e5⟩
    rintro H3 ⟨ws, s3, e3, al3⟩
    rw [List.take_of_length_le (by rw [lL]; exact Nat.le_refl _)] at al3
    obtain ⟨lots, elots⟩ : ∃ lots, (L.map fun ix => ix.map fun i => (thereL rs).getD i 0) = lots := ⟨_, rfl⟩
    have hlots : lots.Perm (lotsOf (thereL rs) (thereL rs).length) := by
      rw [← elots]
      exact hp.map _
    have ll8 : lots.length ≤ 8 := by
      rw [← elots, List.length_map]
      exact l8
    rw [elots] at al3
    have s03 := s02.trans s3
    clear al hp e2 elots lL l8 eD2 e1
    have lw := al3.len
    have hl : ∀ ls ∈ lots, LotOk rs.length ls ∧ ∀ l ∈ ls, ∃ r, rs.getD l none = some r := fun ls h => lots_ok (hlots.mem_iff.mp h)
    refine ⟨by show 0 ≤ sizeLine; decide, fun q nq => ⟨by show 1 ≤ sizeLine; decide, fun F nF => ?_⟩⟩
    obtain ⟨G1, eH, s4, e4⟩ := newH nq (o := .tup [])
    rw [eH] at nF ⊢
    clear eH
    obtain ⟨G2, eH, s5, e5⟩ := newH nF (o := .lst [.ref q])
    rw [eH]
    clear eH
    have s35 := s4.trans s5
    refine ⟨_, rfl, (k : Int), rfl, by omega, by omega, ?_⟩
    refine for_range (lo := 0) (n := (k : Int).toNat) (fun i σ H' => ∃ (F : Addr) (y6 y7 y8 : Option V) (us : List V), σ = [some (.ref a), some (.int bot), some (.int (k : Int)), some (.ref D), some (.ref B), some (.ref F), y6, y7, y8, none, none, none, none] ∧ Same H3 H' ∧ H' F = some (.lst us) ∧ All2 (StrmV H') (allS bot rs lots i) us) ⟨F, _, _, _, _, rfl, s35, e5, .cons ⟨q, rfl, [], s5 _ _ e4, .nil⟩ .nil⟩ ?_ ?_
    · clear s35 e4 e5 nq nF s4 s5
      rintro i σ H4 hi ⟨F, y6, y7, y8, us, rfl, s4, e4, al4⟩
      have la := all_len (bot := bot) (rs := rs) ll8 i
      have p8 : 8 ^ i ≤ 8 ^ 4 := Nat.pow_le_pow_right (by decide) (by omega)
      have p8 : 8 ^ i ≤ 4096 := p8
      have lu := al4.len
      refine ⟨by show 0 ≤ sizeLine; decide, fun N nN => ?_⟩
      obtain ⟨G1, eH, s5, e5⟩ := newH nN (o := .lst [])
      rw [eH]
      clear eH
      have s35 := s4.trans s5
      have n3 := s4.free nN
      have e4' := s5 _ _ e4
      have al4o := al4
      refine ⟨_, rfl, F, rfl, ⟨_, SqL.of e4'⟩, ?_⟩
      refine for_list (xs := us) (fun j σ H' => ∃ (y8 : Option V) (us' : List V), σ = [some (.ref a), some (.int bot), some (.int (k : Int)), some (.ref D), some (.ref B), some (.ref F), some (.int (0 + (i : Int))), some (.ref N), y8, none, none, none, none] ∧ Same H4 H' ∧ H' N = some (.lst us') ∧ All2 (StrmV H') (((allS bot rs lots i).take j).map (extS bot rs lots)).flatten us') ⟨_, [], rfl, s5, e5, .nil⟩ (fun j σ H' _ ⟨_, _, _, s, _⟩ => SqL.of (s _ _ e4)) ?_ ?_
      · rintro j x σ H5 hx ⟨y8, us', rfl, s6, e6, al6⟩
        obtain ⟨st, hst, sa, rfl, sv, hsa, alS⟩ := al4o.get hx
        have stm := List.mem_of_getElem? hst
        have lst := (all_ok hl i st stm).1
        have lsv := alS.len
        have l6 := al6.len
        have lf := flat_len (l := ((allS bot rs lots i).take j).map (extS bot rs lots)) (m := 8) fun r hr => by
          obtain ⟨st, _, rfl⟩ := List.mem_map.mp hr
          exact Nat.le_trans ext_len ll8
        rw [List.length_map, List.length_take, l6] at lf
        have s36 := s4.trans s6
        have eB := s36 _ _ e3
        refine ⟨_, rfl, .inl ⟨rfl, _, SqL.of e6⟩, _, rfl, B, rfl, ⟨_, SqL.of eB⟩, fun G nG => ?_⟩
        refine lc_list (K := K) (a := B) (xs := ws) (fun y H' => ∃ gs, Same H5 H' ∧ H' G = some (.lst gs) ∧ All2 (StrmV H') (extS bot rs (lots.take y) st) gs) ⟨[], same_upd nG, upd_same, .nil⟩ (fun y H' _ ⟨_, s, _⟩ => SqL.of (s _ _ eB)) ?_ ?_
        · rintro y x H6 hy ⟨gs, s7, e7, al7⟩
          obtain ⟨lot, hlot, lq, rfl, hlq⟩ := al3.get hy
          have l7 := al7.len
          have lx7 := ext_len (bot := bot) (rs := rs) (lots := lots.take y) (st := st)
          rw [List.length_take, l7] at lx7
          have s37 := s36.trans s7
          have s47 := s6.trans s7
          rw [ext_snoc hlot]
          refine ⟨by kernel_rfl, ?_⟩
          refine ⟨_, rfl, _, rfl, _, rfl, _, rfl, by show 1 ≤ sizeLine; decide, fun p np => ?_⟩
          obtain ⟨G1, eH, s8, e8⟩ := newH np (o := .tup [.ref lq])
          rw [eH]
          clear eH
          refine cat_at (s8 _ _ (s47 _ _ hsa)) e8 (by show sv.length + 1 ≤ 1000; omega) fun G2 p2 s9 e9 => ?_
          have s79 := s8.trans s9
          have s09 := (s03.trans s37).trans s79
          refine ⟨a, p2, bot, rs, st ++ [lot], rfl, ⟨xs, s09 _ _ ea, alr.imp fun _ _ t => t.same s09⟩, ok, ⟨_, e9, (alS.imp fun _ _ t => t.mv (tup_new (s47.trans s79))).snoc ⟨lq, rfl, s79 _ _ (s37 _ _ hlq)⟩⟩, by rw [List.length_append]; show st.length + 1 ≤ 6000; omega, fun G3 v s10 tv => ?_⟩
          have s710 := s79.trans s10
          have e10 := s710 _ _ e7
          have al10 := al7.imp fun _ _ t => t.mv (tup_new s710)
          cases hb : brF bot rs (st ++ [lot]) with
          | some tr =>
            rw [hb] at tv
            obtain ⟨t1, t2, t3⟩ := tr
            obtain ⟨z, rfl, _⟩ := tv
            refine ⟨rfl, _, rfl, iteF ⟨gs, s7.trans s710, e10, ?_⟩⟩
            show All2 _ (_ ++ []) _
            rw [List.append_nil]
            exact al10
          | none =>
            rw [hb] at tv
            cases (show v = V.non from tv)
            refine ⟨rfl, _, rfl, iteT ?_⟩
            refine ⟨_, rfl, _, rfl, by show 1 ≤ sizeLine; decide, fun p np => ?_⟩
            obtain ⟨G4, eH, s11, e11⟩ := newH np (o := .tup [.ref lq])
            rw [eH]
            clear eH
            have s711 := s710.trans s11
            refine cat_at (s711 _ _ (s47 _ _ hsa)) e11 (by show sv.length + 1 ≤ 1000; omega) fun G5 p5 s12 e12 => ?_
            have s712 := s711.trans s12
            have e12' := s712 _ _ e7
            refine ⟨gs, e12', lts (by omega), gs ++ [.ref p5], same_to (s7.trans s712) nG, upd_same, ?_⟩
            show All2 _ (_ ++ [st ++ [lot]]) _
            refine ((al7.imp fun _ _ t => t.mv (tup_new s712)).imp fun _ _ t => t.mv fun q xs e => tup_put e12' e).snoc ⟨p5, rfl, _, tup_put e12' e12, ?_⟩
            exact ((alS.imp fun _ _ t => t.mv (tup_new (s47.trans s712))).snoc ⟨lq, rfl, s712 _ _ (s37 _ _ hlq)⟩).imp fun _ _ t => t.mv fun q xs e => tup_put e12' e
        · rintro H6 ⟨gs, s7, e7, al7⟩
          rw [List.take_of_length_le (by rw [lw]; exact Nat.le_refl _)] at al7
          have l7 := al7.len
          have lx7 := ext_len (bot := bot) (rs := rs) (lots := lots) (st := st)
          have e6' := s7 _ _ e6
          refine ⟨N, G, us', gs, rfl, rfl, e6', e7, Nat.le_of_lt (Nat.lt_of_le_of_lt (show us'.length + gs.length ≤ 100000 by omega) (by decide)), ?_⟩
          refine ⟨_, us' ++ gs, rfl, same_to (s6.trans s7) nN, upd_same, ?_⟩
          rw [List.take_add_one, hst, List.map_append, List.flatten_append]
          have e1 : ((some st).toList.map (extS bot rs lots)).flatten = extS bot rs lots st := by
            show (extS bot rs lots st :: []).flatten = _
            rw [List.flatten_cons, List.flatten_nil, List.append_nil]
          rw [e1]
          exact ((al6.imp fun _ _ t => t.mv (tup_new s7)).append al7).imp fun _ _ t => t.mv fun q xs e => tup_put e6' e
      · rintro σ H5 ⟨y8, us', rfl, s6, e6, al6⟩
        rw [List.take_of_length_le (by rw [lu]; exact Nat.le_refl _)] at al6
        exact ⟨_, rfl, N, _, _, _, us', rfl, s4.trans s6, e6, al6⟩
    · rintro σ H4 ⟨F, y6, y7, y8, us, rfl, s4, e4, al4⟩
      rw [Int.toNat_natCast] at al4
      exact ⟨_, rfl, kq H4 F us lots (s03.trans s4) e4 al4 hlots⟩
end

/-! ### lines of some kinds -/
def maskR (f : Int × Int × Int → Bool) (rs : List Rw) : List Rw := rs.map fun r => match r with
  | some t => if f t = true then some t else none
  | none => none
def rowP (f : Int × Int × Int → Bool) (rs : List Rw) (l : Nat) : Bool := match rs.getD l none with
  | some t => f t
  | none => false
def maskS (f : Int × Int × Int → Bool) (rs : List Rw) (ss : Strm) : Strm := ss.map fun lot => lot.filter (rowP f rs)
section
variable {f : Int × Int × Int → Bool} {rs : List Rw} {bot : Int} {ss : Strm}
theorem mask_len : (maskR f rs).length = rs.length := by
  unfold maskR
  rw [List.length_map]
theorem mask_get (l : Nat) : (maskR f rs).getD l none = if rowP f rs l = true then rs.getD l none else none := by
  unfold maskR rowP
  rw [List.getD_eq_getElem?_getD, List.getD_eq_getElem?_getD, List.getElem?_map]
  cases rs[l]? with
  | none => rfl
  | some r =>
    cases r with
    | none => rfl
    | some t => rfl
theorem mask_ok (ok : RowsOk bot rs) : RowsOk bot (maskR f rs) := by
  refine ⟨by rw [mask_len]; exact ok.one, by rw [mask_len]; exact ok.few, fun r hr => ?_, ok.b1, ok.b20⟩
  obtain ⟨r0, h0, rfl⟩ := List.mem_map.mp hr
  have := ok.ok r0 h0
  cases r0 with
  | none => trivial
  | some t =>
    show RowOk bot (if f t = true then some t else none)
    by_cases c : f t = true
    · rw [if_pos c]; exact this
    · rw [if_neg c]; trivial
theorem mask_some : someR (maskR f rs) = (someR rs).filter f := by
  induction rs with
  | nil => rfl
  | cons r rs ih =>
    cases r with
    | none => exact ih
    | some t =>
      show someR ((if f t = true then some t else none) :: maskR f rs) = (t :: someR rs).filter f
      by_cases c : f t = true
      · rw [if_pos c, List.filter_cons_of_pos c, ← ih]; rfl
      · rw [if_neg c, List.filter_cons_of_neg c, ← ih]; rfl
theorem maskS_len : (maskS f rs ss).length = ss.length := by
  unfold maskS
  rw [List.length_map]
theorem maskS_get (t : Nat) : (maskS f rs ss).getD t [] = (ss.getD t []).filter (rowP f rs) := by
  unfold maskS
  rw [List.getD_eq_getElem?_getD, List.getD_eq_getElem?_getD, List.getElem?_map]
  cases ss[t]? <;> rfl
theorem maskS_in (l t : Nat) : inL (maskS f rs ss) l t = (inL ss l t && rowP f rs l) := by
  unfold inL
  rw [maskS_get]
  by_cases c : l ∈ ss.getD t []
  · rw [decide_eq_true c, Bool.true_and]
    cases q : rowP f rs l with
    | true => exact decide_eq_true (List.mem_filter.mpr ⟨c, q⟩)
    | false => exact decide_eq_false fun z => by
                 have := (List.mem_filter.mp z).2
                 rw [q] at this
                 cases this
  · rw [decide_eq_false c, Bool.false_and]
    exact decide_eq_false fun z => c (List.mem_filter.mp z).1
theorem maskS_dn (l t : Nat) : ∀ n, dn (maskS f rs ss) l t n = if rowP f rs l = true then dn ss l t n else 0
  | 0 => by
    show 0 = if _ then 0 else 0
    split <;> rfl
  | n + 1 => by
    show dn (maskS f rs ss) l t n + (if inL (maskS f rs ss) l (t - n) = true then 1 else 0) = _
    rw [maskS_dn l t n, maskS_in]
    by_cases c : rowP f rs l = true
    · rw [if_pos c, if_pos c, c, Bool.and_true]
      rfl
    · rw [if_neg c, if_neg c]
      have c : rowP f rs l = false := Bool.eq_false_iff.mpr c
      rw [c, Bool.and_false, if_neg Bool.false_ne_true]
theorem maskS_ok {N : Nat} (ok : ∀ ls ∈ ss, LotOk N ls) : ∀ ls ∈ maskS f rs ss, LotOk N ls := fun ls h => by
  obtain ⟨lot, hl, rfl⟩ := List.mem_map.mp h
  obtain ⟨a, b⟩ := ok lot hl
  exact ⟨a.filter _, fun x hx => b x (List.mem_filter.mp hx).1⟩
theorem maskS_kept (ok : RowsOk bot rs) (kp : Kept bot rs ss) : Kept bot (maskR f rs) (maskS f rs ss) := fun l hl t ht n hn => by
  rw [mask_len] at hl
  rw [maskS_len] at ht
  rw [maskS_dn, mask_get]
  by_cases c : rowP f rs l = true
  · rw [if_pos c, if_pos c]
    exact kp l hl t ht n hn
  · rw [if_neg c, if_neg c]
    exact Int.le_refl _
theorem soo_mask {m : Nat} : maskS f rs (sooS bot rs m) = sooS bot (maskR f rs) m := by
  unfold maskS sooS
  rw [List.map_map, mask_len]
  refine List.map_congr_left fun j _ => ?_
  show ((List.range rs.length).filter fun l => sndB bot rs l j).filter (rowP f rs) = _
  rw [List.filter_filter]
  refine List.filter_congr fun l _ => ?_
  unfold sndB
  rw [mask_get]
  by_cases c : rowP f rs l = true
  · rw [if_pos c, c, Bool.true_and]
  · rw [if_neg c]
    have c : rowP f rs l = false := Bool.eq_false_iff.mpr c
    rw [c, Bool.false_and]
    rfl
end
def sumO (bot : Int) (ts : List (Int × Int × Int)) (d : Nat) : Int := (ts.map (sent1 bot (d : Int))).sum
theorem kept_any {bot : Int} {rs : List Rw} {ss : Strm} (ok : RowsOk bot rs) (kp : Kept bot rs ss) {l : Nat} (hl : l < rs.length) : ∀ t n, n ≤ t + 1 → (dn ss l t n : Int) ≤ sentR bot (n : Int) (rs.getD l none) := by
  have rl : rs[l]? = some (rs.getD l none) := by
    rw [List.getD_eq_getElem?_getD, List.getElem?_eq_getElem hl]
    rfl
  have rok := ok.ok _ (List.mem_of_getElem? rl)
  have out : ∀ t, ss.length ≤ t → inL ss l t = false := fun t ht => by
    unfold inL
    rw [List.getD_eq_getElem?_getD, List.getElem?_eq_none ht]
    exact decide_eq_false List.not_mem_nil
  intro t
  induction t with
  | zero =>
    intro n hn
    by_cases c : 0 < ss.length
    · exact kp l hl 0 c n hn
    · match n, hn with
      | 0, _ => exact sent_nn rok ok.b1 (by omega)
      | 1, _ =>
        have e : dn ss l 0 1 = 0 + (if inL ss l (0 - 0) = true then 1 else 0) := rfl
        rw [Nat.sub_zero, out 0 (by omega), if_neg Bool.false_ne_true] at e
        rw [e]
        exact sent_nn rok ok.b1 (by omega)
  | succ t ih =>
    intro n hn
    by_cases c : t + 1 < ss.length
    · exact kp l hl (t + 1) c n hn
    · match n, hn with
      | 0, _ => exact sent_nn rok ok.b1 (by omega)
      | n + 1, hn =>
        rw [dn_next, out (t + 1) (by omega), if_neg Bool.false_ne_true, Nat.add_zero]
        exact Int.le_trans (ih n (by omega)) (sent_mono rok ok.b1 (by omega))
theorem cx_le {bot : Int} {rs : List Rw} {ss : Strm} (rok : RowsOk bot rs) (kp : Kept bot rs ss) (ok : ∀ ls ∈ ss, LotOk rs.length ls) : ∀ t n, n ≤ t → (cx ss t n : Int) ≤ sumO bot (someR rs) n
  | 0, n, h => by
    have : n = 0 := by omega
    subst this
    have z := fH_0 (bot := bot) (some_ok rok.ok)
    unfold fH at z
    show (0 : Int) ≤ ((someR rs).map (sent1 bot ((0 : Nat) : Int))).sum
    omega
  | t + 1, n, h => by
    rw [cx_sum ok n h]
    have q := sumN_le (n := rs.length) (f := fun l => (dn ss l t n : Int)) (g := fun l => sentR bot (n : Int) (rs.getD l none)) fun l hl => kept_any rok kp hl t n h
    have e := sum_rows (f := sentR bot (n : Int)) rs
    rw [sum_some] at e
    unfold sumO
    rw [← e]
    exact q
theorem cx_soo {bot : Int} {rs : List Rw} {m : Nat} (ok : RowsOk bot rs) : ∀ t, t ≤ m → (cx (sooS bot rs m) t t : Int) = sumO bot (someR rs) t
  | 0, _ => by
    have z := fH_0 (bot := bot) (some_ok ok.ok)
    unfold fH at z
    show (0 : Int) = ((someR rs).map (sent1 bot ((0 : Nat) : Int))).sum
    omega
  | t + 1, ht => by
    rw [cx_sum (t := t) soo_ok (t + 1) (Nat.le_refl _)]
    have e : sumN rs.length (fun l => (dn (sooS bot rs m) l t (t + 1) : Int)) = sumN rs.length fun l => sentR bot ((t + 1 : Nat) : Int) (rs.getD l none) := sumN_eq fun l hl => by
      rw [soo_dn ok hl t (t + 1) (by omega) (Nat.le_refl _), Nat.sub_self]
      have rl : rs[l]? = some (rs.getD l none) := by
        rw [List.getD_eq_getElem?_getD, List.getElem?_eq_getElem hl]
        rfl
      have z := sent_0 (ok.ok _ (List.mem_of_getElem? rl))
      show _ - sentR bot (0 : Int) _ = _
      rw [z]
      omega
    have e2 := sum_rows (f := sentR bot ((t + 1 : Nat) : Int)) rs
    rw [sum_some] at e2
    rw [e, e2]
    rfl
def smF (f : Nat → Nat) (s : Nat) : Nat → Nat
  | 0 => 0
  | n + 1 => smF f s n + f (s + n)
theorem cx_sm {ss : Strm} (s : Nat) : ∀ n, cx ss (s + n) n = smF (lenAt ss) s n
  | 0 => rfl
  | n + 1 => by
    rw [show s + (n + 1) = (s + n) + 1 by omega, cx_next, cx_sm s n]
    rfl
theorem sm_le {f g : Nat → Nat} {s : Nat} : ∀ n, (∀ i, i < n → f (s + i) ≤ g (s + i)) → smF f s n ≤ smF g s n
  | 0, _ => Nat.le_refl _
  | n + 1, h => Nat.add_le_add (sm_le n fun i hi => h i (by omega)) (h n (Nat.lt_succ_self _))
theorem sm_add {f g : Nat → Nat} {s : Nat} : ∀ n, smF (fun i => f i + g i) s n = smF f s n + smF g s n
  | 0 => rfl
  | n + 1 => by
    show smF (fun i => f i + g i) s n + (f (s + n) + g (s + n)) = smF f s n + f (s + n) + (smF g s n + g (s + n))
    rw [sm_add n]
    omega
/-- of what comes after b nothing counts -/
theorem sm_cut {f : Nat → Nat} {s d : Nat} : ∀ n, d ≤ n → smF (fun i => if i < s + d then f i else 0) s n = smF f s d
  | n, h => by
    induction n with
    | zero =>
      have : d = 0 := by omega
      subst this
      rfl
    | succ n ih =>
      show smF (fun i => if i < s + d then f i else 0) s n + (if s + n < s + d then f (s + n) else 0) = _
      by_cases c : d ≤ n
      · rw [ih c, if_neg (by omega)]
        rfl
      · have e : d = n + 1 := by omega
        subst e
        rw [if_pos (by omega)]
        show _ = smF f s n + f (s + n)
        congr 1
        have : ∀ m, m ≤ n → smF (fun i => if i < s + (n + 1) then f i else 0) s m = smF f s m := fun m hm => by
          induction m with
          | zero => rfl
          | succ m ihm =>
            show smF _ s m + (if s + m < s + (n + 1) then f (s + m) else 0) = smF f s m + f (s + m)
            rw [ihm (by omega), if_pos (by omega)]
        exact this n (Nat.le_refl _)
/-! ### ends -/
structure IsEnd (O L : Nat → Int) (d e : Nat) : Prop where
  le : d ≤ e
  fits : O d + L e ≤ (e : Int)
  low : ∀ e', d ≤ e' → e' < e → (e' : Int) < O d + L e'
theorem IsEnd.uniq {O L : Nat → Int} {d e e' : Nat} (a : IsEnd O L d e) (b : IsEnd O L d e') : e = e' := by
  rcases Nat.lt_trichotomy e e' with c | c | c
  · have := b.low e a.le c
    have := a.fits
    omega
  · exact c
  · have := a.low e' b.le c
    have := b.fits
    omega
theorem IsEnd.least {O L : Nat → Int} {d e x : Nat} (a : IsEnd O L d e) (h : d ≤ x) (f : O d + L x ≤ (x : Int)) : e ≤ x := by
  rcases Nat.lt_or_ge x e with c | c
  · have := a.low x h c
    omega
  · exact c
theorem end_ex {O L : Nat → Int} {d : Nat} : ∀ x, d ≤ x → O d + L x ≤ (x : Int) → ∃ e, IsEnd O L d e ∧ e ≤ x := by
  intro x
  induction x using Nat.strongRecOn with
  | _ x ih =>
    intro h f
    by_cases c : ∃ y, d ≤ y ∧ y < x ∧ O d + L y ≤ (y : Int)
    · obtain ⟨y, h1, h2, h3⟩ := c
      obtain ⟨e, a, b⟩ := ih y h2 h1 h3
      exact ⟨e, a, by omega⟩
    · refine ⟨x, ⟨h, f, fun e' h1 h2 => ?_⟩, Nat.le_refl _⟩
      rcases Int.lt_or_le (e' : Int) (O d + L e') with z | z
      · exact z
      · exact absurd ⟨e', h1, h2, z⟩ c
/-- the greatest wait, of so many beginnings -/
structure PartMax (O L : Nat → Int) (N : Nat) (w : Int) : Prop where
  nn : 0 ≤ w
  top : ∀ d e, 1 ≤ d → d ≤ N → IsEnd O L d e → (e : Int) - (d : Int) ≤ w
  at_ : w = 0 ∨ ∃ d e, 1 ≤ d ∧ d ≤ N ∧ IsEnd O L d e ∧ (e : Int) - (d : Int) = w
structure WaitMax (O L : Nat → Int) (w : Int) : Prop where
  nn : 0 ≤ w
  top : ∀ d e, 1 ≤ d → IsEnd O L d e → (e : Int) - (d : Int) ≤ w
  at_ : w = 0 ∨ ∃ d e, 1 ≤ d ∧ IsEnd O L d e ∧ (e : Int) - (d : Int) = w
theorem WaitMax.uniq {O L : Nat → Int} {w w' : Int} (a : WaitMax O L w) (b : WaitMax O L w') : w = w' := by
  have h1 : w ≤ w' := by
    rcases a.at_ with e | ⟨d, e, h1, h2, h3⟩
    · have := b.nn; omega
    · have := b.top d e h1 h2; omega
  have h2 : w' ≤ w := by
    rcases b.at_ with e | ⟨d, e, h1, h2, h3⟩
    · have := a.nn; omega
    · have := a.top d e h1 h2; omega
  omega
theorem PartMax.step {O L : Nat → Int} {N : Nat} {w : Int} (p : PartMax O L N w) {e : Nat} (h : IsEnd O L (N + 1) e) : PartMax O L (N + 1) (if (e : Int) - ((N + 1 : Nat) : Int) > w then (e : Int) - ((N + 1 : Nat) : Int) else w) := by
  have nn := p.nn
  by_cases c : (e : Int) - ((N + 1 : Nat) : Int) > w
  · rw [if_pos c]
    refine ⟨by omega, fun d e' h1 h2 h3 => ?_, .inr ⟨N + 1, e, by omega, Nat.le_refl _, h, rfl⟩⟩
    by_cases z : d = N + 1
    · subst z
      rw [h3.uniq h]
      exact Int.le_refl _
    · have := p.top d e' h1 (by omega) h3
      omega
  · rw [if_neg c]
    refine ⟨nn, fun d e' h1 h2 h3 => ?_, ?_⟩
    · by_cases z : d = N + 1
      · subst z
        rw [h3.uniq h]
        omega
      · exact p.top d e' h1 (by omega) h3
    · rcases p.at_ with z | ⟨d, e', h1, h2, h3, h4⟩
      · exact .inl z
      · exact .inr ⟨d, e', h1, by omega, h3, h4⟩
theorem part_0 {O L : Nat → Int} : PartMax O L 0 0 := ⟨Int.le_refl _, fun d e h1 h2 _ => by omega, .inl rfl⟩
/-- the first beginning of the greatest wait: its end -/
def First (O L : Nat → Int) (N : Nat) (w : Int) (m : Nat) : Prop := (w = 0 ∧ m = 1) ∨ (0 < w ∧ ∃ d, 1 ≤ d ∧ d ≤ N ∧ IsEnd O L d m ∧ (m : Int) - (d : Int) = w ∧ ∀ d' e', 1 ≤ d' → d' < d → IsEnd O L d' e' → (e' : Int) - (d' : Int) < w)
theorem First.step {O L : Nat → Int} {N m : Nat} {w : Int} (p : PartMax O L N w) (f : First O L N w m) {e : Nat} (h : IsEnd O L (N + 1) e) :
    First O L (N + 1) (if (e : Int) - ((N + 1 : Nat) : Int) > w then (e : Int) - ((N + 1 : Nat) : Int) else w) (if (e : Int) - ((N + 1 : Nat) : Int) > w then e else m) := by
  have nn := p.nn
  by_cases c : (e : Int) - ((N + 1 : Nat) : Int) > w
  · rw [if_pos c, if_pos c]
    refine .inr ⟨by omega, N + 1, by omega, Nat.le_refl _, h, rfl, fun d' e' h1 h2 h3 => ?_⟩
    have := p.top d' e' h1 (by omega) h3
    omega
  · rw [if_neg c, if_neg c]
    rcases f with z | ⟨h0, d, h1, h2, h3⟩
    · exact .inl z
    · exact .inr ⟨h0, d, h1, by omega, h3⟩
section
variable {bot : Int} {os ls : List (Int × Int × Int)}
theorem sumO_mono (b1 : 1 ≤ bot) (ok : ∀ r ∈ os, RowOk bot (some r)) {n m : Nat} (h : n ≤ m) : sumO bot os n ≤ sumO bot os m := by
  unfold sumO
  induction os with
  | nil => exact Int.le_refl _
  | cons r os ih =>
    rw [List.map_cons, List.map_cons, List.sum_cons, List.sum_cons]
    have h1 := sent_mono (n := (n : Int)) (m := (m : Int)) (ok r List.mem_cons_self) b1 (by omega)
    have h1 : sent1 bot (n : Int) r ≤ sent1 bot (m : Int) r := h1
    have h2 := ih fun q hq => ok q (List.mem_cons_of_mem _ hq)
    omega
theorem sumO_sub (b1 : 1 ≤ bot) (ok : ∀ r ∈ os, RowOk bot (some r)) (n m : Nat) : sumO bot os (n + m) ≤ sumO bot os n + sumO bot os m := by
  unfold sumO
  induction os with
  | nil => exact Int.le_refl _
  | cons r os ih =>
    rw [List.map_cons, List.map_cons, List.map_cons, List.sum_cons, List.sum_cons, List.sum_cons]
    have h1 := sent_sub (a := (n : Int)) (b := (m : Int)) (ok r List.mem_cons_self) b1 (by omega) (by omega)
    have h1 : sent1 bot ((n : Int) + (m : Int)) r ≤ sent1 bot (n : Int) r + sent1 bot (m : Int) r := h1
    rw [← Int.natCast_add] at h1
    have h2 := ih fun q hq => ok q (List.mem_cons_of_mem _ hq)
    omega
theorem sumO_cap (b1 : 1 ≤ bot) (ok : ∀ r ∈ os, RowOk bot (some r)) (d : Nat) : bot * sumO bot os d ≤ 20 * bot * (os.length : Int) + topsS os * (d : Int) := by
  unfold sumO topsS
  induction os with
  | nil => simp
  | cons r os ih =>
    have ih := ih fun q hq => ok q (List.mem_cons_of_mem _ hq)
    obtain ⟨⟨h1, h2⟩, ⟨h3, h4⟩, _⟩ := ok r List.mem_cons_self
    rw [List.map_cons, List.map_cons, List.sum_cons, List.sum_cons, List.length_cons, Int.mul_add, Int.add_mul]
    have q : sent1 bot (d : Int) r ≤ r.1 + r.2.1 * (d : Int) / bot := by
      show mn (d : Int) (r.1 + r.2.1 * (d : Int) / bot) ≤ _
      unfold mn
      split <;> omega
    have q1 : bot * (r.2.1 * (d : Int) / bot) ≤ r.2.1 * (d : Int) := Int.mul_ediv_self_le (by omega)
    have q2 : bot * sent1 bot (d : Int) r ≤ bot * (r.1 + r.2.1 * (d : Int) / bot) := Int.mul_le_mul_of_nonneg_left q (by omega)
    rw [Int.mul_add] at q2
    have q3 : bot * r.1 ≤ bot * 20 := Int.mul_le_mul_of_nonneg_left h2 (by omega)
    have e : 20 * bot * ((os.length + 1 : Nat) : Int) = 20 * bot * (os.length : Int) + 20 * bot := by
      rw [Int.natCast_add, Int.mul_add]
      simp
    rw [e]
    omega
theorem topsS_nn (ok : ∀ r ∈ os, RowOk bot (some r)) : 0 ≤ topsS os := by
  unfold topsS
  induction os with
  | nil => exact Int.le_refl _
  | cons r os ih =>
    obtain ⟨_, ⟨h3, _⟩, _⟩ := ok r List.mem_cons_self
    rw [List.map_cons, List.sum_cons]
    have := ih fun q hq => ok q (List.mem_cons_of_mem _ hq)
    exact Int.add_nonneg h3 this
/-- there is an end, and where it is -/
theorem end_there (b1 : 1 ≤ bot) (b20 : bot ≤ 20) (oo : ∀ r ∈ os, RowOk bot (some r)) (ol : ∀ r ∈ ls, RowOk bot (some r)) (few : os.length + ls.length ≤ 12) (t1 : topsS ls < bot) (t2 : topsS ls + topsS os ≤ bot) (d : Nat) : ∃ e, IsEnd (sumO bot os) (sumO bot ls) d e ∧ e ≤ d + 4800 := by
  obtain ⟨b, rfl⟩ : ∃ b : Nat, bot = (b : Int) := ⟨bot.toNat, by omega⟩
  have hx : sumO (b : Int) os d + sumO (b : Int) ls (d + 240 * b) ≤ ((d + 240 * b : Nat) : Int) := by
    have c1 := sumO_cap b1 oo d
    have c2 := sumO_cap b1 ol (d + 240 * b)
    have n1 := topsS_nn oo
    have n2 := topsS_nn ol
    have m1 : topsS ls * ((d + 240 * b : Nat) : Int) = topsS ls * (d : Int) + topsS ls * (240 * (b : Int)) := by
      rw [Int.natCast_add, Int.natCast_mul, Int.mul_add]
      rfl
    have m2 : (topsS ls + topsS os) * (d : Int) ≤ (b : Int) * (d : Int) := Int.mul_le_mul_of_nonneg_right t2 (by omega)
    have m3 : topsS ls * (240 * (b : Int)) ≤ ((b : Int) - 1) * (240 * (b : Int)) := Int.mul_le_mul_of_nonneg_right (by omega) (by omega)
    rw [Int.add_mul] at m2
    rw [Int.sub_mul, Int.one_mul] at m3
    have m4 : 20 * (b : Int) * ((os.length : Int) + (ls.length : Int)) ≤ 20 * (b : Int) * 12 := Int.mul_le_mul_of_nonneg_left (by omega) (by omega)
    rw [Int.mul_add] at m4
    have m5 : (b : Int) * ((d + 240 * b : Nat) : Int) = (b : Int) * (d : Int) + (b : Int) * (240 * (b : Int)) := by
      rw [Int.natCast_add, Int.natCast_mul, Int.mul_add]
      rfl
    have key : (b : Int) * (sumO (b : Int) os d + sumO (b : Int) ls (d + 240 * b)) ≤ (b : Int) * ((d + 240 * b : Nat) : Int) := by
      rw [Int.mul_add, m5]
      omega
    exact Int.le_of_mul_le_mul_left key (by omega)
  obtain ⟨e, h1, h2⟩ := end_ex (O := sumO (b : Int) os) (L := sumO (b : Int) ls) (d + 240 * b) (by omega) hx
  exact ⟨e, h1, by omega⟩
theorem end_fall (b1 : 1 ≤ bot) (oo : ∀ r ∈ os, RowOk bot (some r)) (ol : ∀ r ∈ ls, RowOk bot (some r)) (t2 : topsS ls + topsS os ≤ bot) {b d e e' : Nat} (eb : (b : Int) = bot) (ho : ∀ r ∈ os, r.1 * bot ≤ (d : Int)) (hl : ∀ r ∈ ls, r.1 * bot ≤ (d : Int)) (h : IsEnd (sumO bot os) (sumO bot ls) d e) (h' : IsEnd (sumO bot os) (sumO bot ls) (d + b) e') : e' ≤ e + b := by
  subst eb
  refine h'.least (by have := h.le; omega) ?_
  have s1 := sum_step b1 (i := (d : Int)) (by omega) (ts := os) fun r hr => ⟨oo r hr, ho r hr⟩
  have s2 := sum_step b1 (i := (e : Int)) (by omega) (ts := ls) fun r hr => ⟨ol r hr, by have := hl r hr; have := h.le; omega⟩
  have f := h.fits
  unfold sumO at f ⊢
  rw [Int.natCast_add, Int.natCast_add]
  omega
theorem wait_all (b1 : 1 ≤ bot) (b20 : bot ≤ 20) (oo : ∀ r ∈ os, RowOk bot (some r)) (ol : ∀ r ∈ ls, RowOk bot (some r)) (few : os.length + ls.length ≤ 12) (t1 : topsS ls < bot) (t2 : topsS ls + topsS os ≤ bot) {N : Nat} {w : Int} (ro : ∀ r ∈ os, r.1 * bot + bot ≤ (N : Int) + 1) (rl : ∀ r ∈ ls, r.1 * bot + bot ≤ (N : Int) + 1) (one : os ≠ []) (p : PartMax (sumO bot os) (sumO bot ls) N w) : WaitMax (sumO bot os) (sumO bot ls) w := by
  refine ⟨p.nn, fun d => ?_, ?_⟩
  · induction d using Nat.strongRecOn with
    | _ d ih =>
      intro e h1 h2
      by_cases c : d ≤ N
      · exact p.top d e h1 c h2
      · obtain ⟨b, eb⟩ : ∃ b : Nat, (b : Int) = bot := ⟨bot.toNat, by omega⟩
        obtain ⟨r0, hr0⟩ : ∃ r, r ∈ os := by
          cases os with
          | nil => exact absurd rfl one
          | cons r os => exact ⟨r, List.mem_cons_self⟩
        obtain ⟨⟨g1, _⟩, _⟩ := oo r0 hr0
        have g0 : bot ≤ r0.1 * bot := by
          have : 1 * bot ≤ r0.1 * bot := Int.mul_le_mul_of_nonneg_right g1 (by omega)
          omega
        have g2 := ro r0 hr0
        obtain ⟨e0, a0, _⟩ := end_there b1 b20 oo ol few t1 t2 (d - b)
        have i := ih (d - b) (by omega) e0 (by omega) a0
        have ed : (d - b) + b = d := by omega
        have f := end_fall (b := b) (d := d - b) (e := e0) (e' := e) b1 oo ol t2 eb (fun r hr => by have := ro r hr; omega) (fun r hr => by have := rl r hr; omega) a0 (by rw [ed]; exact h2)
        omega
  · rcases p.at_ with z | ⟨d, e, h1, _, h3, h4⟩
    · exact .inl z
    · exact .inr ⟨d, e, h1, h3, h4⟩
end

/-! ### cells that are held, one by one: kind, beat, line -/
abbrev Cel := Int × Int × Int
def leC (x y : Cel) : Bool := decide (x.1 < y.1 ∨ (x.1 = y.1 ∧ (x.2.1 < y.2.1 ∨ (x.2.1 = y.2.1 ∧ x.2.2 ≤ y.2.2))))
theorem leC_iff {x y : Cel} : leC x y = true ↔ x.1 < y.1 ∨ (x.1 = y.1 ∧ (x.2.1 < y.2.1 ∨ (x.2.1 = y.2.1 ∧ x.2.2 ≤ y.2.2))) := by
  unfold leC
  rw [decide_eq_true_eq]
theorem leC_refl (x : Cel) : leC x x = true := leC_iff.mpr (.inr ⟨rfl, .inr ⟨rfl, Int.le_refl _⟩⟩)
theorem leC_trans {x y z : Cel} (h1 : leC x y = true) (h2 : leC y z = true) : leC x z = true := by
  rw [leC_iff] at h1 h2 ⊢
  omega
theorem leC_total {x y : Cel} (h : leC x y = false) : leC y x = true := by
  have h : ¬ leC x y = true := by rw [h]; exact Bool.false_ne_true
  rw [leC_iff] at h ⊢
  omega
def minC (x : Cel) (xs : List Cel) : Cel := xs.foldl (fun a y => if leC a y = true then a else y) x
theorem minC_mem : ∀ (xs : List Cel) (x : Cel), minC x xs ∈ x :: xs
  | [], x => List.mem_cons_self
  | y :: xs, x => by
    show minC (if leC x y = true then x else y) xs ∈ _
    have h := minC_mem xs (if leC x y = true then x else y)
    rcases List.mem_cons.mp h with e | e
    · rw [e]
      split
      · exact List.mem_cons_self
      · exact List.mem_cons_of_mem _ List.mem_cons_self
    · exact List.mem_cons_of_mem _ (List.mem_cons_of_mem _ e)
theorem minC_le : ∀ (xs : List Cel) (x : Cel), ∀ z ∈ x :: xs, leC (minC x xs) z = true
  | [], x, z, h => by
    rw [List.mem_singleton.mp h]
    exact leC_refl x
  | y :: xs, x, z, h => by
    show leC (minC (if leC x y = true then x else y) xs) z = true
    have low := minC_le xs (if leC x y = true then x else y)
    have top := low _ List.mem_cons_self
    rcases List.mem_cons.mp h with e | h
    · subst e
      by_cases c : leC z y = true
      · rw [if_pos c] at top ⊢
        exact top
      · rw [if_neg c] at top ⊢
        exact leC_trans top (leC_total (Bool.eq_false_iff.mpr c))
    · rcases List.mem_cons.mp h with e | h
      · subst e
        by_cases c : leC x z = true
        · rw [if_pos c] at top ⊢
          exact leC_trans top c
        · rw [if_neg c] at top ⊢
          exact top
      · exact low z (List.mem_cons_of_mem _ h)
def del (m : Cel) : List Cel → List Cel
  | [] => []
  | y :: ys => if y = m then ys else y :: del m ys
theorem del_count {p : Cel → Bool} {m : Cel} : ∀ {l : List Cel}, m ∈ l → (del m l).countP p + (if p m = true then 1 else 0) = l.countP p
  | y :: ys, h => by
    show (if y = m then ys else y :: del m ys).countP p + _ = _
    by_cases c : y = m
    · subst c
      rw [if_pos rfl, List.countP_cons]
    · rw [if_neg c, List.countP_cons, List.countP_cons]
      have h : m ∈ ys := by
        rcases List.mem_cons.mp h with e | e
        · exact absurd e.symm c
        · exact e
      have := del_count (p := p) h
      omega
theorem del_mem {m x : Cel} : ∀ {l : List Cel}, x ∈ del m l → x ∈ l
  | y :: ys, h => by
    have h : x ∈ (if y = m then ys else y :: del m ys) := h
    by_cases c : y = m
    · rw [if_pos c] at h
      exact List.mem_cons_of_mem _ h
    · rw [if_neg c] at h
      rcases List.mem_cons.mp h with e | e
      · rw [e]; exact List.mem_cons_self
      · exact List.mem_cons_of_mem _ (del_mem e)
theorem del_len {m : Cel} : ∀ {l : List Cel}, m ∈ l → (del m l).length + 1 = l.length
  | y :: ys, h => by
    show (if y = m then ys else y :: del m ys).length + 1 = _
    by_cases c : y = m
    · rw [if_pos c]
      rfl
    · rw [if_neg c]
      have h : m ∈ ys := by
        rcases List.mem_cons.mp h with e | e
        · exact absurd e.symm c
        · exact e
      have := del_len h
      rw [List.length_cons, List.length_cons]
      omega
def nxt : List Cel → List Cel
  | [] => []
  | x :: xs => del (minC x xs) (x :: xs)
def popO : List Cel → Option Cel
  | [] => none
  | x :: xs => some (minC x xs)
theorem pop_none {h : List Cel} (e : popO h = none) : h = [] := by
  cases h with
  | nil => rfl
  | cons x xs => cases e
theorem pop_some {h : List Cel} {c : Cel} (e : popO h = some c) : c ∈ h ∧ (∀ z ∈ h, leC c z = true) ∧ ∀ p : Cel → Bool, (nxt h).countP p + (if p c = true then 1 else 0) = h.countP p := by
  cases h with
  | nil => cases e
  | cons x xs =>
    cases e
    exact ⟨minC_mem xs x, minC_le xs x, fun p => del_count (minC_mem xs x)⟩
theorem nxt_mem {h : List Cel} {x : Cel} (m : x ∈ nxt h) : x ∈ h := by
  cases h with
  | nil => cases m
  | cons y ys => exact del_mem m
theorem nxt_len (h : List Cel) : (nxt h).length = h.length - 1 := by
  cases h with
  | nil => rfl
  | cons y ys =>
    have := del_len (minC_mem ys y)
    show (del (minC y ys) (y :: ys)).length = _
    omega
/-- what is not there is not made; what is there stays or goes -/
theorem nxt_stay {h : List Cel} {x : Cel} (m : x ∈ h) : x ∈ nxt h ∨ popO h = some x := by
  cases h with
  | nil => cases m
  | cons y ys =>
    have key : ∀ {l : List Cel} {z : Cel}, x ∈ l → x ≠ z → x ∈ del z l := fun {l z} => by
      induction l with
      | nil => intro h; cases h
      | cons y l ih =>
        intro h ne
        show x ∈ (if y = z then l else y :: del z l)
        by_cases c : y = z
        · rw [if_pos c]
          rcases List.mem_cons.mp h with e | e
          · exact absurd (e.trans c) ne
          · exact e
        · rw [if_neg c]
          rcases List.mem_cons.mp h with e | e
          · rw [e]; exact List.mem_cons_self
          · exact List.mem_cons_of_mem _ (ih e ne)
    by_cases c : x = minC y ys
    · exact .inr (by rw [c]; rfl)
    · exact .inl (key m c)
def kindOf (rs : List Rw) (l : Nat) : Int := match rs.getD l none with
  | some t => t.2.2
  | none => 0
def arrC (rs : List Rw) (ss : Strm) (t : Nat) : List Cel := (ss.getD t []).map fun l => (kindOf rs l, (t : Int), (l : Int))
def heldC (rs : List Rw) (ss : Strm) : Nat → List Cel
  | 0 => []
  | t + 1 => nxt (heldC rs ss t ++ arrC rs ss t)
def popC (rs : List Rw) (ss : Strm) (t : Nat) : Option Cel := popO (heldC rs ss t ++ arrC rs ss t)
section
variable {rs : List Rw} {ss : Strm} {bot : Int}
theorem heldC_len : ∀ t, (heldC rs ss t).length = heldN ss t
  | 0 => rfl
  | t + 1 => by
    show (nxt (heldC rs ss t ++ arrC rs ss t)).length = heldN ss t + lenAt ss t - 1
    rw [nxt_len, List.length_append, heldC_len t]
    congr 2
    unfold arrC lenAt
    rw [List.length_map]
theorem arr_beat {t : Nat} {x : Cel} (h : x ∈ arrC rs ss t) : x.2.1 = (t : Int) := by
  obtain ⟨l, _, rfl⟩ := List.mem_map.mp h
  rfl
theorem held_from {s : Nat} {x : Cel} : ∀ n, x ∈ heldC rs ss (s + n) → x ∈ heldC rs ss s ∨ ∃ u, s ≤ u ∧ u < s + n ∧ x ∈ arrC rs ss u
  | 0, h => .inl h
  | n + 1, h => by
    have h : x ∈ nxt (heldC rs ss (s + n) ++ arrC rs ss (s + n)) := h
    rcases List.mem_append.mp (nxt_mem h) with z | z
    · rcases held_from n z with w | ⟨u, h1, h2, h3⟩
      · exact .inl w
      · exact .inr ⟨u, h1, by omega, h3⟩
    · exact .inr ⟨s + n, by omega, by omega, z⟩
/-- the counts go on -/
theorem count_go {p : Cel → Bool} {s : Nat} (z : (heldC rs ss s).countP p = 0) : ∀ n, (∀ i, i < n → ∃ x, popC rs ss (s + i) = some x ∧ p x = true) → (heldC rs ss (s + n)).countP p + n = smF (fun u => (arrC rs ss u).countP p) s n
  | 0, _ => z
  | n + 1, h => by
    have ih := count_go z n fun i hi => h i (by omega)
    obtain ⟨x, e, px⟩ := h n (Nat.lt_succ_self _)
    have q := (pop_some (show popO (heldC rs ss (s + n) ++ arrC rs ss (s + n)) = some x from e)).2.2 p
    rw [List.countP_append, if_pos px] at q
    show (nxt (heldC rs ss (s + n) ++ arrC rs ss (s + n))).countP p + (n + 1) = smF (fun u => (arrC rs ss u).countP p) s n + (arrC rs ss (s + n)).countP p
    omega
/-- a time from which only what is no greater goes -/
theorem busy {t : Nat} {c : Cel} (e : popC rs ss t = some c) : ∀ j, j ≤ t → (∃ s, s ≤ t ∧ (heldC rs ss s).countP (fun x => leC x c) = 0 ∧ ∀ u, s ≤ u → u ≤ t → ∃ x, popC rs ss u = some x ∧ leC x c = true) ∨ ∀ u, t - j ≤ u → u ≤ t → ∃ x, popC rs ss u = some x ∧ leC x c = true
  | 0, _ => .inr fun u h1 h2 => by
    have : u = t := by omega
    subst this
    exact ⟨c, e, leC_refl c⟩
  | j + 1, hj => by
    rcases busy e j (by omega) with h | h
    · exact .inl h
    · by_cases z : (heldC rs ss (t - j)).countP (fun x => leC x c) = 0
      · exact .inl ⟨t - j, by omega, z, h⟩
      · refine .inr fun u h1 h2 => ?_
        by_cases q : t - j ≤ u
        · exact h u q h2
        · have eu : t - j = u + 1 := by omega
          rw [eu] at z
          cases ep : popC rs ss u with
          | none =>
            exfalso
            have en := pop_none (show popO (heldC rs ss u ++ arrC rs ss u) = none from ep)
            refine z ?_
            show (nxt (heldC rs ss u ++ arrC rs ss u)).countP _ = 0
            rw [en]
            rfl
          | some x =>
            refine ⟨x, rfl, ?_⟩
            cases cx : leC x c with
            | true => rfl
            | false =>
              exfalso
              obtain ⟨h1, h2, _⟩ := pop_some (show popO (heldC rs ss u ++ arrC rs ss u) = some x from ep)
              refine z (List.countP_eq_zero.mpr fun y hy => ?_)
              intro w
              have := leC_trans (h2 y (nxt_mem hy)) w
              rw [cx] at this
              cases this
theorem busy_at {t : Nat} {c : Cel} (e : popC rs ss t = some c) : ∃ s, s ≤ t ∧ (heldC rs ss s).countP (fun x => leC x c) = 0 ∧ ∀ u, s ≤ u → u ≤ t → ∃ x, popC rs ss u = some x ∧ leC x c = true := by
  rcases busy e t (Nat.le_refl _) with h | h
  · exact h
  · exact ⟨0, Nat.zero_le _, rfl, fun u h1 h2 => h u (by omega) h2⟩
theorem arr_kind {t : Nat} (q : Int → Bool) (live : ∀ ls ∈ ss, ∀ l ∈ ls, ∃ r, rs.getD l none = some r) : (arrC rs ss t).countP (fun x => q x.1) = lenAt (maskS (fun r => q r.2.2) rs ss) t := by
  unfold arrC lenAt
  rw [maskS_get, List.countP_map, List.countP_eq_length_filter]
  congr 1
  refine List.filter_congr fun l hl => ?_
  show q (kindOf rs l) = rowP _ rs l
  unfold kindOf rowP
  have hs : ss.getD t [] ∈ ss ∨ ss.getD t [] = [] := by
    rw [List.getD_eq_getElem?_getD]
    cases c : ss[t]? with
    | none => exact .inr rfl
    | some ls => exact .inl (List.mem_of_getElem? c)
  rcases hs with hs | hs
  · obtain ⟨r, hr⟩ := live _ hs l hl
    rw [hr]
  · rw [hs] at hl
    cases hl
def ownR (rs : List Rw) (k : Int) : List (Int × Int × Int) := (someR rs).filter fun r => decide (r.2.2 = k)
def lesR (rs : List Rw) (k : Int) : List (Int × Int × Int) := (someR rs).filter fun r => decide (r.2.2 < k)
/-- a wait in a kept stream is no longer than one that ends tell -/
theorem wait_le (rok : RowsOk bot rs) (kp : Kept bot rs ss) (ok : ∀ ls ∈ ss, LotOk rs.length ls) (live : ∀ ls ∈ ss, ∀ l ∈ ls, ∃ r, rs.getD l none = some r) {t : Nat} {c : Cel} (e : popC rs ss t = some c) : ∃ d x : Nat, 1 ≤ d ∧ d ≤ x ∧ (t : Int) - c.2.1 = (x : Int) - (d : Int) ∧ ∀ e', d ≤ e' → e' < x → (e' : Int) < sumO bot (ownR rs c.1) d + sumO bot (lesR rs c.1) e' := by
  obtain ⟨s, hs, z, good⟩ := busy_at e
  obtain ⟨cin, _, _⟩ := pop_some (show popO (heldC rs ss t ++ arrC rs ss t) = some c from e)
  have nz : c ∉ heldC rs ss s := fun w => by
    have := List.countP_eq_zero.mp z c w
    exact this (leC_refl c)
  -- its beat
  obtain ⟨b, hb, hbs, hbt⟩ : ∃ b : Nat, c.2.1 = (b : Int) ∧ s ≤ b ∧ b ≤ t := by
    rcases List.mem_append.mp cin with w | w
    · rw [show t = s + (t - s) by omega] at w
      rcases held_from (t - s) w with w | ⟨u, h1, h2, h3⟩
      · exact absurd w nz
      · exact ⟨u, arr_beat h3, h1, by omega⟩
    · exact ⟨t, arr_beat w, hs, Nat.le_refl _⟩
  refine ⟨b - s + 1, t - s + 1, by omega, by omega, by omega, fun e' h1 h2 => ?_⟩
  -- it is there still
  have there : c ∈ heldC rs ss (s + e') := by
    have w : c ∈ heldC rs ss t := by
      rcases List.mem_append.mp cin with w | w
      · exact w
      · have := arr_beat w
        omega
    rw [show t = (s + e') + (t - (s + e')) by omega] at w
    rcases held_from (t - (s + e')) w with w | ⟨u, g1, g2, g3⟩
    · exact w
    · have := arr_beat g3
      omega
  have cnt := count_go (p := fun x => leC x c) z e' fun i hi => good (s + i) (by omega) (by omega)
  have pos : 0 < (heldC rs ss (s + e')).countP fun x => leC x c := List.countP_pos_iff.mpr ⟨c, there, leC_refl c⟩
  have bnd : smF (fun u => (arrC rs ss u).countP fun x => leC x c) s e' ≤ smF (fun u => lenAt (maskS (fun r => decide (r.2.2 < c.1)) rs ss) u + (if u < s + (b - s + 1) then lenAt (maskS (fun r => decide (r.2.2 = c.1)) rs ss) u else 0)) s e' := by
    refine sm_le e' fun i hi => ?_
    rw [← arr_kind (fun k => decide (k < c.1)) live]
    by_cases w : s + i < s + (b - s + 1)
    · rw [if_pos w, ← arr_kind (fun k => decide (k = c.1)) live]
      have key : ∀ l : List Cel, l.countP (fun x => leC x c) ≤ l.countP (fun x => decide (x.1 < c.1)) + l.countP (fun x => decide (x.1 = c.1)) := fun l => by
        induction l with
        | nil => exact Nat.le_refl _
        | cons y l ih =>
          rw [List.countP_cons, List.countP_cons, List.countP_cons]
          by_cases q : leC y c = true
          · rw [if_pos q]
            have q := leC_iff.mp q
            by_cases q1 : y.1 < c.1
            · rw [if_pos (decide_eq_true q1)]; omega
            · have q2 : y.1 = c.1 := by omega
              rw [if_pos (decide_eq_true q2)]; omega
          · rw [if_neg q]; omega
      exact key _
    · rw [if_neg w, Nat.add_zero]
      refine List.countP_mono_left fun x hx q => ?_
      have hbx := arr_beat hx
      have q := leC_iff.mp q
      refine decide_eq_true ?_
      omega
  rw [sm_add, sm_cut (d := b - s + 1) e' h1] at bnd
  rw [← cx_sm, ← cx_sm] at bnd
  have c1 := cx_le (mask_ok (f := fun r => decide (r.2.2 < c.1)) rok) (maskS_kept rok kp) (by rw [mask_len]; exact maskS_ok ok) (s + e') e' (by omega)
  have c2 := cx_le (mask_ok (f := fun r => decide (r.2.2 = c.1)) rok) (maskS_kept rok kp) (by rw [mask_len]; exact maskS_ok ok) (s + (b - s + 1)) (b - s + 1) (by omega)
  rw [mask_some] at c1 c2
  have c1 : (cx (maskS (fun r => decide (r.2.2 < c.1)) rs ss) (s + e') e' : Int) ≤ sumO bot (lesR rs c.1) e' := c1
  have c2 : (cx (maskS (fun r => decide (r.2.2 = c.1)) rs ss) (s + (b - s + 1)) (b - s + 1) : Int) ≤ sumO bot (ownR rs c.1) (b - s + 1) := c2
  omega
end

theorem held_len {ss : Strm} : ∀ k, heldN ss (ss.length + k) = heldN ss ss.length - k
  | 0 => rfl
  | k + 1 => by
    rw [show ss.length + (k + 1) = (ss.length + k) + 1 by omega, held_tail (by omega), held_len k]
    omega
theorem held_cap {ss : Strm} (h : ∀ ls ∈ ss, ls.length ≤ 12) : ∀ t, heldN ss t ≤ 12 * t
  | 0 => Nat.le_refl _
  | t + 1 => by
    have ih := held_cap h t
    have l : lenAt ss t ≤ 12 := by
      unfold lenAt
      rw [List.getD_eq_getElem?_getD]
      cases c : ss[t]? with
      | none => exact Nat.zero_le _
      | some ls => exact h ls (List.mem_of_getElem? c)
    show heldN ss t + lenAt ss t - 1 ≤ _
    omega

/-! ### waits told, and the longest of the soonest stream -/
section
variable {rs : List Rw} {ss : Strm} {bot : Int}
theorem pop_in {t : Nat} {c : Cel} (e : popC rs ss t = some c) : ∃ u l, u ≤ t ∧ l ∈ ss.getD u [] ∧ c = (kindOf rs l, (u : Int), (l : Int)) := by
  obtain ⟨cin, _, _⟩ := pop_some (show popO (heldC rs ss t ++ arrC rs ss t) = some c from e)
  have key : ∀ u, c ∈ arrC rs ss u → u ≤ t → ∃ u l, u ≤ t ∧ l ∈ ss.getD u [] ∧ c = (kindOf rs l, (u : Int), (l : Int)) := fun u hu h => by
    obtain ⟨l, hl, rfl⟩ := List.mem_map.mp hu
    exact ⟨u, l, h, hl, rfl⟩
  rcases List.mem_append.mp cin with w | w
  · rw [show t = 0 + t by omega] at w
    rcases held_from t w with w | ⟨u, h1, h2, h3⟩
    · cases w
    · exact key u h3 (by omega)
  · exact key t w (Nat.le_refl _)
def waitsC (rs : List Rw) (ss : Strm) : Nat → List Cel
  | 0 => []
  | t + 1 => waitsC rs ss t ++ (match popC rs ss t with
    | none => []
    | some c => [(c.2.1, c.2.2, (t : Int) - c.2.1)])
theorem waits_mem {x : Cel} : ∀ n, x ∈ waitsC rs ss n ↔ ∃ t c, t < n ∧ popC rs ss t = some c ∧ x = (c.2.1, c.2.2, (t : Int) - c.2.1)
  | 0 => ⟨fun h => (by cases h), fun ⟨t, _, h, _⟩ => (by omega)⟩
  | n + 1 => by
    show x ∈ waitsC rs ss n ++ _ ↔ _
    rw [List.mem_append, waits_mem n]
    constructor
    · rintro (⟨t, c, h1, h2, h3⟩ | h)
      · exact ⟨t, c, by omega, h2, h3⟩
      · cases e : popC rs ss n with
        | none => rw [e] at h; cases h
        | some c =>
          rw [e] at h
          exact ⟨n, c, by omega, e, List.mem_singleton.mp h⟩
    · rintro ⟨t, c, h1, h2, h3⟩
      by_cases z : t = n
      · subst z
        rw [h2]
        exact .inr (List.mem_singleton.mpr h3)
      · exact .inl ⟨t, c, by omega, h2, h3⟩
theorem waits_len : ∀ n, (waitsC rs ss n).length ≤ n
  | 0 => Nat.le_refl _
  | n + 1 => by
    have ih := waits_len n
    show (waitsC rs ss n ++ _).length ≤ _
    rw [List.length_append]
    cases popC rs ss n with
    | none => exact Nat.le_succ_of_le ih
    | some c => exact Nat.succ_le_succ ih
theorem held_stay {s : Nat} {x : Cel} : ∀ n, x ∈ heldC rs ss s → x ∈ heldC rs ss (s + n) ∨ ∃ u, s ≤ u ∧ u < s + n ∧ popC rs ss u = some x
  | 0, h => .inl h
  | n + 1, h => by
    rcases held_stay n h with w | ⟨u, h1, h2, h3⟩
    · rcases nxt_stay (List.mem_append_left (arrC rs ss (s + n)) w) with z | z
      · exact .inl z
      · exact .inr ⟨s + n, by omega, by omega, z⟩
    · exact .inr ⟨u, h1, by omega, h3⟩
theorem count_cap (p : Cel → Bool) : ∀ n, smF (fun u => (arrC rs ss u).countP p) 0 n ≤ (heldC rs ss n).countP p + n
  | 0 => Nat.zero_le _
  | n + 1 => by
    have ih := count_cap p n
    show smF (fun u => (arrC rs ss u).countP p) 0 n + (arrC rs ss (0 + n)).countP p ≤ (nxt (heldC rs ss n ++ arrC rs ss n)).countP p + (n + 1)
    rw [Nat.zero_add]
    cases e : popO (heldC rs ss n ++ arrC rs ss n) with
    | none =>
      have z := pop_none e
      have z2 : arrC rs ss n = [] := (List.append_eq_nil_iff.mp z).2
      have z1 : heldC rs ss n = [] := (List.append_eq_nil_iff.mp z).1
      rw [z1] at ih
      rw [z2]
      have ih : smF (fun u => (arrC rs ss u).countP p) 0 n ≤ 0 + n := ih
      have e0 : ([] : List Cel).countP p = 0 := rfl
      rw [e0]
      omega
    | some c =>
      have q := (pop_some e).2.2 p
      rw [List.countP_append] at q
      by_cases w : p c = true
      · rw [if_pos w] at q; omega
      · rw [if_neg w] at q; omega
/-- the last of its kind to go -/
theorem last_pop (W : Cel → Prop) : ∀ T, (∃ t c, t < T ∧ popC rs ss t = some c ∧ W c) → ∃ t c, t < T ∧ popC rs ss t = some c ∧ W c ∧ ∀ u x, t < u → u < T → popC rs ss u = some x → ¬ W x
  | 0, ⟨t, _, h, _⟩ => by omega
  | T + 1, ⟨t, c, h1, h2, h3⟩ => by
    by_cases q : ∃ x, popC rs ss T = some x ∧ W x
    · obtain ⟨x, e, w⟩ := q
      exact ⟨T, x, by omega, e, w, fun u _ g1 g2 => by omega⟩
    · have tn : t ≠ T := fun z => by
        subst z
        exact q ⟨c, h2, h3⟩
      obtain ⟨t', c', g1, g2, g3, g4⟩ := last_pop W T ⟨t, c, by omega, h2, h3⟩
      refine ⟨t', c', by omega, g2, g3, fun u x k1 k2 k3 w => ?_⟩
      by_cases z : u = T
      · subst z
        exact q ⟨x, k3, w⟩
      · exact g4 u x k1 (by omega) k3 w
/-- the soonest stream of so many beats: a cell of the kind waits so long -/
theorem wait_at {k : Int} {m d : Nat} (rok : RowsOk bot rs) (one : ownR rs k ≠ []) (t1 : topsS (lesR rs k) < bot) (t2 : topsS (lesR rs k) + topsS (ownR rs k) ≤ bot) (h : IsEnd (sumO bot (ownR rs k)) (sumO bot (lesR rs k)) d m) (d1 : 1 ≤ d)
    (first : ∀ d' e', 1 ≤ d' → d' < d → IsEnd (sumO bot (ownR rs k)) (sumO bot (lesR rs k)) d' e' → (e' : Int) - (d' : Int) < (m : Int) - (d : Int)) :
    ∃ t c, t < m + heldN (sooS bot rs m) m ∧ popC rs (sooS bot rs m) t = some c ∧ c.1 = k ∧ (m : Int) - (d : Int) ≤ (t : Int) - c.2.1 := by
  have gen := some_ok rok.ok
  have oo : ∀ r ∈ ownR rs k, RowOk bot (some r) := fun r hr => gen r (List.mem_filter.mp hr).1
  have ol : ∀ r ∈ lesR rs k, RowOk bot (some r) := fun r hr => gen r (List.mem_filter.mp hr).1
  have few : (ownR rs k).length + (lesR rs k).length ≤ 12 := by
    have key : ∀ l : List (Int × Int × Int), (l.filter fun r => decide (r.2.2 = k)).length + (l.filter fun r => decide (r.2.2 < k)).length ≤ l.length := fun l => by
      induction l with
      | nil => exact Nat.le_refl _
      | cons r l ih =>
        by_cases c1 : r.2.2 = k
        · rw [List.filter_cons_of_pos (p := fun r : Int × Int × Int => decide (r.2.2 = k)) (decide_eq_true c1), List.filter_cons_of_neg (p := fun r : Int × Int × Int => decide (r.2.2 < k)) (by rw [decide_eq_true_eq]; omega), List.length_cons, List.length_cons]
          omega
        · rw [List.filter_cons_of_neg (p := fun r : Int × Int × Int => decide (r.2.2 = k)) (by rw [decide_eq_true_eq]; exact c1)]
          by_cases c2 : r.2.2 < k
          · rw [List.filter_cons_of_pos (p := fun r : Int × Int × Int => decide (r.2.2 < k)) (decide_eq_true c2), List.length_cons, List.length_cons]
            omega
          · rw [List.filter_cons_of_neg (p := fun r : Int × Int × Int => decide (r.2.2 < k)) (by rw [decide_eq_true_eq]; exact c2), List.length_cons]
            omega
    have l1 : (someR rs).length ≤ 12 := Nat.le_trans (List.length_filterMap_le _ _) rok.few
    have := key (someR rs)
    unfold ownR lesR
    omega
  obtain ⟨ss, es⟩ : ∃ ss, sooS bot rs m = ss := ⟨_, rfl⟩
  have lss : ss.length = m := by rw [← es, soo_len]
  have live : ∀ ls ∈ ss, ∀ l ∈ ls, ∃ r, rs.getD l none = some r := by rw [← es]; exact soo_live
  have cxO : ∀ n, n ≤ m → (cx (maskS (fun r => decide (r.2.2 = k)) rs ss) n n : Int) = sumO bot (ownR rs k) n := fun n hn => by
    rw [← es, soo_mask, cx_soo (mask_ok rok) n hn, mask_some]
    rfl
  have cxL : ∀ n, n ≤ m → (cx (maskS (fun r => decide (r.2.2 < k)) rs ss) n n : Int) = sumO bot (lesR rs k) n := fun n hn => by
    rw [← es, soo_mask, cx_soo (mask_ok rok) n hn, mask_some]
    rfl
  rw [es]
  have dm := h.le
  have smO : ∀ n, n ≤ m → (smF (fun u => (arrC rs ss u).countP fun x => decide (x.1 = k)) 0 n : Int) = sumO bot (ownR rs k) n := fun n hn => by
    rw [← cxO n hn]
    have z := cx_sm (ss := maskS (fun r => decide (r.2.2 = k)) rs ss) 0 n
    rw [Nat.zero_add] at z
    rw [z]
    congr 2
    funext u
    exact arr_kind (fun q => decide (q = k)) live
  have smL : ∀ n, n ≤ m → (smF (fun u => (arrC rs ss u).countP fun x => decide (x.1 < k)) 0 n : Int) = sumO bot (lesR rs k) n := fun n hn => by
    rw [← cxL n hn]
    have z := cx_sm (ss := maskS (fun r => decide (r.2.2 < k)) rs ss) 0 n
    rw [Nat.zero_add] at z
    rw [z]
    congr 2
    funext u
    exact arr_kind (fun q => decide (q < k)) live
  have O1 : 1 ≤ sumO bot (ownR rs k) d := by
    obtain ⟨r0, hr0⟩ : ∃ r, r ∈ ownR rs k := by
      cases c : ownR rs k with
      | nil => exact absurd c one
      | cons r l => exact ⟨r, List.mem_cons_self⟩
    have nn : ∀ l : List (Int × Int × Int), (∀ r ∈ l, RowOk bot (some r)) → r0 ∈ l → 1 ≤ sumO bot l d := fun l => by
      induction l with
      | nil => intro _ z; cases z
      | cons r l ih =>
        intro hl hr
        have e : sumO bot (r :: l) d = sent1 bot (d : Int) r + sumO bot l d := by
          unfold sumO
          rw [List.map_cons, List.sum_cons]
        have g := sent_nn (n := (d : Int)) (hl r List.mem_cons_self) rok.b1 (by omega)
        have g : 0 ≤ sent1 bot (d : Int) r := g
        rw [e]
        rcases List.mem_cons.mp hr with z | z
        · subst z
          obtain ⟨⟨b1, _⟩, ⟨t0, _⟩, _⟩ := hl r0 List.mem_cons_self
          have q : 1 ≤ sent1 bot (d : Int) r0 := by
            show 1 ≤ mn (d : Int) (r0.1 + r0.2.1 * (d : Int) / bot)
            have q0 : 0 ≤ r0.2.1 * (d : Int) / bot := Int.ediv_nonneg (Int.mul_nonneg t0 (by omega)) (by have := rok.b1; omega)
            rw [le_mn]
            exact ⟨by omega, by omega⟩
          have nn0 : 0 ≤ sumO bot l d := by
            unfold sumO
            clear ih
            have hl2 : ∀ r ∈ l, RowOk bot (some r) := fun q hq => hl q (List.mem_cons_of_mem _ hq)
            clear hl hr e g
            induction l with
            | nil => exact Int.le_refl _
            | cons r l ih =>
              rw [List.map_cons, List.sum_cons]
              have g := sent_nn (n := (d : Int)) (hl2 r List.mem_cons_self) rok.b1 (by omega)
              exact Int.add_nonneg g (ih fun q hq => hl2 q (List.mem_cons_of_mem _ hq))
          omega
        · have := ih (fun q hq => hl q (List.mem_cons_of_mem _ hq)) z
          omega
    exact nn _ oo hr0
  obtain ⟨T, eT⟩ : ∃ T, m + heldN ss m = T := ⟨_, rfl⟩
  have empty : heldC rs ss T = [] := by
    have z := heldC_len (rs := rs) (ss := ss) T
    have hz : heldN ss T = 0 := by
      have q := held_len (ss := ss) (heldN ss m)
      rw [lss, eT] at q
      rw [q]
      omega
    rw [hz] at z
    exact List.eq_nil_of_length_eq_zero z
  have gone : ∀ u x, u < T → x ∈ arrC rs ss u → ∃ v, u ≤ v ∧ v < T ∧ popC rs ss v = some x := fun u x hu hx => by
    rcases nxt_stay (List.mem_append_right (heldC rs ss u) hx) with z | z
    · have z : x ∈ heldC rs ss (u + 1) := z
      rcases held_stay (T - (u + 1)) z with w | ⟨v, g1, g2, g3⟩
      · rw [show u + 1 + (T - (u + 1)) = T by omega, empty] at w
        cases w
      · exact ⟨v, by omega, by omega, g3⟩
    · exact ⟨u, Nat.le_refl _, hu, z⟩
  rw [eT]
  have mT : m ≤ T := by omega
  -- one there is
  have some_ : ∃ t c, t < T ∧ popC rs ss t = some c ∧ (c.1 = k ∧ c.2.1 < (d : Int)) := by
    have q := smO d dm
    have pos : ∃ u, u < d ∧ 0 < (arrC rs ss u).countP fun x => decide (x.1 = k) := by
      have key : ∀ (f : Nat → Nat) (n : Nat), 0 < smF f 0 n → ∃ u, u < n ∧ 0 < f u := fun f n => by
        induction n with
        | zero => intro z; exact absurd z (Nat.lt_irrefl _)
        | succ n ih =>
          intro z
          have z : 0 < smF f 0 n + f (0 + n) := z
          rw [Nat.zero_add] at z
          by_cases c : 0 < f n
          · exact ⟨n, by omega, c⟩
          · obtain ⟨u, g1, g2⟩ := ih (by omega)
            exact ⟨u, by omega, g2⟩
      exact key _ d (by omega)
    obtain ⟨u, hu, hp⟩ := pos
    obtain ⟨x, hx, px⟩ := List.countP_pos_iff.mp hp
    obtain ⟨v, g1, g2, g3⟩ := gone u x (by omega) hx
    have hb := arr_beat hx
    exact ⟨v, x, g2, g3, of_decide_eq_true px, by omega⟩
  obtain ⟨t, c, tT, ep, ⟨ck, cd⟩, last⟩ := last_pop (fun x => x.1 = k ∧ x.2.1 < (d : Int)) T some_
  refine ⟨t, c, tT, ep, ck, ?_⟩
  obtain ⟨_, low, _⟩ := pop_some (show popO (heldC rs ss t ++ arrC rs ss t) = some c from ep)
  have none_ : (heldC rs ss (t + 1)).countP (fun x => decide (x.1 < k ∨ (x.1 = k ∧ x.2.1 < (d : Int)))) = 0 := List.countP_eq_zero.mpr fun x hx w => by
    rcases of_decide_eq_true w with w | w
    · have := leC_iff.mp (low x (nxt_mem hx))
      omega
    · rcases held_stay (T - (t + 1)) hx with z | ⟨u, g1, g2, g3⟩
      · rw [show t + 1 + (T - (t + 1)) = T by omega, empty] at z
        cases z
      · exact last u x (by omega) (by omega) g3 w
  have cap := count_cap (rs := rs) (ss := ss) (fun x => decide (x.1 < k ∨ (x.1 = k ∧ x.2.1 < (d : Int)))) (t + 1)
  rw [none_, Nat.zero_add] at cap
  have split : ∀ u, (arrC rs ss u).countP (fun x => decide (x.1 < k ∨ (x.1 = k ∧ x.2.1 < (d : Int)))) = (arrC rs ss u).countP (fun x => decide (x.1 < k)) + (if u < 0 + d then (arrC rs ss u).countP (fun x => decide (x.1 = k)) else 0) := fun u => by
    have key : ∀ l : List Cel, (∀ x ∈ l, x.2.1 = (u : Int)) → l.countP (fun x => decide (x.1 < k ∨ (x.1 = k ∧ x.2.1 < (d : Int)))) = l.countP (fun x => decide (x.1 < k)) + (if u < 0 + d then l.countP (fun x => decide (x.1 = k)) else 0) := fun l => by
      induction l with
      | nil => intro _; split <;> rfl
      | cons y l ih =>
        intro hl
        have ih := ih fun x hx => hl x (List.mem_cons_of_mem _ hx)
        have hy := hl y List.mem_cons_self
        rw [List.countP_cons, List.countP_cons, List.countP_cons, ih]
        by_cases c1 : y.1 < k
        · rw [if_pos (decide_eq_true (.inl c1)), if_pos (show decide (y.1 < k) = true from decide_eq_true c1), if_neg (show ¬ decide (y.1 = k) = true by rw [decide_eq_true_eq]; omega)]
          split <;> omega
        · rw [if_neg (show ¬ decide (y.1 < k) = true by rw [decide_eq_true_eq]; exact c1)]
          by_cases c2 : y.1 = k
          · rw [if_pos (show decide (y.1 = k) = true from decide_eq_true c2)]
            by_cases c3 : u < 0 + d
            · rw [if_pos c3, if_pos c3, if_pos (decide_eq_true (.inr ⟨c2, by omega⟩))]
              omega
            · rw [if_neg c3, if_neg c3, if_neg (show ¬ decide (y.1 < k ∨ (y.1 = k ∧ y.2.1 < (d : Int))) = true by rw [decide_eq_true_eq]; omega)]
          · rw [if_neg (show ¬ decide (y.1 = k) = true by rw [decide_eq_true_eq]; exact c2), if_neg (show ¬ decide (y.1 < k ∨ (y.1 = k ∧ y.2.1 < (d : Int))) = true by rw [decide_eq_true_eq]; omega)]
            split <;> omega
    exact key _ fun x hx => arr_beat hx
  have capE : smF (fun u => (arrC rs ss u).countP (fun x => decide (x.1 < k))) 0 (t + 1) + smF (fun u => if u < 0 + d then (arrC rs ss u).countP (fun x => decide (x.1 = k)) else 0) 0 (t + 1) ≤ t + 1 := by
    rw [← sm_add]
    have e : (fun u => (arrC rs ss u).countP (fun x => decide (x.1 < k ∨ (x.1 = k ∧ x.2.1 < (d : Int))))) = fun i => (arrC rs ss i).countP (fun x => decide (x.1 < k)) + (if i < 0 + d then (arrC rs ss i).countP (fun x => decide (x.1 = k)) else 0) := funext split
    rw [← e]
    exact cap
  suffices hm : m ≤ t + 1 by omega
  rcases Nat.lt_or_ge (t + 1) m with lt | ge
  · exfalso
    have sL := smL (t + 1) (by omega)
    by_cases cd2 : d ≤ t + 1
    · rw [sm_cut (t + 1) cd2] at capE
      have sO := smO d dm
      have := h.low (t + 1) cd2 lt
      omega
    · -- all of them came by then
      have zero : ∀ u, t + 1 ≤ u → u < d → (arrC rs ss u).countP (fun x => decide (x.1 = k)) = 0 := fun u g1 g2 => List.countP_eq_zero.mpr fun x hx w => by
        obtain ⟨v, k1, k2, k3⟩ := gone u x (by omega) hx
        have hb := arr_beat hx
        exact last v x (by omega) k2 k3 ⟨of_decide_eq_true w, by omega⟩
      have keyS : ∀ n, t + 1 + n ≤ d → smF (fun u => (arrC rs ss u).countP fun x => decide (x.1 = k)) 0 (t + 1 + n) = smF (fun u => (arrC rs ss u).countP fun x => decide (x.1 = k)) 0 (t + 1) := fun n => by
        induction n with
        | zero => intro _; rfl
        | succ n ih =>
          intro hn
          show smF _ 0 (t + 1 + n) + (arrC rs ss (0 + (t + 1 + n))).countP _ = _
          rw [ih (by omega), Nat.zero_add, zero (t + 1 + n) (by omega) (by omega)]
          exact Nat.add_zero _
      have sO := smO d dm
      have sO2 := smO (t + 1) (by omega)
      have eO := keyS (d - (t + 1)) (by omega)
      rw [show t + 1 + (d - (t + 1)) = d by omega] at eO
      have full : smF (fun u => if u < 0 + d then (arrC rs ss u).countP (fun x => decide (x.1 = k)) else 0) 0 (t + 1) = smF (fun u => (arrC rs ss u).countP fun x => decide (x.1 = k)) 0 (t + 1) := by
        have : ∀ n, n ≤ d → smF (fun u => if u < 0 + d then (arrC rs ss u).countP (fun x => decide (x.1 = k)) else 0) 0 n = smF (fun u => (arrC rs ss u).countP fun x => decide (x.1 = k)) 0 n := fun n => by
          induction n with
          | zero => intro _; rfl
          | succ n ih =>
            intro hn
            show smF _ 0 n + (if 0 + n < 0 + d then _ else 0) = smF _ 0 n + _
            rw [ih (by omega), if_pos (by omega)]
        exact this (t + 1) (by omega)
      rw [full] at capE
      obtain ⟨e2, a2, _⟩ := end_there rok.b1 rok.b20 oo ol few t1 t2 (d - (t + 1))
      have f2 := first (d - (t + 1)) e2 (by omega) (by omega) a2
      have le2 := a2.le
      have fit2 := a2.fits
      have nnO : 0 ≤ sumO bot (ownR rs k) (d - (t + 1)) := by
        have z := sumO_mono (n := 0) (m := d - (t + 1)) rok.b1 oo (Nat.zero_le _)
        have z0 : sumO bot (ownR rs k) 0 = 0 := by
          have q := smO 0 (Nat.zero_le _)
          exact q.symm
        omega
      have sub := sumO_sub rok.b1 ol (t + 1) e2
      have least := h.least (x := t + 1 + e2) (by omega) (by omega)
      omega
  · exact ge
end

/-! ### cells on the heap -/
section
open PySem.W PyProof.Rows
def dC (c : Cel) : PyData := .tuple [.int c.1, .int c.2.1, .int c.2.2]
theorem dC_lt (x y : Cel) : dataLt (dC x) (dC y) = !leC y x := by
  have al : ∀ i j : Int, alike (.int i) (.int j) = true := fun i j => by simp [alike]
  unfold dC
  rw [dataLt_tuple, dataLt_cons (al _ _), dataLt_cons (al _ _), dataLt_cons (al _ _), dataLt_int, dataLt_int, dataLt_int, eqv_int, eqv_int, eqv_int]
  have e : PyProof.Rows.lexLt itemOrd (keyToksAll []) (keyToksAll []) = false := lex_irrefl _
  rw [e]
  unfold leC
  rw [Bool.eq_iff_iff, Bool.not_eq_true', decide_eq_false_iff_not]
  by_cases h1 : x.1 = y.1
  · rw [decide_eq_true h1, if_pos rfl]
    by_cases h2 : x.2.1 = y.2.1
    · rw [decide_eq_true h2, if_pos rfl]
      by_cases h3 : x.2.2 = y.2.2
      · rw [decide_eq_true h3, if_pos rfl]
        constructor
        · intro z; cases z
        · intro z; exfalso; apply z; omega
      · rw [decide_eq_false h3, if_neg Bool.false_ne_true, decide_eq_true_eq]
        omega
    · rw [decide_eq_false h2, if_neg Bool.false_ne_true, decide_eq_true_eq]
      omega
  · rw [decide_eq_false h1, if_neg Bool.false_ne_true, decide_eq_true_eq]
    omega
theorem min_dC : ∀ (xs : List Cel) (x : Cel), minD (dC x) (xs.map dC) = dC (minC x xs)
  | [], x => rfl
  | y :: xs, x => by
    show minD (if dataLt (dC y) (dC x) then dC y else dC x) (xs.map dC) = dC (minC (if leC x y = true then x else y) xs)
    rw [dC_lt]
    cases c : leC x y with
    | true =>
      rw [if_pos rfl]
      show minD (dC x) (xs.map dC) = _
      exact min_dC xs x
    | false =>
      rw [if_neg Bool.false_ne_true]
      show minD (dC y) (xs.map dC) = _
      exact min_dC xs y
theorem dC_inj {x y : Cel} (h : dC x = dC y) : x = y := by
  unfold dC at h
  injection h with h
  injection h with h1 h
  injection h with h2 h
  injection h with h3 h
  injection h1 with h1
  injection h2 with h2
  injection h3 with h3
  exact Prod.ext h1 (Prod.ext h2 h3)
theorem dC_eqv (x y : Cel) : PyData.eqv (dC x) (dC y) = decide (x = y) := by
  show (PyData.eqv (.int x.1) (.int y.1) && (PyData.eqv (.int x.2.1) (.int y.2.1) && (PyData.eqv (.int x.2.2) (.int y.2.2) && true))) = _
  rw [eqv_int, eqv_int, eqv_int, Bool.and_true]
  obtain ⟨a, b, c⟩ := x
  obtain ⟨a', b', c'⟩ := y
  by_cases h1 : a = a' <;> by_cases h2 : b = b' <;> by_cases h3 : c = c' <;> simp [h1, h2, h3]
/-- the first that is equal goes -/
theorem del_place {m : Cel} : ∀ {l : List Cel}, m ∈ l → ∃ j, PySem.SeqAt.dataPlace (l.map dC) (dC m) = some j ∧ j < l.length ∧ l.eraseIdx j = del m l
  | y :: ys, h => by
    unfold PySem.SeqAt.dataPlace
    rw [List.map_cons, List.findIdx?_cons, dC_eqv]
    by_cases c : y = m
    · rw [decide_eq_true c, if_pos rfl]
      exact ⟨0, rfl, Nat.succ_pos _, by show ys = (if y = m then ys else y :: del m ys); rw [if_pos c]⟩
    · rw [decide_eq_false c, if_neg Bool.false_ne_true]
      have h : m ∈ ys := by
        rcases List.mem_cons.mp h with e | e
        · exact absurd e.symm c
        · exact e
      obtain ⟨j, h1, h2, h3⟩ := del_place h
      unfold PySem.SeqAt.dataPlace at h1
      rw [h1]
      refine ⟨j + 1, rfl, Nat.succ_lt_succ h2, ?_⟩
      show y :: ys.eraseIdx j = (if y = m then ys else y :: del m ys)
      rw [if_neg c, h3]
end
theorem dC_alike (x y : Cel) : PySem.W.alike (dC x) (dC y) = true := rfl
theorem dC_lay (x : Cel) : Lay (dC x) 1 := Lay.tup fun z hz => by
  simp only [List.mem_cons, List.not_mem_nil, or_false] at hz
  rcases hz with e | e | e <;> subst e <;> exact Lay.int _
theorem dC_plain : ∀ l : List Cel, PyData.plainAll (l.map dC) = true
  | [] => rfl
  | x :: l => by
    show ((dC x).plain && PyData.plainAll (l.map dC)) = true
    rw [dC_plain l]
    rfl
def CelAt (H : Hp) (c : Cel) (v : V) : Prop := ∃ q, v = .ref q ∧ H q = some (.tup [.int c.1, .int c.2.1, .int c.2.2])
theorem CelAt.mv {H H' : Hp} (f : ∀ q xs, H q = some (.tup xs) → H' q = some (.tup xs)) {c : Cel} {v : V} (h : CelAt H c v) : CelAt H' c v := let ⟨q, e, e1⟩ := h; ⟨q, e, f _ _ e1⟩
theorem CelAt.same {H H' : Hp} {c : Cel} {v : V} (h : CelAt H c v) (s : Same H H') : CelAt H' c v := h.mv fun q xs e => s _ _ e
def celN (H : Hp) (r : Addr) : Cel := match H r with
  | some (.tup [.int a, .int b, .int c]) => (a, b, c)
  | _ => (0, 0, 0)
theorem celN_at {H : Hp} {r : Addr} {c : Cel} (e : H r = some (.tup [.int c.1, .int c.2.1, .int c.2.2])) : celN H r = c := by
  unfold celN
  rw [e]
theorem cel_refs {H : Hp} : ∀ {l : List Cel} {us : List V}, All2 (CelAt H) l us → ∃ rs : List Addr, us = rs.map V.ref ∧ rs.map (celN H) = l ∧ ∀ r ∈ rs, H r = some (.tup [.int (celN H r).1, .int (celN H r).2.1, .int (celN H r).2.2])
  | _, _, .nil => ⟨[], rfl, rfl, fun r h => absurd h List.not_mem_nil⟩
  | _, _, .cons ⟨q, e, e1⟩ t => by
    subst e
    obtain ⟨rs, h1, h2, h3⟩ := cel_refs t
    refine ⟨q :: rs, by rw [h1]; rfl, by rw [List.map_cons, h2, celN_at e1], fun r hr => ?_⟩
    rcases List.mem_cons.mp hr with z | z
    · subst z
      rw [celN_at e1]
      exact e1
    · exact h3 r z
theorem refs_cel {H : Hp} : ∀ {rs : List Addr}, (∀ r ∈ rs, H r = some (.tup [.int (celN H r).1, .int (celN H r).2.1, .int (celN H r).2.2])) → All2 (CelAt H) (rs.map (celN H)) (rs.map V.ref)
  | [], _ => .nil
  | r :: rs, h => .cons ⟨r, rfl, h r List.mem_cons_self⟩ (refs_cel fun q hq => h q (List.mem_cons_of_mem _ hq))
theorem cel_dp {K : PySem.W.Frag} {H : Hp} {c : Cel} {v : V} (h : CelAt H c v) : Dp K H v (dC c) := by
  obtain ⟨q, rfl, e⟩ := h
  exact .tup (SqT.of e) (.cons (.int _) (.cons (.int _) (.cons (.int _) .nil)))
theorem cels_dp {K : PySem.W.Frag} {H : Hp} {l : List Cel} {us : List V} (h : All2 (CelAt H) l us) : DpAll K H us (l.map dC) := dpAll_of (fun c v t => cel_dp t) h
theorem all2_erase {α β : Type} {R : α → β → Prop} : ∀ {as : List α} {bs : List β}, All2 R as bs → ∀ j, All2 R (as.eraseIdx j) (bs.eraseIdx j)
  | _, _, .nil, _ => .nil
  | _, _, .cons _ t, 0 => t
  | _, _, .cons h t, j + 1 => .cons h (all2_erase t j)
def CelsAt (H : Hp) (D : Addr) (l : List Cel) : Prop := ∃ us, H D = some (.lst us) ∧ All2 (CelAt H) l us
theorem CelsAt.same {H H' : Hp} {D : Addr} {l : List Cel} (t : CelsAt H D l) (s : Same H H') : CelsAt H' D l := let ⟨us, e, h⟩ := t; ⟨us, s _ _ e, h.imp fun _ _ t => t.same s⟩
theorem CelsAt.put {H : Hp} {D p : Addr} {l : List Cel} {xs zs : List V} (t : CelsAt H D l) (e : H p = some (.lst xs)) (ne : D ≠ p) : CelsAt (upd H p (.lst zs)) D l := let ⟨us, f, h⟩ := t; ⟨us, by rw [upd_ne ne]; exact f, h.imp fun _ _ t => t.mv fun q ys g => tup_put e g⟩
theorem CelsAt.add {H : Hp} {D : Addr} {l : List Cel} {c : Cel} {v : V} (t : CelsAt H D l) (hr : CelAt H c v) : ∃ xs, H D = some (.lst xs) ∧ xs.length = l.length ∧ CelsAt (upd H D (.lst (xs ++ [v]))) D (l ++ [c]) := by
  obtain ⟨us, e, h⟩ := t
  exact ⟨us, e, h.len.symm, us ++ [v], upd_same, (h.imp fun _ _ t => t.mv fun q ys g => tup_put e g).snoc (hr.mv fun q ys g => tup_put e g)⟩
theorem perm_all2 {α β : Type} {R : α → β → Prop} {ys xs : List β} (h : ys.Perm xs) : ∀ {as : List α}, All2 R as xs → ∃ bs, bs.Perm as ∧ All2 R bs ys := by
  induction h with
  | nil => intro as h; cases h; exact ⟨[], .nil, .nil⟩
  | cons x _ ih =>
    intro as h
    cases h with
    | cons a t =>
      obtain ⟨bs, h1, h2⟩ := ih t
      exact ⟨_, h1.cons _, .cons a h2⟩
  | swap x y l =>
    intro as h
    cases h with
    | cons a t => cases t with
      | cons b t => exact ⟨_, List.Perm.swap _ _ _, .cons b (.cons a t)⟩
  | trans _ _ ih1 ih2 =>
    intro as h
    obtain ⟨bs, h1, h2⟩ := ih2 h
    obtain ⟨cs, h3, h4⟩ := ih1 h2
    exact ⟨cs, h3.trans h1, h4⟩

def cntV (ss : Strm) (j : Nat) : List V := (List.range j).map fun i => V.int (heldN ss (i + 1) : Int)
theorem cntV_len {ss : Strm} {j : Nat} : (cntV ss j).length = j := by
  unfold cntV
  rw [List.length_map, List.length_range]
theorem cntV_snoc {ss : Strm} {j : Nat} : cntV ss (j + 1) = cntV ss j ++ [.int (heldN ss (j + 1) : Int)] := by
  unfold cntV
  rw [List.range_succ, List.map_append]
  rfl
section
variable {P : Program} {w : World} {K : PySem.W.Frag} {mg : Str → Option Value} {base : Heap} {A : Adr}
/-- the state of a play -/
structure PlayAt (H0 H : Hp) (D W C : Addr) (ss : Strm) (hl wl : List Cel) (j : Nat) : Prop where
  same : Same H0 H
  d0 : H0 D = none
  w0 : H0 W = none
  c0 : H0 C = none
  dw : D ≠ W
  dc : D ≠ C
  wc : W ≠ C
  held : CelsAt H D hl
  waits : CelsAt H W wl
  counts : H C = some (.lst (cntV ss j))
theorem PlayAt.go {H0 H H' : Hp} {D W C : Addr} {ss : Strm} {hl wl : List Cel} {j : Nat} (p : PlayAt H0 H D W C ss hl wl j) (s : Same H H') : PlayAt H0 H' D W C ss hl wl j := ⟨p.same.trans s, p.d0, p.w0, p.c0, p.dw, p.dc, p.wc, p.held.same s, p.waits.same s, s _ _ p.counts⟩
def spPlayed : Sp := fun vs H Q _ => ∃ (a b : Addr) (bot : Int) (rs : List Rw) (ss : Strm), vs = [.ref a, .ref b] ∧ RowsAt H a rs ∧ RowsOk bot rs ∧ StrmAt H b ss ∧ (∀ ls ∈ ss, LotOk rs.length ls) ∧ (∀ ls ∈ ss, ∀ l ∈ ls, ∃ r, rs.getD l none = some r) ∧ ss.length ≤ 6000 ∧
  ∀ (H' : Hp) (p x : Addr) (c : V) (ws : List Cel), Same H H' → H' p = some (.tup [c, .ref x]) → CelsAt H' x ws → ws.Perm (waitsC rs ss (ss.length + heldN ss ss.length)) → ws.length ≤ 78000 → Q (.ref p) H'
theorem ok_law_played (T : Top K mg A) : FnOk P w K mg base CX0 1 A.a_law_played A.d_law_played P_law_played spPlayed := by
  refine T.F_law_played.ok sc_law_played (fun vs H Q E h => ?_) (fun cdv A' outer s H vs Q E hr h => ?_)
  · obtain ⟨a, b, bot, rs, ss, rfl, _⟩ := h
    rfl
  · obtain ⟨a, b, bot, rs, ss, rfl, ⟨xs, ea, alr⟩, ok, ⟨vs, eb, al⟩, sok, live, hm, k⟩ := h
    refine ⟨_, (pss_cons (ps_asg (pe_tup (pa_cons (pe_lst pa_nil) (pa_cons (pe_lst pa_nil) (pa_cons (pe_lst pa_nil) (pa_cons pe_int pa_nil))))) (pg_tup rfl (pgs_cons (pg_name (i := 2) sc_law_played.nd rfl (.inl rfl)) (pgs_cons (pg_name (i := 3) sc_law_played.nd rfl (.inl rfl)) (pgs_cons (pg_name (i := 4) sc_law_played.nd rfl (.inl rfl)) (pgs_cons (pg_name (i := 5) sc_law_played.nd rfl (.inr rfl)) pgs_nil))))))
    (pss_cons (ps_while PassesOwn.never (PW.pt (pw_or (pt_cmpR op_lt (pv 5) (pe_callB call_len_seq (by rfl) T.z_len (by decide +kernel) (pa_cons (pv 1) pa_nil)) (nomark _)) (pw_or1 (pt_cmpR op_gt (pe_callB call_len_seq (by rfl) T.z_len (by decide +kernel) (pa_cons (pv 2) pa_nil)) pe_int (nomark _))))) (Evl.pss_cut (ps_if (pt_cmpR op_lt (pv 5) (pe_callB call_len_seq (by rfl) T.z_len (by decide +kernel) (pa_cons (pv 1) pa_nil)) (nomark _)) (pss_one (ps_set (i := 2) sc_law_played.nd rfl (.inl rfl) (pe_op op_cat (pv 2) (pe_lc (own := [("_law_line", 7)]) (by rfl) sc_law_played.nd (pi_tup (pe_ix ix_tup (pv 1) (pv 5) (fun _ _ => rfl))) (blkOk_by (own := [("_law_line", 7)]) (N := N_law_played) (sc := defScope s_law_played) (by decide +kernel)) (fun _ _ _ _ _ => (pg_name (i := 7) sc_law_played.nd rfl (.inl rfl))) (fun _ _ _ _ _ => pts_nil) (fun _ _ _ _ _ => (pe_tup (pa_cons (pe_ix (show IxR _ (rIxT K) from ix_tup) (pe_ix (show IxR _ (rIxT K) from ix_tup) (pv 0) (pv 7) (fun _ _ => rfl)) pe_int (fun _ _ => rfl)) (pa_cons (pv 5) (pa_cons (pv 7) pa_nil))))))))) pss_nil)
    (Evl.pss_cut (ps_if (pt_cmpR op_gt (pe_callB call_len_seq (by rfl) T.z_len (by decide +kernel) (pa_cons (pv 2) pa_nil)) pe_int (nomark _)) (pss_cons (ps_set (i := 6) sc_law_played.nd rfl (.inl rfl) (pe_callB (GV.cr_minD rfl hr.units) (by rfl) T.z_min (by decide +kernel) (pa_cons (pv 2) pa_nil)))
    (pss_cons (ps_expr (pe_bm PySem.F.plainAttrs_list PySem.F.slot_list_remove PySem.F.type_list_remove (GRm.mt_removeD hr.units) (pv 2) (pa_cons (pv 6) pa_nil)))
    (pss_one (ps_expr (pe_bm PySem.F.plainAttrs_list PySem.F.slot_list_append PySem.F.type_list_append mt_append (pv 3) (pa_cons (pe_tup (pa_cons (pe_ix ix_tup (pv 6) pe_int (fun _ _ => rfl)) (pa_cons (pe_ix ix_tup (pv 6) pe_int (fun _ _ => rfl)) (pa_cons (pe_op op_sub (pv 5) (pe_ix ix_tup (pv 6) pe_int (fun _ _ => rfl))) pa_nil)))) pa_nil)))))) pss_nil)
    (pss_cons (ps_expr (pe_bm PySem.F.plainAttrs_list PySem.F.slot_list_append PySem.F.type_list_append mt_append (pv 4) (pa_cons (pe_callB call_len_seq (by rfl) T.z_len (by decide +kernel) (pa_cons (pv 2) pa_nil)) pa_nil)))
    (pss_one (ps_set (i := 5) sc_law_played.nd rfl (.inr rfl) (pe_op op_add (pv 5) pe_int)))))))
    (pss_one (ps_ret (pe_tup (pa_cons (pe_callTy call_tuple_of (by rfl) T.z_tuple (by decide +kernel) (pa_cons (pv 4) pa_nil)) (pa_cons (pe_callB (GD.cr_sortD hr.units) (by rfl) T.z_sorted (by decide +kernel) (pa_cons (pv 3) pa_nil)) pa_nil))))))), ?_⟩
    have lv := al.len
    have lx := alr.len
    have few := ok.few
    have len12 : ∀ ls ∈ ss, ls.length ≤ 12 := fun ls h => Nat.le_trans (nd_len_lt (sok ls h).1 (sok ls h).2) few
    have cap := held_cap len12
    have capL := cap ss.length
    refine ⟨by show 0 ≤ sizeLine; decide, fun D nD => ⟨by show 0 ≤ sizeLine; decide, fun W nW => ⟨by show 0 ≤ sizeLine; decide, fun C nC => ⟨by show 4 ≤ sizeLine; decide, fun t nt => ?_⟩⟩⟩⟩
    obtain ⟨G1, eH, s1, e1⟩ := newH nD (o := .lst [])
    rw [eH] at nW nC nt ⊢
    clear eH
    obtain ⟨G2, eH, s2, e2⟩ := newH nW (o := .lst [])
    rw [eH] at nC nt ⊢
    clear eH
    obtain ⟨G3, eH, s3, e3⟩ := newH nC (o := .lst [])
    rw [eH] at nt ⊢
    clear eH
    obtain ⟨G4, eH, s4, e4⟩ := newH nt (o := .tup [.ref D, .ref W, .ref C, .int 0])
    rw [eH]
    clear eH
    have pl0 : PlayAt H G4 D W C ss [] [] 0 := by
      refine ⟨((s1.trans s2).trans s3).trans s4, nD, s1.free nW, s1.free (s2.free nC), ?_, ?_, ?_, ⟨[], s4 _ _ (s3 _ _ (s2 _ _ e1)), .nil⟩, ⟨[], s4 _ _ (s3 _ _ e2), .nil⟩, s4 _ _ e3⟩
      · exact ne_of_none e1 nW
      · exact ne_of_none (s2 _ _ e1) nC
      · exact ne_of_none e2 nC
    refine ⟨t, _, rfl, SqT.of e4, rfl, _, _, rfl, _, _, rfl, _, _, rfl, _, _, rfl, rfl, ?_⟩
    clear nt e4 s1 s2 s3 s4 e1 e2 e3 nD nW nC
    refine ⟨fun m σ H' => ∃ (j : Nat) (D : Addr) (y6 y7 : Option V), σ = [some (.ref a), some (.ref b), some (.ref D), some (.ref W), some (.ref C), some (.int (j : Int)), y6, y7] ∧ PlayAt H H' D W C ss (heldC rs ss j) (waitsC rs ss j) j ∧ j ≤ ss.length + heldN ss ss.length ∧ m = ss.length + heldN ss ss.length - j, ⟨_, 0, D, _, _, rfl, pl0, Nat.zero_le _, rfl⟩, ?_⟩
    clear pl0
    rintro m σ H1 ⟨j, D, y6, y7, rfl, pl, hj, rfl⟩
    have hnw := waits_len (rs := rs) (ss := ss) j
    have b1 := pl.same _ _ eb
    refine ⟨_, rfl, _, rfl, b, vs, rfl, .inr (SqT.of b1), _, _, rfl, rfl, _, rfl, ?_⟩
    obtain ⟨us0, eD0, htri0⟩ := pl.held
    have hl0 : us0.length = heldN ss j := by rw [← htri0.len, heldC_len]
    have hcase : (j : Int) < (vs.length : Int) ∨ (¬ (j : Int) < (vs.length : Int) ∧ (us0.length : Int) > 0) ∨ (¬ (j : Int) < (vs.length : Int) ∧ ¬ (us0.length : Int) > 0) := by omega
    have heldj : ss.length ≤ j → heldN ss j = heldN ss ss.length - (j - ss.length) := fun z => by
      have w := held_len (ss := ss) (j - ss.length)
      rw [show ss.length + (j - ss.length) = j by omega] at w
      exact w
    rcases hcase with c | c | c
    rotate_left 2
    · obtain ⟨c, c2⟩ := c
      rw [decide_eq_false c]
      refine iteF ⟨_, rfl, D, _, rfl, .inl (SqL.of eD0), _, _, rfl, rfl, _, rfl, ?_⟩
      rw [decide_eq_false c2]
      refine iteF ?_
      rw [hl0] at c2
      have hz := heldj (by omega)
      have jT : j = ss.length + heldN ss ss.length := by omega
      refine ⟨_, rfl, C, _, rfl, .inl ⟨SqL.of pl.counts, fun q nq => ?_⟩⟩
      obtain ⟨G1, eH, s1, e1⟩ := newH nq (o := .tup (cntV ss j))
      rw [eH]
      clear eH
      obtain ⟨us, eW, alw⟩ := pl.waits.same s1
      obtain ⟨ws, eu, ews, wtri⟩ := cel_refs alw
      subst eu
      refine ⟨_, rfl, ?_⟩
      refine ⟨W, ws, fun r => dC (celN G1 r), rfl, SqL.of eW, fun r hr => cel_dp ⟨r, rfl, wtri r hr⟩, fun r s => dC_alike _ _, fun r => ⟨_, _, rfl⟩, fun r => Nat.le_trans (dC_lay _).dep (by decide), fun q2 nq2 => ?_⟩
      obtain ⟨rs2, ers⟩ : ∃ rs2, ws.mergeSort (PySem.W.dataLe false fun r => dC (celN G1 r)) = rs2 := ⟨_, rfl⟩
      have hperm : rs2.Perm ws := by rw [← ers]; exact List.mergeSort_perm _ _
      rw [ers]
      obtain ⟨G2, eH, s2, e2⟩ := newH nq2 (o := .lst (rs2.map V.ref))
      rw [eH]
      clear eH
      refine ⟨by show 2 ≤ sizeLine; decide, fun p np => ?_⟩
      have s3 := same_upd np (o := .tup [.ref q, .ref q2])
      have alr2 : All2 (CelAt G1) (rs2.map (celN G1)) (rs2.map V.ref) := refs_cel fun r hr => wtri r (hperm.mem_iff.mp hr)
      have pm : (rs2.map (celN G1)).Perm (waitsC rs ss j) := by
        rw [← ews]
        exact hperm.map _
      refine k _ p q2 (.ref q) (rs2.map (celN G1)) (((pl.same.trans s1).trans s2).trans s3) upd_same ⟨_, s3 _ _ e2, alr2.imp fun _ _ t => (t.same s2).same s3⟩ (by rw [← jT]; exact pm) ?_
      rw [pm.length_eq]
      omega
    all_goals
      have jT : j < ss.length + heldN ss ss.length := by
        first
          | exact Nat.lt_of_lt_of_le (show j < ss.length by omega) (Nat.le_add_right _ _)
          | (have hz := heldj (by omega)
             have c2 := c.2
             rw [hl0] at c2
             omega)
      first
        | (rw [decide_eq_true c]
           refine iteT ?_)
        | (rw [decide_eq_false c.1]
           refine iteF ⟨_, rfl, D, _, rfl, .inl (SqL.of eD0), _, _, rfl, rfl, _, rfl, ?_⟩
           rw [decide_eq_true c.2]
           refine iteT ?_)
      clear c eD0 htri0 hl0 heldj b1
      refine ⟨fun σ H' => ∃ (j' : Nat) (D' : Addr) (y6 y7 : Option V), σ = [some (.ref a), some (.ref b), some (.ref D'), some (.ref W), some (.ref C), some (.int (j' : Int)), y6, y7] ∧ PlayAt H H' D' W C ss (heldC rs ss j') (waitsC rs ss j') j' ∧ j' ≤ ss.length + heldN ss ss.length ∧ ss.length + heldN ss ss.length - j' < ss.length + heldN ss ss.length - j, fun σ' H' ⟨j', D', y6, y7, e1, e2, e4, e5⟩ => ⟨_, e5, j', D', y6, y7, e1, e2, e4, rfl⟩, ?_⟩
      refine ⟨fun σ H' => ∃ (D' : Addr) (y6 y7 : Option V), σ = [some (.ref a), some (.ref b), some (.ref D'), some (.ref W), some (.ref C), some (.int (j : Int)), y6, y7] ∧ PlayAt H H' D' W C ss (heldC rs ss j ++ arrC rs ss j) (waitsC rs ss j) j, ?_, ?_⟩
      · have b1 := pl.same _ _ eb
        refine ⟨_, rfl, _, rfl, b, vs, rfl, .inr (SqT.of b1), _, _, rfl, rfl, _, rfl, ?_⟩
        by_cases c : (j : Int) < (vs.length : Int)
        · rw [decide_eq_true c]
          obtain ⟨ls, hls⟩ : ∃ ls, ss[j]? = some ls := ⟨_, List.getElem?_eq_getElem (by omega)⟩
          have lm := List.mem_of_getElem? hls
          obtain ⟨lv', hlv, q, rfl, hq⟩ := al.getL hls
          have hq1 := pl.same _ _ hq
          have earr : arrC rs ss j = ls.map fun l => (kindOf rs l, (j : Int), (l : Int)) := by
            unfold arrC
            rw [getD_some hls]
          have l12 := len12 ls lm
          have capj := cap j
          refine iteT ⟨_, rfl, _, rfl, _, rfl, b, vs, _, _, rfl, rfl, SqT.of b1, atI_nat hlv, q, rfl, ⟨_, SqT.of hq1⟩, fun B nB => ?_⟩
          refine lc_tup (K := K) (a := q) (xs := natsV ls) (fun i H' => Same H1 H' ∧ CelsAt H' B ((ls.take i).map fun l => (kindOf rs l, (j : Int), (l : Int)))) ⟨same_upd nB, [], upd_same, .nil⟩ (fun i H' _ p => SqT.of (p.1 _ _ hq1)) ?_ ?_
          · rintro i x H2 hx ⟨s2, tB⟩
            obtain ⟨l, hl, rfl⟩ := natsV_at hx
            have hi := (List.getElem?_eq_some_iff.mp hl).1
            have lmem := List.mem_of_getElem? hl
            have hln := (sok ls lm).2 l lmem
            obtain ⟨⟨rb, rt, rk⟩, er⟩ := live ls lm l lmem
            have ek : kindOf rs l = rk := by
              unfold kindOf
              rw [er]
            obtain ⟨rv, hrv, hrw⟩ := alr.getL (row_at hln)
            rw [er] at hrw
            obtain ⟨z, rfl, hz⟩ := hrw
            have s02 := pl.same.trans s2
            refine ⟨rfl, ?_⟩
            refine ⟨_, rfl, _, rfl, a, xs, _, _, rfl, rfl, SqT.of (s02 _ _ ea), atI_nat hrv, z, _, 2, _, rfl, rfl, SqT.of (s02 _ _ hz), atI_nat (j := 2) rfl, _, rfl, _, rfl, by show 3 ≤ sizeLine; decide, fun t nt => ?_⟩
            obtain ⟨G1, eH, s3, e3⟩ := newH nt (o := .tup [.int rk, .int (j : Int), .int (l : Int)])
            rw [eH]
            clear eH
            obtain ⟨us, eB, lB, tB2⟩ := (tB.same s3).add (c := (kindOf rs l, (j : Int), (l : Int))) (v := .ref t) ⟨t, rfl, by rw [ek]; exact e3⟩
            rw [List.length_map, List.length_take] at lB
            refine ⟨us, eB, lts (by omega), same_to (s2.trans s3) nB, ?_⟩
            rw [List.take_add_one, hl, List.map_append]
            exact tB2
          · rintro H2 ⟨s2, us, eB, alB⟩
            rw [natsV_len, List.take_length, ← earr] at alB
            have lB := alB.len
            have l1 : (arrC rs ss j).length = ls.length := by rw [earr, List.length_map]
            have pl2 := pl.go s2
            obtain ⟨us1, eD1, alD1⟩ := pl2.held
            have lD1 := alD1.len
            rw [heldC_len] at lD1
            refine ⟨D, B, _, _, rfl, rfl, eD1, eB, ?_, fun N nN => ?_⟩
            · exact Nat.le_of_lt (Nat.lt_of_le_of_lt (show us1.length + us.length ≤ 100000 by omega) (by decide))
            obtain ⟨G1, eH, s3, e3⟩ := newH nN (o := .lst (us1 ++ us))
            rw [eH]
            clear eH
            have n0 : H N = none := pl2.same.free nN
            have pl3 := pl2.go s3
            refine ⟨N, _, _, rfl, ⟨pl3.same, n0, pl3.w0, pl3.c0, ?_, ?_, pl3.wc, ⟨us1 ++ us, e3, (alD1.append alB).imp fun _ _ t => t.same s3⟩, pl3.waits, pl3.counts⟩⟩
            · obtain ⟨_, z, _⟩ := pl2.waits
              exact (ne_of_none z nN).symm
            · exact (ne_of_none pl2.counts nN).symm
        · rw [decide_eq_false c]
          have earr : arrC rs ss j = [] := by
            unfold arrC
            rw [List.getD_eq_getElem?_getD, List.getElem?_eq_none (by omega)]
            rfl
          rw [earr, List.append_nil]
          exact iteF ⟨D, _, _, rfl, pl⟩
      rintro σ1 H2 ⟨D2, y6, y7, rfl, pl2⟩
      clear pl
      refine ⟨fun σ H' => ∃ (y6 y7 : Option V), σ = [some (.ref a), some (.ref b), some (.ref D2), some (.ref W), some (.ref C), some (.int (j : Int)), y6, y7] ∧ PlayAt H H' D2 W C ss (heldC rs ss (j + 1)) (waitsC rs ss (j + 1)) j, ?_, ?_⟩
      · obtain ⟨us, eD, alD⟩ := pl2.held
        obtain ⟨hs, eu, ehs, tD⟩ := cel_refs alD
        subst eu
        have eh : heldC rs ss (j + 1) = nxt (heldC rs ss j ++ arrC rs ss j) := rfl
        have ew : waitsC rs ss (j + 1) = waitsC rs ss j ++ (match popO (heldC rs ss j ++ arrC rs ss j) with
          | none => []
          | some c => [(c.2.1, c.2.2, (j : Int) - c.2.1)]) := rfl
        rw [eh, ew]
        refine ⟨_, rfl, D2, _, rfl, .inl (SqL.of eD), _, _, rfl, rfl, _, rfl, ?_⟩
        generalize hL : heldC rs ss j ++ arrC rs ss j = L at pl2 alD ehs
        match hs, eD, alD, tD, ehs with
        | [], eD, alD, tD, ehs =>
          rw [← ehs] at pl2 ⊢
          rw [decide_eq_false (by show ¬ ((0 : Nat) : Int) > 0; decide)]
          show (if false = true then _ else _)
          have e1 : waitsC rs ss j ++ (match popO (List.map (celN H2) []) with
            | none => []
            | some c => [(c.2.1, c.2.2, (j : Int) - c.2.1)]) = waitsC rs ss j := List.append_nil _
          rw [e1]
          exact iteF ⟨_, _, rfl, pl2⟩
        | r0 :: hs, eD, alD, tD, ehs =>
          rw [decide_eq_true (by rw [List.length_map, List.length_cons]; omega)]
          obtain ⟨m, em⟩ : ∃ m, minC (celN H2 r0) (hs.map (celN H2)) = m := ⟨_, rfl⟩
          have eL : L = celN H2 r0 :: hs.map (celN H2) := ehs.symm
          have mL : m ∈ L := by rw [eL, ← em]; exact minC_mem _ _
          have epop : popO L = some m := by rw [eL, ← em]; rfl
          have enx : nxt L = del m L := by
            rw [eL, ← em]
            rfl
          rw [epop, enx]
          refine iteT ⟨_, rfl, D2, r0, hs, fun r => dC (celN H2 r), rfl, SqL.of eD, fun r hr => cel_dp ⟨r, rfl, tD r hr⟩, fun r hr => ⟨(dC_lay _).lay, Nat.le_trans (dC_lay _).dep (by decide), fun z => by cases z⟩, fun r _ t _ => dC_alike _ _, fun r hr emin => ?_⟩
          have erm : celN H2 r = m := by
            have z := min_dC (hs.map (celN H2)) (celN H2 r0)
            rw [List.map_map] at z
            have z2 : dC (celN H2 r) = dC (minC (celN H2 r0) (hs.map (celN H2))) := emin.trans z
            rw [dC_inj z2, em]
          obtain ⟨pj, ep1, ep2, ep3⟩ := del_place mL
          have er0 := tD r hr
          rw [erm] at er0
          refine ⟨_, rfl, .inl ⟨rfl, _, SqL.of eD⟩, _, rfl, D2, .ref r, dC m, L.map dC, (r0 :: hs).map V.ref, pj, rfl, rfl, eD, cels_dp alD, cel_dp ⟨r, rfl, er0⟩, dC_plain L, rfl, ?_, ep1, ?_⟩
          · exact Nat.le_trans (Nat.min_le_right _ _) (Nat.le_trans (dC_lay m).dep (by decide))
          have pl3 : PlayAt H (upd H2 D2 (.lst (((r0 :: hs).map V.ref).eraseIdx pj))) D2 W C ss (del m L) (waitsC rs ss j) j := by
            refine ⟨same_to pl2.same pl2.d0, pl2.d0, pl2.w0, pl2.c0, pl2.dw, pl2.dc, pl2.wc, ⟨_, upd_same, ?_⟩, pl2.waits.put eD pl2.dw.symm, ?_⟩
            · rw [← ep3]
              exact (all2_erase alD pj).imp fun _ _ t => t.mv fun q ys g => tup_put eD g
            · rw [upd_ne pl2.dc.symm]
              exact pl2.counts
          have er := tup_put (zs := ((r0 :: hs).map V.ref).eraseIdx pj) eD er0
          generalize upd H2 D2 (.lst (((r0 :: hs).map V.ref).eraseIdx pj)) = H3 at pl3 er ⊢
          obtain ⟨ws, eW, alW⟩ := pl3.waits
          refine ⟨_, rfl, .inl ⟨rfl, _, SqL.of eW⟩, ?_⟩
          refine ⟨_, rfl, r, _, 1, _, rfl, rfl, SqT.of er, atI_nat (j := 1) rfl, _, rfl, r, _, 2, _, rfl, rfl, SqT.of er, atI_nat (j := 2) rfl, _, rfl, _, rfl, r, _, 1, _, rfl, rfl, SqT.of er, atI_nat (j := 1) rfl, _, _, rfl, rfl, by show 3 ≤ sizeLine; decide, fun t nt => ?_⟩
          obtain ⟨G1, eH, s4, e4⟩ := newH nt (o := .tup [.int m.2.1, .int m.2.2, .int ((j : Int) - m.2.1)])
          rw [eH]
          clear eH
          have pl4 := pl3.go s4
          obtain ⟨us, eW2, lW2, tW2⟩ := pl4.waits.add (c := (m.2.1, m.2.2, (j : Int) - m.2.1)) (v := .ref t) ⟨t, rfl, e4⟩
          refine ⟨W, us, _, rfl, rfl, eW2, Nat.lt_of_le_of_lt (show us.length ≤ 100000 by omega) (by decide), _, _, rfl, ⟨same_to pl4.same pl4.w0, pl4.d0, pl4.w0, pl4.c0, pl4.dw, pl4.dc, pl4.wc, pl4.held.put eW2 pl4.dw, tW2, ?_⟩⟩
          rw [upd_ne pl4.wc.symm]
          exact pl4.counts
      rintro σ2 H3 ⟨y6, y7, rfl, pl3⟩
      clear pl2
      obtain ⟨us, eD, alD⟩ := pl3.held
      have lD := alD.len
      rw [heldC_len] at lD
      refine ⟨_, rfl, .inl ⟨rfl, _, SqL.of pl3.counts⟩, _, rfl, D2, _, rfl, .inl (SqL.of eD), ?_⟩
      refine ⟨C, _, _, rfl, rfl, pl3.counts, ?_, ?_⟩
      · rw [cntV_len]
        exact Nat.lt_of_le_of_lt (show j ≤ 100000 by omega) (by decide)
      refine ⟨_, rfl, _, _, rfl, rfl, j + 1, D2, _, _, rfl, ⟨same_to pl3.same pl3.c0, pl3.d0, pl3.w0, pl3.c0, pl3.dw, pl3.dc, pl3.wc, pl3.held.put pl3.counts pl3.dc, pl3.waits.put pl3.counts pl3.wc, ?_⟩, by omega, by omega⟩
      rw [upd_same, cntV_snoc, ← lD]
end

theorem in_own {kd : Nat} {k : Int} (k0 : 0 ≤ k) : inV (.int k) (natsV [kd]) = decide (k = (kd : Int)) := by
  obtain ⟨n, rfl⟩ : ∃ n : Nat, k = (n : Int) := ⟨k.toNat, by omega⟩
  rw [inV_nats]
  by_cases c : n = kd
  · subst c
    rw [decide_eq_true (List.mem_singleton.mpr rfl), decide_eq_true rfl]
  · rw [decide_eq_false (fun z => c (List.mem_singleton.mp z)), decide_eq_false (by omega)]
theorem in_les {kd : Nat} {k : Int} (k0 : 0 ≤ k) : inV (.int k) (natsV (List.range kd)) = decide (k < (kd : Int)) := by
  obtain ⟨n, rfl⟩ : ∃ n : Nat, k = (n : Int) := ⟨k.toNat, by omega⟩
  rw [inV_nats]
  by_cases c : n < kd
  · rw [decide_eq_true (List.mem_range.mpr c), decide_eq_true (by omega)]
  · rw [decide_eq_false (fun z => c (List.mem_range.mp z)), decide_eq_false (by omega)]
theorem own_few {rs : List Rw} {k : Int} (ok : rs.length ≤ 12) : (ownR rs k).length ≤ 12 := Nat.le_trans (List.length_filter_le _ _) (Nat.le_trans (List.length_filterMap_le _ _) ok)
theorem les_few {rs : List Rw} {k : Int} (ok : rs.length ≤ 12) : (lesR rs k).length ≤ 12 := Nat.le_trans (List.length_filter_le _ _) (Nat.le_trans (List.length_filterMap_le _ _) ok)
theorem both_few {rs : List Rw} {k : Int} (ok : rs.length ≤ 12) : (ownR rs k).length + (lesR rs k).length ≤ 12 := by
  have key : ∀ l : List (Int × Int × Int), (l.filter fun r => decide (r.2.2 = k)).length + (l.filter fun r => decide (r.2.2 < k)).length ≤ l.length := fun l => by
    induction l with
    | nil => exact Nat.le_refl _
    | cons r l ih =>
      by_cases c1 : r.2.2 = k
      · rw [List.filter_cons_of_pos (p := fun r : Int × Int × Int => decide (r.2.2 = k)) (decide_eq_true c1), List.filter_cons_of_neg (p := fun r : Int × Int × Int => decide (r.2.2 < k)) (by rw [decide_eq_true_eq]; omega), List.length_cons, List.length_cons]
        omega
      · rw [List.filter_cons_of_neg (p := fun r : Int × Int × Int => decide (r.2.2 = k)) (by rw [decide_eq_true_eq]; exact c1)]
        by_cases c2 : r.2.2 < k
        · rw [List.filter_cons_of_pos (p := fun r : Int × Int × Int => decide (r.2.2 < k)) (decide_eq_true c2), List.length_cons, List.length_cons]
          omega
        · rw [List.filter_cons_of_neg (p := fun r : Int × Int × Int => decide (r.2.2 < k)) (by rw [decide_eq_true_eq]; exact c2), List.length_cons]
          omega
  have l1 : (someR rs).length ≤ 12 := Nat.le_trans (List.length_filterMap_le _ _) ok
  have := key (someR rs)
  unfold ownR lesR
  omega
theorem own_ok {bot : Int} {rs : List Rw} {k : Int} (ok : RowsOk bot rs) : ∀ r ∈ ownR rs k, RowOk bot (some r) := fun r hr => some_ok ok.ok r (List.mem_filter.mp hr).1
theorem les_ok {bot : Int} {rs : List Rw} {k : Int} (ok : RowsOk bot rs) : ∀ r ∈ lesR rs k, RowOk bot (some r) := fun r hr => some_ok ok.ok r (List.mem_filter.mp hr).1
def bdl (bot : Int) (rs : List Rw) (k : Int) : Bool := decide (bot ≤ topsS (lesR rs k)) || decide (bot < topsS (lesR rs k) + topsS (ownR rs k))
theorem bdl_no {bot : Int} {rs : List Rw} {k : Int} (h : bdl bot rs k = false) : topsS (lesR rs k) < bot ∧ topsS (lesR rs k) + topsS (ownR rs k) ≤ bot := by
  unfold bdl at h
  rw [Bool.or_eq_false_iff, decide_eq_false_iff_not, decide_eq_false_iff_not] at h
  omega
section
variable {P : Program} {w : World} {K : PySem.W.Frag} {mg : Str → Option Value} {base : Heap} {A : Adr}
def spChkK : Sp := fun vs H Q _ => ∃ kd : Nat, vs = [.int (kd : Int)] ∧ kd ≤ 7 ∧ Q .non H
theorem ok_check_kind (T : Top K mg A) : FnOk P w K mg base CX0 4 A.a_check_kind A.d_check_kind P_check_kind spChkK := by
  refine T.F_check_kind.ok sc_check_kind (fun vs H Q E h => ?_) (fun cdv A' outer s H vs Q E hr h => ?_)
  · obtain ⟨kd, rfl, _⟩ := h
    rfl
  · obtain ⟨kd, rfl, k7, k⟩ := h
    refine ⟨_, (pss_one (ps_if (pt_not (pt_val (pe_call (ok_is_number_below T) (hr.mono (by decide)) (by rfl) T.g_is_number_below T.F_is_number_below.kp T.b_is_number_below .nil pass0 (pa_cons (pe_glob (v := .int 8) rfl (T.k_KINDS).choose_spec ⟨_, rfl⟩) (pa_cons (pv 0) pa_nil))))) (pss_one ps_never) pss_nil)), ?_⟩
    exact ⟨_, rfl, 8, _, _, 0, rfl, .int _, true, congrArg V.bl (inI_ok (by omega) (by omega)), iteF k⟩
def spBdl (C : Addr) : Sp := fun vs H Q _ => ∃ (p : Addr) (bot : Int) (rs : List Rw) (kd : Nat), vs = [.ref p, .int (kd : Int)] ∧ BkAt C H p bot rs ∧ RowsOk bot rs ∧ kd ≤ 7 ∧ ∀ H', Same H H' → Q (.bl (bdl bot rs kd)) H'
theorem ok_is_boundless (T : Top K mg A) : FnOk P w K mg base CX0 2 A.a_is_boundless A.d_is_boundless P_is_boundless (spBdl A.c_Buckets) := by
  refine T.F_is_boundless.ok sc_is_boundless (fun vs H Q E h => ?_) (fun cdv A' outer s H vs Q E hr h => ?_)
  · obtain ⟨p, bot, rs, kd, rfl, _⟩ := h
    rfl
  · obtain ⟨p, bot, rs, kd, rfl, bk, ok, k7, k⟩ := h
    refine ⟨_, (pss_cons (ps_set (i := 2) sc_is_boundless.nd rfl (.inl rfl) (pe_call (ok_tops_of T) (hr.mono (by decide)) (by rfl) T.g_tops_of T.F_tops_of.kp T.b_tops_of .nil pass0 (pa_cons (pe_call (ok_rows_of T) (hr.mono (by decide)) (by rfl) T.g_rows_of T.F_rows_of.kp T.b_rows_of .nil pass0 (pa_cons (pv 0) (pa_cons (pe_listRg rfl (by rfl) T.z_list (prg_1 (by rfl) T.z_range (pv 1))) pa_nil))) pa_nil)))
    (pss_one (ps_ret (pe_or (pe_cmpR op_ge (pv 2) (pe_fld (pv 0) rfl) (nomark _)) (pe_one (pe_cmpR op_gt (pe_op op_add (pv 2) (pe_call (ok_tops_of T) (hr.mono (by decide)) (by rfl) T.g_tops_of T.F_tops_of.kp T.b_tops_of .nil pass0 (pa_cons (pe_call (ok_rows_of T) (hr.mono (by decide)) (by rfl) T.g_rows_of T.F_rows_of.kp T.b_rows_of .nil pass0 (pa_cons (pv 0) (pa_cons (pe_lst (pa_cons (pv 1) pa_nil)) pa_nil))) pa_nil))) (pe_fld (pv 0) rfl) (nomark _))))))), ?_⟩
    refine ⟨_, rfl, _, rfl, (kd : Int), rfl, ⟨by omega, by omega, by omega⟩, fun l nl => ?_⟩
    obtain ⟨H1, eH, s1, e1⟩ := newH nl (o := .lst (rgV 0 (kd : Int)))
    rw [eH]
    clear eH
    rw [rg_nats] at e1
    refine ⟨p, l, bot, rs, _, fun k => decide (k < (kd : Int)), rfl, bk.same s1, ok, e1, flat_nats _, fun k k0 _ => in_les k0, fun H2 D us s2 eD al => ?_⟩
    refine ⟨D, us, lesR rs kd, rfl, eD, al, les_few ok.few, fun H3 s3 => ?_⟩
    have s13 := (s1.trans s2).trans s3
    obtain ⟨dx, a, hp, ra⟩ := bk.same s13
    refine ⟨_, rfl, _, rfl, p, _, _, _, _, rfl, hp, T.cl_Buckets, T.n_Buckets_bottom, bf1, _, _, rfl, rfl, _, rfl, ?_⟩
    have k := fun H' s => k H' (s13.trans s)
    unfold bdl at k
    by_cases c : topsS (lesR rs kd) ≥ bot
    · rw [decide_eq_true c]
      rw [decide_eq_true (show bot ≤ topsS (lesR rs kd) from c), Bool.true_or] at k
      exact iteT (k _ fun _ _ e => e)
    · rw [decide_eq_false c]
      rw [decide_eq_false (show ¬ bot ≤ topsS (lesR rs kd) from c), Bool.false_or] at k
      refine iteF ⟨_, rfl, _, rfl, _, rfl, by show 1 ≤ sizeLine; decide, fun l2 nl2 => ?_⟩
      obtain ⟨H4, eH, s4, e4⟩ := newH nl2 (o := .lst [.int (kd : Int)])
      rw [eH]
      clear eH
      refine ⟨p, l2, bot, rs, natsV [kd], fun k => decide (k = (kd : Int)), rfl, (bk.same s13).same s4, ok, e4, flat_nats _, fun k k0 _ => in_own k0, fun H5 D2 us2 s5 eD2 al2 => ?_⟩
      refine ⟨D2, us2, ownR rs kd, rfl, eD2, al2, own_few ok.few, fun H6 s6 => ?_⟩
      have s36 := (s4.trans s5).trans s6
      refine ⟨_, _, rfl, rfl, _, rfl, p, _, _, _, _, rfl, s36 _ _ hp, T.cl_Buckets, T.n_Buckets_bottom, bf1, _, _, rfl, rfl, ?_⟩
      exact k _ s36
end

section
variable {P : Program} {w : World} {K : PySem.W.Frag} {mg : Str → Option Value} {base : Heap} {A : Adr}
theorem tr_sumO {bot : Int} {ts : List (Int × Int × Int)} {d : Nat} : ((ts.map some).map (sentR bot (d : Int))).sum = sumO bot ts d := tr_sum ts
def EndAt (O L : Nat → Int) (i x : Nat) : Prop := (i = 0 ∧ x = 1) ∨ (1 ≤ i ∧ IsEnd O L i x)
def spLongW (C : Addr) : Sp := fun vs H Q _ => ∃ (p : Addr) (bot : Int) (rs : List Rw) (kd : Nat), vs = [.ref p, .int (kd : Int)] ∧ BkAt C H p bot rs ∧ RowsOk bot rs ∧ kd ≤ 7 ∧ ownR rs kd ≠ [] ∧ bdl bot rs kd = false ∧
  ∀ (H' : Hp) (q : Addr) (w : Int) (m : Nat), Same H H' → H' q = some (.tup [.int w, .int (m : Int)]) → WaitMax (sumO bot (ownR rs kd)) (sumO bot (lesR rs kd)) w → First (sumO bot (ownR rs kd)) (sumO bot (lesR rs kd)) 419 w m → Q (.ref q) H'
theorem ok_longest_wait (T : Top K mg A) : FnOk P w K mg base CX0 3 A.a_longest_wait A.d_longest_wait P_longest_wait (spLongW A.c_Buckets) := by
  refine T.F_longest_wait.ok sc_longest_wait (fun vs H Q E h => ?_) (fun cdv A' outer s H vs Q E hr h => ?_)
  · obtain ⟨p, bot, rs, kd, rfl, _⟩ := h
    rfl
  · obtain ⟨p, bot, rs, kd, rfl, bk, ok, k7, one, nb, k⟩ := h
    refine ⟨_, (pss_cons (ps_set (i := 2) sc_longest_wait.nd rfl (.inl rfl) (pe_call (ok_rows_of T) (hr.mono (by decide)) (by rfl) T.g_rows_of T.F_rows_of.kp T.b_rows_of .nil pass0 (pa_cons (pv 0) (pa_cons (pe_lst (pa_cons (pv 1) pa_nil)) pa_nil))))
    (pss_cons (ps_set (i := 3) sc_longest_wait.nd rfl (.inl rfl) (pe_call (ok_rows_of T) (hr.mono (by decide)) (by rfl) T.g_rows_of T.F_rows_of.kp T.b_rows_of .nil pass0 (pa_cons (pv 0) (pa_cons (pe_listRg rfl (by rfl) T.z_list (prg_1 (by rfl) T.z_range (pv 1))) pa_nil))))
    (pss_cons (ps_set (i := 4) sc_longest_wait.nd rfl (.inl rfl) (pe_tup (pa_cons pe_int (pa_cons pe_int pa_nil))))
    (pss_cons (ps_set (i := 5) sc_longest_wait.nd rfl (.inl rfl) pe_int)
    (pss_cons (ps_for PassesOwn.never rfl (pi_range2 rfl T.z_range (pa_cons pe_int (pa_cons (pe_glob (v := .int 420) rfl (T.k_LONGEST).choose_spec ⟨_, rfl⟩) pa_nil))) (pg_name (i := 6) sc_longest_wait.nd rfl (.inl rfl)) (pss_cons (ps_set (i := 5) sc_longest_wait.nd rfl (.inl rfl) (pe_callB (call_max2 rfl) (by rfl) T.z_max (by decide +kernel) (pa_cons (pv 5) (pa_cons (pv 6) pa_nil))))
    (pss_cons (ps_set (i := 7) sc_longest_wait.nd rfl (.inl rfl) (pe_call (ok_most_together T) (hr.mono (by decide)) (by rfl) T.g_most_together T.F_most_together.kp T.b_most_together .nil pass0 (pa_cons (pe_fld (pv 0) rfl) (pa_cons (pv 2) (pa_cons (pv 6) pa_nil)))))
    (pss_cons (ps_while PassesOwn.never (pt_cmpR op_lt (pv 5) (pe_op op_add (pv 7) (pe_call (ok_most_together T) (hr.mono (by decide)) (by rfl) T.g_most_together T.F_most_together.kp T.b_most_together .nil pass0 (pa_cons (pe_fld (pv 0) rfl) (pa_cons (pv 3) (pa_cons (pv 5) pa_nil))))) (nomark _)) (pss_one (ps_set (i := 5) sc_longest_wait.nd rfl (.inl rfl) (pe_op op_add (pv 7) (pe_call (ok_most_together T) (hr.mono (by decide)) (by rfl) T.g_most_together T.F_most_together.kp T.b_most_together .nil pass0 (pa_cons (pe_fld (pv 0) rfl) (pa_cons (pv 3) (pa_cons (pv 5) pa_nil))))))))
    (pss_one (ps_if (pt_cmpR op_gt (pe_op op_sub (pv 5) (pv 6)) (pe_ix ix_tup (pv 4) pe_int (fun _ _ => rfl)) (nomark _)) (pss_one (ps_set (i := 4) sc_longest_wait.nd rfl (.inl rfl) (pe_tup (pa_cons (pe_op op_sub (pv 5) (pv 6)) (pa_cons (pv 5) pa_nil))))) pss_nil))))))
    (pss_one (ps_ret (pv 4)))))))), ?_⟩
    obtain ⟨t1, t2⟩ := bdl_no nb
    have oo := own_ok (k := (kd : Int)) ok
    have ol := les_ok (k := (kd : Int)) ok
    have few := both_few (k := (kd : Int)) ok.few
    obtain ⟨os, eos⟩ : ∃ os, ownR rs kd = os := ⟨_, rfl⟩
    obtain ⟨ls, els⟩ : ∃ ls, lesR rs kd = ls := ⟨_, rfl⟩
    refine ⟨_, rfl, _, rfl, by show 1 ≤ sizeLine; decide, fun l1 nl1 => ?_⟩
    obtain ⟨G1, eH, s1, e1⟩ := newH nl1 (o := .lst [.int (kd : Int)])
    rw [eH]
    clear eH
    refine ⟨p, l1, bot, rs, natsV [kd], fun k => decide (k = (kd : Int)), rfl, bk.same s1, ok, e1, flat_nats _, fun k k0 _ => in_own k0, fun H1 D us s2 eD al => ?_⟩
    have s12 := s1.trans s2
    refine ⟨_, rfl, _, rfl, (kd : Int), rfl, ⟨by omega, by omega, by omega⟩, fun l2 nl2 => ?_⟩
    obtain ⟨G2, eH, s3, e3⟩ := newH nl2 (o := .lst (rgV 0 (kd : Int)))
    rw [eH]
    clear eH
    rw [rg_nats] at e3
    refine ⟨p, l2, bot, rs, _, fun k => decide (k < (kd : Int)), rfl, (bk.same s12).same s3, ok, e3, flat_nats _, fun k k0 _ => in_les k0, fun H2 D2 us2 s4 eD2 al2 => ?_⟩
    have eD := s4 _ _ (s3 _ _ eD)
    have al := al.imp fun _ _ t => (t.same s3).same s4
    have al : All2 (TrAt H2) (ownR rs kd) us := al
    have al2 : All2 (TrAt H2) (lesR rs kd) us2 := al2
    rw [eos] at al t2 oo few one k
    rw [els] at al2 t1 t2 ol few k
    have s14 := (s12.trans s3).trans s4
    refine ⟨by show 2 ≤ sizeLine; decide, fun q nq => ?_⟩
    obtain ⟨H3, eH, s5, e5⟩ := newH nq (o := .tup [.int 0, .int 1])
    rw [eH]
    clear eH
    have eD := s5 _ _ eD
    have eD2 := s5 _ _ eD2
    have al := tr_rows (al.imp fun _ _ t => t.same s5)
    have al2 := tr_rows (al2.imp fun _ _ t => t.same s5)
    have s15 := s14.trans s5
    obtain ⟨dx, a, hp, ra⟩ := bk.same s15
    clear bk s1 s2 s3 s4 s5 s12 s14 e1 e3 nq nl1 nl2
    have lo : os.length ≤ 12 := by omega
    have ll : ls.length ≤ 12 := by omega
    have ok1 : ∀ t ∈ os.map some, RowOk bot t := fun t ht => by
      obtain ⟨r, hr, rfl⟩ := List.mem_map.mp ht
      exact oo r hr
    have ok2 : ∀ t ∈ ls.map some, RowOk bot t := fun t ht => by
      obtain ⟨r, hr, rfl⟩ := List.mem_map.mp ht
      exact ol r hr
    refine ⟨1, 420, rfl, ⟨by decide, by decide, by decide, by decide⟩, ?_⟩
    refine for_range (lo := 1) (n := ((420 : Int) - 1).toNat) (fun i σ H' => ∃ (q : Addr) (w : Int) (m x : Nat) (y6 y7 : Option V), σ = [some (.ref p), some (.int (kd : Int)), some (.ref D), some (.ref D2), some (.ref q), some (.int (x : Int)), y6, y7] ∧ Same H3 H' ∧ H' q = some (.tup [.int w, .int (m : Int)]) ∧ PartMax (sumO bot os) (sumO bot ls) i w ∧ First (sumO bot os) (sumO bot ls) i w m ∧ EndAt (sumO bot os) (sumO bot ls) i x) ⟨q, 0, 1, 1, none, none, rfl, fun _ _ e => e, e5, part_0, .inl ⟨rfl, rfl⟩, .inl ⟨rfl, rfl⟩⟩ ?_ ?_
    · rintro i σ H4 hi ⟨q, w, m, x, y6, y7, rfl, s4, e4, pm, fi, en⟩
      obtain ⟨e, ae, _⟩ := end_there ok.b1 ok.b20 oo ol few t1 t2 (i + 1)
      have aele := ae.le
      have aef := ae.fits
      have xe : x ≤ e := by
        rcases en with ⟨_, z⟩ | ⟨z, ax⟩
        · omega
        · refine ax.least (by omega) ?_
          have := sumO_mono (n := i) (m := i + 1) ok.b1 oo (by omega)
          omega
      obtain ⟨x0, ex0, x0d, x0e⟩ : ∃ x0 : Nat, (if (1 + (i : Int)) > (x : Int) then (1 + (i : Int)) else (x : Int)) = (x0 : Int) ∧ i + 1 ≤ x0 ∧ x0 ≤ e := by
        by_cases c : (1 + (i : Int)) > (x : Int)
        · rw [if_pos c]
          exact ⟨i + 1, by omega, Nat.le_refl _, by omega⟩
        · rw [if_neg c]
          exact ⟨x, rfl, by omega, xe⟩
      refine ⟨_, rfl, _, rfl, _, _, rfl, ?_⟩
      show gName 5 (V.int (if (1 + (i : Int)) > (x : Int) then (1 + (i : Int)) else (x : Int))) _ _ _
      rw [ex0]
      refine ⟨_, rfl, p, _, _, _, _, rfl, s4 _ _ hp, T.cl_Buckets, T.n_Buckets_bottom, bf1, _, rfl, _, rfl, bot, ((i + 1 : Nat) : Int), D, us, os.map some, ?_, .inl (s4 _ _ eD), al.imp (fun _ _ t => t.same s4), by rw [List.length_map]; exact lo, ok1, ok.b1, ok.b20, fun H5 s5 => ?_⟩
      · show [V.int bot, V.ref D, V.int (1 + (i : Int))] = _
        rw [show 1 + (i : Int) = ((i + 1 : Nat) : Int) by omega]
      rw [tr_sumO]
      have s35 := s4.trans s5
      have e5 := s5 _ _ e4
      refine ⟨fun n σ H' => ∃ y : Nat, σ = [some (.ref p), some (.int (kd : Int)), some (.ref D), some (.ref D2), some (.ref q), some (.int (y : Int)), some (.int (1 + (i : Int))), some (.int (sumO bot os (i + 1)))] ∧ Same H5 H' ∧ i + 1 ≤ y ∧ y ≤ e ∧ n = e - y, ⟨_, x0, rfl, fun _ _ e => e, x0d, x0e, rfl⟩, ?_⟩
      rintro n σ H6 ⟨y, rfl, s6, yd, ye, rfl⟩
      have s36 := s35.trans s6
      refine ⟨_, rfl, _, rfl, _, rfl, p, _, _, _, _, rfl, s36 _ _ hp, T.cl_Buckets, T.n_Buckets_bottom, bf1, _, rfl, _, rfl, bot, (y : Int), D2, us2, ls.map some, rfl, .inl (s36 _ _ eD2), al2.imp (fun _ _ t => t.same s36), by rw [List.length_map]; exact ll, ok2, ok.b1, ok.b20, fun H7 s7 => ?_⟩
      rw [tr_sumO]
      refine ⟨_, _, rfl, rfl, _, _, rfl, rfl, _, rfl, ?_⟩
      have s37 := s36.trans s7
      by_cases c : (y : Int) < sumO bot os (i + 1) + sumO bot ls y
      · rw [decide_eq_true c]
        obtain ⟨y2, ey2⟩ : ∃ y2 : Nat, sumO bot os (i + 1) + sumO bot ls y = (y2 : Int) := ⟨(sumO bot os (i + 1) + sumO bot ls y).toNat, by omega⟩
        have mono := sumO_mono (n := y) (m := e) ok.b1 ol ye
        refine iteT ?_
        refine ⟨fun σ H' => ∃ y' : Nat, σ = [some (.ref p), some (.int (kd : Int)), some (.ref D), some (.ref D2), some (.ref q), some (.int (y' : Int)), some (.int (1 + (i : Int))), some (.int (sumO bot os (i + 1)))] ∧ Same H5 H' ∧ i + 1 ≤ y' ∧ y' ≤ e ∧ e - y' < e - y, fun σ' H' ⟨y', g1, g2, g3, g4, g5⟩ => ⟨_, g5, y', g1, g2, g3, g4, rfl⟩, ?_⟩
        refine ⟨_, rfl, _, rfl, p, _, _, _, _, rfl, s37 _ _ hp, T.cl_Buckets, T.n_Buckets_bottom, bf1, _, rfl, _, rfl, bot, (y : Int), D2, us2, ls.map some, rfl, .inl (s37 _ _ eD2), al2.imp (fun _ _ t => t.same s37), by rw [List.length_map]; exact ll, ok2, ok.b1, ok.b20, fun H8 s8 => ?_⟩
        rw [tr_sumO]
        refine ⟨_, _, rfl, rfl, y2, ?_, (s6.trans s7).trans s8, by omega, by omega, by omega⟩
        show [some (V.ref p), some (V.int (kd : Int)), some (V.ref D), some (V.ref D2), some (V.ref q), some (V.int (sumO bot os (i + 1) + sumO bot ls y)), some (V.int (1 + (i : Int))), some (V.int (sumO bot os (i + 1)))] = _
        rw [ey2]
      · rw [decide_eq_false c]
        have ey : y = e := by
          have := ae.least (x := y) yd (by omega)
          omega
        subst ey
        refine iteF ?_
        have e7 := s7 _ _ (s6 _ _ e5)
        refine ⟨_, rfl, _, rfl, _, _, rfl, rfl, _, rfl, q, _, 0, _, rfl, rfl, SqT.of e7, atI_nat (j := 0) rfl, _, _, rfl, rfl, _, rfl, ?_⟩
        have ps := pm.step ae
        have fs := First.step pm fi ae
        have ei : (1 : Int) + (i : Int) = ((i + 1 : Nat) : Int) := by omega
        by_cases c2 : (y : Int) - (1 + (i : Int)) > w
        · rw [decide_eq_true c2]
          rw [← ei, if_pos c2] at ps
          rw [← ei, if_pos c2, if_pos c2] at fs
          refine iteT ⟨_, rfl, _, rfl, _, _, rfl, rfl, _, rfl, by show 2 ≤ sizeLine; decide, fun z nz => ?_⟩
          have s8 := same_upd nz (o := .tup [.int ((y : Int) - (1 + (i : Int))), .int (y : Int)])
          exact ⟨z, _, y, y, _, _, rfl, s37.trans s8, upd_same, ps, fs, .inr ⟨by omega, ae⟩⟩
        · rw [decide_eq_false c2]
          rw [← ei, if_neg c2] at ps
          rw [← ei, if_neg c2, if_neg c2] at fs
          exact iteF ⟨q, w, m, y, _, _, rfl, s37, e7, ps, fs, .inr ⟨by omega, ae⟩⟩
    · rintro σ H4 ⟨q, w, m, x, y6, y7, rfl, s4, e4, pm, fi, en⟩
      have wm : WaitMax (sumO bot os) (sumO bot ls) w := by
        refine wait_all (N := 419) ok.b1 ok.b20 oo ol few t1 t2 (fun r hr => ?_) (fun r hr => ?_) one pm
        · obtain ⟨⟨_, h2⟩, _⟩ := oo r hr
          have := ok.b20
          have : r.1 * bot ≤ 20 * bot := Int.mul_le_mul_of_nonneg_right h2 (by have := ok.b1; omega)
          omega
        · obtain ⟨⟨_, h2⟩, _⟩ := ol r hr
          have := ok.b20
          have : r.1 * bot ≤ 20 * bot := Int.mul_le_mul_of_nonneg_right h2 (by have := ok.b1; omega)
          omega
      exact ⟨_, rfl, k H4 q w m (s15.trans s4) e4 wm fi⟩
end

def WaitIs (bot : Int) (rs : List Rw) (k : Int) (o : Option Int) : Prop := (ownR rs k = [] ∧ o = some 0) ∨ (ownR rs k ≠ [] ∧ bdl bot rs k = true ∧ o = none) ∨ (ownR rs k ≠ [] ∧ bdl bot rs k = false ∧ ∃ w, o = some w ∧ WaitMax (sumO bot (ownR rs k)) (sumO bot (lesR rs k)) w)
theorem WaitIs.uniq {bot : Int} {rs : List Rw} {k : Int} {o o' : Option Int} (a : WaitIs bot rs k o) (b : WaitIs bot rs k o') : o = o' := by
  rcases a with ⟨a1, a2⟩ | ⟨a1, a2, a3⟩ | ⟨a1, a2, w, a3, a4⟩
  · rcases b with ⟨b1, b2⟩ | ⟨b1, _⟩ | ⟨b1, _⟩
    · rw [a2, b2]
    · exact absurd a1 b1
    · exact absurd a1 b1
  · rcases b with ⟨b1, b2⟩ | ⟨b1, b2, b3⟩ | ⟨b1, b2, _⟩
    · exact absurd b1 a1
    · rw [a3, b3]
    · rw [a2] at b2; cases b2
  · rcases b with ⟨b1, b2⟩ | ⟨b1, b2, b3⟩ | ⟨b1, b2, w', b3, b4⟩
    · exact absurd b1 a1
    · rw [a2] at b2; cases b2
    · rw [a3, b3, a4.uniq b4]
section
variable {P : Program} {w : World} {K : PySem.W.Frag} {mg : Str → Option Value} {base : Heap} {A : Adr}
def spGW (C : Addr) : Sp := fun vs H Q _ => ∃ (p : Addr) (bot : Int) (rs : List Rw) (kd : Nat), vs = [.ref p, .int (kd : Int)] ∧ BkAt C H p bot rs ∧ RowsOk bot rs ∧ kd ≤ 7 ∧ ∀ (H' : Hp) (o : Option Int), Same H H' → WaitIs bot rs kd o → Q (optV o) H'
theorem ok_greatest_wait (T : Top K mg A) : FnOk P w K mg base CX0 5 A.a_greatest_wait A.d_greatest_wait P_greatest_wait (spGW A.c_Buckets) := by
  refine T.F_greatest_wait.ok sc_greatest_wait (fun vs H Q E h => ?_) (fun cdv A' outer s H vs Q E hr h => ?_)
  · obtain ⟨p, bot, rs, kd, rfl, _⟩ := h
    rfl
  · obtain ⟨p, bot, rs, kd, rfl, bk, ok, k7, k⟩ := h
    refine ⟨_, (pss_cons (ps_expr (pe_call (ok_check_kind T) (hr.mono (by decide)) (by rfl) T.g_check_kind T.F_check_kind.kp T.b_check_kind .nil pass0 (pa_cons (pv 1) pa_nil)))
    (pss_cons (ps_if (pt_not (pt_truth (pe_call (ok_rows_of T) (hr.mono (by decide)) (by rfl) T.g_rows_of T.F_rows_of.kp T.b_rows_of .nil pass0 (pa_cons (pv 0) (pa_cons (pe_lst (pa_cons (pv 1) pa_nil)) pa_nil))) (by intro _; rfl))) (pss_one (ps_ret pe_int)) pss_nil)
    (pss_cons (ps_if (pt_val (pe_call (ok_is_boundless T) (hr.mono (by decide)) (by rfl) T.g_is_boundless T.F_is_boundless.kp T.b_is_boundless .nil pass0 (pa_cons (pv 0) (pa_cons (pv 1) pa_nil)))) (pss_one (ps_ret pe_non)) pss_nil)
    (pss_one (ps_ret (pe_ix ix_tup (pe_call (ok_longest_wait T) (hr.mono (by decide)) (by rfl) T.g_longest_wait T.F_longest_wait.kp T.b_longest_wait .nil pass0 (pa_cons (pv 0) (pa_cons (pv 1) pa_nil))) pe_int (fun _ _ => rfl))))))), ?_⟩
    refine ⟨_, rfl, kd, rfl, k7, ?_⟩
    refine ⟨_, rfl, _, rfl, by show 1 ≤ sizeLine; decide, fun l1 nl1 => ?_⟩
    obtain ⟨G1, eH, s1, e1⟩ := newH nl1 (o := .lst [.int (kd : Int)])
    rw [eH]
    clear eH
    refine ⟨p, l1, bot, rs, natsV [kd], fun k => decide (k = (kd : Int)), rfl, bk.same s1, ok, e1, flat_nats _, fun k k0 _ => in_own k0, fun H1 D us s2 eD al => ?_⟩
    have s12 := s1.trans s2
    have al : All2 (TrAt H1) (ownR rs kd) us := al
    have lu := al.len
    refine ⟨!us.isEmpty, .inl ⟨us, SqL.of eD, rfl⟩, ?_⟩
    match us, lu, eD with
    | [], lu, eD =>
      exact iteT (k H1 (some 0) s12 (.inl ⟨List.eq_nil_of_length_eq_zero lu, rfl⟩))
    | u :: us, lu, eD =>
      have one : ownR rs kd ≠ [] := fun z => by
        rw [z] at lu
        cases lu
      refine iteF ⟨_, rfl, _, rfl, p, bot, rs, kd, rfl, bk.same s12, ok, k7, fun H2 s3 => ⟨_, rfl, ?_⟩⟩
      have s13 := s12.trans s3
      cases c : bdl bot rs kd with
      | true => exact iteT (k H2 none s13 (.inr (.inl ⟨one, c, rfl⟩)))
      | false =>
        refine iteF ⟨_, rfl, _, rfl, p, bot, rs, kd, rfl, bk.same s13, ok, k7, one, c, fun H3 q w m s4 eq wm _ => ?_⟩
        refine ⟨q, _, 0, _, rfl, rfl, SqT.of eq, atI_nat (j := 0) rfl, ?_⟩
        exact k H3 (some w) (s13.trans s4) (.inr (.inr ⟨one, c, w, rfl, wm⟩))
def spWFor (C N B : Addr) : Sp := fun vs H Q E => ∃ (p : Addr) (bot : Int) (rs : List Rw) (kd : Nat), vs = [.ref p, .int (kd : Int)] ∧ BkAt C H p bot rs ∧ RowsOk bot rs ∧ kd ≤ 7 ∧
  (ownR rs kd = [] → ∀ H', Same H H' → E (.ref N) none H') ∧ (ownR rs kd ≠ [] → bdl bot rs kd = true → ∀ H', Same H H' → E (.ref B) none H') ∧
  (ownR rs kd ≠ [] → bdl bot rs kd = false → ∀ (H' : Hp) (a : Addr) (w : Int) (m : Nat), Same H H' → StrmAt H' a (sooS bot rs m) → m ≤ 6000 → WaitMax (sumO bot (ownR rs kd)) (sumO bot (lesR rs kd)) w → First (sumO bot (ownR rs kd)) (sumO bot (lesR rs kd)) 419 w m → Q (.ref a) H')
theorem ok_worst_stream_for (T : Top K mg A) : FnOk P w K mg base (L2.CX P w) 5 A.a_worst_stream_for A.d_worst_stream_for P_worst_stream_for (spWFor A.c_Buckets A.c_NoCell A.c_Boundless) := by
  refine T.F_worst_stream_for.okX sc_worst_stream_for (fun vs H Q E h => ?_) (fun cdv A' outer s H vs Q E hr h => ?_)
  · obtain ⟨p, bot, rs, kd, rfl, _⟩ := h
    rfl
  · obtain ⟨p, bot, rs, kd, rfl, bk, ok, k7, no, nb, k⟩ := h
    refine ⟨_, (pss_cons (ps_expr (pe_call (ok_check_kind T) (hr.mono (by decide)) (by rfl) T.g_check_kind T.F_check_kind.kp T.b_check_kind .nil pass0 (pa_cons (pv 1) pa_nil)))
    (pss_cons (ps_if (pt_not (pt_truth (pe_call (ok_rows_of T) (hr.mono (by decide)) (by rfl) T.g_rows_of T.F_rows_of.kp T.b_rows_of .nil pass0 (pa_cons (pv 0) (pa_cons (pe_lst (pa_cons (pv 1) pa_nil)) pa_nil))) (by intro _; rfl))) (pss_one (ps_raise rfl (takes_of rfl rfl rfl rfl) (GX.pmk_own0 PySem.F.excBase_ValueError T.x_NoCell T.gc_NoCell T.kp_NoCell (raises_own T.s_NoCell T.t_NoCell) rfl))) pss_nil)
    (pss_cons (ps_if (pt_val (pe_call (ok_is_boundless T) (hr.mono (by decide)) (by rfl) T.g_is_boundless T.F_is_boundless.kp T.b_is_boundless .nil pass0 (pa_cons (pv 0) (pa_cons (pv 1) pa_nil)))) (pss_one (ps_raise rfl (takes_of rfl rfl rfl rfl) (GX.pmk_own0 PySem.F.excBase_ValueError T.x_Boundless T.gc_Boundless T.kp_Boundless (raises_own T.s_Boundless T.t_Boundless) rfl))) pss_nil)
    (pss_cons (ps_asg (pe_call (ok_longest_wait T) (hr.mono (by decide)) (by rfl) T.g_longest_wait T.F_longest_wait.kp T.b_longest_wait .nil pass0 (pa_cons (pv 0) (pa_cons (pv 1) pa_nil))) (pg_tup rfl (pgs_cons (pg_name (i := 2) sc_worst_stream_for.nd rfl (.inl rfl)) (pgs_cons (pg_name (i := 3) sc_worst_stream_for.nd rfl (.inl rfl)) pgs_nil))))
    (pss_one (ps_ret (pe_call (ok_soonest T) (hr.mono (by decide)) (by rfl) T.g_soonest T.F_soonest.kp T.b_soonest .nil pass0 (pa_cons (pv 0) (pa_cons (pv 3) pa_nil))))))))), ?_⟩
    refine ⟨_, rfl, kd, rfl, k7, ?_⟩
    refine ⟨_, rfl, _, rfl, by show 1 ≤ sizeLine; decide, fun l1 nl1 => ?_⟩
    obtain ⟨G1, eH, s1, e1⟩ := newH nl1 (o := .lst [.int (kd : Int)])
    rw [eH]
    clear eH
    refine ⟨p, l1, bot, rs, natsV [kd], fun k => decide (k = (kd : Int)), rfl, bk.same s1, ok, e1, flat_nats _, fun k k0 _ => in_own k0, fun H1 D us s2 eD al => ?_⟩
    have s12 := s1.trans s2
    have al : All2 (TrAt H1) (ownR rs kd) us := al
    have lu := al.len
    refine ⟨!us.isEmpty, .inl ⟨us, SqL.of eD, rfl⟩, ?_⟩
    match us, lu, eD with
    | [], lu, eD =>
      exact iteT (no (List.eq_nil_of_length_eq_zero lu) H1 s12)
    | u :: us, lu, eD =>
      have one : ownR rs kd ≠ [] := fun z => by
        rw [z] at lu
        cases lu
      refine iteF ⟨_, rfl, _, rfl, p, bot, rs, kd, rfl, bk.same s12, ok, k7, fun H2 s3 => ⟨_, rfl, ?_⟩⟩
      have s13 := s12.trans s3
      cases c : bdl bot rs kd with
      | true => exact iteT (nb one c H2 s13)
      | false =>
        obtain ⟨t1, t2⟩ := bdl_no c
        refine iteF ⟨_, rfl, _, rfl, p, bot, rs, kd, rfl, bk.same s13, ok, k7, one, c, fun H3 q w m s4 eq wm fi => ?_⟩
        have m6 : m ≤ 6000 := by
          rcases fi with ⟨_, z⟩ | ⟨_, d, d1, d2, ae, _⟩
          · omega
          · obtain ⟨e, be, bl⟩ := end_there ok.b1 ok.b20 (own_ok (k := (kd : Int)) ok) (les_ok (k := (kd : Int)) ok) (both_few ok.few) t1 t2 d
            have := ae.uniq be
            omega
        refine ⟨q, _, rfl, SqT.of eq, rfl, _, _, rfl, _, _, rfl, rfl, ?_⟩
        refine ⟨_, rfl, _, rfl, p, bot, rs, m, rfl, bk.same (s13.trans s4), ok, m6, fun H4 a s5 st => ?_⟩
        exact k one c H4 a w m ((s13.trans s4).trans s5) st m6 wm fi
end

section
variable {P : Program} {w : World} {K : PySem.W.Frag} {mg : Str → Option Value} {base : Heap} {A : Adr}
theorem tr_at {H' : Hp} {D : Addr} {us : List V} {q : Addr} {l : List (Int × Int × Int)} {b t kk : Int} (d1 : H' D = some (.lst us)) (au : All2 (TrAt H') l us) (eq : H' q = some (.tup [.int b, .int t, .int kk])) : All2 (TrAt (upd H' D (.lst (us ++ [.ref q])))) (l ++ [(b, t, kk)]) (us ++ [.ref q]) := by
  have tups : ∀ z xs, H' z = some (.tup xs) → (upd H' D (.lst (us ++ [.ref q]))) z = some (.tup xs) := fun z xs e => tup_put d1 e
  exact (au.imp fun t v h => RowAt.mv (r := some t) tups h).snoc ⟨q, rfl, tups _ _ eq⟩
theorem fil_one {f : Int × Int × Int → Bool} {r : Int × Int × Int} : ((some r : Rw).toList.filter f) = if f r = true then [r] else [] := by
  by_cases c : f r = true
  · rw [if_pos c]
    exact List.filter_cons_of_pos (p := f) c
  · rw [if_neg c]
    exact List.filter_cons_of_neg (p := f) c
def spLWait : Sp := fun vs H Q _ => ∃ (a : Addr) (bot : Int) (rs : List Rw) (kd : Nat), vs = [.ref a, .int bot, .int (kd : Int)] ∧ RowsAt H a rs ∧ RowsOk bot rs ∧ ∀ (H' : Hp) (o : Option Int), Same H H' → WaitIs bot rs kd o → Q (optV o) H'
theorem ok_law_wait (T : Top K mg A) : FnOk P w K mg base CX0 2 A.a_law_wait A.d_law_wait P_law_wait spLWait := by
  refine T.F_law_wait.ok sc_law_wait (fun vs H Q E h => ?_) (fun cdv A' outer s H vs Q E hr h => ?_)
  · obtain ⟨a, bot, rs, kd, rfl, _⟩ := h
    rfl
  · obtain ⟨a, bot, rs, kd, rfl, ra, ok, k⟩ := h
    have ra0 := ra
    obtain ⟨xs, ea, al⟩ := ra
    refine ⟨_, (pss_cons (ps_setLc (i := 3) (own := [("_law_row", 10)]) (by rfl) sc_law_wait.nd rfl rfl (sw_true rfl rfl rfl (by decide +kernel)) (pi_tup (pv 0)) (blkOk_by (own := [("_law_row", 10)]) (N := N_law_wait) (sc := defScope s_law_wait) (by decide +kernel)) (fun _ _ _ _ _ => (pg_name (i := 10) sc_law_wait.nd rfl (.inl rfl))) (fun _ _ _ _ _ => (pts_one (PW.pt (pw_and (pt_cmpR op_notN (pv 10) pe_non (nomark _)) (pw_and1 (pt_cmpR op_eq (pe_ix (show IxR _ (rIxT K) from ix_tup) (pv 10) pe_int (fun _ _ => rfl)) (pv 2) (nomark _))))))) (fun _ _ _ _ _ => (pv 10)))
    (pss_cons (ps_setLc (i := 4) (own := [("_law_row", 10)]) (by rfl) sc_law_wait.nd rfl rfl (sw_true rfl rfl rfl (by decide +kernel)) (pi_tup (pv 0)) (blkOk_by (own := [("_law_row", 10)]) (N := N_law_wait) (sc := defScope s_law_wait) (by decide +kernel)) (fun _ _ _ _ _ => (pg_name (i := 10) sc_law_wait.nd rfl (.inl rfl))) (fun _ _ _ _ _ => (pts_one (PW.pt (pw_and (pt_cmpR op_notN (pv 10) pe_non (nomark _)) (pw_and1 (pt_cmpR op_lt (pe_ix (show IxR _ (rIxT K) from ix_tup) (pv 10) pe_int (fun _ _ => rfl)) (pv 2) (nomark _))))))) (fun _ _ _ _ _ => (pv 10)))
    (pss_cons (ps_set (i := 5) sc_law_wait.nd rfl (.inl rfl) (pe_callB (cr_sum rfl) (by rfl) T.z_sum (by decide +kernel) (pa_cons (pe_lc (own := [("_law_row", 10)]) (by rfl) sc_law_wait.nd (pi_list (pv 4)) (blkOk_by (own := [("_law_row", 10)]) (N := N_law_wait) (sc := defScope s_law_wait) (by decide +kernel)) (fun _ _ _ _ _ => (pg_name (i := 10) sc_law_wait.nd rfl (.inl rfl))) (fun _ _ _ _ _ => pts_nil) (fun _ _ _ _ _ => (pe_ix (show IxR _ (rIxT K) from ix_tup) (pv 10) pe_int (fun _ _ => rfl)))) pa_nil)))
    (pss_cons (ps_if (pt_cmpR op_eq (pe_callB call_len_seq (by rfl) T.z_len (by decide +kernel) (pa_cons (pv 3) pa_nil)) pe_int (nomark _)) (pss_one (ps_ret pe_int)) pss_nil)
    (pss_cons (ps_if (PW.pt (pw_or (pt_cmpR op_ge (pv 5) (pv 1) (nomark _)) (pw_or1 (pt_cmpR op_gt (pe_op op_add (pv 5) (pe_callB (cr_sum rfl) (by rfl) T.z_sum (by decide +kernel) (pa_cons (pe_lc (own := [("_law_row", 10)]) (by rfl) sc_law_wait.nd (pi_list (pv 3)) (blkOk_by (own := [("_law_row", 10)]) (N := N_law_wait) (sc := defScope s_law_wait) (by decide +kernel)) (fun _ _ _ _ _ => (pg_name (i := 10) sc_law_wait.nd rfl (.inl rfl))) (fun _ _ _ _ _ => pts_nil) (fun _ _ _ _ _ => (pe_ix (show IxR _ (rIxT K) from ix_tup) (pv 10) pe_int (fun _ _ => rfl)))) pa_nil))) (pv 1) (nomark _))))) (pss_one (ps_ret pe_non)) pss_nil)
    (pss_cons (ps_asg (pe_tup (pa_cons pe_int (pa_cons pe_int pa_nil))) (pg_tup rfl (pgs_cons (pg_name (i := 6) sc_law_wait.nd rfl (.inl rfl)) (pgs_cons (pg_name (i := 7) sc_law_wait.nd rfl (.inr rfl)) pgs_nil))))
    (pss_cons (ps_for PassesOwn.never rfl (pi_range2 rfl T.z_range (pa_cons pe_int (pa_cons (pe_op op_add (pe_call (ok_law_reach T) (hr.mono (by decide)) (by rfl) T.g_law_reach T.F_law_reach.kp T.b_law_reach .nil pass0 (pa_cons (pv 0) (pa_cons (pv 1) pa_nil))) pe_int) pa_nil))) (pg_name (i := 8) sc_law_wait.nd rfl (.inr rfl)) (pss_cons (ps_set (i := 7) sc_law_wait.nd rfl (.inr rfl) (pe_callB (call_max2 rfl) (by rfl) T.z_max (by decide +kernel) (pa_cons (pv 7) (pa_cons (pv 8) pa_nil))))
    (pss_cons (ps_set (i := 9) sc_law_wait.nd rfl (.inl rfl) (pe_callB (cr_sum rfl) (by rfl) T.z_sum (by decide +kernel) (pa_cons (pe_lc (own := [("_law_row", 10)]) (by rfl) sc_law_wait.nd (pi_list (pv 3)) (blkOk_by (own := [("_law_row", 10)]) (N := N_law_wait) (sc := defScope s_law_wait) (by decide +kernel)) (fun _ _ _ _ _ => (pg_name (i := 10) sc_law_wait.nd rfl (.inl rfl))) (fun _ _ _ _ _ => pts_nil) (fun _ _ _ _ _ => (pe_call (ok_law_sent (P := P) (w := w) T) (hr.mono (by decide)) (by rfl) T.g_law_sent T.F_law_sent.kp T.b_law_sent .nil pass0 (pa_cons (pv 10) (pa_cons (pv 1) (pa_cons (pv 8) pa_nil)))))) pa_nil)))
    (pss_cons (ps_while PassesOwn.never (pt_cmpR op_gt (pe_op op_add (pv 9) (pe_callB (cr_sum rfl) (by rfl) T.z_sum (by decide +kernel) (pa_cons (pe_lc (own := [("_law_row", 10)]) (by rfl) sc_law_wait.nd (pi_list (pv 4)) (blkOk_by (own := [("_law_row", 10)]) (N := N_law_wait) (sc := defScope s_law_wait) (by decide +kernel)) (fun _ _ _ _ _ => (pg_name (i := 10) sc_law_wait.nd rfl (.inl rfl))) (fun _ _ _ _ _ => pts_nil) (fun _ _ _ _ _ => (pe_call (ok_law_sent (P := P) (w := w) T) (hr.mono (by decide)) (by rfl) T.g_law_sent T.F_law_sent.kp T.b_law_sent .nil pass0 (pa_cons (pv 10) (pa_cons (pv 1) (pa_cons (pv 7) pa_nil)))))) pa_nil))) (pv 7) (nomark _)) (pss_one (ps_set (i := 7) sc_law_wait.nd rfl (.inr rfl) (pe_op op_add (pv 7) pe_int))))
    (pss_one (ps_set (i := 6) sc_law_wait.nd rfl (.inl rfl) (pe_callB (call_max2 rfl) (by rfl) T.z_max (by decide +kernel) (pa_cons (pv 6) (pa_cons (pe_op op_sub (pv 7) (pv 8)) pa_nil)))))))))
    (pss_one (ps_ret (pv 6)))))))))), ?_⟩
    have few := ok.few
    have b1 := ok.b1
    have b20 := ok.b20
    -- own
    refine ⟨_, rfl, a, rfl, ⟨_, SqT.of ea⟩, fun D nD => ?_⟩
    refine lc_tup (K := K) (a := a) (xs := xs) (fun i H' => ∃ us, Same H H' ∧ H' D = some (.lst us) ∧ All2 (TrAt H') ((someR (rs.take i)).filter fun r => decide (r.2.2 = (kd : Int))) us) ⟨[], same_upd nD, upd_same, .nil⟩ (fun i H' _ ⟨_, s, _⟩ => SqT.of (s _ _ ea)) ?_ ?_
    · rintro i x H' hx ⟨us, s1, d1, au⟩
      obtain ⟨r, hr1, hv⟩ := al.get hx
      have hv := hv.same s1
      have ln := someR_len (rs := rs) (i := i)
      have lu := au.len
      have lf := List.length_filter_le (fun r : Int × Int × Int => decide (r.2.2 = (kd : Int))) (someR (rs.take i))
      refine ⟨rfl, ?_⟩
      match r, hr1, hv with
      | none, hr1, e =>
        cases (show x = V.non from e)
        refine ⟨_, rfl, rfl, _, rfl, iteF ⟨us, s1, d1, ?_⟩⟩
        rw [someR_snoc hr1]
        show All2 _ ((_ ++ []).filter _) _
        rw [List.append_nil]
        exact au
      | some (b, t, kk), hr1, ⟨q, e, eq⟩ =>
        subst e
        refine ⟨_, rfl, rfl, _, rfl, iteT ?_⟩
        refine ⟨_, rfl, q, _, 2, _, rfl, rfl, SqT.of eq, atI_nat (j := 2) rfl, _, rfl, rfl, _, rfl, ?_⟩
        rw [someR_snoc hr1, List.filter_append, fil_one, dec_int]
        by_cases c : kk = (kd : Int)
        · rw [decide_eq_true c]
          exact iteT ⟨_, rfl, us, d1, by rw [← lu]; exact lts (by omega), us ++ [.ref q], same_to s1 nD, upd_same, by rw [if_pos rfl]; exact tr_at d1 au eq⟩
        · rw [decide_eq_false c]
          refine iteF ⟨us, s1, d1, ?_⟩
          show All2 _ (_ ++ []) _
          rw [List.append_nil]
          exact au
    rintro H1 ⟨us, s1, eD, au⟩
    rw [← al.len, List.take_length] at au
    have au : All2 (TrAt H1) (ownR rs kd) us := au
    have ea1 := s1 _ _ ea
    -- lesser
    refine ⟨_, rfl, a, rfl, ⟨_, SqT.of ea1⟩, fun D2 nD2 => ?_⟩
    refine lc_tup (K := K) (a := a) (xs := xs) (fun i H' => ∃ us, Same H1 H' ∧ H' D2 = some (.lst us) ∧ All2 (TrAt H') ((someR (rs.take i)).filter fun r => decide (r.2.2 < (kd : Int))) us) ⟨[], same_upd nD2, upd_same, .nil⟩ (fun i H' _ ⟨_, s, _⟩ => SqT.of (s _ _ ea1)) ?_ ?_
    · rintro i x H' hx ⟨us, s2, d1, au⟩
      obtain ⟨r, hr1, hv⟩ := al.get hx
      have hv := (hv.same s1).same s2
      have ln := someR_len (rs := rs) (i := i)
      have lu := au.len
      have lf := List.length_filter_le (fun r : Int × Int × Int => decide (r.2.2 < (kd : Int))) (someR (rs.take i))
      refine ⟨rfl, ?_⟩
      match r, hr1, hv with
      | none, hr1, e =>
        cases (show x = V.non from e)
        refine ⟨_, rfl, rfl, _, rfl, iteF ⟨us, s2, d1, ?_⟩⟩
        rw [someR_snoc hr1]
        show All2 _ ((_ ++ []).filter _) _
        rw [List.append_nil]
        exact au
      | some (b, t, kk), hr1, ⟨q, e, eq⟩ =>
        subst e
        refine ⟨_, rfl, rfl, _, rfl, iteT ?_⟩
        refine ⟨_, rfl, q, _, 2, _, rfl, rfl, SqT.of eq, atI_nat (j := 2) rfl, _, rfl, _, _, rfl, rfl, _, rfl, ?_⟩
        rw [someR_snoc hr1, List.filter_append, fil_one]
        by_cases c : kk < (kd : Int)
        · rw [decide_eq_true c]
          exact iteT ⟨_, rfl, us, d1, by rw [← lu]; exact lts (by omega), us ++ [.ref q], same_to s2 nD2, upd_same, by rw [if_pos rfl]; exact tr_at d1 au eq⟩
        · rw [decide_eq_false c]
          refine iteF ⟨us, s2, d1, ?_⟩
          show All2 _ (_ ++ []) _
          rw [List.append_nil]
          exact au
    rintro H2 ⟨us2, s2, eD2, au2⟩
    rw [← al.len, List.take_length] at au2
    have au2 : All2 (TrAt H2) (lesR rs kd) us2 := au2
    have eD := s2 _ _ eD
    have au := au.imp fun _ _ t => t.same s2
    have s12 := s1.trans s2
    have ea2 := s12 _ _ ea
    have ra2 := ra0.same s12
    clear s1 s2 ea1
    have oo := own_ok (k := (kd : Int)) ok
    have ol := les_ok (k := (kd : Int)) ok
    have both := both_few (k := (kd : Int)) ok.few
    obtain ⟨os, eos⟩ : ∃ os, ownR rs kd = os := ⟨_, rfl⟩
    obtain ⟨ls, els⟩ : ∃ ls, lesR rs kd = ls := ⟨_, rfl⟩
    have k0 := k
    unfold WaitIs bdl at k
    rw [eos] at au oo both k
    rw [els] at au2 ol both k
    have lo : os.length ≤ 12 := by omega
    have ll : ls.length ≤ 12 := by omega
    have lu := au.len
    have lu2 := au2.len
    -- tops
    refine ⟨_, rfl, D2, rfl, ⟨_, SqL.of eD2⟩, fun F nF => ?_⟩
    refine lc_list (K := K) (a := D2) (xs := us2) (LP H2 F ((ls.map fun r => r.2.1).map V.int)) (LP.start nF) (fun i H' _ p => SqL.of (p.1 _ _ eD2)) ?_ ?_
    · rintro i x H' hx p
      obtain ⟨⟨b, t, kk⟩, ht, q, rfl, eq⟩ := au2.get hx
      refine ⟨rfl, ?_⟩
      refine ⟨_, rfl, q, _, 1, _, rfl, rfl, SqT.of (p.1 _ _ eq), atI_nat (j := 1) rfl, ?_⟩
      exact lcPut nF p (fun _ _ e => e) (map_at (map_at ht)) (by rw [List.length_map, List.length_map]; omega)
    rintro H3 ⟨s3, d3⟩
    rw [take_all (by rw [List.length_map, List.length_map]; exact lu2.symm)] at d3
    refine ⟨F, _, rfl, SqL.of d3, ?_⟩
    have eD := s3 _ _ eD
    have eD2 := s3 _ _ eD2
    have au := au.imp fun _ _ t => t.same s3
    have au2 := au2.imp fun _ _ t => t.same s3
    have s13 := s12.trans s3
    have ra3 := ra2.same s3
    clear s3 d3 nF s12 ra2 ea2
    refine ⟨_, rfl, D, us, rfl, .inl (SqL.of eD), rfl, _, rfl, ?_⟩
    rw [dec_int]
    by_cases z : (us.length : Int) = 0
    · rw [decide_eq_true z]
      exact iteT (k H3 (some 0) s13 (.inl ⟨List.eq_nil_of_length_eq_zero (by omega), rfl⟩))
    rw [decide_eq_false z]
    have one : os ≠ [] := fun y => by
      rw [y] at lu
      have lu : 0 = us.length := lu
      omega
    refine iteF ⟨_, rfl, _, rfl, _, _, rfl, rfl, _, rfl, ?_⟩
    have et : (ls.map fun r => r.2.1).sum = topsS ls := rfl
    rw [et]
    by_cases c1 : topsS ls ≥ bot
    · rw [decide_eq_true c1]
      exact iteT (k H3 none s13 (.inr (.inl ⟨one, by rw [decide_eq_true (show bot ≤ topsS ls from c1)]; rfl, rfl⟩)))
    rw [decide_eq_false c1]
    refine iteF ⟨_, rfl, _, rfl, D, rfl, ⟨_, SqL.of eD⟩, fun F nF => ?_⟩
    refine lc_list (K := K) (a := D) (xs := us) (LP H3 F ((os.map fun r => r.2.1).map V.int)) (LP.start nF) (fun i H' _ p => SqL.of (p.1 _ _ eD)) ?_ ?_
    · rintro i x H' hx p
      obtain ⟨⟨b, t, kk⟩, ht, q, rfl, eq⟩ := au.get hx
      refine ⟨rfl, ?_⟩
      refine ⟨_, rfl, q, _, 1, _, rfl, rfl, SqT.of (p.1 _ _ eq), atI_nat (j := 1) rfl, ?_⟩
      exact lcPut nF p (fun _ _ e => e) (map_at (map_at ht)) (by rw [List.length_map, List.length_map]; omega)
    rintro H4 ⟨s4, d4⟩
    rw [take_all (by rw [List.length_map, List.length_map]; exact lu.symm)] at d4
    have eD := s4 _ _ eD
    have eD2 := s4 _ _ eD2
    have au := au.imp fun _ _ t => t.same s4
    have au2 := au2.imp fun _ _ t => t.same s4
    have s14 := s13.trans s4
    have ra4 := ra3.same s4
    refine ⟨F, _, rfl, SqL.of d4, _, _, rfl, rfl, _, rfl, _, _, rfl, rfl, _, rfl, ?_⟩
    have et2 : (os.map fun r => r.2.1).sum = topsS os := rfl
    rw [et2]
    by_cases c2 : topsS ls + topsS os > bot
    · rw [decide_eq_true c2]
      exact iteT (k H4 none s14 (.inr (.inl ⟨one, by rw [decide_eq_true (show bot < topsS ls + topsS os from c2), Bool.or_true], rfl⟩)))
    rw [decide_eq_false c2]
    have t1 : topsS ls < bot := by omega
    have t2 : topsS ls + topsS os ≤ bot := by omega
    have nb : (decide (bot ≤ topsS ls) || decide (bot < topsS ls + topsS os)) = false := by
      rw [decide_eq_false (by omega), decide_eq_false (by omega)]
      rfl
    clear s4 d4 nF s13 ra3
    refine iteF ⟨by show 2 ≤ sizeLine; decide, fun t nt => ?_⟩
    obtain ⟨H5, eH, s5, e5⟩ := newH nt (o := .tup [.int 0, .int 0])
    rw [eH]
    clear eH
    refine ⟨t, _, rfl, SqT.of e5, rfl, _, _, rfl, _, _, rfl, rfl, ?_⟩
    refine ⟨_, rfl, _, rfl, a, bot, rs, rfl, ra4.same s5, ok, fun H6 R s6 R1 reach Rb => ?_⟩
    have s56 := s5.trans s6
    have eD := s56 _ _ eD
    have eD2 := s56 _ _ eD2
    have au := au.imp fun _ _ t => t.same s56
    have au2 := au2.imp fun _ _ t => t.same s56
    have s16 := s14.trans s56
    refine ⟨_, _, rfl, rfl, 1, (R : Int) + 1, rfl, ⟨by decide, by decide, by omega, by omega⟩, ?_⟩
    refine for_range (lo := 1) (n := ((R : Int) + 1 - 1).toNat) (fun i σ H' => ∃ (w : Int) (x : Nat) (y8 y9 : Option V), σ = [some (.ref a), some (.int bot), some (.int (kd : Int)), some (.ref D), some (.ref D2), some (.int (topsS ls)), some (.int w), some (.int (x : Int)), y8, y9, none] ∧ Same H6 H' ∧ PartMax (sumO bot os) (sumO bot ls) i w ∧ ((i = 0 ∧ x = 0) ∨ (1 ≤ i ∧ IsEnd (sumO bot os) (sumO bot ls) i x))) ⟨0, 0, none, none, rfl, fun _ _ e => e, part_0, .inl ⟨rfl, rfl⟩⟩ ?_ ?_
    · rintro i σ H7 hi ⟨w, x, y8, y9, rfl, s7, pm, en⟩
      obtain ⟨e, ae, _⟩ := end_there b1 b20 oo ol both t1 t2 (i + 1)
      have aele := ae.le
      have aef := ae.fits
      have xe : x ≤ e := by
        rcases en with ⟨_, z⟩ | ⟨z, ax⟩
        · omega
        · refine ax.least (by omega) ?_
          have := sumO_mono (n := i) (m := i + 1) b1 oo (by omega)
          omega
      obtain ⟨x0, ex0, x0d, x0e⟩ : ∃ x0 : Nat, (if (1 + (i : Int)) > (x : Int) then (1 + (i : Int)) else (x : Int)) = (x0 : Int) ∧ i + 1 ≤ x0 ∧ x0 ≤ e := by
        by_cases c : (1 + (i : Int)) > (x : Int)
        · rw [if_pos c]
          exact ⟨i + 1, by omega, Nat.le_refl _, by omega⟩
        · rw [if_neg c]
          exact ⟨x, rfl, by omega, xe⟩
      refine ⟨_, rfl, _, rfl, _, _, rfl, ?_⟩
      show gName 7 (V.int (if (1 + (i : Int)) > (x : Int) then (1 + (i : Int)) else (x : Int))) _ _ _
      rw [ex0]
      have ei : (1 : Int) + (i : Int) = ((i + 1 : Nat) : Int) := by omega
      have eD7 := s7 _ _ eD
      refine ⟨_, rfl, D, rfl, ⟨_, SqL.of eD7⟩, fun F nF => ?_⟩
      refine lc_list (K := K) (a := D) (xs := us) (LP H7 F ((os.map (sent1 bot ((i + 1 : Nat) : Int))).map V.int)) (LP.start nF) (fun i H' _ p => SqL.of (p.1 _ _ eD7)) ?_ ?_
      · rintro j v H' hv p
        obtain ⟨t, ht, hv⟩ := au.get hv
        refine ⟨rfl, ?_⟩
        refine ⟨_, rfl, _, rfl, _, rfl, bot, 1 + (i : Int), some t, v, rfl, RowAt.same (r := some t) hv (s7.trans p.1), oo t (List.mem_of_getElem? ht), b1, b20, ?_⟩
        rw [ei]
        exact lcPut nF p (fun _ _ e => e) (map_at (map_at ht)) (by rw [List.length_map, List.length_map]; omega)
      rintro H8 ⟨s8, d8⟩
      rw [take_all (by rw [List.length_map, List.length_map]; exact lu.symm)] at d8
      refine ⟨F, _, rfl, SqL.of d8, ?_⟩
      have s68 := s7.trans s8
      have eO : (os.map (sent1 bot ((i + 1 : Nat) : Int))).sum = sumO bot os (i + 1) := rfl
      rw [eO]
      refine ⟨fun n σ H' => ∃ y : Nat, σ = [some (.ref a), some (.int bot), some (.int (kd : Int)), some (.ref D), some (.ref D2), some (.int (topsS ls)), some (.int w), some (.int (y : Int)), some (.int (1 + (i : Int))), some (.int (sumO bot os (i + 1))), none] ∧ Same H6 H' ∧ i + 1 ≤ y ∧ y ≤ e ∧ n = e - y, ⟨_, x0, rfl, s68, x0d, x0e, rfl⟩, ?_⟩
      rintro n σ H9 ⟨y, rfl, s9, yd, ye, rfl⟩
      have eD9 := s9 _ _ eD2
      refine ⟨_, rfl, _, rfl, D2, rfl, ⟨_, SqL.of eD9⟩, fun F2 nF2 => ?_⟩
      refine lc_list (K := K) (a := D2) (xs := us2) (LP H9 F2 ((ls.map (sent1 bot (y : Int))).map V.int)) (LP.start nF2) (fun i H' _ p => SqL.of (p.1 _ _ eD9)) ?_ ?_
      · rintro j v H' hv p
        obtain ⟨t, ht, hv⟩ := au2.get hv
        refine ⟨rfl, ?_⟩
        refine ⟨_, rfl, _, rfl, _, rfl, bot, (y : Int), some t, v, rfl, RowAt.same (r := some t) hv (s9.trans p.1), ol t (List.mem_of_getElem? ht), b1, b20, ?_⟩
        exact lcPut nF2 p (fun _ _ e => e) (map_at (map_at ht)) (by rw [List.length_map, List.length_map]; omega)
      rintro H10 ⟨s10, d10⟩
      rw [take_all (by rw [List.length_map, List.length_map]; exact lu2.symm)] at d10
      have s610 := s9.trans s10
      have eL : (ls.map (sent1 bot (y : Int))).sum = sumO bot ls y := rfl
      refine ⟨F2, _, rfl, SqL.of d10, _, _, rfl, rfl, _, rfl, _, _, rfl, rfl, _, rfl, ?_⟩
      rw [eL]
      by_cases c : sumO bot os (i + 1) + sumO bot ls y > (y : Int)
      · rw [decide_eq_true c]
        have yn : y ≠ e := fun z => by
          subst z
          omega
        refine iteT ?_
        refine ⟨fun σ H' => ∃ y' : Nat, σ = [some (.ref a), some (.int bot), some (.int (kd : Int)), some (.ref D), some (.ref D2), some (.int (topsS ls)), some (.int w), some (.int (y' : Int)), some (.int (1 + (i : Int))), some (.int (sumO bot os (i + 1))), none] ∧ Same H6 H' ∧ i + 1 ≤ y' ∧ y' ≤ e ∧ e - y' < e - y, fun σ' H' ⟨y', g1, g2, g3, g4, g5⟩ => ⟨_, g5, y', g1, g2, g3, g4, rfl⟩, ?_⟩
        exact ⟨_, rfl, _, _, rfl, rfl, y + 1, rfl, s610, by omega, by omega, by omega⟩
      · rw [decide_eq_false c]
        have ey : y = e := by
          have := ae.least (x := y) yd (by omega)
          omega
        subst ey
        refine iteF ?_
        have ps := pm.step ae
        rw [← ei] at ps
        refine ⟨_, rfl, _, rfl, _, rfl, _, _, rfl, rfl, _, _, rfl, ?_⟩
        exact ⟨_, y, _, _, rfl, s610, ps, .inr ⟨by omega, ae⟩⟩
    · rintro σ H7 ⟨w, x, y8, y9, rfl, s7, pm, en⟩
      have e : ((R : Int) + 1 - 1).toNat = R := by omega
      rw [e] at pm
      have reach2 : ∀ r ∈ someR rs, r.1 * bot + bot ≤ (R : Int) + 1 := fun r hr => by
        have := reach r hr
        omega
      have wm : WaitMax (sumO bot os) (sumO bot ls) w := by
        refine wait_all (N := R) b1 b20 oo ol both t1 t2 (fun r hr => ?_) (fun r hr => ?_) one pm
        · rw [← eos] at hr
          exact reach2 r (List.mem_filter.mp hr).1
        · rw [← els] at hr
          exact reach2 r (List.mem_filter.mp hr).1
      exact ⟨_, rfl, k H7 (some w) (s16.trans s7) (.inr (.inr ⟨one, nb, w, rfl, wm⟩))⟩
end

/-- the longest wait of a kind in a stream, 0 of none -/
structure LongIs (rs : List Rw) (ss : Strm) (k m : Int) : Prop where
  nn : 0 ≤ m
  top : ∀ t c, t < ss.length + heldN ss ss.length → popC rs ss t = some c → c.1 = k → (t : Int) - c.2.1 ≤ m
  at_ : m = 0 ∨ ∃ t c, t < ss.length + heldN ss ss.length ∧ popC rs ss t = some c ∧ c.1 = k ∧ (t : Int) - c.2.1 = m
/-- no wait is longer than ends tell -/
theorem long_le {rs : List Rw} {ss : Strm} {bot k m : Int} {o : Option Int} {w : Int} (rok : RowsOk bot rs) (kp : Kept bot rs ss) (ok : ∀ ls ∈ ss, LotOk rs.length ls) (live : ∀ ls ∈ ss, ∀ l ∈ ls, ∃ r, rs.getD l none = some r) (h : LongIs rs ss k m) (wi : WaitIs bot rs k o) (eo : o = some w) : m ≤ w := by
  have none_ : ownR rs k = [] → ∀ t c, popC rs ss t = some c → c.1 ≠ k := fun z t c ep ck => by
    obtain ⟨u, l, _, hl, rfl⟩ := pop_in ep
    have hs : ss.getD u [] ∈ ss := by
      rw [List.getD_eq_getElem?_getD] at hl ⊢
      cases q : ss[u]? with
      | none => rw [q] at hl; cases hl
      | some ls => exact List.mem_of_getElem? q
    obtain ⟨r, hr⟩ := live _ hs l hl
    have hln := (ok _ hs).2 l hl
    have ck : kindOf rs l = k := ck
    unfold kindOf at ck
    rw [hr] at ck
    have hm : r ∈ ownR rs k := List.mem_filter.mpr ⟨List.mem_filterMap.mpr ⟨some r, by rw [← hr]; exact List.mem_of_getElem? (row_at hln), rfl⟩, decide_eq_true ck⟩
    rw [z] at hm
    cases hm
  rcases h.at_ with z | ⟨t, c, tT, ep, ck, e⟩
  · rcases wi with ⟨_, e⟩ | ⟨_, _, e⟩ | ⟨_, _, w', e, wm⟩
    · rw [eo] at e; cases e; omega
    · rw [eo] at e; cases e
    · rw [eo] at e; cases e
      have := wm.nn
      omega
  · rcases wi with ⟨z, _⟩ | ⟨_, _, z⟩ | ⟨_, nb, w', z, wm⟩
    · exact absurd ck (none_ z t c ep)
    · rw [eo] at z; cases z
    · rw [eo] at z
      cases z
      obtain ⟨t1, t2⟩ := bdl_no nb
      obtain ⟨d, x, d1, dx, ee, low⟩ := wait_le rok kp ok live ep
      rw [ck] at low
      obtain ⟨e0, ae, _⟩ := end_there rok.b1 rok.b20 (own_ok (k := k) rok) (les_ok (k := k) rok) (both_few rok.few) t1 t2 d
      have xe : x ≤ e0 := by
        rcases Nat.lt_or_ge e0 x with c1 | c1
        · have := low e0 ae.le c1
          have := ae.fits
          omega
        · exact c1
      have := wm.top d e0 d1 ae
      omega
/-- the soonest stream of the longest wait -/
theorem long_soo {rs : List Rw} {bot k m w : Int} {n : Nat} (rok : RowsOk bot rs) (one : ownR rs k ≠ []) (nb : bdl bot rs k = false) (wm : WaitMax (sumO bot (ownR rs k)) (sumO bot (lesR rs k)) w) (fi : First (sumO bot (ownR rs k)) (sumO bot (lesR rs k)) 419 w n) (h : LongIs rs (sooS bot rs n) k m) : m = w := by
  have up := long_le rok (soo_kept rok) soo_ok soo_live h (.inr (.inr ⟨one, nb, w, rfl, wm⟩)) rfl
  obtain ⟨t1, t2⟩ := bdl_no nb
  have lo : w ≤ m := by
    rcases fi with ⟨z, _⟩ | ⟨w0, d, d1, _, ae, ew, first⟩
    · have := h.nn
      omega
    · obtain ⟨t, c, tT, ep, ck, g⟩ := wait_at rok one t1 t2 ae d1 (fun d' e' g1 g2 g3 => by have := first d' e' g1 g2 g3; omega)
      have := h.top t c (by rw [soo_len]; exact tT) ep ck
      omega
  omega
section
variable {P : Program} {w : World} {K : PySem.W.Frag} {mg : Str → Option Value} {base : Heap} {A : Adr}
def spLongest : Sp := fun vs H Q _ => ∃ (a b : Addr) (bot : Int) (rs : List Rw) (ss : Strm) (kd : Nat), vs = [.ref a, .ref b, .int (kd : Int)] ∧ RowsAt H a rs ∧ RowsOk bot rs ∧ StrmAt H b ss ∧ (∀ ls ∈ ss, LotOk rs.length ls) ∧ (∀ ls ∈ ss, ∀ l ∈ ls, ∃ r, rs.getD l none = some r) ∧ ss.length ≤ 6000 ∧
  ∀ (H' : Hp) (m : Int), Same H H' → LongIs rs ss kd m → Q (.int m) H'
theorem ok_law_longest (T : Top K mg A) : FnOk P w K mg base CX0 2 A.a_law_longest A.d_law_longest P_law_longest spLongest := by
  refine T.F_law_longest.ok sc_law_longest (fun vs H Q E h => ?_) (fun cdv A' outer s H vs Q E hr h => ?_)
  · obtain ⟨a, b, bot, rs, ss, kd, rfl, _⟩ := h
    rfl
  · obtain ⟨a, b, bot, rs, ss, kd, rfl, ra, ok, sb, sok, live, hm, k⟩ := h
    refine ⟨_, (pss_one (ps_ret (pe_callB (cr_max rfl) (by rfl) T.z_max (by decide +kernel) (pa_cons (pe_op op_cat (pe_lst (pa_cons pe_int pa_nil)) (pe_lc (own := [("_law_beat", 3), ("_law_line", 4), ("_law_wait_here", 5)]) (by rfl) sc_law_longest.nd (pi_list (pe_ix ix_tup (pe_call (ok_law_played T) (hr.mono (by decide)) (by rfl) T.g_law_played T.F_law_played.kp T.b_law_played .nil pass0 (pa_cons (pv 0) (pa_cons (pv 1) pa_nil))) pe_int (fun _ _ => rfl))) (blkOk_by (own := [("_law_beat", 3), ("_law_line", 4), ("_law_wait_here", 5)]) (N := N_law_longest) (sc := defScope s_law_longest) (by decide +kernel)) (fun _ _ _ _ _ => (show PG _ _ (gTup K 3 _) from (pg_tup rfl (pgs_cons (pg_name (i := 3) sc_law_longest.nd rfl (.inl rfl)) (pgs_cons (pg_name (i := 4) sc_law_longest.nd rfl (.inl rfl)) (pgs_cons (pg_name (i := 5) sc_law_longest.nd rfl (.inl rfl)) pgs_nil)))))) (fun _ _ _ _ _ => (pts_one (pt_cmpR op_eq (pe_ix (show IxR _ (rIxT K) from ix_tup) (pe_ix (show IxR _ (rIxT K) from ix_tup) (pv 0) (pv 4) (fun _ _ => rfl)) pe_int (fun _ _ => rfl)) (pv 2) (nomark _)))) (fun _ _ _ _ _ => (pv 5)))) pa_nil)))), ?_⟩
    refine ⟨by show 1 ≤ sizeLine; decide, fun l nl => ?_⟩
    obtain ⟨H1, eH, s1, e1⟩ := newH nl (o := .lst [.int 0])
    rw [eH]
    clear eH
    refine ⟨_, rfl, _, rfl, a, b, bot, rs, ss, rfl, ra.same s1, ok, sb.same s1, sok, live, hm, fun H2 p x c ws s2 ep cw perm lw => ?_⟩
    obtain ⟨us, ew, aw⟩ := cw
    have luw := aw.len
    have s12 := s1.trans s2
    refine ⟨p, _, 1, _, rfl, rfl, SqT.of ep, atI_nat (j := 1) rfl, x, rfl, ⟨_, SqL.of ew⟩, fun D nD => ?_⟩
    obtain ⟨xs, ea, alr⟩ := ra.same s12
    refine lc_list (K := K) (a := x) (xs := us) (fun i H' => Same H2 H' ∧ H' D = some (.lst ((((ws.take i).filter fun y => decide (kindOf rs y.2.1.toNat = (kd : Int))).map fun y => y.2.2).map V.int))) ⟨same_upd nD, upd_same⟩ (fun i H' _ q => SqL.of (q.1 _ _ ew)) ?_ ?_
    · rintro i v H3 hv ⟨s3, e3⟩
      obtain ⟨y, hy, q, rfl, eq⟩ := aw.get hv
      have hi := (List.getElem?_eq_some_iff.mp hy).1
      obtain ⟨t, cc, tT, epop, ey⟩ := (waits_mem _).mp (perm.mem_iff.mp (List.mem_of_getElem? hy))
      obtain ⟨u, ln, _, hl, rfl⟩ := pop_in epop
      have hs : ss.getD u [] ∈ ss := by
        rw [List.getD_eq_getElem?_getD] at hl ⊢
        cases q : ss[u]? with
        | none => rw [q] at hl; cases hl
        | some ls => exact List.mem_of_getElem? q
      obtain ⟨⟨rb, rt, rk⟩, er⟩ := live _ hs ln hl
      have hln := (sok _ hs).2 ln hl
      have ek : kindOf rs ln = rk := by
        unfold kindOf
        rw [er]
      obtain ⟨rv, hrv, hrw⟩ := alr.getL (row_at hln)
      rw [er] at hrw
      obtain ⟨z, rfl, hz⟩ := hrw
      have ey1 : y.2.1 = (ln : Int) := by rw [ey]
      have eq3 := s3 _ _ eq
      rw [ey1] at eq3
      refine ⟨q, _, rfl, SqT.of eq3, rfl, _, _, rfl, _, _, rfl, _, _, rfl, rfl, by kernel_rfl, ?_⟩
      refine ⟨_, rfl, _, rfl, a, xs, _, _, rfl, rfl, SqT.of (s3 _ _ ea), atI_nat hrv, z, _, 2, _, rfl, rfl, SqT.of (s3 _ _ hz), atI_nat (j := 2) rfl, _, rfl, rfl, _, rfl, ?_⟩
      rw [dec_int, List.take_add_one, hy, List.filter_append]
      have ef : ((some y).toList.filter fun y => decide (kindOf rs y.2.1.toNat = (kd : Int))) = if rk = (kd : Int) then [y] else [] := by
        have e0 : decide (kindOf rs y.2.1.toNat = (kd : Int)) = decide (rk = (kd : Int)) := by
          rw [ey1, Int.toNat_natCast, ek]
        by_cases c : rk = (kd : Int)
        · rw [if_pos c]
          exact List.filter_cons_of_pos (p := fun y : Cel => decide (kindOf rs y.2.1.toNat = (kd : Int))) (by rw [e0]; exact decide_eq_true c)
        · rw [if_neg c]
          exact List.filter_cons_of_neg (p := fun y : Cel => decide (kindOf rs y.2.1.toNat = (kd : Int))) (by rw [e0, decide_eq_true_eq]; exact c)
      rw [ef]
      by_cases c : rk = (kd : Int)
      · rw [decide_eq_true c, if_pos c]
        refine iteT ⟨_, rfl, _, e3, ?_, same_to s3 nD, ?_⟩
        · have lf := List.length_filter_le (fun y : Cel => decide (kindOf rs y.2.1.toNat = (kd : Int))) (ws.take i)
          rw [List.length_take] at lf
          rw [List.length_map, List.length_map]
          exact Nat.lt_of_le_of_lt (show _ ≤ 100000 by omega) (by decide)
        · rw [upd_same, List.map_append, List.map_append]
          rfl
      · rw [decide_eq_false c, if_neg c, List.append_nil]
        exact iteF ⟨s3, e3⟩
    · rintro H3 ⟨s3, e3⟩
      rw [← luw, List.take_length] at e3
      have e13 := s3 _ _ (s2 _ _ e1)
      refine ⟨l, D, [.int 0], _, rfl, rfl, e13, e3, ?_, fun N nN => ?_⟩
      · have lf := List.length_filter_le (fun y : Cel => decide (kindOf rs y.2.1.toNat = (kd : Int))) ws
        rw [List.length_map, List.length_map]
        exact Nat.le_of_lt (Nat.lt_of_le_of_lt (show 1 + _ ≤ 100000 by omega) (by decide))
      have s4 := same_upd nN (o := .lst ([.int 0] ++ (((ws.filter fun y => decide (kindOf rs y.2.1.toNat = (kd : Int))).map fun y => y.2.2).map V.int)))
      refine ⟨N, 0 :: (ws.filter fun y => decide (kindOf rs y.2.1.toNat = (kd : Int))).map fun y => y.2.2, rfl, SqL.of upd_same, Nat.succ_pos _, fun m hmem top => ?_⟩
      have key : ∀ t c, t < ss.length + heldN ss ss.length → popC rs ss t = some c → (kindOf rs c.2.2.toNat = c.1) := fun t c _ ep => by
        obtain ⟨u, ln, _, _, rfl⟩ := pop_in ep
        show kindOf rs (ln : Int).toNat = kindOf rs ln
        rw [Int.toNat_natCast]
      refine k _ m ((s12.trans s3).trans s4) ⟨top 0 List.mem_cons_self, fun t c tT ep ck => ?_, ?_⟩
      · refine top _ (List.mem_cons_of_mem _ (List.mem_map.mpr ⟨(c.2.1, c.2.2, (t : Int) - c.2.1), List.mem_filter.mpr ⟨perm.mem_iff.mpr ((waits_mem _).mpr ⟨t, c, tT, ep, rfl⟩), ?_⟩, rfl⟩))
        exact decide_eq_true (show kindOf rs c.2.2.toNat = (kd : Int) by rw [key t c tT ep]; exact ck)
      · rcases List.mem_cons.mp hmem with z | z
        · exact .inl z
        · obtain ⟨y, hy, rfl⟩ := List.mem_map.mp z
          obtain ⟨h1, h2⟩ := List.mem_filter.mp hy
          obtain ⟨t, c, tT, ep, rfl⟩ := (waits_mem _).mp (perm.mem_iff.mp h1)
          refine .inr ⟨t, c, tT, ep, ?_, rfl⟩
          have h2 : kindOf rs c.2.2.toNat = (kd : Int) := of_decide_eq_true h2
          rw [← key t c tT ep]
          exact h2
end

section
variable {P : Program} {w : World} {K : PySem.W.Frag} {mg : Str → Option Value} {base : Heap} {A : Adr}
/-- what _law_word tells of a call that raises -/
def ttWord (A : Adr) (tl : XK → Hp → VK → Prop) (H : Hp) (Q : VK) : Prop :=
  ∀ (E : XK) (Q' : VK), (∀ H', Same H H' → (∀ H'', Same H' H'' → Q (.str "boundless") H'') → E (.ref A.c_Boundless) none H') → (∀ H', Same H H' → (∀ H'', Same H' H'' → Q (.str "cell") H'') → E (.ref A.c_NoCell) none H') → tl E H Q'
theorem word_aux (T : Top K mg A) {outer : List Env} {A' : Around} (cdv : Value) (f c' : Addr) (s : Shared) (H : Hp) (Q : VK) (q : Str) (tl : XK → Hp → VK → Prop)
    (hc : ∀ (W : WX) (pn : List (Addr × Obj)) (xe : Value → Shared → Prop) (E : XK) (p1 p2 : Pos), Takes ((cxOf C8.CX0 P w K mg base N_law_word "_law_word" (defScope s_law_word) A.a_law_word cdv A' outer s H C8.E0).tr pn xe) W →
      (∀ (cls : Value) (d : Option Addr) (σ' : L2.St) (H' : Hp), E cls d H' → W cls d σ' H') →
      PE ((cxOf C8.CX0 P w K mg base N_law_word "_law_word" (defScope s_law_word) A.a_law_word cdv A' outer s H C8.E0).tr pn xe) ((Expr.Name "_law_call" p1).Call [] [] p2) fun σZ HZ Q => σZ[0]? = some (some (V.ref f)) ∧ HZ c' = some (LamX.CodeO c' q) ∧ tl E HZ Q)
    (hC : H c' = some (LamX.CodeO c' q)) (hT : ttWord A tl H Q) :
    ∃ t, PSs (cxOf C8.CX0 P w K mg base N_law_word "_law_word" (defScope s_law_word) A.a_law_word cdv A' outer s H C8.E0).nox (defBody s_law_word) t ∧ t { nx := fun x H' => Q V.non H', rt := Q } (L2.start N_law_word [V.ref f]) H := by
  refine ⟨_, (pss_cons (ps_set (i := 1) sc_law_word.nd rfl (.inl rfl) pe_str)
    (pss_cons (ps_try_as (i := 2) rfl rfl sc_law_word.nd rfl rfl (by exact ⟨rfl, by decide, .inl T.gc_FabricError⟩) LamX.takes0 (fun W pn xe tk _ => (pss_one (ps_expr (hc (GX.WL 3 W) pn xe (GX.EE 3 W) _ _ (GX.takes_len tk) (fun _ _ _ _ h hl => h _ hl))))) (fun a oe cls d pn hz hf => by exact (pss_one (ps_set (i := 1) sc_law_word.nd rfl (.inl rfl) (pe_ifExp (pt_val (pe_callB (GX.call_isEa (a := a) (pn := pn) hz hf) (by rfl) T.z_isinstance (by decide +kernel) (pa_cons (pv 2) (pa_cons (pe_glob (v := .ref A.c_Boundless) (by rfl) T.gc_Boundless (by rfl)) pa_nil)))) pe_str (pe_ifExp (pt_val (pe_callB (GX.call_isEa (a := a) (pn := pn) hz hf) (by rfl) T.z_isinstance (by decide +kernel) (pa_cons (pv 2) (pa_cons (pe_glob (v := .ref A.c_NoCell) (by rfl) T.gc_NoCell (by rfl)) pa_nil)))) pe_str pe_str))))))
    (pss_one (ps_ret (pv 1))))), ?_⟩
  refine ⟨rfl, hC, hT _ _ (fun H' s0 hQ => ?_) (fun H' s0 hQ => ?_)⟩
  · intro σ hσ
    obtain ⟨x0, x1, x2, rfl⟩ : ∃ x0 x1 x2, σ = [x0, x1, x2] := by
      match σ, hσ with
      | [x0, x1, x2], _ => exact ⟨x0, x1, x2, rfl⟩
    have xD : ExcC K A.c_Boundless := ⟨T.e1_Boundless, T.e2_Boundless, T.s_Boundless, T.e3_Boundless, T.e4_Boundless, T.en1, T.en2, T.e5_Boundless⟩
    refine ⟨true, T.xm_Boundless_FabricError, fun _ a ha => ?_, fun z => by cases z⟩
    refine ⟨_, rfl, A.c_Boundless, rfl, xD, .inl rfl, _, _, true, rfl, fun u r => r, T.kt_Boundless_Boundless, true, rfl, iteT ?_⟩
    exact ⟨_, rfl, hQ _ fun _ _ e => e⟩
  · intro σ hσ
    obtain ⟨x0, x1, x2, rfl⟩ : ∃ x0 x1 x2, σ = [x0, x1, x2] := by
      match σ, hσ with
      | [x0, x1, x2], _ => exact ⟨x0, x1, x2, rfl⟩
    have xD : ExcC K A.c_NoCell := ⟨T.e1_NoCell, T.e2_NoCell, T.s_NoCell, T.e3_NoCell, T.e4_NoCell, T.en1, T.en2, T.e5_NoCell⟩
    refine ⟨true, T.xm_NoCell_FabricError, fun _ a ha => ?_, fun z => by cases z⟩
    refine ⟨_, rfl, A.c_NoCell, rfl, xD, .inl rfl, _, _, false, rfl, fun u r => r, T.kt_NoCell_Boundless, false, rfl, iteF ?_⟩
    refine ⟨_, rfl, A.c_NoCell, rfl, xD, .inl rfl, _, _, true, rfl, fun u r => r, T.kt_NoCell_NoCell, true, rfl, iteT ?_⟩
    exact ⟨_, rfl, hQ _ fun _ _ e => e⟩
theorem gives_law_word (T : Top K mg A) {X : Cx} {q : Str} (hK : X.K = K) (hm : X.mg = mg) : ∀ cdv, LamX.GivesTo X N_law_word "_law_word" (defScope s_law_word) A.a_law_word cdv (defBody s_law_word) "_law_call" q (ttWord A) := by
  intro cdv f c' s H Q tl hc hC hT
  cases hK
  cases hm
  exact word_aux T cdv f c' s H Q q tl hc hC hT
theorem there_len {rs : List Rw} : (thereL rs).length ≤ rs.length := Nat.le_trans (List.length_filter_le _ _) (by rw [List.length_range]; exact Nat.le_refl _)
def spSmall : Sp := fun vs H Q _ => ∃ (h g : Addr), vs = [.ref h] ∧ HandAt H h g ∧ ∀ H', Kp h H H' → HandAt H' h g → Q (.bl true) H'
theorem ok_law_small_right (T : Top K mg A) : FnOk P w K mg base CX0 7 A.a_law_small_right A.d_law_small_right P_law_small_right spSmall := by
  refine T.F_law_small_right.ok sc_law_small_right (fun vs H Q E h => ?_) (fun cdv A' outer s H vs Q E hr h => ?_)
  · obtain ⟨h, g, rfl, _⟩ := h
    rfl
  · obtain ⟨h, g, rfl, ha, kq⟩ := h
    refine ⟨_, (pss_cons (ps_set (i := 1) sc_law_small_right.nd rfl (.inl rfl) (pe_op op_add pe_int (pe_call (ok_law_draw T) (hr.mono (by decide)) (by rfl) T.g_law_draw T.F_law_draw.kp T.b_law_draw .nil pass0 (pa_cons (pv 0) (pa_cons pe_int pa_nil)))))
    (pss_cons (ps_set (i := 2) sc_law_small_right.nd rfl (.inr rfl) (pe_call (ok_law_rows T) (hr.mono (by decide)) (by rfl) T.g_law_rows T.F_law_rows.kp T.b_law_rows .nil pass0 (pa_cons (pv 0) (pa_cons pe_int (pa_cons (pv 1) (pa_cons pe_int (pa_cons pe_int pa_nil)))))))
    (pss_cons (ps_set (i := 3) sc_law_small_right.nd rfl (.inl rfl) (pe_ifExp (pt_cmpR op_gt (pe_callB call_len_seq (by rfl) T.z_len (by decide +kernel) (pa_cons (pe_lc (own := [("_law_row", 7)]) (by rfl) sc_law_small_right.nd (pi_tup (pv 2)) (blkOk_by (own := [("_law_row", 7)]) (N := N_law_small_right) (sc := defScope s_law_small_right) (by decide +kernel)) (fun _ _ _ _ _ => (pg_name (i := 7) sc_law_small_right.nd rfl (.inl rfl))) (fun _ _ _ _ _ => (pts_one (pt_cmpR op_notN (pv 7) pe_non (nomark _)))) (fun _ _ _ _ _ => (pv 7))) pa_nil)) pe_int (nomark _)) pe_int pe_int))
    (pss_cons (ps_set (i := 4) sc_law_small_right.nd rfl (.inl rfl) (pe_call (ok_law_all T) (hr.mono (by decide)) (by rfl) T.g_law_all T.F_law_all.kp T.b_law_all .nil pass0 (pa_cons (pv 2) (pa_cons (pv 1) (pa_cons (pv 3) pa_nil)))))
    (pss_cons (ps_for PassesOwn.never rfl (pi_range1 rfl T.z_range (pa_cons pe_int pa_nil)) (pg_name (i := 5) sc_law_small_right.nd rfl (.inr rfl)) (pss_cons (ps_set (i := 6) sc_law_small_right.nd rfl (.inl rfl) (pe_call (ok_law_wait T) (hr.mono (by decide)) (by rfl) T.g_law_wait T.F_law_wait.kp T.b_law_wait .nil pass0 (pa_cons (pv 2) (pa_cons (pv 1) (pa_cons (pv 5) pa_nil)))))
    (pss_one (ps_if (PW.pt (pw_and (pt_cmpR op_notN (pv 6) pe_non (nomark _)) (pw_and1 (pt_cmpR op_gt (pe_callB (cr_max rfl) (by rfl) T.z_max (by decide +kernel) (pa_cons (pe_lc (own := [("_law_stream_here", 8)]) (by rfl) sc_law_small_right.nd (pi_list (pv 4)) (blkOk_by (own := [("_law_stream_here", 8)]) (N := N_law_small_right) (sc := defScope s_law_small_right) (by decide +kernel)) (fun _ _ _ _ _ => (pg_name (i := 8) sc_law_small_right.nd rfl (.inl rfl))) (fun _ _ _ _ _ => pts_nil) (fun _ _ _ _ _ => (pe_call (ok_law_longest (P := P) (w := w) T) (hr.mono (by decide)) (by rfl) T.g_law_longest T.F_law_longest.kp T.b_law_longest .nil pass0 (pa_cons (pv 2) (pa_cons (pv 8) (pa_cons (pv 5) pa_nil)))))) pa_nil)) (pv 6) (nomark _))))) (pss_one (ps_ret pe_bl)) pss_nil))))
    (pss_one (ps_ret pe_bl))))))), ?_⟩
    refine ⟨_, rfl, h, g, 3, rfl, ha, by decide, by decide, fun H1 d b1 a1 d0 d1 => ⟨1, d, rfl, rfl, ?_⟩⟩
    refine ⟨_, rfl, _, rfl, h, g, 3, 1 + d, 2, 4, rfl, a1, by decide, by omega, by decide, by decide, fun H2 a rs k2 a2 ra ok len3 => ?_⟩
    have k02 := b1.kp.trans k2
    have t3 : (thereL rs).length ≤ 3 := Nat.le_trans there_len (by omega)
    clear b1 k2 a1 ha
    have done : ∀ H', Same H2 H' → Q (.bl true) H' := fun H' s => kq H' (k02.same s) (a2.same s)
    have ra0 := ra
    obtain ⟨xs, ea, alr⟩ := ra
    have lx := alr.len
    have few := ok.few
    refine ⟨_, rfl, a, rfl, ⟨_, SqT.of ea⟩, fun D nD => ?_⟩
    refine lc_tup (K := K) (a := a) (xs := xs) (fun i H' => ∃ us : List V, Same H2 H' ∧ H' D = some (.lst us) ∧ us.length ≤ i) ⟨[], same_upd nD, upd_same, Nat.le_refl _⟩ (fun i H' _ ⟨_, s, _⟩ => SqT.of (s _ _ ea)) ?_ ?_
    · rintro i x H4 hx ⟨us, s4, e4, l4⟩
      have hi := (List.getElem?_eq_some_iff.mp hx).1
      obtain ⟨r, hr1, hv⟩ := alr.get hx
      refine ⟨rfl, ?_⟩
      match r, hv with
      | none, hv =>
        cases (show x = V.non from hv)
        exact ⟨_, rfl, rfl, _, rfl, iteF ⟨us, s4, e4, Nat.le_succ_of_le l4⟩⟩
      | some (rb, rt, rk), hv =>
        obtain ⟨z, rfl, hz⟩ := hv
        exact ⟨_, rfl, rfl, _, rfl, iteT ⟨_, rfl, us, e4, lts (by omega), us ++ [.ref z], same_to s4 nD, upd_same, by rw [List.length_append]; exact Nat.succ_le_succ l4⟩⟩
    rintro H4 ⟨us, s4, e4, l4⟩
    refine ⟨D, us, rfl, .inl (SqL.of e4), _, _, rfl, rfl, _, rfl, ?_⟩
    refine ite2 (fun _ => ?_) (fun _ => ?_)
    all_goals
      first
        | (obtain ⟨k, hk, k5⟩ : ∃ k : Nat, V.int 3 = V.int (k : Int) ∧ k ≤ 5 := ⟨3, rfl, by decide⟩
           refine Eq.mpr (congrArg (fun v => gName 3 v _ _ _) hk) ?_)
        | (obtain ⟨k, hk, k5⟩ : ∃ k : Nat, V.int 5 = V.int (k : Int) ∧ k ≤ 5 := ⟨5, rfl, by decide⟩
           refine Eq.mpr (congrArg (fun v => gName 3 v _ _ _) hk) ?_)
      refine ⟨_, rfl, _, rfl, _, rfl, a, 1 + d, rs, k, rfl, ra0.same s4, ok, t3, k5, fun H5 p us lots s5 e5 al5 hp => ?_⟩
      have hl : ∀ ls ∈ lots, LotOk rs.length ls ∧ ∀ l ∈ ls, ∃ r, rs.getD l none = some r := fun ls h => lots_ok (hp.mem_iff.mp h)
      have ll8 : lots.length ≤ 8 := by
        have z := hp.length_eq
        unfold lotsOf at z
        rw [List.length_map, sub_len] at z
        rw [z]
        exact Nat.le_trans (Nat.pow_le_pow_right (by decide) t3) (by decide)
      have la := all_len (bot := 1 + d) (rs := rs) ll8 k
      have p8 : 8 ^ k ≤ 8 ^ 5 := Nat.pow_le_pow_right (by decide) k5
      have p8 : 8 ^ k ≤ 32768 := p8
      have good : ∀ ss ∈ allS (1 + d) rs lots k, ss.length = k ∧ Kept (1 + d) rs ss ∧ (∀ ls ∈ ss, LotOk rs.length ls) ∧ (∀ ls ∈ ss, ∀ l ∈ ls, ∃ r, rs.getD l none = some r) := fun ss h => by
        obtain ⟨g1, g2, g3⟩ := all_ok hl k ss h
        exact ⟨g1, kept_of ok g2, fun ls h => (g3 ls h).1, fun ls h => (g3 ls h).2⟩
      have soom := all_soo (lots := lots) ok (fun ls h => hp.mem_iff.mpr h) k
      have s25 := s4.trans s5
      refine ⟨3, rfl, by decide, by decide, ?_⟩
      refine for_range (lo := 0) (n := (3 : Int).toNat) (fun i σ H' => ∃ y5 y6 : Option V, σ = [some (.ref h), some (.int (1 + d)), some (.ref a), some (.int (k : Int)), some (.ref p), y5, y6, none, none] ∧ Same H5 H') ⟨_, _, rfl, fun _ _ e => e⟩ ?_ ?_
      · rintro i σ H6 hi ⟨y5, y6, rfl, s6⟩
        have s26 := s25.trans s6
        refine ⟨_, rfl, _, rfl, _, rfl, a, 1 + d, rs, i, ?_, ra0.same s26, ok, fun H7 o s7 wi => ?_⟩
        · show [V.ref a, V.int (1 + d), V.int (0 + (i : Int))] = _
          rw [Int.zero_add]
        cases o with
        | none => exact ⟨_, rfl, rfl, _, rfl, iteF ⟨_, _, rfl, s6.trans s7⟩⟩
        | some wt =>
          have s27 := s26.trans s7
          have s57 := s6.trans s7
          have e7 := s57 _ _ e5
          refine ⟨_, rfl, rfl, _, rfl, iteT ⟨_, rfl, p, rfl, ⟨_, SqL.of e7⟩, fun F nF => ?_⟩⟩
          refine lc_list (K := K) (a := p) (xs := us) (fun j H' => ∃ ms : List Int, Same H7 H' ∧ H' F = some (.lst (ms.map V.int)) ∧ All2 (fun ss m => LongIs rs ss (i : Int) m) ((allS (1 + d) rs lots k).take j) ms) ⟨[], same_upd nF, upd_same, .nil⟩ (fun j H' _ ⟨_, s, _⟩ => SqL.of (s _ _ e7)) ?_ ?_
          · rintro j x H8 hx ⟨ms, s8, e8, al8⟩
            obtain ⟨ss, hss, sa, rfl, st⟩ := al5.get hx
            obtain ⟨g1, g2, g3, g4⟩ := good ss (List.mem_of_getElem? hss)
            have lm := al8.len
            rw [List.length_take] at lm
            refine ⟨by kernel_rfl, ?_⟩
            refine ⟨_, rfl, _, rfl, _, rfl, a, sa, 1 + d, rs, ss, i, ?_, ra0.same (s27.trans s8), ok, st.same (s57.trans s8), g3, g4, by omega, fun H9 m s9 lg => ?_⟩
            · show [V.ref a, V.ref sa, V.int (0 + (i : Int))] = _
              rw [Int.zero_add]
            refine ⟨_, s9 _ _ e8, Nat.lt_of_le_of_lt (show _ ≤ 100000 by rw [List.length_map]; omega) (by decide), ms ++ [m], same_to (s8.trans s9) nF, ?_, ?_⟩
            · rw [upd_same, List.map_append]
              rfl
            · rw [List.take_add_one, hss]
              exact al8.snoc lg
          · rintro H8 ⟨ms, s8, e8, al8⟩
            rw [List.take_of_length_le (by rw [al5.len]; exact Nat.le_refl _)] at al8
            obtain ⟨si, hsi⟩ := List.getElem?_of_mem soom
            obtain ⟨sm, hsm, _⟩ := al8.getL hsi
            have ne : 0 < ms.length := Nat.lt_of_le_of_lt (Nat.zero_le _) (List.getElem?_eq_some_iff.mp hsm).1
            refine ⟨F, ms, rfl, SqL.of e8, ne, fun m hmem top => ?_⟩
            obtain ⟨ss, hss, lg⟩ := al8.mem hmem
            obtain ⟨g1, g2, g3, g4⟩ := good ss hss
            have le := long_le ok g2 g3 g4 lg wi rfl
            refine ⟨_, rfl, _, _, rfl, rfl, _, rfl, ?_⟩
            rw [decide_eq_false (by omega)]
            exact iteF ⟨_, _, rfl, s57.trans s8⟩
      · rintro σ H6 ⟨y5, y6, rfl, s6⟩
        exact done _ (s25.trans s6)
end

/-! ### the law -/
abbrev Tb (P : Addr) (q : Str) (H : Hp) : Prop := LamX.Tabs [(P, q)] H
theorem Tb.kp {P x : Addr} {q : Str} {H H' : Hp} (t : Tb P q H) (k : Kp x H H') (hx : ∃ o, H x = some o ∧ NT o ∧ ∀ f, o ≠ .ext f) : Tb P q H' := by
  obtain ⟨o, hx, n1, n2⟩ := hx
  intro p hp
  obtain ⟨ps, e1, e2, e3⟩ := t p hp
  refine ⟨ps, k _ _ (fun z => ?_) e1, e2, fun pos cv hc => ?_⟩
  · rw [z, hx] at e1
    exact n1 _ (Option.some.inj e1)
  · obtain ⟨c, rfl, e4⟩ := e3 pos cv hc
    refine ⟨c, rfl, k _ _ (fun z => ?_) e4⟩
    rw [z, hx] at e4
    exact n2 _ (Option.some.inj e4)
theorem Tb.same {P : Addr} {q : Str} {H H' : Hp} (t : Tb P q H) (s : Same H H') : Tb P q H' := LamX.Tabs.ext t s
theorem Tb.hand {P h g : Addr} {q : Str} {H H' : Hp} (t : Tb P q H) (k : Kp h H H') (a : HandAt H h g) : Tb P q H' := by
  obtain ⟨i, m, s, tt, e, _⟩ := a.five
  exact t.kp k ⟨_, e, nt_lst, fun _ z => by cases z⟩
theorem Tb.put {P p : Addr} {q : Str} {H : Hp} {xs zs : List V} (t : Tb P q H) (e : H p = some (.lst xs)) : Tb P q (upd H p (.lst zs)) :=
  t.kp (x := p) (fun b o hb f => by rw [upd_ne hb]; exact f) ⟨_, e, nt_lst, fun _ z => by cases z⟩
theorem HandAt.ext {h g : Addr} {H H' : Hp} (a : HandAt H h g) (k : LamX.ExtN H H') : HandAt H' h g :=
  ⟨by obtain ⟨ns, e⟩ := a.cells; exact ⟨ns, k _ _ e nt_lst⟩, by obtain ⟨i, m, s', t, e, q⟩ := a.five; exact ⟨i, m, s', t, k _ _ e nt_lst, q⟩, a.ne⟩
/-- the hand and the table of the law's words -/
structure Hd (A : Adr) (h g : Addr) (H : Hp) : Prop where
  hand : HandAt H h g
  tb : Tb A.tb_law_kind_right qlam_law_kind_right H
section
variable {A : Adr} {h g : Addr} {H H' : Hp}
theorem Hd.same (w : Hd A h g H) (s : Same H H') : Hd A h g H' := ⟨w.hand.same s, w.tb.same s⟩
theorem Hd.kp (w : Hd A h g H) (k : Kp h H H') (a : HandAt H' h g) : Hd A h g H' := ⟨a, w.tb.hand k w.hand⟩
theorem Hd.ext (w : Hd A h g H) (k : LamX.ExtN H H') (t : Tb A.tb_law_kind_right qlam_law_kind_right H') : Hd A h g H' := ⟨w.hand.ext k, t⟩
end
/-- what is no table and not the hand stays -/
def KN (h : Addr) (H H' : Hp) : Prop := ∀ q o, q ≠ h → H q = some o → NT o → H' q = some o
theorem KN.refl (h : Addr) (H : Hp) : KN h H H := fun _ _ _ e _ => e
theorem KN.s {h : Addr} {H H1 H2 : Hp} (k : KN h H H1) (s : Same H1 H2) : KN h H H2 := fun q o n e t => s _ _ (k q o n e t)
theorem KN.k {h : Addr} {H H1 H2 : Hp} (k : KN h H H1) (s : Kp h H1 H2) : KN h H H2 := fun q o n e t => s q o n (k q o n e t)
theorem KN.x {h : Addr} {H H1 H2 : Hp} (k : KN h H H1) (s : LamX.ExtN H1 H2) : KN h H H2 := fun q o n e t => s _ _ (k q o n e t) t
theorem BkAt.ext {C : Addr} {H H' : Hp} {p : Addr} {bot : Int} {rs : List Rw} (t : BkAt C H p bot rs) (k : LamX.ExtN H H') : BkAt C H' p bot rs := by
  obtain ⟨dx, a, e, r⟩ := t
  exact ⟨dx, a, k _ _ e nt_ins, r.mv fun q xs e => k _ _ e nt_tup⟩
theorem make_bk2 {C : Addr} {H1 : Hp} {a x dx : Addr} {bot : Int} {rs : List Rw} {R : Hp → Prop} {E : XK} (ra : RowsAt H1 a rs) (ok : RowsOk bot rs) (nx : H1 x = none) (nd : H1 dx = none) (ne : dx ≠ x) (k : ∀ H', Same H1 H' → BkAt C H' x bot rs → R H') :
    spInit C [.ref x, .int bot, .ref a] (upd (upd H1 dx (.own x)) x (.ins C dx [])) (fun v H2 => v = .non ∧ R H2) E := by
  have s0 : Same H1 (upd (upd H1 dx (.own x)) x (.ins C dx [])) := fun q o e => by
    rw [upd_ne (ne_of_none e nx), upd_ne (ne_of_none e nd)]
    exact e
  refine ⟨x, dx, a, bot, rs, rfl, upd_same, ra.same s0, ok, fun H' kp e => ⟨rfl, ?_⟩⟩
  have s := mk_same nx nd kp
  exact k H' s ⟨dx, a, e, ra.same s⟩
def isK (k : Int) : Rw → Bool
  | none => false
  | some t => decide (t.2.2 = k)
theorem any_own {k : Int} : ∀ rs : List Rw, ((rs.map (isK k)).any id) = !(ownR rs k).isEmpty
  | [] => rfl
  | none :: rs => by
    have ih := any_own (k := k) rs
    show (false || ((rs.map (isK k)).any id)) = !(ownR rs k).isEmpty
    rw [Bool.false_or, ih]
  | some t :: rs => by
    have ih := any_own (k := k) rs
    show (decide (t.2.2 = k) || ((rs.map (isK k)).any id)) = !(((t :: someR rs).filter fun r => decide (r.2.2 = k)).isEmpty)
    by_cases c : t.2.2 = k
    · rw [decide_eq_true c, List.filter_cons_of_pos (p := fun r : Int × Int × Int => decide (r.2.2 = k)) (decide_eq_true c)]
      rfl
    · rw [decide_eq_false c, List.filter_cons_of_neg (p := fun r : Int × Int × Int => decide (r.2.2 = k)) (by rw [decide_eq_true_eq]; exact c), Bool.false_or, ih]
      rfl
/-- a line of the kind sends at once -/
theorem soo_first {bot k : Int} {rs : List Rw} {m : Nat} (ok : RowsOk bot rs) (one : ownR rs k ≠ []) (hm : 1 ≤ m) : ∃ ls l, ls ∈ sooS bot rs m ∧ l ∈ ls ∧ kindOf rs l = k := by
  obtain ⟨r0, hr0⟩ : ∃ r, r ∈ ownR rs k := by
    cases c : ownR rs k with
    | nil => exact absurd c one
    | cons r l => exact ⟨r, List.mem_cons_self⟩
  obtain ⟨h1, h2⟩ := List.mem_filter.mp hr0
  obtain ⟨r, hr, e⟩ := List.mem_filterMap.mp h1
  have e : r = some r0 := e
  subst e
  obtain ⟨l, hl⟩ := List.getElem?_of_mem hr
  have hll := (List.getElem?_eq_some_iff.mp hl).1
  have eg : rs.getD l none = some r0 := by
    rw [List.getD_eq_getElem?_getD, hl]
    rfl
  refine ⟨(List.range rs.length).filter fun l => sndB bot rs l 0, l, List.mem_map.mpr ⟨0, List.mem_range.mpr (by omega), rfl⟩, List.mem_filter.mpr ⟨List.mem_range.mpr hll, ?_⟩, ?_⟩
  · unfold sndB
    rw [eg]
    have z := sent_0 (ok.ok _ hr)
    obtain ⟨⟨b1, _⟩, ⟨t0, _⟩, _⟩ := ok.ok _ hr
    have q0 : 0 ≤ r0.2.1 * ((0 + 1 : Nat) : Int) / bot := Int.ediv_nonneg (Int.mul_nonneg t0 (by omega)) (by have := ok.b1; omega)
    have q : 1 ≤ mn ((0 + 1 : Nat) : Int) (r0.1 + r0.2.1 * ((0 + 1 : Nat) : Int) / bot) := by
      rw [le_mn]
      exact ⟨by omega, by omega⟩
    refine decide_eq_true ?_
    show sentR bot (0 : Int) (some r0) < mn ((0 + 1 : Nat) : Int) (r0.1 + r0.2.1 * ((0 + 1 : Nat) : Int) / bot)
    rw [z]
    omega
  · unfold kindOf
    rw [eg]
    exact of_decide_eq_true h2
section
variable {P : Program} {w : World} {K : PySem.W.Frag} {mg : Str → Option Value} {base : Heap} {A : Adr}
def spKind (A : Adr) : Sp := fun vs H Q _ => ∃ (h g a : Addr) (bot : Int) (rs : List Rw) (kd : Nat), vs = [.ref h, .ref a, .int bot, .int (kd : Int)] ∧ Hd A h g H ∧ RowsAt H a rs ∧ RowsOk bot rs ∧ kd ≤ 7 ∧ ∀ H', KN h H H' → Hd A h g H' → Q (.bl true) H'
theorem ok_law_kind_right (T : Top K mg A) (B : Tbs base mg A) : FnOk P w K mg base CX0 16 A.a_law_kind_right A.d_law_kind_right P_law_kind_right (spKind A) := by
  refine T.L_law_kind_right.ok sc_law_kind_right (fun vs H Q E h => ?_) (fun A' outer s H vs Q E hr h => ?_)
  · obtain ⟨h, g, a, bot, rs, kd, rfl, _⟩ := h
    rfl
  · obtain ⟨h, g, a, bot, rs, kd, rfl, wd, ra, ok, k7, kq⟩ := h
    refine ⟨_, (pss_cons (ps_asg (pe_tup (pa_cons (pe_make T.mk_Buckets (ok_Buckets___init__ T) (hr.mono (by decide)) (by rfl) T.gc_Buckets T.b_Buckets___init__ .nil pass0 (pa_cons (pv 2) (pa_cons (pv 1) pa_nil))) (pa_cons (pe_call (ok_law_wait T) (hr.mono (by decide)) (by rfl) T.g_law_wait T.F_law_wait.kp T.b_law_wait .nil pass0 (pa_cons (pv 1) (pa_cons (pv 2) (pa_cons (pv 3) pa_nil)))) pa_nil))) (pg_tup rfl (pgs_cons (pg_name (i := 10) sc_law_kind_right.nd rfl (.inr rfl)) (pgs_cons (pg_name (i := 4) sc_law_kind_right.nd rfl (.inl rfl)) pgs_nil))))
    (pss_cons (ps_if (pt_not (pt_val (pe_call (ok_law_same T) (hr.mono (by decide)) (by rfl) T.g_law_same T.F_law_same.kp T.b_law_same .nil pass0 (pa_cons (pe_call (ok_greatest_wait T) (hr.mono (by decide)) (by rfl) T.g_greatest_wait T.F_greatest_wait.kp T.b_greatest_wait .nil pass0 (pa_cons (pv 10) (pa_cons (pv 3) pa_nil))) (pa_cons (pv 4) pa_nil))))) (pss_one (ps_ret pe_bl)) pss_nil)
    (pss_cons (ps_set (i := 5) sc_law_kind_right.nd rfl (.inl rfl) (pe_callB (cr_any rfl) (by rfl) T.z_any (by decide +kernel) (pa_cons (pe_lc (own := [("_law_row", 11)]) (by rfl) sc_law_kind_right.nd (pi_tup (pv 1)) (blkOk_by (own := [("_law_row", 11)]) (N := N_law_kind_right) (sc := defScope s_law_kind_right) (by decide +kernel)) (fun _ _ _ _ _ => (pg_name (i := 11) sc_law_kind_right.nd rfl (.inl rfl))) (fun _ _ _ _ _ => pts_nil) (fun _ _ _ _ _ => (pe_and (pe_cmpR op_notN (pv 11) pe_non (nomark _)) (pe_one (pe_cmpR op_eq (pe_ix (show IxR _ (rIxT K) from ix_tup) (pv 11) pe_int (fun _ _ => rfl)) (pv 3) (nomark _)))))) pa_nil)))
    (pss_cons (ps_if (PW.pt (pw_or (pt_not (pt_truth (pv 5) (by intro _; rfl))) (pw_or1 (pt_cmpR op_isN (pv 4) pe_non (nomark _))))) (pss_one (ps_ret (pe_cmpR op_eq (GX.pe_lam (k := 12) (T := [(A.tb_law_kind_right, qlam_law_kind_right)]) T.F_law_word sc_law_word (by rfl) T.g_law_word T.b_law_word rfl (.inl rfl) (gives_law_word T rfl rfl) B.t_law_kind_right rfl (List.mem_singleton.mpr rfl) (fun p hp _ => by rw [List.mem_singleton.mp hp]; rfl) (hr.mono (by decide)) (show LamX.LamS (defScope s_law_kind_right) _ from LamX.lamS_by (by decide +kernel)) rfl (fun _ _ _ _ _ => rfl) (fun _ _ _ _ _ _ _ hr => (pe_call (ok_worst_stream_for T) (hr.mono (by decide)) (by rfl) T.g_worst_stream_for T.F_worst_stream_for.kp T.b_worst_stream_for .nil (GX.passX rfl rfl rfl rfl) (pa_cons (pv 10) (pa_cons (pv 3) pa_nil))))) (pe_ifExp (pt_truth (pv 5) (by intro _; rfl)) pe_str pe_str) (nomark _)))) pss_nil)
    (pss_cons (ps_set (i := 6) sc_law_kind_right.nd rfl (.inl rfl) (pe_call (ok_worst_stream_for T) (hr.mono (by decide)) (by rfl) T.g_worst_stream_for T.F_worst_stream_for.kp T.b_worst_stream_for .nil passL (pa_cons (pv 10) (pa_cons (pv 3) pa_nil))))
    (pss_cons (ps_if (PW.pt (pw_or (pt_not (pt_val (pe_callB call_isi (by rfl) T.z_isinstance (by decide +kernel) (pa_cons (pv 6) (pa_cons (pe_bltn (v := .ty "tuple") (by rfl) T.z_tuple (by decide +kernel) rfl) pa_nil))))) (pw_or1 (pt_cmpR op_notN (pe_call (ok_law_breach T) (hr.mono (by decide)) (by rfl) T.g_law_breach T.F_law_breach.kp T.b_law_breach .nil pass0 (pa_cons (pv 1) (pa_cons (pv 2) (pa_cons (pv 6) pa_nil)))) pe_non (nomark _))))) (pss_one (ps_ret pe_bl)) pss_nil)
    (pss_cons (ps_set (i := 7) sc_law_kind_right.nd rfl (.inl rfl) (pe_lst pa_nil))
    (pss_cons (ps_for PassesOwn.never rfl (pi_tup (pv 6)) (pg_name (i := 8) sc_law_kind_right.nd rfl (.inl rfl)) (pss_one (ps_expr (pe_bm PySem.F.plainAttrs_list PySem.F.slot_list_extend PySem.F.type_list_extend mt_extend (pv 7) (pa_cons (pe_lc (own := [("_law_line", 12)]) (by rfl) sc_law_kind_right.nd (pi_tup (pv 8)) (blkOk_by (own := [("_law_line", 12)]) (N := N_law_kind_right) (sc := defScope s_law_kind_right) (by decide +kernel)) (fun _ _ _ _ _ => (pg_name (i := 12) sc_law_kind_right.nd rfl (.inl rfl))) (fun _ _ _ _ _ => (pts_one (pt_cmpR op_eq (pe_ix (show IxR _ (rIxT K) from ix_tup) (pe_ix (show IxR _ (rIxT K) from ix_tup) (pv 1) (pv 12) (fun _ _ => rfl)) pe_int (fun _ _ => rfl)) (pv 3) (nomark _)))) (fun _ _ _ _ _ => (pv 12))) pa_nil)))))
    (pss_cons (ps_if (PW.pt (pw_or (pt_cmpR op_ne (pe_call (ok_law_longest T) (hr.mono (by decide)) (by rfl) T.g_law_longest T.F_law_longest.kp T.b_law_longest .nil pass0 (pa_cons (pv 1) (pa_cons (pv 6) (pa_cons (pv 3) pa_nil)))) (pv 4) (nomark _)) (pw_or1 (pt_cmpR op_eq (pe_callB call_len_seq (by rfl) T.z_len (by decide +kernel) (pa_cons (pv 7) pa_nil)) pe_int (nomark _))))) (pss_one (ps_ret pe_bl)) pss_nil)
    (pss_cons (ps_set (i := 9) sc_law_kind_right.nd rfl (.inl rfl) (pe_call (ok_law_thinned T) (hr.mono (by decide)) (by rfl) T.g_law_thinned T.F_law_thinned.kp T.b_law_thinned .nil pass0 (pa_cons (pv 1) (pa_cons (pv 2) (pa_cons (pe_call (ok_law_stream T) (hr.mono (by decide)) (by rfl) T.g_law_stream T.F_law_stream.kp T.b_law_stream .nil pass0 (pa_cons (pv 0) (pa_cons (pe_callB call_len_seq (by rfl) T.z_len (by decide +kernel) (pa_cons (pv 1) pa_nil)) (pa_cons pe_int pa_nil)))) pa_nil)))))
    (pss_one (ps_ret (pe_cmpR op_le (pe_call (ok_law_longest T) (hr.mono (by decide)) (by rfl) T.g_law_longest T.F_law_longest.kp T.b_law_longest .nil pass0 (pa_cons (pv 1) (pa_cons (pv 9) (pa_cons (pv 3) pa_nil)))) (pv 4) (nomark _)))))))))))))), ?_⟩
    have ra0 := ra
    obtain ⟨xs, ea, alr⟩ := ra
    have lx := alr.len
    have few := ok.few
    refine ⟨_, rfl, _, rfl, ?_⟩
    intro p x1 nx nd ne
    refine make_bk2 ra0 ok nx nd ne fun H1 s1 bk => ?_
    clear nx nd ne
    refine ⟨_, rfl, _, rfl, _, rfl, a, bot, rs, kd, rfl, ra0.same s1, ok, fun H2 o s2 wi => ⟨by show 2 ≤ sizeLine; decide, fun t nt => ?_⟩⟩
    obtain ⟨H3, eH, s3, e3⟩ := newH nt (o := .tup [.ref p, optV o])
    rw [eH]
    clear eH
    refine ⟨t, _, rfl, SqT.of e3, rfl, _, _, rfl, _, _, rfl, rfl, ?_⟩
    have s23 := s2.trans s3
    refine ⟨_, rfl, _, rfl, p, bot, rs, kd, rfl, bk.same s23, ok, k7, fun H4 o' s4 wi' => ?_⟩
    have eo := wi'.uniq wi
    subst eo
    refine ⟨_, rfl, optV o', rfl, by cases o' <;> constructor, fun H5 s5 => ⟨_, rfl, iteF ?_⟩⟩
    have s15 := (s23.trans s4).trans s5
    have s05 := s1.trans s15
    have bk5 := bk.same s15
    have ra5 := ra0.same s05
    have wd5 := wd.same s05
    have ea5 := s05 _ _ ea
    have alr5 := alr.imp fun _ _ t => t.same s05
    have kn5 : KN h H H5 := (KN.refl h H).s s05
    clear s1 s2 s3 s4 s5 s15 s23 bk ra0 wd ea alr s05 e3 nt
    -- whether there is one
    refine ⟨_, rfl, a, rfl, ⟨_, SqT.of ea5⟩, fun D nD => ?_⟩
    refine lc_tup (K := K) (a := a) (xs := xs) (LP H5 D ((rs.map (isK (kd : Int))).map V.bl)) (LP.start nD) (fun i H' _ q => SqT.of (q.1 _ _ ea5)) ?_ ?_
    · rintro i x H' hx q
      obtain ⟨r, hr1, hv⟩ := alr5.get hx
      have hv := hv.same q.1
      refine ⟨rfl, ?_⟩
      match r, hr1, hv with
      | none, hr1, e =>
        cases (show x = V.non from e)
        refine ⟨_, rfl, rfl, _, rfl, iteF ?_⟩
        exact lcPut nD q (fun _ _ e => e) (map_at (map_at hr1)) (by rw [List.length_map, List.length_map]; omega)
      | some (b, t, kk), hr1, ⟨z, e, ez⟩ =>
        subst e
        refine ⟨_, rfl, rfl, _, rfl, iteT ⟨_, rfl, z, _, 2, _, rfl, rfl, SqT.of ez, atI_nat (j := 2) rfl, _, rfl, rfl, ?_⟩⟩
        rw [dec_int]
        exact lcPut nD q (fun _ _ e => e) (map_at (map_at hr1)) (by rw [List.length_map, List.length_map]; omega)
    rintro H6 ⟨s6, d6⟩
    rw [take_all (by rw [List.length_map, List.length_map]; exact lx.symm)] at d6
    refine ⟨D, _, rfl, SqL.of d6, ?_⟩
    rw [any_own]
    have wd6 := wd5.same s6
    have bk6 := bk5.same s6
    have ra6 := ra5.same s6
    have kn6 := kn5.s s6
    clear wd5 bk5 kn5 d6 nD ea5 alr5
    cases ce : (ownR rs (kd : Int)).isEmpty with
    | true =>
      have none_ : ownR rs (kd : Int) = [] := List.isEmpty_iff.mp ce
      refine ⟨_, rfl, _, rfl, iteT ?_⟩
      refine ⟨wd6.tb, fun H7 x7 t7 E Q' hE hC => ?_⟩
      refine ⟨_, rfl, _, rfl, p, bot, rs, kd, rfl, bk6.ext x7, ok, k7, fun _ H8 s8 => hC H8 s8 fun H9 s9 => ?_, fun z => absurd none_ z, fun z => absurd none_ z⟩
      refine ⟨_, rfl, _, rfl, iteF ⟨rfl, ?_⟩⟩
      rw [dec_self]
      exact kq H9 (((kn6.x x7).s s8).s s9) (((wd6.ext x7 t7).same s8).same s9)
    | false =>
      have one : ownR rs (kd : Int) ≠ [] := fun z => by
        rw [z] at ce
        cases ce
      refine ⟨_, rfl, _, rfl, iteF ⟨_, rfl, rfl, _, rfl, ?_⟩⟩
      rcases wi with ⟨z, _⟩ | ⟨_, nb, eo⟩ | ⟨_, nb, w0, eo, wm⟩
      · exact absurd z one
      · subst eo
        refine iteT ⟨wd6.tb, fun H7 x7 t7 E Q' hE hC => ?_⟩
        refine ⟨_, rfl, _, rfl, p, bot, rs, kd, rfl, bk6.ext x7, ok, k7, fun z => absurd z one, fun _ _ H8 s8 => hE H8 s8 fun H9 s9 => ?_, fun _ z => (by rw [nb] at z; cases z)⟩
        refine ⟨_, rfl, _, rfl, iteT ⟨rfl, ?_⟩⟩
        rw [dec_self]
        exact kq H9 (((kn6.x x7).s s8).s s9) (((wd6.ext x7 t7).same s8).same s9)
      · subst eo
        refine iteF ?_
        refine ⟨_, rfl, _, rfl, p, bot, rs, kd, rfl, bk6, ok, k7, fun z => absurd z one, fun _ z => (by rw [nb] at z; cases z), fun _ _ H7 ws w1 m s7 st m6 wm1 fi => ?_⟩
        have ew := wm1.uniq wm
        subst ew
        have st0 := st
        obtain ⟨vs, ew, alS⟩ := st
        have lvs := alS.len
        rw [soo_len] at lvs
        have ra7 := ra6.same s7
        refine ⟨_, rfl, _, _, _, _, _, rfl, .ty "tuple", .base (.tup ew), kitQ (a := "tuple") (b := "tuple") (r := true) (by decide +kernel) rfl, _, rfl, iteF ?_⟩
        refine ⟨_, rfl, _, rfl, _, rfl, a, ws, bot, rs, sooS bot rs m, rfl, ra7, ok, st0, by rw [soo_len]; exact m6, fun H8 v s8 tv => ?_⟩
        rw [kept_to (soo_kept ok)] at tv
        cases (show v = V.non from tv)
        refine ⟨rfl, _, rfl, iteF ?_⟩
        refine ⟨by show 0 ≤ sizeLine; decide, fun N nN => ?_⟩
        obtain ⟨H9, eH, s9, e9⟩ := newH nN (o := .lst [])
        rw [eH]
        clear eH
        have s89 := s8.trans s9
        have ew8 := s8 _ _ ew
        have ew9 := s9 _ _ ew8
        have alS8 := alS.imp fun _ _ t => t.mv fun q ys e => s8 _ _ e
        obtain ⟨_, ea8, alr8⟩ := ra7.same s8
        rename_i ys
        have live := soo_live (bot := bot) (rs := rs) (m := m)
        have sok := soo_ok (bot := bot) (rs := rs) (m := m)
        refine ⟨_, rfl, ws, rfl, ⟨_, SqT.of ew9⟩, for_tup (xs := vs) (fun i σ H' => ∃ (y8 : Option V) (l : List Nat), σ = [some (.ref h), some (.ref a), some (.int bot), some (.int (kd : Int)), some (.int w1), some (.bl true), some (.ref ws), some (.ref N), y8, none, some (.ref p), none, none] ∧ Same H8 H' ∧ H' N = some (.lst (natsV l)) ∧ (∀ ls x, ls ∈ (sooS bot rs m).take i → x ∈ ls → kindOf rs x = (kd : Int) → x ∈ l) ∧ l.length ≤ 12 * i) ⟨_, [], rfl, s9, e9, fun ls x h => absurd h (by simp), Nat.le_refl _⟩ (fun i σ H' _ ⟨_, _, _, s, _⟩ => SqT.of (s _ _ ew8)) ?_ ?_⟩
        · rintro i x σ H10 hx ⟨y8, l, rfl, s10, e10, hin, ll⟩
          obtain ⟨ls, hls, q, rfl, hq⟩ := alS8.get hx
          have hi := (List.getElem?_eq_some_iff.mp hx).1
          have lsm := List.mem_of_getElem? hls
          have l12 : ls.length ≤ 12 := Nat.le_trans (nd_len_lt (sok ls lsm).1 (sok ls lsm).2) few
          have hq10 := s10 _ _ hq
          refine ⟨_, rfl, .inl ⟨rfl, _, SqL.of e10⟩, _, rfl, q, rfl, ⟨_, SqT.of hq10⟩, fun G nG => ?_⟩
          refine lc_tup (K := K) (a := q) (xs := natsV ls) (fun y H' => Same H10 H' ∧ H' G = some (.lst (natsV ((ls.take y).filter fun x => decide (kindOf rs x = (kd : Int)))))) ⟨same_upd nG, upd_same⟩ (fun y H' _ z => SqT.of (z.1 _ _ hq10)) ?_ ?_
          · rintro y v H11 hy ⟨s11, e11⟩
            obtain ⟨ln, hln, rfl⟩ := natsV_at hy
            have hyl := (List.getElem?_eq_some_iff.mp hln).1
            have lmem := List.mem_of_getElem? hln
            obtain ⟨⟨rb, rt, rk⟩, er⟩ := live ls lsm ln lmem
            have ek : kindOf rs ln = rk := by
              unfold kindOf
              rw [er]
            obtain ⟨rv, hrv, hrw⟩ := alr8.getL (row_at ((sok ls lsm).2 ln lmem))
            rw [er] at hrw
            obtain ⟨z, rfl, hz⟩ := hrw
            have s811 := s10.trans s11
            refine ⟨rfl, ?_⟩
            refine ⟨_, rfl, _, rfl, a, ys, _, _, rfl, rfl, SqT.of (s811 _ _ ea8), atI_nat hrv, z, _, 2, _, rfl, rfl, SqT.of (s811 _ _ hz), atI_nat (j := 2) rfl, _, rfl, rfl, _, rfl, ?_⟩
            rw [dec_int, List.take_add_one, hln, List.filter_append]
            by_cases c : rk = (kd : Int)
            · rw [decide_eq_true c]
              have ef : ((some ln).toList.filter fun x => decide (kindOf rs x = (kd : Int))) = [ln] := List.filter_cons_of_pos (p := fun x => decide (kindOf rs x = (kd : Int))) (decide_eq_true (by rw [ek]; exact c))
              rw [ef, natsV_snoc]
              refine iteT ⟨_, rfl, _, e11, ?_, same_to s11 nG, upd_same⟩
              rw [natsV_len]
              exact lts (Nat.le_trans (List.length_filter_le _ _) (by rw [List.length_take]; omega))
            · rw [decide_eq_false c]
              have ef : ((some ln).toList.filter fun x => decide (kindOf rs x = (kd : Int))) = [] := List.filter_cons_of_neg (p := fun x => decide (kindOf rs x = (kd : Int))) (by rw [ek, decide_eq_true_eq]; exact c)
              rw [ef, List.append_nil]
              exact iteF ⟨s11, e11⟩
          · rintro H11 ⟨s11, e11⟩
            rw [natsV_len, List.take_length] at e11
            have lf := List.length_filter_le (fun x => decide (kindOf rs x = (kd : Int))) ls
            have e10' := s11 _ _ e10
            refine ⟨N, G, _, _, rfl, rfl, e10', e11, ?_, ?_⟩
            · rw [natsV_len, natsV_len]
              exact Nat.le_of_lt (Nat.lt_of_le_of_lt (show _ ≤ 100000 by omega) (by decide))
            refine ⟨_, l ++ ls.filter fun x => decide (kindOf rs x = (kd : Int)), rfl, same_to (s10.trans s11) nN, ?_, fun ls' x h1 h2 h3 => ?_, by rw [List.length_append]; omega⟩
            · rw [upd_same]
              unfold natsV
              rw [List.map_append]
            · rw [List.take_add_one, hls] at h1
              rcases List.mem_append.mp h1 with z | z
              · exact List.mem_append_left _ (hin ls' x z h2 h3)
              · have z : ls' = ls := List.mem_singleton.mp z
                subst z
                exact List.mem_append_right _ (List.mem_filter.mpr ⟨h2, decide_eq_true h3⟩)
        · rintro σ H10 ⟨y8, l, rfl, s10, e10, hin, ll⟩
          rw [List.take_of_length_le (by rw [soo_len, ← lvs]; exact Nat.le_refl _)] at hin
          have m1 : 1 ≤ m := by
            rcases fi with ⟨_, z⟩ | ⟨_, d, d1, _, ae, _⟩
            · omega
            · have := ae.le
              omega
          obtain ⟨ls0, l0, g1, g2, g3⟩ := soo_first ok one m1
          have lin := hin ls0 l0 g1 g2 g3
          have lpos : 0 < l.length := List.length_pos_of_mem lin
          have s710 := s8.trans s10
          have s610 := s7.trans s710
          have ra10 := ra6.same s610
          refine ⟨_, rfl, _, rfl, _, rfl, a, ws, bot, rs, sooS bot rs m, kd, rfl, ra10, ok, st0.same s710, sok, live, by rw [soo_len]; exact m6, fun H11 mm s11 lg => ?_⟩
          have em := long_soo ok one nb wm fi lg
          subst em
          refine ⟨_, rfl, rfl, _, rfl, ?_⟩
          rw [dec_self]
          have e11 := s11 _ _ e10
          refine iteF ⟨_, rfl, N, _, rfl, .inl (SqL.of e11), rfl, _, rfl, ?_⟩
          rw [dec_int, natsV_len, decide_eq_false (by omega)]
          refine iteF ?_
          have s611 := s610.trans s11
          have wd11 := wd6.same s611
          have ra11 := ra6.same s611
          have kn11 := kn6.s s611
          obtain ⟨zs, ea11, alr11⟩ := id ra11
          have lz := alr11.len
          refine ⟨_, rfl, _, rfl, _, rfl, _, rfl, a, zs, rfl, .inr (SqT.of ea11), h, g, zs.length, 25, rfl, wd11.hand, by omega, by decide, fun H12 b ss k12 a12 st12 l12 ok12 => ?_⟩
          have wd12 := wd11.kp k12 a12
          have ra12 : RowsAt H12 a rs := ra11.mv fun q xs e => tup_kp k12 wd11.hand e
          rw [← lz] at ok12
          refine ⟨a, b, bot, rs, ss, rfl, ra12, ok, st12, ⟨by omega, ok12⟩, by omega, fun H13 c ts s13 st13 l13 ok13 br => ?_⟩
          have kp := kept_of ok br
          have lv13 := kept_live kp ok13
          refine ⟨_, rfl, _, rfl, _, rfl, a, c, bot, rs, ts, kd, rfl, ra12.same s13, ok, st13, ok13, lv13, by omega, fun H14 m2 s14 lg2 => ?_⟩
          have le := long_le ok kp ok13 lv13 lg2 (.inr (.inr ⟨one, nb, _, rfl, wm⟩)) rfl
          refine ⟨_, rfl, _, _, rfl, rfl, ?_⟩
          show Q (V.bl (decide (m2 ≤ mm))) H14
          rw [decide_eq_true le]
          exact kq H14 (((kn11.k k12).s s13).s s14) ((wd12.same s13).same s14)
end

def spLaw (K : PySem.W.Frag) (A : Adr) : Sp := fun vs H Q _ => ∃ (a : Addr) (ns : List Int), vs = [.ref a] ∧ SqL K H a (ns.map V.int) ∧ ns.length ≤ 63 ∧ Tb A.tb_law_kind_right qlam_law_kind_right H ∧ ∀ H', Q (.bl true) H'
section
variable {P : Program} {w : World} {K : PySem.W.Frag} {mg : Str → Option Value} {base : Heap} {A : Adr}
theorem Hd.put {h g p : Addr} {H : Hp} {xs zs : List V} (t : Hd A h g H) (e : H p = some (.lst xs)) (h1 : p ≠ h) (h2 : p ≠ g) : Hd A h g (upd H p (.lst zs)) := ⟨t.hand.put h1 h2, t.tb.put e⟩
theorem ok_law (T : Top K mg A) (B : Tbs base mg A) : FnOk P w K mg base CX0 18 A.a_law A.d_law P_law (spLaw K A) := by
  refine T.F_law.ok sc_law (fun vs H Q E h => ?_) (fun cdv A' outer s H vs Q E hr h => ?_)
  · obtain ⟨a, ns, rfl, _⟩ := h
    rfl
  · obtain ⟨sa, ns, rfl, hS, hn, tb0, kq⟩ := h
    refine ⟨_, (pss_cons (ps_set (i := 1) sc_law.nd rfl (.inr rfl) (pe_call (ok_law_hand T) (hr.mono (by decide)) (by rfl) T.g_law_hand T.F_law_hand.kp T.b_law_hand .nil pass0 (pa_cons (pv 0) pa_nil)))
    (Evl.pss_cut (ps_if (PW.pt (pw_and (pt_cmpR op_eq (pe_call (ok_law_draw T) (hr.mono (by decide)) (by rfl) T.g_law_draw T.F_law_draw.kp T.b_law_draw .nil pass0 (pa_cons (pv 1) (pa_cons pe_int pa_nil))) pe_int (nomark _)) (pw_and1 (pt_not (pt_val (pe_call (ok_law_small_right T) (hr.mono (by decide)) (by rfl) T.g_law_small_right T.F_law_small_right.kp T.b_law_small_right .nil pass0 (pa_cons (pv 1) pa_nil))))))) (pss_one (ps_ret pe_bl)) pss_nil)
    (pss_cons (ps_set (i := 2) sc_law.nd rfl (.inr rfl) (pe_op op_add pe_int (pe_call (ok_law_draw T) (hr.mono (by decide)) (by rfl) T.g_law_draw T.F_law_draw.kp T.b_law_draw .nil pass0 (pa_cons (pv 1) (pa_cons pe_int pa_nil)))))
    (pss_cons (ps_set (i := 3) sc_law.nd rfl (.inr rfl) (pe_call (ok_law_rows T) (hr.mono (by decide)) (by rfl) T.g_law_rows T.F_law_rows.kp T.b_law_rows .nil pass0 (pa_cons (pv 1) (pa_cons pe_int (pa_cons (pv 2) (pa_cons pe_int (pa_cons pe_int pa_nil)))))))
    (Evl.pss_cut (ps_if (pt_cmpR op_eq (pe_call (ok_law_draw T) (hr.mono (by decide)) (by rfl) T.g_law_draw T.F_law_draw.kp T.b_law_draw .nil pass0 (pa_cons (pv 1) (pa_cons pe_int pa_nil))) pe_int (nomark _)) (pss_one (ps_asg (pe_tup (pa_cons pe_int (pa_cons (pe_call (ok_law_rows T) (hr.mono (by decide)) (by rfl) T.g_law_rows T.F_law_rows.kp T.b_law_rows .nil pass0 (pa_cons (pv 1) (pa_cons pe_int (pa_cons pe_int (pa_cons pe_int (pa_cons pe_int pa_nil)))))) pa_nil))) (pg_tup rfl (pgs_cons (pg_name (i := 2) sc_law.nd rfl (.inr rfl)) (pgs_cons (pg_name (i := 3) sc_law.nd rfl (.inr rfl)) pgs_nil))))) pss_nil)
    (pss_one (ps_ret (pe_callB (cr_all rfl) (by rfl) T.z_all (by decide +kernel) (pa_cons (pe_lc (own := [("_law_kind", 4)]) (by rfl) sc_law.nd (pi_list (pe_lst (pa_cons pe_int (pa_cons pe_int (pa_cons pe_int (pa_cons pe_int pa_nil)))))) (blkOk_by (own := [("_law_kind", 4)]) (N := N_law) (sc := defScope s_law) (by decide +kernel)) (fun _ _ _ _ _ => (pg_name (i := 4) sc_law.nd rfl (.inl rfl))) (fun _ _ _ _ _ => pts_nil) (fun _ _ _ _ _ => (pe_call (ok_law_kind_right (P := P) (w := w) T B) (hr.mono (by decide)) (by rfl) T.g_law_kind_right T.F_law_kind_right.kp T.b_law_kind_right .nil pass0 (pa_cons (pv 1) (pa_cons (pv 3) (pa_cons (pv 2) (pa_cons (pv 4) pa_nil))))))) pa_nil))))))))), ?_⟩
    refine ⟨_, rfl, sa, ns, rfl, hS, hn, fun H1 h g s1 _ _ a1 => ?_⟩
    have w1 : Hd A h g H1 := ⟨a1, tb0.same s1⟩
    clear hS hn tb0 s1 a1
    refine ⟨fun σ H' => σ = [some (.ref sa), some (.ref h), none, none, none] ∧ Hd A h g H', ?_, ?_⟩
    · refine ⟨_, rfl, h, g, 8, rfl, w1.hand, by decide, by decide, fun H2 d b2 a2 d0 d1 => ⟨rfl, _, rfl, ?_⟩⟩
      have w2 := w1.kp b2.kp a2
      rw [dec_int]
      by_cases c : d = 0
      · rw [decide_eq_true c]
        exact iteT ⟨_, rfl, h, g, rfl, a2, fun H3 k3 a3 => ⟨_, rfl, iteF ⟨rfl, w2.kp k3 a3⟩⟩⟩
      · rw [decide_eq_false c]
        exact iteF ⟨rfl, w2⟩
    rintro σ H2 ⟨rfl, w2⟩
    clear w1
    refine ⟨_, rfl, h, g, 10, rfl, w2.hand, by decide, by decide, fun H3 d b3 a3 d0 d1 => ⟨1, d, rfl, rfl, ?_⟩⟩
    refine ⟨_, rfl, _, rfl, h, g, 6, 1 + d, 5, 6, rfl, a3, by decide, by omega, by decide, by decide, fun H4 a rs k4 a4 ra ok _ => ?_⟩
    have w4 := (w2.kp b3.kp a3).kp k4 a4
    clear w2 b3 a3 k4 a4
    refine ⟨fun σ' H' => ∃ (bot : Int) (a : Addr) (rs : List Rw), σ' = [some (.ref sa), some (.ref h), some (.int bot), some (.ref a), none] ∧ Hd A h g H' ∧ RowsAt H' a rs ∧ RowsOk bot rs, ?_, ?_⟩
    · refine ⟨_, rfl, h, g, 50, rfl, w4.hand, by decide, by decide, fun H6 d6 b6 a6 _ _ => ⟨rfl, _, rfl, ?_⟩⟩
      have w6 := w4.kp b6.kp a6
      rw [dec_int]
      by_cases c : d6 = 0
      · rw [decide_eq_true c]
        refine iteT ⟨_, rfl, h, g, 12, 20, 20, 6, rfl, a6, by decide, by decide, by decide, by decide, fun H7 a7 rs7 k7 a7h ra7 ok7 _ => ?_⟩
        have w7 := w6.kp k7 a7h
        refine ⟨by show 2 ≤ sizeLine; decide, fun t nt => ?_⟩
        obtain ⟨H8, eH, s8, e8⟩ := newH nt (o := .tup [.int 20, .ref a7])
        rw [eH]
        clear eH
        refine ⟨t, _, rfl, SqT.of e8, rfl, _, _, rfl, _, _, rfl, rfl, ?_⟩
        exact ⟨20, a7, rs7, rfl, w7.same s8, ra7.same s8, ok7⟩
      · rw [decide_eq_false c]
        exact iteF ⟨1 + d, a, rs, rfl, w6, ra.mv fun q xs e => tup_kp b6.kp w4.hand e, ok⟩
    clear ra ok w4 d0 d1
    rintro σ' H6 ⟨bot, a, rs, rfl, w6, ra, ok⟩
    refine ⟨by show 4 ≤ sizeLine; decide, fun l nl => ?_⟩
    obtain ⟨H7, eH, s7, e7⟩ := newH nl (o := .lst (natsV [0, 1, 2, 7]))
    have w7 := w6.same s7
    have lh := w6.hand.ne_none nl
    have e70 : H7 l = some (.lst (natsV [0, 1, 2, 7])) := e7
    rw [show upd H6 l (.lst [.int 0, .int 1, .int 2, .int 7]) = H7 from eH]
    clear eH
    refine ⟨l, rfl, ⟨_, SqL.of e7⟩, fun D nD => ?_⟩
    have Dh := w7.hand.ne_none nD
    have Dg := w7.hand.ne_g nD
    have lD : l ≠ D := ne_of_none e7 nD
    have ra7 := ra.same s7
    refine lc_list (K := K) (a := l) (xs := natsV [0, 1, 2, 7]) (fun i H' => Hd A h g H' ∧ H' l = some (.lst (natsV [0, 1, 2, 7])) ∧ H' D = some (.lst ((List.replicate i true).map V.bl)) ∧ RowsAt H' a rs) ⟨w7.same (same_upd nD), same_upd nD _ _ e7, upd_same, ra7.same (same_upd nD)⟩ (fun i H' _ q => SqL.of q.2.1) ?_ ?_
    · rintro i x H8 hx ⟨w8, e8, d8, ra8⟩
      obtain ⟨kd, hk, rfl⟩ := natsV_at hx
      have hi := (List.getElem?_eq_some_iff.mp hk).1
      have hi : i < 4 := hi
      have k7 : kd ≤ 7 := by
        have z := List.mem_of_getElem? hk
        simp only [List.mem_cons, List.not_mem_nil, or_false] at z
        omega
      refine ⟨rfl, ?_⟩
      refine ⟨_, rfl, _, rfl, _, rfl, _, rfl, h, g, a, bot, rs, kd, rfl, w8, ra8, ok, k7, fun H9 kn w9 => ?_⟩
      have e9 := kn _ _ lh e8 nt_lst
      have d9 := kn _ _ Dh d8 nt_lst
      have ra9 : RowsAt H9 a rs := ra8.mv fun q xs e => kn q _ (fun z => by
        obtain ⟨_, _, _, _, e5, _⟩ := w8.hand.five
        rw [z, e5] at e
        cases e) e nt_tup
      refine ⟨_, d9, lts (by rw [List.length_map, List.length_replicate]; omega), w9.put d9 Dh Dg, by rw [upd_ne lD]; exact e9, ?_, ra9.mv fun q xs e => tup_put d9 e⟩
      rw [upd_same, List.replicate_succ', List.map_append]
      rfl
    · rintro H8 ⟨w8, e8, d8, ra8⟩
      refine ⟨D, _, rfl, SqL.of d8, ?_⟩
      rw [all_rep]
      exact kq H8
end

theorem top_end {l : PySem.W.OpenLaw} {w : World} {K : PySem.W.Frag} {h : Heap} {mg : Str → Option Value} {fa : Addr} (X : K.In h) (G : h.Ns mainGlobals mg) (hfa : mg "law" = some (.ref fa))
    {f_is_integer : Addr} {od_is_integer an_is_integer : Option Addr} {sl_is_integer : Array (Option Value)} {oc_is_integer kV_is_integer dc_is_integer pm_is_integer cd_is_integer ct_is_integer : Value}
    {f_is_integer_from : Addr} {od_is_integer_from an_is_integer_from : Option Addr} {sl_is_integer_from : Array (Option Value)} {oc_is_integer_from kV_is_integer_from dc_is_integer_from pm_is_integer_from cd_is_integer_from ct_is_integer_from : Value}
    {f_is_number_below : Addr} {od_is_number_below an_is_number_below : Option Addr} {sl_is_number_below : Array (Option Value)} {oc_is_number_below kV_is_number_below dc_is_number_below pm_is_number_below cd_is_number_below ct_is_number_below : Value}
    {f_is_tuple_of : Addr} {od_is_tuple_of an_is_tuple_of : Option Addr} {sl_is_tuple_of : Array (Option Value)} {oc_is_tuple_of kV_is_tuple_of dc_is_tuple_of pm_is_tuple_of cd_is_tuple_of ct_is_tuple_of : Value}
    {f_is_bucket : Addr} {od_is_bucket an_is_bucket : Option Addr} {sl_is_bucket : Array (Option Value)} {oc_is_bucket kV_is_bucket dc_is_bucket pm_is_bucket cd_is_bucket ct_is_bucket : Value}
    {f_Buckets___init__ : Addr} {od_Buckets___init__ an_Buckets___init__ : Option Addr} {sl_Buckets___init__ : Array (Option Value)} {oc_Buckets___init__ kV_Buckets___init__ dc_Buckets___init__ pm_Buckets___init__ cd_Buckets___init__ ct_Buckets___init__ : Value}
    {f_Buckets___eq__ : Addr} {od_Buckets___eq__ an_Buckets___eq__ : Option Addr} {sl_Buckets___eq__ : Array (Option Value)} {oc_Buckets___eq__ kV_Buckets___eq__ dc_Buckets___eq__ pm_Buckets___eq__ cd_Buckets___eq__ ct_Buckets___eq__ : Value}
    {f_check_kind : Addr} {od_check_kind an_check_kind : Option Addr} {sl_check_kind : Array (Option Value)} {oc_check_kind kV_check_kind dc_check_kind pm_check_kind cd_check_kind ct_check_kind : Value}
    {f_most_of : Addr} {od_most_of an_most_of : Option Addr} {sl_most_of : Array (Option Value)} {oc_most_of kV_most_of dc_most_of pm_most_of cd_most_of ct_most_of : Value}
    {f_most_together : Addr} {od_most_together an_most_together : Option Addr} {sl_most_together : Array (Option Value)} {oc_most_together kV_most_together dc_most_together pm_most_together cd_most_together ct_most_together : Value}
    {f_rows_of : Addr} {od_rows_of an_rows_of : Option Addr} {sl_rows_of : Array (Option Value)} {oc_rows_of kV_rows_of dc_rows_of pm_rows_of cd_rows_of ct_rows_of : Value}
    {f_tops_of : Addr} {od_tops_of an_tops_of : Option Addr} {sl_tops_of : Array (Option Value)} {oc_tops_of kV_tops_of dc_tops_of pm_tops_of cd_tops_of ct_tops_of : Value}
    {f_sends : Addr} {od_sends an_sends : Option Addr} {sl_sends : Array (Option Value)} {oc_sends kV_sends dc_sends pm_sends cd_sends ct_sends : Value}
    {f_soonest : Addr} {od_soonest an_soonest : Option Addr} {sl_soonest : Array (Option Value)} {oc_soonest kV_soonest dc_soonest pm_soonest cd_soonest ct_soonest : Value}
    {f_is_boundless : Addr} {od_is_boundless an_is_boundless : Option Addr} {sl_is_boundless : Array (Option Value)} {oc_is_boundless kV_is_boundless dc_is_boundless pm_is_boundless cd_is_boundless ct_is_boundless : Value}
    {f_longest_wait : Addr} {od_longest_wait an_longest_wait : Option Addr} {sl_longest_wait : Array (Option Value)} {oc_longest_wait kV_longest_wait dc_longest_wait pm_longest_wait cd_longest_wait ct_longest_wait : Value}
    {f_greatest_wait : Addr} {od_greatest_wait an_greatest_wait : Option Addr} {sl_greatest_wait : Array (Option Value)} {oc_greatest_wait kV_greatest_wait dc_greatest_wait pm_greatest_wait cd_greatest_wait ct_greatest_wait : Value}
    {f_worst_stream_for : Addr} {od_worst_stream_for an_worst_stream_for : Option Addr} {sl_worst_stream_for : Array (Option Value)} {oc_worst_stream_for kV_worst_stream_for dc_worst_stream_for pm_worst_stream_for cd_worst_stream_for ct_worst_stream_for : Value}
    {f_law_hand : Addr} {od_law_hand an_law_hand : Option Addr} {sl_law_hand : Array (Option Value)} {oc_law_hand kV_law_hand dc_law_hand pm_law_hand cd_law_hand ct_law_hand : Value}
    {f_law_draw : Addr} {od_law_draw an_law_draw : Option Addr} {sl_law_draw : Array (Option Value)} {oc_law_draw kV_law_draw dc_law_draw pm_law_draw cd_law_draw ct_law_draw : Value}
    {f_law_pick : Addr} {od_law_pick an_law_pick : Option Addr} {sl_law_pick : Array (Option Value)} {oc_law_pick kV_law_pick dc_law_pick pm_law_pick cd_law_pick ct_law_pick : Value}
    {f_law_same : Addr} {od_law_same an_law_same : Option Addr} {sl_law_same : Array (Option Value)} {oc_law_same kV_law_same dc_law_same pm_law_same cd_law_same ct_law_same : Value}
    {f_law_rows : Addr} {od_law_rows an_law_rows : Option Addr} {sl_law_rows : Array (Option Value)} {oc_law_rows kV_law_rows dc_law_rows pm_law_rows cd_law_rows ct_law_rows : Value}
    {f_law_sent : Addr} {od_law_sent an_law_sent : Option Addr} {sl_law_sent : Array (Option Value)} {oc_law_sent kV_law_sent dc_law_sent pm_law_sent cd_law_sent ct_law_sent : Value}
    {f_law_stream : Addr} {od_law_stream an_law_stream : Option Addr} {sl_law_stream : Array (Option Value)} {oc_law_stream kV_law_stream dc_law_stream pm_law_stream cd_law_stream ct_law_stream : Value}
    {f_law_thinned : Addr} {od_law_thinned an_law_thinned : Option Addr} {sl_law_thinned : Array (Option Value)} {oc_law_thinned kV_law_thinned dc_law_thinned pm_law_thinned cd_law_thinned ct_law_thinned : Value}
    {f_law_breach : Addr} {od_law_breach an_law_breach : Option Addr} {sl_law_breach : Array (Option Value)} {oc_law_breach kV_law_breach dc_law_breach pm_law_breach cd_law_breach ct_law_breach : Value}
    {f_law_played : Addr} {od_law_played an_law_played : Option Addr} {sl_law_played : Array (Option Value)} {oc_law_played kV_law_played dc_law_played pm_law_played cd_law_played ct_law_played : Value}
    {f_law_reach : Addr} {od_law_reach an_law_reach : Option Addr} {sl_law_reach : Array (Option Value)} {oc_law_reach kV_law_reach dc_law_reach pm_law_reach cd_law_reach ct_law_reach : Value}
    {f_law_wait : Addr} {od_law_wait an_law_wait : Option Addr} {sl_law_wait : Array (Option Value)} {oc_law_wait kV_law_wait dc_law_wait pm_law_wait cd_law_wait ct_law_wait : Value}
    {f_law_lots : Addr} {od_law_lots an_law_lots : Option Addr} {sl_law_lots : Array (Option Value)} {oc_law_lots kV_law_lots dc_law_lots pm_law_lots cd_law_lots ct_law_lots : Value}
    {f_law_all : Addr} {od_law_all an_law_all : Option Addr} {sl_law_all : Array (Option Value)} {oc_law_all kV_law_all dc_law_all pm_law_all cd_law_all ct_law_all : Value}
    {f_law_word : Addr} {od_law_word an_law_word : Option Addr} {sl_law_word : Array (Option Value)} {oc_law_word kV_law_word dc_law_word pm_law_word cd_law_word ct_law_word : Value}
    {f_law_longest : Addr} {od_law_longest an_law_longest : Option Addr} {sl_law_longest : Array (Option Value)} {oc_law_longest kV_law_longest dc_law_longest pm_law_longest cd_law_longest ct_law_longest : Value}
    {f_law_small_right : Addr} {od_law_small_right an_law_small_right : Option Addr} {sl_law_small_right : Array (Option Value)} {oc_law_small_right kV_law_small_right dc_law_small_right pm_law_small_right cd_law_small_right ct_law_small_right : Value}
    {f_law_kind_right : Addr} {od_law_kind_right an_law_kind_right : Option Addr} {sl_law_kind_right : Array (Option Value)} {oc_law_kind_right kV_law_kind_right dc_law_kind_right pm_law_kind_right ct_law_kind_right : Value}
    {f_law : Addr} {od_law an_law : Option Addr} {sl_law : Array (Option Value)} {oc_law kV_law dc_law pm_law cd_law ct_law : Value}
    {c_Buckets : Addr}
    {c_FabricError : Addr}
    {c_NoCell : Addr}
    {c_Boundless : Addr}
    {co_law_kind_right tb_law_kind_right : Addr}
    {t_MOST_LINES : Tok}
    {t_KINDS : Tok}
    {t_GREATEST_BOTTOM : Tok}
    {t_GREATEST_BURST : Tok}
    {t_LONGEST : Tok}
    (ht_law_kind_right : h.get? tb_law_kind_right = some (PySem.W.tabObj #[]))
    (hk_law_kind_right : K.lookup tb_law_kind_right = none)
    (hd_law_kind_right : PySem.W.codeHdIn K co_law_kind_right tb_law_kind_right = true)
    (ac_Buckets : PySem.W.nsIn K mainGlobals "Buckets" = some (some (.ref c_Buckets)))
    (ac_FabricError : PySem.W.nsIn K mainGlobals "FabricError" = some (some (.ref c_FabricError)))
    (ac_NoCell : PySem.W.nsIn K mainGlobals "NoCell" = some (some (.ref c_NoCell)))
    (ac_Boundless : PySem.W.nsIn K mainGlobals "Boundless" = some (some (.ref c_Boundless)))
    (a_is_integer : PySem.W.nsIn K mainGlobals "is_integer" = some (some (.ref f_is_integer)))
    (l_is_integer : K.lookup f_is_integer = some ⟨oc_is_integer, od_is_integer, .func (PySem.W.fnOf "is_integer" "is_integer" (defArgs s_is_integer) (defBody s_is_integer) (defScope s_is_integer) .none kV_is_integer dc_is_integer pm_is_integer an_is_integer cd_is_integer ct_is_integer), sl_is_integer⟩)
    (q_is_integer : PySem.W.codeIn K cd_is_integer "is_integer" = true)
    (p_is_integer : PySem.W.keepIn K (.ref f_is_integer) = true)
    (a_is_integer_from : PySem.W.nsIn K mainGlobals "is_integer_from" = some (some (.ref f_is_integer_from)))
    (l_is_integer_from : K.lookup f_is_integer_from = some ⟨oc_is_integer_from, od_is_integer_from, .func (PySem.W.fnOf "is_integer_from" "is_integer_from" (defArgs s_is_integer_from) (defBody s_is_integer_from) (defScope s_is_integer_from) .none kV_is_integer_from dc_is_integer_from pm_is_integer_from an_is_integer_from cd_is_integer_from ct_is_integer_from), sl_is_integer_from⟩)
    (q_is_integer_from : PySem.W.codeIn K cd_is_integer_from "is_integer_from" = true)
    (p_is_integer_from : PySem.W.keepIn K (.ref f_is_integer_from) = true)
    (a_is_number_below : PySem.W.nsIn K mainGlobals "is_number_below" = some (some (.ref f_is_number_below)))
    (l_is_number_below : K.lookup f_is_number_below = some ⟨oc_is_number_below, od_is_number_below, .func (PySem.W.fnOf "is_number_below" "is_number_below" (defArgs s_is_number_below) (defBody s_is_number_below) (defScope s_is_number_below) .none kV_is_number_below dc_is_number_below pm_is_number_below an_is_number_below cd_is_number_below ct_is_number_below), sl_is_number_below⟩)
    (q_is_number_below : PySem.W.codeIn K cd_is_number_below "is_number_below" = true)
    (p_is_number_below : PySem.W.keepIn K (.ref f_is_number_below) = true)
    (a_is_tuple_of : PySem.W.nsIn K mainGlobals "is_tuple_of" = some (some (.ref f_is_tuple_of)))
    (l_is_tuple_of : K.lookup f_is_tuple_of = some ⟨oc_is_tuple_of, od_is_tuple_of, .func (PySem.W.fnOf "is_tuple_of" "is_tuple_of" (defArgs s_is_tuple_of) (defBody s_is_tuple_of) (defScope s_is_tuple_of) .none kV_is_tuple_of dc_is_tuple_of pm_is_tuple_of an_is_tuple_of cd_is_tuple_of ct_is_tuple_of), sl_is_tuple_of⟩)
    (q_is_tuple_of : PySem.W.codeIn K cd_is_tuple_of "is_tuple_of" = true)
    (p_is_tuple_of : PySem.W.keepIn K (.ref f_is_tuple_of) = true)
    (a_is_bucket : PySem.W.nsIn K mainGlobals "is_bucket" = some (some (.ref f_is_bucket)))
    (l_is_bucket : K.lookup f_is_bucket = some ⟨oc_is_bucket, od_is_bucket, .func (PySem.W.fnOf "is_bucket" "is_bucket" (defArgs s_is_bucket) (defBody s_is_bucket) (defScope s_is_bucket) .none kV_is_bucket dc_is_bucket pm_is_bucket an_is_bucket cd_is_bucket ct_is_bucket), sl_is_bucket⟩)
    (q_is_bucket : PySem.W.codeIn K cd_is_bucket "is_bucket" = true)
    (p_is_bucket : PySem.W.keepIn K (.ref f_is_bucket) = true)
    (a_Buckets___init__ : PySem.W.findIn K (.ref c_Buckets) "__init__" = some (some (.ref f_Buckets___init__)))
    (i_Buckets___init__ : PySem.W.isFn K (.ref f_Buckets___init__) = true)
    (l_Buckets___init__ : K.lookup f_Buckets___init__ = some ⟨oc_Buckets___init__, od_Buckets___init__, .func (PySem.W.fnOf "__init__" "Buckets.__init__" (defArgs s_Buckets___init__) (defBody s_Buckets___init__) (defScope s_Buckets___init__) .none kV_Buckets___init__ dc_Buckets___init__ pm_Buckets___init__ an_Buckets___init__ cd_Buckets___init__ ct_Buckets___init__), sl_Buckets___init__⟩)
    (q_Buckets___init__ : PySem.W.codeIn K cd_Buckets___init__ "Buckets.__init__" = true)
    (p_Buckets___init__ : PySem.W.keepIn K (.ref f_Buckets___init__) = true)
    (a_Buckets___eq__ : PySem.W.findIn K (.ref c_Buckets) "__eq__" = some (some (.ref f_Buckets___eq__)))
    (i_Buckets___eq__ : PySem.W.isFn K (.ref f_Buckets___eq__) = true)
    (l_Buckets___eq__ : K.lookup f_Buckets___eq__ = some ⟨oc_Buckets___eq__, od_Buckets___eq__, .func (PySem.W.fnOf "__eq__" "Buckets.__eq__" (defArgs s_Buckets___eq__) (defBody s_Buckets___eq__) (defScope s_Buckets___eq__) .none kV_Buckets___eq__ dc_Buckets___eq__ pm_Buckets___eq__ an_Buckets___eq__ cd_Buckets___eq__ ct_Buckets___eq__), sl_Buckets___eq__⟩)
    (q_Buckets___eq__ : PySem.W.codeIn K cd_Buckets___eq__ "Buckets.__eq__" = true)
    (p_Buckets___eq__ : PySem.W.keepIn K (.ref f_Buckets___eq__) = true)
    (a_check_kind : PySem.W.nsIn K mainGlobals "check_kind" = some (some (.ref f_check_kind)))
    (l_check_kind : K.lookup f_check_kind = some ⟨oc_check_kind, od_check_kind, .func (PySem.W.fnOf "check_kind" "check_kind" (defArgs s_check_kind) (defBody s_check_kind) (defScope s_check_kind) .none kV_check_kind dc_check_kind pm_check_kind an_check_kind cd_check_kind ct_check_kind), sl_check_kind⟩)
    (q_check_kind : PySem.W.codeIn K cd_check_kind "check_kind" = true)
    (p_check_kind : PySem.W.keepIn K (.ref f_check_kind) = true)
    (a_most_of : PySem.W.nsIn K mainGlobals "most_of" = some (some (.ref f_most_of)))
    (l_most_of : K.lookup f_most_of = some ⟨oc_most_of, od_most_of, .func (PySem.W.fnOf "most_of" "most_of" (defArgs s_most_of) (defBody s_most_of) (defScope s_most_of) .none kV_most_of dc_most_of pm_most_of an_most_of cd_most_of ct_most_of), sl_most_of⟩)
    (q_most_of : PySem.W.codeIn K cd_most_of "most_of" = true)
    (p_most_of : PySem.W.keepIn K (.ref f_most_of) = true)
    (a_most_together : PySem.W.nsIn K mainGlobals "most_together" = some (some (.ref f_most_together)))
    (l_most_together : K.lookup f_most_together = some ⟨oc_most_together, od_most_together, .func (PySem.W.fnOf "most_together" "most_together" (defArgs s_most_together) (defBody s_most_together) (defScope s_most_together) .none kV_most_together dc_most_together pm_most_together an_most_together cd_most_together ct_most_together), sl_most_together⟩)
    (q_most_together : PySem.W.codeIn K cd_most_together "most_together" = true)
    (p_most_together : PySem.W.keepIn K (.ref f_most_together) = true)
    (a_rows_of : PySem.W.nsIn K mainGlobals "rows_of" = some (some (.ref f_rows_of)))
    (l_rows_of : K.lookup f_rows_of = some ⟨oc_rows_of, od_rows_of, .func (PySem.W.fnOf "rows_of" "rows_of" (defArgs s_rows_of) (defBody s_rows_of) (defScope s_rows_of) .none kV_rows_of dc_rows_of pm_rows_of an_rows_of cd_rows_of ct_rows_of), sl_rows_of⟩)
    (q_rows_of : PySem.W.codeIn K cd_rows_of "rows_of" = true)
    (p_rows_of : PySem.W.keepIn K (.ref f_rows_of) = true)
    (a_tops_of : PySem.W.nsIn K mainGlobals "tops_of" = some (some (.ref f_tops_of)))
    (l_tops_of : K.lookup f_tops_of = some ⟨oc_tops_of, od_tops_of, .func (PySem.W.fnOf "tops_of" "tops_of" (defArgs s_tops_of) (defBody s_tops_of) (defScope s_tops_of) .none kV_tops_of dc_tops_of pm_tops_of an_tops_of cd_tops_of ct_tops_of), sl_tops_of⟩)
    (q_tops_of : PySem.W.codeIn K cd_tops_of "tops_of" = true)
    (p_tops_of : PySem.W.keepIn K (.ref f_tops_of) = true)
    (a_sends : PySem.W.nsIn K mainGlobals "sends" = some (some (.ref f_sends)))
    (l_sends : K.lookup f_sends = some ⟨oc_sends, od_sends, .func (PySem.W.fnOf "sends" "sends" (defArgs s_sends) (defBody s_sends) (defScope s_sends) .none kV_sends dc_sends pm_sends an_sends cd_sends ct_sends), sl_sends⟩)
    (q_sends : PySem.W.codeIn K cd_sends "sends" = true)
    (p_sends : PySem.W.keepIn K (.ref f_sends) = true)
    (a_soonest : PySem.W.nsIn K mainGlobals "soonest" = some (some (.ref f_soonest)))
    (l_soonest : K.lookup f_soonest = some ⟨oc_soonest, od_soonest, .func (PySem.W.fnOf "soonest" "soonest" (defArgs s_soonest) (defBody s_soonest) (defScope s_soonest) .none kV_soonest dc_soonest pm_soonest an_soonest cd_soonest ct_soonest), sl_soonest⟩)
    (q_soonest : PySem.W.codeIn K cd_soonest "soonest" = true)
    (p_soonest : PySem.W.keepIn K (.ref f_soonest) = true)
    (a_is_boundless : PySem.W.nsIn K mainGlobals "is_boundless" = some (some (.ref f_is_boundless)))
    (l_is_boundless : K.lookup f_is_boundless = some ⟨oc_is_boundless, od_is_boundless, .func (PySem.W.fnOf "is_boundless" "is_boundless" (defArgs s_is_boundless) (defBody s_is_boundless) (defScope s_is_boundless) .none kV_is_boundless dc_is_boundless pm_is_boundless an_is_boundless cd_is_boundless ct_is_boundless), sl_is_boundless⟩)
    (q_is_boundless : PySem.W.codeIn K cd_is_boundless "is_boundless" = true)
    (p_is_boundless : PySem.W.keepIn K (.ref f_is_boundless) = true)
    (a_longest_wait : PySem.W.nsIn K mainGlobals "longest_wait" = some (some (.ref f_longest_wait)))
    (l_longest_wait : K.lookup f_longest_wait = some ⟨oc_longest_wait, od_longest_wait, .func (PySem.W.fnOf "longest_wait" "longest_wait" (defArgs s_longest_wait) (defBody s_longest_wait) (defScope s_longest_wait) .none kV_longest_wait dc_longest_wait pm_longest_wait an_longest_wait cd_longest_wait ct_longest_wait), sl_longest_wait⟩)
    (q_longest_wait : PySem.W.codeIn K cd_longest_wait "longest_wait" = true)
    (p_longest_wait : PySem.W.keepIn K (.ref f_longest_wait) = true)
    (a_greatest_wait : PySem.W.nsIn K mainGlobals "greatest_wait" = some (some (.ref f_greatest_wait)))
    (l_greatest_wait : K.lookup f_greatest_wait = some ⟨oc_greatest_wait, od_greatest_wait, .func (PySem.W.fnOf "greatest_wait" "greatest_wait" (defArgs s_greatest_wait) (defBody s_greatest_wait) (defScope s_greatest_wait) .none kV_greatest_wait dc_greatest_wait pm_greatest_wait an_greatest_wait cd_greatest_wait ct_greatest_wait), sl_greatest_wait⟩)
    (q_greatest_wait : PySem.W.codeIn K cd_greatest_wait "greatest_wait" = true)
    (p_greatest_wait : PySem.W.keepIn K (.ref f_greatest_wait) = true)
    (a_worst_stream_for : PySem.W.nsIn K mainGlobals "worst_stream_for" = some (some (.ref f_worst_stream_for)))
    (l_worst_stream_for : K.lookup f_worst_stream_for = some ⟨oc_worst_stream_for, od_worst_stream_for, .func (PySem.W.fnOf "worst_stream_for" "worst_stream_for" (defArgs s_worst_stream_for) (defBody s_worst_stream_for) (defScope s_worst_stream_for) .none kV_worst_stream_for dc_worst_stream_for pm_worst_stream_for an_worst_stream_for cd_worst_stream_for ct_worst_stream_for), sl_worst_stream_for⟩)
    (q_worst_stream_for : PySem.W.codeIn K cd_worst_stream_for "worst_stream_for" = true)
    (p_worst_stream_for : PySem.W.keepIn K (.ref f_worst_stream_for) = true)
    (a_law_hand : PySem.W.nsIn K mainGlobals "_law_hand" = some (some (.ref f_law_hand)))
    (l_law_hand : K.lookup f_law_hand = some ⟨oc_law_hand, od_law_hand, .func (PySem.W.fnOf "_law_hand" "_law_hand" (defArgs s_law_hand) (defBody s_law_hand) (defScope s_law_hand) .none kV_law_hand dc_law_hand pm_law_hand an_law_hand cd_law_hand ct_law_hand), sl_law_hand⟩)
    (q_law_hand : PySem.W.codeIn K cd_law_hand "_law_hand" = true)
    (p_law_hand : PySem.W.keepIn K (.ref f_law_hand) = true)
    (a_law_draw : PySem.W.nsIn K mainGlobals "_law_draw" = some (some (.ref f_law_draw)))
    (l_law_draw : K.lookup f_law_draw = some ⟨oc_law_draw, od_law_draw, .func (PySem.W.fnOf "_law_draw" "_law_draw" (defArgs s_law_draw) (defBody s_law_draw) (defScope s_law_draw) .none kV_law_draw dc_law_draw pm_law_draw an_law_draw cd_law_draw ct_law_draw), sl_law_draw⟩)
    (q_law_draw : PySem.W.codeIn K cd_law_draw "_law_draw" = true)
    (p_law_draw : PySem.W.keepIn K (.ref f_law_draw) = true)
    (a_law_pick : PySem.W.nsIn K mainGlobals "_law_pick" = some (some (.ref f_law_pick)))
    (l_law_pick : K.lookup f_law_pick = some ⟨oc_law_pick, od_law_pick, .func (PySem.W.fnOf "_law_pick" "_law_pick" (defArgs s_law_pick) (defBody s_law_pick) (defScope s_law_pick) .none kV_law_pick dc_law_pick pm_law_pick an_law_pick cd_law_pick ct_law_pick), sl_law_pick⟩)
    (q_law_pick : PySem.W.codeIn K cd_law_pick "_law_pick" = true)
    (p_law_pick : PySem.W.keepIn K (.ref f_law_pick) = true)
    (a_law_same : PySem.W.nsIn K mainGlobals "_law_same" = some (some (.ref f_law_same)))
    (l_law_same : K.lookup f_law_same = some ⟨oc_law_same, od_law_same, .func (PySem.W.fnOf "_law_same" "_law_same" (defArgs s_law_same) (defBody s_law_same) (defScope s_law_same) .none kV_law_same dc_law_same pm_law_same an_law_same cd_law_same ct_law_same), sl_law_same⟩)
    (q_law_same : PySem.W.codeIn K cd_law_same "_law_same" = true)
    (p_law_same : PySem.W.keepIn K (.ref f_law_same) = true)
    (a_law_rows : PySem.W.nsIn K mainGlobals "_law_rows" = some (some (.ref f_law_rows)))
    (l_law_rows : K.lookup f_law_rows = some ⟨oc_law_rows, od_law_rows, .func (PySem.W.fnOf "_law_rows" "_law_rows" (defArgs s_law_rows) (defBody s_law_rows) (defScope s_law_rows) .none kV_law_rows dc_law_rows pm_law_rows an_law_rows cd_law_rows ct_law_rows), sl_law_rows⟩)
    (q_law_rows : PySem.W.codeIn K cd_law_rows "_law_rows" = true)
    (p_law_rows : PySem.W.keepIn K (.ref f_law_rows) = true)
    (a_law_sent : PySem.W.nsIn K mainGlobals "_law_sent" = some (some (.ref f_law_sent)))
    (l_law_sent : K.lookup f_law_sent = some ⟨oc_law_sent, od_law_sent, .func (PySem.W.fnOf "_law_sent" "_law_sent" (defArgs s_law_sent) (defBody s_law_sent) (defScope s_law_sent) .none kV_law_sent dc_law_sent pm_law_sent an_law_sent cd_law_sent ct_law_sent), sl_law_sent⟩)
    (q_law_sent : PySem.W.codeIn K cd_law_sent "_law_sent" = true)
    (p_law_sent : PySem.W.keepIn K (.ref f_law_sent) = true)
    (a_law_stream : PySem.W.nsIn K mainGlobals "_law_stream" = some (some (.ref f_law_stream)))
    (l_law_stream : K.lookup f_law_stream = some ⟨oc_law_stream, od_law_stream, .func (PySem.W.fnOf "_law_stream" "_law_stream" (defArgs s_law_stream) (defBody s_law_stream) (defScope s_law_stream) .none kV_law_stream dc_law_stream pm_law_stream an_law_stream cd_law_stream ct_law_stream), sl_law_stream⟩)
    (q_law_stream : PySem.W.codeIn K cd_law_stream "_law_stream" = true)
    (p_law_stream : PySem.W.keepIn K (.ref f_law_stream) = true)
    (a_law_thinned : PySem.W.nsIn K mainGlobals "_law_thinned" = some (some (.ref f_law_thinned)))
    (l_law_thinned : K.lookup f_law_thinned = some ⟨oc_law_thinned, od_law_thinned, .func (PySem.W.fnOf "_law_thinned" "_law_thinned" (defArgs s_law_thinned) (defBody s_law_thinned) (defScope s_law_thinned) .none kV_law_thinned dc_law_thinned pm_law_thinned an_law_thinned cd_law_thinned ct_law_thinned), sl_law_thinned⟩)
    (q_law_thinned : PySem.W.codeIn K cd_law_thinned "_law_thinned" = true)
    (p_law_thinned : PySem.W.keepIn K (.ref f_law_thinned) = true)
    (a_law_breach : PySem.W.nsIn K mainGlobals "_law_breach" = some (some (.ref f_law_breach)))
    (l_law_breach : K.lookup f_law_breach = some ⟨oc_law_breach, od_law_breach, .func (PySem.W.fnOf "_law_breach" "_law_breach" (defArgs s_law_breach) (defBody s_law_breach) (defScope s_law_breach) .none kV_law_breach dc_law_breach pm_law_breach an_law_breach cd_law_breach ct_law_breach), sl_law_breach⟩)
    (q_law_breach : PySem.W.codeIn K cd_law_breach "_law_breach" = true)
    (p_law_breach : PySem.W.keepIn K (.ref f_law_breach) = true)
    (a_law_played : PySem.W.nsIn K mainGlobals "_law_played" = some (some (.ref f_law_played)))
    (l_law_played : K.lookup f_law_played = some ⟨oc_law_played, od_law_played, .func (PySem.W.fnOf "_law_played" "_law_played" (defArgs s_law_played) (defBody s_law_played) (defScope s_law_played) .none kV_law_played dc_law_played pm_law_played an_law_played cd_law_played ct_law_played), sl_law_played⟩)
    (q_law_played : PySem.W.codeIn K cd_law_played "_law_played" = true)
    (p_law_played : PySem.W.keepIn K (.ref f_law_played) = true)
    (a_law_reach : PySem.W.nsIn K mainGlobals "_law_reach" = some (some (.ref f_law_reach)))
    (l_law_reach : K.lookup f_law_reach = some ⟨oc_law_reach, od_law_reach, .func (PySem.W.fnOf "_law_reach" "_law_reach" (defArgs s_law_reach) (defBody s_law_reach) (defScope s_law_reach) .none kV_law_reach dc_law_reach pm_law_reach an_law_reach cd_law_reach ct_law_reach), sl_law_reach⟩)
    (q_law_reach : PySem.W.codeIn K cd_law_reach "_law_reach" = true)
    (p_law_reach : PySem.W.keepIn K (.ref f_law_reach) = true)
    (a_law_wait : PySem.W.nsIn K mainGlobals "_law_wait" = some (some (.ref f_law_wait)))
    (l_law_wait : K.lookup f_law_wait = some ⟨oc_law_wait, od_law_wait, .func (PySem.W.fnOf "_law_wait" "_law_wait" (defArgs s_law_wait) (defBody s_law_wait) (defScope s_law_wait) .none kV_law_wait dc_law_wait pm_law_wait an_law_wait cd_law_wait ct_law_wait), sl_law_wait⟩)
    (q_law_wait : PySem.W.codeIn K cd_law_wait "_law_wait" = true)
    (p_law_wait : PySem.W.keepIn K (.ref f_law_wait) = true)
    (a_law_lots : PySem.W.nsIn K mainGlobals "_law_lots" = some (some (.ref f_law_lots)))
    (l_law_lots : K.lookup f_law_lots = some ⟨oc_law_lots, od_law_lots, .func (PySem.W.fnOf "_law_lots" "_law_lots" (defArgs s_law_lots) (defBody s_law_lots) (defScope s_law_lots) .none kV_law_lots dc_law_lots pm_law_lots an_law_lots cd_law_lots ct_law_lots), sl_law_lots⟩)
    (q_law_lots : PySem.W.codeIn K cd_law_lots "_law_lots" = true)
    (p_law_lots : PySem.W.keepIn K (.ref f_law_lots) = true)
    (a_law_all : PySem.W.nsIn K mainGlobals "_law_all" = some (some (.ref f_law_all)))
    (l_law_all : K.lookup f_law_all = some ⟨oc_law_all, od_law_all, .func (PySem.W.fnOf "_law_all" "_law_all" (defArgs s_law_all) (defBody s_law_all) (defScope s_law_all) .none kV_law_all dc_law_all pm_law_all an_law_all cd_law_all ct_law_all), sl_law_all⟩)
    (q_law_all : PySem.W.codeIn K cd_law_all "_law_all" = true)
    (p_law_all : PySem.W.keepIn K (.ref f_law_all) = true)
    (a_law_word : PySem.W.nsIn K mainGlobals "_law_word" = some (some (.ref f_law_word)))
    (l_law_word : K.lookup f_law_word = some ⟨oc_law_word, od_law_word, .func (PySem.W.fnOf "_law_word" "_law_word" (defArgs s_law_word) (defBody s_law_word) (defScope s_law_word) .none kV_law_word dc_law_word pm_law_word an_law_word cd_law_word ct_law_word), sl_law_word⟩)
    (q_law_word : PySem.W.codeIn K cd_law_word "_law_word" = true)
    (p_law_word : PySem.W.keepIn K (.ref f_law_word) = true)
    (a_law_longest : PySem.W.nsIn K mainGlobals "_law_longest" = some (some (.ref f_law_longest)))
    (l_law_longest : K.lookup f_law_longest = some ⟨oc_law_longest, od_law_longest, .func (PySem.W.fnOf "_law_longest" "_law_longest" (defArgs s_law_longest) (defBody s_law_longest) (defScope s_law_longest) .none kV_law_longest dc_law_longest pm_law_longest an_law_longest cd_law_longest ct_law_longest), sl_law_longest⟩)
    (q_law_longest : PySem.W.codeIn K cd_law_longest "_law_longest" = true)
    (p_law_longest : PySem.W.keepIn K (.ref f_law_longest) = true)
    (a_law_small_right : PySem.W.nsIn K mainGlobals "_law_small_right" = some (some (.ref f_law_small_right)))
    (l_law_small_right : K.lookup f_law_small_right = some ⟨oc_law_small_right, od_law_small_right, .func (PySem.W.fnOf "_law_small_right" "_law_small_right" (defArgs s_law_small_right) (defBody s_law_small_right) (defScope s_law_small_right) .none kV_law_small_right dc_law_small_right pm_law_small_right an_law_small_right cd_law_small_right ct_law_small_right), sl_law_small_right⟩)
    (q_law_small_right : PySem.W.codeIn K cd_law_small_right "_law_small_right" = true)
    (p_law_small_right : PySem.W.keepIn K (.ref f_law_small_right) = true)
    (a_law_kind_right : PySem.W.nsIn K mainGlobals "_law_kind_right" = some (some (.ref f_law_kind_right)))
    (l_law_kind_right : K.lookup f_law_kind_right = some ⟨oc_law_kind_right, od_law_kind_right, .func (PySem.W.fnOf "_law_kind_right" "_law_kind_right" (defArgs s_law_kind_right) (defBody s_law_kind_right) (defScope s_law_kind_right) .none kV_law_kind_right dc_law_kind_right pm_law_kind_right an_law_kind_right (.ref co_law_kind_right) ct_law_kind_right), sl_law_kind_right⟩)
    (q_law_kind_right : PySem.W.codeIn K (.ref co_law_kind_right) "_law_kind_right" = true)
    (p_law_kind_right : PySem.W.keepIn K (.ref f_law_kind_right) = true)
    (a_law : PySem.W.nsIn K mainGlobals "law" = some (some (.ref f_law)))
    (l_law : K.lookup f_law = some ⟨oc_law, od_law, .func (PySem.W.fnOf "law" "law" (defArgs s_law) (defBody s_law) (defScope s_law) .none kV_law dc_law pm_law an_law cd_law ct_law), sl_law⟩)
    (q_law : PySem.W.codeIn K cd_law "law" = true)
    (p_law : PySem.W.keepIn K (.ref f_law) = true)
    (pg_Buckets : PySem.W.plainGet K c_Buckets Str.empty = true)
    (hd_Buckets : PySem.W.hasDictIn K c_Buckets = true)
    (po_Buckets : PySem.W.plainOver K c_Buckets = true)
    (sa_Buckets : PySem.W.findIn K (.ref c_Buckets) "__setattr__" = some (some (.builtin "object.__setattr__")))
    (mk_Buckets : PySem.W.makesIn K c_Buckets = true)
    (kc_Buckets : PySem.W.keepIn K (.ref c_Buckets) = true)
    (n_Buckets_bottom : PySem.W.findIn K (.ref c_Buckets) "bottom" = some none)
    (n_Buckets_rows : PySem.W.findIn K (.ref c_Buckets) "rows" = some none)
    (ne_Buckets : PySem.W.findIn K (.ref c_Buckets) "__ne__" = some (some (.builtin "object.__ne__")))
    (x_Boundless : PySem.W.excIn K c_Boundless [.type "ValueError", .type "Exception", .type "BaseException", .type "object"] "ValueError.__new__" = true)
    (kp_Boundless : PySem.W.keepIn K (.ref c_Boundless) = true)
    (s_Boundless : PySem.W.subIn K (.ref c_Boundless) (.type "BaseException") = some true)
    (t_Boundless : PySem.W.typeIn K (.ref c_Boundless) = some (.type "type"))
    (e1_Boundless : PySem.W.findIn K (.ref c_Boundless) "__getattribute__" = some (some (.builtin "BaseException.__getattribute__")))
    (e2_Boundless : PySem.W.findIn K (.ref c_Boundless) "__getattr__" = some none)
    (e3_Boundless : PySem.W.hasDictIn K c_Boundless = true)
    (e4_Boundless : PySem.W.findIn K (.ref c_Boundless) "__class__" = some (some (.builtin "object.__class__")))
    (e5_Boundless : PySem.W.mroIn K c_Boundless (.type "object") = some true)
    (x_NoCell : PySem.W.excIn K c_NoCell [.type "ValueError", .type "Exception", .type "BaseException", .type "object"] "ValueError.__new__" = true)
    (kp_NoCell : PySem.W.keepIn K (.ref c_NoCell) = true)
    (s_NoCell : PySem.W.subIn K (.ref c_NoCell) (.type "BaseException") = some true)
    (t_NoCell : PySem.W.typeIn K (.ref c_NoCell) = some (.type "type"))
    (e1_NoCell : PySem.W.findIn K (.ref c_NoCell) "__getattribute__" = some (some (.builtin "BaseException.__getattribute__")))
    (e2_NoCell : PySem.W.findIn K (.ref c_NoCell) "__getattr__" = some none)
    (e3_NoCell : PySem.W.hasDictIn K c_NoCell = true)
    (e4_NoCell : PySem.W.findIn K (.ref c_NoCell) "__class__" = some (some (.builtin "object.__class__")))
    (e5_NoCell : PySem.W.mroIn K c_NoCell (.type "object") = some true)
    (tt_Buckets : PySem.W.typeIn K (.ref c_Buckets) = some (.type "type"))
    (ci_Buckets : PySem.W.findIn K (.ref c_Buckets) "__class__" = some (some (.builtin "object.__class__")))
    (em_Buckets : PySem.W.mroIn K c_Buckets (.type "object") = some true)
    (en1 : PySem.W.specialIn K (.builtin "object.__class__") "__get__" = some (some (.builtin "getset_descriptor.__get__")))
    (en2 : PySem.W.takesIn K (.builtin "object.__class__") = some true)
    (su_Buckets_int : PySem.W.subIn K (.ref c_Buckets) (.type "int") = some false)
    (su_Buckets_bool : PySem.W.subIn K (.ref c_Buckets) (.type "bool") = some false)
    (su_Buckets_tuple : PySem.W.subIn K (.ref c_Buckets) (.type "tuple") = some false)
    (s_FabricError : PySem.W.subIn K (.ref c_FabricError) (.type "BaseException") = some true)
    (t_FabricError : PySem.W.typeIn K (.ref c_FabricError) = some (.type "type"))
    (e3_FabricError : PySem.W.hasDictIn K c_FabricError = true)
    (su_FabricError_FabricError : PySem.W.subIn K (.ref c_FabricError) (.ref c_FabricError) = some true)
    (su_Boundless_FabricError : PySem.W.subIn K (.ref c_Boundless) (.ref c_FabricError) = some true)
    (su_Boundless_Boundless : PySem.W.subIn K (.ref c_Boundless) (.ref c_Boundless) = some true)
    (su_Boundless_NoCell : PySem.W.subIn K (.ref c_Boundless) (.ref c_NoCell) = some false)
    (su_NoCell_FabricError : PySem.W.subIn K (.ref c_NoCell) (.ref c_FabricError) = some true)
    (su_NoCell_Boundless : PySem.W.subIn K (.ref c_NoCell) (.ref c_Boundless) = some false)
    (su_NoCell_NoCell : PySem.W.subIn K (.ref c_NoCell) (.ref c_NoCell) = some true)
    (k_MOST_LINES : PySem.W.nsIn K mainGlobals "MOST_LINES" = some (some (.int 12 t_MOST_LINES)))
    (k_KINDS : PySem.W.nsIn K mainGlobals "KINDS" = some (some (.int 8 t_KINDS)))
    (k_GREATEST_BOTTOM : PySem.W.nsIn K mainGlobals "GREATEST_BOTTOM" = some (some (.int 20 t_GREATEST_BOTTOM)))
    (k_GREATEST_BURST : PySem.W.nsIn K mainGlobals "GREATEST_BURST" = some (some (.int 20 t_GREATEST_BURST)))
    (k_LONGEST : PySem.W.nsIn K mainGlobals "LONGEST" = some (some (.int 420 t_LONGEST)))
    (z_abs : PySem.W.nsIn K mainGlobals "abs" = some none)
    (z_all : PySem.W.nsIn K mainGlobals "all" = some none)
    (z_any : PySem.W.nsIn K mainGlobals "any" = some none)
    (z_bool : PySem.W.nsIn K mainGlobals "bool" = some none)
    (z_enumerate : PySem.W.nsIn K mainGlobals "enumerate" = some none)
    (z_int : PySem.W.nsIn K mainGlobals "int" = some none)
    (z_isinstance : PySem.W.nsIn K mainGlobals "isinstance" = some none)
    (z_len : PySem.W.nsIn K mainGlobals "len" = some none)
    (z_list : PySem.W.nsIn K mainGlobals "list" = some none)
    (z_max : PySem.W.nsIn K mainGlobals "max" = some none)
    (z_min : PySem.W.nsIn K mainGlobals "min" = some none)
    (z_range : PySem.W.nsIn K mainGlobals "range" = some none)
    (z_sorted : PySem.W.nsIn K mainGlobals "sorted" = some none)
    (z_sum : PySem.W.nsIn K mainGlobals "sum" = some none)
    (z_tuple : PySem.W.nsIn K mainGlobals "tuple" = some none)
    (z_zip : PySem.W.nsIn K mainGlobals "zip" = some none)
    : LamX.LawAtS l w K CX0 18 63 "_law_script" mg fa h := by
  obtain ⟨A, T, ed, ea, ec_law_kind_right, et_law_kind_right⟩ := top_mk (l := l) (w := w) (tb_law_kind_right := tb_law_kind_right) X G ac_Buckets ac_FabricError ac_NoCell ac_Boundless a_is_integer l_is_integer q_is_integer p_is_integer a_is_integer_from l_is_integer_from q_is_integer_from p_is_integer_from a_is_number_below l_is_number_below q_is_number_below p_is_number_below a_is_tuple_of l_is_tuple_of q_is_tuple_of p_is_tuple_of a_is_bucket l_is_bucket q_is_bucket p_is_bucket a_Buckets___init__ i_Buckets___init__ l_Buckets___init__ q_Buckets___init__ p_Buckets___init__ a_Buckets___eq__ i_Buckets___eq__ l_Buckets___eq__ q_Buckets___eq__ p_Buckets___eq__ a_check_kind l_check_kind q_check_kind p_check_kind a_most_of l_most_of q_most_of p_most_of a_most_together l_most_together q_most_together p_most_together a_rows_of l_rows_of q_rows_of p_rows_of a_tops_of l_tops_of q_tops_of p_tops_of a_sends l_sends q_sends p_sends a_soonest l_soonest q_soonest p_soonest a_is_boundless l_is_boundless q_is_boundless p_is_boundless a_longest_wait l_longest_wait q_longest_wait p_longest_wait a_greatest_wait l_greatest_wait q_greatest_wait p_greatest_wait a_worst_stream_for l_worst_stream_for q_worst_stream_for p_worst_stream_for a_law_hand l_law_hand q_law_hand p_law_hand a_law_draw l_law_draw q_law_draw p_law_draw a_law_pick l_law_pick q_law_pick p_law_pick a_law_same l_law_same q_law_same p_law_same a_law_rows l_law_rows q_law_rows p_law_rows a_law_sent l_law_sent q_law_sent p_law_sent a_law_stream l_law_stream q_law_stream p_law_stream a_law_thinned l_law_thinned q_law_thinned p_law_thinned a_law_breach l_law_breach q_law_breach p_law_breach a_law_played l_law_played q_law_played p_law_played a_law_reach l_law_reach q_law_reach p_law_reach a_law_wait l_law_wait q_law_wait p_law_wait a_law_lots l_law_lots q_law_lots p_law_lots a_law_all l_law_all q_law_all p_law_all a_law_word l_law_word q_law_word p_law_word a_law_longest l_law_longest q_law_longest p_law_longest a_law_small_right l_law_small_right q_law_small_right p_law_small_right a_law_kind_right l_law_kind_right q_law_kind_right p_law_kind_right a_law l_law q_law p_law pg_Buckets hd_Buckets po_Buckets sa_Buckets mk_Buckets kc_Buckets n_Buckets_bottom n_Buckets_rows ne_Buckets x_Boundless kp_Boundless s_Boundless t_Boundless e1_Boundless e2_Boundless e3_Boundless e4_Boundless e5_Boundless x_NoCell kp_NoCell s_NoCell t_NoCell e1_NoCell e2_NoCell e3_NoCell e4_NoCell e5_NoCell tt_Buckets ci_Buckets em_Buckets en1 en2 su_Buckets_int su_Buckets_bool su_Buckets_tuple s_FabricError t_FabricError e3_FabricError su_FabricError_FabricError su_Boundless_FabricError su_Boundless_Boundless su_Boundless_NoCell su_NoCell_FabricError su_NoCell_Boundless su_NoCell_NoCell k_MOST_LINES k_KINDS k_GREATEST_BOTTOM k_GREATEST_BURST k_LONGEST z_abs z_all z_any z_bool z_enumerate z_int z_isinstance z_len z_list z_max z_min z_range z_sorted z_sum z_tuple z_zip
  have e := hfa.symm.trans T.g_law
  cases e
  subst ec_law_kind_right et_law_kind_right
  refine ⟨A.d_law, [(A.cd_law_kind_right, A.tb_law_kind_right)], spLaw K A, fun p hp => by
    simp only [List.mem_cons, List.not_mem_nil, or_false] at hp
    rcases hp with rfl
    · exact ht_law_kind_right, fun p hp => by
    simp only [List.mem_cons, List.not_mem_nil, or_false] at hp
    rcases hp with rfl
    · exact hk_law_kind_right, fun p hp => by
    simp only [List.mem_cons, List.not_mem_nil, or_false] at hp
    rcases hp with rfl
    · exact PySem.W.codeHd_of_K X hd_law_kind_right, fun s v => by rw [ed]; exact .of_eq rfl, fun H a ns hn hb ht hS => ⟨a, ns, rfl, hS, hn, ?_, fun _ => rfl⟩, fun base kin gl tb => ok_law T ⟨tb (A.cd_law_kind_right, A.tb_law_kind_right) (by simp)⟩⟩
  · intro p hp
    simp only [List.mem_cons, List.not_mem_nil, or_false] at hp
    rcases hp with rfl
    · exact LamX.TabS.nil (ht (A.cd_law_kind_right, A.tb_law_kind_right) (by simp))

end KX
open PySem PySem.W PyProof.Rows in
set_option maxRecDepth 100000 in
set_option maxHeartbeats 0 in
theorem PySem.Challenge.cw_exactbeats_k57_whole_greatest_waits_holds : PySem.Challenge.rw_exactbeats_k57_whole_greatest_waits.Holds := by
  w_on; o_law; km_head; (case hw => w_witness2)
  refine LamX.walk_ofTs (l := PySem.Challenge.rw_exactbeats_k57_whole_greatest_waits) (n := 63) (k := 18) (x := "_law_script") (CX := fun _ => L2.CX0) rfl (by decide) rfl ⟨rfl, by decide, by decide⟩ (fun w h Y => PySem.W.km_in_of Y) ?F (fun _ _ _ _ _ h => h)
  case F =>
    intro w mg fa h Y_ KX_ G hmg
    have YT_ := PySem.W.km_tabs_of Y_
    refine' KX.top_end KX_ G hmg (YT_ _ List.mem_cons_self) ?hk_law_kind_right ?hd_law_kind_right ?ac_Buckets ?ac_FabricError ?ac_NoCell ?ac_Boundless ?a_is_integer ?l_is_integer ?q_is_integer ?p_is_integer ?a_is_integer_from ?l_is_integer_from ?q_is_integer_from ?p_is_integer_from ?a_is_number_below ?l_is_number_below ?q_is_number_below ?p_is_number_below ?a_is_tuple_of ?l_is_tuple_of ?q_is_tuple_of ?p_is_tuple_of ?a_is_bucket ?l_is_bucket ?q_is_bucket ?p_is_bucket ?a_Buckets___init__ ?i_Buckets___init__ ?l_Buckets___init__ ?q_Buckets___init__ ?p_Buckets___init__ ?a_Buckets___eq__ ?i_Buckets___eq__ ?l_Buckets___eq__ ?q_Buckets___eq__ ?p_Buckets___eq__ ?a_check_kind ?l_check_kind ?q_check_kind ?p_check_kind ?a_most_of ?l_most_of ?q_most_of ?p_most_of ?a_most_together ?l_most_together ?q_most_together ?p_most_together ?a_rows_of ?l_rows_of ?q_rows_of ?p_rows_of ?a_tops_of ?l_tops_of ?q_tops_of ?p_tops_of ?a_sends ?l_sends ?q_sends ?p_sends ?a_soonest ?l_soonest ?q_soonest ?p_soonest ?a_is_boundless ?l_is_boundless ?q_is_boundless ?p_is_boundless ?a_longest_wait ?l_longest_wait ?q_longest_wait ?p_longest_wait ?a_greatest_wait ?l_greatest_wait ?q_greatest_wait ?p_greatest_wait ?a_worst_stream_for ?l_worst_stream_for ?q_worst_stream_for ?p_worst_stream_for ?a_law_hand ?l_law_hand ?q_law_hand ?p_law_hand ?a_law_draw ?l_law_draw ?q_law_draw ?p_law_draw ?a_law_pick ?l_law_pick ?q_law_pick ?p_law_pick ?a_law_same ?l_law_same ?q_law_same ?p_law_same ?a_law_rows ?l_law_rows ?q_law_rows ?p_law_rows ?a_law_sent ?l_law_sent ?q_law_sent ?p_law_sent ?a_law_stream ?l_law_stream ?q_law_stream ?p_law_stream ?a_law_thinned ?l_law_thinned ?q_law_thinned ?p_law_thinned ?a_law_breach ?l_law_breach ?q_law_breach ?p_law_breach ?a_law_played ?l_law_played ?q_law_played ?p_law_played ?a_law_reach ?l_law_reach ?q_law_reach ?p_law_reach ?a_law_wait ?l_law_wait ?q_law_wait ?p_law_wait ?a_law_lots ?l_law_lots ?q_law_lots ?p_law_lots ?a_law_all ?l_law_all ?q_law_all ?p_law_all ?a_law_word ?l_law_word ?q_law_word ?p_law_word ?a_law_longest ?l_law_longest ?q_law_longest ?p_law_longest ?a_law_small_right ?l_law_small_right ?q_law_small_right ?p_law_small_right ?a_law_kind_right ?l_law_kind_right ?q_law_kind_right ?p_law_kind_right ?a_law ?l_law ?q_law ?p_law ?pg_Buckets ?hd_Buckets ?po_Buckets ?sa_Buckets ?mk_Buckets ?kc_Buckets ?n_Buckets_bottom ?n_Buckets_rows ?ne_Buckets ?x_Boundless ?kp_Boundless ?s_Boundless ?t_Boundless ?e1_Boundless ?e2_Boundless ?e3_Boundless ?e4_Boundless ?e5_Boundless ?x_NoCell ?kp_NoCell ?s_NoCell ?t_NoCell ?e1_NoCell ?e2_NoCell ?e3_NoCell ?e4_NoCell ?e5_NoCell ?tt_Buckets ?ci_Buckets ?em_Buckets ?en1 ?en2 ?su_Buckets_int ?su_Buckets_bool ?su_Buckets_tuple ?s_FabricError ?t_FabricError ?e3_FabricError ?su_FabricError_FabricError ?su_Boundless_FabricError ?su_Boundless_Boundless ?su_Boundless_NoCell ?su_NoCell_FabricError ?su_NoCell_Boundless ?su_NoCell_NoCell ?k_MOST_LINES ?k_KINDS ?k_GREATEST_BOTTOM ?k_GREATEST_BURST ?k_LONGEST ?z_abs ?z_all ?z_any ?z_bool ?z_enumerate ?z_int ?z_isinstance ?z_len ?z_list ?z_max ?z_min ?z_range ?z_sorted ?z_sum ?z_tuple ?z_zip
    (case ac_Buckets => k_is)
    (case ac_FabricError => k_is)
    (case ac_NoCell => k_is)
    (case ac_Boundless => k_is)
    (case a_is_integer => k_is)
    (case l_is_integer => k_is)
    (case q_is_integer => k_is)
    (case p_is_integer => k_is)
    (case a_is_integer_from => k_is)
    (case l_is_integer_from => k_is)
    (case q_is_integer_from => k_is)
    (case p_is_integer_from => k_is)
    (case a_is_number_below => k_is)
    (case l_is_number_below => k_is)
    (case q_is_number_below => k_is)
    (case p_is_number_below => k_is)
    (case a_is_tuple_of => k_is)
    (case l_is_tuple_of => k_is)
    (case q_is_tuple_of => k_is)
    (case p_is_tuple_of => k_is)
    (case a_is_bucket => k_is)
    (case l_is_bucket => k_is)
    (case q_is_bucket => k_is)
    (case p_is_bucket => k_is)
    (case a_Buckets___init__ => k_is)
    (case i_Buckets___init__ => k_is)
    (case l_Buckets___init__ => k_is)
    (case q_Buckets___init__ => k_is)
    (case p_Buckets___init__ => k_is)
    (case a_Buckets___eq__ => k_is)
    (case i_Buckets___eq__ => k_is)
    (case l_Buckets___eq__ => k_is)
    (case q_Buckets___eq__ => k_is)
    (case p_Buckets___eq__ => k_is)
    (case a_check_kind => k_is)
    (case l_check_kind => k_is)
    (case q_check_kind => k_is)
    (case p_check_kind => k_is)
    (case a_most_of => k_is)
    (case l_most_of => k_is)
    (case q_most_of => k_is)
    (case p_most_of => k_is)
    (case a_most_together => k_is)
    (case l_most_together => k_is)
    (case q_most_together => k_is)
    (case p_most_together => k_is)
    (case a_rows_of => k_is)
    (case l_rows_of => k_is)
    (case q_rows_of => k_is)
    (case p_rows_of => k_is)
    (case a_tops_of => k_is)
    (case l_tops_of => k_is)
    (case q_tops_of => k_is)
    (case p_tops_of => k_is)
    (case a_sends => k_is)
    (case l_sends => k_is)
    (case q_sends => k_is)
    (case p_sends => k_is)
    (case a_soonest => k_is)
    (case l_soonest => k_is)
    (case q_soonest => k_is)
    (case p_soonest => k_is)
    (case a_is_boundless => k_is)
    (case l_is_boundless => k_is)
    (case q_is_boundless => k_is)
    (case p_is_boundless => k_is)
    (case a_longest_wait => k_is)
    (case l_longest_wait => k_is)
    (case q_longest_wait => k_is)
    (case p_longest_wait => k_is)
    (case a_greatest_wait => k_is)
    (case l_greatest_wait => k_is)
    (case q_greatest_wait => k_is)
    (case p_greatest_wait => k_is)
    (case a_worst_stream_for => k_is)
    (case l_worst_stream_for => k_is)
    (case q_worst_stream_for => k_is)
    (case p_worst_stream_for => k_is)
    (case a_law_hand => k_is)
    (case l_law_hand => k_is)
    (case q_law_hand => k_is)
    (case p_law_hand => k_is)
    (case a_law_draw => k_is)
    (case l_law_draw => k_is)
    (case q_law_draw => k_is)
    (case p_law_draw => k_is)
    (case a_law_pick => k_is)
    (case l_law_pick => k_is)
    (case q_law_pick => k_is)
    (case p_law_pick => k_is)
    (case a_law_same => k_is)
    (case l_law_same => k_is)
    (case q_law_same => k_is)
    (case p_law_same => k_is)
    (case a_law_rows => k_is)
    (case l_law_rows => k_is)
    (case q_law_rows => k_is)
    (case p_law_rows => k_is)
    (case a_law_sent => k_is)
    (case l_law_sent => k_is)
    (case q_law_sent => k_is)
    (case p_law_sent => k_is)
    (case a_law_stream => k_is)
    (case l_law_stream => k_is)
    (case q_law_stream => k_is)
    (case p_law_stream => k_is)
    (case a_law_thinned => k_is)
    (case l_law_thinned => k_is)
    (case q_law_thinned => k_is)
    (case p_law_thinned => k_is)
    (case a_law_breach => k_is)
    (case l_law_breach => k_is)
    (case q_law_breach => k_is)
    (case p_law_breach => k_is)
    (case a_law_played => k_is)
    (case l_law_played => k_is)
    (case q_law_played => k_is)
    (case p_law_played => k_is)
    (case a_law_reach => k_is)
    (case l_law_reach => k_is)
    (case q_law_reach => k_is)
    (case p_law_reach => k_is)
    (case a_law_wait => k_is)
    (case l_law_wait => k_is)
    (case q_law_wait => k_is)
    (case p_law_wait => k_is)
    (case a_law_lots => k_is)
    (case l_law_lots => k_is)
    (case q_law_lots => k_is)
    (case p_law_lots => k_is)
    (case a_law_all => k_is)
    (case l_law_all => k_is)
    (case q_law_all => k_is)
    (case p_law_all => k_is)
    (case a_law_word => k_is)
    (case l_law_word => k_is)
    (case q_law_word => k_is)
    (case p_law_word => k_is)
    (case a_law_longest => k_is)
    (case l_law_longest => k_is)
    (case q_law_longest => k_is)
    (case p_law_longest => k_is)
    (case a_law_small_right => k_is)
    (case l_law_small_right => k_is)
    (case q_law_small_right => k_is)
    (case p_law_small_right => k_is)
    (case a_law_kind_right => k_is)
    (case l_law_kind_right => k_is)
    (case q_law_kind_right => k_is)
    (case p_law_kind_right => k_is)
    (case a_law => k_is)
    (case l_law => k_is)
    (case q_law => k_is)
    (case p_law => k_is)
    (case pg_Buckets => k_is)
    (case hd_Buckets => k_is)
    (case po_Buckets => k_is)
    (case sa_Buckets => k_is)
    (case mk_Buckets => k_is)
    (case kc_Buckets => k_is)
    (case n_Buckets_bottom => k_is)
    (case n_Buckets_rows => k_is)
    (case ne_Buckets => k_is)
    (case x_Boundless => k_exc)
    (case kp_Boundless => k_is)
    (case s_Boundless => k_is)
    (case t_Boundless => k_is)
    (case e1_Boundless => k_is)
    (case e2_Boundless => k_is)
    (case e3_Boundless => k_is)
    (case e4_Boundless => k_is)
    (case e5_Boundless => k_is)
    (case x_NoCell => k_exc)
    (case kp_NoCell => k_is)
    (case s_NoCell => k_is)
    (case t_NoCell => k_is)
    (case e1_NoCell => k_is)
    (case e2_NoCell => k_is)
    (case e3_NoCell => k_is)
    (case e4_NoCell => k_is)
    (case e5_NoCell => k_is)
    (case tt_Buckets => k_is)
    (case ci_Buckets => k_is)
    (case em_Buckets => k_is)
    (case en1 => k_is)
    (case en2 => k_is)
    (case su_Buckets_int => k_is)
    (case su_Buckets_bool => k_is)
    (case su_Buckets_tuple => k_is)
    (case s_FabricError => k_is)
    (case t_FabricError => k_is)
    (case e3_FabricError => k_is)
    (case su_FabricError_FabricError => k_is)
    (case su_Boundless_FabricError => k_is)
    (case su_Boundless_Boundless => k_is)
    (case su_Boundless_NoCell => k_is)
    (case su_NoCell_FabricError => k_is)
    (case su_NoCell_Boundless => k_is)
    (case su_NoCell_NoCell => k_is)
    (case k_MOST_LINES => k_is)
    (case k_KINDS => k_is)
    (case k_GREATEST_BOTTOM => k_is)
    (case k_GREATEST_BURST => k_is)
    (case k_LONGEST => k_is)
    (case z_abs => k_is)
    (case z_all => k_is)
    (case z_any => k_is)
    (case z_bool => k_is)
    (case z_enumerate => k_is)
    (case z_int => k_is)
    (case z_isinstance => k_is)
    (case z_len => k_is)
    (case z_list => k_is)
    (case z_max => k_is)
    (case z_min => k_is)
    (case z_range => k_is)
    (case z_sorted => k_is)
    (case z_sum => k_is)
    (case z_tuple => k_is)
    (case z_zip => k_is)
    (case hd_law_kind_right => first | rfl | kernel_rfl | decide +kernel)
    (case hk_law_kind_right => first | rfl | kernel_rfl | decide +kernel)
