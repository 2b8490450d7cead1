import PyProof.Rows.All
import Wide.All
import OpenK.AllK
import Wide.FinOn
import HandS.ForMost
import HandS.IsInst
import HandS.More
import HandS.SetFor
import HandS.Evl
import HandS.Walk
import PyProof.Rows.CountFlat
import HandS.ForExc
import HandS.TryMany
import HandS.Small
import HandS.Style
import HandS.Lambda
import HandS.EndTab
import HandS.ExcIs
import KE.KNestM
import HandS.Zip
import HandS.TupAny
import HandS.Strs
import HandS.SortInts
import HandS.ExcInit
import HandS.ExcField
import KE.KExcIs
import KE.GoesMore
import PyProof.EnumMake
import PyProof.Draws
import PyProof.ReprRoads
import PyProof.CallFns
import PyProof.ReprLen
import PyProof.InstEq
import HandS.TupMul
import HandS.Flow
import HandS.Dict
import HandS.DictComp
import HandS.Deep
import HandS.TupSets
import HandS.Conv
import HandS.Rev
import KE.SortData
import HandS.TupLe
import PyProof.TupleOfSeq
import HandS.ExcValue
import PyProof.Transfer
import HandS.TupSets
import HandS.SortKw
import HandS.TupMul
import HandS.Zip0
import HandS.Zip
import HandS.Comp
import HandS.Walk
import HandS.Sort
import KE.GoesMore
import PyProof.EnumMake
import PyProof.Draws
import PyProof.EnumIter
import KE.GoesEnumKw
import KE.GoesEnum
import KE.DataMinMax
import KE.KDictList
import PySem.Challenge.RW_exactbeats_k76_whole_loads_and_cells_jud
set_option Elab.async false
set_option linter.all false
set_option maxRecDepth 100000
set_option maxHeartbeats 4000000
/-! Rules that the layer lacks: an own exception made without arguments; what a lambda's call may raise. -/
namespace GX
open PySem PySem.Spec PyProof.Rows L2
section
variable {X : Cx}
/-- X(): an own exception class without an __init__ of its own, no argument -/
theorem pmk_own0 {C : Addr} {bmB : List Value} {B newId initId : String} {x : Str} {p pos : Pos} (FB : ExcBaseFacts B newId initId bmB) (hx : PySem.W.excIn X.K C bmB newId = true) (hm : X.mg x = some (.ref C)) (hk : PySem.W.keepIn X.K (.ref C) = true)
    (hR : Raises X (.ref C)) (hg : Gl X x) (hdb : (x == ("__debug__" : Str)) = false := by decide) : PMk X (.Call (.Name x p) [] [] pos) (fun _ H Q => Q (.ref C) none H) := by
  intro pins s σ H Q I h
  refine wpAny_Call_Name_kw (ld_glob I hg hm (PySem.W.callWith_K0 I.kIn hk ?_) hdb)
  obtain ⟨bm, N, nm, qn, bs, hdct, sn, sub, ab, col, dd, k0, k1, k2, k3, k5, mN, e1, e2, e3, tail⟩ := exc_obj I.kIn hx
  refine wpAny_call_exc_subT (rest := [] ++ []) FB tail e1 e2 e3 (fun h' e made => ?_)
  refine mk_of I made hR h ?_
  -- the new address is tracked by nothing
  cases q : H e with
  | none => rfl
  | some o =>
    have z := made.new
    obtain ⟨b, hb⟩ := objOk_get (I.hok e o q)
    rw [hb] at z
    cases z
/-- raising calls within a def's own body (or a lambda's) -/
theorem passX {E : XK} (h1 : X.stack = X.env :: X.outer) (h2 : X.env.frame = some X.env.locals) (h3 : X.ex = []) {E₁ : Value → Shared → Prop}
    (h4 : X.xe = fun e s' => wpAny (model X.prog X.w) X.A (leaving X.env e) (fun _ s'' => L2.CX X.prog X.w X.outer X.H_0 X.s_0 E e s'') E₁ s') : Passes (L2.CX X.prog X.w) X E :=
  passes_call (takes_of h1 h2 h3 h4) fun _ _ _ _ h => h
theorem takes_len {W : WX} (h : Takes X W) : Takes X (fun cls d σ H => σ.length = X.N.length → W cls d σ H) := fun u s' z => by
  obtain ⟨a, B, sI, pins, σ, H, cls, d, e1, I, r1, r2, r3, r4, r5, r6, r7⟩ := z
  exact h u s' ⟨a, B, sI, pins, σ, H, cls, d, e1, I, r1, r2, r3, r4, r5, r6, r7 I.len⟩
theorem call_isEg {a : Addr} {cls : Value} {d : Option Addr} {oe : Obj} {pn : List (Addr × Obj)} (hz : Zc cls d oe) (hf : ∃ vs, oe.data = Data.fields vs) :
    CallR (X.suite a ((a, oe) :: pn)) (.builtin "isinstance") (fun xs H Q => ∃ D, cls = .ref D ∧ d = none ∧ ExcC X.K D ∧ rIsE X.K D a xs H Q) := by
  intro pins s σ H xs us Q I r h
  obtain ⟨D, rfl, rfl, hE, h⟩ := h
  exact call_isE hE hz hf pins s σ H xs us Q I r h
/-- isinstance(e, c), e the error that the suite holds, with fields or without -/
theorem call_isEa {a : Addr} {cls : Value} {d : Option Addr} {oe : Obj} {pn : List (Addr × Obj)} (hz : Zc cls d oe) (hf : ∃ vs, oe.data = Data.fields vs) :
    CallR (X.suite a ((a, oe) :: pn)) (.builtin "isinstance") (fun xs H Q => ∃ D, cls = .ref D ∧ ExcC X.K D ∧ (d = none ∨ ∃ dd fs, d = some dd ∧ H dd = some (.xd fs)) ∧ rIsE X.K D a xs H Q) := by
  intro pins s σ H xs us Q I r h
  obtain ⟨D, rfl, C, hd, c, cv, b, rfl, hcv, e, q⟩ := h
  obtain ⟨u, u2, rfl, ru, ru2⟩ := r.two
  cases (show u = Value.ref a from ru)
  cases hcv _ ru2
  obtain ⟨there, _⟩ := I.pin (a, oe) (List.mem_append.mpr (.inl List.mem_cons_self))
  obtain ⟨vs, hv⟩ := hf
  have nc : PySem.W.notCls oe = true := by
    unfold PySem.W.notCls
    rw [hv]
  have od : ∃ od, PySem.W.InstAt s.heap a oe D od := by
    rcases hd with e1 | ⟨dd, fs, e1, e2⟩
    · subst e1
      exact ⟨none, there, hz.1, nc, by rw [hz.2]; trivial⟩
    · subst e1
      obtain ⟨mA, hns, _⟩ : ObjOk X.prog X.w H s.heap dd (.xd fs) := I.hok dd _ e2
      obtain ⟨od, ho, _⟩ := lookIn_ns hns
      exact ⟨some od, there, hz.1, nc, by rw [hz.2]; exact ho⟩
  obtain ⟨od, J⟩ := od
  have isC : (PySem.W.clsIn X.K D).isSome = true := by
    obtain ⟨cd, hc, _⟩ := PySem.W.any_some C.hd
    rw [hc] <;> rfl
  exact PySem.W.kia_one (PySem.W.kitx_exc isC C.hg C.hk C.hs C.ha C.hn C.ht C.hm) I.kIn J e (fun z => nomatch z) fun tk => ⟨.bl b, H, I.kept (t' := tk) fun _ _ z => z, rfl, q⟩
theorem exm_kit {K : PySem.W.Frag} {t c : Value} {b : Bool} (h : PySem.W.exmOne K t c = some b) : PySem.W.kitCls K t c = some b := by
  unfold PySem.W.exmOne at h
  split at h
  · exact h
  · cases h
theorem kit_yes {K : PySem.W.Frag} {t c : Value} (h : PySem.W.exmOne K t c = some true) : PySem.W.kitOne K t c = some true := by
  unfold PySem.W.kitOne
  split
  · rfl
  · exact exm_kit h
theorem kit_no {K : PySem.W.Frag} {D C : Addr} (h : PySem.W.exmOne K (.ref D) (.ref C) = some false) (self : PySem.W.subIn K (.ref C) (.ref C) = some true) (no : PySem.W.subIn K (.ref D) (.ref C) = some false) : PySem.W.kitOne K (.ref D) (.ref C) = some false := by
  unfold PySem.W.kitOne
  split
  · rename_i e
    have e2 : (Value.ref D) = .ref C := eq_of_beq e
    rw [e2, self] at no
    cases no
  · exact exm_kit h
theorem kit_bi {K : PySem.W.Frag} {D : Addr} {T : String} {b : Bool} (m : PySem.W.kitMeta T = true) (h : PySem.W.subIn K (.ref D) (.type T) = some b) : PySem.W.kitOne K (.ref D) (.type T) = some b := by
  unfold PySem.W.kitOne
  split
  · rename_i e
    have e2 : (Value.ref D) = .type T := eq_of_beq e
    cases e2
  · show (if PySem.W.kitMeta T = true then PySem.W.subIn K (.ref D) (.type T) else none) = some b
    rw [if_pos m]
    exact h
/-- a def of the text whose code is known -/
structure FunC (K : PySem.W.Frag) (x qual : Str) (st : Stmt) (f : Addr) (fd : FuncData) (c : Addr) : Prop where
  ex : ∃ oc od kV doc pm an ct osl, fd = PySem.W.fnOf x qual (defArgs st) (defBody st) (defScope st) .none kV doc pm an (.ref c) ct ∧ K.lookup f = some ⟨oc, od, .func fd, osl⟩ ∧ PySem.W.codeIn K (.ref c) qual = true
theorem FunC.ok {P : Program} {w : World} {K : PySem.W.Frag} {mg : Str → Option Value} {base : Heap} {x qual : Str} {st : Stmt} {f c : Addr} {fd : FuncData} {N ps : List Str} {k : Nat} {sp : Sp} (F : FunC K x qual st f fd c) (S : FnScope N ps (defScope st))
    (len : ∀ vs H Q E, sp vs H Q E → vs.length = ps.length)
    (hb : ∀ (A : Around) (outer : List Env) (s : Shared) (H : Hp) (vs : List V) (Q : VK) (E : XK), Room k (A.deeper (envOfC qual (defScope st) s.heap.objs.size f (.ref c))) → sp vs H Q E →
      ∃ t, PSs (cxOf L2.CX0 P w K mg base N qual (defScope st) f (.ref c) A outer s H E).nox (defBody st) t ∧ t { nx := fun _ H' => Q .non H', rt := Q } (L2.start N vs) H) : FnOk P w K mg base L2.CX0 (k + 1) f fd ps sp := by
  obtain ⟨oc, od, kV, doc, pm, an, ct, osl, rfl, lk, hcd⟩ := F.ex
  refine fn_of lk hcd S len fun A outer s H vs Q E hr h => ?_
  obtain ⟨t, h1, h2⟩ := hb A outer s H vs Q E hr h
  exact ⟨t, h1.nox, h2⟩
def tTru (K : PySem.W.Frag) (ta : TE) : L2.St → Hp → (Bool → Hp → Prop) → Prop := fun σ H Q => ta σ H fun x H' => ∃ k, TruV K x H' k ∧ Q k H'
def WL (n : Nat) (W : WX) : WX := fun cls d σ H => σ.length = n → W cls d σ H
def EE (n : Nat) (W : WX) : XK := fun cls d H => ∀ σ : L2.St, σ.length = n → W cls d σ H
/-- raising calls within a try's body -/
theorem passT (n : Nat) {W : WX} (tk : Takes X W) (hn : X.N.length = n := by rfl) : Passes (L2.CX X.prog X.w) X (EE n W) := passes_call (takes_len tk) fun cls d σ H h hl => h σ (hl.trans hn)
/-- f(lambda: e) -/
theorem pe_lam {T : List (Addr × Str)} {TT : (XK → Hp → VK → Prop) → Hp → VK → Prop} {x a : Str} {g c P : Addr} {fd : FuncData} {k : Nat} {st : Stmt} {Ng : List Str} {params : Arguments} {body : Expr} {scope : Scope} {t : XK → TE} {p lpos pos : Pos}
    (F : Fun X.K x x st g fd) (Sg : FnScope Ng [a] (defScope st)) (hg : Gl X x) (hm : X.mg x = some (.ref g)) (hb : Binds X.K fd [a] []) (hNg : Ng[0]? = some a) (hva : Vis (defScope st) a)
    (hG : ∀ cdv, LamX.GivesTo X Ng x (defScope st) g cdv (defBody st) a (X.env.qual ++ "<lambda>") TT) (TB : LamX.TabB X.base X.mg c P) (hcode : X.env.code = .ref c) (hmT : (P, X.env.qual ++ "<lambda>") ∈ T)
    (hu : ∀ p ∈ T, p.1 = P → p.2 = X.env.qual ++ "<lambda>") (hr : Room (k + 2) X.A) (L : LamX.LamS X.env.scope scope) (hdef : defaultsOf params X.env = ([], []))
    (hbind : ∀ (q : Str) (cl : List (Str × Addr)) (pm cv ctv : Value), bindArgs (PySem.W.kla_fn "<lambda>" q params body scope cl pm cv ctv) ⟨[], []⟩ = pure [])
    (hbody : ∀ (A : Around) (outer : List Env) (s : Shared) (H : Hp) (E : XK) (f c' : Addr), Room k (A.deeper (LamX.lamEnv X scope s.heap.objs.size f c')) → PE (LamX.lamCx X A outer s H E scope f c') body (t E))
    (h1 : (x == ("__debug__" : Str)) = false := by decide) (h2 : (a == ("__debug__" : Str)) = false := by decide) (h3 : (a == ("__classdict__" : Str)) = false := by decide) :
    PE X (.Call (.Name x p) [.Lambda params body scope lpos] [] pos) (LamX.tLam T TT t) := by
  obtain ⟨oc, od, kV, doc, pm, an, cdv, ct, osl, rfl, lk, hcd⟩ := F.ex
  exact LamX.pe_lamcall hg hm F.kp lk hcd hb Sg hNg hva (hG cdv) TB hcode hmT hu hr L hdef hbind hbody h1 h2 h3
end
end GX
namespace KX
open PySem PySem.Spec PyProof.Rows L2
section
variable {X : Cx}
/-- xs.count(True), xs a list of bools -/
def rCntB (K : PySem.W.Frag) : V → List V → Hp → VK → Prop := fun x xs H Q => ∃ (p : Addr) (bs : List Bool) (k : Bool), x = .ref p ∧ xs = [.bl k] ∧ SqL K H p (bs.map V.bl) ∧ Q (.int (bs.countP (fun b => b == k) : Nat)) H
theorem bools_of : ∀ {bs : List Bool} {its : List Value}, Vals (bs.map V.bl) its → its = bs.map Value.bool
  | [], _, .nil => rfl
  | b :: bs, _, .cons r t => by
    cases (show _ = Value.bool b from r)
    rw [bools_of t]
    rfl
theorem mt_count_bl : MtR X "list.count" (rCntB X.K) := by
  intro pins s σ H x xs v us Q I rx rxs h
  obtain ⟨p, bs, k, rfl, rfl, hs, q⟩ := h
  cases rx
  obtain ⟨u, rfl, ru⟩ := rxs.one
  cases (show u = Value.bool k from ru)
  obtain ⟨its, rv, ⟨⟨cls, dd, data, sl⟩, n, ho, hc, hdn, hd⟩, hlen⟩ := I.list hs
  simp only at hc hd
  subst hc hd
  have hi := bools_of rv
  refine call_meets PySem.F.slot_list_count ⟨_, ho, rfl⟩ PySem.F.entry_list_count (PySem.F.args_list_count_2 _ _)
    (SeqAt.list_countAt p its.toArray n dd sl (.bool k) (isBoolOf k)) ⟨ho, fun y hy => ?_, ?_⟩
  · have hy' : y ∈ its := by simpa using hy
    rw [hi] at hy'
    obtain ⟨b, _, rfl⟩ := List.mem_map.mp hy'
    exact PySem.SeqAt.EqAt.bool_bool b k
  · have ec : its.toArray.toList.countP (isBoolOf k) = bs.countP (fun b => b == k) := by
      show its.countP (isBoolOf k) = _
      rw [hi, List.countP_map]
      rfl
    refine ⟨.int (bs.countP (fun b => b == k) : Nat), H, I.tok _, ⟨s.toks, ?_⟩, q⟩
    show Value.int ((its.toArray.toList.countP (isBoolOf k) : Nat) : Int) s.toks = _
    rw [ec]
end
end KX

/-! enumerate(t), t a tuple. -/
namespace GE
open PySem PySem.Spec PyProof.Rows L2 Builtin
/-- a tuple's items with their places, a new pair at each turn -/
def Etp (K : PySem.W.Frag) (t : Addr) : It where
  go i H := ∃ xs x, SqT K H t xs ∧ xs[i]? = some x
  yld i H v H' := ∃ (p : Addr) (x : V), v = .ref p ∧ H p = none ∧ H' = upd H p (.tup [.int ((i : Nat) : Int), x]) ∧ ∀ xs, SqT K H t xs → xs[i]? = some x
  stop i H := ∃ xs, SqT K H t xs ∧ xs.length ≤ i
abbrev tIt (t : Addr) : Obj := { cls := .type "tuple_iterator", data := .fields #[.ref t, .int 0 0] }
abbrev eOb (i : Addr) : Obj := { cls := .type "enumerate", data := .fields #[.none, .bool false, .ref i, rawInt 0, .none, .none] }
set_option maxHeartbeats 8000000 in
theorem made (t : Addr) (vs : Array Value) : Meets (Builtin.«enumerate.__new__» ⟨[.type "enumerate", .ref t], []⟩)
    (fun _ R s => s.heap.IsTuple t vs ∧ R (.ok (.ret (.ref (s.heap.push (tIt t)).objs.size))) { s with heap := (s.heap.push (tIt t)).push (eOb s.heap.objs.size) }) := by
  refine Meets.of_wp fun prog w A R s both => ?_
  obtain ⟨h0, gs, dr, tk, os⟩ := s
  obtain ⟨isT, back⟩ := both
  have z1 := PySem.sub_enumerate
  have z2 : ∀ {B : Around} {F : Value → Shared → Prop} {G : Value → Shared → Prop}, G (.ref h0.objs.size) ⟨h0.push (tIt t), gs, dr, tk, os⟩ → wpAny (model prog w) B (pyIter (.ref t)) G F ⟨h0, gs, dr, tk, os⟩ := fun g => wpAny_pyIter_tuple isT g
  wp_walk using z2
  refine wpAny_stack_any fun st => ?_
  refine wpAny_pure ?_
  split
  · rename_i c _ _ _ _ _
    cases (c == Value.type "enumerate") <;> (wp_walk using z2; exact ⟨_, rfl, back⟩)
  · wp_walk using z2
    exact ⟨_, rfl, back⟩
section
variable {P : Program} {w : World} {A : Around} {E : Value → Shared → Prop} {s : Shared}
theorem begins {t : Addr} {vs : Array Value} {Q : Value → Shared → Prop} (isT : s.heap.IsTuple t vs)
    (k : ∀ h1, IsEnum h1 (s.heap.objs.size + 1) s.heap.objs.size 0 .none → h1.IsTupleIter s.heap.objs.size t 0 → h1.objs.size = s.heap.objs.size + 2 → (∀ b o, s.heap.get? b = some o → h1.get? b = some o) → Q (.ref (s.heap.objs.size + 1)) { s with heap := h1 }) :
    wpAny (model P w) A (call (.type "enumerate") [.ref t]) Q E s := by
  refine callType_new F.called_enumerate (by decide) (F.typeCall_enumerate_1 _) (F.newCall_enumerate_1 _) (fun y => F.args_object_init_2 y _) F.entry_enumerate_new (made t vs) ⟨isT, ?_⟩
  have sz : (s.heap.push (tIt t)).objs.size = s.heap.objs.size + 1 := Heap.size_push ..
  have at_ : IsEnum ((s.heap.push (tIt t)).push (eOb s.heap.objs.size)) (s.heap.objs.size + 1) s.heap.objs.size 0 .none := by
    have z := Heap.get?_push_size (s.heap.push (tIt t)) (o := eOb s.heap.objs.size) rfl
    rw [sz] at z
    exact z
  show _ ∧ _
  rw [sz]
  exact ⟨⟨_, at_, rfl⟩, k _ at_ ⟨_, Heap.get?_push_of_some _ (Heap.get?_push_size _ rfl), rfl, rfl⟩ (by rw [Heap.size_push, sz]) fun b o x => Heap.get?_push_of_some _ (Heap.get?_push_of_some _ x)⟩
end
theorem turn {P : Program} {w : World} {K : PySem.W.Frag} {elts : List Expr} {kk : Nat} {tpos : Pos} (t e i : Addr) :
    Turn P w K (.Tuple elts kk tpos) (Etp K t) [e, i] e (fun n h => (∃ old, IsEnum h e i ((n : Nat) : Int) old) ∧ h.IsTupleIter i t n ∧ e ≠ i) := by
  have two : ∀ {b : Addr}, b ∈ [e, i] → b = e ∨ b = i := fun hb => by simpa using hb
  constructor
  case mem => simp
  case obj =>
    rintro n h ⟨⟨old, h1⟩, ⟨o, h2, h3, h4⟩, _⟩ b hb
    rcases two hb with q | q <;> subst q
    · exact ⟨_, h1, fun v z => nomatch z⟩
    · exact ⟨o, h2, fun v z => by rw [h4] at z; cases z⟩
  case keep =>
    rintro n h h' ⟨⟨old, h1⟩, h2, h3⟩ k
    exact ⟨⟨old, k e (by simp) _ h1⟩, h2.at fun o q => k i (by simp) o q, h3⟩
  case item =>
    intro X eP ew eK calm n pins s σ H Er I free st go
    subst eP ew eK
    obtain ⟨⟨old, h1⟩, h2, apart⟩ := st
    obtain ⟨xs, x, hq, hx⟩ := go
    obtain ⟨vs, rv, isT, _⟩ := I.tuple hq
    obtain ⟨u, hu, ru⟩ := rv.get hx
    have le : e < s.heap.objs.size := Heap.lt_size h1
    have li : i < s.heap.objs.size := by
      obtain ⟨_, q, _⟩ := h2
      exact Heap.lt_size q
    have ti : t ≠ i := fun z => by
      subst z
      obtain ⟨o1, q1, c1, _⟩ := h2
      obtain ⟨o2, q2, c2, _⟩ := isT
      rw [q1] at q2
      cases q2
      rw [c1] at c2
      exact absurd (Value.type.inj c2) (by decide)
    have te : t ≠ e := fun z => by
      subst z
      obtain ⟨o2, q2, c2, _⟩ := isT
      rw [h1] at q2
      cases q2
      exact absurd (Value.type.inj c2) (by decide)
    have quiet : X.A.in1.handled = none := by
      have z := I.ok.hd calm
      simp [z]
    have lt : n < vs.toArray.size := by
      have z := (List.getElem?_eq_some_iff.mp hu).1
      simpa using z
    refine wpAny_pyNext_enum_itemD (Draws.tuple quiet i t ti vs.toArray) h1 ⟨h2, isT⟩ lt apart (by simp [apart, te.symm]) fun y h' tk py out st' tup size keep => ?_
    have ey : y = u := by
      have z : vs.toArray[n]? = some y := py
      rw [List.getElem?_toArray, hu] at z
      exact (Option.some.inj z).symm
    subst ey
    refine ⟨_, rfl, wpAny_letOwnedTupleGo_enum (s := { s with heap := h', toks := tk + 1 }) out fun h'' again sb => ?_⟩
    have tup2 : h''.get? s.heap.objs.size = some { cls := .type "tuple", data := .seq #[.int n tk, y] } := (sb.2 _ (Nat.ne_of_gt le)).trans tup
    have fresh : ObjOk X.prog X.w (upd H s.heap.objs.size (.tup [.int ((n : Nat) : Int), x])) h'' s.heap.objs.size (.tup [.int ((n : Nat) : Int), x]) :=
      ⟨by show 2 ≤ sizeLine; decide, [.int n tk, y], .cons ⟨_, rfl⟩ (.cons ru .nil), ⟨_, tup2, rfl, _, rfl⟩⟩
    have J : Inv X pins σ (upd H s.heap.objs.size (.tup [.int ((n : Nat) : Int), x])) { s with heap := h'', toks := tk + 1 } :=
      I.turnedNew (t' := tk + 1) (ch := [e, i]) (fun b ob hb q => (sb.2 b (fun z => hb (by simp [z]))).trans (keep b ob (fun z => hb (by simp [z])) (fun z => hb (by simp [z])) q)) free (Nat.le_refl _) fresh
    refine ⟨.ref s.heap.objs.size, _, J, rfl, ⟨_, x, rfl, I.hok.fresh (Nat.le_refl _), rfl, fun ys hy => by rw [I.tuple_inj hy hq]; exact hx⟩, ⟨⟨y, ?_⟩, st'.1.at fun o q => (sb.2 i (Ne.symm apart)).trans q, apart⟩, fun b hb => ?_⟩
    · rw [show ((n + 1 : Nat) : Int) = (n : Int) + 1 by omega]
      exact again
    · have lb : b < s.heap.objs.size := by
        rcases two hb with z | z <;> subst z
        · exact le
        · exact li
      rw [upd_ne (Nat.ne_of_lt lb)]
      exact (free b hb).1
  case done =>
    intro X eP ew eK calm n pins s σ H Er I free st stop
    subst eP ew eK
    obtain ⟨⟨old, h1⟩, h2, apart⟩ := st
    obtain ⟨xs, hq, hl⟩ := stop
    obtain ⟨vs, rv, isT, _⟩ := I.tuple hq
    have long := rv.length
    have quiet : X.A.in1.handled = none := by
      have z := I.ok.hd calm
      simp [z]
    have hT : s.TypeIs (.ref e) "enumerate" := ⟨_, h1, rfl⟩
    obtain ⟨f0, f1, f2, f3, f4, f5⟩ := free i (by simp)
    unfold pyNext
    refine wpAny_bind (wpAny_attempt (wpAny_callSpecial?_slot (name := Str.ofString "__next__") hT F.slot_enumerate_next (wpAny_call_entry F.slot_enumerate_next hT F.entry_enumerate_next ?_ (F.args_enumerate_next_1 _))))
    show wpAny _ _ (field (.ref e) 2 >>= _) _ _ _
    refine wpAny_bind (wpAny_field h1 rfl (x := .ref i) rfl (wpAny_bind ?_))
    refine wpAny_nextOf_tuple_end quiet h2 isT (by simp; omega) fun h' ex eb isx => ?_
    obtain ⟨o, ho, hc⟩ := isx
    refine wpAny_bind (wpAny_isInstance (T := "StopIteration") (b := true) ⟨o, ho, hc⟩ isSubtype_stop (wpAny_pure ?_))
    exact ⟨rfl, I.turned (t' := s.toks) (fun b o hb q => eb b o hb q) f0 f1 f3 f4 f5⟩
  case self =>
    rintro A n s Q Er ⟨⟨_, h1⟩, _⟩ q
    exact wpAny_pyIter_enum h1 q
/-- enumerate of a list or a tuple -/
def iEnA (K : PySem.W.Frag) (ta : TA) : TI := fun σ H R => ta σ H fun vs H1 => ∃ a xs, vs = [.ref a] ∧ ((SqL K H1 a xs ∧ R (Ite K a) H1) ∨ (SqT K H1 a xs ∧ R (Etp K a) H1))
theorem pi_enumA {X : Cx} {e : Expr} {ta : TA} {p pos tpos : Pos} {elts : List Expr} {kk : Nat} (hg : Gl X "enumerate") (hm : X.mg "enumerate" = none) (ha : PA X [e] ta) (hs : starEach [e] X.env = [(false, eval e X.env)] := by rfl) :
    PI X (.Tuple elts kk tpos) (.Call (.Name "enumerate" p) [e] [] pos) (iEnA X.K ta) := by
  constructor
  intro pins s σ H R I h
  refine Call_ (ld_blt I hg hm boot_enumerate (PyProof.Rows.callWith_type1 (thn (ha.run pos pins s σ H _ I h) fun us s1 got => ?_) hs rfl))
  obtain ⟨_, H1, I1, r1, a, xs, rfl, q⟩ := got
  have fp : ∀ b ∈ [s1.heap.objs.size + 1, s1.heap.objs.size], FpOk X pins H1 b := fun b hb => by
    have le : s1.heap.objs.size ≤ b := by
      rcases (show b = s1.heap.objs.size + 1 ∨ b = s1.heap.objs.size by simpa using hb) with z | z <;> omega
    exact I1.fpOk le (I1.hok.fresh le)
  cases r1 with
  | cons r rr =>
    cases rr
    cases r
    rcases q with ⟨hq, q⟩ | ⟨hq, q⟩
    · obtain ⟨vs, rv, isL, _⟩ := I1.list hq
      refine call_enumerate_list isL.isList fun h' at_ it size keep => wpAny_pyIter_enum at_ ?_
      exact ⟨_, _, _, _, H1, rfl, I1.kept (t' := s1.toks) keep, turn_enum a (s1.heap.objs.size + 1) s1.heap.objs.size, ⟨⟨.none, at_⟩, it, Nat.succ_ne_self _⟩, fp, q⟩
    · obtain ⟨vs, rv, isT, _⟩ := I1.tuple hq
      refine begins isT fun h' at_ it size keep => wpAny_pyIter_enum at_ ?_
      exact ⟨_, _, _, _, H1, rfl, I1.kept (t' := s1.toks) keep, turn a (s1.heap.objs.size + 1) s1.heap.objs.size, ⟨⟨.none, at_⟩, it, Nat.succ_ne_self _⟩, fp, q⟩
theorem walk {K : PySem.W.Frag} {a : Addr} {xs : List V} : Walk (Etp K a) xs.length (fun H => SqT K H a xs) (YPair (fun i => some (.int (i : Nat))) (fun i => xs[i]?)) := by
  constructor
  · exact fun i _ hi q => ⟨xs, xs[i], q, by simp [hi]⟩
  · exact fun _ q => ⟨xs, q, Nat.le_refl _⟩
  · rintro i H v H' _ q ⟨p, x, h1, h2, h3, h4⟩
    exact ⟨p, .int (i : Nat), x, h1, h2, h3, rfl, h4 xs q⟩
/-- zip of two tuples -/
theorem walk_zipT {K : PySem.W.Frag} {a b : Addr} {xs ys : List V} {n : Nat} (hn : n = min xs.length ys.length) : Walk (RZ.ItzT K a b) n (fun H => SqT K H a xs ∧ SqT K H b ys) (YPair (fun i => xs[i]?) (fun i => ys[i]?)) := by
  subst hn
  constructor
  · intro i _ hi q
    exact ⟨xs, ys, xs[i]'(by omega), ys[i]'(by omega), q.1, q.2, List.getElem?_eq_getElem _, List.getElem?_eq_getElem _⟩
  · exact fun _ q => ⟨xs, ys, q.1, q.2, by omega⟩
  · rintro i H v H' _ q ⟨p, x, y, h1, h2, h3, h4, h5⟩
    exact ⟨p, x, y, h1, h2, h3, h4 xs q.1, h5 ys q.2⟩
end GE

/-! comprehensions with two clauses, dict comprehensions, over any walk. -/
namespace GC
open PySem PySem.Spec PyProof.Rows L2
section
variable {J J1 : It} {n n1 : Nat} {G G1 : Hp → Prop} {Y Y1 : Nat → Hp → V → Hp → Prop}
/-- the outer clause -/
theorem lc2_it (w : Walk J n G Y) {g : TG} {tt : TT} {wi1 : TI} {g1 : TG} {tt1 : TT} {te : TE} {vs vs1 : List Nat} {σ : L2.St} {H1 : Hp} {D : Addr} {Qd : Hp → Prop} (Pv : Nat → Hp → Prop) (h0 : Pv 0 (upd H1 D (.lst []))) (hG : ∀ i H, i ≤ n → Pv i H → G H)
    (hs : ∀ i x H H', i < n → Pv i H → Y i H x H' → g x (wipe σ vs) H' fun σ2 H2 => wipe σ2 vs = wipe σ vs ∧ tt σ2 H2 fun b H3 =>
      if b = true then wi1 σ2 H3 fun J1 H4 => ∃ W1 : Nat → Nat → Hp → Prop, (∃ m, W1 0 m H4) ∧ ∀ j k H, W1 j k H →
        (J1.stop j H ∧ Pv (i + 1) H) ∨ (J1.go j H ∧ ∃ Nx1 : Hp → Prop, (∀ H', Nx1 H' → ∃ k', k' < k ∧ W1 (j + 1) k' H') ∧ ∀ x H', J1.yld j H x H' → g1 x (wipe σ2 vs1) H' fun σ3 H5 => wipe σ3 vs1 = wipe σ2 vs1 ∧ tt1 σ3 H5 fun b H6 =>
          if b = true then te σ3 H6 fun y H7 => ∃ acc, H7 D = some (.lst acc) ∧ acc.length < sizeLine ∧ Nx1 (upd H7 D (.lst (acc ++ [y]))) else Nx1 H6)
      else Pv (i + 1) H3) (hd : ∀ H, Pv n H → Qd H) :
    ∃ W : Nat → Nat → Hp → Prop, (∃ m, W 0 m (upd H1 D (.lst []))) ∧ ∀ i m H, W i m H →
      (J.stop i H ∧ Qd H) ∨ (J.go i H ∧ ∃ Nx : Hp → Prop, (∀ H', Nx H' → ∃ m', m' < m ∧ W (i + 1) m' H') ∧ ∀ x H', J.yld i H x H' → g x (wipe σ vs) H' fun σ2 H2 => wipe σ2 vs = wipe σ vs ∧ tt σ2 H2 fun b H3 =>
        if b = true then wi1 σ2 H3 fun J1 H4 => ∃ W1 : Nat → Nat → Hp → Prop, (∃ m, W1 0 m H4) ∧ ∀ j k H, W1 j k H →
          (J1.stop j H ∧ Nx H) ∨ (J1.go j H ∧ ∃ Nx1 : Hp → Prop, (∀ H', Nx1 H' → ∃ k', k' < k ∧ W1 (j + 1) k' H') ∧ ∀ x H', J1.yld j H x H' → g1 x (wipe σ2 vs1) H' fun σ3 H5 => wipe σ3 vs1 = wipe σ2 vs1 ∧ tt1 σ3 H5 fun b H6 =>
            if b = true then te σ3 H6 fun y H7 => ∃ acc, H7 D = some (.lst acc) ∧ acc.length < sizeLine ∧ Nx1 (upd H7 D (.lst (acc ++ [y]))) else Nx1 H6)
        else Nx H3) := by
  refine ⟨fun i m H => m = n - i ∧ i ≤ n ∧ Pv i H, ⟨n, by simp, Nat.zero_le _, h0⟩, ?_⟩
  rintro i m H ⟨rfl, hi, p⟩
  have q := hG i H hi p
  by_cases hlt : i < n
  · exact .inr ⟨w.goes i H hlt q, Pv (i + 1), fun H' p' => ⟨n - (i + 1), by omega, rfl, hlt, p'⟩, fun x H' y => hs i x H H' hlt p (w.yields i H x H' hlt q y)⟩
  · have e : i = n := by omega
    subst e
    exact .inl ⟨w.stops H q, hd H p⟩
/-- the inner clause -/
theorem lc2_in (w : Walk J1 n1 G1 Y1) {g1 : TG} {tt1 : TT} {te : TE} {vs1 : List Nat} {σ2 : L2.St} {H4 : Hp} {D : Addr} {Nx : Hp → Prop} (Pv : Nat → Hp → Prop) (h0 : Pv 0 H4) (hG : ∀ i H, i ≤ n1 → Pv i H → G1 H)
    (hs : ∀ i x H H', i < n1 → Pv i H → Y1 i H x H' → g1 x (wipe σ2 vs1) H' fun σ3 H5 => wipe σ3 vs1 = wipe σ2 vs1 ∧ tt1 σ3 H5 fun b H6 =>
      if b = true then te σ3 H6 fun y H7 => ∃ acc, H7 D = some (.lst acc) ∧ acc.length < sizeLine ∧ Pv (i + 1) (upd H7 D (.lst (acc ++ [y]))) else Pv (i + 1) H6) (hd : ∀ H, Pv n1 H → Nx H) :
    ∃ W1 : Nat → Nat → Hp → Prop, (∃ m, W1 0 m H4) ∧ ∀ j k H, W1 j k H →
      (J1.stop j H ∧ Nx H) ∨ (J1.go j H ∧ ∃ Nx1 : Hp → Prop, (∀ H', Nx1 H' → ∃ k', k' < k ∧ W1 (j + 1) k' H') ∧ ∀ x H', J1.yld j H x H' → g1 x (wipe σ2 vs1) H' fun σ3 H5 => wipe σ3 vs1 = wipe σ2 vs1 ∧ tt1 σ3 H5 fun b H6 =>
        if b = true then te σ3 H6 fun y H7 => ∃ acc, H7 D = some (.lst acc) ∧ acc.length < sizeLine ∧ Nx1 (upd H7 D (.lst (acc ++ [y]))) else Nx1 H6) := by
  refine ⟨fun i m H => m = n1 - i ∧ i ≤ n1 ∧ Pv i H, ⟨n1, by simp, Nat.zero_le _, h0⟩, ?_⟩
  rintro i m H ⟨rfl, hi, p⟩
  have q := hG i H hi p
  by_cases hlt : i < n1
  · exact .inr ⟨w.goes i H hlt q, Pv (i + 1), fun H' p' => ⟨n1 - (i + 1), by omega, rfl, hlt, p'⟩, fun x H' y => hs i x H H' hlt p (w.yields i H x H' hlt q y)⟩
  · have e : i = n1 := by omega
    subst e
    exact .inl ⟨w.stops H q, hd H p⟩
/-- a dict comprehension -/
theorem dc_it (w : Walk J n G Y) {g : TG} {tt : TT} {tk tv : TE} {vs : List Nat} {σ : L2.St} {H1 : Hp} {D : Addr} {Qd : Hp → Prop} (Pv : Nat → Hp → Prop) (h0 : Pv 0 (upd H1 D (.dK []))) (hG : ∀ i H, i ≤ n → Pv i H → G H)
    (hs : ∀ i x H H', i < n → Pv i H → Y i H x H' → g x (wipe σ vs) H' fun σ2 H2 => wipe σ2 vs = wipe σ vs ∧ tt σ2 H2 fun b H3 =>
      if b = true then tk σ2 H3 fun y H4 => tv σ2 H4 fun z H5 => ∃ kvs k, y = kV k ∧ H5 D = some (.dK kvs) ∧ kvs.length < sizeLine ∧ Pv (i + 1) (upd H5 D (.dK (putK kvs k z))) else Pv (i + 1) H3) (hd : ∀ H, Pv n H → Qd H) :
    ∃ W : Nat → Nat → Hp → Prop, (∃ m, W 0 m (upd H1 D (.dK []))) ∧ ∀ i m H, W i m H →
      (J.stop i H ∧ Qd H) ∨ (J.go i H ∧ ∃ Nx : Hp → Prop, (∀ H', Nx H' → ∃ m', m' < m ∧ W (i + 1) m' H') ∧ ∀ x H', J.yld i H x H' → g x (wipe σ vs) H' fun σ2 H2 => wipe σ2 vs = wipe σ vs ∧ tt σ2 H2 fun b H3 =>
        if b = true then tk σ2 H3 fun y H4 => tv σ2 H4 fun z H5 => ∃ kvs k, y = kV k ∧ H5 D = some (.dK kvs) ∧ kvs.length < sizeLine ∧ Nx (upd H5 D (.dK (putK kvs k z))) else Nx H3) := by
  refine ⟨fun i m H => m = n - i ∧ i ≤ n ∧ Pv i H, ⟨n, by simp, Nat.zero_le _, h0⟩, ?_⟩
  rintro i m H ⟨rfl, hi, p⟩
  have q := hG i H hi p
  by_cases hlt : i < n
  · exact .inr ⟨w.goes i H hlt q, Pv (i + 1), fun H' p' => ⟨n - (i + 1), by omega, rfl, hlt, p'⟩, fun x H' y => hs i x H H' hlt p (w.yields i H x H' hlt q y)⟩
  · have e : i = n := by omega
    subst e
    exact .inl ⟨w.stops H q, hd H p⟩
end
section
variable {X : Cx}
/-- xs[i], by values: for xs[i] += e -/
def rGetI : V → V → Hp → VK → Prop := fun x y H Q => ∃ p xs i j v, x = .ref p ∧ y = .int i ∧ H p = some (.lst xs) ∧ i = ((j : Nat) : Int) ∧ xs[j]? = some v ∧ Q v H
theorem get_listI : PGet X rGetI := by
  intro pins s σ H x y ov iv Q I rx ry h
  obtain ⟨p, xs, i, j, z, rfl, rfl, hq, rfl, he, q⟩ := h
  cases rx
  obtain ⟨t, rfl⟩ := ry
  obtain ⟨its, r, pl, hz⟩ := I.list (.inl (.inl hq))
  obtain ⟨w, ew, rw'⟩ := r.get he
  have hl := r.length
  have hn := line63
  have lt := (List.getElem?_eq_some_iff.mp he).1
  exact wpAny_getItem_list (x := w) pl.isList (by omega) (by omega) (by simpa using ew) ⟨z, H, I, rw', q⟩
end
theorem hu1 {k : Nat} {A : Around} (r : Room k A) : A.units + 1 < cLine := by have := r.un; omega
theorem hu65 {k : Nat} {A : Around} (r : Room k A) : A.units + 65 < cLine := by have := r.un; omega
theorem hu4 {k : Nat} {A : Around} (r : Room k A) : A.units + 4 < cLine := by have := r.un; omega
/-- tuple(xs), said for comprehensions -/
def rTupK (K : PySem.W.Frag) : List V → Hp → VK → Prop := fun xs H Q => ∃ p ys, xs = [.ref p] ∧ ((SqL K H p ys ∧ ∀ l, H l = none → Q (.ref l) (upd H l (.tup ys))) ∨ (SqT K H p ys ∧ Q (.ref p) H))
end GC

/-! enumerate(t, start=k), t a tuple. -/
namespace GEs
open PySem PySem.Spec PyProof.Rows L2 Builtin GE
/-- a tuple's items with their places from k0 on, a new pair at each turn -/
def Etk (K : PySem.W.Frag) (t : Addr) (k0 : Int) : It where
  go i H := ∃ xs x, SqT K H t xs ∧ xs[i]? = some x
  yld i H v H' := ∃ (p : Addr) (x : V), v = .ref p ∧ H p = none ∧ H' = upd H p (.tup [.int (k0 + ((i : Nat) : Int)), x]) ∧ ∀ xs, SqT K H t xs → xs[i]? = some x
  stop i H := ∃ xs, SqT K H t xs ∧ xs.length ≤ i
theorem turnK {P : Program} {w : World} {K : PySem.W.Frag} {elts : List Expr} {kk : Nat} {tpos : Pos} (t e i : Addr) (k0 : Int) :
    Turn P w K (.Tuple elts kk tpos) (Etk K t k0) [e, i] e (fun n h => (∃ old, IsEnum h e i (k0 + ((n : Nat) : Int)) old) ∧ h.IsTupleIter i t n ∧ e ≠ i) := by
  have two : ∀ {b : Addr}, b ∈ [e, i] → b = e ∨ b = i := fun hb => by simpa using hb
  constructor
  case mem => simp
  case obj =>
    rintro n h ⟨⟨old, h1⟩, ⟨o, h2, h3, h4⟩, _⟩ b hb
    rcases two hb with q | q <;> subst q
    · exact ⟨_, h1, fun v z => nomatch z⟩
    · exact ⟨o, h2, fun v z => by rw [h4] at z; cases z⟩
  case keep =>
    rintro n h h' ⟨⟨old, h1⟩, h2, h3⟩ k
    exact ⟨⟨old, k e (by simp) _ h1⟩, h2.at fun o q => k i (by simp) o q, h3⟩
  case item =>
    intro X eP ew eK calm n pins s σ H Er I free st go
    subst eP ew eK
    obtain ⟨⟨old, h1⟩, h2, apart⟩ := st
    obtain ⟨xs, x, hq, hx⟩ := go
    obtain ⟨vs, rv, isT, _⟩ := I.tuple hq
    obtain ⟨u, hu, ru⟩ := rv.get hx
    have le : e < s.heap.objs.size := Heap.lt_size h1
    have li : i < s.heap.objs.size := by
      obtain ⟨_, q, _⟩ := h2
      exact Heap.lt_size q
    have ti : t ≠ i := fun z => by
      subst z
      obtain ⟨o1, q1, c1, _⟩ := h2
      obtain ⟨o2, q2, c2, _⟩ := isT
      rw [q1] at q2
      cases q2
      rw [c1] at c2
      exact absurd (Value.type.inj c2) (by decide)
    have te : t ≠ e := fun z => by
      subst z
      obtain ⟨o2, q2, c2, _⟩ := isT
      rw [h1] at q2
      cases q2
      exact absurd (Value.type.inj c2) (by decide)
    have quiet : X.A.in1.handled = none := by
      have z := I.ok.hd calm
      simp [z]
    have lt : n < vs.toArray.size := by
      have z := (List.getElem?_eq_some_iff.mp hu).1
      simpa using z
    refine wpAny_pyNext_enum_itemC (Draws.tuple quiet i t ti vs.toArray) h1 ⟨h2, isT⟩ lt apart (by simp [apart, te.symm]) fun y h' tk py out st' tup size keep => ?_
    have ey : y = u := by
      have z : vs.toArray[n]? = some y := py
      rw [List.getElem?_toArray, hu] at z
      exact (Option.some.inj z).symm
    subst ey
    refine ⟨_, rfl, wpAny_letOwnedTupleGo_enum (s := { s with heap := h', toks := tk + 1 }) out fun h'' again sb => ?_⟩
    have tup2 : h''.get? s.heap.objs.size = some { cls := .type "tuple", data := .seq #[.int (k0 + (n : Int)) tk, y] } := (sb.2 _ (Nat.ne_of_gt le)).trans tup
    have fresh : ObjOk X.prog X.w (upd H s.heap.objs.size (.tup [.int (k0 + ((n : Nat) : Int)), x])) h'' s.heap.objs.size (.tup [.int (k0 + ((n : Nat) : Int)), x]) :=
      ⟨by show 2 ≤ sizeLine; decide, [.int (k0 + (n : Int)) tk, y], .cons ⟨_, rfl⟩ (.cons ru .nil), ⟨_, tup2, rfl, _, rfl⟩⟩
    have J : Inv X pins σ (upd H s.heap.objs.size (.tup [.int (k0 + ((n : Nat) : Int)), x])) { s with heap := h'', toks := tk + 1 } :=
      I.turnedNew (t' := tk + 1) (ch := [e, i]) (fun b ob hb q => (sb.2 b (fun z => hb (by simp [z]))).trans (keep b ob (fun z => hb (by simp [z])) (fun z => hb (by simp [z])) q)) free (Nat.le_refl _) fresh
    refine ⟨.ref s.heap.objs.size, _, J, rfl, ⟨_, x, rfl, I.hok.fresh (Nat.le_refl _), rfl, fun ys hy => by rw [I.tuple_inj hy hq]; exact hx⟩, ⟨⟨y, ?_⟩, st'.1.at fun o q => (sb.2 i (Ne.symm apart)).trans q, apart⟩, fun b hb => ?_⟩
    · rw [show k0 + ((n + 1 : Nat) : Int) = k0 + (n : Int) + 1 by omega]
      exact again
    · have lb : b < s.heap.objs.size := by
        rcases two hb with z | z <;> subst z
        · exact le
        · exact li
      rw [upd_ne (Nat.ne_of_lt lb)]
      exact (free b hb).1
  case done =>
    intro X eP ew eK calm n pins s σ H Er I free st stop
    subst eP ew eK
    obtain ⟨⟨old, h1⟩, h2, apart⟩ := st
    obtain ⟨xs, hq, hl⟩ := stop
    obtain ⟨vs, rv, isT, _⟩ := I.tuple hq
    have long := rv.length
    have quiet : X.A.in1.handled = none := by
      have z := I.ok.hd calm
      simp [z]
    have hT : s.TypeIs (.ref e) "enumerate" := ⟨_, h1, rfl⟩
    obtain ⟨f0, f1, f2, f3, f4, f5⟩ := free i (by simp)
    unfold pyNext
    refine wpAny_bind (wpAny_attempt (wpAny_callSpecial?_slot (name := Str.ofString "__next__") hT F.slot_enumerate_next (wpAny_call_entry F.slot_enumerate_next hT F.entry_enumerate_next ?_ (F.args_enumerate_next_1 _))))
    show wpAny _ _ (field (.ref e) 2 >>= _) _ _ _
    refine wpAny_bind (wpAny_field h1 rfl (x := .ref i) rfl (wpAny_bind ?_))
    refine wpAny_nextOf_tuple_end quiet h2 isT (by simp; omega) fun h' ex eb isx => ?_
    obtain ⟨o, ho, hc⟩ := isx
    refine wpAny_bind (wpAny_isInstance (T := "StopIteration") (b := true) ⟨o, ho, hc⟩ isSubtype_stop (wpAny_pure ?_))
    exact ⟨rfl, I.turned (t' := s.toks) (fun b o hb q => eb b o hb q) f0 f1 f3 f4 f5⟩
  case self =>
    rintro A n s Q Er ⟨⟨_, h1⟩, _⟩ q
    exact wpAny_pyIter_enum h1 q
section
variable {M : Model} {A : Around} {E : Value → Shared → Prop} {s : Shared} {env : Env}
theorem callWith_typeKB {pos : Pos} {T : String} {first : List Value} {args : List (Bool × Sem Value)} {keywords : List (Option Str × Sem Value)} {Q : Value → Shared → Prop}
    (hplain : args.any (·.1) = false) (hkw : keywords.any (·.1.isNone) = false)
    (h : wpAny M A (evalArgs (.type T) true args keywords) (fun a s₁ => wpAny M A (call (.type T) (first ++ a.pos) a.kw) Q E s₁) E s) :
    wpAny M A (callWith pos (.type T) first args keywords) Q E s := by
  unfold callWith
  refine wpAny_bind (wpAny_holding (wpAny_mono h (fun a s₁ h₁ => wpAny_bind (wpAny_standAt ?_)) fun _ _ x => x))
  simp only [hplain, hkw, Bool.or_false]
  refine wpAny_bind (wpAny_pure ?_)
  exact wpAny_bind (wpAny_mono h₁ (fun r s₂ hr => wpAny_bind (wpAny_holding (wpAny_point (wpAny_pure hr)))) fun _ _ x => x)
theorem callWith_typeK {pos : Pos} {T : String} {e : Expr} {rest : List Expr} {kws : List Keyword} {Q : Value → Shared → Prop}
    (h : wpAny M A (spliced (backTo pos (starEach (e :: rest) env))) (fun vs s₁ => wpAny M A (evalAll ((backToKw pos (keywordEach kws env)).map (·.2)))
      (fun kvs s₂ => wpAny M A (call (.type T) vs (((backToKw pos (keywordEach kws env)).filterMap (·.1)).zip kvs)) Q E s₂) E s₁) E s)
    (he : backTo pos (starEach (e :: rest) env) = (false, eval e env) :: backTo pos (starEach rest env))
    (hplain : (backTo pos (starEach (e :: rest) env)).any (·.1) = false)
    (hall : (backToKw pos (keywordEach kws env)).all (·.1.isSome) = true)
    (hkw : (backToKw pos (keywordEach kws env)).any (·.1.isNone) = false) :
    wpAny M A (callWith pos (.type T) [] (backTo pos (starEach (e :: rest) env)) (backToKw pos (keywordEach kws env))) Q E s := by
  refine callWith_typeKB hplain hkw ?_
  rw [he] at h ⊢
  exact evalArgs_kwB hall h
end
/-- enumerate(t, start=k) -/
def iEnK (K : PySem.W.Frag) (ta tk : TA) : TI := fun σ H R => ta σ H fun vs H1 => tk σ H1 fun zs H2 => ∃ a xs k, vs = [.ref a] ∧ zs = [.int k] ∧ -(2 ^ 63) ≤ k ∧ k < 2 ^ 63 ∧ SqT K H2 a xs ∧ R (Etk K a k) H2
theorem begins_tup (t : Addr) (vs : Array Value) : Begins (.ref t) (tIt t) fun h => h.IsTuple t vs where
  iter := fun prog w A E s Q hl h => wpAny_pyIter_tuple hl h
  keeps := fun h h' x hk => by
    obtain ⟨o, e, c, n, d⟩ := x
    exact ⟨o, hk _ _ e, c, n, d⟩
  free := rfl
theorem pi_enumK {X : Cx} {e : Expr} {kws : List Keyword} {ta tk : TA} {p pos tpos : Pos} {elts : List Expr} {kk : Nat} (hg : Gl X "enumerate") (hm : X.mg "enumerate" = none) (ha : PA X [e] ta) (hk : PK X kws tk)
    (he : backTo pos (starEach [e] X.env) = (false, eval e X.env) :: backTo pos (starEach [] X.env) := by rfl) (hpl : (backTo pos (starEach [e] X.env)).any (·.1) = false := by rfl)
    (hall : (backToKw pos (keywordEach kws X.env)).all (·.1.isSome) = true := by rfl) (hnone : (backToKw pos (keywordEach kws X.env)).any (·.1.isNone) = false := by rfl) (hks : (backToKw pos (keywordEach kws X.env)).filterMap (·.1) = [Str.ofString "start"] := by rfl) :
    PI X (.Tuple elts kk tpos) (.Call (.Name "enumerate" p) [e] kws pos) (iEnK X.K ta tk) := by
  constructor
  intro pins s σ H R I h
  refine wpAny_Call_Name_kw (ld_blt I hg hm boot_enumerate ?_)
  refine callWith_typeK (thn (ha.run pos pins s σ H _ I h) fun us s1 ⟨vs, H1, I1, r1, q1⟩ => thn (hk.run pos pins s1 σ H1 _ I1 q1) fun ws s2 ⟨zs, H2, I2, r2, q2⟩ => ?_) he hpl hall hnone
  rw [hks]
  obtain ⟨a, xs, k, rfl, rfl, k0, k1, hq, q⟩ := q2
  have fp : ∀ b ∈ [s2.heap.objs.size + 1, s2.heap.objs.size], FpOk X pins H2 b := fun b hb => by
    have le : s2.heap.objs.size ≤ b := by
      rcases (show b = s2.heap.objs.size + 1 ∨ b = s2.heap.objs.size by simpa using hb) with z | z <;> omega
    exact I2.fpOk le (I2.hok.fresh le)
  obtain ⟨w1, rfl, t1, rfl⟩ := vals1 r2
  cases r1 with
  | cons r rr =>
    cases rr
    cases r
    obtain ⟨vs, rv, isT, _⟩ := I2.tuple hq
    have ez : [Str.ofString "start"].zip [Value.int k t1] = [(Str.ofString "start", Value.int k t1)] := rfl
    rw [ez]
    refine enum_begins_start (begins_tup a vs.toArray) isT k0 k1 fun h' at_ it size keep => wpAny_pyIter_enum at_ ?_
    have at2 : IsEnum h' (s2.heap.objs.size + 1) s2.heap.objs.size (k + ((0 : Nat) : Int)) .none := by
      rw [show k + ((0 : Nat) : Int) = k by omega]
      exact at_
    have it2 : h'.IsTupleIter s2.heap.objs.size a 0 := ⟨tIt a, it, rfl, rfl⟩
    exact ⟨_, _, _, _, H2, rfl, I2.kept (t' := s2.toks) keep, turnK a (s2.heap.objs.size + 1) s2.heap.objs.size k, ⟨⟨.none, at2⟩, it2, Nat.succ_ne_self _⟩, fp, q⟩
theorem walkK {K : PySem.W.Frag} {a : Addr} {xs : List V} {k0 : Int} : Walk (Etk K a k0) xs.length (fun H => SqT K H a xs) (YPair (fun i => some (.int (k0 + (i : Nat)))) (fun i => xs[i]?)) := by
  constructor
  · exact fun i _ hi q => ⟨xs, xs[i], q, by simp [hi]⟩
  · exact fun _ q => ⟨xs, q, Nat.le_refl _⟩
  · rintro i H v H' _ q ⟨p, x, h1, h2, h3, h4⟩
    exact ⟨p, .int (k0 + (i : Nat)), x, h1, h2, h3, rfl, h4 xs q⟩
end GEs

namespace KX
open PySem L2
/-! ### the text by places -/
def top (i : Nat) : Stmt := PySem.Challenge.pw_exactbeats_k76_whole_loads_and_cells_jud.main.body.getD i (.Pass ⟨0, 0, 0, 0⟩)
abbrev s_is_integer : Stmt := top 1
abbrev N_is_integer : List Str := ["thing"]
abbrev P_is_integer : List Str := ["thing"]
theorem sc_is_integer : FnScope N_is_integer P_is_integer (defScope s_is_integer) := ⟨rfl, rfl, rfl, by decide +kernel, rfl, by decide +kernel, by decide +kernel⟩
abbrev s_is_integer_from : Stmt := top 2
abbrev N_is_integer_from : List Str := ["least", "greatest", "thing"]
abbrev P_is_integer_from : List Str := ["least", "greatest", "thing"]
theorem sc_is_integer_from : FnScope N_is_integer_from P_is_integer_from (defScope s_is_integer_from) := ⟨rfl, rfl, rfl, by decide +kernel, rfl, by decide +kernel, by decide +kernel⟩
abbrev s_is_number_below : Stmt := top 3
abbrev N_is_number_below : List Str := ["bound", "thing"]
abbrev P_is_number_below : List Str := ["bound", "thing"]
theorem sc_is_number_below : FnScope N_is_number_below P_is_number_below (defScope s_is_number_below) := ⟨rfl, rfl, rfl, by decide +kernel, rfl, by decide +kernel, by decide +kernel⟩
abbrev s_is_tuple_of : Stmt := top 4
abbrev N_is_tuple_of : List Str := ["many", "thing"]
abbrev P_is_tuple_of : List Str := ["many", "thing"]
theorem sc_is_tuple_of : FnScope N_is_tuple_of P_is_tuple_of (defScope s_is_tuple_of) := ⟨rfl, rfl, rfl, by decide +kernel, rfl, by decide +kernel, by decide +kernel⟩
abbrev s_is_lot_below : Stmt := top 5
abbrev N_is_lot_below : List Str := ["bound", "thing", "last", "item"]
abbrev P_is_lot_below : List Str := ["bound", "thing"]
theorem sc_is_lot_below : FnScope N_is_lot_below P_is_lot_below (defScope s_is_lot_below) := ⟨rfl, rfl, rfl, by decide +kernel, rfl, by decide +kernel, by decide +kernel⟩
abbrev s_are_outs : Stmt := top 15
abbrev N_are_outs : List Str := ["lines", "most", "thing"]
abbrev P_are_outs : List Str := ["lines", "most", "thing"]
theorem sc_are_outs : FnScope N_are_outs P_are_outs (defScope s_are_outs) := ⟨rfl, rfl, rfl, by decide +kernel, rfl, by decide +kernel, by decide +kernel⟩
abbrev s_are_words : Stmt := top 23
abbrev N_are_words : List Str := ["most", "thing", "word"]
abbrev P_are_words : List Str := ["most", "thing"]
theorem sc_are_words : FnScope N_are_words P_are_words (defScope s_are_words) := ⟨rfl, rfl, rfl, by decide +kernel, rfl, by decide +kernel, by decide +kernel⟩
abbrev s_is_packet : Stmt := top 24
abbrev N_is_packet : List Str := ["lines", "most", "thing", "stream", "kind", "outs", "words"]
abbrev P_is_packet : List Str := ["lines", "most", "thing"]
theorem sc_is_packet : FnScope N_is_packet P_is_packet (defScope s_is_packet) := ⟨rfl, rfl, rfl, by decide +kernel, rfl, by decide +kernel, by decide +kernel⟩
abbrev s_parts_of : Stmt := top 25
abbrev N_parts_of : List Str := ["packet"]
abbrev P_parts_of : List Str := ["packet"]
theorem sc_parts_of : FnScope N_parts_of P_parts_of (defScope s_parts_of) := ⟨rfl, rfl, rfl, by decide +kernel, rfl, by decide +kernel, by decide +kernel⟩
abbrev s_cells_in : Stmt := top 26
abbrev N_cells_in : List Str := ["packet"]
abbrev P_cells_in : List Str := ["packet"]
theorem sc_cells_in : FnScope N_cells_in P_cells_in (defScope s_cells_in) := ⟨rfl, rfl, rfl, by decide +kernel, rfl, by decide +kernel, by decide +kernel⟩
abbrev s_check_of : Stmt := top 27
abbrev N_check_of : List Str := ["packet", "part", "left", "words", "place", "word"]
abbrev P_check_of : List Str := ["packet", "part", "left", "words"]
theorem sc_check_of : FnScope N_check_of P_check_of (defScope s_check_of) := ⟨rfl, rfl, rfl, by decide +kernel, rfl, by decide +kernel, by decide +kernel⟩
abbrev s_is_load : Stmt := top 28
abbrev N_is_load : List Str := ["thing", "packet", "part", "left", "words", "check"]
abbrev P_is_load : List Str := ["thing"]
theorem sc_is_load : FnScope N_is_load P_is_load (defScope s_is_load) := ⟨rfl, rfl, rfl, by decide +kernel, rfl, by decide +kernel, by decide +kernel⟩
abbrev s_law_deck : Stmt := top 30
abbrev N_law_deck : List Str := ["_law_script", "_law_seed", "_law_cell"]
abbrev P_law_deck : List Str := ["_law_script"]
theorem sc_law_deck : FnScope N_law_deck P_law_deck (defScope s_law_deck) := ⟨rfl, rfl, rfl, by decide +kernel, rfl, by decide +kernel, by decide +kernel⟩
abbrev s_law_mixed : Stmt := top 31
abbrev N_law_mixed : List Str := ["_law_cell", "_law_turn", "_law_number"]
abbrev P_law_mixed : List Str := ["_law_cell", "_law_turn"]
theorem sc_law_mixed : FnScope N_law_mixed P_law_mixed (defScope s_law_mixed) := ⟨rfl, rfl, rfl, by decide +kernel, rfl, by decide +kernel, by decide +kernel⟩
abbrev s_law_draw : Stmt := top 32
abbrev N_law_draw : List Str := ["_law_deck_here", "_law_many", "_law_cell", "_law_found"]
abbrev P_law_draw : List Str := ["_law_deck_here", "_law_many"]
theorem sc_law_draw : FnScope N_law_draw P_law_draw (defScope s_law_draw) := ⟨rfl, rfl, rfl, by decide +kernel, rfl, by decide +kernel, by decide +kernel⟩
abbrev s_law_outs : Stmt := top 34
abbrev N_law_outs : List Str := ["_law_deck_here", "_law_lines", "_law_most", "_law_hot", "_law_found", "_law_k", "_law_out"]
abbrev P_law_outs : List Str := ["_law_deck_here", "_law_lines", "_law_most", "_law_hot"]
theorem sc_law_outs : FnScope N_law_outs P_law_outs (defScope s_law_outs) := ⟨rfl, rfl, rfl, by decide +kernel, rfl, by decide +kernel, by decide +kernel⟩
abbrev s_law_packet : Stmt := top 35
abbrev N_law_packet : List Str := ["_law_deck_here", "_law_lines", "_law_most", "_law_size", "_law_words", "_law_k"]
abbrev P_law_packet : List Str := ["_law_deck_here", "_law_lines", "_law_most"]
theorem sc_law_packet : FnScope N_law_packet P_law_packet (defScope s_law_packet) := ⟨rfl, rfl, rfl, by decide +kernel, rfl, by decide +kernel, by decide +kernel⟩
abbrev s_law_load : Stmt := top 36
abbrev N_law_load : List Str := ["_law_number", "_law_words", "_law_part", "_law_left", "_law_some", "_law_total", "_law_place"]
abbrev P_law_load : List Str := ["_law_number", "_law_words", "_law_part"]
theorem sc_law_load : FnScope N_law_load P_law_load (defScope s_law_load) := ⟨rfl, rfl, rfl, by decide +kernel, rfl, by decide +kernel, by decide +kernel⟩
abbrev s_law_is_within : Stmt := top 37
abbrev N_law_is_within : List Str := ["_law_thing", "_law_least", "_law_most"]
abbrev P_law_is_within : List Str := ["_law_thing", "_law_least", "_law_most"]
theorem sc_law_is_within : FnScope N_law_is_within P_law_is_within (defScope s_law_is_within) := ⟨rfl, rfl, rfl, by decide +kernel, rfl, by decide +kernel, by decide +kernel⟩
abbrev s_law_are_words : Stmt := top 38
abbrev N_law_are_words : List Str := ["_law_thing", "_law_most", "_law_word_here"]
abbrev P_law_are_words : List Str := ["_law_thing", "_law_most"]
theorem sc_law_are_words : FnScope N_law_are_words P_law_are_words (defScope s_law_are_words) := ⟨rfl, rfl, rfl, by decide +kernel, rfl, by decide +kernel, by decide +kernel⟩
abbrev s_law_is_packet : Stmt := top 39
abbrev N_law_is_packet : List Str := ["_law_thing", "_law_out", "_law_k"]
abbrev P_law_is_packet : List Str := ["_law_thing"]
theorem sc_law_is_packet : FnScope N_law_is_packet P_law_is_packet (defScope s_law_is_packet) := ⟨rfl, rfl, rfl, by decide +kernel, rfl, by decide +kernel, by decide +kernel⟩
abbrev s_law_is_load : Stmt := top 40
abbrev N_law_is_load : List Str := ["_law_thing", "_law_total", "_law_place"]
abbrev P_law_is_load : List Str := ["_law_thing"]
theorem sc_law_is_load : FnScope N_law_is_load P_law_is_load (defScope s_law_is_load) := ⟨rfl, rfl, rfl, by decide +kernel, rfl, by decide +kernel, by decide +kernel⟩
abbrev s_law_fitted : Stmt := top 41
abbrev N_law_fitted : List Str := ["_law_thing", "_law_total", "_law_place"]
abbrev P_law_fitted : List Str := ["_law_thing"]
theorem sc_law_fitted : FnScope N_law_fitted P_law_fitted (defScope s_law_fitted) := ⟨rfl, rfl, rfl, by decide +kernel, rfl, by decide +kernel, by decide +kernel⟩
abbrev s_law_changed : Stmt := top 42
abbrev N_law_changed : List Str := ["_law_deck_here", "_law_thing", "_law_at", "_law_many", "_law_words", "_law_here", "_law_word_here"]
abbrev P_law_changed : List Str := ["_law_deck_here", "_law_thing"]
theorem sc_law_changed : FnScope N_law_changed P_law_changed (defScope s_law_changed) := ⟨rfl, rfl, rfl, by decide +kernel, rfl, by decide +kernel, by decide +kernel⟩
abbrev s_law_odd : Stmt := top 43
abbrev N_law_odd : List Str := ["_law_deck_here", "_law_thing", "_law_at", "_law_some", "_law_odd_here", "_law_changed_here"]
abbrev P_law_odd : List Str := ["_law_deck_here", "_law_thing"]
theorem sc_law_odd : FnScope N_law_odd P_law_odd (defScope s_law_odd) := ⟨rfl, rfl, rfl, by decide +kernel, rfl, by decide +kernel, by decide +kernel⟩
abbrev s_law_told : Stmt := top 44
abbrev N_law_told : List Str := ["_law_thing", "_law_found", "error"]
abbrev P_law_told : List Str := ["_law_thing"]
theorem sc_law_told : FnScope N_law_told P_law_told (defScope s_law_told) := ⟨rfl, rfl, rfl, by decide +kernel, rfl, by decide +kernel, by decide +kernel⟩
abbrev s_law : Stmt := top 45
abbrev N_law : List Str := ["_law_script", "_law_deck_here", "_law_turn", "_law_packet_here", "_law_told_here", "_law_kind", "_law_here", "_law_word_here", "_law_outs_here", "_law_words", "_law_thing", "_law_k"]
abbrev P_law : List Str := ["_law_script"]
theorem sc_law : FnScope N_law P_law (defScope s_law) := ⟨rfl, rfl, rfl, by decide +kernel, rfl, by decide +kernel, by decide +kernel⟩
/-! ### what the top has left -/
structure Adr where
  a_is_integer : Addr
  d_is_integer : FuncData
  a_is_integer_from : Addr
  d_is_integer_from : FuncData
  a_is_number_below : Addr
  d_is_number_below : FuncData
  a_is_tuple_of : Addr
  d_is_tuple_of : FuncData
  a_is_lot_below : Addr
  d_is_lot_below : FuncData
  a_are_outs : Addr
  d_are_outs : FuncData
  a_are_words : Addr
  d_are_words : FuncData
  a_is_packet : Addr
  d_is_packet : FuncData
  a_parts_of : Addr
  d_parts_of : FuncData
  a_cells_in : Addr
  d_cells_in : FuncData
  a_check_of : Addr
  d_check_of : FuncData
  a_is_load : Addr
  d_is_load : FuncData
  a_law_deck : Addr
  d_law_deck : FuncData
  a_law_mixed : Addr
  d_law_mixed : FuncData
  a_law_draw : Addr
  d_law_draw : FuncData
  a_law_outs : Addr
  d_law_outs : FuncData
  a_law_packet : Addr
  d_law_packet : FuncData
  a_law_load : Addr
  d_law_load : FuncData
  a_law_is_within : Addr
  d_law_is_within : FuncData
  a_law_are_words : Addr
  d_law_are_words : FuncData
  a_law_is_packet : Addr
  d_law_is_packet : FuncData
  a_law_is_load : Addr
  d_law_is_load : FuncData
  a_law_fitted : Addr
  d_law_fitted : FuncData
  a_law_changed : Addr
  d_law_changed : FuncData
  a_law_odd : Addr
  d_law_odd : FuncData
  a_law_told : Addr
  d_law_told : FuncData
  a_law : Addr
  d_law : FuncData
  c_FabricError : Addr
  c_NoOutput : Addr
  c_NoPacket : Addr
structure Top (K : PySem.W.Frag) (mg : Str → Option Value) (A : Adr) : Prop where
  F_is_integer : Fun K "is_integer" "is_integer" s_is_integer A.a_is_integer A.d_is_integer
  g_is_integer : mg "is_integer" = some (.ref A.a_is_integer)
  b_is_integer : Binds K A.d_is_integer P_is_integer []
  F_is_integer_from : Fun K "is_integer_from" "is_integer_from" s_is_integer_from A.a_is_integer_from A.d_is_integer_from
  g_is_integer_from : mg "is_integer_from" = some (.ref A.a_is_integer_from)
  b_is_integer_from : Binds K A.d_is_integer_from P_is_integer_from []
  F_is_number_below : Fun K "is_number_below" "is_number_below" s_is_number_below A.a_is_number_below A.d_is_number_below
  g_is_number_below : mg "is_number_below" = some (.ref A.a_is_number_below)
  b_is_number_below : Binds K A.d_is_number_below P_is_number_below []
  F_is_tuple_of : Fun K "is_tuple_of" "is_tuple_of" s_is_tuple_of A.a_is_tuple_of A.d_is_tuple_of
  g_is_tuple_of : mg "is_tuple_of" = some (.ref A.a_is_tuple_of)
  b_is_tuple_of : Binds K A.d_is_tuple_of P_is_tuple_of []
  F_is_lot_below : Fun K "is_lot_below" "is_lot_below" s_is_lot_below A.a_is_lot_below A.d_is_lot_below
  g_is_lot_below : mg "is_lot_below" = some (.ref A.a_is_lot_below)
  b_is_lot_below : Binds K A.d_is_lot_below P_is_lot_below []
  F_are_outs : Fun K "are_outs" "are_outs" s_are_outs A.a_are_outs A.d_are_outs
  g_are_outs : mg "are_outs" = some (.ref A.a_are_outs)
  b_are_outs : Binds K A.d_are_outs P_are_outs []
  F_are_words : Fun K "are_words" "are_words" s_are_words A.a_are_words A.d_are_words
  g_are_words : mg "are_words" = some (.ref A.a_are_words)
  b_are_words : Binds K A.d_are_words P_are_words []
  F_is_packet : Fun K "is_packet" "is_packet" s_is_packet A.a_is_packet A.d_is_packet
  g_is_packet : mg "is_packet" = some (.ref A.a_is_packet)
  b_is_packet : Binds K A.d_is_packet P_is_packet []
  F_parts_of : Fun K "parts_of" "parts_of" s_parts_of A.a_parts_of A.d_parts_of
  g_parts_of : mg "parts_of" = some (.ref A.a_parts_of)
  b_parts_of : Binds K A.d_parts_of P_parts_of []
  F_cells_in : Fun K "cells_in" "cells_in" s_cells_in A.a_cells_in A.d_cells_in
  g_cells_in : mg "cells_in" = some (.ref A.a_cells_in)
  b_cells_in : Binds K A.d_cells_in P_cells_in []
  F_check_of : Fun K "check_of" "check_of" s_check_of A.a_check_of A.d_check_of
  g_check_of : mg "check_of" = some (.ref A.a_check_of)
  b_check_of : Binds K A.d_check_of P_check_of []
  F_is_load : Fun K "is_load" "is_load" s_is_load A.a_is_load A.d_is_load
  g_is_load : mg "is_load" = some (.ref A.a_is_load)
  b_is_load : Binds K A.d_is_load P_is_load []
  F_law_deck : Fun K "_law_deck" "_law_deck" s_law_deck A.a_law_deck A.d_law_deck
  g_law_deck : mg "_law_deck" = some (.ref A.a_law_deck)
  b_law_deck : Binds K A.d_law_deck P_law_deck []
  F_law_mixed : Fun K "_law_mixed" "_law_mixed" s_law_mixed A.a_law_mixed A.d_law_mixed
  g_law_mixed : mg "_law_mixed" = some (.ref A.a_law_mixed)
  b_law_mixed : Binds K A.d_law_mixed P_law_mixed []
  F_law_draw : Fun K "_law_draw" "_law_draw" s_law_draw A.a_law_draw A.d_law_draw
  g_law_draw : mg "_law_draw" = some (.ref A.a_law_draw)
  b_law_draw : Binds K A.d_law_draw P_law_draw []
  F_law_outs : Fun K "_law_outs" "_law_outs" s_law_outs A.a_law_outs A.d_law_outs
  g_law_outs : mg "_law_outs" = some (.ref A.a_law_outs)
  b_law_outs : Binds K A.d_law_outs P_law_outs []
  F_law_packet : Fun K "_law_packet" "_law_packet" s_law_packet A.a_law_packet A.d_law_packet
  g_law_packet : mg "_law_packet" = some (.ref A.a_law_packet)
  b_law_packet : Binds K A.d_law_packet P_law_packet []
  F_law_load : Fun K "_law_load" "_law_load" s_law_load A.a_law_load A.d_law_load
  g_law_load : mg "_law_load" = some (.ref A.a_law_load)
  b_law_load : Binds K A.d_law_load P_law_load []
  F_law_is_within : Fun K "_law_is_within" "_law_is_within" s_law_is_within A.a_law_is_within A.d_law_is_within
  g_law_is_within : mg "_law_is_within" = some (.ref A.a_law_is_within)
  b_law_is_within : Binds K A.d_law_is_within P_law_is_within []
  F_law_are_words : Fun K "_law_are_words" "_law_are_words" s_law_are_words A.a_law_are_words A.d_law_are_words
  g_law_are_words : mg "_law_are_words" = some (.ref A.a_law_are_words)
  b_law_are_words : Binds K A.d_law_are_words P_law_are_words []
  F_law_is_packet : Fun K "_law_is_packet" "_law_is_packet" s_law_is_packet A.a_law_is_packet A.d_law_is_packet
  g_law_is_packet : mg "_law_is_packet" = some (.ref A.a_law_is_packet)
  b_law_is_packet : Binds K A.d_law_is_packet P_law_is_packet []
  F_law_is_load : Fun K "_law_is_load" "_law_is_load" s_law_is_load A.a_law_is_load A.d_law_is_load
  g_law_is_load : mg "_law_is_load" = some (.ref A.a_law_is_load)
  b_law_is_load : Binds K A.d_law_is_load P_law_is_load []
  F_law_fitted : Fun K "_law_fitted" "_law_fitted" s_law_fitted A.a_law_fitted A.d_law_fitted
  g_law_fitted : mg "_law_fitted" = some (.ref A.a_law_fitted)
  b_law_fitted : Binds K A.d_law_fitted P_law_fitted []
  F_law_changed : Fun K "_law_changed" "_law_changed" s_law_changed A.a_law_changed A.d_law_changed
  g_law_changed : mg "_law_changed" = some (.ref A.a_law_changed)
  b_law_changed : Binds K A.d_law_changed P_law_changed []
  F_law_odd : Fun K "_law_odd" "_law_odd" s_law_odd A.a_law_odd A.d_law_odd
  g_law_odd : mg "_law_odd" = some (.ref A.a_law_odd)
  b_law_odd : Binds K A.d_law_odd P_law_odd []
  F_law_told : Fun K "_law_told" "_law_told" s_law_told A.a_law_told A.d_law_told
  g_law_told : mg "_law_told" = some (.ref A.a_law_told)
  b_law_told : Binds K A.d_law_told P_law_told []
  F_law : Fun K "law" "law" s_law A.a_law A.d_law
  g_law : mg "law" = some (.ref A.a_law)
  b_law : Binds K A.d_law P_law []
  gc_FabricError : mg "FabricError" = some (.ref A.c_FabricError)
  gc_NoOutput : mg "NoOutput" = some (.ref A.c_NoOutput)
  gc_NoPacket : mg "NoPacket" = some (.ref A.c_NoPacket)
  x_NoPacket : PySem.W.excIn K A.c_NoPacket [.type "ValueError", .type "Exception", .type "BaseException", .type "object"] "ValueError.__new__" = true
  kp_NoPacket : PySem.W.keepIn K (.ref A.c_NoPacket) = true
  s_NoPacket : PySem.W.subIn K (.ref A.c_NoPacket) (.type "BaseException") = some true
  t_NoPacket : PySem.W.typeIn K (.ref A.c_NoPacket) = some (.type "type")
  e1_NoPacket : PySem.W.findIn K (.ref A.c_NoPacket) "__getattribute__" = some (some (.builtin "BaseException.__getattribute__"))
  e2_NoPacket : PySem.W.findIn K (.ref A.c_NoPacket) "__getattr__" = some none
  e3_NoPacket : PySem.W.hasDictIn K A.c_NoPacket = true
  e4_NoPacket : PySem.W.findIn K (.ref A.c_NoPacket) "__class__" = some (some (.builtin "object.__class__"))
  e5_NoPacket : PySem.W.mroIn K A.c_NoPacket (.type "object") = some true
  en1 : PySem.W.specialIn K (.builtin "object.__class__") "__get__" = some (some (.builtin "getset_descriptor.__get__"))
  en2 : PySem.W.takesIn K (.builtin "object.__class__") = some true
  kt_NoPacket_NoPacket : PySem.W.kitOne K (.ref A.c_NoPacket) (.ref A.c_NoPacket) = some true
  xm_NoPacket_NoPacket : PySem.W.exmOne K (.ref A.c_NoPacket) (.ref A.c_NoPacket) = some true
  kt_NoPacket_NoOutput : PySem.W.kitOne K (.ref A.c_NoPacket) (.ref A.c_NoOutput) = some false
  xm_NoPacket_NoOutput : PySem.W.exmOne K (.ref A.c_NoPacket) (.ref A.c_NoOutput) = some false
  kt_NoPacket_FabricError : PySem.W.kitOne K (.ref A.c_NoPacket) (.ref A.c_FabricError) = some true
  xm_NoPacket_FabricError : PySem.W.exmOne K (.ref A.c_NoPacket) (.ref A.c_FabricError) = some true
  k_MOST_LINES : ∃ t, mg "MOST_LINES" = some (.int 12 t)
  k_MOST_COPIES : ∃ t, mg "MOST_COPIES" = some (.int 3 t)
  k_STREAMS : ∃ t, mg "STREAMS" = some (.int 100 t)
  k_KINDS : ∃ t, mg "KINDS" = some (.int 8 t)
  k_MOST_WORDS : ∃ t, mg "MOST_WORDS" = some (.int 40 t)
  k_WORDS_OF_A_CELL : ∃ t, mg "WORDS_OF_A_CELL" = some (.int 4 t)
  k_MOST_PARTS : ∃ t, mg "MOST_PARTS" = some (.int 10 t)
  k_GREATEST_PACKET : ∃ t, mg "GREATEST_PACKET" = some (.int 1000000000 t)
  k_WORD_BOUND : ∃ t, mg "WORD_BOUND" = some (.int 256 t)
  k_CHECK_BOUND : ∃ t, mg "CHECK_BOUND" = some (.int 251 t)
  z_abs : mg "abs" = none
  z_all : mg "all" = none
  z_bool : mg "bool" = none
  z_enumerate : mg "enumerate" = none
  z_int : mg "int" = none
  z_isinstance : mg "isinstance" = none
  z_len : mg "len" = none
  z_list : mg "list" = none
  z_range : mg "range" = none
  z_sorted : mg "sorted" = none
  z_sum : mg "sum" = none
  z_tuple : mg "tuple" = none
theorem top_mk {l : PySem.W.OpenLaw} {w : World} {K : PySem.W.Frag} {h : Heap} {mg : Str → Option Value} (X : K.In h) (G : h.Ns mainGlobals mg)
    {f_is_integer : Addr} {od_is_integer an_is_integer : Option Addr} {sl_is_integer : Array (Option Value)} {oc_is_integer kV_is_integer dc_is_integer pm_is_integer cd_is_integer ct_is_integer : Value}
    {f_is_integer_from : Addr} {od_is_integer_from an_is_integer_from : Option Addr} {sl_is_integer_from : Array (Option Value)} {oc_is_integer_from kV_is_integer_from dc_is_integer_from pm_is_integer_from cd_is_integer_from ct_is_integer_from : Value}
    {f_is_number_below : Addr} {od_is_number_below an_is_number_below : Option Addr} {sl_is_number_below : Array (Option Value)} {oc_is_number_below kV_is_number_below dc_is_number_below pm_is_number_below cd_is_number_below ct_is_number_below : Value}
    {f_is_tuple_of : Addr} {od_is_tuple_of an_is_tuple_of : Option Addr} {sl_is_tuple_of : Array (Option Value)} {oc_is_tuple_of kV_is_tuple_of dc_is_tuple_of pm_is_tuple_of cd_is_tuple_of ct_is_tuple_of : Value}
    {f_is_lot_below : Addr} {od_is_lot_below an_is_lot_below : Option Addr} {sl_is_lot_below : Array (Option Value)} {oc_is_lot_below kV_is_lot_below dc_is_lot_below pm_is_lot_below cd_is_lot_below ct_is_lot_below : Value}
    {f_are_outs : Addr} {od_are_outs an_are_outs : Option Addr} {sl_are_outs : Array (Option Value)} {oc_are_outs kV_are_outs dc_are_outs pm_are_outs cd_are_outs ct_are_outs : Value}
    {f_are_words : Addr} {od_are_words an_are_words : Option Addr} {sl_are_words : Array (Option Value)} {oc_are_words kV_are_words dc_are_words pm_are_words cd_are_words ct_are_words : Value}
    {f_is_packet : Addr} {od_is_packet an_is_packet : Option Addr} {sl_is_packet : Array (Option Value)} {oc_is_packet kV_is_packet dc_is_packet pm_is_packet cd_is_packet ct_is_packet : Value}
    {f_parts_of : Addr} {od_parts_of an_parts_of : Option Addr} {sl_parts_of : Array (Option Value)} {oc_parts_of kV_parts_of dc_parts_of pm_parts_of cd_parts_of ct_parts_of : Value}
    {f_cells_in : Addr} {od_cells_in an_cells_in : Option Addr} {sl_cells_in : Array (Option Value)} {oc_cells_in kV_cells_in dc_cells_in pm_cells_in cd_cells_in ct_cells_in : Value}
    {f_check_of : Addr} {od_check_of an_check_of : Option Addr} {sl_check_of : Array (Option Value)} {oc_check_of kV_check_of dc_check_of pm_check_of cd_check_of ct_check_of : Value}
    {f_is_load : Addr} {od_is_load an_is_load : Option Addr} {sl_is_load : Array (Option Value)} {oc_is_load kV_is_load dc_is_load pm_is_load cd_is_load ct_is_load : Value}
    {f_law_deck : Addr} {od_law_deck an_law_deck : Option Addr} {sl_law_deck : Array (Option Value)} {oc_law_deck kV_law_deck dc_law_deck pm_law_deck cd_law_deck ct_law_deck : Value}
    {f_law_mixed : Addr} {od_law_mixed an_law_mixed : Option Addr} {sl_law_mixed : Array (Option Value)} {oc_law_mixed kV_law_mixed dc_law_mixed pm_law_mixed cd_law_mixed ct_law_mixed : Value}
    {f_law_draw : Addr} {od_law_draw an_law_draw : Option Addr} {sl_law_draw : Array (Option Value)} {oc_law_draw kV_law_draw dc_law_draw pm_law_draw cd_law_draw ct_law_draw : Value}
    {f_law_outs : Addr} {od_law_outs an_law_outs : Option Addr} {sl_law_outs : Array (Option Value)} {oc_law_outs kV_law_outs dc_law_outs pm_law_outs cd_law_outs ct_law_outs : Value}
    {f_law_packet : Addr} {od_law_packet an_law_packet : Option Addr} {sl_law_packet : Array (Option Value)} {oc_law_packet kV_law_packet dc_law_packet pm_law_packet cd_law_packet ct_law_packet : Value}
    {f_law_load : Addr} {od_law_load an_law_load : Option Addr} {sl_law_load : Array (Option Value)} {oc_law_load kV_law_load dc_law_load pm_law_load cd_law_load ct_law_load : Value}
    {f_law_is_within : Addr} {od_law_is_within an_law_is_within : Option Addr} {sl_law_is_within : Array (Option Value)} {oc_law_is_within kV_law_is_within dc_law_is_within pm_law_is_within cd_law_is_within ct_law_is_within : Value}
    {f_law_are_words : Addr} {od_law_are_words an_law_are_words : Option Addr} {sl_law_are_words : Array (Option Value)} {oc_law_are_words kV_law_are_words dc_law_are_words pm_law_are_words cd_law_are_words ct_law_are_words : Value}
    {f_law_is_packet : Addr} {od_law_is_packet an_law_is_packet : Option Addr} {sl_law_is_packet : Array (Option Value)} {oc_law_is_packet kV_law_is_packet dc_law_is_packet pm_law_is_packet cd_law_is_packet ct_law_is_packet : Value}
    {f_law_is_load : Addr} {od_law_is_load an_law_is_load : Option Addr} {sl_law_is_load : Array (Option Value)} {oc_law_is_load kV_law_is_load dc_law_is_load pm_law_is_load cd_law_is_load ct_law_is_load : Value}
    {f_law_fitted : Addr} {od_law_fitted an_law_fitted : Option Addr} {sl_law_fitted : Array (Option Value)} {oc_law_fitted kV_law_fitted dc_law_fitted pm_law_fitted cd_law_fitted ct_law_fitted : Value}
    {f_law_changed : Addr} {od_law_changed an_law_changed : Option Addr} {sl_law_changed : Array (Option Value)} {oc_law_changed kV_law_changed dc_law_changed pm_law_changed cd_law_changed ct_law_changed : Value}
    {f_law_odd : Addr} {od_law_odd an_law_odd : Option Addr} {sl_law_odd : Array (Option Value)} {oc_law_odd kV_law_odd dc_law_odd pm_law_odd cd_law_odd ct_law_odd : Value}
    {f_law_told : Addr} {od_law_told an_law_told : Option Addr} {sl_law_told : Array (Option Value)} {oc_law_told kV_law_told dc_law_told pm_law_told cd_law_told ct_law_told : Value}
    {f_law : Addr} {od_law an_law : Option Addr} {sl_law : Array (Option Value)} {oc_law kV_law dc_law pm_law cd_law ct_law : Value}
    {c_FabricError : Addr}
    {c_NoOutput : Addr}
    {c_NoPacket : Addr}
    {t_MOST_LINES : Tok}
    {t_MOST_COPIES : Tok}
    {t_STREAMS : Tok}
    {t_KINDS : Tok}
    {t_MOST_WORDS : Tok}
    {t_WORDS_OF_A_CELL : Tok}
    {t_MOST_PARTS : Tok}
    {t_GREATEST_PACKET : Tok}
    {t_WORD_BOUND : Tok}
    {t_CHECK_BOUND : Tok}
    (ac_FabricError : PySem.W.nsIn K mainGlobals "FabricError" = some (some (.ref c_FabricError)))
    (ac_NoOutput : PySem.W.nsIn K mainGlobals "NoOutput" = some (some (.ref c_NoOutput)))
    (ac_NoPacket : PySem.W.nsIn K mainGlobals "NoPacket" = some (some (.ref c_NoPacket)))
    (a_is_integer : PySem.W.nsIn K mainGlobals "is_integer" = some (some (.ref f_is_integer)))
    (l_is_integer : K.lookup f_is_integer = some ⟨oc_is_integer, od_is_integer, .func (PySem.W.fnOf "is_integer" "is_integer" (defArgs s_is_integer) (defBody s_is_integer) (defScope s_is_integer) .none kV_is_integer dc_is_integer pm_is_integer an_is_integer cd_is_integer ct_is_integer), sl_is_integer⟩)
    (q_is_integer : PySem.W.codeIn K cd_is_integer "is_integer" = true)
    (p_is_integer : PySem.W.keepIn K (.ref f_is_integer) = true)
    (a_is_integer_from : PySem.W.nsIn K mainGlobals "is_integer_from" = some (some (.ref f_is_integer_from)))
    (l_is_integer_from : K.lookup f_is_integer_from = some ⟨oc_is_integer_from, od_is_integer_from, .func (PySem.W.fnOf "is_integer_from" "is_integer_from" (defArgs s_is_integer_from) (defBody s_is_integer_from) (defScope s_is_integer_from) .none kV_is_integer_from dc_is_integer_from pm_is_integer_from an_is_integer_from cd_is_integer_from ct_is_integer_from), sl_is_integer_from⟩)
    (q_is_integer_from : PySem.W.codeIn K cd_is_integer_from "is_integer_from" = true)
    (p_is_integer_from : PySem.W.keepIn K (.ref f_is_integer_from) = true)
    (a_is_number_below : PySem.W.nsIn K mainGlobals "is_number_below" = some (some (.ref f_is_number_below)))
    (l_is_number_below : K.lookup f_is_number_below = some ⟨oc_is_number_below, od_is_number_below, .func (PySem.W.fnOf "is_number_below" "is_number_below" (defArgs s_is_number_below) (defBody s_is_number_below) (defScope s_is_number_below) .none kV_is_number_below dc_is_number_below pm_is_number_below an_is_number_below cd_is_number_below ct_is_number_below), sl_is_number_below⟩)
    (q_is_number_below : PySem.W.codeIn K cd_is_number_below "is_number_below" = true)
    (p_is_number_below : PySem.W.keepIn K (.ref f_is_number_below) = true)
    (a_is_tuple_of : PySem.W.nsIn K mainGlobals "is_tuple_of" = some (some (.ref f_is_tuple_of)))
    (l_is_tuple_of : K.lookup f_is_tuple_of = some ⟨oc_is_tuple_of, od_is_tuple_of, .func (PySem.W.fnOf "is_tuple_of" "is_tuple_of" (defArgs s_is_tuple_of) (defBody s_is_tuple_of) (defScope s_is_tuple_of) .none kV_is_tuple_of dc_is_tuple_of pm_is_tuple_of an_is_tuple_of cd_is_tuple_of ct_is_tuple_of), sl_is_tuple_of⟩)
    (q_is_tuple_of : PySem.W.codeIn K cd_is_tuple_of "is_tuple_of" = true)
    (p_is_tuple_of : PySem.W.keepIn K (.ref f_is_tuple_of) = true)
    (a_is_lot_below : PySem.W.nsIn K mainGlobals "is_lot_below" = some (some (.ref f_is_lot_below)))
    (l_is_lot_below : K.lookup f_is_lot_below = some ⟨oc_is_lot_below, od_is_lot_below, .func (PySem.W.fnOf "is_lot_below" "is_lot_below" (defArgs s_is_lot_below) (defBody s_is_lot_below) (defScope s_is_lot_below) .none kV_is_lot_below dc_is_lot_below pm_is_lot_below an_is_lot_below cd_is_lot_below ct_is_lot_below), sl_is_lot_below⟩)
    (q_is_lot_below : PySem.W.codeIn K cd_is_lot_below "is_lot_below" = true)
    (p_is_lot_below : PySem.W.keepIn K (.ref f_is_lot_below) = true)
    (a_are_outs : PySem.W.nsIn K mainGlobals "are_outs" = some (some (.ref f_are_outs)))
    (l_are_outs : K.lookup f_are_outs = some ⟨oc_are_outs, od_are_outs, .func (PySem.W.fnOf "are_outs" "are_outs" (defArgs s_are_outs) (defBody s_are_outs) (defScope s_are_outs) .none kV_are_outs dc_are_outs pm_are_outs an_are_outs cd_are_outs ct_are_outs), sl_are_outs⟩)
    (q_are_outs : PySem.W.codeIn K cd_are_outs "are_outs" = true)
    (p_are_outs : PySem.W.keepIn K (.ref f_are_outs) = true)
    (a_are_words : PySem.W.nsIn K mainGlobals "are_words" = some (some (.ref f_are_words)))
    (l_are_words : K.lookup f_are_words = some ⟨oc_are_words, od_are_words, .func (PySem.W.fnOf "are_words" "are_words" (defArgs s_are_words) (defBody s_are_words) (defScope s_are_words) .none kV_are_words dc_are_words pm_are_words an_are_words cd_are_words ct_are_words), sl_are_words⟩)
    (q_are_words : PySem.W.codeIn K cd_are_words "are_words" = true)
    (p_are_words : PySem.W.keepIn K (.ref f_are_words) = true)
    (a_is_packet : PySem.W.nsIn K mainGlobals "is_packet" = some (some (.ref f_is_packet)))
    (l_is_packet : K.lookup f_is_packet = some ⟨oc_is_packet, od_is_packet, .func (PySem.W.fnOf "is_packet" "is_packet" (defArgs s_is_packet) (defBody s_is_packet) (defScope s_is_packet) .none kV_is_packet dc_is_packet pm_is_packet an_is_packet cd_is_packet ct_is_packet), sl_is_packet⟩)
    (q_is_packet : PySem.W.codeIn K cd_is_packet "is_packet" = true)
    (p_is_packet : PySem.W.keepIn K (.ref f_is_packet) = true)
    (a_parts_of : PySem.W.nsIn K mainGlobals "parts_of" = some (some (.ref f_parts_of)))
    (l_parts_of : K.lookup f_parts_of = some ⟨oc_parts_of, od_parts_of, .func (PySem.W.fnOf "parts_of" "parts_of" (defArgs s_parts_of) (defBody s_parts_of) (defScope s_parts_of) .none kV_parts_of dc_parts_of pm_parts_of an_parts_of cd_parts_of ct_parts_of), sl_parts_of⟩)
    (q_parts_of : PySem.W.codeIn K cd_parts_of "parts_of" = true)
    (p_parts_of : PySem.W.keepIn K (.ref f_parts_of) = true)
    (a_cells_in : PySem.W.nsIn K mainGlobals "cells_in" = some (some (.ref f_cells_in)))
    (l_cells_in : K.lookup f_cells_in = some ⟨oc_cells_in, od_cells_in, .func (PySem.W.fnOf "cells_in" "cells_in" (defArgs s_cells_in) (defBody s_cells_in) (defScope s_cells_in) .none kV_cells_in dc_cells_in pm_cells_in an_cells_in cd_cells_in ct_cells_in), sl_cells_in⟩)
    (q_cells_in : PySem.W.codeIn K cd_cells_in "cells_in" = true)
    (p_cells_in : PySem.W.keepIn K (.ref f_cells_in) = true)
    (a_check_of : PySem.W.nsIn K mainGlobals "check_of" = some (some (.ref f_check_of)))
    (l_check_of : K.lookup f_check_of = some ⟨oc_check_of, od_check_of, .func (PySem.W.fnOf "check_of" "check_of" (defArgs s_check_of) (defBody s_check_of) (defScope s_check_of) .none kV_check_of dc_check_of pm_check_of an_check_of cd_check_of ct_check_of), sl_check_of⟩)
    (q_check_of : PySem.W.codeIn K cd_check_of "check_of" = true)
    (p_check_of : PySem.W.keepIn K (.ref f_check_of) = true)
    (a_is_load : PySem.W.nsIn K mainGlobals "is_load" = some (some (.ref f_is_load)))
    (l_is_load : K.lookup f_is_load = some ⟨oc_is_load, od_is_load, .func (PySem.W.fnOf "is_load" "is_load" (defArgs s_is_load) (defBody s_is_load) (defScope s_is_load) .none kV_is_load dc_is_load pm_is_load an_is_load cd_is_load ct_is_load), sl_is_load⟩)
    (q_is_load : PySem.W.codeIn K cd_is_load "is_load" = true)
    (p_is_load : PySem.W.keepIn K (.ref f_is_load) = true)
    (a_law_deck : PySem.W.nsIn K mainGlobals "_law_deck" = some (some (.ref f_law_deck)))
    (l_law_deck : K.lookup f_law_deck = some ⟨oc_law_deck, od_law_deck, .func (PySem.W.fnOf "_law_deck" "_law_deck" (defArgs s_law_deck) (defBody s_law_deck) (defScope s_law_deck) .none kV_law_deck dc_law_deck pm_law_deck an_law_deck cd_law_deck ct_law_deck), sl_law_deck⟩)
    (q_law_deck : PySem.W.codeIn K cd_law_deck "_law_deck" = true)
    (p_law_deck : PySem.W.keepIn K (.ref f_law_deck) = true)
    (a_law_mixed : PySem.W.nsIn K mainGlobals "_law_mixed" = some (some (.ref f_law_mixed)))
    (l_law_mixed : K.lookup f_law_mixed = some ⟨oc_law_mixed, od_law_mixed, .func (PySem.W.fnOf "_law_mixed" "_law_mixed" (defArgs s_law_mixed) (defBody s_law_mixed) (defScope s_law_mixed) .none kV_law_mixed dc_law_mixed pm_law_mixed an_law_mixed cd_law_mixed ct_law_mixed), sl_law_mixed⟩)
    (q_law_mixed : PySem.W.codeIn K cd_law_mixed "_law_mixed" = true)
    (p_law_mixed : PySem.W.keepIn K (.ref f_law_mixed) = true)
    (a_law_draw : PySem.W.nsIn K mainGlobals "_law_draw" = some (some (.ref f_law_draw)))
    (l_law_draw : K.lookup f_law_draw = some ⟨oc_law_draw, od_law_draw, .func (PySem.W.fnOf "_law_draw" "_law_draw" (defArgs s_law_draw) (defBody s_law_draw) (defScope s_law_draw) .none kV_law_draw dc_law_draw pm_law_draw an_law_draw cd_law_draw ct_law_draw), sl_law_draw⟩)
    (q_law_draw : PySem.W.codeIn K cd_law_draw "_law_draw" = true)
    (p_law_draw : PySem.W.keepIn K (.ref f_law_draw) = true)
    (a_law_outs : PySem.W.nsIn K mainGlobals "_law_outs" = some (some (.ref f_law_outs)))
    (l_law_outs : K.lookup f_law_outs = some ⟨oc_law_outs, od_law_outs, .func (PySem.W.fnOf "_law_outs" "_law_outs" (defArgs s_law_outs) (defBody s_law_outs) (defScope s_law_outs) .none kV_law_outs dc_law_outs pm_law_outs an_law_outs cd_law_outs ct_law_outs), sl_law_outs⟩)
    (q_law_outs : PySem.W.codeIn K cd_law_outs "_law_outs" = true)
    (p_law_outs : PySem.W.keepIn K (.ref f_law_outs) = true)
    (a_law_packet : PySem.W.nsIn K mainGlobals "_law_packet" = some (some (.ref f_law_packet)))
    (l_law_packet : K.lookup f_law_packet = some ⟨oc_law_packet, od_law_packet, .func (PySem.W.fnOf "_law_packet" "_law_packet" (defArgs s_law_packet) (defBody s_law_packet) (defScope s_law_packet) .none kV_law_packet dc_law_packet pm_law_packet an_law_packet cd_law_packet ct_law_packet), sl_law_packet⟩)
    (q_law_packet : PySem.W.codeIn K cd_law_packet "_law_packet" = true)
    (p_law_packet : PySem.W.keepIn K (.ref f_law_packet) = true)
    (a_law_load : PySem.W.nsIn K mainGlobals "_law_load" = some (some (.ref f_law_load)))
    (l_law_load : K.lookup f_law_load = some ⟨oc_law_load, od_law_load, .func (PySem.W.fnOf "_law_load" "_law_load" (defArgs s_law_load) (defBody s_law_load) (defScope s_law_load) .none kV_law_load dc_law_load pm_law_load an_law_load cd_law_load ct_law_load), sl_law_load⟩)
    (q_law_load : PySem.W.codeIn K cd_law_load "_law_load" = true)
    (p_law_load : PySem.W.keepIn K (.ref f_law_load) = true)
    (a_law_is_within : PySem.W.nsIn K mainGlobals "_law_is_within" = some (some (.ref f_law_is_within)))
    (l_law_is_within : K.lookup f_law_is_within = some ⟨oc_law_is_within, od_law_is_within, .func (PySem.W.fnOf "_law_is_within" "_law_is_within" (defArgs s_law_is_within) (defBody s_law_is_within) (defScope s_law_is_within) .none kV_law_is_within dc_law_is_within pm_law_is_within an_law_is_within cd_law_is_within ct_law_is_within), sl_law_is_within⟩)
    (q_law_is_within : PySem.W.codeIn K cd_law_is_within "_law_is_within" = true)
    (p_law_is_within : PySem.W.keepIn K (.ref f_law_is_within) = true)
    (a_law_are_words : PySem.W.nsIn K mainGlobals "_law_are_words" = some (some (.ref f_law_are_words)))
    (l_law_are_words : K.lookup f_law_are_words = some ⟨oc_law_are_words, od_law_are_words, .func (PySem.W.fnOf "_law_are_words" "_law_are_words" (defArgs s_law_are_words) (defBody s_law_are_words) (defScope s_law_are_words) .none kV_law_are_words dc_law_are_words pm_law_are_words an_law_are_words cd_law_are_words ct_law_are_words), sl_law_are_words⟩)
    (q_law_are_words : PySem.W.codeIn K cd_law_are_words "_law_are_words" = true)
    (p_law_are_words : PySem.W.keepIn K (.ref f_law_are_words) = true)
    (a_law_is_packet : PySem.W.nsIn K mainGlobals "_law_is_packet" = some (some (.ref f_law_is_packet)))
    (l_law_is_packet : K.lookup f_law_is_packet = some ⟨oc_law_is_packet, od_law_is_packet, .func (PySem.W.fnOf "_law_is_packet" "_law_is_packet" (defArgs s_law_is_packet) (defBody s_law_is_packet) (defScope s_law_is_packet) .none kV_law_is_packet dc_law_is_packet pm_law_is_packet an_law_is_packet cd_law_is_packet ct_law_is_packet), sl_law_is_packet⟩)
    (q_law_is_packet : PySem.W.codeIn K cd_law_is_packet "_law_is_packet" = true)
    (p_law_is_packet : PySem.W.keepIn K (.ref f_law_is_packet) = true)
    (a_law_is_load : PySem.W.nsIn K mainGlobals "_law_is_load" = some (some (.ref f_law_is_load)))
    (l_law_is_load : K.lookup f_law_is_load = some ⟨oc_law_is_load, od_law_is_load, .func (PySem.W.fnOf "_law_is_load" "_law_is_load" (defArgs s_law_is_load) (defBody s_law_is_load) (defScope s_law_is_load) .none kV_law_is_load dc_law_is_load pm_law_is_load an_law_is_load cd_law_is_load ct_law_is_load), sl_law_is_load⟩)
    (q_law_is_load : PySem.W.codeIn K cd_law_is_load "_law_is_load" = true)
    (p_law_is_load : PySem.W.keepIn K (.ref f_law_is_load) = true)
    (a_law_fitted : PySem.W.nsIn K mainGlobals "_law_fitted" = some (some (.ref f_law_fitted)))
    (l_law_fitted : K.lookup f_law_fitted = some ⟨oc_law_fitted, od_law_fitted, .func (PySem.W.fnOf "_law_fitted" "_law_fitted" (defArgs s_law_fitted) (defBody s_law_fitted) (defScope s_law_fitted) .none kV_law_fitted dc_law_fitted pm_law_fitted an_law_fitted cd_law_fitted ct_law_fitted), sl_law_fitted⟩)
    (q_law_fitted : PySem.W.codeIn K cd_law_fitted "_law_fitted" = true)
    (p_law_fitted : PySem.W.keepIn K (.ref f_law_fitted) = true)
    (a_law_changed : PySem.W.nsIn K mainGlobals "_law_changed" = some (some (.ref f_law_changed)))
    (l_law_changed : K.lookup f_law_changed = some ⟨oc_law_changed, od_law_changed, .func (PySem.W.fnOf "_law_changed" "_law_changed" (defArgs s_law_changed) (defBody s_law_changed) (defScope s_law_changed) .none kV_law_changed dc_law_changed pm_law_changed an_law_changed cd_law_changed ct_law_changed), sl_law_changed⟩)
    (q_law_changed : PySem.W.codeIn K cd_law_changed "_law_changed" = true)
    (p_law_changed : PySem.W.keepIn K (.ref f_law_changed) = true)
    (a_law_odd : PySem.W.nsIn K mainGlobals "_law_odd" = some (some (.ref f_law_odd)))
    (l_law_odd : K.lookup f_law_odd = some ⟨oc_law_odd, od_law_odd, .func (PySem.W.fnOf "_law_odd" "_law_odd" (defArgs s_law_odd) (defBody s_law_odd) (defScope s_law_odd) .none kV_law_odd dc_law_odd pm_law_odd an_law_odd cd_law_odd ct_law_odd), sl_law_odd⟩)
    (q_law_odd : PySem.W.codeIn K cd_law_odd "_law_odd" = true)
    (p_law_odd : PySem.W.keepIn K (.ref f_law_odd) = true)
    (a_law_told : PySem.W.nsIn K mainGlobals "_law_told" = some (some (.ref f_law_told)))
    (l_law_told : K.lookup f_law_told = some ⟨oc_law_told, od_law_told, .func (PySem.W.fnOf "_law_told" "_law_told" (defArgs s_law_told) (defBody s_law_told) (defScope s_law_told) .none kV_law_told dc_law_told pm_law_told an_law_told cd_law_told ct_law_told), sl_law_told⟩)
    (q_law_told : PySem.W.codeIn K cd_law_told "_law_told" = true)
    (p_law_told : PySem.W.keepIn K (.ref f_law_told) = true)
    (a_law : PySem.W.nsIn K mainGlobals "law" = some (some (.ref f_law)))
    (l_law : K.lookup f_law = some ⟨oc_law, od_law, .func (PySem.W.fnOf "law" "law" (defArgs s_law) (defBody s_law) (defScope s_law) .none kV_law dc_law pm_law an_law cd_law ct_law), sl_law⟩)
    (q_law : PySem.W.codeIn K cd_law "law" = true)
    (p_law : PySem.W.keepIn K (.ref f_law) = true)
    (x_NoPacket : PySem.W.excIn K c_NoPacket [.type "ValueError", .type "Exception", .type "BaseException", .type "object"] "ValueError.__new__" = true)
    (kp_NoPacket : PySem.W.keepIn K (.ref c_NoPacket) = true)
    (s_NoPacket : PySem.W.subIn K (.ref c_NoPacket) (.type "BaseException") = some true)
    (t_NoPacket : PySem.W.typeIn K (.ref c_NoPacket) = some (.type "type"))
    (e1_NoPacket : PySem.W.findIn K (.ref c_NoPacket) "__getattribute__" = some (some (.builtin "BaseException.__getattribute__")))
    (e2_NoPacket : PySem.W.findIn K (.ref c_NoPacket) "__getattr__" = some none)
    (e3_NoPacket : PySem.W.hasDictIn K c_NoPacket = true)
    (e4_NoPacket : PySem.W.findIn K (.ref c_NoPacket) "__class__" = some (some (.builtin "object.__class__")))
    (e5_NoPacket : PySem.W.mroIn K c_NoPacket (.type "object") = some true)
    (en1 : PySem.W.specialIn K (.builtin "object.__class__") "__get__" = some (some (.builtin "getset_descriptor.__get__")))
    (en2 : PySem.W.takesIn K (.builtin "object.__class__") = some true)
    (s_NoOutput : PySem.W.subIn K (.ref c_NoOutput) (.type "BaseException") = some true)
    (t_NoOutput : PySem.W.typeIn K (.ref c_NoOutput) = some (.type "type"))
    (e3_NoOutput : PySem.W.hasDictIn K c_NoOutput = true)
    (su_NoOutput_NoOutput : PySem.W.subIn K (.ref c_NoOutput) (.ref c_NoOutput) = some true)
    (s_FabricError : PySem.W.subIn K (.ref c_FabricError) (.type "BaseException") = some true)
    (t_FabricError : PySem.W.typeIn K (.ref c_FabricError) = some (.type "type"))
    (e3_FabricError : PySem.W.hasDictIn K c_FabricError = true)
    (su_FabricError_FabricError : PySem.W.subIn K (.ref c_FabricError) (.ref c_FabricError) = some true)
    (su_NoPacket_NoPacket : PySem.W.subIn K (.ref c_NoPacket) (.ref c_NoPacket) = some true)
    (su_NoPacket_NoOutput : PySem.W.subIn K (.ref c_NoPacket) (.ref c_NoOutput) = some false)
    (su_NoPacket_FabricError : PySem.W.subIn K (.ref c_NoPacket) (.ref c_FabricError) = some true)
    (k_MOST_LINES : PySem.W.nsIn K mainGlobals "MOST_LINES" = some (some (.int 12 t_MOST_LINES)))
    (k_MOST_COPIES : PySem.W.nsIn K mainGlobals "MOST_COPIES" = some (some (.int 3 t_MOST_COPIES)))
    (k_STREAMS : PySem.W.nsIn K mainGlobals "STREAMS" = some (some (.int 100 t_STREAMS)))
    (k_KINDS : PySem.W.nsIn K mainGlobals "KINDS" = some (some (.int 8 t_KINDS)))
    (k_MOST_WORDS : PySem.W.nsIn K mainGlobals "MOST_WORDS" = some (some (.int 40 t_MOST_WORDS)))
    (k_WORDS_OF_A_CELL : PySem.W.nsIn K mainGlobals "WORDS_OF_A_CELL" = some (some (.int 4 t_WORDS_OF_A_CELL)))
    (k_MOST_PARTS : PySem.W.nsIn K mainGlobals "MOST_PARTS" = some (some (.int 10 t_MOST_PARTS)))
    (k_GREATEST_PACKET : PySem.W.nsIn K mainGlobals "GREATEST_PACKET" = some (some (.int 1000000000 t_GREATEST_PACKET)))
    (k_WORD_BOUND : PySem.W.nsIn K mainGlobals "WORD_BOUND" = some (some (.int 256 t_WORD_BOUND)))
    (k_CHECK_BOUND : PySem.W.nsIn K mainGlobals "CHECK_BOUND" = some (some (.int 251 t_CHECK_BOUND)))
    (z_abs : PySem.W.nsIn K mainGlobals "abs" = some none)
    (z_all : PySem.W.nsIn K mainGlobals "all" = some none)
    (z_bool : PySem.W.nsIn K mainGlobals "bool" = some none)
    (z_enumerate : PySem.W.nsIn K mainGlobals "enumerate" = some none)
    (z_int : PySem.W.nsIn K mainGlobals "int" = some none)
    (z_isinstance : PySem.W.nsIn K mainGlobals "isinstance" = some none)
    (z_len : PySem.W.nsIn K mainGlobals "len" = some none)
    (z_list : PySem.W.nsIn K mainGlobals "list" = some none)
    (z_range : PySem.W.nsIn K mainGlobals "range" = some none)
    (z_sorted : PySem.W.nsIn K mainGlobals "sorted" = some none)
    (z_sum : PySem.W.nsIn K mainGlobals "sum" = some none)
    (z_tuple : PySem.W.nsIn K mainGlobals "tuple" = some none)
    : ∃ A : Adr, Top K mg A ∧ A.d_law = PySem.W.fnOf "law" "law" (defArgs s_law) (defBody s_law) (defScope s_law) .none kV_law dc_law pm_law an_law cd_law ct_law ∧ A.a_law = f_law := by
  have F_is_integer := fun_mk (st := s_is_integer) l_is_integer q_is_integer p_is_integer
  have F_is_integer_from := fun_mk (st := s_is_integer_from) l_is_integer_from q_is_integer_from p_is_integer_from
  have F_is_number_below := fun_mk (st := s_is_number_below) l_is_number_below q_is_number_below p_is_number_below
  have F_is_tuple_of := fun_mk (st := s_is_tuple_of) l_is_tuple_of q_is_tuple_of p_is_tuple_of
  have F_is_lot_below := fun_mk (st := s_is_lot_below) l_is_lot_below q_is_lot_below p_is_lot_below
  have F_are_outs := fun_mk (st := s_are_outs) l_are_outs q_are_outs p_are_outs
  have F_are_words := fun_mk (st := s_are_words) l_are_words q_are_words p_are_words
  have F_is_packet := fun_mk (st := s_is_packet) l_is_packet q_is_packet p_is_packet
  have F_parts_of := fun_mk (st := s_parts_of) l_parts_of q_parts_of p_parts_of
  have F_cells_in := fun_mk (st := s_cells_in) l_cells_in q_cells_in p_cells_in
  have F_check_of := fun_mk (st := s_check_of) l_check_of q_check_of p_check_of
  have F_is_load := fun_mk (st := s_is_load) l_is_load q_is_load p_is_load
  have F_law_deck := fun_mk (st := s_law_deck) l_law_deck q_law_deck p_law_deck
  have F_law_mixed := fun_mk (st := s_law_mixed) l_law_mixed q_law_mixed p_law_mixed
  have F_law_draw := fun_mk (st := s_law_draw) l_law_draw q_law_draw p_law_draw
  have F_law_outs := fun_mk (st := s_law_outs) l_law_outs q_law_outs p_law_outs
  have F_law_packet := fun_mk (st := s_law_packet) l_law_packet q_law_packet p_law_packet
  have F_law_load := fun_mk (st := s_law_load) l_law_load q_law_load p_law_load
  have F_law_is_within := fun_mk (st := s_law_is_within) l_law_is_within q_law_is_within p_law_is_within
  have F_law_are_words := fun_mk (st := s_law_are_words) l_law_are_words q_law_are_words p_law_are_words
  have F_law_is_packet := fun_mk (st := s_law_is_packet) l_law_is_packet q_law_is_packet p_law_is_packet
  have F_law_is_load := fun_mk (st := s_law_is_load) l_law_is_load q_law_is_load p_law_is_load
  have F_law_fitted := fun_mk (st := s_law_fitted) l_law_fitted q_law_fitted p_law_fitted
  have F_law_changed := fun_mk (st := s_law_changed) l_law_changed q_law_changed p_law_changed
  have F_law_odd := fun_mk (st := s_law_odd) l_law_odd q_law_odd p_law_odd
  have F_law_told := fun_mk (st := s_law_told) l_law_told q_law_told p_law_told
  have F_law := fun_mk (st := s_law) l_law q_law p_law
  refine ⟨⟨f_is_integer, PySem.W.fnOf "is_integer" "is_integer" (defArgs s_is_integer) (defBody s_is_integer) (defScope s_is_integer) .none kV_is_integer dc_is_integer pm_is_integer an_is_integer cd_is_integer ct_is_integer, f_is_integer_from, PySem.W.fnOf "is_integer_from" "is_integer_from" (defArgs s_is_integer_from) (defBody s_is_integer_from) (defScope s_is_integer_from) .none kV_is_integer_from dc_is_integer_from pm_is_integer_from an_is_integer_from cd_is_integer_from ct_is_integer_from, f_is_number_below, PySem.W.fnOf "is_number_below" "is_number_below" (defArgs s_is_number_below) (defBody s_is_number_below) (defScope s_is_number_below) .none kV_is_number_below dc_is_number_below pm_is_number_below an_is_number_below cd_is_number_below ct_is_number_below, f_is_tuple_of, PySem.W.fnOf "is_tuple_of" "is_tuple_of" (defArgs s_is_tuple_of) (defBody s_is_tuple_of) (defScope s_is_tuple_of) .none kV_is_tuple_of dc_is_tuple_of pm_is_tuple_of an_is_tuple_of cd_is_tuple_of ct_is_tuple_of, f_is_lot_below, PySem.W.fnOf "is_lot_below" "is_lot_below" (defArgs s_is_lot_below) (defBody s_is_lot_below) (defScope s_is_lot_below) .none kV_is_lot_below dc_is_lot_below pm_is_lot_below an_is_lot_below cd_is_lot_below ct_is_lot_below, f_are_outs, PySem.W.fnOf "are_outs" "are_outs" (defArgs s_are_outs) (defBody s_are_outs) (defScope s_are_outs) .none kV_are_outs dc_are_outs pm_are_outs an_are_outs cd_are_outs ct_are_outs, f_are_words, PySem.W.fnOf "are_words" "are_words" (defArgs s_are_words) (defBody s_are_words) (defScope s_are_words) .none kV_are_words dc_are_words pm_are_words an_are_words cd_are_words ct_are_words, f_is_packet, PySem.W.fnOf "is_packet" "is_packet" (defArgs s_is_packet) (defBody s_is_packet) (defScope s_is_packet) .none kV_is_packet dc_is_packet pm_is_packet an_is_packet cd_is_packet ct_is_packet, f_parts_of, PySem.W.fnOf "parts_of" "parts_of" (defArgs s_parts_of) (defBody s_parts_of) (defScope s_parts_of) .none kV_parts_of dc_parts_of pm_parts_of an_parts_of cd_parts_of ct_parts_of, f_cells_in, PySem.W.fnOf "cells_in" "cells_in" (defArgs s_cells_in) (defBody s_cells_in) (defScope s_cells_in) .none kV_cells_in dc_cells_in pm_cells_in an_cells_in cd_cells_in ct_cells_in, f_check_of, PySem.W.fnOf "check_of" "check_of" (defArgs s_check_of) (defBody s_check_of) (defScope s_check_of) .none kV_check_of dc_check_of pm_check_of an_check_of cd_check_of ct_check_of, f_is_load, PySem.W.fnOf "is_load" "is_load" (defArgs s_is_load) (defBody s_is_load) (defScope s_is_load) .none kV_is_load dc_is_load pm_is_load an_is_load cd_is_load ct_is_load, f_law_deck, PySem.W.fnOf "_law_deck" "_law_deck" (defArgs s_law_deck) (defBody s_law_deck) (defScope s_law_deck) .none kV_law_deck dc_law_deck pm_law_deck an_law_deck cd_law_deck ct_law_deck, f_law_mixed, PySem.W.fnOf "_law_mixed" "_law_mixed" (defArgs s_law_mixed) (defBody s_law_mixed) (defScope s_law_mixed) .none kV_law_mixed dc_law_mixed pm_law_mixed an_law_mixed cd_law_mixed ct_law_mixed, f_law_draw, PySem.W.fnOf "_law_draw" "_law_draw" (defArgs s_law_draw) (defBody s_law_draw) (defScope s_law_draw) .none kV_law_draw dc_law_draw pm_law_draw an_law_draw cd_law_draw ct_law_draw, f_law_outs, PySem.W.fnOf "_law_outs" "_law_outs" (defArgs s_law_outs) (defBody s_law_outs) (defScope s_law_outs) .none kV_law_outs dc_law_outs pm_law_outs an_law_outs cd_law_outs ct_law_outs, f_law_packet, PySem.W.fnOf "_law_packet" "_law_packet" (defArgs s_law_packet) (defBody s_law_packet) (defScope s_law_packet) .none kV_law_packet dc_law_packet pm_law_packet an_law_packet cd_law_packet ct_law_packet, f_law_load, PySem.W.fnOf "_law_load" "_law_load" (defArgs s_law_load) (defBody s_law_load) (defScope s_law_load) .none kV_law_load dc_law_load pm_law_load an_law_load cd_law_load ct_law_load, f_law_is_within, PySem.W.fnOf "_law_is_within" "_law_is_within" (defArgs s_law_is_within) (defBody s_law_is_within) (defScope s_law_is_within) .none kV_law_is_within dc_law_is_within pm_law_is_within an_law_is_within cd_law_is_within ct_law_is_within, f_law_are_words, PySem.W.fnOf "_law_are_words" "_law_are_words" (defArgs s_law_are_words) (defBody s_law_are_words) (defScope s_law_are_words) .none kV_law_are_words dc_law_are_words pm_law_are_words an_law_are_words cd_law_are_words ct_law_are_words, f_law_is_packet, PySem.W.fnOf "_law_is_packet" "_law_is_packet" (defArgs s_law_is_packet) (defBody s_law_is_packet) (defScope s_law_is_packet) .none kV_law_is_packet dc_law_is_packet pm_law_is_packet an_law_is_packet cd_law_is_packet ct_law_is_packet, f_law_is_load, PySem.W.fnOf "_law_is_load" "_law_is_load" (defArgs s_law_is_load) (defBody s_law_is_load) (defScope s_law_is_load) .none kV_law_is_load dc_law_is_load pm_law_is_load an_law_is_load cd_law_is_load ct_law_is_load, f_law_fitted, PySem.W.fnOf "_law_fitted" "_law_fitted" (defArgs s_law_fitted) (defBody s_law_fitted) (defScope s_law_fitted) .none kV_law_fitted dc_law_fitted pm_law_fitted an_law_fitted cd_law_fitted ct_law_fitted, f_law_changed, PySem.W.fnOf "_law_changed" "_law_changed" (defArgs s_law_changed) (defBody s_law_changed) (defScope s_law_changed) .none kV_law_changed dc_law_changed pm_law_changed an_law_changed cd_law_changed ct_law_changed, f_law_odd, PySem.W.fnOf "_law_odd" "_law_odd" (defArgs s_law_odd) (defBody s_law_odd) (defScope s_law_odd) .none kV_law_odd dc_law_odd pm_law_odd an_law_odd cd_law_odd ct_law_odd, f_law_told, PySem.W.fnOf "_law_told" "_law_told" (defArgs s_law_told) (defBody s_law_told) (defScope s_law_told) .none kV_law_told dc_law_told pm_law_told an_law_told cd_law_told ct_law_told, f_law, PySem.W.fnOf "law" "law" (defArgs s_law) (defBody s_law) (defScope s_law) .none kV_law dc_law pm_law an_law cd_law ct_law, c_FabricError, c_NoOutput, c_NoPacket⟩, ?_, rfl, rfl⟩
  exact ⟨F_is_integer,
    PySem.W.mg_of X G a_is_integer,
    F_is_integer.binds (fun _ _ _ _ _ _ us hl => match us, hl with | [_], _ => rfl),
    F_is_integer_from,
    PySem.W.mg_of X G a_is_integer_from,
    F_is_integer_from.binds (fun _ _ _ _ _ _ us hl => match us, hl with | [_, _, _], _ => rfl),
    F_is_number_below,
    PySem.W.mg_of X G a_is_number_below,
    F_is_number_below.binds (fun _ _ _ _ _ _ us hl => match us, hl with | [_, _], _ => rfl),
    F_is_tuple_of,
    PySem.W.mg_of X G a_is_tuple_of,
    F_is_tuple_of.binds (fun _ _ _ _ _ _ us hl => match us, hl with | [_, _], _ => rfl),
    F_is_lot_below,
    PySem.W.mg_of X G a_is_lot_below,
    F_is_lot_below.binds (fun _ _ _ _ _ _ us hl => match us, hl with | [_, _], _ => rfl),
    F_are_outs,
    PySem.W.mg_of X G a_are_outs,
    F_are_outs.binds (fun _ _ _ _ _ _ us hl => match us, hl with | [_, _, _], _ => rfl),
    F_are_words,
    PySem.W.mg_of X G a_are_words,
    F_are_words.binds (fun _ _ _ _ _ _ us hl => match us, hl with | [_, _], _ => rfl),
    F_is_packet,
    PySem.W.mg_of X G a_is_packet,
    F_is_packet.binds (fun _ _ _ _ _ _ us hl => match us, hl with | [_, _, _], _ => rfl),
    F_parts_of,
    PySem.W.mg_of X G a_parts_of,
    F_parts_of.binds (fun _ _ _ _ _ _ us hl => match us, hl with | [_], _ => rfl),
    F_cells_in,
    PySem.W.mg_of X G a_cells_in,
    F_cells_in.binds (fun _ _ _ _ _ _ us hl => match us, hl with | [_], _ => rfl),
    F_check_of,
    PySem.W.mg_of X G a_check_of,
    F_check_of.binds (fun _ _ _ _ _ _ us hl => match us, hl with | [_, _, _, _], _ => rfl),
    F_is_load,
    PySem.W.mg_of X G a_is_load,
    F_is_load.binds (fun _ _ _ _ _ _ us hl => match us, hl with | [_], _ => rfl),
    F_law_deck,
    PySem.W.mg_of X G a_law_deck,
    F_law_deck.binds (fun _ _ _ _ _ _ us hl => match us, hl with | [_], _ => rfl),
    F_law_mixed,
    PySem.W.mg_of X G a_law_mixed,
    F_law_mixed.binds (fun _ _ _ _ _ _ us hl => match us, hl with | [_, _], _ => rfl),
    F_law_draw,
    PySem.W.mg_of X G a_law_draw,
    F_law_draw.binds (fun _ _ _ _ _ _ us hl => match us, hl with | [_, _], _ => rfl),
    F_law_outs,
    PySem.W.mg_of X G a_law_outs,
    F_law_outs.binds (fun _ _ _ _ _ _ us hl => match us, hl with | [_, _, _, _], _ => rfl),
    F_law_packet,
    PySem.W.mg_of X G a_law_packet,
    F_law_packet.binds (fun _ _ _ _ _ _ us hl => match us, hl with | [_, _, _], _ => rfl),
    F_law_load,
    PySem.W.mg_of X G a_law_load,
    F_law_load.binds (fun _ _ _ _ _ _ us hl => match us, hl with | [_, _, _], _ => rfl),
    F_law_is_within,
    PySem.W.mg_of X G a_law_is_within,
    F_law_is_within.binds (fun _ _ _ _ _ _ us hl => match us, hl with | [_, _, _], _ => rfl),
    F_law_are_words,
    PySem.W.mg_of X G a_law_are_words,
    F_law_are_words.binds (fun _ _ _ _ _ _ us hl => match us, hl with | [_, _], _ => rfl),
    F_law_is_packet,
    PySem.W.mg_of X G a_law_is_packet,
    F_law_is_packet.binds (fun _ _ _ _ _ _ us hl => match us, hl with | [_], _ => rfl),
    F_law_is_load,
    PySem.W.mg_of X G a_law_is_load,
    F_law_is_load.binds (fun _ _ _ _ _ _ us hl => match us, hl with | [_], _ => rfl),
    F_law_fitted,
    PySem.W.mg_of X G a_law_fitted,
    F_law_fitted.binds (fun _ _ _ _ _ _ us hl => match us, hl with | [_], _ => rfl),
    F_law_changed,
    PySem.W.mg_of X G a_law_changed,
    F_law_changed.binds (fun _ _ _ _ _ _ us hl => match us, hl with | [_, _], _ => rfl),
    F_law_odd,
    PySem.W.mg_of X G a_law_odd,
    F_law_odd.binds (fun _ _ _ _ _ _ us hl => match us, hl with | [_, _], _ => rfl),
    F_law_told,
    PySem.W.mg_of X G a_law_told,
    F_law_told.binds (fun _ _ _ _ _ _ us hl => match us, hl with | [_], _ => rfl),
    F_law,
    PySem.W.mg_of X G a_law,
    F_law.binds (fun _ _ _ _ _ _ us hl => match us, hl with | [_], _ => rfl),
    PySem.W.mg_of X G ac_FabricError,
    PySem.W.mg_of X G ac_NoOutput,
    PySem.W.mg_of X G ac_NoPacket,
    x_NoPacket,
    kp_NoPacket,
    s_NoPacket,
    t_NoPacket,
    e1_NoPacket,
    e2_NoPacket,
    e3_NoPacket,
    e4_NoPacket,
    e5_NoPacket,
    en1,
    en2,
    GX.kit_yes (PySem.W.exm_ref s_NoPacket e3_NoPacket t_NoPacket su_NoPacket_NoPacket),
    (PySem.W.exm_ref s_NoPacket e3_NoPacket t_NoPacket su_NoPacket_NoPacket),
    GX.kit_no (PySem.W.exm_ref s_NoOutput e3_NoOutput t_NoOutput su_NoPacket_NoOutput) su_NoOutput_NoOutput su_NoPacket_NoOutput,
    (PySem.W.exm_ref s_NoOutput e3_NoOutput t_NoOutput su_NoPacket_NoOutput),
    GX.kit_yes (PySem.W.exm_ref s_FabricError e3_FabricError t_FabricError su_NoPacket_FabricError),
    (PySem.W.exm_ref s_FabricError e3_FabricError t_FabricError su_NoPacket_FabricError),
    ⟨_, PySem.W.mg_of X G k_MOST_LINES⟩,
    ⟨_, PySem.W.mg_of X G k_MOST_COPIES⟩,
    ⟨_, PySem.W.mg_of X G k_STREAMS⟩,
    ⟨_, PySem.W.mg_of X G k_KINDS⟩,
    ⟨_, PySem.W.mg_of X G k_MOST_WORDS⟩,
    ⟨_, PySem.W.mg_of X G k_WORDS_OF_A_CELL⟩,
    ⟨_, PySem.W.mg_of X G k_MOST_PARTS⟩,
    ⟨_, PySem.W.mg_of X G k_GREATEST_PACKET⟩,
    ⟨_, PySem.W.mg_of X G k_WORD_BOUND⟩,
    ⟨_, PySem.W.mg_of X G k_CHECK_BOUND⟩,
    PySem.W.mg_none_of X G z_abs,
    PySem.W.mg_none_of X G z_all,
    PySem.W.mg_none_of X G z_bool,
    PySem.W.mg_none_of X G z_enumerate,
    PySem.W.mg_none_of X G z_int,
    PySem.W.mg_none_of X G z_isinstance,
    PySem.W.mg_none_of X G z_len,
    PySem.W.mg_none_of X G z_list,
    PySem.W.mg_none_of X G z_range,
    PySem.W.mg_none_of X G z_sorted,
    PySem.W.mg_none_of X G z_sum,
    PySem.W.mg_none_of X G z_tuple⟩

/-! ### heaps -/
theorem dec_int {a b : Int} : decide (V.int a = V.int b) = decide (a = b) := decide_eq_decide.mpr ⟨fun e => V.int.inj e, fun e => by rw [e]⟩
theorem dec_self {a : V} : decide (a = a) = true := decide_eq_true rfl
theorem same_upd {H : Hp} {p : Addr} {o : HO} (h : H p = none) : Same H (upd H p o) := fun b x e => by
  rw [upd_ne (ne_of_none e h)]
  exact e
theorem same_to {H H1 : Hp} {p : Addr} {o : HO} (s : Same H H1) (h : H p = none) : Same H (upd H1 p o) := fun b x e => by
  rw [upd_ne (ne_of_none e h)]
  exact s b x e
/-- as H but at x, new objects apart -/
def Kp (x : Addr) (H H' : Hp) : Prop := ∀ q o, q ≠ x → H q = some o → H' q = some o
theorem Kp.same {x : Addr} {H H1 H2 : Hp} (a : Kp x H H1) (b : Same H1 H2) : Kp x H H2 := fun q o hq h => b _ _ (a q o hq h)
theorem kp_of {H H' : Hp} (a : Same H H') (x : Addr) : Kp x H H' := fun q o _ h => a q o h
theorem Kp.upd {x : Addr} {H H1 : Hp} {o : HO} (a : Kp x H H1) : Kp x H (upd H1 x o) := fun q u hq h => by
  rw [upd_ne hq]
  exact a q u hq h
theorem Kp.trans {h : Addr} {H H1 H2 : Hp} (a : Kp h H H1) (b : Kp h H1 H2) : Kp h H H2 := fun q o hq e => b q o hq (a q o hq e)
theorem Kp.free {h p : Addr} {H H' : Hp} (a : Kp h H H') (hp : p ≠ h) (e : H' p = none) : H p = none := by
  cases q : H p with
  | none => rfl
  | some o =>
    rw [a p o hp q] at e
    cases e
theorem small1000 {n : Nat} (h : n < 1000) : n < sizeLine := Nat.lt_trans h (by decide)
theorem ne_of {H : Hp} {p q : Addr} {o u : HO} (hp : H p = some o) (hq : H q = some u) (h : o ≠ u) : p ≠ q := fun e => by
  rw [e, hq] at hp
  exact h (Option.some.inj hp).symm
def NT (o : HO) : Prop := ∀ ps, o ≠ .tbl ps
/-- as H but at h, tables apart -/
def Mv (h : Addr) (H H' : Hp) : Prop := ∀ q o, q ≠ h → H q = some o → NT o → H' q = some o
theorem Mv.of {h : Addr} {H H' : Hp} (k : Kp h H H') : Mv h H H' := fun q o hq e _ => k q o hq e
theorem Mv.same {h : Addr} {H H' : Hp} (k : Same H H') : Mv h H H' := fun q o _ e _ => k q o e
theorem Mv.ext {h : Addr} {H H' : Hp} (k : LamX.ExtN H H') : Mv h H H' := fun q o _ e n => k q o e n
theorem Mv.trans {h : Addr} {H H1 H2 : Hp} (a : Mv h H H1) (b : Mv h H1 H2) : Mv h H H2 := fun q o hq e n => b q o hq (a q o hq e n) n
theorem nt_lst {xs : List V} : NT (.lst xs) := fun _ z => by cases z
theorem nt_tup {xs : List V} : NT (.tup xs) := fun _ z => by cases z
theorem nt_ins {a b : Addr} {fs : List (Str × V)} : NT (.ins a b fs) := fun _ z => by cases z
theorem nt_dK {kvs : List (Key × V)} : NT (.dK kvs) := fun _ z => by cases z
/-! ### things of any sort, told as data -/
inductive Td where
  | int (i : Int) | bl (b : Bool) | non | str (s : Str) | tup (ds : List Td) | oth
mutual
/-- v tells d; what may change (the list at h) is none of it -/
inductive Is (h : Addr) (H : Hp) : V → Td → Prop
  | int (i : Int) : Is h H (.int i) (.int i)
  | bl (b : Bool) : Is h H (.bl b) (.bl b)
  | non : Is h H .non .non
  | str (s : Str) : Is h H (.str s) (.str s)
  | tup {a : Addr} {xs : List V} {ds : List Td} : H a = some (.tup xs) → IsL h H xs ds → Is h H (.ref a) (.tup ds)
  | lst {a : Addr} {xs : List V} : H a = some (.lst xs) → a ≠ h → Is h H (.ref a) .oth
  | dK {a : Addr} {kvs : List (Key × V)} : H a = some (.dK kvs) → Is h H (.ref a) .oth
inductive IsL (h : Addr) (H : Hp) : List V → List Td → Prop
  | nil : IsL h H [] []
  | cons {v : V} {d : Td} {vs : List V} {ds : List Td} : Is h H v d → IsL h H vs ds → IsL h H (v :: vs) (d :: ds)
end
section
variable {h : Addr} {H H' : Hp}
theorem Is.mv {v : V} {d : Td} (t : Is h H v d) (k : Mv h H H') (hh : ∃ ys, H h = some (.lst ys)) : Is h H' v d := by
  obtain ⟨ys, hh⟩ := hh
  refine Is.rec (motive_1 := fun v d _ => Is h H' v d) (motive_2 := fun vs ds _ => IsL h H' vs ds) (fun i => .int i) (fun b => .bl b) .non (fun s => .str s) (fun e _ ih => .tup (k _ _ (ne_of e hh (by intro z; cases z)) e nt_tup) ih)
    (fun e n => .lst (k _ _ n e nt_lst) n) (fun e => .dK (k _ _ (ne_of e hh (by intro z; cases z)) e nt_dK)) .nil (fun _ _ a b => .cons a b) t
theorem IsL.mv {vs : List V} {ds : List Td} (t : IsL h H vs ds) (k : Mv h H H') (hh : ∃ ys, H h = some (.lst ys)) : IsL h H' vs ds := by
  obtain ⟨ys, hh⟩ := hh
  refine IsL.rec (motive_1 := fun v d _ => Is h H' v d) (motive_2 := fun vs ds _ => IsL h H' vs ds) (fun i => .int i) (fun b => .bl b) .non (fun s => .str s) (fun e _ ih => .tup (k _ _ (ne_of e hh (by intro z; cases z)) e nt_tup) ih)
    (fun e n => .lst (k _ _ n e nt_lst) n) (fun e => .dK (k _ _ (ne_of e hh (by intro z; cases z)) e nt_dK)) .nil (fun _ _ a b => .cons a b) t
theorem Is.same {v : V} {d : Td} (t : Is h H v d) (s : Same H H') : Is h H' v d := by
  refine Is.rec (motive_1 := fun v d _ => Is h H' v d) (motive_2 := fun vs ds _ => IsL h H' vs ds) (fun i => .int i) (fun b => .bl b) .non (fun s => .str s) (fun e _ ih => .tup (s _ _ e) ih)
    (fun e n => .lst (s _ _ e) n) (fun e => .dK (s _ _ e)) .nil (fun _ _ a b => .cons a b) t
theorem IsL.same {v : List V} {d : List Td} (t : IsL h H v d) (s : Same H H') : IsL h H' v d := by
  refine IsL.rec (motive_1 := fun v d _ => Is h H' v d) (motive_2 := fun vs ds _ => IsL h H' vs ds) (fun i => .int i) (fun b => .bl b) .non (fun s => .str s) (fun e _ ih => .tup (s _ _ e) ih)
    (fun e n => .lst (s _ _ e) n) (fun e => .dK (s _ _ e)) .nil (fun _ _ a b => .cons a b) t
theorem IsL.len : ∀ {vs : List V} {ds : List Td}, IsL h H vs ds → vs.length = ds.length
  | _, _, .nil => rfl
  | _, _, .cons _ t => by rw [List.length_cons, List.length_cons, t.len]
theorem IsL.get : ∀ {vs : List V} {ds : List Td}, IsL h H vs ds → ∀ {i : Nat} {v : V}, vs[i]? = some v → ∃ d, ds[i]? = some d ∧ Is h H v d
  | _, _, .cons a _, 0, _, e => by
    cases e
    exact ⟨_, rfl, a⟩
  | _, _, .cons _ t, i + 1, _, e => by
    obtain ⟨d, e1, e2⟩ := t.get (i := i) e
    exact ⟨d, e1, e2⟩
theorem IsL.append : ∀ {vs us : List V} {ds es : List Td}, IsL h H vs ds → IsL h H us es → IsL h H (vs ++ us) (ds ++ es)
  | _, _, _, _, .nil, t => t
  | _, _, _, _, .cons a r, t => .cons a (r.append t)
theorem IsL.three {x y z : V} {ds : List Td} (t : IsL h H [x, y, z] ds) : ∃ a b c, ds = [a, b, c] ∧ Is h H x a ∧ Is h H y b ∧ Is h H z c := by
  cases t with
  | cons a t => cases t with
    | cons b t => cases t with
      | cons c t => cases t with
        | nil => exact ⟨_, _, _, rfl, a, b, c⟩
theorem IsL.ints : ∀ {ns : List Int}, IsL h H (ns.map V.int) (ns.map Td.int)
  | [] => .nil
  | n :: ns => .cons (.int n) IsL.ints
end
def isI : Td → Bool
  | .int _ => true
  | _ => false
def isBl : Td → Bool
  | .bl _ => true
  | _ => false
def isT : Td → Bool
  | .tup _ => true
  | _ => false
/-- an integer from lo to hi -/
def inI (lo hi : Int) : Td → Bool
  | .int i => decide (lo ≤ i) && decide (i ≤ hi)
  | _ => false
def tupN (n : Int) : Td → Bool
  | .tup ds => decide ((ds.length : Int) = n)
  | _ => false
section
variable {P : Program} {w : World} {K : PySem.W.Frag} {mg : Str → Option Value} {base : Heap} {A : Adr}
theorem kitQ {a b : String} {r r' : Bool} (h : kitB a b = some r) (e : r' = r) : PySem.W.kitOne K (.type a) (.type b) = some r' := by
  rw [e]
  exact kit_ty h
theorem is_ty (T : Top K mg A) {h : Addr} {H : Hp} {x : V} {d : Td} (t : Is h H x d) : ∃ t, TyX K H x t ∧ PySem.W.kitOne K t (.type "int") = some (isI d || isBl d) ∧ PySem.W.kitOne K t (.type "bool") = some (isBl d) ∧ PySem.W.kitOne K t (.type "tuple") = some (isT d) := by
  cases t with
  | non => exact ⟨_, .base .non, kitQ (a := "NoneType") (b := "int") (r := false) (by decide +kernel) rfl, kitQ (a := "NoneType") (b := "bool") (r := false) (by decide +kernel) rfl, kitQ (a := "NoneType") (b := "tuple") (r := false) (by decide +kernel) rfl⟩
  | bl b => exact ⟨_, .base (.bl b), kitQ (a := "bool") (b := "int") (r := true) (by decide +kernel) rfl, kitQ (a := "bool") (b := "bool") (r := true) (by decide +kernel) rfl, kitQ (a := "bool") (b := "tuple") (r := false) (by decide +kernel) rfl⟩
  | int i => exact ⟨_, .base (.int i), kitQ (a := "int") (b := "int") (r := true) (by decide +kernel) rfl, kitQ (a := "int") (b := "bool") (r := false) (by decide +kernel) rfl, kitQ (a := "int") (b := "tuple") (r := false) (by decide +kernel) rfl⟩
  | str s => exact ⟨_, .base (.str s), kitQ (a := "str") (b := "int") (r := false) (by decide +kernel) rfl, kitQ (a := "str") (b := "bool") (r := false) (by decide +kernel) rfl, kitQ (a := "str") (b := "tuple") (r := false) (by decide +kernel) rfl⟩
  | tup e l => exact ⟨_, .base (.tup e), kitQ (a := "tuple") (b := "int") (r := false) (by decide +kernel) rfl, kitQ (a := "tuple") (b := "bool") (r := false) (by decide +kernel) rfl, kitQ (a := "tuple") (b := "tuple") (r := true) (by decide +kernel) rfl⟩
  | lst e n => exact ⟨_, .base (.lst e), kitQ (a := "list") (b := "int") (r := false) (by decide +kernel) rfl, kitQ (a := "list") (b := "bool") (r := false) (by decide +kernel) rfl, kitQ (a := "list") (b := "tuple") (r := false) (by decide +kernel) rfl⟩
  | dK e => exact ⟨_, .base (.dK e), kitQ (a := "dict") (b := "int") (r := false) (by decide +kernel) rfl, kitQ (a := "dict") (b := "bool") (r := false) (by decide +kernel) rfl, kitQ (a := "dict") (b := "tuple") (r := false) (by decide +kernel) rfl⟩
theorem isT_of {h : Addr} {H : Hp} {x : V} {d : Td} (t : Is h H x d) (c : isT d = true) : ∃ a xs ds, x = .ref a ∧ d = .tup ds ∧ H a = some (.tup xs) ∧ IsL h H xs ds := by
  cases t with
  | tup e l => exact ⟨_, _, _, rfl, rfl, e, l⟩
  | _ => cases c
/-! ### what counts as an integer -/
def spIsInteger : Sp := fun vs H Q _ => ∃ x d h, vs = [x] ∧ Is h H x d ∧ Q (.bl (isI d)) H
theorem ok_is_integer (T : Top K mg A) : FnOk P w K mg base CX0 1 A.a_is_integer A.d_is_integer P_is_integer spIsInteger := by
  refine T.F_is_integer.ok sc_is_integer (fun vs H Q E h => ?_) (fun cdv A' outer s H vs Q E hr h => ?_)
  · obtain ⟨x, d, h, rfl, _⟩ := h
    rfl
  · obtain ⟨x, d, h, rfl, ht, k⟩ := h
    obtain ⟨t, ty, e1, e2, _⟩ := is_ty T ht
    refine ⟨_, (pss_one (ps_ret (pe_and (pe_callB call_isi (by rfl) T.z_isinstance (by decide +kernel) (pa_cons (pv 0) (pa_cons (pe_bltn (v := .ty "int") (by rfl) T.z_int (by decide +kernel) rfl) pa_nil))) (pe_one (pe_not (pe_callB call_isi (by rfl) T.z_isinstance (by decide +kernel) (pa_cons (pv 0) (pa_cons (pe_bltn (v := .ty "bool") (by rfl) T.z_bool (by decide +kernel) rfl) pa_nil)))))))), ?_⟩
    refine ⟨_, rfl, _, _, _, _, _, rfl, .ty "int", ty, e1, (isI d || isBl d), rfl, ?_⟩
    cases c : (isI d || isBl d) with
    | false =>
      refine iteF ?_
      have q : isI d = false := by
        cases d <;> first | rfl | cases c
      rw [q] at k
      exact k
    | true =>
      refine iteT ?_
      refine ⟨_, rfl, _, _, _, _, _, rfl, .ty "bool", ty, e2, _, rfl, ?_⟩
      have q : isI d = !isBl d := by
        cases d <;> first | rfl | cases c
      rw [q] at k
      exact k
theorem is_int {h : Addr} {H : Hp} {x : V} {d : Td} (t : Is h H x d) (c : isI d = true) : ∃ i, x = .int i ∧ d = .int i := by
  cases t with
  | int i => exact ⟨i, rfl, rfl⟩
  | _ => cases c
theorem inI_no {lo hi : Int} {d : Td} (c : isI d = false) : inI lo hi d = false := by
  cases d with
  | int i => cases c
  | _ => rfl
def spIIF : Sp := fun vs H Q _ => ∃ (lo hi : Int) (x : V) (d : Td) (h : Addr), vs = [.int lo, .int hi, x] ∧ Is h H x d ∧ Q (.bl (inI lo hi d)) H
theorem ok_is_integer_from (T : Top K mg A) : FnOk P w K mg base CX0 2 A.a_is_integer_from A.d_is_integer_from P_is_integer_from spIIF := by
  refine T.F_is_integer_from.ok sc_is_integer_from (fun vs H Q E h => ?_) (fun cdv A' outer s H vs Q E hr h => ?_)
  · obtain ⟨lo, hi, x, d, h, rfl, _⟩ := h
    rfl
  · obtain ⟨lo, hi, x, d, h, rfl, ht, k⟩ := h
    refine ⟨_, (pss_one (ps_ret (pe_and (pe_call (ok_is_integer T) (hr.mono (by decide)) (by rfl) T.g_is_integer T.F_is_integer.kp T.b_is_integer .nil pass0 (pa_cons (pv 2) pa_nil)) (pe_one (pe_chain op_le op_le (pv 0) (pv 2) (pv 1)))))), ?_⟩
    refine ⟨_, rfl, x, d, h, rfl, ht, _, rfl, ?_⟩
    cases c : isI d with
    | true =>
      obtain ⟨i, rfl, rfl⟩ := is_int ht c
      refine iteT ?_
      refine ⟨_, rfl, _, rfl, _, _, rfl, rfl, _, rfl, ?_⟩
      by_cases c : lo ≤ i
      · simp only [inI, decide_eq_true c, Bool.true_and] at k
        rw [decide_eq_true c]
        refine iteT ⟨_, rfl, _, _, rfl, rfl, k⟩
      · simp only [inI, decide_eq_false c, Bool.false_and] at k
        rw [decide_eq_false c]
        exact iteF k
    | false =>
      rw [inI_no c] at k
      exact iteF k
def spINB : Sp := fun vs H Q _ => ∃ (n : Int) (x : V) (d : Td) (h : Addr), vs = [.int n, x] ∧ Is h H x d ∧ Q (.bl (inI 0 (n - 1) d)) H
theorem ok_is_number_below (T : Top K mg A) : FnOk P w K mg base CX0 3 A.a_is_number_below A.d_is_number_below P_is_number_below spINB := by
  refine T.F_is_number_below.ok sc_is_number_below (fun vs H Q E h => ?_) (fun cdv A' outer s H vs Q E hr h => ?_)
  · obtain ⟨n, x, d, h, rfl, _⟩ := h
    rfl
  · obtain ⟨n, x, d, h, rfl, ht, k⟩ := h
    refine ⟨_, (pss_one (ps_ret (pe_call (ok_is_integer_from T) (hr.mono (by decide)) (by rfl) T.g_is_integer_from T.F_is_integer_from.kp T.b_is_integer_from .nil pass0 (pa_cons pe_int (pa_cons (pe_op op_sub (pv 0) pe_int) (pa_cons (pv 1) pa_nil)))))), ?_⟩
    exact ⟨_, rfl, _, _, rfl, rfl, _, rfl, _, _, _, _, _, rfl, ht, k⟩
theorem tupN_no {n : Int} {d : Td} (c : isT d = false) : tupN n d = false := by
  cases d with
  | tup i => cases c
  | _ => rfl
def spITO : Sp := fun vs H Q _ => ∃ (n : Int) (x : V) (d : Td) (h : Addr), vs = [.int n, x] ∧ Is h H x d ∧ Q (.bl (tupN n d)) H
theorem ok_is_tuple_of (T : Top K mg A) : FnOk P w K mg base CX0 1 A.a_is_tuple_of A.d_is_tuple_of P_is_tuple_of spITO := by
  refine T.F_is_tuple_of.ok sc_is_tuple_of (fun vs H Q E h => ?_) (fun cdv A' outer s H vs Q E hr h => ?_)
  · obtain ⟨n, x, d, h, rfl, _⟩ := h
    rfl
  · obtain ⟨n, x, d, h, rfl, ht, k⟩ := h
    obtain ⟨t, ty, _, _, e3⟩ := is_ty T ht
    refine ⟨_, (pss_one (ps_ret (pe_and (pe_callB call_isi (by rfl) T.z_isinstance (by decide +kernel) (pa_cons (pv 1) (pa_cons (pe_bltn (v := .ty "tuple") (by rfl) T.z_tuple (by decide +kernel) rfl) pa_nil))) (pe_one (pe_cmpR op_eq (pe_callB call_len_seq (by rfl) T.z_len (by decide +kernel) (pa_cons (pv 1) pa_nil)) (pv 0) (nomark _)))))), ?_⟩
    refine ⟨_, rfl, _, _, _, _, _, rfl, .ty "tuple", ty, e3, _, rfl, ?_⟩
    cases c : isT d with
    | false =>
      rw [tupN_no c] at k
      exact iteF k
    | true =>
      obtain ⟨a, xs, ds, rfl, rfl, ha, hl⟩ := isT_of ht c
      refine iteT ?_
      refine ⟨_, rfl, _, _, rfl, .inr (SqT.of ha), _, rfl, rfl, ?_⟩
      rw [dec_int, hl.len]
      exact k
end

/-! ### what many laws want -/
/-- one by one -/
inductive All2 {α β : Type} (R : α → β → Prop) : List α → List β → Prop where
  | nil : All2 R [] []
  | cons {a : α} {b : β} {as : List α} {bs : List β} : R a b → All2 R as bs → All2 R (a :: as) (b :: bs)
section
variable {α β : Type} {R R' : α → β → Prop}
theorem All2.imp (f : ∀ a b, R a b → R' a b) : ∀ {as : List α} {bs : List β}, All2 R as bs → All2 R' as bs
  | _, _, .nil => .nil
  | _, _, .cons h t => .cons (f _ _ h) (t.imp f)
theorem All2.snoc : ∀ {as : List α} {bs : List β} {a : α} {b : β}, All2 R as bs → R a b → All2 R (as ++ [a]) (bs ++ [b])
  | _, _, _, _, .nil, h => .cons h .nil
  | _, _, _, _, .cons h t, h' => .cons h (t.snoc h')
theorem All2.len : ∀ {as : List α} {bs : List β}, All2 R as bs → as.length = bs.length
  | _, _, .nil => rfl
  | _, _, .cons _ t => by rw [List.length_cons, List.length_cons, t.len]
theorem All2.get : ∀ {as : List α} {bs : List β}, All2 R as bs → ∀ {i : Nat} {b : β}, bs[i]? = some b → ∃ a, as[i]? = some a ∧ R a b
  | _, _, .cons h _, 0, _, e => by
    cases e
    exact ⟨_, rfl, h⟩
  | _, _, .cons _ t, i + 1, _, e => t.get (i := i) e
theorem All2.getL : ∀ {as : List α} {bs : List β}, All2 R as bs → ∀ {i : Nat} {a : α}, as[i]? = some a → ∃ b, bs[i]? = some b ∧ R a b
  | _, _, .cons h _, 0, _, e => by
    cases e
    exact ⟨_, rfl, h⟩
  | _, _, .cons _ t, i + 1, _, e => t.getL (i := i) e
theorem All2.take : ∀ {as : List α} {bs : List β}, All2 R as bs → ∀ n : Nat, All2 R (as.take n) (bs.take n)
  | _, _, _, 0 => .nil
  | _, _, .nil, _ + 1 => .nil
  | _, _, .cons h t, n + 1 => .cons h (t.take n)
theorem All2.drop : ∀ {as : List α} {bs : List β}, All2 R as bs → ∀ n : Nat, All2 R (as.drop n) (bs.drop n)
  | _, _, h, 0 => h
  | _, _, .nil, _ + 1 => .nil
  | _, _, .cons _ t, n + 1 => t.drop n
theorem All2.mem : ∀ {as : List α} {bs : List β}, All2 R as bs → ∀ {b : β}, b ∈ bs → ∃ a ∈ as, R a b
  | _, _, .cons h t, b, m => by
    rcases List.mem_cons.mp m with e | m
    · subst e
      exact ⟨_, List.mem_cons_self, h⟩
    · obtain ⟨a, h1, h2⟩ := t.mem m
      exact ⟨a, List.mem_cons_of_mem _ h1, h2⟩
theorem All2.append : ∀ {as : List α} {bs : List β} {as' : List α} {bs' : List β}, All2 R as bs → All2 R as' bs' → All2 R (as ++ as') (bs ++ bs')
  | _, _, _, _, .nil, h => h
  | _, _, _, _, .cons h t, h' => .cons h (t.append h')
end
/-! ### comprehensions whose items are known -/
def LP (H : Hp) (D : Addr) (vals : List V) (i : Nat) (H' : Hp) : Prop := Same H H' ∧ H' D = some (.lst (vals.take i))
theorem LP.start {H : Hp} {D : Addr} {vals : List V} (nD : H D = none) : LP H D vals 0 (upd H D (.lst [])) := ⟨same_upd nD, upd_same⟩
theorem lcPut {H0 H1 H4 : Hp} {D : Addr} {vals : List V} {i : Nat} {y : V} (nD : H0 D = none) (p : LP H0 D vals i H1) (s : Same H1 H4) (hy : vals[i]? = some y) (few : vals.length ≤ 100000) :
    ∃ acc, H4 D = some (.lst acc) ∧ acc.length < sizeLine ∧ LP H0 D vals (i + 1) (upd H4 D (.lst (acc ++ [y]))) := by
  refine ⟨_, s _ _ p.2, ?_, same_to (p.1.trans s) nD, ?_⟩
  · rw [List.length_take]
    exact Nat.lt_of_le_of_lt (Nat.le_trans (Nat.min_le_right _ _) few) (by decide)
  · rw [upd_same, List.take_add_one, hy]
    rfl
theorem map_at {α β : Type} {f : α → β} {l : List α} {i : Nat} {x : α} (h : l[i]? = some x) : (l.map f)[i]? = some (f x) := by
  rw [List.getElem?_map, h]
  rfl
theorem take_all {α : Type} {l : List α} {n : Nat} (h : n = l.length) : l.take n = l := List.take_of_length_le (by omega)
/-- a new object -/
theorem newS {H : Hp} {o : HO} {Q : VK} (k : ∀ (H' : Hp) (p : Addr), H p = none → Same H H' → H' p = some o → Q (.ref p) H') : ∀ p, H p = none → Q (.ref p) (upd H p o) := fun p n => k _ p n (same_upd n) upd_same
theorem lay_all : ∀ {ds : List PyData}, (∀ x ∈ ds, PyData.canLay0 x = true) → PyData.canLayAll0 ds = true
  | [], _ => rfl
  | x :: ds, h => by
    show (PyData.canLay0 x && PyData.canLayAll0 ds) = true
    rw [h x List.mem_cons_self, lay_all fun y hy => h y (List.mem_cons_of_mem _ hy)]
    rfl
theorem dep_all {n : Nat} : ∀ {ds : List PyData}, (∀ x ∈ ds, PyData.depth x ≤ n) → PyData.depthAll ds ≤ n
  | [], _ => Nat.zero_le _
  | x :: ds, h => by
    show max (PyData.depth x) (PyData.depthAll ds) ≤ n
    exact Nat.max_le.mpr ⟨h x List.mem_cons_self, dep_all fun y hy => h y (List.mem_cons_of_mem _ hy)⟩
/-- data that may be laid, of a depth -/
structure Lay (d : PyData) (n : Nat) : Prop where
  lay : d.canLay0 = true
  dep : d.depth ≤ n
theorem Lay.sh {d : PyData} {n : Nat} (h : Lay d n) (hn : n ≤ 64) : SeqAt.shaped d = true := by
  unfold SeqAt.shaped
  rw [h.lay, decide_eq_true (Nat.le_trans h.dep hn)]
  rfl
theorem Lay.int (i : Int) : Lay (.int i) 0 := ⟨rfl, Nat.le_refl _⟩
theorem Lay.tup {ds : List PyData} {n : Nat} (h : ∀ x ∈ ds, Lay x n) : Lay (.tuple ds) (n + 1) := ⟨lay_all fun x hx => (h x hx).lay, Nat.succ_le_succ (dep_all fun x hx => (h x hx).dep)⟩
theorem Lay.lst {ds : List PyData} {n : Nat} (h : ∀ x ∈ ds, Lay x n) : Lay (.list ds) (n + 1) := ⟨lay_all fun x hx => (h x hx).lay, Nat.succ_le_succ (dep_all fun x hx => (h x hx).dep)⟩
theorem Lay.mono {d : PyData} {n m : Nat} (h : Lay d n) (hm : n ≤ m) : Lay d m := ⟨h.lay, Nat.le_trans h.dep hm⟩
theorem dpAll_of {α : Type} {K : PySem.W.Frag} {H : Hp} {R : α → V → Prop} {f : α → PyData} (g : ∀ a v, R a v → Dp K H v (f a)) : ∀ {as : List α} {vs : List V}, All2 R as vs → DpAll K H vs (as.map f)
  | _, _, .nil => .nil
  | _, _, .cons h t => .cons (g _ _ h) (dpAll_of g t)
theorem eqv_int {i j : Int} : PyData.eqv (.int i) (.int j) = decide (i = j) := by
  show (i == j) = decide (i = j)
  by_cases h : i = j <;> simp [h]
theorem eqvAll_map {α : Type} [DecidableEq α] {f : α → PyData} (h : ∀ a b, PyData.eqv (f a) (f b) = decide (a = b)) : ∀ as bs : List α, PyData.eqvAll (as.map f) (bs.map f) = decide (as = bs)
  | [], [] => rfl
  | [], _ :: _ => rfl
  | _ :: _, [] => rfl
  | a :: as, b :: bs => by
    show (PyData.eqv (f a) (f b) && PyData.eqvAll (as.map f) (bs.map f)) = _
    rw [h, eqvAll_map h as bs]
    by_cases h1 : a = b <;> by_cases h2 : as = bs <;> simp [h1, h2]
def intsD (ns : List Int) : List PyData := ns.map PyData.int
theorem eqv_ints (ns ms : List Int) : PyData.eqv (.list (intsD ns)) (.list (intsD ms)) = decide (ns = ms) := eqvAll_map (fun _ _ => eqv_int) ns ms
theorem eqv_intsT (ns ms : List Int) : PyData.eqv (.tuple (intsD ns)) (.tuple (intsD ms)) = decide (ns = ms) := eqvAll_map (fun _ _ => eqv_int) ns ms
theorem dp_ints {K : PySem.W.Frag} {H : Hp} : ∀ {ns : List Int}, DpAll K H (ns.map V.int) (intsD ns)
  | [] => .nil
  | n :: _ => .cons (.int n) dp_ints
theorem lay_intsL (ns : List Int) : Lay (.list (intsD ns)) 1 := Lay.lst fun x hx => by
  obtain ⟨i, _, rfl⟩ := List.mem_map.mp hx
  exact Lay.int i
theorem lay_intsT (ns : List Int) : Lay (.tuple (intsD ns)) 1 := Lay.tup fun x hx => by
  obtain ⟨i, _, rfl⟩ := List.mem_map.mp hx
  exact Lay.int i
def matD (m : List (List Int)) : PyData := .tuple (m.map fun r => .tuple (intsD r))
theorem eqv_mat (a b : List (List Int)) : PyData.eqv (matD a) (matD b) = decide (a = b) := eqvAll_map (f := fun r => .tuple (intsD r)) eqv_intsT a b
theorem lay_mat (a : List (List Int)) : Lay (matD a) 2 := Lay.tup fun x hx => by
  obtain ⟨r, _, rfl⟩ := List.mem_map.mp hx
  exact lay_intsT r
theorem ixN_at {n j : Nat} (h : j < n) : ixN n (j : Int) = some j := by
  unfold ixN
  rw [if_pos (by omega), if_pos (by omega), Int.toNat_natCast]
theorem flat_len {α : Type} {m : Nat} : ∀ {l : List (List α)}, (∀ r ∈ l, r.length ≤ m) → l.flatten.length ≤ l.length * m
  | [], _ => by simp
  | r :: l, h => by
    rw [List.flatten_cons, List.length_append, List.length_cons, Nat.add_mul, Nat.one_mul]
    have h1 := h r List.mem_cons_self
    have h2 := flat_len (l := l) fun x hx => h x (List.mem_cons_of_mem _ hx)
    omega
theorem take_flat {α : Type} {l : List (List α)} {i : Nat} {r : List α} (h : l[i]? = some r) : (l.take (i + 1)).flatten = (l.take i).flatten ++ r := by
  rw [List.take_add_one, h, List.flatten_append]
  congr 1
  show [r].flatten = r
  rw [List.flatten_cons, List.flatten_nil, List.append_nil]
theorem take_flat_le {α : Type} {l : List (List α)} (n : Nat) : ((l.take n).flatten).length ≤ l.flatten.length := by
  conv => rhs; rw [← List.take_append_drop n l, List.flatten_append, List.length_append]
  omega
theorem newH {H : Hp} {p : Addr} {o : HO} (n : H p = none) : ∃ H', upd H p o = H' ∧ Same H H' ∧ H' p = some o := ⟨_, rfl, same_upd n, upd_same⟩
theorem sl_at {H : Hp} {K : PySem.W.Frag} {b : Addr} {us : List V} {lo hi : Option Int} {Q : VK} (e : H b = some (.tup us)) (q : ∀ H' p, Same H H' → H' p = some (.tup (cutV us lo hi)) → Q (.ref p) H') : rSlA K (.ref b) lo hi H Q := by
  refine ⟨b, us, rfl, SqT.of e, fun ⟨z1, z2⟩ => q _ _ (fun _ _ z => z) ?_, fun _ p np => q _ _ (same_upd np) upd_same⟩
  rw [e]
  unfold cutV
  rw [z1, z2, List.drop_zero, Nat.sub_zero, List.take_length]
/-! ### matchings: (line, output, place) -/
theorem cut_one {xs : List V} : cutV xs (some (1 : Int)) none = xs.drop 1 := by
  cases xs with
  | nil => rfl
  | cons y r =>
    show cutV (y :: r) (some ((1 : Nat) : Int)) none = _
    unfold cutV
    rw [HT.sIx_none, HT.sIx_nat, Nat.min_eq_left (by rw [List.length_cons]; omega)]
    exact List.take_of_length_le (by rw [List.length_drop]; exact Nat.le_refl _)
theorem cat_at {H : Hp} {K : PySem.W.Frag} {a b : Addr} {xs ys : List V} {Q : VK} (e1 : H a = some (.tup xs)) (e2 : H b = some (.tup ys)) (l : xs.length + ys.length ≤ 1000) (q : ∀ H' p, Same H H' → H' p = some (.tup (xs ++ ys)) → Q (.ref p) H') : rCatA K (.ref a) (.ref b) H Q := by
  refine ⟨a, b, xs, ys, rfl, rfl, SqT.of e1, SqT.of e2, Nat.le_trans l (by decide), fun z => ?_, fun _ z => ?_, fun _ _ p np => q _ p (same_upd np) upd_same⟩
  · subst z
    exact q H b (fun _ _ e => e) e2
  · subst z
    exact q H a (fun _ _ e => e) (by rw [List.append_nil]; exact e1)
theorem cut_to {xs : List V} {n : Nat} (h : n ≤ xs.length) : cutV xs none (some (n : Int)) = xs.take n := by
  unfold cutV
  rw [HT.sIx_none, HT.sIx_nat, Nat.min_eq_left h]
  rfl
theorem cut_from {xs : List V} {n : Nat} (h : n ≤ xs.length) : cutV xs (some (n : Int)) none = xs.drop n := by
  unfold cutV
  rw [HT.sIx_none, HT.sIx_nat, Nat.min_eq_left h]
  exact List.take_of_length_le (by rw [List.length_drop]; exact Nat.le_refl _)

section
variable {P : Program} {w : World} {K : PySem.W.Frag} {mg : Str → Option Value} {base : Heap} {A : Adr}
/-! ### the deck: a list of five, [the script's numbers, place, rest, turns, seed] -/
def deckO (g : Addr) (i m t s : Int) : HO := .lst [.ref g, .int i, .int m, .int t, .int s]
structure DeckAt (H : Hp) (h g : Addr) : Prop where
  cells : ∃ ns : List Int, H g = some (.lst (ns.map V.int))
  five : ∃ i m t s, H h = some (deckO g i m t s) ∧ 0 ≤ i
  ne : h ≠ g
def But (h : Addr) (H H' : Hp) : Prop := ∀ b, b ≠ h → H' b = H b
theorem But.upd {h : Addr} {H : Hp} {o : HO} : But h H (upd H h o) := fun _ hb => upd_ne hb
theorem But.trans {h : Addr} {H H1 H2 : Hp} (a : But h H H1) (b : But h H1 H2) : But h H H2 := fun c hc => (b c hc).trans (a c hc)
theorem But.refl (h : Addr) (H : Hp) : But h H H := fun _ _ => rfl
theorem But.mv {h : Addr} {H H' : Hp} (b : But h H H') : Mv h H H' := fun q o hq e _ => (b q hq).trans e
theorem deck_upd {H : Hp} {h g : Addr} (a : DeckAt H h g) {i m t s : Int} (hi : 0 ≤ i) : DeckAt (upd H h (deckO g i m t s)) h g :=
  ⟨by
    obtain ⟨ns, e⟩ := a.cells
    exact ⟨ns, by rw [upd_ne a.ne.symm]; exact e⟩, ⟨i, m, t, s, upd_same, hi⟩, a.ne⟩
theorem DeckAt.same {H H' : Hp} {h g : Addr} (a : DeckAt H h g) (s : Same H H') : DeckAt H' h g :=
  ⟨let ⟨ns, e⟩ := a.cells; ⟨ns, s _ _ e⟩, let ⟨i, m, t, sd, e, hi⟩ := a.five; ⟨i, m, t, sd, s _ _ e, hi⟩, a.ne⟩
theorem DeckAt.lst {H : Hp} {h g : Addr} (a : DeckAt H h g) : ∃ ys, H h = some (.lst ys) := let ⟨_, _, _, _, e, _⟩ := a.five; ⟨_, e⟩
def spMixed : Sp := fun vs H Q _ => ∃ c t : Int, vs = [.int c, .int t] ∧ ∀ z : Int, Q (.int z) H
theorem ok_law_mixed (T : Top K mg A) : FnOk P w K mg base CX0 1 A.a_law_mixed A.d_law_mixed P_law_mixed spMixed := by
  refine T.F_law_mixed.ok sc_law_mixed (fun vs H Q E h => ?_) (fun cdv A' outer s H vs Q E hr h => ?_)
  · obtain ⟨c, t, rfl, _⟩ := h
    rfl
  · obtain ⟨c, t, rfl, k⟩ := h
    refine ⟨_, (pss_cons (ps_set (i := 2) sc_law_mixed.nd rfl (.inl rfl) (pe_op op_mod (pe_op op_mul (pe_callTy call_int1 (by rfl) T.z_int (by decide +kernel) (pa_cons (pe_op op_add (pe_op op_add (pv 0) (pe_op op_mul pe_int (pv 1))) pe_int) pa_nil)) pe_int) pe_int))
    (pss_cons (ps_set (i := 2) sc_law_mixed.nd rfl (.inl rfl) (pe_op op_mod (pe_callTy call_int1 (by rfl) T.z_int (by decide +kernel) (pa_cons (pe_op op_mul (pv 2) (pe_op op_add (pe_op op_fdiv (pv 2) pe_int) pe_int)) pa_nil)) pe_int))
    (pss_cons (ps_set (i := 2) sc_law_mixed.nd rfl (.inl rfl) (pe_op op_mod (pe_callTy call_int1 (by rfl) T.z_int (by decide +kernel) (pa_cons (pe_op op_mul (pv 2) (pe_op op_add (pe_op op_add (pe_op op_fdiv (pv 2) pe_int) pe_int) (pv 1))) pa_nil)) pe_int))
    (pss_one (ps_ret (pe_op op_fdiv (pv 2) pe_int)))))), ?_⟩
    refine ⟨_, rfl, _, rfl, _, _, rfl, rfl, .inl ⟨by decide, by decide⟩, _, _, rfl, rfl, _, _, rfl, rfl, .inl ⟨_, rfl, _, _, rfl, rfl, .inr ⟨by decide, by decide⟩, _, _, rfl, rfl, (by show (0 : Int) < 2147483647; decide), ?_⟩⟩
    generalize hz : (c + 7919 * t + 1) * 48271 = z0
    have m0 := Int.emod_nonneg z0 (show (2147483647 : Int) ≠ 0 by decide)
    have m1 := Int.emod_lt_of_pos z0 (show (0 : Int) < 2147483647 by decide)
    generalize z0 % 2147483647 = x1 at m0 m1 ⊢
    refine ⟨_, rfl, _, rfl, _, _, rfl, rfl, ⟨by decide, by decide⟩, _, _, rfl, rfl, _, _, rfl, rfl, .inl ⟨by omega, by omega⟩, .inl ⟨_, rfl, _, _, rfl, rfl, (by show (0 : Int) < 2147483647; decide), ?_⟩⟩
    have m2 := Int.emod_nonneg (x1 * (x1 / 1009 + 69621)) (show (2147483647 : Int) ≠ 0 by decide)
    have m3 := Int.emod_lt_of_pos (x1 * (x1 / 1009 + 69621)) (show (0 : Int) < 2147483647 by decide)
    generalize x1 * (x1 / 1009 + 69621) % 2147483647 = x2 at m2 m3 ⊢
    refine ⟨_, rfl, _, rfl, _, _, rfl, rfl, ⟨by decide, by decide⟩, _, _, rfl, rfl, _, rfl, _, _, rfl, rfl, _, _, rfl, rfl, .inl ⟨by omega, by omega⟩, .inl ⟨_, rfl, _, _, rfl, rfl, (by show (0 : Int) < 2147483399; decide), ?_⟩⟩
    exact ⟨_, rfl, _, _, rfl, rfl, ⟨by decide, by decide⟩, k _⟩
def spDraw : Sp := fun vs H Q _ => ∃ (h g : Addr) (n : Int), vs = [.ref h, .int n] ∧ DeckAt H h g ∧ 0 < n ∧ n < 1073741824 ∧ ∀ (H' : Hp) (d : Int), But h H H' → DeckAt H' h g → 0 ≤ d → d < n → Q (.int d) H'
theorem ok_law_draw (T : Top K mg A) : FnOk P w K mg base CX0 2 A.a_law_draw A.d_law_draw P_law_draw spDraw := by
  refine T.F_law_draw.ok sc_law_draw (fun vs H Q E h => ?_) (fun cdv A' outer s H vs Q E hr h => ?_)
  · obtain ⟨h, g, n, rfl, _⟩ := h
    rfl
  · obtain ⟨h, g, n, rfl, ha, hn, hn2, k⟩ := h
    obtain ⟨ns, eg⟩ := ha.cells
    obtain ⟨i, m, t, sd, eh, hi⟩ := ha.five
    have hne := ha.ne
    refine ⟨_, (pss_cons (ps_asg (pe_op op_add (pe_ix ix_list (pv 0) pe_int (fun _ _ => rfl)) pe_int) (pg_sub (pv 0) pe_int set_list))
    (Evl.pss_cut (ps_if (PW.pt (pw_and (pt_cmpR op_eq (pe_ix ix_list (pv 0) pe_int (fun _ _ => rfl)) pe_int (nomark _)) (pw_and1 (pt_cmpR op_lt (pe_ix ix_list (pv 0) pe_int (fun _ _ => rfl)) (pe_callB call_len_seq (by rfl) T.z_len (by decide +kernel) (pa_cons (pe_ix ix_list (pv 0) pe_int (fun _ _ => rfl)) pa_nil)) (nomark _))))) (pss_cons (ps_set (i := 2) sc_law_draw.nd rfl (.inl rfl) (pe_ix ix_list (pe_ix ix_list (pv 0) pe_int (fun _ _ => rfl)) (pe_ix ix_list (pv 0) pe_int (fun _ _ => rfl)) (fun _ _ => rfl)))
    (pss_cons (ps_asg (pe_op op_add (pe_ix ix_list (pv 0) pe_int (fun _ _ => rfl)) pe_int) (pg_sub (pv 0) pe_int set_list))
    (pss_cons (ps_if (pt_chain op_lt op_lt (pe_un un_neg (pe_op op_pow pe_int pe_int)) (pv 2) (pe_op op_pow pe_int pe_int)) (pss_one (ps_ret (pe_op op_mod (pe_callTy call_int1 (by rfl) T.z_int (by decide +kernel) (pa_cons (pe_call (ok_law_mixed T) (hr.mono (by decide)) (by rfl) T.g_law_mixed T.F_law_mixed.kp T.b_law_mixed .nil pass0 (pa_cons (pv 2) (pa_cons (pe_ix ix_list (pv 0) pe_int (fun _ _ => rfl)) pa_nil))) pa_nil)) (pv 1)))) pss_nil)
    (pss_one (ps_asg (pe_callB call_abs (by rfl) T.z_abs (by decide +kernel) (pa_cons (pv 2) pa_nil)) (pg_sub (pv 0) pe_int set_list)))))) pss_nil)
    (pss_cons (ps_if (pt_cmpR op_gt (pe_ix ix_list (pv 0) pe_int (fun _ _ => rfl)) pe_int (nomark _)) (pss_cons (ps_set (i := 3) sc_law_draw.nd rfl (.inl rfl) (pe_op op_mod (pe_callTy call_int1 (by rfl) T.z_int (by decide +kernel) (pa_cons (pe_ix ix_list (pv 0) pe_int (fun _ _ => rfl)) pa_nil)) (pv 1)))
    (pss_cons (ps_asg (pe_op op_fdiv (pe_ix ix_list (pv 0) pe_int (fun _ _ => rfl)) (pv 1)) (pg_sub (pv 0) pe_int set_list))
    (pss_one (ps_ret (pv 3))))) pss_nil)
    (pss_one (ps_ret (pe_op op_mod (pe_callTy call_int1 (by rfl) T.z_int (by decide +kernel) (pa_cons (pe_call (ok_law_mixed T) (hr.mono (by decide)) (by rfl) T.g_law_mixed T.F_law_mixed.kp T.b_law_mixed .nil pass0 (pa_cons (pe_ix ix_list (pv 0) pe_int (fun _ _ => rfl)) (pa_cons (pe_ix ix_list (pv 0) pe_int (fun _ _ => rfl)) pa_nil))) pa_nil)) (pv 1))))))), ?_⟩
    refine ⟨_, rfl, h, _, 3, _, rfl, rfl, SqL.of eh, atI_nat (j := 3) rfl, _, _, rfl, rfl, _, rfl, h, _, _, 3, rfl, rfl, eh, rfl, ?_⟩
    have eh1 : (upd H h (deckO g i m (t + 1) sd)) h = some (deckO g i m (t + 1) sd) := upd_same
    have h1 : DeckAt (upd H h (deckO g i m (t + 1) sd)) h g := deck_upd ha hi
    have eg1 : (upd H h (deckO g i m (t + 1) sd)) g = some (.lst (ns.map V.int)) := by rw [upd_ne hne.symm]; exact eg
    have b1 : But h H (upd H h (deckO g i m (t + 1) sd)) := But.upd
    refine ⟨fun σ' H' => ∃ y2, σ' = [some (.ref h), some (.int n), y2, none] ∧ But h H H' ∧ DeckAt H' h g, ?_, ?_⟩
    · have stay : ∃ y2, ([some (.ref h), some (.int n), none, none] : L2.St) = [some (.ref h), some (.int n), y2, none] ∧ But h H (upd H h (deckO g i m (t + 1) sd)) ∧ DeckAt (upd H h (deckO g i m (t + 1) sd)) h g := ⟨none, rfl, b1, h1⟩
      refine ⟨_, rfl, h, _, 2, _, rfl, rfl, SqL.of eh1, atI_nat (j := 2) rfl, rfl, _, rfl, ite2 (fun c1 => ?_) (fun _ => iteF stay)⟩
      refine ⟨_, rfl, h, _, 1, _, rfl, rfl, SqL.of eh1, atI_nat (j := 1) rfl, _, rfl, h, _, 0, _, rfl, rfl, SqL.of eh1, atI_nat (j := 0) rfl, g, _, rfl, .inl (SqL.of eg1), _, _, rfl, rfl, _, rfl, ite2 (fun c2 => ?_) (fun _ => stay)⟩
      have c3 : i < (ns.length : Int) := by
        have q := of_decide_eq_true c2
        rw [List.length_map] at q
        exact q
      have hj : i.toNat < ns.length := by omega
      have ej : (ns.map V.int)[i.toNat]? = some (.int ns[i.toNat]) := by
        rw [List.getElem?_map, List.getElem?_eq_getElem hj]
        rfl
      refine ⟨_, rfl, h, _, 0, _, rfl, rfl, SqL.of eh1, atI_nat (j := 0) rfl, _, rfl, h, _, 1, _, rfl, rfl, SqL.of eh1, atI_nat (j := 1) rfl, g, _, i, _, rfl, rfl, SqL.of eg1, at_of (by omega) ej, ?_⟩
      refine ⟨_, rfl, h, _, 1, _, rfl, rfl, SqL.of eh1, atI_nat (j := 1) rfl, i, 1, rfl, rfl, _, rfl, h, _, _, 1, rfl, rfl, eh1, rfl, ?_⟩
      have eh2 : (upd (upd H h (deckO g i m (t + 1) sd)) h (deckO g (i + 1) m (t + 1) sd)) h = some (deckO g (i + 1) m (t + 1) sd) := upd_same
      have h2 : DeckAt (upd (upd H h (deckO g i m (t + 1) sd)) h (deckO g (i + 1) m (t + 1) sd)) h g := deck_upd h1 (by omega)
      have b2 : But h H (upd (upd H h (deckO g i m (t + 1) sd)) h (deckO g (i + 1) m (t + 1) sd)) := b1.trans But.upd
      have last : ∃ y2, ([some (.ref h), some (.int n), some (.int ns[i.toNat]), none] : L2.St) = [some (.ref h), some (.int n), y2, none] ∧ But h H (upd (upd (upd H h (deckO g i m (t + 1) sd)) h (deckO g (i + 1) m (t + 1) sd)) h (deckO g (i + 1) (if ns[i.toNat] < 0 then -ns[i.toNat] else ns[i.toNat]) (t + 1) sd)) ∧ DeckAt (upd (upd (upd H h (deckO g i m (t + 1) sd)) h (deckO g (i + 1) m (t + 1) sd)) h (deckO g (i + 1) (if ns[i.toNat] < 0 then -ns[i.toNat] else ns[i.toNat]) (t + 1) sd)) h g := ⟨_, rfl, b2.trans But.upd, deck_upd h2 (by omega)⟩
      refine ⟨10, 18, rfl, rfl, ⟨by decide, by decide, by decide⟩, _, rfl, _, rfl, _, _, rfl, rfl, _, rfl, ite2 (fun _ => ?_) (fun _ => ?_)⟩
      · refine ⟨10, 18, rfl, rfl, ⟨by decide, by decide, by decide⟩, _, _, rfl, rfl, _, rfl, ite2 (fun _ => ?_) (fun _ => ?_)⟩
        · refine ⟨_, rfl, _, rfl, h, _, 3, _, rfl, rfl, SqL.of eh2, atI_nat (j := 3) rfl, _, _, rfl, fun z => .inl ⟨_, rfl, _, rfl, _, _, rfl, rfl, hn, ?_⟩⟩
          exact k _ _ b2 h2 (Int.emod_nonneg _ (by omega)) (Int.emod_lt_of_pos _ hn)
        · exact ⟨_, rfl, _, rfl, _, rfl, h, _, _, 2, rfl, rfl, eh2, rfl, last⟩
      · exact ⟨_, rfl, iteF ⟨_, rfl, _, rfl, _, rfl, h, _, _, 2, rfl, rfl, eh2, rfl, last⟩⟩
    · rintro σ' H1 ⟨y2, rfl, b1, h1⟩
      obtain ⟨i, m, t, sd, eh, hi⟩ := h1.five
      refine ⟨_, rfl, h, _, 2, _, rfl, rfl, SqL.of eh, atI_nat (j := 2) rfl, _, _, rfl, rfl, _, rfl, ite2 (fun c => ?_) (fun _ => ?_)⟩
      · refine ⟨_, rfl, h, _, 2, _, rfl, rfl, SqL.of eh, atI_nat (j := 2) rfl, .inl ⟨_, rfl, _, rfl, _, _, rfl, rfl, hn, ?_⟩⟩
        refine ⟨_, rfl, h, _, 2, _, rfl, rfl, SqL.of eh, atI_nat (j := 2) rfl, _, rfl, _, _, rfl, rfl, ⟨hn, hn2⟩, _, rfl, h, _, _, 2, rfl, rfl, eh, rfl, ?_⟩
        exact ⟨_, rfl, k _ _ (b1.trans But.upd) (deck_upd h1 hi) (Int.emod_nonneg _ (by omega)) (Int.emod_lt_of_pos _ hn)⟩
      · refine ⟨_, rfl, h, _, 4, _, rfl, rfl, SqL.of eh, atI_nat (j := 4) rfl, _, rfl, h, _, 3, _, rfl, rfl, SqL.of eh, atI_nat (j := 3) rfl, _, _, rfl, fun z => .inl ⟨_, rfl, _, rfl, _, _, rfl, rfl, hn, ?_⟩⟩
        exact k _ _ b1 h1 (Int.emod_nonneg _ (by omega)) (Int.emod_lt_of_pos _ hn)
def spDeck (K : PySem.W.Frag) : Sp := fun vs H Q _ => ∃ (a : Addr) (ns : List Int), vs = [.ref a] ∧ SqL K H a (ns.map V.int) ∧ ∀ (H' : Hp) (h g : Addr), Same H H' → H h = none → H g = none → DeckAt H' h g → Q (.ref h) H'
theorem ok_law_deck (T : Top K mg A) : FnOk P w K mg base CX0 1 A.a_law_deck A.d_law_deck P_law_deck (spDeck K) := by
  refine T.F_law_deck.ok sc_law_deck (fun vs H Q E h => ?_) (fun cdv A' outer s H vs Q E hr h => ?_)
  · obtain ⟨a, ns, rfl, _⟩ := h
    rfl
  · obtain ⟨a, ns, rfl, ha, k⟩ := h
    refine ⟨_, (pss_cons (ps_set (i := 1) sc_law_deck.nd rfl (.inl rfl) pe_int)
    (pss_cons (ps_for PassesOwn.never rfl (pi_list (pv 0)) (pg_name (i := 2) sc_law_deck.nd rfl (.inl rfl)) (pss_one (ps_set (i := 1) sc_law_deck.nd rfl (.inl rfl) (pe_op op_mod (pe_callTy call_int1 (by rfl) T.z_int (by decide +kernel) (pa_cons (pe_op op_add (pe_op op_mul (pv 1) pe_int) (pv 2)) pa_nil)) pe_int))))
    (pss_one (ps_ret (pe_lst (pa_cons (pe_callTy call_list_of (by rfl) T.z_list (by decide +kernel) (pa_cons (pv 0) pa_nil)) (pa_cons pe_int (pa_cons pe_int (pa_cons pe_int (pa_cons (pv 1) pa_nil)))))))))), ?_⟩
    refine ⟨_, rfl, a, rfl, ⟨_, ha⟩, for_list (K := K) (a := a) (xs := ns.map V.int) (fun i σ H' => ∃ (s : Int) (y2 : Option V), σ = [some (.ref a), some (.int s), y2] ∧ H' = H) ⟨1, _, rfl, rfl⟩ (fun i σ H' _ ⟨_, _, _, e⟩ => by rw [e]; exact ha) ?_ ?_⟩
    · rintro i x σ H' hx ⟨s, y2, rfl, rfl⟩
      rw [List.getElem?_map] at hx
      obtain ⟨n, hn, rfl⟩ := Option.map_eq_some_iff.mp hx
      refine ⟨_, rfl, _, _, rfl, rfl, .inr ⟨by decide, by decide⟩, _, rfl, _, _, rfl, rfl, .inl ⟨_, rfl, _, _, rfl, rfl, (by show (0 : Int) < 998244353; decide), ?_⟩⟩
      exact ⟨_, _, rfl, rfl⟩
    · rintro σ H' ⟨s, y2, rfl, rfl⟩
      refine ⟨_, rfl, a, _, rfl, .inl ha, fun g ng => ⟨_, rfl, by show 5 ≤ sizeLine; decide, fun h nh => ?_⟩⟩
      have hg : h ≠ g := fun e => by
        rw [e, upd_same] at nh
        cases nh
      have nh' := (same_upd ng (o := .lst (ns.map V.int))).free nh
      exact k _ h g (same_to (same_upd ng) nh') nh' ng ⟨⟨ns, by rw [upd_ne hg.symm]; exact upd_same⟩, ⟨0, 0, 0, s, upd_same, by decide⟩, hg⟩
end

/-! ### things judged -/
def itsOf : Td → List Td
  | .tup es => es
  | _ => []
def intOf : Td → Int
  | .int i => i
  | _ => 0
def lotL (b : Int) : Int → List Td → Bool
  | _, [] => true
  | last, d :: ds => inI (last + 1) (b - 1) d && lotL b (intOf d) ds
def lotB (b : Int) : Td → Bool
  | .tup ds => lotL b (-1) ds
  | _ => false
def outsB (b m : Int) (d : Td) : Bool := lotB b d && (decide (1 ≤ ((itsOf d).length : Int)) && decide (((itsOf d).length : Int) ≤ m))
def wordsB (m : Int) : Td → Bool
  | .tup ds => (decide (1 ≤ (ds.length : Int)) && decide ((ds.length : Int) ≤ m)) && ds.all (inI 0 255)
  | _ => false
def packB (b m : Int) : Td → Bool
  | .tup [s, k, o, w] => inI 0 99 s && (inI 0 7 k && (outsB b m o && wordsB 40 w))
  | _ => false
theorem lotB_no {b : Int} {d : Td} (c : isT d = false) : lotB b d = false := by
  cases d with
  | tup ds => cases c
  | _ => rfl
theorem wordsB_no {m : Int} {d : Td} (c : isT d = false) : wordsB m d = false := by
  cases d with
  | tup ds => cases c
  | _ => rfl
theorem inI_yes {lo hi : Int} {d : Td} (c : inI lo hi d = true) : ∃ i, d = .int i ∧ lo ≤ i ∧ i ≤ hi := by
  cases d with
  | int i =>
    unfold inI at c
    rw [Bool.and_eq_true] at c
    exact ⟨i, rfl, of_decide_eq_true c.1, of_decide_eq_true c.2⟩
  | _ => cases c
section
variable {P : Program} {w : World} {K : PySem.W.Frag} {mg : Str → Option Value} {base : Heap} {A : Adr}
def spLot : Sp := fun vs H Q _ => ∃ (n : Int) (x : V) (d : Td) (h : Addr), vs = [.int n, x] ∧ Is h H x d ∧ Q (.bl (lotB n d)) H
theorem ok_is_lot_below (T : Top K mg A) : FnOk P w K mg base CX0 3 A.a_is_lot_below A.d_is_lot_below P_is_lot_below spLot := by
  refine T.F_is_lot_below.ok sc_is_lot_below (fun vs H Q E h => ?_) (fun cdv A' outer s H vs Q E hr h => ?_)
  · obtain ⟨n, x, d, h, rfl, _⟩ := h
    rfl
  · obtain ⟨n, x, d, h, rfl, ix, k⟩ := h
    obtain ⟨t, ty, _, _, e3⟩ := is_ty T ix
    refine ⟨_, (pss_cons (ps_if (pt_not (pt_val (pe_callB call_isi (by rfl) T.z_isinstance (by decide +kernel) (pa_cons (pv 1) (pa_cons (pe_bltn (v := .ty "tuple") (by rfl) T.z_tuple (by decide +kernel) rfl) pa_nil))))) (pss_one (ps_ret pe_bl)) pss_nil)
    (pss_cons (ps_set (i := 2) sc_is_lot_below.nd rfl (.inl rfl) (pe_un un_neg pe_int))
    (pss_cons (ps_for PassesOwn.never rfl (pi_tup (pv 1)) (pg_name (i := 3) sc_is_lot_below.nd rfl (.inl rfl)) (pss_cons (ps_if (pt_not (pt_val (pe_call (ok_is_integer_from T) (hr.mono (by decide)) (by rfl) T.g_is_integer_from T.F_is_integer_from.kp T.b_is_integer_from .nil pass0 (pa_cons (pe_op op_add (pv 2) pe_int) (pa_cons (pe_op op_sub (pv 0) pe_int) (pa_cons (pv 3) pa_nil)))))) (pss_one (ps_ret pe_bl)) pss_nil)
    (pss_one (ps_set (i := 2) sc_is_lot_below.nd rfl (.inl rfl) (pv 3)))))
    (pss_one (ps_ret pe_bl))))), ?_⟩
    refine ⟨_, rfl, _, _, _, _, _, rfl, .ty "tuple", ty, e3, _, rfl, ?_⟩
    cases c : isT d with
    | false =>
      rw [lotB_no c] at k
      exact iteT k
    | true =>
      obtain ⟨a, xs, ds, rfl, rfl, ha, hl⟩ := isT_of ix c
      have lx := hl.len
      refine iteF ⟨_, rfl, ?_⟩
      refine ⟨_, rfl, a, rfl, ⟨_, SqT.of ha⟩, for_tup (K := K) (a := a) (xs := xs) (fun i σ H' => ∃ (last : Int) (y3 : Option V), σ = [some (.int n), some (.ref a), some (.int last), y3] ∧ H' = H ∧ lotB n (.tup ds) = lotL n last (ds.drop i)) ⟨-1, _, rfl, rfl, rfl⟩ (fun i σ H' _ ⟨_, _, _, e, _⟩ => by rw [e]; exact SqT.of ha) ?_ ?_⟩
      · rintro i y σ H' hi ⟨last, y3, rfl, rfl, el⟩
        obtain ⟨e, he, ie⟩ := hl.get hi
        have hd : ds.drop i = e :: ds.drop (i + 1) := by
          obtain ⟨h1, h2⟩ := List.getElem?_eq_some_iff.mp he
          rw [List.drop_eq_getElem_cons h1, h2]
        rw [hd] at el
        have el : lotB n (.tup ds) = (inI (last + 1) (n - 1) e && lotL n (intOf e) (ds.drop (i + 1))) := el
        refine ⟨_, rfl, _, _, rfl, rfl, _, rfl, _, _, rfl, rfl, _, rfl, _, _, _, e, h, rfl, ie, _, rfl, ?_⟩
        cases c2 : inI (last + 1) (n - 1) e with
        | false =>
          rw [c2] at el
          rw [el] at k
          exact iteT k
        | true =>
          obtain ⟨j, rfl, _, _⟩ := inI_yes c2
          cases ie
          rw [c2, Bool.true_and] at el
          exact iteF ⟨_, rfl, j, _, rfl, rfl, el⟩
      · rintro σ H' ⟨last, y3, rfl, rfl, el⟩
        rw [lx, List.drop_length] at el
        have el : lotB n (.tup ds) = true := el
        rw [el] at k
        exact k
def spOuts : Sp := fun vs H Q _ => ∃ (n m : Int) (x : V) (d : Td) (h : Addr), vs = [.int n, .int m, x] ∧ Is h H x d ∧ Q (.bl (outsB n m d)) H
theorem ok_are_outs (T : Top K mg A) : FnOk P w K mg base CX0 4 A.a_are_outs A.d_are_outs P_are_outs spOuts := by
  refine T.F_are_outs.ok sc_are_outs (fun vs H Q E h => ?_) (fun cdv A' outer s H vs Q E hr h => ?_)
  · obtain ⟨n, m, x, d, h, rfl, _⟩ := h
    rfl
  · obtain ⟨n, m, x, d, h, rfl, ix, k⟩ := h
    refine ⟨_, (pss_one (ps_ret (pe_and (pe_call (ok_is_lot_below T) (hr.mono (by decide)) (by rfl) T.g_is_lot_below T.F_is_lot_below.kp T.b_is_lot_below .nil pass0 (pa_cons (pv 0) (pa_cons (pv 2) pa_nil))) (pe_one (pe_chain op_le op_le pe_int (pe_callB call_len_seq (by rfl) T.z_len (by decide +kernel) (pa_cons (pv 2) pa_nil)) (pv 1)))))), ?_⟩
    refine ⟨_, rfl, _, rfl, n, x, d, h, rfl, ix, _, rfl, ?_⟩
    unfold outsB at k
    cases c : lotB n d with
    | false =>
      rw [c] at k
      exact iteF k
    | true =>
      have ct : isT d = true := by
        cases z : isT d with
        | true => rfl
        | false => rw [lotB_no z] at c; cases c
      obtain ⟨a, xs, ds, rfl, rfl, ha, hl⟩ := isT_of ix ct
      have lx := hl.len
      rw [c, Bool.true_and] at k
      have k : Q (.bl (decide (1 ≤ (ds.length : Int)) && decide ((ds.length : Int) ≤ m))) H := k
      rw [← lx] at k
      refine iteT ⟨_, rfl, a, xs, rfl, .inr (SqT.of ha), _, _, rfl, rfl, _, rfl, ?_⟩
      by_cases c1 : (1 : Int) ≤ xs.length
      · rw [decide_eq_true c1, Bool.true_and] at k
        rw [decide_eq_true c1]
        exact iteT ⟨_, rfl, _, _, rfl, rfl, k⟩
      · rw [decide_eq_false c1, Bool.false_and] at k
        rw [decide_eq_false c1]
        exact iteF k
def spWords : Sp := fun vs H Q _ => ∃ (m : Int) (x : V) (d : Td) (h : Addr), vs = [.int m, x] ∧ Is h H x d ∧ m ≤ 1000 ∧ ∀ H', Same H H' → Q (.bl (wordsB m d)) H'
theorem ok_are_words (T : Top K mg A) : FnOk P w K mg base CX0 4 A.a_are_words A.d_are_words P_are_words spWords := by
  refine T.F_are_words.ok sc_are_words (fun vs H Q E h => ?_) (fun cdv A' outer s H vs Q E hr h => ?_)
  · obtain ⟨m, x, d, h, rfl, _⟩ := h
    rfl
  · obtain ⟨m, x, d, h, rfl, ix, hm, k⟩ := h
    obtain ⟨t, ty, _, _, e3⟩ := is_ty T ix
    refine ⟨_, (pss_cons (ps_if (PW.pt (pw_or (pt_not (pt_val (pe_callB call_isi (by rfl) T.z_isinstance (by decide +kernel) (pa_cons (pv 1) (pa_cons (pe_bltn (v := .ty "tuple") (by rfl) T.z_tuple (by decide +kernel) rfl) pa_nil))))) (pw_or1 (pt_not (pt_chain op_le op_le pe_int (pe_callB call_len_seq (by rfl) T.z_len (by decide +kernel) (pa_cons (pv 1) pa_nil)) (pv 0)))))) (pss_one (ps_ret pe_bl)) pss_nil)
    (pss_one (ps_ret (pe_callB (cr_all rfl) (by rfl) T.z_all (by decide +kernel) (pa_cons (pe_lc (own := [("word", 2)]) (by rfl) sc_are_words.nd (pi_tup (pv 1)) (blkOk_by (own := [("word", 2)]) (N := N_are_words) (sc := defScope s_are_words) (by decide +kernel)) (fun _ _ _ _ _ => (pg_name (i := 2) sc_are_words.nd rfl (.inl rfl))) (fun _ _ _ _ _ => pts_nil) (fun _ _ _ _ _ => (pe_call (ok_is_number_below (P := P) (w := w) T) (hr.mono (by decide)) (by rfl) T.g_is_number_below T.F_is_number_below.kp T.b_is_number_below .nil pass0 (pa_cons (pe_glob (v := .int 256) rfl (T.k_WORD_BOUND).choose_spec ⟨_, rfl⟩) (pa_cons (pv 2) pa_nil))))) pa_nil))))), ?_⟩
    refine ⟨_, rfl, _, _, _, _, _, rfl, .ty "tuple", ty, e3, _, rfl, ?_⟩
    cases c : isT d with
    | false =>
      rw [wordsB_no c] at k
      exact iteT (k H fun _ _ e => e)
    | true =>
      obtain ⟨a, xs, ds, rfl, rfl, ha, hl⟩ := isT_of ix c
      have lx := hl.len
      have k : ∀ H', Same H H' → Q (.bl ((decide (1 ≤ (ds.length : Int)) && decide ((ds.length : Int) ≤ m)) && ds.all (inI 0 255))) H' := k
      refine iteF ⟨_, rfl, a, xs, rfl, .inr (SqT.of ha), _, _, rfl, rfl, _, rfl, ?_⟩
      by_cases c1 : (1 : Int) ≤ ds.length
      · rw [decide_eq_true (show (1 : Int) ≤ xs.length by omega)]
        rw [decide_eq_true c1] at k
        refine iteT ⟨_, rfl, _, _, rfl, rfl, _, rfl, ?_⟩
        by_cases c2 : (ds.length : Int) ≤ m
        · rw [decide_eq_true (show (xs.length : Int) ≤ m by omega)]
          rw [decide_eq_true c2] at k
          refine iteF ⟨_, rfl, a, rfl, ⟨_, SqT.of ha⟩, fun D nD => ?_⟩
          refine lc_tup (K := K) (a := a) (xs := xs) (LP H D ((ds.map (inI 0 255)).map V.bl)) (LP.start nD) (fun i H' _ p => SqT.of (p.1 _ _ ha)) ?_ ?_
          · rintro i y H' hi p
            obtain ⟨e, he, ie⟩ := hl.get hi
            refine ⟨by kernel_rfl, ?_⟩
            refine ⟨_, rfl, 256, y, e, h, rfl, ie.same p.1, ?_⟩
            exact lcPut nD p (fun _ _ e => e) (map_at (map_at he)) (by rw [List.length_map, List.length_map]; omega)
          · rintro H' ⟨s1, d1⟩
            rw [take_all (by rw [List.length_map, List.length_map]; exact lx)] at d1
            refine ⟨D, _, rfl, SqL.of d1, ?_⟩
            rw [List.all_map]
            exact k H' s1
        · rw [decide_eq_false (show ¬ (xs.length : Int) ≤ m by omega)]
          rw [decide_eq_false c2] at k
          exact iteT (k H fun _ _ e => e)
      · rw [decide_eq_false (show ¬ (1 : Int) ≤ xs.length by omega)]
        rw [decide_eq_false c1] at k
        exact iteF ⟨_, rfl, iteT (k H fun _ _ e => e)⟩
end

/-! ### packets and loads -/
def wLen : Td → Int
  | .tup [_, _, _, w] => (itsOf w).length
  | _ => 0
def partsN (d : Td) : Int := (wLen d + 4 - 1) / 4
theorem four_of {h : Addr} {H : Hp} {x : V} {d : Td} (t : Is h H x d) (c : tupN 4 d = true) : ∃ a x1 x2 x3 x4 d1 d2 d3 d4, x = .ref a ∧ d = .tup [d1, d2, d3, d4] ∧ H a = some (.tup [x1, x2, x3, x4]) ∧ Is h H x1 d1 ∧ Is h H x2 d2 ∧ Is h H x3 d3 ∧ Is h H x4 d4 := by
  cases t with
  | tup e l =>
    have c := of_decide_eq_true (show decide (_ = (4 : Int)) = true from c)
    cases l with
    | nil => (exfalso; simp only [List.length_nil] at c; omega)
    | cons a l => cases l with
      | nil => (exfalso; simp only [List.length_cons, List.length_nil] at c; omega)
      | cons b l => cases l with
        | nil => (exfalso; simp only [List.length_cons, List.length_nil] at c; omega)
        | cons g l => cases l with
          | nil => (exfalso; simp only [List.length_cons, List.length_nil] at c; omega)
          | cons k l => cases l with
            | nil => exact ⟨_, _, _, _, _, _, _, _, _, rfl, rfl, e, a, b, g, k⟩
            | cons f l =>
              exfalso
              rw [List.length_cons, List.length_cons, List.length_cons, List.length_cons, List.length_cons] at c
              omega
  | _ => cases c
theorem packB_no {n m : Int} {d : Td} (c : tupN 4 d = false) : packB n m d = false := by
  cases d with
  | tup ds =>
    match ds with
    | [] => rfl
    | [_] => rfl
    | [_, _] => rfl
    | [_, _, _] => rfl
    | [_, _, _, _] => cases c
    | _ :: _ :: _ :: _ :: _ :: _ => rfl
  | _ => rfl
section
variable {P : Program} {w : World} {K : PySem.W.Frag} {mg : Str → Option Value} {base : Heap} {A : Adr}
def spPack : Sp := fun vs H Q _ => ∃ (n m : Int) (x : V) (d : Td) (h : Addr), vs = [.int n, .int m, x] ∧ Is h H x d ∧ ∀ H', Same H H' → Q (.bl (packB n m d)) H'
theorem ok_is_packet (T : Top K mg A) : FnOk P w K mg base CX0 5 A.a_is_packet A.d_is_packet P_is_packet spPack := by
  refine T.F_is_packet.ok sc_is_packet (fun vs H Q E h => ?_) (fun cdv A' outer s H vs Q E hr h => ?_)
  · obtain ⟨n, m, x, d, h, rfl, _⟩ := h
    rfl
  · obtain ⟨n, m, x, d, h, rfl, ix, k⟩ := h
    refine ⟨_, (pss_cons (ps_if (pt_not (pt_val (pe_call (ok_is_tuple_of T) (hr.mono (by decide)) (by rfl) T.g_is_tuple_of T.F_is_tuple_of.kp T.b_is_tuple_of .nil pass0 (pa_cons pe_int (pa_cons (pv 2) pa_nil))))) (pss_one (ps_ret pe_bl)) pss_nil)
    (pss_cons (ps_asg (pv 2) (pg_tup rfl (pgs_cons (pg_name (i := 3) sc_is_packet.nd rfl (.inl rfl)) (pgs_cons (pg_name (i := 4) sc_is_packet.nd rfl (.inl rfl)) (pgs_cons (pg_name (i := 5) sc_is_packet.nd rfl (.inl rfl)) (pgs_cons (pg_name (i := 6) sc_is_packet.nd rfl (.inl rfl)) pgs_nil))))))
    (pss_cons (ps_if (PW.pt (pw_or (pt_not (pt_val (pe_call (ok_is_number_below T) (hr.mono (by decide)) (by rfl) T.g_is_number_below T.F_is_number_below.kp T.b_is_number_below .nil pass0 (pa_cons (pe_glob (v := .int 100) rfl (T.k_STREAMS).choose_spec ⟨_, rfl⟩) (pa_cons (pv 3) pa_nil))))) (pw_or1 (pt_not (pt_val (pe_call (ok_is_number_below T) (hr.mono (by decide)) (by rfl) T.g_is_number_below T.F_is_number_below.kp T.b_is_number_below .nil pass0 (pa_cons (pe_glob (v := .int 8) rfl (T.k_KINDS).choose_spec ⟨_, rfl⟩) (pa_cons (pv 4) pa_nil)))))))) (pss_one (ps_ret pe_bl)) pss_nil)
    (pss_one (ps_ret (pe_and (pe_call (ok_are_outs T) (hr.mono (by decide)) (by rfl) T.g_are_outs T.F_are_outs.kp T.b_are_outs .nil pass0 (pa_cons (pv 0) (pa_cons (pv 1) (pa_cons (pv 5) pa_nil)))) (pe_one (pe_call (ok_are_words T) (hr.mono (by decide)) (by rfl) T.g_are_words T.F_are_words.kp T.b_are_words .nil pass0 (pa_cons (pe_glob (v := .int 40) rfl (T.k_MOST_WORDS).choose_spec ⟨_, rfl⟩) (pa_cons (pv 6) pa_nil)))))))))), ?_⟩
    refine ⟨_, rfl, 4, x, d, h, rfl, ix, _, rfl, ?_⟩
    cases c : tupN 4 d with
    | false =>
      rw [packB_no c] at k
      exact iteT (k H fun _ _ e => e)
    | true =>
      obtain ⟨a, x1, x2, x3, x4, d1, d2, d3, d4, rfl, rfl, ha, i1, i2, i3, i4⟩ := four_of ix c
      have k : ∀ H', Same H H' → Q (.bl (inI 0 99 d1 && (inI 0 7 d2 && (outsB n m d3 && wordsB 40 d4)))) H' := k
      refine iteF ⟨_, rfl, a, _, rfl, SqT.of ha, rfl, _, _, rfl, _, _, rfl, _, _, rfl, _, _, rfl, rfl, ?_⟩
      refine ⟨_, rfl, 100, x1, d1, h, rfl, i1, _, rfl, ?_⟩
      show if (!inI 0 99 d1) = true then _ else _
      cases c1 : inI 0 99 d1 with
      | false =>
        rw [c1] at k
        exact iteT (iteT (k H fun _ _ e => e))
      | true =>
        rw [c1, Bool.true_and] at k
        refine iteF ⟨_, rfl, 8, x2, d2, h, rfl, i2, _, rfl, ?_⟩
        show if (!inI 0 7 d2) = true then _ else _
        cases c2 : inI 0 7 d2 with
        | false =>
          rw [c2] at k
          exact iteT (k H fun _ _ e => e)
        | true =>
          rw [c2, Bool.true_and] at k
          refine iteF ⟨_, rfl, _, rfl, _, rfl, n, m, x3, d3, h, rfl, i3, _, rfl, ?_⟩
          cases c3 : outsB n m d3 with
          | false =>
            rw [c3] at k
            exact iteF (k H fun _ _ e => e)
          | true =>
            rw [c3, Bool.true_and] at k
            exact iteT ⟨_, rfl, 40, x4, d4, h, rfl, i4, by decide, fun H' s => k H' s⟩
def spParts : Sp := fun vs H Q _ => ∃ (x : V) (d1 d2 d3 : Td) (ws : List Td) (h : Addr), vs = [x] ∧ Is h H x (.tup [d1, d2, d3, .tup ws]) ∧ Q (.int (((ws.length : Int) + 4 - 1) / 4)) H
theorem ok_parts_of (T : Top K mg A) : FnOk P w K mg base CX0 1 A.a_parts_of A.d_parts_of P_parts_of spParts := by
  refine T.F_parts_of.ok sc_parts_of (fun vs H Q E h => ?_) (fun cdv A' outer s H vs Q E hr h => ?_)
  · obtain ⟨x, d1, d2, d3, ws, h, rfl, _⟩ := h
    rfl
  · obtain ⟨x, d1, d2, d3, ws, h, rfl, ix, k⟩ := h
    obtain ⟨a, x1, x2, x3, x4, e1, e2, e3, e4, rfl, e, ha, i1, i2, i3, i4⟩ := four_of ix rfl
    cases e
    obtain ⟨b, us, ds, rfl, e, hb, hl⟩ := isT_of i4 rfl
    cases e
    rw [← hl.len] at k
    refine ⟨_, (pss_one (ps_ret (pe_op op_fdiv (pe_op op_sub (pe_op op_add (pe_callB call_len_seq (by rfl) T.z_len (by decide +kernel) (pa_cons (pe_ix ix_tup (pv 0) pe_int (fun _ _ => rfl)) pa_nil)) (pe_glob (v := .int 4) rfl (T.k_WORDS_OF_A_CELL).choose_spec ⟨_, rfl⟩)) pe_int) (pe_glob (v := .int 4) rfl (T.k_WORDS_OF_A_CELL).choose_spec ⟨_, rfl⟩)))), ?_⟩
    exact ⟨_, rfl, a, _, _, _, rfl, rfl, SqT.of ha, atI_nat (j := 3) rfl, b, us, rfl, .inr (SqT.of hb), _, _, rfl, rfl, _, _, rfl, rfl, _, _, rfl, rfl, ⟨by decide, by decide⟩, k⟩
def spCellsIn (C : Addr) : Sp := fun vs H Q E => ∃ (x : V) (d : Td) (h : Addr), vs = [x] ∧ Is h H x d ∧ (packB 12 3 d = true → ∀ H', Same H H' → Q (.int (partsN d)) H') ∧ (packB 12 3 d = false → ∀ H', Same H H' → E (.ref C) none H')
theorem ok_cells_in (T : Top K mg A) : FnOk P w K mg base (L2.CX P w) 6 A.a_cells_in A.d_cells_in P_cells_in (spCellsIn A.c_NoPacket) := by
  refine T.F_cells_in.okX sc_cells_in (fun vs H Q E h => ?_) (fun cdv A' outer s H vs Q E hr h => ?_)
  · obtain ⟨x, d, h, rfl, _⟩ := h
    rfl
  · obtain ⟨x, d, h, rfl, ix, yes, no⟩ := h
    refine ⟨_, (pss_cons (ps_if (pt_not (pt_val (pe_call (ok_is_packet T) (hr.mono (by decide)) (by rfl) T.g_is_packet T.F_is_packet.kp T.b_is_packet .nil pass0 (pa_cons (pe_glob (v := .int 12) rfl (T.k_MOST_LINES).choose_spec ⟨_, rfl⟩) (pa_cons (pe_glob (v := .int 3) rfl (T.k_MOST_COPIES).choose_spec ⟨_, rfl⟩) (pa_cons (pv 0) pa_nil)))))) (pss_one (ps_raise rfl (takes_of rfl rfl rfl rfl) (GX.pmk_own0 PySem.F.excBase_ValueError T.x_NoPacket T.gc_NoPacket T.kp_NoPacket (raises_own T.s_NoPacket T.t_NoPacket) rfl))) pss_nil)
    (pss_one (ps_ret (pe_call (ok_parts_of T) (hr.mono (by decide)) (by rfl) T.g_parts_of T.F_parts_of.kp T.b_parts_of .nil pass0 (pa_cons (pv 0) pa_nil))))), ?_⟩
    refine ⟨_, rfl, 12, 3, x, d, h, rfl, ix, fun H' s => ⟨_, rfl, ?_⟩⟩
    cases c : packB 12 3 d with
    | false => exact iteT (no c H' s)
    | true =>
      refine iteF ?_
      have c4 : tupN 4 d = true := by
        cases z : tupN 4 d with
        | true => rfl
        | false => rw [packB_no z] at c; cases c
      obtain ⟨a, x1, x2, x3, x4, d1, d2, d3, d4, rfl, rfl, ha, i1, i2, i3, i4⟩ := four_of ix c4
      have cw : wordsB 40 d4 = true := by
        have c : (inI 0 99 d1 && (inI 0 7 d2 && (outsB 12 3 d3 && wordsB 40 d4))) = true := c
        rw [Bool.and_eq_true, Bool.and_eq_true, Bool.and_eq_true] at c
        exact c.2.2.2
      cases d4 with
      | tup ws => exact ⟨_, rfl, _, d1, d2, d3, ws, h, rfl, ix.same s, yes c H' s⟩
      | _ => cases cw
/-- the sum of words by their places from k on -/
def sumW : Int → List Int → Int
  | _, [] => 0
  | k, x :: xs => k * x + sumW (k + 1) xs
def placed (k : Int) : List Int → List Int
  | [] => []
  | x :: xs => k * x :: placed (k + 1) xs
theorem placed_sum : ∀ (k : Int) (ws : List Int), (placed k ws).sum = sumW k ws
  | _, [] => rfl
  | k, x :: xs => by
    show (k * x :: placed (k + 1) xs).sum = _
    rw [List.sum_cons, placed_sum (k + 1) xs]
    rfl
theorem placed_len : ∀ (k : Int) (ws : List Int), (placed k ws).length = ws.length
  | _, [] => rfl
  | k, x :: xs => by
    show (placed (k + 1) xs).length + 1 = xs.length + 1
    rw [placed_len]
theorem placed_at : ∀ {k : Int} {ws : List Int} {i : Nat} {x : Int}, ws[i]? = some x → (placed k ws)[i]? = some ((k + (i : Int)) * x)
  | k, x :: xs, 0, y, h => by
    cases h
    show some (k * x) = _
    rw [show k + ((0 : Nat) : Int) = k by omega]
  | k, x :: xs, i + 1, y, h => by
    have q := placed_at (k := k + 1) (ws := xs) (i := i) (x := y) h
    show (placed (k + 1) xs)[i]? = _
    rw [q, show k + ((i + 1 : Nat) : Int) = k + 1 + (i : Int) by omega]
def chk (n p l : Int) (ws : List Int) : Int := (sumW 1 ws + 7 * p + 11 * l + 13 * n) % 251
def spChk : Sp := fun vs H Q _ => ∃ (n p l : Int) (a : Addr) (ws : List Int), vs = [.int n, .int p, .int l, .ref a] ∧ H a = some (.tup (ws.map V.int)) ∧ ws.length ≤ 1000 ∧ ∀ H', Same H H' → Q (.int (chk n p l ws)) H'
theorem ok_check_of (T : Top K mg A) : FnOk P w K mg base CX0 1 A.a_check_of A.d_check_of P_check_of spChk := by
  refine T.F_check_of.ok sc_check_of (fun vs H Q E h => ?_) (fun cdv A' outer s H vs Q E hr h => ?_)
  · obtain ⟨n, p, l, a, ws, rfl, _⟩ := h
    rfl
  · obtain ⟨n, p, l, a, ws, rfl, ha, lw, k⟩ := h
    refine ⟨_, (pss_one (ps_ret (pe_op op_mod (pe_op op_add (pe_op op_add (pe_op op_add (pe_callB (cr_sum rfl) (by rfl) T.z_sum (by decide +kernel) (pa_cons (pe_lc (own := [("place", 4), ("word", 5)]) (by rfl) sc_check_of.nd (GEs.pi_enumK (by rfl) T.z_enumerate (pa_cons (pv 3) pa_nil) (pk_cons pe_int pk_nil)) (blkOk_by (own := [("place", 4), ("word", 5)]) (N := N_check_of) (sc := defScope s_check_of) (by decide +kernel)) (fun _ _ _ _ _ => (show PG _ _ (gTup K 2 _) from (pg_tup rfl (pgs_cons (pg_name (i := 4) sc_check_of.nd rfl (.inl rfl)) (pgs_cons (pg_name (i := 5) sc_check_of.nd rfl (.inl rfl)) pgs_nil))))) (fun _ _ _ _ _ => pts_nil) (fun _ _ _ _ _ => (pe_op op_mul (pv 4) (pv 5)))) pa_nil)) (pe_op op_mul pe_int (pv 1))) (pe_op op_mul pe_int (pv 2))) (pe_op op_mul pe_int (pv 0))) (pe_glob (v := .int 251) rfl (T.k_CHECK_BOUND).choose_spec ⟨_, rfl⟩)))), ?_⟩
    refine ⟨_, rfl, a, _, 1, rfl, rfl, by decide, by decide, SqT.of ha, fun D nD => ?_⟩
    refine lc_it GEs.walkK (fun i H' => Same H H' ∧ H' D = some (.lst (((placed 1 ws).take i).map V.int))) ⟨same_upd nD, upd_same⟩ (fun i H' _ ⟨s1, _⟩ => SqT.of (s1 _ _ ha)) ?_ ?_
    · rintro i x H1 H1' hi ⟨s1, e1⟩ ⟨T1, x1, x2, rfl, nT, rfl, ex1, ex2⟩
      cases ex1
      have ex2 : (ws.map V.int)[i]? = some x2 := ex2
      rw [List.getElem?_map] at ex2
      obtain ⟨z, hz, rfl⟩ := Option.map_eq_some_iff.mp ex2
      have hil := (List.getElem?_eq_some_iff.mp hz).1
      have s2 := same_upd nT (o := .tup [.int (1 + ((i : Nat) : Int)), .int z])
      have s02 : Same H (upd H1 T1 (.tup [.int (1 + ((i : Nat) : Int)), .int z])) := s1.trans s2
      have e2 := s2 _ _ e1
      generalize hH2 : upd H1 T1 (.tup [.int (1 + ((i : Nat) : Int)), .int z]) = H2 at s2 s02 e2 ⊢
      have eT : H2 T1 = some (.tup [.int (1 + ((i : Nat) : Int)), .int z]) := by rw [← hH2]; exact upd_same
      clear hH2
      show gTup K 2 _ _ ([some (.int n), some (.int p), some (.int l), some (.ref a), none, none] : L2.St) _ _
      refine ⟨T1, _, rfl, SqT.of eT, rfl, _, _, rfl, _, _, rfl, rfl, by kernel_rfl, ?_⟩
      refine ⟨_, rfl, _, rfl, _, _, rfl, rfl, .inl ⟨by omega, by omega⟩, ?_⟩
      refine ⟨_, e2, small1000 (by rw [List.length_map, List.length_take, placed_len]; omega), same_to s02 nD, ?_⟩
      rw [upd_same, List.take_add_one, placed_at hz, List.map_append]
      rfl
    · rintro H1 ⟨s1, e1⟩
      rw [List.length_map, ← placed_len 1 ws, List.take_length] at e1
      refine ⟨D, _, rfl, SqL.of e1, ?_⟩
      rw [placed_sum]
      refine ⟨_, rfl, _, _, rfl, rfl, .inl ⟨by decide, by decide⟩, _, _, rfl, rfl, _, rfl, _, _, rfl, rfl, .inl ⟨by decide, by decide⟩, _, _, rfl, rfl, _, rfl, _, _, rfl, rfl, .inl ⟨by decide, by decide⟩, _, _, rfl, rfl, ?_⟩
      exact ⟨_, _, rfl, rfl, (by show (0 : Int) < 251; decide), k H1 s1⟩
end

/-! ### loads -/
theorem five_of {h : Addr} {H : Hp} {x : V} {d : Td} (t : Is h H x d) (c : tupN 5 d = true) : ∃ a x1 x2 x3 x4 x5 d1 d2 d3 d4 d5, x = .ref a ∧ d = .tup [d1, d2, d3, d4, d5] ∧ H a = some (.tup [x1, x2, x3, x4, x5]) ∧ Is h H x1 d1 ∧ Is h H x2 d2 ∧ Is h H x3 d3 ∧ Is h H x4 d4 ∧ Is h H x5 d5 := by
  cases t with
  | tup e l =>
    have c := of_decide_eq_true (show decide (_ = (5 : Int)) = true from c)
    cases l with
    | nil => (exfalso; simp only [List.length_nil] at c; omega)
    | cons a l => cases l with
      | nil => (exfalso; simp only [List.length_cons, List.length_nil] at c; omega)
      | cons b l => cases l with
        | nil => (exfalso; simp only [List.length_cons, List.length_nil] at c; omega)
        | cons g l => cases l with
          | nil => (exfalso; simp only [List.length_cons, List.length_nil] at c; omega)
          | cons k l => cases l with
            | nil => (exfalso; simp only [List.length_cons, List.length_nil] at c; omega)
            | cons f l => cases l with
              | nil => exact ⟨_, _, _, _, _, _, _, _, _, _, _, rfl, rfl, e, a, b, g, k, f⟩
              | cons u l => (exfalso; simp only [List.length_cons] at c; omega)
  | _ => cases c
def wordsOf (d : Td) : List Int := (itsOf d).map intOf
def loadB : Td → Bool
  | .tup [n, p, l, w, c] => inI 0 1000000000 n && (inI 0 9 p && (inI 0 (10 - intOf p - 1) l && (wordsB 4 w && (!(decide (0 < intOf l) && decide (((itsOf w).length : Int) < 4)) && (inI 0 250 c && decide (intOf c = chk (intOf n) (intOf p) (intOf l) (wordsOf w)))))))
  | _ => false
theorem loadB_no {d : Td} (c : tupN 5 d = false) : loadB d = false := by
  cases d with
  | tup ds =>
    match ds with
    | [] => rfl
    | [_] => rfl
    | [_, _] => rfl
    | [_, _, _] => rfl
    | [_, _, _, _] => rfl
    | [_, _, _, _, _] => cases c
    | _ :: _ :: _ :: _ :: _ :: _ :: _ => rfl
  | _ => rfl
theorem ints_all {h : Addr} {H : Hp} {lo hi : Int} : ∀ {vs : List V} {ds : List Td}, IsL h H vs ds → ds.all (inI lo hi) = true → vs = (ds.map intOf).map V.int
  | _, _, .nil, _ => rfl
  | _, _, .cons a t, c => by
    rw [List.all_cons, Bool.and_eq_true] at c
    obtain ⟨i, rfl, i0, i1⟩ := inI_yes c.1
    cases a
    rw [ints_all t c.2]
    rfl
theorem words_of {h : Addr} {H : Hp} {m : Int} {x : V} {d : Td} (t : Is h H x d) (c : wordsB m d = true) : ∃ a, x = .ref a ∧ H a = some (.tup ((wordsOf d).map V.int)) ∧ 1 ≤ ((wordsOf d).length : Int) ∧ ((wordsOf d).length : Int) ≤ m ∧ ((itsOf d).length : Int) = (wordsOf d).length := by
  cases d with
  | tup ds =>
    obtain ⟨a, xs, ds', rfl, e, ha, hl⟩ := isT_of t rfl
    cases e
    have c : ((decide (1 ≤ (ds.length : Int)) && decide ((ds.length : Int) ≤ m)) && ds.all (inI 0 255)) = true := c
    rw [Bool.and_eq_true, Bool.and_eq_true] at c
    have e := ints_all hl c.2
    subst e
    refine ⟨a, rfl, ha, ?_, ?_, ?_⟩
    · show 1 ≤ ((ds.map intOf).length : Int)
      rw [List.length_map]
      exact of_decide_eq_true c.1.1
    · show ((ds.map intOf).length : Int) ≤ m
      rw [List.length_map]
      exact of_decide_eq_true c.1.2
    · show (ds.length : Int) = ((ds.map intOf).length : Int)
      rw [List.length_map]
  | _ => cases c
section
variable {P : Program} {w : World} {K : PySem.W.Frag} {mg : Str → Option Value} {base : Heap} {A : Adr}
def spLoad : Sp := fun vs H Q _ => ∃ (x : V) (d : Td) (h : Addr), vs = [x] ∧ Is h H x d ∧ ∀ H', Same H H' → Q (.bl (loadB d)) H'
theorem ok_is_load (T : Top K mg A) : FnOk P w K mg base CX0 5 A.a_is_load A.d_is_load P_is_load spLoad := by
  refine T.F_is_load.ok sc_is_load (fun vs H Q E h => ?_) (fun cdv A' outer s H vs Q E hr h => ?_)
  · obtain ⟨x, d, h, rfl, _⟩ := h
    rfl
  · obtain ⟨x, d, h, rfl, ix, k⟩ := h
    refine ⟨_, (pss_cons (ps_if (pt_not (pt_val (pe_call (ok_is_tuple_of T) (hr.mono (by decide)) (by rfl) T.g_is_tuple_of T.F_is_tuple_of.kp T.b_is_tuple_of .nil pass0 (pa_cons pe_int (pa_cons (pv 0) pa_nil))))) (pss_one (ps_ret pe_bl)) pss_nil)
    (pss_cons (ps_asg (pv 0) (pg_tup rfl (pgs_cons (pg_name (i := 1) sc_is_load.nd rfl (.inl rfl)) (pgs_cons (pg_name (i := 2) sc_is_load.nd rfl (.inl rfl)) (pgs_cons (pg_name (i := 3) sc_is_load.nd rfl (.inl rfl)) (pgs_cons (pg_name (i := 4) sc_is_load.nd rfl (.inl rfl)) (pgs_cons (pg_name (i := 5) sc_is_load.nd rfl (.inl rfl)) pgs_nil)))))))
    (pss_cons (ps_if (PW.pt (pw_or (pt_not (pt_val (pe_call (ok_is_integer_from T) (hr.mono (by decide)) (by rfl) T.g_is_integer_from T.F_is_integer_from.kp T.b_is_integer_from .nil pass0 (pa_cons pe_int (pa_cons (pe_glob (v := .int 1000000000) rfl (T.k_GREATEST_PACKET).choose_spec ⟨_, rfl⟩) (pa_cons (pv 1) pa_nil)))))) (pw_or1 (pt_not (pt_val (pe_call (ok_is_number_below T) (hr.mono (by decide)) (by rfl) T.g_is_number_below T.F_is_number_below.kp T.b_is_number_below .nil pass0 (pa_cons (pe_glob (v := .int 10) rfl (T.k_MOST_PARTS).choose_spec ⟨_, rfl⟩) (pa_cons (pv 2) pa_nil)))))))) (pss_one (ps_ret pe_bl)) pss_nil)
    (pss_cons (ps_if (PW.pt (pw_or (pt_not (pt_val (pe_call (ok_is_number_below T) (hr.mono (by decide)) (by rfl) T.g_is_number_below T.F_is_number_below.kp T.b_is_number_below .nil pass0 (pa_cons (pe_op op_sub (pe_glob (v := .int 10) rfl (T.k_MOST_PARTS).choose_spec ⟨_, rfl⟩) (pv 2)) (pa_cons (pv 3) pa_nil))))) (pw_or1 (pt_not (pt_val (pe_call (ok_are_words T) (hr.mono (by decide)) (by rfl) T.g_are_words T.F_are_words.kp T.b_are_words .nil pass0 (pa_cons (pe_glob (v := .int 4) rfl (T.k_WORDS_OF_A_CELL).choose_spec ⟨_, rfl⟩) (pa_cons (pv 4) pa_nil)))))))) (pss_one (ps_ret pe_bl)) pss_nil)
    (pss_cons (ps_if (PW.pt (pw_and (pt_cmpR op_gt (pv 3) pe_int (nomark _)) (pw_and1 (pt_cmpR op_lt (pe_callB call_len_seq (by rfl) T.z_len (by decide +kernel) (pa_cons (pv 4) pa_nil)) (pe_glob (v := .int 4) rfl (T.k_WORDS_OF_A_CELL).choose_spec ⟨_, rfl⟩) (nomark _))))) (pss_one (ps_ret pe_bl)) pss_nil)
    (pss_one (ps_ret (pe_and (pe_call (ok_is_number_below T) (hr.mono (by decide)) (by rfl) T.g_is_number_below T.F_is_number_below.kp T.b_is_number_below .nil pass0 (pa_cons (pe_glob (v := .int 251) rfl (T.k_CHECK_BOUND).choose_spec ⟨_, rfl⟩) (pa_cons (pv 5) pa_nil))) (pe_one (pe_cmpR op_eq (pv 5) (pe_call (ok_check_of T) (hr.mono (by decide)) (by rfl) T.g_check_of T.F_check_of.kp T.b_check_of .nil pass0 (pa_cons (pv 1) (pa_cons (pv 2) (pa_cons (pv 3) (pa_cons (pv 4) pa_nil))))) (nomark _))))))))))), ?_⟩
    refine ⟨_, rfl, 5, x, d, h, rfl, ix, _, rfl, ?_⟩
    cases c : tupN 5 d with
    | false =>
      rw [loadB_no c] at k
      exact iteT (k H fun _ _ e => e)
    | true =>
      obtain ⟨a, x1, x2, x3, x4, x5, d1, d2, d3, d4, d5, rfl, rfl, ha, i1, i2, i3, i4, i5⟩ := five_of ix c
      have k : ∀ H', Same H H' → Q (.bl (inI 0 1000000000 d1 && (inI 0 9 d2 && (inI 0 (10 - intOf d2 - 1) d3 && (wordsB 4 d4 && (!(decide (0 < intOf d3) && decide (((itsOf d4).length : Int) < 4)) && (inI 0 250 d5 && decide (intOf d5 = chk (intOf d1) (intOf d2) (intOf d3) (wordsOf d4))))))))) H' := k
      refine iteF ⟨_, rfl, a, _, rfl, SqT.of ha, rfl, _, _, rfl, _, _, rfl, _, _, rfl, _, _, rfl, _, _, rfl, rfl, ?_⟩
      refine ⟨_, rfl, 0, 1000000000, x1, d1, h, rfl, i1, _, rfl, ?_⟩
      show if (!inI 0 1000000000 d1) = true then _ else _
      cases c1 : inI 0 1000000000 d1 with
      | false =>
        rw [c1] at k
        exact iteT (iteT (k H fun _ _ e => e))
      | true =>
        obtain ⟨n, rfl, n0, n1⟩ := inI_yes c1
        cases i1
        rw [c1, Bool.true_and] at k
        refine iteF ⟨_, rfl, 10, x2, d2, h, rfl, i2, _, rfl, ?_⟩
        show if (!inI 0 9 d2) = true then _ else _
        cases c2 : inI 0 9 d2 with
        | false =>
          rw [c2] at k
          exact iteT (k H fun _ _ e => e)
        | true =>
          obtain ⟨p, rfl, p0, p1⟩ := inI_yes c2
          cases i2
          rw [c2, Bool.true_and] at k
          refine iteF ⟨_, rfl, _, _, rfl, rfl, _, rfl, 10 - p, x3, d3, h, rfl, i3, _, rfl, ?_⟩
          show if (!inI 0 (10 - p - 1) d3) = true then _ else _
          have k : ∀ H', Same H H' → Q (.bl (inI 0 (10 - p - 1) d3 && (wordsB 4 d4 && (!(decide (0 < intOf d3) && decide (((itsOf d4).length : Int) < 4)) && (inI 0 250 d5 && decide (intOf d5 = chk n p (intOf d3) (wordsOf d4))))))) H' := k
          cases c3 : inI 0 (10 - p - 1) d3 with
          | false =>
            rw [c3] at k
            exact iteT (iteT (k H fun _ _ e => e))
          | true =>
            obtain ⟨l, rfl, l0, l1⟩ := inI_yes c3
            cases i3
            rw [c3, Bool.true_and] at k
            refine iteF ⟨_, rfl, 4, x4, d4, h, rfl, i4, by decide, fun H1 s1 => ⟨_, rfl, ?_⟩⟩
            show if (!wordsB 4 d4) = true then _ else _
            cases c4 : wordsB 4 d4 with
            | false =>
              rw [c4] at k
              exact iteT (k H1 s1)
            | true =>
              rw [c4, Bool.true_and] at k
              obtain ⟨b, rfl, hb, w1, w2, w3⟩ := words_of i4 c4
              have k : ∀ H', Same H H' → Q (.bl (!(decide (0 < l) && decide (((itsOf d4).length : Int) < 4)) && (inI 0 250 d5 && decide (intOf d5 = chk n p l (wordsOf d4))))) H' := k
              rw [w3] at k
              have hb1 := s1 _ _ hb
              refine iteF ?_
              refine ⟨_, rfl, _, _, rfl, rfl, _, rfl, ?_⟩
              by_cases cl : 0 < l
              · rw [decide_eq_true cl] at k ⊢
                refine iteT ⟨_, rfl, b, _, rfl, .inr (SqT.of hb1), _, _, rfl, rfl, _, rfl, ?_⟩
                rw [List.length_map]
                by_cases cw : ((wordsOf d4).length : Int) < 4
                · rw [decide_eq_true cw] at k ⊢
                  exact iteT (k H1 s1)
                · rw [decide_eq_false cw] at k ⊢
                  have k : ∀ H', Same H H' → Q (.bl (inI 0 250 d5 && decide (intOf d5 = chk n p l (wordsOf d4)))) H' := k
                  refine iteF ?_
                  refine ⟨_, rfl, 251, x5, d5, h, rfl, i5.same s1, _, rfl, ?_⟩
                  show if inI 0 250 d5 = true then _ else _
                  cases c5 : inI 0 250 d5 with
                  | false =>
                    rw [c5] at k
                    exact iteF (k H1 s1)
                  | true =>
                    obtain ⟨c, rfl, _, _⟩ := inI_yes c5
                    cases i5
                    rw [c5, Bool.true_and] at k
                    refine iteT ⟨_, rfl, _, rfl, _, rfl, _, rfl, _, rfl, n, p, l, b, wordsOf d4, rfl, hb1, by omega, fun H2 s2 => ⟨rfl, ?_⟩⟩
                    rw [dec_int]
                    exact k H2 (s1.trans s2)
              · rw [decide_eq_false cl] at k ⊢
                have k : ∀ H', Same H H' → Q (.bl (inI 0 250 d5 && decide (intOf d5 = chk n p l (wordsOf d4)))) H' := k
                refine iteF (iteF ?_)
                refine ⟨_, rfl, 251, x5, d5, h, rfl, i5.same s1, _, rfl, ?_⟩
                show if inI 0 250 d5 = true then _ else _
                cases c5 : inI 0 250 d5 with
                | false =>
                  rw [c5] at k
                  exact iteF (k H1 s1)
                | true =>
                  obtain ⟨c, rfl, _, _⟩ := inI_yes c5
                  cases i5
                  rw [c5, Bool.true_and] at k
                  refine iteT ⟨_, rfl, _, rfl, _, rfl, _, rfl, _, rfl, n, p, l, b, wordsOf d4, rfl, hb1, by omega, fun H2 s2 => ⟨rfl, ?_⟩⟩
                  rw [dec_int]
                  exact k H2 (s1.trans s2)
end

/-! ### the law's own looks -/
section
variable {P : Program} {w : World} {K : PySem.W.Frag} {mg : Str → Option Value} {base : Heap} {A : Adr}
def spWithin : Sp := fun vs H Q _ => ∃ (lo hi : Int) (x : V) (d : Td) (h : Addr), vs = [x, .int lo, .int hi] ∧ Is h H x d ∧ Q (.bl (inI lo hi d)) H
theorem ok_law_is_within (T : Top K mg A) : FnOk P w K mg base CX0 1 A.a_law_is_within A.d_law_is_within P_law_is_within spWithin := by
  refine T.F_law_is_within.ok sc_law_is_within (fun vs H Q E h => ?_) (fun cdv A' outer s H vs Q E hr h => ?_)
  · obtain ⟨lo, hi, x, d, h, rfl, _⟩ := h
    rfl
  · obtain ⟨lo, hi, x, d, h, rfl, ix, k⟩ := h
    obtain ⟨t, ty, e1, e2, _⟩ := is_ty T ix
    refine ⟨_, (pss_one (ps_ret (pe_and (pe_callB call_isi (by rfl) T.z_isinstance (by decide +kernel) (pa_cons (pv 0) (pa_cons (pe_bltn (v := .ty "int") (by rfl) T.z_int (by decide +kernel) rfl) pa_nil))) (pe_and (pe_not (pe_callB call_isi (by rfl) T.z_isinstance (by decide +kernel) (pa_cons (pv 0) (pa_cons (pe_bltn (v := .ty "bool") (by rfl) T.z_bool (by decide +kernel) rfl) pa_nil)))) (pe_one (pe_chain op_le op_le (pv 1) (pv 0) (pv 2))))))), ?_⟩
    refine ⟨_, rfl, _, _, _, _, _, rfl, .ty "int", ty, e1, (isI d || isBl d), rfl, ?_⟩
    cases c : isI d with
    | false =>
      rw [inI_no c] at k
      cases c2 : isBl d with
      | false => exact iteF k
      | true =>
        refine iteT ⟨_, rfl, _, _, _, _, _, rfl, .ty "bool", ty, e2, _, rfl, ?_⟩
        rw [c2]
        exact ⟨false, rfl, iteF k⟩
    | true =>
      obtain ⟨i, rfl, rfl⟩ := is_int ix c
      refine iteT ⟨_, rfl, _, _, _, _, _, rfl, .ty "bool", ty, e2, _, rfl, true, rfl, iteT ?_⟩
      refine ⟨_, rfl, _, rfl, _, _, rfl, rfl, _, rfl, ?_⟩
      by_cases c : lo ≤ i
      · simp only [inI, decide_eq_true c, Bool.true_and] at k
        rw [decide_eq_true c]
        refine iteT ⟨_, rfl, _, _, rfl, rfl, k⟩
      · simp only [inI, decide_eq_false c, Bool.false_and] at k
        rw [decide_eq_false c]
        exact iteF k
def spLWords : Sp := fun vs H Q _ => ∃ (m : Int) (x : V) (d : Td) (h : Addr), vs = [x, .int m] ∧ Is h H x d ∧ m ≤ 1000 ∧ ∀ H', Same H H' → Q (.bl (wordsB m d)) H'
theorem ok_law_are_words (T : Top K mg A) : FnOk P w K mg base CX0 4 A.a_law_are_words A.d_law_are_words P_law_are_words spLWords := by
  refine T.F_law_are_words.ok sc_law_are_words (fun vs H Q E h => ?_) (fun cdv A' outer s H vs Q E hr h => ?_)
  · obtain ⟨m, x, d, h, rfl, _⟩ := h
    rfl
  · obtain ⟨m, x, d, h, rfl, ix, hm, k⟩ := h
    obtain ⟨t, ty, _, _, e3⟩ := is_ty T ix
    refine ⟨_, (pss_cons (ps_if (PW.pt (pw_or (pt_not (pt_val (pe_callB call_isi (by rfl) T.z_isinstance (by decide +kernel) (pa_cons (pv 0) (pa_cons (pe_bltn (v := .ty "tuple") (by rfl) T.z_tuple (by decide +kernel) rfl) pa_nil))))) (pw_or1 (pt_not (pt_chain op_le op_le pe_int (pe_callB call_len_seq (by rfl) T.z_len (by decide +kernel) (pa_cons (pv 0) pa_nil)) (pv 1)))))) (pss_one (ps_ret pe_bl)) pss_nil)
    (pss_one (ps_ret (pe_callB (cr_all rfl) (by rfl) T.z_all (by decide +kernel) (pa_cons (pe_lc (own := [("_law_word_here", 2)]) (by rfl) sc_law_are_words.nd (pi_tup (pv 0)) (blkOk_by (own := [("_law_word_here", 2)]) (N := N_law_are_words) (sc := defScope s_law_are_words) (by decide +kernel)) (fun _ _ _ _ _ => (pg_name (i := 2) sc_law_are_words.nd rfl (.inl rfl))) (fun _ _ _ _ _ => pts_nil) (fun _ _ _ _ _ => (pe_call (ok_law_is_within (P := P) (w := w) T) (hr.mono (by decide)) (by rfl) T.g_law_is_within T.F_law_is_within.kp T.b_law_is_within .nil pass0 (pa_cons (pv 2) (pa_cons pe_int (pa_cons pe_int pa_nil)))))) pa_nil))))), ?_⟩
    refine ⟨_, rfl, _, _, _, _, _, rfl, .ty "tuple", ty, e3, _, rfl, ?_⟩
    cases c : isT d with
    | false =>
      rw [wordsB_no c] at k
      exact iteT (k H fun _ _ e => e)
    | true =>
      obtain ⟨a, xs, ds, rfl, rfl, ha, hl⟩ := isT_of ix c
      have lx := hl.len
      have k : ∀ H', Same H H' → Q (.bl ((decide (1 ≤ (ds.length : Int)) && decide ((ds.length : Int) ≤ m)) && ds.all (inI 0 255))) H' := k
      refine iteF ⟨_, rfl, a, xs, rfl, .inr (SqT.of ha), _, _, rfl, rfl, _, rfl, ?_⟩
      by_cases c1 : (1 : Int) ≤ ds.length
      · rw [decide_eq_true (show (1 : Int) ≤ xs.length by omega)]
        rw [decide_eq_true c1] at k
        refine iteT ⟨_, rfl, _, _, rfl, rfl, _, rfl, ?_⟩
        by_cases c2 : (ds.length : Int) ≤ m
        · rw [decide_eq_true (show (xs.length : Int) ≤ m by omega)]
          rw [decide_eq_true c2] at k
          refine iteF ⟨_, rfl, a, rfl, ⟨_, SqT.of ha⟩, fun D nD => ?_⟩
          refine lc_tup (K := K) (a := a) (xs := xs) (LP H D ((ds.map (inI 0 255)).map V.bl)) (LP.start nD) (fun i H' _ p => SqT.of (p.1 _ _ ha)) ?_ ?_
          · rintro i y H' hi p
            obtain ⟨e, he, ie⟩ := hl.get hi
            refine ⟨by kernel_rfl, ?_⟩
            refine ⟨_, rfl, 0, 255, y, e, h, rfl, ie.same p.1, ?_⟩
            exact lcPut nD p (fun _ _ e => e) (map_at (map_at he)) (by rw [List.length_map, List.length_map]; omega)
          · rintro H' ⟨s1, d1⟩
            rw [take_all (by rw [List.length_map, List.length_map]; exact lx)] at d1
            refine ⟨D, _, rfl, SqL.of d1, ?_⟩
            rw [List.all_map]
            exact k H' s1
        · rw [decide_eq_false (show ¬ (xs.length : Int) ≤ m by omega)]
          rw [decide_eq_false c2] at k
          exact iteT (k H fun _ _ e => e)
      · rw [decide_eq_false (show ¬ (1 : Int) ≤ xs.length by omega)]
        rw [decide_eq_false c1] at k
        exact iteF ⟨_, rfl, iteT (k H fun _ _ e => e)⟩
/-! ### packets drawn -/
theorem inV_int {o : Int} : ∀ {os : List Int}, inV (.int o) (os.map V.int) = decide (o ∈ os)
  | [] => rfl
  | x :: os => by
    unfold inV
    rw [List.map_cons, List.any_cons]
    have ih : (List.any (os.map V.int) fun y => eqV y (.int o)) = decide (o ∈ os) := inV_int
    rw [ih]
    have h1 : eqV (.int x) (.int o) = decide (x = o) := rfl
    rw [h1]
    by_cases c : x = o
    · subst c
      simp
    · have c2 : ¬ o = x := fun z => c z.symm
      simp [c, c2]
theorem DeckAt.but {H H' : Hp} {h g F : Addr} (a : DeckAt H h g) (b : ∀ q, q ≠ F → H' q = H q) (h1 : F ≠ h) (h2 : F ≠ g) : DeckAt H' h g :=
  ⟨let ⟨ns, e⟩ := a.cells; ⟨ns, by rw [b _ h2.symm]; exact e⟩, let ⟨i, m, t, sd, e, hi⟩ := a.five; ⟨i, m, t, sd, by rw [b _ h1.symm]; exact e, hi⟩, a.ne⟩
structure OutsOk (os : List Int) : Prop where
  asc : os.Pairwise (· < ·)
  one : 1 ≤ os.length
  few : os.length ≤ 3
  lt : ∀ o ∈ os, 0 ≤ o ∧ o ≤ 11
def spLOuts : Sp := fun vs H Q _ => ∃ (h g : Addr), vs = [.ref h, .int 12, .int 3, .int 0] ∧ DeckAt H h g ∧ ∀ (H' : Hp) (p : Addr) (os : List Int), Kp h H H' → DeckAt H' h g → H' p = some (.tup (os.map V.int)) → OutsOk os → Q (.ref p) H'
theorem ok_law_outs (T : Top K mg A) : FnOk P w K mg base CX0 3 A.a_law_outs A.d_law_outs P_law_outs spLOuts := by
  refine T.F_law_outs.ok sc_law_outs (fun vs H Q E h => ?_) (fun cdv A' outer s H vs Q E hr h => ?_)
  · obtain ⟨h, g, rfl, _⟩ := h
    rfl
  · obtain ⟨h, g, rfl, a0, k⟩ := h
    refine ⟨_, (pss_cons (ps_set (i := 4) sc_law_outs.nd rfl (.inl rfl) (pe_lst pa_nil))
    (pss_cons (ps_for PassesOwn.never rfl (pi_range1 rfl T.z_range (pa_cons (pe_op op_add pe_int (pe_call (ok_law_draw T) (hr.mono (by decide)) (by rfl) T.g_law_draw T.F_law_draw.kp T.b_law_draw .nil pass0 (pa_cons (pv 0) (pa_cons (pv 2) pa_nil)))) pa_nil)) (pg_name (i := 5) sc_law_outs.nd rfl (.inl rfl)) (pss_cons (ps_set (i := 6) sc_law_outs.nd rfl (.inl rfl) (pe_call (ok_law_draw T) (hr.mono (by decide)) (by rfl) T.g_law_draw T.F_law_draw.kp T.b_law_draw .nil pass0 (pa_cons (pv 0) (pa_cons (pv 1) pa_nil))))
    (Evl.pss_cut (ps_if (pt_cmpR op_eq (pe_call (ok_law_draw T) (hr.mono (by decide)) (by rfl) T.g_law_draw T.F_law_draw.kp T.b_law_draw .nil pass0 (pa_cons (pv 0) (pa_cons pe_int pa_nil))) pe_int (nomark _)) (pss_one (ps_set (i := 6) sc_law_outs.nd rfl (.inl rfl) (pv 3))) pss_nil)
    (pss_one (ps_if (pt_cmpR op_notIn_seq (pv 6) (pv 4) (by rfl)) (pss_one (ps_expr (pe_bm PySem.F.plainAttrs_list PySem.F.slot_list_append PySem.F.type_list_append mt_append (pv 4) (pa_cons (pv 6) pa_nil)))) pss_nil)))))
    (pss_one (ps_ret (pe_callTy call_tuple_of (by rfl) T.z_tuple (by decide +kernel) (pa_cons (pe_callB cr_sortedI (by rfl) T.z_sorted (by decide +kernel) (pa_cons (pv 4) pa_nil)) pa_nil)))))), ?_⟩
    refine ⟨by show 0 ≤ sizeLine; decide, fun F nF => ?_⟩
    have s0 := same_upd nF (o := .lst [])
    have a1 := a0.same s0
    have Fh : F ≠ h := fun z => by
      obtain ⟨_, e⟩ := a0.lst
      rw [← z, nF] at e
      cases e
    have Fg : F ≠ g := fun z => by
      obtain ⟨_, e⟩ := a0.cells
      rw [← z, nF] at e
      cases e
    refine ⟨_, rfl, _, rfl, h, g, 3, rfl, a1, by decide, by decide, fun H1 d b1 a2 d0 d1 => ⟨1, d, rfl, rfl, 1 + d, rfl, by omega, by omega, ?_⟩⟩
    have F1 : H1 F = some (.lst []) := by rw [b1 F Fh]; exact upd_same
    refine for_range (lo := 0) (n := (1 + d).toNat) (fun i σ H' => ∃ (y5 y6 : Option V) (os : List Int), σ = [some (.ref h), some (.int 12), some (.int 3), some (.int 0), some (.ref F), y5, y6] ∧ (∀ b, b ≠ h → b ≠ F → H' b = H1 b) ∧ DeckAt H' h g ∧ H' F = some (.lst (os.map V.int)) ∧ os.Nodup ∧ os.length ≤ i ∧ (1 ≤ i → 1 ≤ os.length) ∧ ∀ o ∈ os, 0 ≤ o ∧ o ≤ 11)
      ⟨_, _, [], rfl, fun _ _ _ => rfl, a2, F1, List.nodup_nil, Nat.le_refl _, fun h => absurd h (by decide), fun o ho => absurd ho List.not_mem_nil⟩ ?_ ?_
    · rintro i σ H2 hi ⟨y5, y6, os, rfl, o2, a3, eF, nd, le, pos, bd⟩
      refine ⟨_, rfl, _, rfl, h, g, 12, rfl, a3, by decide, by decide, fun H3 d3 b3 a4 d30 d31 => ?_⟩
      refine ⟨fun σ' H' => ∃ (y5 : Option V) (z : Int), σ' = [some (.ref h), some (.int 12), some (.int 3), some (.int 0), some (.ref F), y5, some (.int z)] ∧ But h H3 H' ∧ DeckAt H' h g ∧ 0 ≤ z ∧ z ≤ 11, ?_, ?_⟩
      · refine ⟨_, rfl, h, g, 3, rfl, a4, by decide, by decide, fun H4 d4 b4 a5 _ _ => ⟨rfl, _, rfl, ite2 (fun c => ?_) (fun c => ?_)⟩⟩
        · exact ⟨_, rfl, _, 0, rfl, b4, a5, by decide, by decide⟩
        · exact ⟨_, d3, rfl, b4, a5, d30, by omega⟩
      rintro σ' H4 ⟨y5, z, rfl, b4, a5, z0, z1⟩
      have eF4 : H4 F = some (.lst (os.map V.int)) := by rw [b4 F Fh, b3 F Fh]; exact eF
      have o4 : ∀ b, b ≠ h → b ≠ F → H4 b = H1 b := fun b h1 h2 => by rw [b4 b h1, b3 b h1]; exact o2 b h1 h2
      refine ⟨_, rfl, _, rfl, F, _, rfl, .inl (SqL.of eF4), rfl, ?_, _, rfl, ?_⟩
      · rw [List.all_map]
        exact List.all_eq_true.mpr fun _ _ => rfl
      show if (!inV (.int z) (os.map V.int)) = true then _ else _
      rw [inV_int]
      by_cases c : z ∈ os
      · rw [decide_eq_true c]
        exact iteF ⟨_, _, os, rfl, o4, a5, eF4, nd, by omega, fun _ => List.length_pos_of_mem c, bd⟩
      · rw [decide_eq_false c]
        refine iteT ⟨_, rfl, .inl ⟨rfl, _, SqL.of eF4⟩, _, rfl, F, _, _, rfl, rfl, eF4, small1000 (by rw [List.length_map]; omega), ?_⟩
        refine ⟨_, _, os ++ [z], rfl, fun b h1 h2 => by rw [upd_ne h2]; exact o4 b h1 h2, a5.but (fun q hq => upd_ne hq) Fh Fg, by rw [upd_same, List.map_append]; rfl, ?_, ?_, fun _ => ?_, fun o ho => ?_⟩
        · rw [List.nodup_append]
          exact ⟨nd, List.nodup_cons.mpr ⟨List.not_mem_nil, List.nodup_nil⟩, fun a ha b hb e => by
            rw [List.mem_singleton] at hb
            rw [e, hb] at ha
            exact c ha⟩
        · rw [List.length_append]
          show os.length + 1 ≤ i + 1
          omega
        · rw [List.length_append]
          show 1 ≤ os.length + 1
          omega
        · rcases List.mem_append.mp ho with q | q
          · exact bd o q
          · rw [List.mem_singleton] at q
            rw [q]
            exact ⟨z0, z1⟩
    · rintro σ H2 ⟨y5, y6, os, rfl, o2, a3, eF, nd, le, pos, bd⟩
      refine ⟨_, rfl, F, os, rfl, SqL.of eF, fun ns p pm pw np => ⟨p, _, rfl, .inl ⟨SqL.of upd_same, fun q nq => ?_⟩⟩⟩
      have s3 := same_upd np (o := .lst (ns.map V.int))
      have s4 := same_upd nq (o := .tup (ns.map V.int))
      have nd2 := pm.nodup_iff.mpr nd
      refine k _ q ns (fun b o hb e => ?_) (a3.same (s3.trans s4)) upd_same ⟨?_, by rw [pm.length_eq]; exact pos (by omega), by rw [pm.length_eq]; omega, fun o ho => bd o (pm.mem_iff.mp ho)⟩
      · have bF : b ≠ F := fun z => by rw [z, nF] at e; cases e
        have e2 : H2 b = some o := by rw [o2 b hb bF, b1 b hb]; exact s0 _ _ e
        exact (s3.trans s4) _ _ e2
      · exact (pw.and nd2).imp fun h => by omega
end

section
variable {P : Program} {w : World} {K : PySem.W.Frag} {mg : Str → Option Value} {base : Heap} {A : Adr}
/-- a drawn packet at p -/
structure PackAt (H : Hp) (p : Addr) (s k : Int) (q1 q2 : Addr) (os ws : List Int) : Prop where
  at_ : H p = some (.tup [.int s, .int k, .ref q1, .ref q2])
  outs : H q1 = some (.tup (os.map V.int))
  words : H q2 = some (.tup (ws.map V.int))
structure PackOk (s k : Int) (os ws : List Int) : Prop where
  s0 : 0 ≤ s ∧ s ≤ 99
  k0 : 0 ≤ k ∧ k ≤ 7
  os : OutsOk os
  one : 1 ≤ ws.length
  few : ws.length ≤ 40
  lt : ∀ x ∈ ws, 0 ≤ x ∧ x ≤ 255
def spLPack : Sp := fun vs H Q _ => ∃ (h g : Addr), vs = [.ref h, .int 12, .int 3] ∧ DeckAt H h g ∧ ∀ (H' : Hp) (p : Addr) (s k : Int) (q1 q2 : Addr) (os ws : List Int), Kp h H H' → DeckAt H' h g → PackAt H' p s k q1 q2 os ws → PackOk s k os ws → Q (.ref p) H'
theorem ok_law_packet (T : Top K mg A) : FnOk P w K mg base CX0 4 A.a_law_packet A.d_law_packet P_law_packet spLPack := by
  refine T.F_law_packet.ok sc_law_packet (fun vs H Q E h => ?_) (fun cdv A' outer s H vs Q E hr h => ?_)
  · obtain ⟨h, g, rfl, _⟩ := h
    rfl
  · obtain ⟨h, g, rfl, a0, k⟩ := h
    refine ⟨_, (pss_cons (ps_set (i := 3) sc_law_packet.nd rfl (.inl rfl) (pe_ix ix_list (pe_lst (pa_cons pe_int (pa_cons pe_int (pa_cons pe_int (pa_cons pe_int (pa_cons pe_int (pa_cons pe_int (pa_cons pe_int (pa_cons pe_int pa_nil))))))))) (pe_call (ok_law_draw T) (hr.mono (by decide)) (by rfl) T.g_law_draw T.F_law_draw.kp T.b_law_draw .nil pass0 (pa_cons (pv 0) (pa_cons pe_int pa_nil))) (fun _ _ => rfl)))
    (pss_cons (ps_set (i := 4) sc_law_packet.nd rfl (.inl rfl) (pe_callTy call_tuple_of (by rfl) T.z_tuple (by decide +kernel) (pa_cons (pe_lc (own := [("_law_k", 5)]) (by rfl) sc_law_packet.nd (pi_range1 rfl T.z_range (pa_cons (pe_op op_add pe_int (pe_call (ok_law_draw T) (hr.mono (by decide)) (by rfl) T.g_law_draw T.F_law_draw.kp T.b_law_draw .nil pass0 (pa_cons (pv 0) (pa_cons (pv 3) pa_nil)))) pa_nil)) (blkOk_by (own := [("_law_k", 5)]) (N := N_law_packet) (sc := defScope s_law_packet) (by decide +kernel)) (fun _ _ _ _ _ => (pg_name (i := 5) sc_law_packet.nd rfl (.inl rfl))) (fun _ _ _ _ _ => pts_nil) (fun _ _ _ _ _ => (pe_call (ok_law_draw (P := P) (w := w) T) (hr.mono (by decide)) (by rfl) T.g_law_draw T.F_law_draw.kp T.b_law_draw .nil pass0 (pa_cons (pv 0) (pa_cons pe_int pa_nil))))) pa_nil)))
    (pss_one (ps_ret (pe_tup (pa_cons (pe_call (ok_law_draw T) (hr.mono (by decide)) (by rfl) T.g_law_draw T.F_law_draw.kp T.b_law_draw .nil pass0 (pa_cons (pv 0) (pa_cons pe_int pa_nil))) (pa_cons (pe_call (ok_law_draw T) (hr.mono (by decide)) (by rfl) T.g_law_draw T.F_law_draw.kp T.b_law_draw .nil pass0 (pa_cons (pv 0) (pa_cons pe_int pa_nil))) (pa_cons (pe_call (ok_law_outs T) (hr.mono (by decide)) (by rfl) T.g_law_outs T.F_law_outs.kp T.b_law_outs .nil pass0 (pa_cons (pv 0) (pa_cons (pv 1) (pa_cons (pv 2) (pa_cons pe_int pa_nil))))) (pa_cons (pv 4) pa_nil))))))))), ?_⟩
    refine ⟨by show 8 ≤ sizeLine; decide, fun l nl => ?_⟩
    have s0 := same_upd nl (o := .lst [.int 1, .int 3, .int 4, .int 5, .int 8, .int 9, .int 12, .int 40])
    have a1 := a0.same s0
    have lh : l ≠ h := fun z => by
      obtain ⟨_, e⟩ := a0.lst
      rw [← z, nl] at e
      cases e
    refine ⟨_, rfl, h, g, 8, rfl, a1, by decide, by decide, fun H1 d b1 a2 d0 d1 => ?_⟩
    have el : H1 l = some (.lst [.int 1, .int 3, .int 4, .int 5, .int 8, .int 9, .int 12, .int 40]) := by rw [b1 l lh]; exact upd_same
    have hv : ∃ z : Int, ([.int 1, .int 3, .int 4, .int 5, .int 8, .int 9, .int 12, .int 40] : List V)[d.toNat]? = some (.int z) ∧ 1 ≤ z ∧ z ≤ 40 := by
      have hd : d.toNat < 8 := by omega
      match d.toNat, hd with
      | 0, _ => exact ⟨1, rfl, by decide, by decide⟩
      | 1, _ => exact ⟨3, rfl, by decide, by decide⟩
      | 2, _ => exact ⟨4, rfl, by decide, by decide⟩
      | 3, _ => exact ⟨5, rfl, by decide, by decide⟩
      | 4, _ => exact ⟨8, rfl, by decide, by decide⟩
      | 5, _ => exact ⟨9, rfl, by decide, by decide⟩
      | 6, _ => exact ⟨12, rfl, by decide, by decide⟩
      | 7, _ => exact ⟨40, rfl, by decide, by decide⟩
      | n + 8, h => omega
    obtain ⟨z, hz, z0, z1⟩ := hv
    refine ⟨l, _, d, _, rfl, rfl, SqL.of el, at_of (by omega) hz, ?_⟩
    have k01 : Kp h H H1 := fun q o hq e => by rw [b1 q hq]; exact s0 _ _ e
    refine ⟨_, rfl, _, rfl, h, g, z, rfl, a2, by omega, by omega, fun H2 d2 b2 a3 d20 d21 => ⟨1, d2, rfl, rfl, 1 + d2, rfl, by omega, by omega, fun W nW => ?_⟩⟩
    have k02 : Kp h H H2 := fun q o hq e => by rw [b2 q hq]; exact k01 q o hq e
    have Wh : W ≠ h := fun z => by
      obtain ⟨_, e⟩ := a3.lst
      rw [← z, nW] at e
      cases e
    have Wg : W ≠ g := fun z => by
      obtain ⟨_, e⟩ := a3.cells
      rw [← z, nW] at e
      cases e
    refine lc_range (lo := 0) (n := (1 + d2).toNat) (fun i H' => ∃ ws : List Int, (∀ b, b ≠ h → b ≠ W → H' b = H2 b) ∧ DeckAt H' h g ∧ H' W = some (.lst (ws.map V.int)) ∧ ws.length = i ∧ ∀ x ∈ ws, 0 ≤ x ∧ x ≤ 255)
      ⟨[], fun b _ hb => upd_ne hb, a3.same (same_upd nW), upd_same, rfl, fun x hx => absurd hx List.not_mem_nil⟩ ?_ ?_
    · rintro i H3 hi ⟨ws, o3, a4, eW, lw, bd⟩
      refine ⟨by kernel_rfl, ?_⟩
      refine ⟨_, rfl, h, g, 256, rfl, a4, by decide, by decide, fun H4 x b4 a5 x0 x1 => ?_⟩
      have eW4 : H4 W = some (.lst (ws.map V.int)) := by rw [b4 W Wh]; exact eW
      refine ⟨_, eW4, small1000 (by rw [List.length_map]; omega), ws ++ [x], fun b h1 h2 => by rw [upd_ne h2, b4 b h1]; exact o3 b h1 h2, a5.but (fun q hq => upd_ne hq) Wh Wg, by rw [upd_same, List.map_append]; rfl, by rw [List.length_append, lw]; rfl, fun y hy => ?_⟩
      rcases List.mem_append.mp hy with q | q
      · exact bd y q
      · rw [List.mem_singleton] at q
        rw [q]
        exact ⟨x0, by omega⟩
    rintro H3 ⟨ws, o3, a4, eW, lw, bd⟩
    have k03 : Kp h H H3 := fun q o hq e => by
      have e2 := k02 q o hq e
      have qW : q ≠ W := fun z => by rw [z, nW] at e2; cases e2
      rw [o3 q hq qW]
      exact e2
    refine ⟨W, _, rfl, .inl ⟨SqL.of eW, fun q2 nq2 => ?_⟩⟩
    have s4 := same_upd nq2 (o := .tup (ws.map V.int))
    have e2 : upd H3 q2 (.tup (ws.map V.int)) q2 = some (.tup (ws.map V.int)) := upd_same
    have a5 := a4.same s4
    have k04 := k03.same s4
    have qh : q2 ≠ h := fun z => by
      obtain ⟨_, e⟩ := a4.lst
      rw [← z, nq2] at e
      cases e
    generalize upd H3 q2 (.tup (ws.map V.int)) = H4 at e2 a5 k04 ⊢
    refine ⟨_, rfl, h, g, 100, rfl, a5, by decide, by decide, fun H5 s b5 a6 s00 s01 => ⟨_, rfl, h, g, 8, rfl, a6, by decide, by decide, fun H6 kk b6 a7 k00 k011 => ⟨_, rfl, _, rfl, _, rfl, h, g, rfl, a7, fun H7 q1 os kp7 a8 eo oo => ⟨_, rfl, by show 4 ≤ sizeLine; decide, fun p np => ?_⟩⟩⟩⟩
    have k46 : Kp h H4 H6 := fun q o hq e => by rw [b6 q hq, b5 q hq]; exact e
    have k47 := k46.trans kp7
    have s8 := same_upd np (o := .tup [.int s, .int kk, .ref q1, .ref q2])
    exact k _ p s kk q1 q2 os ws ((k04.trans k47).same s8) (a8.same s8) ⟨upd_same, s8 _ _ eo, s8 _ _ (k47 q2 _ qh e2)⟩ ⟨⟨s00, by omega⟩, ⟨k00, by omega⟩, oo, by omega, by omega, bd⟩
end

/-! ### loads made -/
def cutI (xs : List Int) (lo hi : Option Int) : List Int := (xs.drop (HT.sIx xs.length 0 lo)).take (HT.sIx xs.length xs.length hi - HT.sIx xs.length 0 lo)
theorem cut_ints (xs : List Int) (lo hi : Option Int) : cutV (xs.map V.int) lo hi = (cutI xs lo hi).map V.int := by
  unfold cutV cutI
  rw [List.length_map, List.map_take, List.map_drop]
theorem cut_quad (xs : List Int) (p : Nat) : cutI xs (some (4 * (p : Int))) (some (4 * (p : Int) + 4)) = (xs.drop (4 * p)).take 4 := by
  unfold cutI
  rw [show (4 * (p : Int)) = ((4 * p : Nat) : Int) by omega, show (((4 * p : Nat) : Int) + 4) = ((4 * p + 4 : Nat) : Int) by omega, HT.sIx_nat, HT.sIx_nat]
  by_cases h : 4 * p ≤ xs.length
  · rw [Nat.min_eq_left h]
    by_cases h2 : 4 * p + 4 ≤ xs.length
    · rw [Nat.min_eq_left h2, show 4 * p + 4 - 4 * p = 4 by omega]
    · rw [Nat.min_eq_right (by omega)]
      rw [List.take_of_length_le (by rw [List.length_drop]; exact Nat.le_refl _), List.take_of_length_le (by rw [List.length_drop]; omega)]
  · rw [show min (4 * p) xs.length = xs.length by omega, List.drop_of_length_le (Nat.le_refl _), List.drop_of_length_le (show xs.length ≤ 4 * p by omega), List.take_nil, List.take_nil]
theorem sumW_snoc : ∀ (k : Int) (ws : List Int) (i : Nat) (x : Int), ws[i]? = some x → sumW k (ws.take (i + 1)) = sumW k (ws.take i) + (k + (i : Int)) * x
  | k, y :: ys, 0, x, h => by
    cases h
    show k * y + sumW (k + 1) [] = 0 + (k + 0) * y
    show k * y + 0 = 0 + (k + 0) * y
    rw [Int.add_zero, Int.zero_add, Int.add_zero]
  | k, y :: ys, i + 1, x, h => by
    have q := sumW_snoc (k + 1) ys i x h
    show k * y + sumW (k + 1) (ys.take (i + 1)) = (k * y + sumW (k + 1) (ys.take i)) + (k + ((i + 1 : Nat) : Int)) * x
    rw [q, show k + 1 + (i : Int) = k + ((i + 1 : Nat) : Int) by omega, Int.add_assoc]
/-- a load at p -/
structure LoadAt (H : Hp) (p : Addr) (n pa l : Int) (q : Addr) (ws : List Int) (c : Int) : Prop where
  at_ : H p = some (.tup [.int n, .int pa, .int l, .ref q, .int c])
  words : H q = some (.tup (ws.map V.int))
theorem LoadAt.same {H H' : Hp} {p : Addr} {n pa l : Int} {q : Addr} {ws : List Int} {c : Int} (a : LoadAt H p n pa l q ws c) (s : Same H H') : LoadAt H' p n pa l q ws c := ⟨s _ _ a.at_, s _ _ a.words⟩
def loadT (n pa l : Int) (ws : List Int) (c : Int) : Td := .tup [.int n, .int pa, .int l, .tup (ws.map Td.int), .int c]
theorem LoadAt.is {H : Hp} {p : Addr} {n pa l : Int} {q : Addr} {ws : List Int} {c : Int} (a : LoadAt H p n pa l q ws c) (h : Addr) : Is h H (.ref p) (loadT n pa l ws c) :=
  .tup a.at_ (.cons (.int _) (.cons (.int _) (.cons (.int _) (.cons (.tup a.words IsL.ints) (.cons (.int _) .nil)))))
theorem chk_eq (n pa l : Int) (ws : List Int) (z : Int) (h : z = 7 * pa + 11 * l + 13 * n + sumW 1 ws) : z % 251 = chk n pa l ws := by
  unfold chk
  rw [h]
  congr 1
  omega
section
variable {P : Program} {w : World} {K : PySem.W.Frag} {mg : Str → Option Value} {base : Heap} {A : Adr}
def spLLoad : Sp := fun vs H Q _ => ∃ (n : Int) (a : Addr) (ws : List Int) (p : Nat), vs = [.int n, .ref a, .int (p : Int)] ∧ H a = some (.tup (ws.map V.int)) ∧ ws.length ≤ 1000 ∧
  ∀ (H' : Hp) (r q : Addr), Same H H' → LoadAt H' r n (p : Int) (((ws.length : Int) - 1) / 4 - (p : Int)) q ((ws.drop (4 * p)).take 4) (chk n (p : Int) (((ws.length : Int) - 1) / 4 - (p : Int)) ((ws.drop (4 * p)).take 4)) → Q (.ref r) H'
theorem ok_law_load (T : Top K mg A) : FnOk P w K mg base CX0 1 A.a_law_load A.d_law_load P_law_load spLLoad := by
  refine T.F_law_load.ok sc_law_load (fun vs H Q E h => ?_) (fun cdv A' outer s H vs Q E hr h => ?_)
  · obtain ⟨n, a, ws, p, rfl, _⟩ := h
    rfl
  · obtain ⟨n, a, ws, p, rfl, ha, lw, k⟩ := h
    refine ⟨_, (pss_cons (ps_set (i := 3) sc_law_load.nd rfl (.inl rfl) (pe_op op_sub (pe_op op_fdiv (pe_op op_sub (pe_callB call_len_seq (by rfl) T.z_len (by decide +kernel) (pa_cons (pv 1) pa_nil)) pe_int) pe_int) (pv 2)))
    (pss_cons (ps_set (i := 4) sc_law_load.nd rfl (.inl rfl) (pe_slice sl_tupA (pv 1) (po_some (pe_op op_mul pe_int (pv 2))) (po_some (pe_op op_add (pe_op op_mul pe_int (pv 2)) pe_int))))
    (pss_cons (ps_set (i := 5) sc_law_load.nd rfl (.inl rfl) (pe_op op_add (pe_op op_add (pe_op op_mul pe_int (pv 2)) (pe_op op_mul pe_int (pv 3))) (pe_op op_mul pe_int (pv 0))))
    (pss_cons (ps_for PassesOwn.never rfl (pi_range1 rfl T.z_range (pa_cons (pe_callB call_len_seq (by rfl) T.z_len (by decide +kernel) (pa_cons (pv 4) pa_nil)) pa_nil)) (pg_name (i := 6) sc_law_load.nd rfl (.inl rfl)) (pss_one (ps_set (i := 5) sc_law_load.nd rfl (.inl rfl) (pe_op op_add (pv 5) (pe_op op_mul (pe_op op_add (pv 6) pe_int) (pe_ix ix_tup (pv 4) (pv 6) (fun _ _ => rfl)))))))
    (pss_one (ps_ret (pe_tup (pa_cons (pv 0) (pa_cons (pv 2) (pa_cons (pv 3) (pa_cons (pv 4) (pa_cons (pe_op op_mod (pe_callTy call_int1 (by rfl) T.z_int (by decide +kernel) (pa_cons (pv 5) pa_nil)) pe_int) pa_nil)))))))))))), ?_⟩
    refine ⟨_, rfl, a, _, rfl, .inr (SqT.of ha), _, _, rfl, rfl, _, _, rfl, rfl, ⟨by decide, by decide⟩, _, rfl, _, _, rfl, rfl, ?_⟩
    rw [List.length_map]
    refine ⟨_, rfl, _, rfl, _, _, rfl, rfl, .inl ⟨by decide, by decide⟩, _, rfl, _, rfl, _, _, rfl, rfl, .inl ⟨by decide, by decide⟩, _, _, rfl, rfl, _, rfl, ?_⟩
    refine sl_at ha fun H1 q s1 e1 => ?_
    rw [cut_ints, cut_quad] at e1
    have lq : ((ws.drop (4 * p)).take 4).length ≤ 4 := by rw [List.length_take]; omega
    generalize hq : (ws.drop (4 * p)).take 4 = qs at e1 k lq ⊢
    refine ⟨_, rfl, _, _, rfl, rfl, .inl ⟨by decide, by decide⟩, _, rfl, _, _, rfl, rfl, .inl ⟨by decide, by decide⟩, _, _, rfl, rfl, _, rfl, _, _, rfl, rfl, .inl ⟨by decide, by decide⟩, _, _, rfl, rfl, ?_⟩
    refine ⟨_, rfl, q, _, rfl, .inr (SqT.of e1), _, rfl, by omega, by rw [List.length_map]; omega, ?_⟩
    refine for_range (lo := 0) (n := (((qs.map V.int).length : Nat) : Int).toNat) (fun i σ H' => ∃ (y6 : Option V), σ = [some (.int n), some (.ref a), some (.int (p : Int)), some (.int (((ws.length : Int) - 1) / 4 - (p : Int))), some (.ref q), some (.int (7 * (p : Int) + 11 * (((ws.length : Int) - 1) / 4 - (p : Int)) + 13 * n + sumW 1 (qs.take i))), y6] ∧ H' = H1) ⟨_, by
      show _ = ([some (.int n), some (.ref a), some (.int (p : Int)), some (.int (((ws.length : Int) - 1) / 4 - (p : Int))), some (.ref q), some (.int (7 * (p : Int) + 11 * (((ws.length : Int) - 1) / 4 - (p : Int)) + 13 * n + 0)), none] : L2.St)
      rw [Int.add_zero]
      rfl, rfl⟩ ?_ ?_
    · rintro i σ H2 hi ⟨y6, rfl, rfl⟩
      rw [Int.toNat_natCast, List.length_map] at hi
      have hx : qs[i]? = some qs[i] := List.getElem?_eq_getElem hi
      have hx2 : (qs.map V.int)[i]? = some (.int qs[i]) := by rw [List.getElem?_map, hx]; rfl
      refine ⟨_, rfl, _, rfl, _, _, rfl, rfl, _, rfl, _, rfl, q, _, _, _, rfl, rfl, SqT.of e1, at_of (j := i) (by omega) hx2, _, _, rfl, rfl, .inl ⟨by omega, by omega⟩, _, _, rfl, rfl, ?_⟩
      refine ⟨some (.int (0 + (i : Int))), ?_, rfl⟩
      show ([some (.int n), some (.ref a), some (.int (p : Int)), some (.int (((ws.length : Int) - 1) / 4 - (p : Int))), some (.ref q), some (.int (7 * (p : Int) + 11 * (((ws.length : Int) - 1) / 4 - (p : Int)) + 13 * n + sumW 1 (qs.take i) + (0 + (i : Int) + 1) * qs[i])), some (.int (0 + (i : Int)))] : L2.St) = _
      rw [sumW_snoc 1 qs i _ hx, show (0 + (i : Int) + 1) = 1 + (i : Int) by omega, Int.add_assoc (7 * (p : Int) + 11 * (((ws.length : Int) - 1) / 4 - (p : Int)) + 13 * n)]
    · rintro σ H2 ⟨y6, rfl, rfl⟩
      refine ⟨_, rfl, _, rfl, _, rfl, _, rfl, _, rfl, .inl ⟨_, rfl, _, _, rfl, rfl, (by show (0 : Int) < 251; decide), by show 5 ≤ sizeLine; decide, fun r nr => ?_⟩⟩
      have s2 := same_upd nr (o := .tup [.int n, .int (p : Int), .int (((ws.length : Int) - 1) / 4 - (p : Int)), .ref q, .int ((7 * (p : Int) + 11 * (((ws.length : Int) - 1) / 4 - (p : Int)) + 13 * n + sumW 1 (qs.take (((qs.map V.int).length : Nat) : Int).toNat)) % 251)])
      refine k _ r q (s1.trans s2) ⟨?_, s2 _ _ e1⟩
      rw [upd_same]
      have ec := chk_eq n (p : Int) (((ws.length : Int) - 1) / 4 - (p : Int)) qs (7 * (p : Int) + 11 * (((ws.length : Int) - 1) / 4 - (p : Int)) + 13 * n + sumW 1 qs) rfl
      rw [← ec, Int.toNat_natCast, List.length_map, List.take_length]
end

section
variable {P : Program} {w : World} {K : PySem.W.Frag} {mg : Str → Option Value} {base : Heap} {A : Adr}
def spFitted : Sp := fun vs H Q _ => ∃ (a : Addr) (n pa l : Int) (q : Addr) (ws : List Int) (c : Int), vs = [.ref a] ∧ LoadAt H a n pa l q ws c ∧ ws.length ≤ 1000 ∧
  ∀ (H' : Hp) (r : Addr), Same H H' → LoadAt H' r n pa l q ws (chk n pa l ws) → Q (.ref r) H'
theorem ok_law_fitted (T : Top K mg A) : FnOk P w K mg base CX0 1 A.a_law_fitted A.d_law_fitted P_law_fitted spFitted := by
  refine T.F_law_fitted.ok sc_law_fitted (fun vs H Q E h => ?_) (fun cdv A' outer s H vs Q E hr h => ?_)
  · obtain ⟨a, n, pa, l, q, ws, c, rfl, _⟩ := h
    rfl
  · obtain ⟨a, n, pa, l, q, ws, c, rfl, la, lw, k⟩ := h
    have ha := la.at_
    have hq := la.words
    refine ⟨_, (pss_cons (ps_set (i := 1) sc_law_fitted.nd rfl (.inl rfl) (pe_op op_add (pe_op op_add (pe_op op_mul pe_int (pe_ix ix_tup (pv 0) pe_int (fun _ _ => rfl))) (pe_op op_mul pe_int (pe_ix ix_tup (pv 0) pe_int (fun _ _ => rfl)))) (pe_op op_mul pe_int (pe_ix ix_tup (pv 0) pe_int (fun _ _ => rfl)))))
    (pss_cons (ps_for PassesOwn.never rfl (pi_range1 rfl T.z_range (pa_cons (pe_callB call_len_seq (by rfl) T.z_len (by decide +kernel) (pa_cons (pe_ix ix_tup (pv 0) pe_int (fun _ _ => rfl)) pa_nil)) pa_nil)) (pg_name (i := 2) sc_law_fitted.nd rfl (.inl rfl)) (pss_one (ps_set (i := 1) sc_law_fitted.nd rfl (.inl rfl) (pe_op op_add (pv 1) (pe_op op_mul (pe_ix ix_tup (pe_ix ix_tup (pv 0) pe_int (fun _ _ => rfl)) (pv 2) (fun _ _ => rfl)) (pe_op op_add pe_int (pv 2)))))))
    (pss_one (ps_ret (pe_op op_catA (pe_slice sl_tupA (pv 0) po_none (po_some pe_int)) (pe_tup (pa_cons (pe_op op_mod (pe_callTy call_int1 (by rfl) T.z_int (by decide +kernel) (pa_cons (pv 1) pa_nil)) pe_int) pa_nil))))))), ?_⟩
    refine ⟨_, rfl, a, _, _, _, rfl, rfl, SqT.of ha, atI_nat (j := 0) rfl, _, _, rfl, rfl, .inl ⟨by decide, by decide⟩, _, rfl, a, _, _, _, rfl, rfl, SqT.of ha, atI_nat (j := 2) rfl, _, _, rfl, rfl, .inl ⟨by decide, by decide⟩, _, _, rfl, rfl, _, rfl, a, _, _, _, rfl, rfl, SqT.of ha, atI_nat (j := 1) rfl, _, _, rfl, rfl, .inl ⟨by decide, by decide⟩, _, _, rfl, rfl, ?_⟩
    refine ⟨_, rfl, a, _, _, _, rfl, rfl, SqT.of ha, atI_nat (j := 3) rfl, q, _, rfl, .inr (SqT.of hq), _, rfl, by omega, by rw [List.length_map]; omega, ?_⟩
    refine for_range (lo := 0) (n := (((ws.map V.int).length : Nat) : Int).toNat) (fun i σ H' => ∃ (y2 : Option V), σ = [some (.ref a), some (.int (13 * n + 11 * l + 7 * pa + sumW 1 (ws.take i))), y2] ∧ H' = H) ⟨none, by
      show _ = ([some (.ref a), some (.int (13 * n + 11 * l + 7 * pa + 0)), none] : L2.St)
      rw [Int.add_zero]
      rfl, rfl⟩ ?_ ?_
    · rintro i σ H2 hi ⟨y2, rfl, rfl⟩
      rw [Int.toNat_natCast, List.length_map] at hi
      have hx : ws[i]? = some ws[i] := List.getElem?_eq_getElem hi
      have hx2 : (ws.map V.int)[i]? = some (.int ws[i]) := by rw [List.getElem?_map, hx]; rfl
      refine ⟨_, rfl, _, rfl, a, _, _, _, rfl, rfl, SqT.of ha, atI_nat (j := 3) rfl, _, rfl, q, _, _, _, rfl, rfl, SqT.of hq, at_of (j := i) (by omega) hx2, _, rfl, _, _, rfl, rfl, _, _, rfl, rfl, .inr ⟨by omega, by omega⟩, _, _, rfl, rfl, ?_⟩
      refine ⟨some (.int (0 + (i : Int))), ?_, rfl⟩
      show ([some (.ref a), some (.int (13 * n + 11 * l + 7 * pa + sumW 1 (ws.take i) + ws[i] * (1 + (0 + (i : Int))))), some (.int (0 + (i : Int)))] : L2.St) = _
      rw [sumW_snoc 1 ws i _ hx, show (1 + (0 + (i : Int))) = 1 + (i : Int) by omega, Int.add_assoc (13 * n + 11 * l + 7 * pa), Int.mul_comm ws[i]]
    · rintro σ H2 ⟨y2, rfl, rfl⟩
      refine ⟨_, rfl, ?_⟩
      unfold tNoPart
      refine ⟨_, rfl, ?_⟩
      refine sl_at ha fun H3 p s3 e3 => ?_
      have e3 : H3 p = some (.tup [.int n, .int pa, .int l, .ref q]) := e3
      refine ⟨_, rfl, .inl ⟨_, rfl, _, _, rfl, rfl, (by show (0 : Int) < 251; decide), by show 1 ≤ sizeLine; decide, fun t nt => ?_⟩⟩
      have s4 := same_upd nt (o := .tup [.int ((13 * n + 11 * l + 7 * pa + sumW 1 (ws.take (((ws.map V.int).length : Nat) : Int).toNat)) % 251)])
      refine cat_at (s4 _ _ e3) upd_same (by show 4 + 1 ≤ 1000; decide) fun H5 r s5 e5 => ?_
      refine k _ r ((s3.trans s4).trans s5) ⟨?_, s5 _ _ (s4 _ _ (s3 _ _ hq))⟩
      rw [e5]
      have ec := chk_eq n pa l ws (13 * n + 11 * l + 7 * pa + sumW 1 ws) (by omega)
      rw [← ec, Int.toNat_natCast, List.length_map, List.take_length]
      rfl
end

/-! ### the law's looks at packets and loads -/
def stepL : List Int → List Bool
  | x :: y :: r => decide (x < y) :: stepL (y :: r)
  | _ => []
theorem stepL_len : ∀ os : List Int, (stepL os).length = os.length - 1
  | [] => rfl
  | [_] => rfl
  | x :: y :: r => by
    show (stepL (y :: r)).length + 1 = _
    rw [stepL_len (y :: r)]
    simp only [List.length_cons]
    omega
theorem stepL_at : ∀ {os : List Int} {i : Nat} {x y : Int}, os[i]? = some x → os[i + 1]? = some y → (stepL os)[i]? = some (decide (x < y))
  | [], _, _, _, h, _ => by simp at h
  | [_], i, _, _, _, h => by simp at h
  | a :: b :: r, 0, x, y, h1, h2 => by
    cases h1
    cases h2
    rfl
  | a :: b :: r, i + 1, x, y, h1, h2 => by
    show (stepL (b :: r))[i]? = _
    exact stepL_at (os := b :: r) h1 h2
theorem lotL_eq (b : Int) : ∀ (last : Int) (ds : List Td), -1 ≤ last → lotL b last ds = (ds.all (inI 0 (b - 1)) && (stepL (last :: ds.map intOf)).all id)
  | last, [], _ => rfl
  | last, d :: ds, h => by
    show (inI (last + 1) (b - 1) d && lotL b (intOf d) ds) = ((inI 0 (b - 1) d && ds.all (inI 0 (b - 1))) && (decide (last < intOf d) && (stepL (intOf d :: ds.map intOf)).all id))
    cases d with
    | int i =>
      show ((decide (last + 1 ≤ i) && decide (i ≤ b - 1)) && lotL b i ds) = (((decide (0 ≤ i) && decide (i ≤ b - 1)) && ds.all (inI 0 (b - 1))) && (decide (last < i) && (stepL (i :: ds.map intOf)).all id))
      by_cases c : last < i
      · rw [lotL_eq b i ds (by omega), decide_eq_true (show last + 1 ≤ i by omega), decide_eq_true (show 0 ≤ i by omega), decide_eq_true c]
        simp only [Bool.true_and, Bool.and_assoc]
      · rw [decide_eq_false (show ¬ last + 1 ≤ i by omega), decide_eq_false c]
        simp only [Bool.false_and, Bool.and_false]
    | _ => rfl
theorem lotB_eq (ds : List Td) : lotB 12 (.tup ds) = (ds.all (inI 0 11) && (stepL (ds.map intOf)).all id) := by
  show lotL 12 (-1) ds = _
  rw [lotL_eq 12 (-1) ds (by decide)]
  cases c : ds.all (inI 0 (12 - 1)) with
  | false => rw [show ds.all (inI 0 11) = false from c]; rfl
  | true =>
    rw [show ds.all (inI 0 11) = true from c]
    cases ds with
    | nil => rfl
    | cons d ds =>
      rw [List.all_cons, Bool.and_eq_true] at c
      obtain ⟨i, rfl, i0, _⟩ := inI_yes c.1
      show (true && (decide (-1 < i) && (stepL (i :: ds.map intOf)).all id)) = (true && (stepL (i :: ds.map intOf)).all id)
      rw [decide_eq_true (show -1 < i by omega), Bool.true_and]
section
variable {P : Program} {w : World} {K : PySem.W.Frag} {mg : Str → Option Value} {base : Heap} {A : Adr}
def spLIsP : Sp := fun vs H Q _ => ∃ (x : V) (d : Td) (h : Addr), vs = [x] ∧ Is h H x d ∧ ∀ H', Same H H' → Q (.bl (packB 12 3 d)) H'
theorem ok_law_is_packet (T : Top K mg A) : FnOk P w K mg base CX0 5 A.a_law_is_packet A.d_law_is_packet P_law_is_packet spLIsP := by
  refine T.F_law_is_packet.ok sc_law_is_packet (fun vs H Q E h => ?_) (fun cdv A' outer s H vs Q E hr h => ?_)
  · obtain ⟨x, d, h, rfl, _⟩ := h
    rfl
  · obtain ⟨x, d, h, rfl, ix, k⟩ := h
    obtain ⟨t, ty, _, _, e3⟩ := is_ty T ix
    refine ⟨_, (pss_cons (ps_if (PW.pt (pw_or (pt_not (pt_val (pe_callB call_isi (by rfl) T.z_isinstance (by decide +kernel) (pa_cons (pv 0) (pa_cons (pe_bltn (v := .ty "tuple") (by rfl) T.z_tuple (by decide +kernel) rfl) pa_nil))))) (pw_or (pt_cmpR op_ne (pe_callB call_len_seq (by rfl) T.z_len (by decide +kernel) (pa_cons (pv 0) pa_nil)) pe_int (nomark _)) (pw_or1 (pt_not (pt_val (pe_callB call_isi (by rfl) T.z_isinstance (by decide +kernel) (pa_cons (pe_ix ix_tup (pv 0) pe_int (fun _ _ => rfl)) (pa_cons (pe_bltn (v := .ty "tuple") (by rfl) T.z_tuple (by decide +kernel) rfl) pa_nil))))))))) (pss_one (ps_ret pe_bl)) pss_nil)
    (pss_cons (ps_if (PW.pt (pw_or (pt_not (pt_val (pe_call (ok_law_is_within T) (hr.mono (by decide)) (by rfl) T.g_law_is_within T.F_law_is_within.kp T.b_law_is_within .nil pass0 (pa_cons (pe_ix ix_tup (pv 0) pe_int (fun _ _ => rfl)) (pa_cons pe_int (pa_cons pe_int pa_nil)))))) (pw_or (pt_not (pt_val (pe_call (ok_law_is_within T) (hr.mono (by decide)) (by rfl) T.g_law_is_within T.F_law_is_within.kp T.b_law_is_within .nil pass0 (pa_cons (pe_ix ix_tup (pv 0) pe_int (fun _ _ => rfl)) (pa_cons pe_int (pa_cons pe_int pa_nil)))))) (pw_or1 (pt_not (pt_chain op_le op_le pe_int (pe_callB call_len_seq (by rfl) T.z_len (by decide +kernel) (pa_cons (pe_ix ix_tup (pv 0) pe_int (fun _ _ => rfl)) pa_nil)) pe_int)))))) (pss_one (ps_ret pe_bl)) pss_nil)
    (pss_cons (ps_if (pt_not (pt_val (pe_callB (cr_all rfl) (by rfl) T.z_all (by decide +kernel) (pa_cons (pe_lc (own := [("_law_out", 1)]) (by rfl) sc_law_is_packet.nd (pi_tup (pe_ix ix_tup (pv 0) pe_int (fun _ _ => rfl))) (blkOk_by (own := [("_law_out", 1)]) (N := N_law_is_packet) (sc := defScope s_law_is_packet) (by decide +kernel)) (fun _ _ _ _ _ => (pg_name (i := 1) sc_law_is_packet.nd rfl (.inl rfl))) (fun _ _ _ _ _ => pts_nil) (fun _ _ _ _ _ => (pe_call (ok_law_is_within (P := P) (w := w) T) (hr.mono (by decide)) (by rfl) T.g_law_is_within T.F_law_is_within.kp T.b_law_is_within .nil pass0 (pa_cons (pv 1) (pa_cons pe_int (pa_cons pe_int pa_nil)))))) pa_nil)))) (pss_one (ps_ret pe_bl)) pss_nil)
    (pss_one (ps_ret (pe_and (pe_callB (cr_all rfl) (by rfl) T.z_all (by decide +kernel) (pa_cons (pe_lc (own := [("_law_k", 2)]) (by rfl) sc_law_is_packet.nd (pi_range1 rfl T.z_range (pa_cons (pe_op op_sub (pe_callB call_len_seq (by rfl) T.z_len (by decide +kernel) (pa_cons (pe_ix ix_tup (pv 0) pe_int (fun _ _ => rfl)) pa_nil)) pe_int) pa_nil)) (blkOk_by (own := [("_law_k", 2)]) (N := N_law_is_packet) (sc := defScope s_law_is_packet) (by decide +kernel)) (fun _ _ _ _ _ => (pg_name (i := 2) sc_law_is_packet.nd rfl (.inl rfl))) (fun _ _ _ _ _ => pts_nil) (fun _ _ _ _ _ => (pe_cmpR op_lt (pe_ix (show IxR _ (rIxT K) from ix_tup) (pe_ix (show IxR _ (rIxT K) from ix_tup) (pv 0) pe_int (fun _ _ => rfl)) (pv 2) (fun _ _ => rfl)) (pe_ix (show IxR _ (rIxT K) from ix_tup) (pe_ix (show IxR _ (rIxT K) from ix_tup) (pv 0) pe_int (fun _ _ => rfl)) (pe_op op_add (pv 2) pe_int) (fun _ _ => rfl)) (nomark _)))) pa_nil)) (pe_one (pe_call (ok_law_are_words T) (hr.mono (by decide)) (by rfl) T.g_law_are_words T.F_law_are_words.kp T.b_law_are_words .nil pass0 (pa_cons (pe_ix ix_tup (pv 0) pe_int (fun _ _ => rfl)) (pa_cons pe_int pa_nil)))))))))), ?_⟩
    refine ⟨_, rfl, _, _, _, _, _, rfl, .ty "tuple", ty, e3, _, rfl, ?_⟩
    cases c : isT d with
    | false =>
      rw [packB_no (tupN_no c)] at k
      exact iteT (iteT (k H fun _ _ e => e))
    | true =>
      obtain ⟨a, xs, ds, rfl, rfl, ha, hl⟩ := isT_of ix c
      refine iteF ⟨_, rfl, a, xs, rfl, .inr (SqT.of ha), rfl, _, rfl, ?_⟩
      rw [dec_int, hl.len]
      cases c4 : tupN 4 (.tup ds) with
      | false =>
        rw [packB_no c4] at k
        rw [show decide ((ds.length : Int) = 4) = false from c4]
        exact iteT (iteT (k H fun _ _ e => e))
      | true =>
        rw [show decide ((ds.length : Int) = 4) = true from c4]
        obtain ⟨a', x1, x2, x3, x4, d1, d2, d3, d4, ea, ed, ha, i1, i2, i3, i4⟩ := four_of ix c4
        cases ea
        cases ed
        obtain ⟨t3, ty3, _, _, e33⟩ := is_ty T i3
        have pk : packB 12 3 (.tup [d1, d2, d3, d4]) = (inI 0 99 d1 && (inI 0 7 d2 && ((lotB 12 d3 && (decide (1 ≤ ((itsOf d3).length : Int)) && decide (((itsOf d3).length : Int) ≤ 3))) && wordsB 40 d4))) := rfl
        rw [pk] at k
        refine iteF ⟨_, rfl, a, _, _, _, rfl, rfl, SqT.of ha, atI_nat (j := 2) rfl, _, _, _, _, _, rfl, .ty "tuple", ty3, e33, _, rfl, ?_⟩
        cases ct : isT d3 with
        | false =>
          rw [lotB_no ct] at k
          simp only [Bool.false_and, Bool.and_false] at k
          exact iteT (k H fun _ _ e => e)
        | true =>
          obtain ⟨b, us, es, rfl, rfl, hb, hl3⟩ := isT_of i3 ct
          have l3 := hl3.len
          refine iteF ?_
          refine ⟨_, rfl, a, _, _, _, rfl, rfl, SqT.of ha, atI_nat (j := 0) rfl, 0, 99, x1, d1, h, rfl, i1, _, rfl, ?_⟩
          cases c1 : inI 0 99 d1 with
          | false =>
            rw [c1] at k
            exact iteT (iteT (k H fun _ _ e => e))
          | true =>
            refine iteF ⟨_, rfl, a, _, _, _, rfl, rfl, SqT.of ha, atI_nat (j := 1) rfl, 0, 7, x2, d2, h, rfl, i2, _, rfl, ?_⟩
            cases c2 : inI 0 7 d2 with
            | false =>
              rw [c1, c2] at k
              exact iteT (iteT (k H fun _ _ e => e))
            | true =>
              rw [c1, c2, Bool.true_and, Bool.true_and, lotB_eq] at k
              have k : ∀ H', Same H H' → Q (.bl (((es.all (inI 0 11) && (stepL (es.map intOf)).all id) && (decide (1 ≤ (es.length : Int)) && decide ((es.length : Int) ≤ 3))) && wordsB 40 d4)) H' := k
              refine iteF ⟨_, rfl, a, _, _, _, rfl, rfl, SqT.of ha, atI_nat (j := 2) rfl, b, us, rfl, .inr (SqT.of hb), _, _, rfl, rfl, _, rfl, ?_⟩
              by_cases g1 : (1 : Int) ≤ es.length
              · rw [decide_eq_true (show (1 : Int) ≤ us.length by omega)]
                refine iteT ⟨_, _, rfl, rfl, _, rfl, ?_⟩
                by_cases g2 : (es.length : Int) ≤ 3
                · rw [decide_eq_true (show (us.length : Int) ≤ 3 by omega)]
                  rw [decide_eq_true g1, decide_eq_true g2] at k
                  refine iteF ?_
                  refine ⟨_, rfl, a, _, _, _, rfl, rfl, SqT.of ha, atI_nat (j := 2) rfl, b, rfl, ⟨_, SqT.of hb⟩, fun D nD => ?_⟩
                  refine lc_tup (K := K) (a := b) (xs := us) (LP H D ((es.map (inI 0 11)).map V.bl)) (LP.start nD) (fun i H' _ p => SqT.of (p.1 _ _ hb)) ?_ ?_
                  · rintro i y H' hi p
                    obtain ⟨e, he, ie⟩ := hl3.get hi
                    refine ⟨by kernel_rfl, ?_⟩
                    refine ⟨_, rfl, 0, 11, y, e, h, rfl, ie.same p.1, ?_⟩
                    exact lcPut nD p (fun _ _ e => e) (map_at (map_at he)) (by rw [List.length_map, List.length_map]; omega)
                  rintro H1 ⟨s1, d1'⟩
                  rw [take_all (by rw [List.length_map, List.length_map]; exact l3)] at d1'
                  refine ⟨D, _, rfl, SqL.of d1', ?_⟩
                  rw [List.all_map]
                  refine ⟨_, rfl, ?_⟩
                  show if (!es.all (inI 0 11)) = true then _ else _
                  cases g3 : es.all (inI 0 11) with
                  | false =>
                    rw [g3] at k
                    exact iteT (k H1 s1)
                  | true =>
                    rw [g3] at k
                    have eu := ints_all hl3 g3
                    subst eu
                    have k : ∀ H', Same H H' → Q (.bl (((stepL (es.map intOf)).all id && true) && wordsB 40 d4)) H' := k
                    rw [Bool.and_true] at k
                    have ha1 := s1 _ _ ha
                    have hb1 := s1 _ _ hb
                    refine iteF ?_
                    refine ⟨_, rfl, a, _, _, _, rfl, rfl, SqT.of ha1, atI_nat (j := 2) rfl, b, _, rfl, .inr (SqT.of hb1), _, _, rfl, rfl, _, rfl, by omega, by omega, fun D2 nD2 => ?_⟩
                    have ls := stepL_len (es.map intOf)
                    rw [List.length_map] at ls
                    rw [List.length_map, List.length_map] at *
                    refine lc_range (lo := 0) (n := ((es.length : Int) - 1).toNat) (fun i H' => Same H1 H' ∧ H' D2 = some (.lst (((stepL (es.map intOf)).take i).map V.bl))) ⟨same_upd nD2, upd_same⟩ ?_ ?_
                    · rintro i H2 hi ⟨s2, e2⟩
                      have hi1 : i < (es.map intOf).length := by rw [List.length_map]; omega
                      have hi2 : i + 1 < (es.map intOf).length := by rw [List.length_map]; omega
                      have h1 : (es.map intOf)[i]? = some (es.map intOf)[i] := List.getElem?_eq_getElem hi1
                      have h2 : (es.map intOf)[i + 1]? = some (es.map intOf)[i + 1] := List.getElem?_eq_getElem hi2
                      have v1 : ((es.map intOf).map V.int)[i]? = some (.int (es.map intOf)[i]) := by rw [List.getElem?_map, h1]; rfl
                      have v2 : ((es.map intOf).map V.int)[i + 1]? = some (.int (es.map intOf)[i + 1]) := by rw [List.getElem?_map, h2]; rfl
                      refine ⟨by kernel_rfl, ?_⟩
                      refine ⟨_, rfl, a, _, _, _, rfl, rfl, SqT.of (s2 _ _ ha1), atI_nat (j := 2) rfl, _, rfl, b, _, _, _, rfl, rfl, SqT.of (s2 _ _ hb1), at_of (j := i) (by omega) v1, ?_⟩
                      refine ⟨_, rfl, a, _, _, _, rfl, rfl, SqT.of (s2 _ _ ha1), atI_nat (j := 2) rfl, _, rfl, _, _, rfl, rfl, b, _, _, _, rfl, rfl, SqT.of (s2 _ _ hb1), at_of (j := i + 1) (by omega) v2, _, _, rfl, rfl, ?_⟩
                      refine ⟨_, e2, small1000 (by rw [List.length_map, List.length_take]; omega), same_to s2 nD2, ?_⟩
                      rw [upd_same, List.take_add_one, stepL_at h1 h2, List.map_append]
                      rfl
                    rintro H2 ⟨s2, e2⟩
                    rw [take_all (by rw [ls]; omega)] at e2
                    refine ⟨D2, _, rfl, SqL.of e2, _, rfl, ?_⟩
                    cases g4 : (stepL (es.map intOf)).all id with
                    | false =>
                      rw [g4] at k
                      exact iteF (k H2 (s1.trans s2))
                    | true =>
                      rw [g4, Bool.true_and] at k
                      exact iteT ⟨_, rfl, a, _, _, _, rfl, rfl, SqT.of (s2 _ _ ha1), atI_nat (j := 3) rfl, 40, x4, d4, h, rfl, i4.same (s1.trans s2), by decide, fun H3 s3 => k H3 ((s1.trans s2).trans s3)⟩
                · rw [decide_eq_false (show ¬ (us.length : Int) ≤ 3 by omega)]
                  rw [decide_eq_false g2] at k
                  simp only [Bool.false_and, Bool.and_false] at k
                  exact iteT (k H fun _ _ e => e)
              · rw [decide_eq_false (show ¬ (1 : Int) ≤ us.length by omega)]
                rw [decide_eq_false g1] at k
                simp only [Bool.false_and, Bool.and_false] at k
                exact iteF ⟨_, rfl, iteT (k H fun _ _ e => e)⟩
end

theorem chk_dec (n p l c : Int) (ws : List Int) (h0 : 0 ≤ c) (h1 : c ≤ 250) : decide ((13 * n + 11 * l + 7 * p + sumW 1 ws - c) % 251 = 0) = decide (c = chk n p l ws) := by
  unfold chk
  apply decide_eq_decide.mpr
  constructor
  · intro h
    omega
  · intro h
    omega
section
variable {P : Program} {w : World} {K : PySem.W.Frag} {mg : Str → Option Value} {base : Heap} {A : Adr}
theorem ok_law_is_load (T : Top K mg A) : FnOk P w K mg base CX0 5 A.a_law_is_load A.d_law_is_load P_law_is_load spLoad := by
  refine T.F_law_is_load.ok sc_law_is_load (fun vs H Q E h => ?_) (fun cdv A' outer s H vs Q E hr h => ?_)
  · obtain ⟨x, d, h, rfl, _⟩ := h
    rfl
  · obtain ⟨x, d, h, rfl, ix, k⟩ := h
    obtain ⟨t, ty, _, _, e3⟩ := is_ty T ix
    refine ⟨_, (pss_cons (ps_if (PW.pt (pw_or (pt_not (pt_val (pe_callB call_isi (by rfl) T.z_isinstance (by decide +kernel) (pa_cons (pv 0) (pa_cons (pe_bltn (v := .ty "tuple") (by rfl) T.z_tuple (by decide +kernel) rfl) pa_nil))))) (pw_or (pt_cmpR op_ne (pe_callB call_len_seq (by rfl) T.z_len (by decide +kernel) (pa_cons (pv 0) pa_nil)) pe_int (nomark _)) (pw_or1 (pt_not (pt_val (pe_call (ok_law_is_within T) (hr.mono (by decide)) (by rfl) T.g_law_is_within T.F_law_is_within.kp T.b_law_is_within .nil pass0 (pa_cons (pe_ix ix_tup (pv 0) pe_int (fun _ _ => rfl)) (pa_cons pe_int (pa_cons (pe_op op_pow pe_int pe_int) pa_nil)))))))))) (pss_one (ps_ret pe_bl)) pss_nil)
    (pss_cons (ps_if (PW.pt (pw_or (pt_not (pt_val (pe_call (ok_law_is_within T) (hr.mono (by decide)) (by rfl) T.g_law_is_within T.F_law_is_within.kp T.b_law_is_within .nil pass0 (pa_cons (pe_ix ix_tup (pv 0) pe_int (fun _ _ => rfl)) (pa_cons pe_int (pa_cons pe_int pa_nil)))))) (pw_or (pt_not (pt_val (pe_call (ok_law_is_within T) (hr.mono (by decide)) (by rfl) T.g_law_is_within T.F_law_is_within.kp T.b_law_is_within .nil pass0 (pa_cons (pe_ix ix_tup (pv 0) pe_int (fun _ _ => rfl)) (pa_cons pe_int (pa_cons pe_int pa_nil)))))) (pw_or1 (pt_cmpR op_gt (pe_op op_add (pe_ix ix_tup (pv 0) pe_int (fun _ _ => rfl)) (pe_ix ix_tup (pv 0) pe_int (fun _ _ => rfl))) pe_int (nomark _)))))) (pss_one (ps_ret pe_bl)) pss_nil)
    (pss_cons (ps_if (PW.pt (pw_or (pt_not (pt_val (pe_call (ok_law_are_words T) (hr.mono (by decide)) (by rfl) T.g_law_are_words T.F_law_are_words.kp T.b_law_are_words .nil pass0 (pa_cons (pe_ix ix_tup (pv 0) pe_int (fun _ _ => rfl)) (pa_cons pe_int pa_nil))))) (pw_or1 (PW.pt (pw_and (pt_cmpR op_gt (pe_ix ix_tup (pv 0) pe_int (fun _ _ => rfl)) pe_int (nomark _)) (pw_and1 (pt_cmpR op_lt (pe_callB call_len_seq (by rfl) T.z_len (by decide +kernel) (pa_cons (pe_ix ix_tup (pv 0) pe_int (fun _ _ => rfl)) pa_nil)) pe_int (nomark _)))))))) (pss_one (ps_ret pe_bl)) pss_nil)
    (pss_cons (ps_set (i := 1) sc_law_is_load.nd rfl (.inl rfl) (pe_op op_add (pe_op op_add (pe_op op_mul pe_int (pe_ix ix_tup (pv 0) pe_int (fun _ _ => rfl))) (pe_op op_mul pe_int (pe_ix ix_tup (pv 0) pe_int (fun _ _ => rfl)))) (pe_op op_mul pe_int (pe_ix ix_tup (pv 0) pe_int (fun _ _ => rfl)))))
    (pss_cons (ps_for PassesOwn.never rfl (pi_range1 rfl T.z_range (pa_cons (pe_callB call_len_seq (by rfl) T.z_len (by decide +kernel) (pa_cons (pe_ix ix_tup (pv 0) pe_int (fun _ _ => rfl)) pa_nil)) pa_nil)) (pg_name (i := 2) sc_law_is_load.nd rfl (.inl rfl)) (pss_one (ps_set (i := 1) sc_law_is_load.nd rfl (.inl rfl) (pe_op op_add (pv 1) (pe_op op_mul (pe_ix ix_tup (pe_ix ix_tup (pv 0) pe_int (fun _ _ => rfl)) (pv 2) (fun _ _ => rfl)) (pe_op op_add pe_int (pv 2)))))))
    (pss_one (ps_ret (pe_and (pe_call (ok_law_is_within T) (hr.mono (by decide)) (by rfl) T.g_law_is_within T.F_law_is_within.kp T.b_law_is_within .nil pass0 (pa_cons (pe_ix ix_tup (pv 0) pe_int (fun _ _ => rfl)) (pa_cons pe_int (pa_cons pe_int pa_nil)))) (pe_one (pe_cmpR op_eq (pe_op op_mod (pe_callTy call_int1 (by rfl) T.z_int (by decide +kernel) (pa_cons (pe_op op_sub (pv 1) (pe_ix ix_tup (pv 0) pe_int (fun _ _ => rfl))) pa_nil)) pe_int) pe_int (nomark _))))))))))), ?_⟩
    refine ⟨_, rfl, _, _, _, _, _, rfl, .ty "tuple", ty, e3, _, rfl, ?_⟩
    cases c : isT d with
    | false =>
      rw [loadB_no (tupN_no c)] at k
      exact iteT (iteT (k H fun _ _ e => e))
    | true =>
      obtain ⟨a, xs, ds, rfl, rfl, ha, hl⟩ := isT_of ix c
      refine iteF ⟨_, rfl, a, xs, rfl, .inr (SqT.of ha), rfl, _, rfl, ?_⟩
      rw [dec_int, hl.len]
      cases c5 : tupN 5 (.tup ds) with
      | false =>
        rw [loadB_no c5] at k
        rw [show decide ((ds.length : Int) = 5) = false from c5]
        exact iteT (iteT (k H fun _ _ e => e))
      | true =>
        rw [show decide ((ds.length : Int) = 5) = true from c5]
        obtain ⟨a', x1, x2, x3, x4, x5, d1, d2, d3, d4, d5, ea, ed, ha, i1, i2, i3, i4, i5⟩ := five_of ix c5
        cases ea
        cases ed
        have k : ∀ H', Same H H' → Q (.bl (inI 0 1000000000 d1 && (inI 0 9 d2 && (inI 0 (10 - intOf d2 - 1) d3 && (wordsB 4 d4 && (!(decide (0 < intOf d3) && decide (((itsOf d4).length : Int) < 4)) && (inI 0 250 d5 && decide (intOf d5 = chk (intOf d1) (intOf d2) (intOf d3) (wordsOf d4))))))))) H' := k
        refine iteF ⟨_, rfl, a, _, _, _, rfl, rfl, SqT.of ha, atI_nat (j := 0) rfl, 10, 9, rfl, rfl, ⟨by decide, by decide, by decide⟩, 0, _, x1, d1, h, rfl, i1, _, rfl, ?_⟩
        show if (!inI 0 1000000000 d1) = true then _ else _
        cases c1 : inI 0 1000000000 d1 with
        | false =>
          rw [c1] at k
          exact iteT (k H fun _ _ e => e)
        | true =>
          obtain ⟨n, rfl, n0, n1⟩ := inI_yes c1
          cases i1
          rw [c1, Bool.true_and] at k
          refine iteF ?_
          refine ⟨_, rfl, a, _, _, _, rfl, rfl, SqT.of ha, atI_nat (j := 1) rfl, 0, 9, x2, d2, h, rfl, i2, _, rfl, ?_⟩
          show if (!inI 0 9 d2) = true then _ else _
          cases c2 : inI 0 9 d2 with
          | false =>
            rw [c2] at k
            exact iteT (iteT (k H fun _ _ e => e))
          | true =>
            obtain ⟨p, rfl, p0, p1⟩ := inI_yes c2
            cases i2
            rw [c2, Bool.true_and] at k
            have k : ∀ H', Same H H' → Q (.bl (inI 0 (10 - p - 1) d3 && (wordsB 4 d4 && (!(decide (0 < intOf d3) && decide (((itsOf d4).length : Int) < 4)) && (inI 0 250 d5 && decide (intOf d5 = chk n p (intOf d3) (wordsOf d4))))))) H' := k
            refine iteF ⟨_, rfl, a, _, _, _, rfl, rfl, SqT.of ha, atI_nat (j := 2) rfl, 0, 9, x3, d3, h, rfl, i3, _, rfl, ?_⟩
            show if (!inI 0 9 d3) = true then _ else _
            cases c3 : inI 0 9 d3 with
            | false =>
              have z : inI 0 (10 - p - 1) d3 = false := by
                cases q : inI 0 (10 - p - 1) d3 with
                | false => rfl
                | true =>
                  obtain ⟨l, rfl, l0, l1⟩ := inI_yes q
                  have : inI 0 9 (.int l) = true := by
                    show (decide (0 ≤ l) && decide (l ≤ 9)) = true
                    rw [decide_eq_true l0, decide_eq_true (show l ≤ 9 by omega)]
                    rfl
                  rw [c3] at this
                  cases this
              rw [z] at k
              exact iteT (iteT (k H fun _ _ e => e))
            | true =>
              obtain ⟨l, rfl, l0, l1⟩ := inI_yes c3
              cases i3
              refine iteF ⟨_, rfl, a, _, _, _, rfl, rfl, SqT.of ha, atI_nat (j := 1) rfl, _, rfl, a, _, _, _, rfl, rfl, SqT.of ha, atI_nat (j := 2) rfl, _, _, rfl, rfl, _, _, rfl, rfl, _, rfl, ?_⟩
              by_cases g : (9 : Int) < p + l
              · have z : inI 0 (10 - p - 1) (.int l) = false := by
                  show (decide (0 ≤ l) && decide (l ≤ 10 - p - 1)) = false
                  rw [decide_eq_false (show ¬ l ≤ 10 - p - 1 by omega), Bool.and_false]
                rw [z] at k
                rw [decide_eq_true g]
                exact iteT (k H fun _ _ e => e)
              · have z : inI 0 (10 - p - 1) (.int l) = true := by
                  show (decide (0 ≤ l) && decide (l ≤ 10 - p - 1)) = true
                  rw [decide_eq_true l0, decide_eq_true (show l ≤ 10 - p - 1 by omega)]
                  rfl
                rw [z, Bool.true_and] at k
                rw [decide_eq_false g]
                refine iteF ?_
                refine ⟨_, rfl, a, _, _, _, rfl, rfl, SqT.of ha, atI_nat (j := 3) rfl, 4, x4, d4, h, rfl, i4, by decide, fun H1 s1 => ⟨_, rfl, ?_⟩⟩
                show if (!wordsB 4 d4) = true then _ else _
                cases c4 : wordsB 4 d4 with
                | false =>
                  rw [c4] at k
                  exact iteT (iteT (k H1 s1))
                | true =>
                  rw [c4, Bool.true_and] at k
                  obtain ⟨b, rfl, hb, w1, w2, w3⟩ := words_of i4 c4
                  have k : ∀ H', Same H H' → Q (.bl (!(decide (0 < l) && decide (((itsOf d4).length : Int) < 4)) && (inI 0 250 d5 && decide (intOf d5 = chk n p l (wordsOf d4))))) H' := k
                  rw [w3] at k
                  have ha1 := s1 _ _ ha
                  have hb1 := s1 _ _ hb
                  refine iteF ?_
                  refine ⟨_, rfl, a, _, _, _, rfl, rfl, SqT.of ha1, atI_nat (j := 2) rfl, _, _, rfl, rfl, _, rfl, ?_⟩
                  by_cases cl : 0 < l
                  · rw [decide_eq_true cl] at k ⊢
                    refine iteT ⟨_, rfl, a, _, _, _, rfl, rfl, SqT.of ha1, atI_nat (j := 3) rfl, b, _, rfl, .inr (SqT.of hb1), _, _, rfl, rfl, _, rfl, ?_⟩
                    rw [List.length_map]
                    by_cases cw : ((wordsOf d4).length : Int) < 4
                    · rw [decide_eq_true cw] at k ⊢
                      exact iteT (k H1 s1)
                    · rw [decide_eq_false cw] at k ⊢
                      have k : ∀ H', Same H H' → Q (.bl (inI 0 250 d5 && decide (intOf d5 = chk n p l (wordsOf d4)))) H' := k
                      refine iteF ?_
                      refine ⟨_, rfl, a, _, _, _, rfl, rfl, SqT.of ha1, atI_nat (j := 0) rfl, _, _, rfl, rfl, .inl ⟨by decide, by decide⟩, _, rfl, a, _, _, _, rfl, rfl, SqT.of ha1, atI_nat (j := 2) rfl, _, _, rfl, rfl, .inl ⟨by decide, by decide⟩, _, _, rfl, rfl, _, rfl, a, _, _, _, rfl, rfl, SqT.of ha1, atI_nat (j := 1) rfl, _, _, rfl, rfl, .inl ⟨by decide, by decide⟩, _, _, rfl, rfl, ?_⟩
                      refine ⟨_, rfl, a, _, _, _, rfl, rfl, SqT.of ha1, atI_nat (j := 3) rfl, b, _, rfl, .inr (SqT.of hb1), _, rfl, by omega, by rw [List.length_map]; omega, ?_⟩
                      generalize hws : wordsOf d4 = ws at hb1 k w1 w2 ⊢
                      refine for_range (lo := 0) (n := (((ws.map V.int).length : Nat) : Int).toNat) (fun i σ H' => ∃ (y2 : Option V), σ = [some (.ref a), some (.int (13 * n + 11 * l + 7 * p + sumW 1 (ws.take i))), y2] ∧ H' = H1) ⟨none, by
                        show _ = ([some (.ref a), some (.int (13 * n + 11 * l + 7 * p + 0)), none] : L2.St)
                        rw [Int.add_zero]
                        rfl, rfl⟩ ?_ ?_
                      · rintro i σ H2 hi ⟨y2, rfl, rfl⟩
                        rw [Int.toNat_natCast, List.length_map] at hi
                        have hx : ws[i]? = some ws[i] := List.getElem?_eq_getElem hi
                        have hx2 : (ws.map V.int)[i]? = some (.int ws[i]) := by rw [List.getElem?_map, hx]; rfl
                        refine ⟨_, rfl, _, rfl, a, _, _, _, rfl, rfl, SqT.of ha1, atI_nat (j := 3) rfl, _, rfl, b, _, _, _, rfl, rfl, SqT.of hb1, at_of (j := i) (by omega) hx2, _, rfl, _, _, rfl, rfl, _, _, rfl, rfl, .inr ⟨by omega, by omega⟩, _, _, rfl, rfl, ?_⟩
                        refine ⟨some (.int (0 + (i : Int))), ?_, rfl⟩
                        show ([some (.ref a), some (.int (13 * n + 11 * l + 7 * p + sumW 1 (ws.take i) + ws[i] * (1 + (0 + (i : Int))))), some (.int (0 + (i : Int)))] : L2.St) = _
                        rw [sumW_snoc 1 ws i _ hx, show (1 + (0 + (i : Int))) = 1 + (i : Int) by omega, Int.add_assoc (13 * n + 11 * l + 7 * p), Int.mul_comm ws[i]]
                      · rintro σ H2 ⟨y2, rfl, rfl⟩
                        rw [Int.toNat_natCast, List.length_map, List.take_length]
                        refine ⟨_, rfl, a, _, _, _, rfl, rfl, SqT.of ha1, atI_nat (j := 4) rfl, 0, 250, x5, d5, h, rfl, i5.same s1, _, rfl, ?_⟩
                        cases c6 : inI 0 250 d5 with
                        | false =>
                          rw [c6] at k
                          exact iteF (k _ s1)
                        | true =>
                          obtain ⟨cc, rfl, cc0, cc1⟩ := inI_yes c6
                          cases i5
                          rw [c6, Bool.true_and] at k
                          refine iteT ⟨_, rfl, _, rfl, a, _, _, _, rfl, rfl, SqT.of ha1, atI_nat (j := 4) rfl, _, _, rfl, rfl, .inl ⟨_, rfl, _, _, rfl, rfl, (by show (0 : Int) < 251; decide), rfl, ?_⟩⟩
                          rw [dec_int, chk_dec n p l cc ws cc0 cc1]
                          exact k _ s1
                  · rw [decide_eq_false cl] at k ⊢
                    have k : ∀ H', Same H H' → Q (.bl (inI 0 250 d5 && decide (intOf d5 = chk n p l (wordsOf d4)))) H' := k
                    refine iteF (iteF ?_)
                    refine ⟨_, rfl, a, _, _, _, rfl, rfl, SqT.of ha1, atI_nat (j := 0) rfl, _, _, rfl, rfl, .inl ⟨by decide, by decide⟩, _, rfl, a, _, _, _, rfl, rfl, SqT.of ha1, atI_nat (j := 2) rfl, _, _, rfl, rfl, .inl ⟨by decide, by decide⟩, _, _, rfl, rfl, _, rfl, a, _, _, _, rfl, rfl, SqT.of ha1, atI_nat (j := 1) rfl, _, _, rfl, rfl, .inl ⟨by decide, by decide⟩, _, _, rfl, rfl, ?_⟩
                    refine ⟨_, rfl, a, _, _, _, rfl, rfl, SqT.of ha1, atI_nat (j := 3) rfl, b, _, rfl, .inr (SqT.of hb1), _, rfl, by omega, by rw [List.length_map]; omega, ?_⟩
                    generalize hws : wordsOf d4 = ws at hb1 k w1 w2 ⊢
                    refine for_range (lo := 0) (n := (((ws.map V.int).length : Nat) : Int).toNat) (fun i σ H' => ∃ (y2 : Option V), σ = [some (.ref a), some (.int (13 * n + 11 * l + 7 * p + sumW 1 (ws.take i))), y2] ∧ H' = H1) ⟨none, by
                      show _ = ([some (.ref a), some (.int (13 * n + 11 * l + 7 * p + 0)), none] : L2.St)
                      rw [Int.add_zero]
                      rfl, rfl⟩ ?_ ?_
                    · rintro i σ H2 hi ⟨y2, rfl, rfl⟩
                      rw [Int.toNat_natCast, List.length_map] at hi
                      have hx : ws[i]? = some ws[i] := List.getElem?_eq_getElem hi
                      have hx2 : (ws.map V.int)[i]? = some (.int ws[i]) := by rw [List.getElem?_map, hx]; rfl
                      refine ⟨_, rfl, _, rfl, a, _, _, _, rfl, rfl, SqT.of ha1, atI_nat (j := 3) rfl, _, rfl, b, _, _, _, rfl, rfl, SqT.of hb1, at_of (j := i) (by omega) hx2, _, rfl, _, _, rfl, rfl, _, _, rfl, rfl, .inr ⟨by omega, by omega⟩, _, _, rfl, rfl, ?_⟩
                      refine ⟨some (.int (0 + (i : Int))), ?_, rfl⟩
                      show ([some (.ref a), some (.int (13 * n + 11 * l + 7 * p + sumW 1 (ws.take i) + ws[i] * (1 + (0 + (i : Int))))), some (.int (0 + (i : Int)))] : L2.St) = _
                      rw [sumW_snoc 1 ws i _ hx, show (1 + (0 + (i : Int))) = 1 + (i : Int) by omega, Int.add_assoc (13 * n + 11 * l + 7 * p), Int.mul_comm ws[i]]
                    · rintro σ H2 ⟨y2, rfl, rfl⟩
                      rw [Int.toNat_natCast, List.length_map, List.take_length]
                      refine ⟨_, rfl, a, _, _, _, rfl, rfl, SqT.of ha1, atI_nat (j := 4) rfl, 0, 250, x5, d5, h, rfl, i5.same s1, _, rfl, ?_⟩
                      cases c6 : inI 0 250 d5 with
                      | false =>
                        rw [c6] at k
                        exact iteF (k _ s1)
                      | true =>
                        obtain ⟨cc, rfl, cc0, cc1⟩ := inI_yes c6
                        cases i5
                        rw [c6, Bool.true_and] at k
                        refine iteT ⟨_, rfl, _, rfl, a, _, _, _, rfl, rfl, SqT.of ha1, atI_nat (j := 4) rfl, _, _, rfl, rfl, .inl ⟨_, rfl, _, _, rfl, rfl, (by show (0 : Int) < 251; decide), rfl, ?_⟩⟩
                        rw [dec_int, chk_dec n p l cc ws cc0 cc1]
                        exact k _ s1
end

/-! ### loads changed -/
theorem But.kp {h : Addr} {H H' : Hp} (b : But h H H') : Kp h H H' := fun q o hq e => (b q hq).trans e
theorem LoadAt.kp {H H' : Hp} {p : Addr} {n pa l : Int} {q : Addr} {ws : List Int} {c : Int} {h : Addr} (a : LoadAt H p n pa l q ws c) (hh : ∃ ys, H h = some (.lst ys)) (k : Kp h H H') : LoadAt H' p n pa l q ws c := by
  obtain ⟨ys, hh⟩ := hh
  exact ⟨k _ _ (ne_of a.at_ hh (by intro z; cases z)) a.at_, k _ _ (ne_of a.words hh (by intro z; cases z)) a.words⟩
theorem cutI_len (xs : List Int) (lo hi : Option Int) : (cutI xs lo hi).length ≤ xs.length := by
  unfold cutI
  rw [List.length_take, List.length_drop]
  omega
theorem pick_at {xs : List V} {n : Nat} {f : Int} (hn : xs.length = n) (f0 : 0 ≤ f) (f1 : f < (n : Int)) : ∃ v, v ∈ xs ∧ atI xs f = some v := by
  have hf : f.toNat < xs.length := by omega
  exact ⟨_, List.getElem_mem hf, at_of (by omega) (List.getElem?_eq_getElem hf)⟩
section
variable {P : Program} {w : World} {K : PySem.W.Frag} {mg : Str → Option Value} {base : Heap} {A : Adr}
def spChanged : Sp := fun vs H Q _ => ∃ (h g a : Addr) (n pa l : Int) (q : Addr) (ws : List Int) (c : Int), vs = [.ref h, .ref a] ∧ DeckAt H h g ∧ LoadAt H a n pa l q ws c ∧ 1 ≤ ws.length ∧ ws.length ≤ 400 ∧
  ∀ (H' : Hp) (r : Addr) (n' pa' l' : Int) (q' : Addr) (ws' : List Int) (c' : Int), Kp h H H' → DeckAt H' h g → LoadAt H' r n' pa' l' q' ws' c' → ws'.length ≤ 2 * ws.length + 1 → Q (.ref r) H'
theorem ok_law_changed (T : Top K mg A) : FnOk P w K mg base CX0 3 A.a_law_changed A.d_law_changed P_law_changed spChanged := by
  refine T.F_law_changed.ok sc_law_changed (fun vs H Q E h => ?_) (fun cdv A' outer s H vs Q E hr h => ?_)
  · obtain ⟨h, g, a, n, pa, l, q, ws, c, rfl, _⟩ := h
    rfl
  · obtain ⟨h, g, a, n, pa, l, q, ws, c, rfl, a0, la, lw1, lw, k⟩ := h
    refine ⟨_, (pss_cons (ps_set (i := 2) sc_law_changed.nd rfl (.inl rfl) (pe_call (ok_law_draw T) (hr.mono (by decide)) (by rfl) T.g_law_draw T.F_law_draw.kp T.b_law_draw .nil pass0 (pa_cons (pv 0) (pa_cons pe_int pa_nil))))
    (pss_cons (ps_if (pt_cmpR op_lt (pv 2) pe_int (nomark _)) (pss_cons (ps_set (i := 3) sc_law_changed.nd rfl (.inl rfl) (pe_ix ix_list (pe_lst (pa_cons pe_int (pa_cons pe_int (pa_cons pe_int (pa_cons pe_int (pa_cons pe_int (pa_cons (pe_op op_pow pe_int pe_int) (pa_cons (pe_op op_add (pe_op op_pow pe_int pe_int) pe_int) (pa_cons (pe_call (ok_law_draw T) (hr.mono (by decide)) (by rfl) T.g_law_draw T.F_law_draw.kp T.b_law_draw .nil pass0 (pa_cons (pv 0) (pa_cons pe_int pa_nil))) pa_nil))))))))) (pe_call (ok_law_draw T) (hr.mono (by decide)) (by rfl) T.g_law_draw T.F_law_draw.kp T.b_law_draw .nil pass0 (pa_cons (pv 0) (pa_cons pe_int pa_nil))) (fun _ _ => rfl)))
    (pss_one (ps_ret (pe_op op_catA (pe_op op_catA (pe_slice sl_tupA (pv 1) po_none (po_some (pv 2))) (pe_tup (pa_cons (pv 3) pa_nil))) (pe_slice sl_tupA (pv 1) (po_some (pe_op op_add (pv 2) pe_int)) po_none))))) pss_nil)
    (pss_cons (ps_set (i := 4) sc_law_changed.nd rfl (.inl rfl) (pe_ix ix_tup (pv 1) pe_int (fun _ _ => rfl)))
    (pss_cons (ps_if (pt_cmpR op_eq (pv 2) pe_int (nomark _)) (pss_cons (ps_set (i := 5) sc_law_changed.nd rfl (.inl rfl) (pe_call (ok_law_draw T) (hr.mono (by decide)) (by rfl) T.g_law_draw T.F_law_draw.kp T.b_law_draw .nil pass0 (pa_cons (pv 0) (pa_cons (pe_callB call_len_seq (by rfl) T.z_len (by decide +kernel) (pa_cons (pv 4) pa_nil)) pa_nil))))
    (pss_cons (ps_set (i := 6) sc_law_changed.nd rfl (.inl rfl) (pe_ix ix_list (pe_lst (pa_cons pe_int (pa_cons pe_int (pa_cons pe_int (pa_cons (pe_un un_neg pe_int) (pa_cons (pe_call (ok_law_draw T) (hr.mono (by decide)) (by rfl) T.g_law_draw T.F_law_draw.kp T.b_law_draw .nil pass0 (pa_cons (pv 0) (pa_cons pe_int pa_nil))) pa_nil)))))) (pe_call (ok_law_draw T) (hr.mono (by decide)) (by rfl) T.g_law_draw T.F_law_draw.kp T.b_law_draw .nil pass0 (pa_cons (pv 0) (pa_cons pe_int pa_nil))) (fun _ _ => rfl)))
    (pss_one (ps_ret (pe_op op_catA (pe_op op_catA (pe_slice sl_tupA (pv 1) po_none (po_some pe_int)) (pe_tup (pa_cons (pe_op op_catA (pe_op op_catA (pe_slice sl_tupA (pv 4) po_none (po_some (pv 5))) (pe_tup (pa_cons (pv 6) pa_nil))) (pe_slice sl_tupA (pv 4) (po_some (pe_op op_add (pv 5) pe_int)) po_none)) pa_nil))) (pe_slice sl_tupA (pv 1) (po_some pe_int) po_none)))))) pss_nil)
    (pss_cons (ps_if (pt_cmpR op_eq (pv 2) pe_int (nomark _)) (pss_one (ps_ret (pe_op op_catA (pe_op op_catA (pe_slice sl_tupA (pv 1) po_none (po_some pe_int)) (pe_tup (pa_cons (pe_ix ix_list (pe_lst (pa_cons (pe_slice sl_tupA (pv 4) (po_some pe_int) po_none) (pa_cons (pe_op op_catA (pv 4) (pe_tup (pa_cons pe_int pa_nil))) (pa_cons (pe_slice sl_tupA (pv 4) po_none (po_some pe_int)) (pa_cons (pe_op op_catA (pv 4) (pv 4)) pa_nil))))) (pe_call (ok_law_draw T) (hr.mono (by decide)) (by rfl) T.g_law_draw T.F_law_draw.kp T.b_law_draw .nil pass0 (pa_cons (pv 0) (pa_cons pe_int pa_nil))) (fun _ _ => rfl)) pa_nil))) (pe_slice sl_tupA (pv 1) (po_some pe_int) po_none)))) pss_nil)
    (pss_one (ps_ret (pe_op op_catA (pe_slice sl_tupA (pv 1) po_none (po_some pe_int)) (pe_tup (pa_cons (pe_op op_add (pe_ix ix_tup (pv 1) pe_int (fun _ _ => rfl)) (pe_ix ix_list (pe_lst (pa_cons pe_int (pa_cons (pe_un un_neg pe_int) (pa_cons pe_int (pa_cons (pe_un un_neg pe_int) (pa_cons pe_int pa_nil)))))) (pe_call (ok_law_draw T) (hr.mono (by decide)) (by rfl) T.g_law_draw T.F_law_draw.kp T.b_law_draw .nil pass0 (pa_cons (pv 0) (pa_cons pe_int pa_nil))) (fun _ _ => rfl))) pa_nil)))))))))), ?_⟩
    refine ⟨_, rfl, h, g, 7, rfl, a0, by decide, by decide, fun H1 d b1 a1 d0 d1 => ?_⟩
    have la1 := la.kp a0.lst b1.kp
    refine ⟨_, rfl, _, _, rfl, rfl, _, rfl, ite2 (fun cd => ?_) (fun cd => ?_)⟩
    · have cd : d < 3 := of_decide_eq_true cd
      refine ⟨10, 9, rfl, rfl, ⟨by decide, by decide, by decide⟩, 10, 9, rfl, rfl, ⟨by decide, by decide, by decide⟩, _, _, rfl, rfl, _, rfl, h, g, 12, rfl, a1, by decide, by decide, fun H2 e b2 a2 e0 e1 => ⟨by show 8 ≤ sizeLine; decide, fun lA nlA => ?_⟩⟩
      have lh : lA ≠ h := fun z => by
        obtain ⟨_, e⟩ := a2.lst
        rw [← z, nlA] at e
        cases e
      refine ⟨_, rfl, h, g, 8, rfl, a2.same (same_upd nlA), by decide, by decide, fun H4 f b4 a4 f0 f1 => ?_⟩
      have k24 : Kp h H2 H4 := (kp_of (same_upd nlA) h).trans b4.kp
      have eL := (b4 lA lh).trans upd_same
      obtain ⟨v, hv, hat⟩ := pick_at (n := 8) (xs := [V.int 0, V.int 1, V.int 8, V.int 9, V.int 10, V.int 1000000000, V.int 1000000001, V.int e]) rfl f0 f1
      have hz : ∃ z, v = .int z := by
        simp only [List.mem_cons, List.not_mem_nil, or_false] at hv
        rcases hv with q | q | q | q | q | q | q | q <;> exact ⟨_, q⟩
      obtain ⟨z, rfl⟩ := hz
      refine ⟨lA, _, f, .int z, rfl, rfl, SqL.of eL, hat, ?_⟩
      have k04 : Kp h H1 H4 := b2.kp.trans k24
      have la4 := la1.kp a1.lst k04
      refine ⟨_, rfl, ?_⟩
      unfold tNoPart
      refine ⟨_, rfl, _, rfl, ?_⟩
      refine sl_at la4.at_ fun H5 p5 s5 e5 => ?_
      refine ⟨_, rfl, by show 1 ≤ sizeLine; decide, fun t nt => ?_⟩
      have s6 := same_upd nt (o := .tup [.int z])
      have l5 := cutV_length [V.int n, V.int pa, V.int l, V.ref q, V.int c] none (some d)
      have l5 : (cutV [V.int n, V.int pa, V.int l, V.ref q, V.int c] none (some d)).length ≤ 5 := l5
      refine cat_at (s6 _ _ e5) upd_same (by show _ + 1 ≤ 1000; omega) fun H7 p7 s7 e7 => ?_
      have s47 := (s5.trans s6).trans s7
      refine ⟨_, rfl, _, rfl, _, _, rfl, rfl, _, rfl, ?_⟩
      have l8 : (cutV [V.int n, V.int pa, V.int l, V.ref q, V.int c] (some (d + 1)) none).length ≤ 5 := cutV_length _ _ _
      refine sl_at (s47 _ _ la4.at_) fun H8 p8 s8 e8 => ?_
      refine cat_at (s8 _ _ e7) e8 (by rw [List.length_append]; show (_ + 1) + _ ≤ 1000; omega) fun H9 r s9 e9 => ?_
      have s49 := (s47.trans s8).trans s9
      have kk : Kp h H H9 := (b1.kp.trans k04).same s49
      have wq := s49 _ _ la4.words
      have hd : d = 0 ∨ d = 1 ∨ d = 2 := by omega
      rcases hd with rfl | rfl | rfl
      · exact k H9 r z pa l q ws c kk (a4.same s49) ⟨e9, wq⟩ (by omega)
      · exact k H9 r n z l q ws c kk (a4.same s49) ⟨e9, wq⟩ (by omega)
      · exact k H9 r n pa z q ws c kk (a4.same s49) ⟨e9, wq⟩ (by omega)
    · refine ⟨_, rfl, a, _, _, _, rfl, rfl, SqT.of la1.at_, atI_nat (j := 3) rfl, ?_⟩
      refine ⟨_, rfl, rfl, _, rfl, ite2 (fun c3 => ?_) (fun c3 => ?_)⟩
      · refine ⟨_, rfl, _, rfl, q, _, rfl, .inr (SqT.of la1.words), h, g, ((ws.map V.int).length : Int), rfl, a1, by rw [List.length_map]; omega, by rw [List.length_map]; omega, fun H2 e b2 a2 e0 e1 => ?_⟩
        refine ⟨_, rfl, _, rfl, h, g, 256, rfl, a2, by decide, by decide, fun H3 x b3 a3 x0 x1 => ⟨by show 5 ≤ sizeLine; decide, fun lA nlA => ?_⟩⟩
        have lh : lA ≠ h := fun z => by
          obtain ⟨_, e⟩ := a3.lst
          rw [← z, nlA] at e
          cases e
        refine ⟨_, rfl, h, g, 5, rfl, a3.same (same_upd nlA), by decide, by decide, fun H4 f b4 a4 f0 f1 => ?_⟩
        have k34 : Kp h H3 H4 := (kp_of (same_upd nlA) h).trans b4.kp
        have eL := (b4 lA lh).trans upd_same
        obtain ⟨v, hv, hat⟩ := pick_at (n := 5) (xs := [V.int 255, V.int 256, V.int 0, V.int (-1), V.int x]) rfl f0 f1
        have hz : ∃ z, v = .int z := by
          simp only [List.mem_cons, List.not_mem_nil, or_false] at hv
          rcases hv with q | q | q | q | q <;> exact ⟨_, q⟩
        obtain ⟨z, rfl⟩ := hz
        refine ⟨lA, _, f, .int z, rfl, rfl, SqL.of eL, hat, ?_⟩
        have k04 : Kp h H1 H4 := (b2.kp.trans b3.kp).trans k34
        have la4 := la1.kp a1.lst k04
        refine ⟨_, rfl, ?_⟩
        unfold tNoPart
        refine ⟨_, rfl, ?_⟩
        refine sl_at la4.at_ fun H5 p5 s5 e5 => ?_
        refine ⟨_, rfl, _, rfl, _, rfl, ?_⟩
        refine sl_at (s5 _ _ la4.words) fun H6 p6 s6 e6 => ?_
        rw [cut_ints] at e6
        have c1 := cutI_len ws none (some e)
        have c2 := cutI_len ws (some (e + 1)) none
        refine ⟨_, rfl, by show 1 ≤ sizeLine; decide, fun t nt => ?_⟩
        have s7 := same_upd nt (o := .tup [.int z])
        refine cat_at (s7 _ _ e6) upd_same (by rw [List.length_map]; show _ + 1 ≤ 1000; omega) fun H8 p8 s8 e8 => ?_
        have s48 := ((s5.trans s6).trans s7).trans s8
        refine ⟨_, rfl, _, rfl, _, _, rfl, rfl, _, rfl, ?_⟩
        refine sl_at (s48 _ _ la4.words) fun H9 p9 s9 e9 => ?_
        have e9 : H9 p9 = some (.tup (cutV (ws.map V.int) (some (e + 1)) none)) := e9
        rw [cut_ints] at e9
        refine cat_at (s9 _ _ e8) e9 (by rw [List.length_append, List.length_map, List.length_map]; show (_ + 1) + _ ≤ 1000; omega) fun HA pA sA eA => ?_
        have eA : HA pA = some (.tup (((cutI ws none (some e) ++ [z]) ++ cutI ws (some (e + 1)) none).map V.int)) := by
          rw [eA, List.map_append, List.map_append]
          rfl
        refine ⟨by show 1 ≤ sizeLine; decide, fun u nu => ?_⟩
        have sB := same_upd nu (o := .tup [.ref pA])
        have s5B := ((((s6.trans s7).trans s8).trans s9).trans sA).trans sB
        refine cat_at (s5B _ _ e5) upd_same (by show 3 + 1 ≤ 1000; decide) fun HC pC sC eC => ?_
        have s4C := (s5.trans s5B).trans sC
        refine ⟨_, rfl, _, rfl, ?_⟩
        refine sl_at (s4C _ _ la4.at_) fun HD pD sD eD => ?_
        refine cat_at (sD _ _ eC) eD (by show (3 + 1) + 1 ≤ 1000; decide) fun HE r sE eE => ?_
        have s4E := (s4C.trans sD).trans sE
        refine k HE r n pa l pA _ c ((b1.kp.trans k04).same s4E) (a4.same s4E) ⟨eE, ((sB.trans sC).trans (sD.trans sE)) _ _ eA⟩ ?_
        rw [List.length_append, List.length_append]
        show (_ + 1) + _ ≤ _
        omega
      · refine ⟨_, rfl, rfl, _, rfl, ite2 (fun c4 => ?_) (fun c4 => ?_)⟩
        · refine ⟨_, rfl, ?_⟩
          unfold tNoPart
          refine ⟨_, rfl, ?_⟩
          refine sl_at la1.at_ fun H5 p5 s5 e5 => ?_
          refine ⟨_, rfl, _, rfl, ?_⟩
          refine sl_at (s5 _ _ la1.words) fun H6 p6 s6 e6 => ?_
          rw [cut_ints] at e6
          refine ⟨_, rfl, by show 1 ≤ sizeLine; decide, fun t nt => ?_⟩
          have s7 := same_upd nt (o := .tup [.int 0])
          refine cat_at (((s5.trans s6).trans s7) _ _ la1.words) upd_same (by rw [List.length_map]; show _ + 1 ≤ 1000; omega) fun H8 p8 s8 e8 => ?_
          have s18 := ((s5.trans s6).trans s7).trans s8
          refine ⟨_, rfl, _, rfl, ?_⟩
          refine sl_at (s18 _ _ la1.words) fun H9 p9 s9 e9 => ?_
          rw [cut_ints] at e9
          have s19 := s18.trans s9
          refine ⟨_, rfl, _, rfl, ?_⟩
          refine cat_at (s19 _ _ la1.words) (s19 _ _ la1.words) (by rw [List.length_map]; omega) fun HA pA sA eA => ?_
          have s1A := s19.trans sA
          refine ⟨by show 4 ≤ sizeLine; decide, fun lA nlA => ?_⟩
          have sB := same_upd nlA (o := .lst [.ref p6, .ref p8, .ref p9, .ref pA])
          have s1B := s1A.trans sB
          have aB := a1.same s1B
          have lh : lA ≠ h := fun z => by
            obtain ⟨_, e⟩ := (a1.same s1A).lst
            rw [← z, nlA] at e
            cases e
          refine ⟨_, rfl, h, g, 4, rfl, aB, by decide, by decide, fun HC f bC aC f0 f1 => ?_⟩
          have eL := (bC lA lh).trans upd_same
          obtain ⟨v, hv, hat⟩ := pick_at (n := 4) (xs := [V.ref p6, V.ref p8, V.ref p9, V.ref pA]) rfl f0 f1
          have e6B := (((s7.trans s8).trans s9).trans (sA.trans sB)) _ _ e6
          have e8B := (s9.trans (sA.trans sB)) _ _ e8
          have e9B := (sA.trans sB) _ _ e9
          have eAB := sB _ _ eA
          have c1 := cutI_len ws (some 1) none
          have c2 := cutI_len ws none (some 1)
          have hz : ∃ (wq : Addr) (ws' : List Int), v = .ref wq ∧ (upd HA lA (.lst [.ref p6, .ref p8, .ref p9, .ref pA])) wq = some (.tup (ws'.map V.int)) ∧ ws'.length ≤ 2 * ws.length + 1 := by
            simp only [List.mem_cons, List.not_mem_nil, or_false] at hv
            rcases hv with q | q | q | q
            · exact ⟨_, _, q, e6B, by omega⟩
            · exact ⟨_, ws ++ [0], q, by rw [e8B, List.map_append]; rfl, by rw [List.length_append]; show _ + 1 ≤ _; omega⟩
            · exact ⟨_, _, q, e9B, by omega⟩
            · exact ⟨_, ws ++ ws, q, by rw [eAB, List.map_append], by rw [List.length_append]; omega⟩
          obtain ⟨wq, ws', rfl, ew, lw'⟩ := hz
          refine ⟨lA, _, f, .ref wq, rfl, rfl, SqL.of eL, hat, ?_⟩
          have hh := aB.lst
          have ewC : HC wq = some (.tup (ws'.map V.int)) := by
            obtain ⟨_, hh⟩ := hh
            exact bC.kp _ _ (ne_of ew hh (by intro z; cases z)) ew
          have laC := (la1.same s1B).kp hh bC.kp
          have e5C : HC p5 = some (.tup [.int n, .int pa, .int l]) := by
            obtain ⟨_, hh⟩ := hh
            have e5B := ((((s6.trans s7).trans s8).trans s9).trans (sA.trans sB)) _ _ e5
            exact bC.kp _ _ (ne_of e5B hh (by intro z; cases z)) e5B
          refine ⟨by show 1 ≤ sizeLine; decide, fun u nu => ?_⟩
          have sD := same_upd nu (o := .tup [.ref wq])
          refine cat_at (sD _ _ e5C) upd_same (by show 3 + 1 ≤ 1000; decide) fun HE pE sE eE => ?_
          have sCE := sD.trans sE
          refine ⟨_, rfl, _, rfl, ?_⟩
          refine sl_at (sCE _ _ laC.at_) fun HF pF sF eF => ?_
          refine cat_at (sF _ _ eE) eF (by show (3 + 1) + 1 ≤ 1000; decide) fun HG r sG eG => ?_
          have sCG := (sCE.trans sF).trans sG
          have kk : Kp h H HC := (b1.kp.same s1B).trans bC.kp
          exact k HG r n pa l wq ws' c (kk.same sCG) (aC.same sCG) ⟨eG, sCG _ _ ewC⟩ lw'
        · refine ⟨_, rfl, ?_⟩
          unfold tNoPart
          refine ⟨_, rfl, ?_⟩
          refine sl_at la1.at_ fun H5 p5 s5 e5 => ?_
          refine ⟨_, rfl, a, _, _, _, rfl, rfl, SqT.of (s5 _ _ la1.at_), atI_nat (j := 4) rfl, _, rfl, _, rfl, by show 5 ≤ sizeLine; decide, fun lA nlA => ?_⟩
          have s6 := same_upd nlA (o := .lst [.int 1, .int (-1), .int 251, .int (-251), .int 0])
          have a6 := a1.same (s5.trans s6)
          have lh : lA ≠ h := fun z => by
            obtain ⟨_, e⟩ := (a1.same s5).lst
            rw [← z, nlA] at e
            cases e
          refine ⟨_, rfl, h, g, 5, rfl, a6, by decide, by decide, fun H7 f b7 a7 f0 f1 => ?_⟩
          have eL := (b7 lA lh).trans upd_same
          obtain ⟨v, hv, hat⟩ := pick_at (n := 5) (xs := [V.int 1, V.int (-1), V.int 251, V.int (-251), V.int 0]) rfl f0 f1
          have hz : ∃ z, v = .int z := by
            simp only [List.mem_cons, List.not_mem_nil, or_false] at hv
            rcases hv with q | q | q | q | q <;> exact ⟨_, q⟩
          obtain ⟨z, rfl⟩ := hz
          refine ⟨lA, _, f, .int z, rfl, rfl, SqL.of eL, hat, _, _, rfl, rfl, by show 1 ≤ sizeLine; decide, fun u nu => ?_⟩
          have hh := a6.lst
          have la7 := (la1.same (s5.trans s6)).kp hh b7.kp
          have e57 : H7 p5 = some (.tup [.int n, .int pa, .int l, .ref q]) := by
            obtain ⟨_, hh⟩ := hh
            have e56 := s6 _ _ e5
            exact b7.kp _ _ (ne_of e56 hh (by intro z; cases z)) e56
          have s8 := same_upd nu (o := .tup [.int (c + z)])
          refine cat_at (s8 _ _ e57) upd_same (by show 4 + 1 ≤ 1000; decide) fun H9 r s9 e9 => ?_
          have s79 := s8.trans s9
          have kk : Kp h H H7 := (b1.kp.same (s5.trans s6)).trans b7.kp
          exact k H9 r n pa l q ws (c + z) (kk.same s79) (a7.same s79) ⟨e9, s79 _ _ la7.words⟩ (by omega)
end

/-! ### odd things -/
theorem IsL.take {h : Addr} {H : Hp} : ∀ {vs : List V} {ds : List Td}, IsL h H vs ds → ∀ n : Nat, IsL h H (vs.take n) (ds.take n)
  | _, _, .nil, n => by rw [List.take_nil, List.take_nil]; exact .nil
  | _, _, .cons a t, 0 => .nil
  | _, _, .cons a t, n + 1 => .cons a (t.take n)
theorem IsL.drop {h : Addr} {H : Hp} : ∀ {vs : List V} {ds : List Td}, IsL h H vs ds → ∀ n : Nat, IsL h H (vs.drop n) (ds.drop n)
  | _, _, .nil, n => by rw [List.drop_nil, List.drop_nil]; exact .nil
  | _, _, .cons a t, 0 => .cons a t
  | _, _, .cons a t, n + 1 => t.drop n
theorem IsL.cut {h : Addr} {H : Hp} {vs : List V} {ds : List Td} (t : IsL h H vs ds) (lo hi : Option Int) : ∃ es, IsL h H (cutV vs lo hi) es := ⟨_, (t.drop _).take _⟩
/-- each of them tells something -/
def AllIs (h : Addr) (H : Hp) (vs : List V) : Prop := ∀ v ∈ vs, ∃ d, Is h H v d
theorem AllIs.kp {h : Addr} {H H' : Hp} {vs : List V} (a : AllIs h H vs) (k : Kp h H H') (hh : ∃ ys, H h = some (.lst ys)) : AllIs h H' vs := fun v hv => let ⟨d, i⟩ := a v hv; ⟨d, i.mv (Mv.of k) hh⟩
section
variable {P : Program} {w : World} {K : PySem.W.Frag} {mg : Str → Option Value} {base : Heap} {A : Adr}
def spOdd : Sp := fun vs H Q _ => ∃ (h g a : Addr) (xs : List V) (ds : List Td), vs = [.ref h, .ref a] ∧ DeckAt H h g ∧ H a = some (.tup xs) ∧ IsL h H xs ds ∧ 1 ≤ xs.length ∧ xs.length ≤ 10 ∧
  ∀ (H' : Hp) (x : V) (d : Td), Kp h H H' → DeckAt H' h g → Is h H' x d → Q x H'
theorem ok_law_odd (T : Top K mg A) : FnOk P w K mg base CX0 3 A.a_law_odd A.d_law_odd P_law_odd spOdd := by
  refine T.F_law_odd.ok sc_law_odd (fun vs H Q E h => ?_) (fun cdv A' outer s H vs Q E hr h => ?_)
  · obtain ⟨h, g, a, xs, ds, rfl, _⟩ := h
    rfl
  · obtain ⟨h, g, a, xs, ds, rfl, a0, ha, il, lx1, lx, k⟩ := h
    refine ⟨_, (pss_cons (ps_set (i := 2) sc_law_odd.nd rfl (.inl rfl) (pe_call (ok_law_draw T) (hr.mono (by decide)) (by rfl) T.g_law_draw T.F_law_draw.kp T.b_law_draw .nil pass0 (pa_cons (pv 0) (pa_cons (pe_callB call_len_seq (by rfl) T.z_len (by decide +kernel) (pa_cons (pv 1) pa_nil)) pa_nil))))
    (pss_cons (ps_set (i := 3) sc_law_odd.nd rfl (.inl rfl) (pe_ix ix_list (pe_lst (pa_cons pe_non (pa_cons pe_bl (pa_cons pe_bl (pa_cons pe_str (pa_cons (pe_tup pa_nil) (pa_cons (pe_lst pa_nil) (pa_cons (pe_tup (pa_cons pe_int pa_nil)) (pa_cons (pe_un un_neg pe_int) (pa_cons pe_int pa_nil)))))))))) (pe_call (ok_law_draw T) (hr.mono (by decide)) (by rfl) T.g_law_draw T.F_law_draw.kp T.b_law_draw .nil pass0 (pa_cons (pv 0) (pa_cons pe_int pa_nil))) (fun _ _ => rfl)))
    (pss_cons (ps_set (i := 4) sc_law_odd.nd rfl (.inl rfl) (pe_lst (pa_cons (pe_callTy call_list_of (by rfl) T.z_list (by decide +kernel) (pa_cons (pv 1) pa_nil)) (pa_cons (pe_slice sl_tupA (pv 1) po_none (po_some (pe_un un_neg pe_int))) (pa_cons (pe_op op_catA (pv 1) (pe_tup (pa_cons pe_int pa_nil))) (pa_cons pe_non (pa_cons pe_int (pa_cons (pe_tup (pa_cons (pv 1) pa_nil)) pa_nil))))))))
    (pss_cons (ps_set (i := 5) sc_law_odd.nd rfl (.inl rfl) (pe_op op_catA (pe_op op_catA (pe_slice sl_tupA (pv 1) po_none (po_some (pv 2))) (pe_tup (pa_cons (pv 3) pa_nil))) (pe_slice sl_tupA (pv 1) (po_some (pe_op op_add (pv 2) pe_int)) po_none)))
    (pss_one (ps_ret (pe_ix ix_list (pe_lst (pa_cons (pe_ix ix_list (pv 4) (pe_call (ok_law_draw T) (hr.mono (by decide)) (by rfl) T.g_law_draw T.F_law_draw.kp T.b_law_draw .nil pass0 (pa_cons (pv 0) (pa_cons pe_int pa_nil))) (fun _ _ => rfl)) (pa_cons (pv 5) (pa_cons (pv 5) (pa_cons (pv 5) pa_nil))))) (pe_call (ok_law_draw T) (hr.mono (by decide)) (by rfl) T.g_law_draw T.F_law_draw.kp T.b_law_draw .nil pass0 (pa_cons (pv 0) (pa_cons pe_int pa_nil))) (fun _ _ => rfl)))))))), ?_⟩
    refine ⟨_, rfl, _, rfl, a, _, rfl, .inr (SqT.of ha), h, g, (xs.length : Int), rfl, a0, by omega, by omega, fun H1 d b1 a1 d0 d1 => ?_⟩
    have ah : a ≠ h := by
      obtain ⟨_, e⟩ := a0.lst
      exact ne_of ha e (by intro z; cases z)
    have ha1 := b1.kp _ _ ah ha
    have il1 := il.mv (Mv.of b1.kp) a0.lst
    -- some
    refine ⟨by show 0 ≤ sizeLine; decide, fun e1 n1 => ⟨by show 0 ≤ sizeLine; decide, fun e2 n2 => ⟨by show 1 ≤ sizeLine; decide, fun e3 n3 => ⟨_, rfl, by show 9 ≤ sizeLine; decide, fun lA nlA => ?_⟩⟩⟩⟩
    have s1 := same_upd n1 (o := .tup [])
    have s2 := same_upd n2 (o := .lst [])
    have s3 := same_upd n3 (o := .tup [.int 1])
    have s4 := same_upd nlA (o := .lst [.non, .bl true, .bl false, .str "1", .ref e1, .ref e2, .ref e3, .int (-1), .int 0])
    have s14 := (s1.trans s2).trans (s3.trans s4)
    have f1 := ((s2.trans s3).trans s4) _ _ (upd_same (H := H1) (a := e1) (o := .tup []))
    have f2 := (s3.trans s4) _ _ (upd_same (H := upd H1 e1 (.tup [])) (a := e2) (o := .lst []))
    have f3 := s4 _ _ (upd_same (H := upd (upd H1 e1 (.tup [])) e2 (.lst [])) (a := e3) (o := .tup [.int 1]))
    have f4 : upd (upd (upd (upd H1 e1 (.tup [])) e2 (.lst [])) e3 (.tup [.int 1])) lA (.lst [.non, .bl true, .bl false, .str "1", .ref e1, .ref e2, .ref e3, .int (-1), .int 0]) lA = some (.lst [.non, .bl true, .bl false, .str "1", .ref e1, .ref e2, .ref e3, .int (-1), .int 0]) := upd_same
    have e2h : e2 ≠ h := fun z => by
      obtain ⟨_, e⟩ := (a1.same s1).lst
      rw [← z, n2] at e
      cases e
    have lAh : lA ≠ h := fun z => by
      obtain ⟨_, e⟩ := (a1.same ((s1.trans s2).trans s3)).lst
      rw [← z, nlA] at e
      cases e
    have a2 := a1.same s14
    have ha2 := s14 _ _ ha1
    have il2 := il1.same s14
    generalize upd (upd (upd (upd H1 e1 (.tup [])) e2 (.lst [])) e3 (.tup [.int 1])) lA (.lst [.non, .bl true, .bl false, .str "1", .ref e1, .ref e2, .ref e3, .int (-1), .int 0]) = H2 at s14 f1 f2 f3 f4 a2 ha2 il2 ⊢
    refine ⟨_, rfl, h, g, 9, rfl, a2, by decide, by decide, fun H3 f b3 a3 g0 g1 => ?_⟩
    have eL := (b3 lA lAh).trans f4
    obtain ⟨v, hv, hat⟩ := pick_at (n := 9) (xs := [V.non, .bl true, .bl false, .str "1", .ref e1, .ref e2, .ref e3, .int (-1), .int 0]) rfl g0 g1
    have iv : ∃ d, Is h H2 v d := by
      simp only [List.mem_cons, List.not_mem_nil, or_false] at hv
      rcases hv with q | q | q | q | q | q | q | q | q <;> subst q
      · exact ⟨_, .non⟩
      · exact ⟨_, .bl _⟩
      · exact ⟨_, .bl _⟩
      · exact ⟨_, .str _⟩
      · exact ⟨_, .tup f1 .nil⟩
      · exact ⟨_, .lst f2 e2h⟩
      · exact ⟨_, .tup f3 (.cons (.int _) .nil)⟩
      · exact ⟨_, .int _⟩
      · exact ⟨_, .int _⟩
    obtain ⟨dv, iv⟩ := iv
    have iv3 := iv.mv (Mv.of b3.kp) a2.lst
    have ha3 := b3.kp _ _ ah ha2
    have il3 := il2.mv (Mv.of b3.kp) a2.lst
    have k03 : Kp h H H3 := (b1.kp.same s14).trans b3.kp
    refine ⟨lA, _, f, v, rfl, rfl, SqL.of eL, hat, ?_⟩
    clear s1 s2 s3 s4 f1 f2 f3 f4 s14 n1 n2 n3 nlA
    -- odd ones
    refine ⟨_, rfl, a, xs, rfl, .inr (SqT.of ha3), fun l1 nl1 => ⟨_, rfl, ?_⟩⟩
    have t1 := same_upd nl1 (o := .lst xs)
    have m1 : upd H3 l1 (.lst xs) l1 = some (.lst xs) := upd_same
    have l1h : l1 ≠ h := fun z => by
      obtain ⟨_, e⟩ := a3.lst
      rw [← z, nl1] at e
      cases e
    unfold tNoPart
    refine ⟨_, rfl, _, rfl, ?_⟩
    refine sl_at (t1 _ _ ha3) fun H4 p4 t2 m2 => ?_
    refine ⟨_, rfl, by show 1 ≤ sizeLine; decide, fun t nt => ?_⟩
    have t3 := same_upd nt (o := .tup [.int 0])
    have t13 := (t1.trans t2).trans t3
    refine cat_at (t13 _ _ ha3) upd_same (by show _ + 1 ≤ 1000; omega) fun H6 p6 t4 m6 => ?_
    have t14 := t13.trans t4
    refine ⟨_, rfl, by show 1 ≤ sizeLine; decide, fun u nu => ⟨by show 6 ≤ sizeLine; decide, fun lB nlB => ?_⟩⟩
    have t5 := same_upd nu (o := .tup [.ref a])
    have t6 := same_upd nlB (o := .lst [.ref l1, .ref p4, .ref p6, .non, .int 7, .ref u])
    have t56 := t5.trans t6
    have t16 := t14.trans t56
    have mB : upd (upd H6 u (.tup [.ref a])) lB (.lst [.ref l1, .ref p4, .ref p6, .non, .int 7, .ref u]) lB = some (.lst [.ref l1, .ref p4, .ref p6, .non, .int 7, .ref u]) := upd_same
    have mu := t6 _ _ (upd_same (H := H6) (a := u) (o := .tup [.ref a]))
    have lBh : lB ≠ h := fun z => by
      obtain ⟨_, e⟩ := (a3.same (t14.trans t5)).lst
      rw [← z, nlB] at e
      cases e
    have a8 := a3.same t16
    have m1' := (((t2.trans t3).trans t4).trans t56) _ _ m1
    have m2' := ((t3.trans t4).trans t56) _ _ m2
    have m6' := t56 _ _ m6
    have ha8 := t16 _ _ ha3
    have il8 := il3.same t16
    have iv8 := iv3.same t16
    generalize upd (upd H6 u (.tup [.ref a])) lB (.lst [.ref l1, .ref p4, .ref p6, .non, .int 7, .ref u]) = H8 at mB mu a8 m1' m2' m6' ha8 il8 iv8 t16 t56 ⊢
    have all8 : AllIs h H8 [.ref l1, .ref p4, .ref p6, .non, .int 7, .ref u] := fun z hz => by
      simp only [List.mem_cons, List.not_mem_nil, or_false] at hz
      rcases hz with q | q | q | q | q | q <;> subst q
      · exact ⟨_, .lst m1' l1h⟩
      · obtain ⟨es, ies⟩ := il8.cut none (some (-1))
        exact ⟨_, .tup m2' ies⟩
      · exact ⟨_, .tup m6' (il8.append (.cons (.int _) .nil))⟩
      · exact ⟨_, .non⟩
      · exact ⟨_, .int _⟩
      · exact ⟨_, .tup mu (.cons (.tup ha8 il8) .nil)⟩
    have k08 : Kp h H H8 := k03.same t16
    clear t1 t2 t3 t4 t5 t6 t13 t14 t16 t56 m1 m2 m6 m1' m2' m6' mu nu nt nl1 nlB iv3 il3 ha3 k03
    -- one changed
    refine ⟨_, rfl, _, rfl, _, rfl, ?_⟩
    refine sl_at ha8 fun H9 p9 r1 q1 => ?_
    refine ⟨_, rfl, by show 1 ≤ sizeLine; decide, fun t nt => ?_⟩
    have r2 := same_upd nt (o := .tup [v])
    have c1 := cutV_length xs none (some d)
    have c2 := cutV_length xs (some (d + 1)) none
    refine cat_at (r2 _ _ q1) upd_same (by show _ + 1 ≤ 1000; omega) fun HA pA r3 qA => ?_
    have r13 := (r1.trans r2).trans r3
    refine ⟨_, rfl, _, rfl, _, _, rfl, rfl, _, rfl, ?_⟩
    refine sl_at (r13 _ _ ha8) fun HB pB r4 qB => ?_
    refine cat_at (r4 _ _ qA) qB (by rw [List.length_append]; show (_ + 1) + _ ≤ 1000; omega) fun HC pC r5 qC => ?_
    have r15 := (r13.trans r4).trans r5
    have aC := a8.same r15
    have allC : AllIs h HC [.ref l1, .ref p4, .ref p6, .non, .int 7, .ref u] := fun z hz => let ⟨d, i⟩ := all8 z hz; ⟨d, i.same r15⟩
    have mC := r15 _ _ mB
    obtain ⟨es1, ie1⟩ := (il8.same r15).cut none (some d)
    obtain ⟨es2, ie2⟩ := (il8.same r15).cut (some (d + 1)) none
    have iC : Is h HC (.ref pC) (.tup ((es1 ++ [dv]) ++ es2)) := .tup qC ((ie1.append (.cons (iv8.same r15) .nil)).append ie2)
    have k0C := k08.same r15
    -- one of them
    refine ⟨_, rfl, _, rfl, h, g, 6, rfl, aC, by decide, by decide, fun HD f2 bD aD y0 y1 => ?_⟩
    have eB := (bD lB lBh).trans mC
    obtain ⟨v2, hv2, hat2⟩ := pick_at (n := 6) (xs := [V.ref l1, .ref p4, .ref p6, .non, .int 7, .ref u]) rfl y0 y1
    obtain ⟨dv2, iv2⟩ := allC v2 hv2
    have iv2 := iv2.mv (Mv.of bD.kp) aC.lst
    have iD := iC.mv (Mv.of bD.kp) aC.lst
    have k0D := k0C.trans bD.kp
    refine ⟨lB, _, f2, v2, rfl, rfl, SqL.of eB, hat2, _, rfl, _, rfl, _, rfl, by show 4 ≤ sizeLine; decide, fun lC nlC => ?_⟩
    have w1 := same_upd nlC (o := .lst [v2, .ref pC, .ref pC, .ref pC])
    have lCh : lC ≠ h := fun z => by
      obtain ⟨_, e⟩ := aD.lst
      rw [← z, nlC] at e
      cases e
    have aE := aD.same w1
    refine ⟨_, rfl, h, g, 4, rfl, aE, by decide, by decide, fun HF f3 bF aF z0 z1 => ?_⟩
    have eC := (bF lC lCh).trans upd_same
    obtain ⟨v3, hv3, hat3⟩ := pick_at (n := 4) (xs := [v2, .ref pC, .ref pC, .ref pC]) rfl z0 z1
    have i3 : ∃ d, Is h HF v3 d := by
      have ja := (iv2.same w1).mv (Mv.of bF.kp) aE.lst
      have jb := (iD.same w1).mv (Mv.of bF.kp) aE.lst
      simp only [List.mem_cons, List.not_mem_nil, or_false] at hv3
      rcases hv3 with q | q | q | q <;> subst q
      · exact ⟨_, ja⟩
      · exact ⟨_, jb⟩
      · exact ⟨_, jb⟩
      · exact ⟨_, jb⟩
    obtain ⟨d3, i3⟩ := i3
    exact ⟨lC, _, f3, v3, rfl, rfl, SqL.of eC, hat3, k HF v3 d3 ((k0D.same w1).trans bF.kp) aF i3⟩
end

/-! ### what is told of a packet -/
section
variable {P : Program} {w : World} {K : PySem.W.Frag} {mg : Str → Option Value} {base : Heap} {A : Adr}
def spTold : Sp := fun vs H Q _ => ∃ (x : V) (d : Td) (h : Addr), vs = [x] ∧ Is h H x d ∧ (packB 12 3 d = true → ∀ (H' : Hp) (p : Addr), Same H H' → H' p = some (.tup [.str "cells", .int (partsN d)]) → Q (.ref p) H') ∧ (packB 12 3 d = false → ∀ (H' : Hp) (p : Addr), Same H H' → H' p = some (.tup [.str "none", .bl true]) → Q (.ref p) H')
theorem ok_law_told (T : Top K mg A) : FnOk P w K mg base CX0 7 A.a_law_told A.d_law_told P_law_told spTold := by
  refine T.F_law_told.ok sc_law_told (fun vs H Q E h => ?_) (fun cdv A' outer s H vs Q E hr h => ?_)
  · obtain ⟨x, d, h, rfl, _⟩ := h
    rfl
  · obtain ⟨x, d, h, rfl, ix, yes, no⟩ := h
    refine ⟨_, (pss_cons (ps_set (i := 1) sc_law_told.nd rfl (.inl rfl) pe_non)
    (pss_cons (ps_try_as (i := 2) rfl rfl sc_law_told.nd rfl rfl (by exact ⟨rfl, by decide, .inl T.gc_NoPacket⟩) LamX.takes0 (fun W pn xe tk _ => (pss_one (ps_set (i := 1) sc_law_told.nd rfl (.inl rfl) (pe_tup (pa_cons pe_str (pa_cons (pe_call (ok_cells_in T) (hr.mono (by decide)) (by rfl) T.g_cells_in T.F_cells_in.kp T.b_cells_in .nil (GX.passT 3 tk) (pa_cons (pv 0) pa_nil)) pa_nil)))))) (fun a oe cls d pn hz hf => by exact (pss_one (ps_set (i := 1) sc_law_told.nd rfl (.inl rfl) (pe_tup (pa_cons pe_str (pa_cons (pe_and (pe_callB (GX.call_isEa (a := a) (pn := pn) hz hf) (by rfl) T.z_isinstance (by decide +kernel) (pa_cons (pv 2) (pa_cons (pe_glob (v := .ref A.c_FabricError) (by rfl) T.gc_FabricError (by rfl)) pa_nil))) (pe_one (pe_not (pe_callB (GX.call_isEa (a := a) (pn := pn) hz hf) (by rfl) T.z_isinstance (by decide +kernel) (pa_cons (pv 2) (pa_cons (pe_glob (v := .ref A.c_NoOutput) (by rfl) T.gc_NoOutput (by rfl)) pa_nil)))))) pa_nil)))))))
    (pss_one (ps_ret (pv 1))))), ?_⟩
    refine ⟨_, rfl, x, d, h, rfl, ix, fun c H' s => ⟨by show 2 ≤ sizeLine; decide, fun p np => ?_⟩, fun c H' s => ?_⟩
    · exact ⟨_, rfl, yes c _ p (s.trans (same_upd np)) upd_same⟩
    · intro σ hσ
      obtain ⟨x0, x1, x2, rfl⟩ : ∃ x0 x1 x2, σ = [x0, x1, x2] := by
        match σ, hσ with
        | [x0, x1, x2], _ => exact ⟨x0, x1, x2, rfl⟩
      have xD : ExcC K A.c_NoPacket := ⟨T.e1_NoPacket, T.e2_NoPacket, T.s_NoPacket, T.e3_NoPacket, T.e4_NoPacket, T.en1, T.en2, T.e5_NoPacket⟩
      refine ⟨true, T.xm_NoPacket_NoPacket, fun _ a ha => ?_, fun z => by cases z⟩
      refine ⟨_, rfl, A.c_NoPacket, rfl, xD, .inl rfl, _, _, true, rfl, fun u r => r, T.kt_NoPacket_FabricError, true, rfl, iteT ?_⟩
      refine ⟨_, rfl, A.c_NoPacket, rfl, xD, .inl rfl, _, _, false, rfl, fun u r => r, T.kt_NoPacket_NoOutput, _, rfl, ?_⟩
      refine ⟨by show 2 ≤ sizeLine; decide, fun p np => ?_⟩
      exact ⟨_, rfl, no c _ p (s.trans (same_upd np)) upd_same⟩
end

def toldD (d : Td) : PyData := if packB 12 3 d = true then .tuple [.str "cells", .int (partsN d)] else .tuple [.str "none", .bool true]
theorem cells_sh (z : Int) : SeqAt.shaped (.tuple [.str "cells", .int z]) = true := by
  unfold SeqAt.shaped
  kernel_rfl
theorem none_sh : SeqAt.shaped (.tuple [.str "none", .bool true]) = true := by
  unfold SeqAt.shaped
  kernel_rfl
theorem ceil4 (n : Int) : -((-n) / 4) = (n + 4 - 1) / 4 := by omega
theorem IsL.rep {h : Addr} {H : Hp} {vs : List V} {ds : List Td} (t : IsL h H vs ds) : ∀ n : Nat, IsL h H (List.replicate n vs).flatten (List.replicate n ds).flatten
  | 0 => .nil
  | n + 1 => by
    rw [List.replicate_succ, List.replicate_succ, List.flatten_cons, List.flatten_cons]
    exact t.append (t.rep n)
theorem all_word {ws : List Int} (h : ∀ x ∈ ws, 0 ≤ x ∧ x ≤ 255) : (ws.map Td.int).all (inI 0 255) = true := by
  rw [List.all_map, List.all_eq_true]
  intro x hx
  obtain ⟨h0, h1⟩ := h x hx
  show (decide (0 ≤ x) && decide (x ≤ 255)) = true
  rw [decide_eq_true h0, decide_eq_true h1]
  rfl
theorem words_ok {m : Int} {ws : List Int} (h : ∀ x ∈ ws, 0 ≤ x ∧ x ≤ 255) (h1 : 1 ≤ ws.length) (h2 : (ws.length : Int) ≤ m) : wordsB m (.tup (ws.map Td.int)) = true := by
  show ((decide (1 ≤ ((ws.map Td.int).length : Int)) && decide (((ws.map Td.int).length : Int) ≤ m)) && (ws.map Td.int).all (inI 0 255)) = true
  rw [List.length_map, decide_eq_true (show 1 ≤ (ws.length : Int) by omega), decide_eq_true h2, all_word h]
  rfl
theorem steps_ok : ∀ {os : List Int}, os.Pairwise (· < ·) → (stepL os).all id = true
  | [], _ => rfl
  | [_], _ => rfl
  | x :: y :: r, h => by
    rw [List.pairwise_cons] at h
    show (decide (x < y) && (stepL (y :: r)).all id) = true
    rw [decide_eq_true (h.1 y List.mem_cons_self), steps_ok h.2]
    rfl
theorem ints_back (ws : List Int) : (ws.map Td.int).map intOf = ws := by
  rw [List.map_map]
  exact List.map_id _
theorem outs_ok {os : List Int} (h : OutsOk os) : outsB 12 3 (.tup (os.map Td.int)) = true := by
  unfold outsB
  rw [lotB_eq, ints_back, steps_ok h.asc]
  have ha : (os.map Td.int).all (inI 0 11) = true := by
    rw [List.all_map, List.all_eq_true]
    intro x hx
    obtain ⟨h0, h1⟩ := h.lt x hx
    show (decide (0 ≤ x) && decide (x ≤ 11)) = true
    rw [decide_eq_true h0, decide_eq_true h1]
    rfl
  rw [ha]
  show (true && true && (decide (1 ≤ ((os.map Td.int).length : Int)) && decide (((os.map Td.int).length : Int) ≤ 3))) = true
  have h1 := h.one
  have h2 := h.few
  rw [List.length_map, decide_eq_true (show 1 ≤ (os.length : Int) by omega), decide_eq_true (show (os.length : Int) ≤ 3 by omega)]
  rfl
def packT (s k : Int) (os ws : List Int) : Td := .tup [.int s, .int k, .tup (os.map Td.int), .tup (ws.map Td.int)]
theorem PackAt.is {H : Hp} {p : Addr} {s k : Int} {q1 q2 : Addr} {os ws : List Int} (a : PackAt H p s k q1 q2 os ws) (h : Addr) : Is h H (.ref p) (packT s k os ws) :=
  .tup a.at_ (.cons (.int _) (.cons (.int _) (.cons (.tup a.outs IsL.ints) (.cons (.tup a.words IsL.ints) .nil))))
theorem pack_ok {s k : Int} {os ws : List Int} (h : PackOk s k os ws) : packB 12 3 (packT s k os ws) = true := by
  show (inI 0 99 (.int s) && (inI 0 7 (.int k) && (outsB 12 3 (.tup (os.map Td.int)) && wordsB 40 (.tup (ws.map Td.int))))) = true
  have h2 := h.few
  rw [outs_ok h.os, words_ok h.lt h.one (show (ws.length : Int) ≤ 40 by omega)]
  show ((decide (0 ≤ s) && decide (s ≤ 99)) && ((decide (0 ≤ k) && decide (k ≤ 7)) && true)) = true
  rw [decide_eq_true h.s0.1, decide_eq_true h.s0.2, decide_eq_true h.k0.1, decide_eq_true h.k0.2]
  rfl
theorem load_ok {n : Int} {ws : List Int} {p : Nat} (n0 : 0 ≤ n) (n1 : n ≤ 1000000000) (h : ∀ x ∈ ws, 0 ≤ x ∧ x ≤ 255) (hp : 4 * p < ws.length) (few : ws.length ≤ 40) :
    loadB (loadT n (p : Int) (((ws.length : Int) - 1) / 4 - (p : Int)) ((ws.drop (4 * p)).take 4) (chk n (p : Int) (((ws.length : Int) - 1) / 4 - (p : Int)) ((ws.drop (4 * p)).take 4))) = true := by
  generalize hl : ((ws.length : Int) - 1) / 4 - (p : Int) = l
  have lq : ((ws.drop (4 * p)).take 4).length = min 4 (ws.length - 4 * p) := by rw [List.length_take, List.length_drop]
  have bq : ∀ x ∈ (ws.drop (4 * p)).take 4, 0 ≤ x ∧ x ≤ 255 := fun x hx => h x (List.mem_of_mem_drop (List.mem_of_mem_take hx))
  generalize (ws.drop (4 * p)).take 4 = qs at lq bq ⊢
  have c0 : 0 ≤ chk n (p : Int) l qs := Int.emod_nonneg _ (by decide)
  have c1 : chk n (p : Int) l qs < 251 := Int.emod_lt_of_pos _ (by decide)
  show (inI 0 1000000000 (.int n) && (inI 0 9 (.int (p : Int)) && (inI 0 (10 - (p : Int) - 1) (.int l) && (wordsB 4 (.tup (qs.map Td.int)) && (!(decide (0 < l) && decide (((qs.map Td.int).length : Int) < 4)) && (inI 0 250 (.int (chk n (p : Int) l qs)) && decide (chk n (p : Int) l qs = chk n (p : Int) l ((qs.map Td.int).map intOf)))))))) = true
  rw [ints_back, words_ok bq (by omega) (show (qs.length : Int) ≤ 4 by omega), List.length_map]
  have t1 : inI 0 1000000000 (.int n) = true := by
    show (decide (0 ≤ n) && decide (n ≤ 1000000000)) = true
    rw [decide_eq_true n0, decide_eq_true n1]; rfl
  have t2 : inI 0 9 (.int (p : Int)) = true := by
    show (decide (0 ≤ (p : Int)) && decide ((p : Int) ≤ 9)) = true
    rw [decide_eq_true (show 0 ≤ (p : Int) by omega), decide_eq_true (show (p : Int) ≤ 9 by omega)]; rfl
  have t3 : inI 0 (10 - (p : Int) - 1) (.int l) = true := by
    show (decide (0 ≤ l) && decide (l ≤ 10 - (p : Int) - 1)) = true
    rw [decide_eq_true (show 0 ≤ l by omega), decide_eq_true (show l ≤ 10 - (p : Int) - 1 by omega)]; rfl
  have t4 : inI 0 250 (.int (chk n (p : Int) l qs)) = true := by
    show (decide (0 ≤ _) && decide (_ ≤ (250 : Int))) = true
    rw [decide_eq_true c0, decide_eq_true (show chk n (p : Int) l qs ≤ 250 by omega)]; rfl
  have t5 : (decide (0 < l) && decide ((qs.length : Int) < 4)) = false := by
    by_cases z : 0 < l
    · rw [decide_eq_false (show ¬ ((qs.length : Int) < 4) by omega), Bool.and_false]
    · rw [decide_eq_false z, Bool.false_and]
  rw [t1, t2, t3, t4, t5, decide_eq_true rfl]
  rfl

section
variable {P : Program} {w : World} {K : PySem.W.Frag} {mg : Str → Option Value} {base : Heap} {A : Adr}
theorem AllIs.same {h : Addr} {H H' : Hp} {vs : List V} (a : AllIs h H vs) (s : Same H H') : AllIs h H' vs := fun v hv => let ⟨d, i⟩ := a v hv; ⟨d, i.same s⟩
theorem AllIs.snoc {h : Addr} {H : Hp} {vs : List V} {x : V} {d : Td} (a : AllIs h H vs) (i : Is h H x d) : AllIs h H (vs ++ [x]) := fun v hv => by
  rcases List.mem_append.mp hv with q | q
  · exact a v q
  · rw [List.mem_singleton] at q
    rw [q]
    exact ⟨d, i⟩
theorem PackAt.same {H H' : Hp} {p : Addr} {s k : Int} {q1 q2 : Addr} {os ws : List Int} (a : PackAt H p s k q1 q2 os ws) (t : Same H H') : PackAt H' p s k q1 q2 os ws := ⟨t _ _ a.at_, t _ _ a.outs, t _ _ a.words⟩
theorem PackAt.kp {H H' : Hp} {p : Addr} {s k : Int} {q1 q2 : Addr} {os ws : List Int} {h : Addr} (a : PackAt H p s k q1 q2 os ws) (hh : ∃ ys, H h = some (.lst ys)) (t : Kp h H H') : PackAt H' p s k q1 q2 os ws := by
  obtain ⟨_, hh⟩ := hh
  exact ⟨t _ _ (ne_of a.at_ hh (by intro z; cases z)) a.at_, t _ _ (ne_of a.outs hh (by intro z; cases z)) a.outs, t _ _ (ne_of a.words hh (by intro z; cases z)) a.words⟩
theorem tup_kp {H H' : Hp} {h b : Addr} {us : List V} (e : H b = some (.tup us)) (hh : ∃ ys, H h = some (.lst ys)) (t : Kp h H H') : H' b = some (.tup us) := by
  obtain ⟨_, hh⟩ := hh
  exact t _ _ (ne_of e hh (by intro z; cases z)) e
def cellsD (z : Int) : PyData := .tuple [.str "cells", .int z]
def noneD : PyData := .tuple [.str "none", .bool true]
theorem cells_dp {K : PySem.W.Frag} {H : Hp} {p : Addr} {z : Int} (e : H p = some (.tup [.str "cells", .int z])) : Dp K H (.ref p) (cellsD z) := .tup (SqT.of e) (.cons (.str _) (.cons (.int _) .nil))
theorem none_dp {K : PySem.W.Frag} {H : Hp} {p : Addr} (e : H p = some (.tup [.str "none", .bl true])) : Dp K H (.ref p) noneD := .tup (SqT.of e) (.cons (.str _) (.cons (.bl _) .nil))
theorem cells_lay (z : Int) : (cellsD z).canLay0 = true := by kernel_rfl
theorem none_lay : noneD.canLay0 = true := by kernel_rfl
theorem pack_tup {n m : Int} {d : Td} (c : packB n m d = true) : tupN 4 d = true := by
  cases z : tupN 4 d with
  | true => rfl
  | false => rw [packB_no z] at c; cases c
/-- the words' part of what is a packet -/
theorem pack_words {h : Addr} {H : Hp} {x : V} {d : Td} (t : Is h H x d) (c : packB 12 3 d = true) : ∃ a x1 x2 x3 b us, x = .ref a ∧ H a = some (.tup [x1, x2, x3, .ref b]) ∧ H b = some (.tup us) ∧ (us.length : Int) = wLen d := by
  obtain ⟨a, x1, x2, x3, x4, d1, d2, d3, d4, rfl, rfl, ha, i1, i2, i3, i4⟩ := four_of t (pack_tup c)
  have c : (inI 0 99 d1 && (inI 0 7 d2 && (outsB 12 3 d3 && wordsB 40 d4))) = true := c
  rw [Bool.and_eq_true, Bool.and_eq_true, Bool.and_eq_true] at c
  have cw := c.2.2.2
  cases d4 with
  | tup ws =>
    obtain ⟨b, us, ds, rfl, e, hb, hl⟩ := isT_of i4 rfl
    cases e
    exact ⟨a, x1, x2, x3, b, us, rfl, ha, hb, by show (us.length : Int) = (ws.length : Int); rw [hl.len]⟩
  | _ => cases cw
def spLaw (K : PySem.W.Frag) : Sp := fun vs H Q _ => ∃ (a : Addr) (ns : List Int), vs = [.ref a] ∧ SqL K H a (ns.map V.int) ∧ ns.length ≤ 63 ∧ ∀ H', Q (.bl true) H'
theorem ok_law (T : Top K mg A) : FnOk P w K mg base CX0 20 A.a_law A.d_law P_law (spLaw K) := by
  refine T.F_law.ok sc_law (fun vs H Q E h => ?_) (fun cdv A' outer s H vs Q E hr h => ?_)
  · obtain ⟨a, ns, rfl, _⟩ := h
    rfl
  · obtain ⟨sa, ns, rfl, hS, hn, kq⟩ := h
    refine ⟨_, (pss_cons (ps_set (i := 1) sc_law.nd rfl (.inl rfl) (pe_call (ok_law_deck T) (hr.mono (by decide)) (by rfl) T.g_law_deck T.F_law_deck.kp T.b_law_deck .nil pass0 (pa_cons (pv 0) pa_nil)))
    (pss_cons (ps_for PassesOwn.never rfl (pi_range1 rfl T.z_range (pa_cons pe_int pa_nil)) (pg_name (i := 2) sc_law.nd rfl (.inl rfl)) (pss_cons (ps_set (i := 3) sc_law.nd rfl (.inl rfl) (pe_call (ok_law_packet T) (hr.mono (by decide)) (by rfl) T.g_law_packet T.F_law_packet.kp T.b_law_packet .nil pass0 (pa_cons (pv 1) (pa_cons pe_int (pa_cons pe_int pa_nil)))))
    (pss_cons (ps_set (i := 4) sc_law.nd rfl (.inl rfl) (pe_call (ok_law_told T) (hr.mono (by decide)) (by rfl) T.g_law_told T.F_law_told.kp T.b_law_told .nil pass0 (pa_cons (pv 3) pa_nil)))
    (pss_cons (ps_if (PW.pt (pw_or (pt_cmpR (op_neD hr.units) (pv 4) (pe_tup (pa_cons pe_str (pa_cons (pe_un un_neg (pe_op op_fdiv (pe_un un_neg (pe_callB call_len_seq (by rfl) T.z_len (by decide +kernel) (pa_cons (pe_ix ix_tup (pv 3) pe_int (fun _ _ => rfl)) pa_nil))) pe_int)) pa_nil))) (nomark _)) (pw_or1 (pt_val (pe_callB call_isi (by rfl) T.z_isinstance (by decide +kernel) (pa_cons (pe_ix ix_tup (pv 4) pe_int (fun _ _ => rfl)) (pa_cons (pe_bltn (v := .ty "bool") (by rfl) T.z_bool (by decide +kernel) rfl) pa_nil))))))) (pss_one (ps_ret pe_bl)) pss_nil)
    (pss_cons (ps_set (i := 5) sc_law.nd rfl (.inl rfl) (pe_call (ok_law_draw T) (hr.mono (by decide)) (by rfl) T.g_law_draw T.F_law_draw.kp T.b_law_draw .nil pass0 (pa_cons (pv 1) (pa_cons pe_int pa_nil))))
    (Evl.pss_cut (ps_if (pt_cmpR op_eq (pv 5) pe_int (nomark _)) (pss_one (ps_set (i := 3) sc_law.nd rfl (.inl rfl) (pe_op op_catA (pe_slice sl_tupA (pv 3) po_none (po_some pe_int)) (pe_tup (pa_cons (pe_slice sl_tupA (pe_op op_repT (pe_ix ix_tup (pv 3) pe_int (fun _ _ => rfl)) pe_int) po_none (po_some (pe_op op_add pe_int (pe_call (ok_law_draw T) (hr.mono (by decide)) (by rfl) T.g_law_draw T.F_law_draw.kp T.b_law_draw .nil pass0 (pa_cons (pv 1) (pa_cons pe_int pa_nil)))))) pa_nil))))) (pss_one (ps_if (pt_cmpR op_eq (pv 5) pe_int (nomark _)) (pss_cons (ps_set (i := 6) sc_law.nd rfl (.inl rfl) (pe_call (ok_law_draw T) (hr.mono (by decide)) (by rfl) T.g_law_draw T.F_law_draw.kp T.b_law_draw .nil pass0 (pa_cons (pv 1) (pa_cons (pe_callB call_len_seq (by rfl) T.z_len (by decide +kernel) (pa_cons (pe_ix ix_tup (pv 3) pe_int (fun _ _ => rfl)) pa_nil)) pa_nil))))
    (pss_cons (ps_set (i := 7) sc_law.nd rfl (.inl rfl) (pe_ix ix_list (pe_lst (pa_cons pe_int (pa_cons (pe_un un_neg pe_int) (pa_cons pe_bl (pa_cons pe_non (pa_cons pe_str (pa_cons pe_int (pa_cons (pe_op op_pow pe_int pe_int) pa_nil)))))))) (pe_call (ok_law_draw T) (hr.mono (by decide)) (by rfl) T.g_law_draw T.F_law_draw.kp T.b_law_draw .nil pass0 (pa_cons (pv 1) (pa_cons pe_int pa_nil))) (fun _ _ => rfl)))
    (pss_one (ps_set (i := 3) sc_law.nd rfl (.inl rfl) (pe_op op_catA (pe_slice sl_tupA (pv 3) po_none (po_some pe_int)) (pe_tup (pa_cons (pe_op op_catA (pe_op op_catA (pe_slice sl_tupA (pe_ix ix_tup (pv 3) pe_int (fun _ _ => rfl)) po_none (po_some (pv 6))) (pe_tup (pa_cons (pv 7) pa_nil))) (pe_slice sl_tupA (pe_ix ix_tup (pv 3) pe_int (fun _ _ => rfl)) (po_some (pe_op op_add (pv 6) pe_int)) po_none)) pa_nil))))))) (pss_one (ps_if (pt_cmpR op_eq (pv 5) pe_int (nomark _)) (pss_cons (ps_set (i := 8) sc_law.nd rfl (.inl rfl) (pe_ix ix_list (pe_lst (pa_cons (pe_tup (pa_cons pe_int (pa_cons pe_int (pa_cons pe_int (pa_cons pe_int pa_nil))))) (pa_cons (pe_tup (pa_cons pe_int pa_nil)) (pa_cons (pe_tup (pa_cons pe_int pa_nil)) (pa_cons (pe_tup (pa_cons pe_int (pa_cons pe_int pa_nil))) (pa_cons (pe_tup (pa_cons pe_int (pa_cons pe_int pa_nil))) (pa_cons (pe_tup pa_nil) (pa_cons (pe_lst (pa_cons pe_int pa_nil)) (pa_cons (pe_tup (pa_cons pe_bl pa_nil)) (pa_cons (pe_tup (pa_cons pe_int (pa_cons pe_int (pa_cons pe_int pa_nil)))) pa_nil)))))))))) (pe_call (ok_law_draw T) (hr.mono (by decide)) (by rfl) T.g_law_draw T.F_law_draw.kp T.b_law_draw .nil pass0 (pa_cons (pv 1) (pa_cons pe_int pa_nil))) (fun _ _ => rfl)))
    (pss_one (ps_set (i := 3) sc_law.nd rfl (.inl rfl) (pe_op op_catA (pe_op op_catA (pe_slice sl_tupA (pv 3) po_none (po_some pe_int)) (pe_tup (pa_cons (pv 8) pa_nil))) (pe_slice sl_tupA (pv 3) (po_some pe_int) po_none))))) (pss_one (ps_set (i := 3) sc_law.nd rfl (.inl rfl) (pe_call (ok_law_odd T) (hr.mono (by decide)) (by rfl) T.g_law_odd T.F_law_odd.kp T.b_law_odd .nil pass0 (pa_cons (pv 1) (pa_cons (pv 3) pa_nil))))))))))
    (pss_cons (ps_set (i := 4) sc_law.nd rfl (.inl rfl) (pe_call (ok_law_told T) (hr.mono (by decide)) (by rfl) T.g_law_told T.F_law_told.kp T.b_law_told .nil pass0 (pa_cons (pv 3) pa_nil)))
    (pss_one (ps_if (pt_val (pe_call (ok_law_is_packet T) (hr.mono (by decide)) (by rfl) T.g_law_is_packet T.F_law_is_packet.kp T.b_law_is_packet .nil pass0 (pa_cons (pv 3) pa_nil))) (pss_one (ps_if (PW.pt (pw_or (pt_cmpR (op_neD hr.units) (pv 4) (pe_tup (pa_cons pe_str (pa_cons (pe_un un_neg (pe_op op_fdiv (pe_un un_neg (pe_callB call_len_seq (by rfl) T.z_len (by decide +kernel) (pa_cons (pe_ix ix_tup (pv 3) pe_int (fun _ _ => rfl)) pa_nil))) pe_int)) pa_nil))) (nomark _)) (pw_or1 (pt_val (pe_callB call_isi (by rfl) T.z_isinstance (by decide +kernel) (pa_cons (pe_ix ix_tup (pv 4) pe_int (fun _ _ => rfl)) (pa_cons (pe_bltn (v := .ty "bool") (by rfl) T.z_bool (by decide +kernel) rfl) pa_nil))))))) (pss_one (ps_ret pe_bl)) pss_nil)) (pss_one (ps_if (pt_cmpR (op_neD hr.units) (pv 4) (pe_tup (pa_cons pe_str (pa_cons pe_bl pa_nil))) (nomark _)) (pss_one (ps_ret pe_bl)) pss_nil)))))))))))
    (pss_cons (ps_for PassesOwn.never rfl (pi_range1 rfl T.z_range (pa_cons pe_int pa_nil)) (pg_name (i := 2) sc_law.nd rfl (.inl rfl)) (pss_cons (ps_set (i := 9) sc_law.nd rfl (.inl rfl) (pe_ix ix_tup (pe_call (ok_law_packet T) (hr.mono (by decide)) (by rfl) T.g_law_packet T.F_law_packet.kp T.b_law_packet .nil pass0 (pa_cons (pv 1) (pa_cons pe_int (pa_cons pe_int pa_nil)))) pe_int (fun _ _ => rfl)))
    (pss_cons (ps_set (i := 10) sc_law.nd rfl (.inl rfl) (pe_call (ok_law_load T) (hr.mono (by decide)) (by rfl) T.g_law_load T.F_law_load.kp T.b_law_load .nil pass0 (pa_cons (pe_call (ok_law_draw T) (hr.mono (by decide)) (by rfl) T.g_law_draw T.F_law_draw.kp T.b_law_draw .nil pass0 (pa_cons (pv 1) (pa_cons (pe_op op_add (pe_op op_pow pe_int pe_int) pe_int) pa_nil))) (pa_cons (pv 9) (pa_cons (pe_call (ok_law_draw T) (hr.mono (by decide)) (by rfl) T.g_law_draw T.F_law_draw.kp T.b_law_draw .nil pass0 (pa_cons (pv 1) (pa_cons (pe_op op_fdiv (pe_op op_add (pe_callB call_len_seq (by rfl) T.z_len (by decide +kernel) (pa_cons (pv 9) pa_nil)) pe_int) pe_int) pa_nil))) pa_nil)))))
    (pss_cons (ps_if (pt_cmpR op_notBl (pe_call (ok_is_load T) (hr.mono (by decide)) (by rfl) T.g_is_load T.F_is_load.kp T.b_is_load .nil pass0 (pa_cons (pv 10) pa_nil)) pe_bl (nomark _)) (pss_one (ps_ret pe_bl)) pss_nil)
    (pss_cons (ps_for PassesOwn.never rfl (pi_range1 rfl T.z_range (pa_cons (pe_call (ok_law_draw T) (hr.mono (by decide)) (by rfl) T.g_law_draw T.F_law_draw.kp T.b_law_draw .nil pass0 (pa_cons (pv 1) (pa_cons pe_int pa_nil))) pa_nil)) (pg_name (i := 11) sc_law.nd rfl (.inl rfl)) (pss_one (ps_if (pt_cmpR op_gt (pe_callB call_len_seq (by rfl) T.z_len (by decide +kernel) (pa_cons (pe_ix ix_tup (pv 10) pe_int (fun _ _ => rfl)) pa_nil)) pe_int (nomark _)) (pss_one (ps_set (i := 10) sc_law.nd rfl (.inl rfl) (pe_call (ok_law_changed T) (hr.mono (by decide)) (by rfl) T.g_law_changed T.F_law_changed.kp T.b_law_changed .nil pass0 (pa_cons (pv 1) (pa_cons (pv 10) pa_nil))))) pss_nil)))
    (Evl.pss_cut (ps_if (pt_cmpR op_eq (pe_call (ok_law_draw T) (hr.mono (by decide)) (by rfl) T.g_law_draw T.F_law_draw.kp T.b_law_draw .nil pass0 (pa_cons (pv 1) (pa_cons pe_int pa_nil))) pe_int (nomark _)) (pss_one (ps_set (i := 10) sc_law.nd rfl (.inl rfl) (pe_call (ok_law_fitted T) (hr.mono (by decide)) (by rfl) T.g_law_fitted T.F_law_fitted.kp T.b_law_fitted .nil pass0 (pa_cons (pv 10) pa_nil)))) pss_nil)
    (Evl.pss_cut (ps_if (pt_cmpR op_eq (pe_call (ok_law_draw T) (hr.mono (by decide)) (by rfl) T.g_law_draw T.F_law_draw.kp T.b_law_draw .nil pass0 (pa_cons (pv 1) (pa_cons pe_int pa_nil))) pe_int (nomark _)) (pss_one (ps_set (i := 10) sc_law.nd rfl (.inl rfl) (pe_call (ok_law_odd T) (hr.mono (by decide)) (by rfl) T.g_law_odd T.F_law_odd.kp T.b_law_odd .nil pass0 (pa_cons (pv 1) (pa_cons (pv 10) pa_nil))))) pss_nil)
    (pss_cons (ps_set (i := 4) sc_law.nd rfl (.inl rfl) (pe_call (ok_is_load T) (hr.mono (by decide)) (by rfl) T.g_is_load T.F_is_load.kp T.b_is_load .nil pass0 (pa_cons (pv 10) pa_nil)))
    (pss_one (ps_if (PW.pt (pw_or (pt_not (pt_val (pe_callB call_isi (by rfl) T.z_isinstance (by decide +kernel) (pa_cons (pv 4) (pa_cons (pe_bltn (v := .ty "bool") (by rfl) T.z_bool (by decide +kernel) rfl) pa_nil))))) (pw_or1 (pt_cmpR op_ne (pv 4) (pe_call (ok_law_is_load T) (hr.mono (by decide)) (by rfl) T.g_law_is_load T.F_law_is_load.kp T.b_law_is_load .nil pass0 (pa_cons (pv 10) pa_nil)) (nomark _))))) (pss_one (ps_ret pe_bl)) pss_nil))))))))))
    (pss_one (ps_ret pe_bl))))), ?_⟩
    refine ⟨_, rfl, sa, ns, rfl, hS, fun H1 h g s1 _ _ a1 => ?_⟩
    refine ⟨3, rfl, by decide, by decide, ?_⟩
    refine for_range (lo := 0) (n := (3 : Int).toNat) (fun i σ H' => ∃ y2 y3 y4 y5 y6 y7 y8 : Option V, σ = [some (.ref sa), some (.ref h), y2, y3, y4, y5, y6, y7, y8, none, none, none] ∧ DeckAt H' h g) ⟨_, _, _, _, _, _, _, rfl, a1⟩ ?_ ?_
    · rintro i σ H2 hi ⟨y2, y3, y4, y5, y6, y7, y8, rfl, a2⟩
      refine ⟨_, rfl, h, g, rfl, a2, fun H3 p s k q1 q2 os ws kp3 a3 pa pok => ?_⟩
      have hh3 := a3.lst
      have pis := pa.is h
      have pb := pack_ok pok
      refine ⟨_, rfl, _, _, h, rfl, pis, fun _ H4 t s4 e4 => ?_, fun c => by rw [pb] at c; cases c⟩
      have a4 := a3.same s4
      have pa4 : PackAt H4 p s k q1 q2 os ws := ⟨s4 _ _ pa.at_, s4 _ _ pa.outs, s4 _ _ pa.words⟩
      have ev : partsN (packT s k os ws) = -((-((ws.map V.int).length : Int)) / 4) := by
        rw [ceil4]
        show (((ws.map Td.int).length : Int) + 4 - 1) / 4 = _
        rw [List.length_map, List.length_map]
      rw [ev] at e4
      refine ⟨_, rfl, _, rfl, p, _, _, _, rfl, rfl, SqT.of pa4.at_, atI_nat (j := 3) rfl, q2, _, rfl, .inr (SqT.of pa4.words), _, rfl, _, _, rfl, rfl, ⟨by decide, by decide⟩, _, rfl, by show 2 ≤ sizeLine; decide, fun u nu => ?_⟩
      have s5 := same_upd nu (o := .tup [.str "cells", .int (-((-((ws.map V.int).length : Int)) / 4))])
      refine ⟨cellsD (-((-((ws.map V.int).length : Int)) / 4)), cellsD (-((-((ws.map V.int).length : Int)) / 4)), cells_dp (s5 _ _ e4), cells_dp upd_same, cells_sh _, cells_sh _, ?_⟩
      rw [SeqAt.eqv_refl _ (cells_lay _)]
      refine ⟨false, rfl, iteF ?_⟩
      have a5 := a4.same s5
      have pa5 : PackAt (upd H4 u (.tup [.str "cells", .int (-((-((ws.map V.int).length : Int)) / 4))])) p s k q1 q2 os ws := ⟨s5 _ _ pa4.at_, s5 _ _ pa4.outs, s5 _ _ pa4.words⟩
      have e5 := s5 _ _ e4
      generalize upd H4 u (.tup [.str "cells", .int (-((-((ws.map V.int).length : Int)) / 4))]) = H5 at a5 pa5 e5 ⊢
      clear s5 s4 pa4 a4 e4 a3 pa hh3 nu
      obtain ⟨tt, tty, _, te2, _⟩ := is_ty T (Is.int (h := h) (H := H5) (-((-((ws.map V.int).length : Int)) / 4)))
      refine ⟨_, rfl, t, _, _, _, rfl, rfl, SqT.of e5, atI_nat (j := 1) rfl, _, _, _, _, _, rfl, .ty "bool", tty, te2, _, rfl, iteF ?_⟩
      refine ⟨_, rfl, h, g, 4, rfl, a5, by decide, by decide, fun H6 kd b6 a6 _ _ => ?_⟩
      have kp6 := b6.kp
      have hh5 := a5.lst
      have pa6 : PackAt H6 p s k q1 q2 os ws := by
        obtain ⟨_, hh5⟩ := hh5
        exact ⟨kp6 _ _ (ne_of pa5.at_ hh5 (by intro z; cases z)) pa5.at_, kp6 _ _ (ne_of pa5.outs hh5 (by intro z; cases z)) pa5.outs, kp6 _ _ (ne_of pa5.words hh5 (by intro z; cases z)) pa5.words⟩
      have pis6 := pa6.is h
      refine ⟨fun σ' H' => ∃ (x : V) (d : Td) (y2 y4 y5 y6 y7 y8 : Option V), σ' = [some (.ref sa), some (.ref h), y2, some x, y4, y5, y6, y7, y8, none, none, none] ∧ DeckAt H' h g ∧ Is h H' x d, ?_, ?_⟩
      · refine ⟨_, rfl, rfl, _, rfl, ite2 (fun _ => ?_) (fun _ => ?_)⟩
        · refine ⟨_, rfl, ?_⟩
          unfold tNoPart
          refine ⟨_, rfl, ?_⟩
          refine sl_at pa6.at_ fun H7 p7 s7 e7 => ?_
          have few := pok.few
          have one := pok.one
          refine ⟨_, rfl, p, _, _, _, rfl, rfl, SqT.of (s7 _ _ pa6.at_), atI_nat (j := 3) rfl, q2, 41, ws.map V.int, rfl, rfl, SqT.of (s7 _ _ pa6.words), (fun z => by rw [List.map_eq_nil_iff] at z; rw [z] at one; exact absurd one (by decide)), by decide, by decide, by rw [List.length_map]; omega, fun bg nb => ?_⟩
          have s8 := same_upd nb (o := .tup (List.replicate (41 : Int).toNat (ws.map V.int)).flatten)
          have a8 := a6.same (s7.trans s8)
          refine ⟨_, rfl, h, g, 3, rfl, a8, by decide, by decide, fun H9 f b9 a9 _ _ => ?_⟩
          have hh8 := a8.lst
          have e9 := tup_kp (s8 _ _ e7) hh8 b9.kp
          have eb9 := tup_kp (upd_same (H := H7) (a := bg) (o := .tup (List.replicate (41 : Int).toNat (ws.map V.int)).flatten)) hh8 b9.kp
          have pa9 := (pa6.same (s7.trans s8)).kp hh8 b9.kp
          refine ⟨_, _, rfl, rfl, _, rfl, ?_⟩
          refine sl_at eb9 fun HA pA sA eA => ?_
          refine ⟨by show 1 ≤ sizeLine; decide, fun u nu => ?_⟩
          have sB := same_upd nu (o := .tup [.ref pA])
          refine cat_at ((sA.trans sB) _ _ e9) upd_same (by show 3 + 1 ≤ 1000; decide) fun HC r sC eC => ?_
          have s9C := (sA.trans sB).trans sC
          have paC := pa9.same s9C
          obtain ⟨es, ies⟩ := (((IsL.ints (h := h) (H := HC) (ns := ws))).rep (41 : Int).toNat).cut none (some (39 + f))
          refine ⟨.ref r, _, _, _, _, _, _, _, rfl, a9.same s9C, .tup eC (.cons (.int _) (.cons (.int _) (.cons (.tup paC.outs IsL.ints) (.cons (.tup ((sB.trans sC) _ _ eA) ies) .nil))))⟩
        refine ⟨_, rfl, rfl, _, rfl, ite2 (fun _ => ?_) (fun _ => ?_)⟩
        · have few := pok.few
          have one := pok.one
          refine ⟨_, rfl, _, rfl, p, _, _, _, rfl, rfl, SqT.of pa6.at_, atI_nat (j := 3) rfl, q2, _, rfl, .inr (SqT.of pa6.words), h, g, ((ws.map V.int).length : Int), rfl, a6, by rw [List.length_map]; omega, by rw [List.length_map]; omega, fun H7 e b7 a7 e0 e1 => ?_⟩
          have pa7 := pa6.kp a6.lst b7.kp
          refine ⟨_, rfl, 10, 30, rfl, rfl, ⟨by decide, by decide, by decide⟩, by show 7 ≤ sizeLine; decide, fun lA nlA => ?_⟩
          have s8 := same_upd nlA (o := .lst [.int 256, .int (-1), .bl true, .non, .str "a", .int 255, .int (10 ^ (30 : Int).toNat)])
          have a8 := a7.same s8
          have pa8 := pa7.same s8
          have lh : lA ≠ h := fun z => by
            obtain ⟨_, e⟩ := a7.lst
            rw [← z, nlA] at e
            cases e
          refine ⟨_, rfl, h, g, 7, rfl, a8, by decide, by decide, fun H9 f b9 a9 f0 f1 => ?_⟩
          have pa9 := pa8.kp a8.lst b9.kp
          have eL := (b9 lA lh).trans upd_same
          obtain ⟨v, hv, hat⟩ := pick_at (n := 7) (xs := [V.int 256, .int (-1), .bl true, .non, .str "a", .int 255, .int (10 ^ (30 : Int).toNat)]) rfl f0 f1
          have iv : ∃ d, ∀ G : Hp, Is h G v d := by
            simp only [List.mem_cons, List.not_mem_nil, or_false] at hv
            rcases hv with q | q | q | q | q | q | q <;> subst q
            · exact ⟨_, fun _ => .int _⟩
            · exact ⟨_, fun _ => .int _⟩
            · exact ⟨_, fun _ => .bl _⟩
            · exact ⟨_, fun _ => .non⟩
            · exact ⟨_, fun _ => .str _⟩
            · exact ⟨_, fun _ => .int _⟩
            · exact ⟨_, fun _ => .int _⟩
          obtain ⟨dv, iv⟩ := iv
          refine ⟨lA, _, f, v, rfl, rfl, SqL.of eL, hat, ?_⟩
          refine ⟨_, rfl, ?_⟩
          unfold tNoPart
          refine ⟨_, rfl, ?_⟩
          refine sl_at pa9.at_ fun HA pA sA eA => ?_
          refine ⟨_, rfl, p, _, _, _, rfl, rfl, SqT.of (sA _ _ pa9.at_), atI_nat (j := 3) rfl, _, rfl, _, rfl, ?_⟩
          refine sl_at (sA _ _ pa9.words) fun HB pB sB eB => ?_
          have c1 := cutV_length (ws.map V.int) none (some e)
          have c2 := cutV_length (ws.map V.int) (some (e + 1)) none
          rw [List.length_map] at c1 c2
          refine ⟨_, rfl, by show 1 ≤ sizeLine; decide, fun t nt => ?_⟩
          have sC := same_upd nt (o := .tup [v])
          refine cat_at (sC _ _ eB) upd_same (by show _ + 1 ≤ 1000; omega) fun HD pD sD eD => ?_
          have s9D := (sA.trans sB).trans (sC.trans sD)
          refine ⟨_, rfl, p, _, _, _, rfl, rfl, SqT.of (s9D _ _ pa9.at_), atI_nat (j := 3) rfl, _, rfl, _, _, rfl, rfl, _, rfl, ?_⟩
          refine sl_at (s9D _ _ pa9.words) fun HE pE sE eE => ?_
          refine cat_at (sE _ _ eD) eE (by rw [List.length_append]; show (_ + 1) + _ ≤ 1000; omega) fun HF pF sF eF => ?_
          refine ⟨by show 1 ≤ sizeLine; decide, fun u nu => ?_⟩
          have sG := same_upd nu (o := .tup [.ref pF])
          have sAG := (sB.trans (sC.trans sD)).trans ((sE.trans sF).trans sG)
          refine cat_at (sAG _ _ eA) upd_same (by show 3 + 1 ≤ 1000; decide) fun HH r sH eH => ?_
          have s9H := (sA.trans sAG).trans sH
          have paH := pa9.same s9H
          obtain ⟨es1, ie1⟩ := (IsL.ints (h := h) (H := HH) (ns := ws)).cut none (some e)
          obtain ⟨es2, ie2⟩ := (IsL.ints (h := h) (H := HH) (ns := ws)).cut (some (e + 1)) none
          refine ⟨.ref r, _, _, _, _, _, _, _, rfl, a9.same s9H, .tup eH (.cons (.int _) (.cons (.int _) (.cons (.tup paH.outs IsL.ints) (.cons (.tup ((sG.trans sH) _ _ eF) ((ie1.append (.cons (iv _) .nil)).append ie2)) .nil))))⟩
        refine ⟨_, rfl, rfl, _, rfl, ite2 (fun _ => ?_) (fun _ => ?_)⟩
        · refine ⟨by show 4 ≤ sizeLine; decide, fun e0 n0 => ⟨by show 1 ≤ sizeLine; decide, fun e1 n1 => ⟨by show 1 ≤ sizeLine; decide, fun e2 n2 => ⟨by show 2 ≤ sizeLine; decide, fun e3 n3 => ⟨by show 2 ≤ sizeLine; decide, fun e4 n4 => ⟨by show 0 ≤ sizeLine; decide, fun e5 n5 => ⟨by show 1 ≤ sizeLine; decide, fun e6 n6 => ⟨by show 1 ≤ sizeLine; decide, fun e7 n7 => ⟨by show 3 ≤ sizeLine; decide, fun e8 n8 => ⟨by show 9 ≤ sizeLine; decide, fun lA nlA => ?_⟩⟩⟩⟩⟩⟩⟩⟩⟩⟩
          have s20 := same_upd n0 (o := .tup [.int 0, .int 1, .int 2, .int 3])
          have all0 : AllIs h (upd H6 e0 (.tup [.int 0, .int 1, .int 2, .int 3])) [.ref e0] := fun v hv => by
            rw [List.mem_singleton] at hv
            rw [hv]
            exact ⟨_, .tup upd_same (.cons (.int _) (.cons (.int _) (.cons (.int _) (.cons (.int _) .nil))))⟩
          have a30 := a6.same s20
          have pa30 := pa6.same s20
          generalize upd H6 e0 (.tup [.int 0, .int 1, .int 2, .int 3]) = G0 at s20 all0 a30 pa30 n1 n2 n3 n4 n5 n6 n7 n8 nlA ⊢
          have s21 := same_upd n1 (o := .tup [.int 12])
          have all1 : AllIs h (upd G0 e1 (.tup [.int 12])) [.ref e0, .ref e1] := (all0.same s21).snoc (x := .ref e1) (d := .tup [.int 12]) (.tup upd_same (.cons (.int _) .nil))
          have a31 := a30.same s21
          have pa31 := pa30.same s21
          generalize upd G0 e1 (.tup [.int 12]) = G1 at s21 all1 a31 pa31 n2 n3 n4 n5 n6 n7 n8 nlA ⊢
          have s22 := same_upd n2 (o := .tup [.int 11])
          have all2 : AllIs h (upd G1 e2 (.tup [.int 11])) [.ref e0, .ref e1, .ref e2] := (all1.same s22).snoc (x := .ref e2) (d := .tup [.int 11]) (.tup upd_same (.cons (.int _) .nil))
          have a32 := a31.same s22
          have pa32 := pa31.same s22
          generalize upd G1 e2 (.tup [.int 11]) = G2 at s22 all2 a32 pa32 n3 n4 n5 n6 n7 n8 nlA ⊢
          have s23 := same_upd n3 (o := .tup [.int 1, .int 0])
          have all3 : AllIs h (upd G2 e3 (.tup [.int 1, .int 0])) [.ref e0, .ref e1, .ref e2, .ref e3] := (all2.same s23).snoc (x := .ref e3) (d := .tup [.int 1, .int 0]) (.tup upd_same (.cons (.int _) (.cons (.int _) .nil)))
          have a33 := a32.same s23
          have pa33 := pa32.same s23
          generalize upd G2 e3 (.tup [.int 1, .int 0]) = G3 at s23 all3 a33 pa33 n4 n5 n6 n7 n8 nlA ⊢
          have s24 := same_upd n4 (o := .tup [.int 2, .int 2])
          have all4 : AllIs h (upd G3 e4 (.tup [.int 2, .int 2])) [.ref e0, .ref e1, .ref e2, .ref e3, .ref e4] := (all3.same s24).snoc (x := .ref e4) (d := .tup [.int 2, .int 2]) (.tup upd_same (.cons (.int _) (.cons (.int _) .nil)))
          have a34 := a33.same s24
          have pa34 := pa33.same s24
          generalize upd G3 e4 (.tup [.int 2, .int 2]) = G4 at s24 all4 a34 pa34 n5 n6 n7 n8 nlA ⊢
          have s25 := same_upd n5 (o := .tup [])
          have all5 : AllIs h (upd G4 e5 (.tup [])) [.ref e0, .ref e1, .ref e2, .ref e3, .ref e4, .ref e5] := (all4.same s25).snoc (x := .ref e5) (d := .tup []) (.tup upd_same .nil)
          have a35 := a34.same s25
          have pa35 := pa34.same s25
          generalize upd G4 e5 (.tup []) = G5 at s25 all5 a35 pa35 n6 n7 n8 nlA ⊢
          have s26 := same_upd n6 (o := .lst [.int 0])
          have eh6 : e6 ≠ h := fun z => by
            obtain ⟨_, e⟩ := a35.lst
            rw [← z, n6] at e
            cases e
          have all6 : AllIs h (upd G5 e6 (.lst [.int 0])) [.ref e0, .ref e1, .ref e2, .ref e3, .ref e4, .ref e5, .ref e6] := (all5.same s26).snoc (x := .ref e6) (d := .oth) (.lst upd_same eh6)
          have a36 := a35.same s26
          have pa36 := pa35.same s26
          generalize upd G5 e6 (.lst [.int 0]) = G6 at s26 all6 a36 pa36 n7 n8 nlA ⊢
          have s27 := same_upd n7 (o := .tup [.bl true])
          have all7 : AllIs h (upd G6 e7 (.tup [.bl true])) [.ref e0, .ref e1, .ref e2, .ref e3, .ref e4, .ref e5, .ref e6, .ref e7] := (all6.same s27).snoc (x := .ref e7) (d := .tup [.bl true]) (.tup upd_same (.cons (.bl _) .nil))
          have a37 := a36.same s27
          have pa37 := pa36.same s27
          generalize upd G6 e7 (.tup [.bl true]) = G7 at s27 all7 a37 pa37 n8 nlA ⊢
          have s28 := same_upd n8 (o := .tup [.int 0, .int 5, .int 11])
          have all8 : AllIs h (upd G7 e8 (.tup [.int 0, .int 5, .int 11])) [.ref e0, .ref e1, .ref e2, .ref e3, .ref e4, .ref e5, .ref e6, .ref e7, .ref e8] := (all7.same s28).snoc (x := .ref e8) (d := .tup [.int 0, .int 5, .int 11]) (.tup upd_same (.cons (.int _) (.cons (.int _) (.cons (.int _) .nil))))
          have a38 := a37.same s28
          have pa38 := pa37.same s28
          generalize upd G7 e8 (.tup [.int 0, .int 5, .int 11]) = G8 at s28 all8 a38 pa38  nlA ⊢
          have s40 := same_upd nlA (o := .lst [.ref e0, .ref e1, .ref e2, .ref e3, .ref e4, .ref e5, .ref e6, .ref e7, .ref e8])
          have lh : lA ≠ h := fun z => by
            obtain ⟨_, e⟩ := a38.lst
            rw [← z, nlA] at e
            cases e
          have a40 := a38.same s40
          have pa40 := pa38.same s40
          have all40 := all8.same s40
          refine ⟨_, rfl, h, g, 9, rfl, a40, by decide, by decide, fun H9 f b9 a9 f0 f1 => ?_⟩
          have pa9 := pa40.kp a40.lst b9.kp
          have eL := (b9 lA lh).trans upd_same
          obtain ⟨v, hv, hat⟩ := pick_at (n := 9) (xs := [V.ref e0, .ref e1, .ref e2, .ref e3, .ref e4, .ref e5, .ref e6, .ref e7, .ref e8]) rfl f0 f1
          obtain ⟨dv, iv⟩ := all40 v hv
          have iv9 := iv.mv (Mv.of b9.kp) a40.lst
          refine ⟨lA, _, f, v, rfl, rfl, SqL.of eL, hat, ?_⟩
          refine ⟨_, rfl, ?_⟩
          unfold tNoPart
          refine ⟨_, rfl, ?_⟩
          refine sl_at pa9.at_ fun HA pA sA eA => ?_
          refine ⟨_, rfl, by show 1 ≤ sizeLine; decide, fun t nt => ?_⟩
          have sB := same_upd nt (o := .tup [v])
          refine cat_at (sB _ _ eA) upd_same (by show 2 + 1 ≤ 1000; decide) fun HC pC sC eC => ?_
          have s9C := (sA.trans sB).trans sC
          refine ⟨_, rfl, _, rfl, ?_⟩
          refine sl_at (s9C _ _ pa9.at_) fun HD pD sD eD => ?_
          refine cat_at (sD _ _ eC) eD (by show (2 + 1) + 1 ≤ 1000; decide) fun HE r sE eE => ?_
          have s9E := (s9C.trans sD).trans sE
          have paE := pa9.same s9E
          exact ⟨.ref r, _, _, _, _, _, _, _, rfl, a9.same s9E, .tup eE (.cons (.int _) (.cons (.int _) (.cons (iv9.same s9E) (.cons (.tup paE.words IsL.ints) .nil))))⟩
        refine ⟨_, rfl, _, rfl, h, g, p, _, _, rfl, a6, pa6.at_, .cons (.int _) (.cons (.int _) (.cons (.tup pa6.outs IsL.ints) (.cons (.tup pa6.words IsL.ints) .nil))), by show 1 ≤ 4; decide, by show 4 ≤ 10; decide, fun H7 x d kp7 a7 ix => ?_⟩
        exact ⟨x, d, _, _, _, _, _, _, rfl, a7, ix⟩
      rintro σ' H7 ⟨x, d, y2, y4, y5, y6, y7, y8, rfl, a7, ix⟩
      refine ⟨_, rfl, x, d, h, rfl, ix, fun c H8 t s8 e8 => ?_, fun c H8 t s8 e8 => ?_⟩
      · refine ⟨_, rfl, x, d, h, rfl, ix.same s8, fun H9 s9 => ⟨_, rfl, ?_⟩⟩
        rw [c]
        refine iteT ?_
        obtain ⟨a, x1, x2, x3, b, us, rfl, ha, hb, lw⟩ := pack_words ((ix.same s8).same s9) c
        have ev : partsN d = -((-(us.length : Int)) / 4) := by
          rw [ceil4]
          unfold partsN
          rw [lw]
        rw [ev] at e8
        refine ⟨_, rfl, _, rfl, a, _, _, _, rfl, rfl, SqT.of ha, atI_nat (j := 3) rfl, b, _, rfl, .inr (SqT.of hb), _, rfl, _, _, rfl, rfl, ⟨by decide, by decide⟩, _, rfl, by show 2 ≤ sizeLine; decide, fun u nu => ?_⟩
        have s10 := same_upd nu (o := .tup [.str "cells", .int (-((-(us.length : Int)) / 4))])
        have e10 := (s9.trans s10) _ _ e8
        refine ⟨cellsD (-((-(us.length : Int)) / 4)), cellsD (-((-(us.length : Int)) / 4)), cells_dp e10, cells_dp upd_same, cells_sh _, cells_sh _, ?_⟩
        rw [SeqAt.eqv_refl _ (cells_lay _)]
        refine ⟨false, rfl, iteF ?_⟩
        obtain ⟨tt, tty, _, te2, _⟩ := is_ty T (Is.int (h := h) (H := upd H9 u (.tup [.str "cells", .int (-((-(us.length : Int)) / 4))])) (-((-(us.length : Int)) / 4)))
        refine ⟨_, rfl, t, _, _, _, rfl, rfl, SqT.of e10, atI_nat (j := 1) rfl, _, _, _, _, _, rfl, .ty "bool", tty, te2, _, rfl, iteF ?_⟩
        exact ⟨_, _, _, _, _, _, _, rfl, a7.same (s8.trans (s9.trans s10))⟩
      · refine ⟨_, rfl, x, d, h, rfl, ix.same s8, fun H9 s9 => ⟨_, rfl, ?_⟩⟩
        rw [c]
        refine iteF ?_
        refine ⟨_, rfl, by show 2 ≤ sizeLine; decide, fun u nu => ?_⟩
        have s10 := same_upd nu (o := .tup [.str "none", .bl true])
        refine ⟨noneD, noneD, none_dp ((s9.trans s10) _ _ e8), none_dp upd_same, none_sh, none_sh, ?_⟩
        rw [SeqAt.eqv_refl _ none_lay]
        exact ⟨false, rfl, iteF ⟨_, _, _, _, _, _, _, rfl, a7.same (s8.trans (s9.trans s10))⟩⟩
    · rintro σ H2 ⟨y2, y3, y4, y5, y6, y7, y8, rfl, a2⟩
      refine ⟨4, rfl, by decide, by decide, ?_⟩
      refine for_range (lo := 0) (n := (4 : Int).toNat) (fun i σ H' => ∃ y2 y3 y4 y5 y6 y7 y8 y9 y10 y11 : Option V, σ = [some (.ref sa), some (.ref h), y2, y3, y4, y5, y6, y7, y8, y9, y10, y11] ∧ DeckAt H' h g) ⟨_, _, _, _, _, _, _, _, _, _, rfl, a2⟩ ?_ ?_
      · clear a2 y2 y3 y4 y5 y6 y7 y8
        rintro i σ H2 hi ⟨y2, y3, y4, y5, y6, y7, y8, y9, y10, y11, rfl, a2⟩
        refine ⟨_, rfl, h, g, rfl, a2, fun H3 p s k q1 q2 os ws kp3 a3 pa pok => ?_⟩
        refine ⟨p, _, _, _, rfl, rfl, SqT.of pa.at_, atI_nat (j := 3) rfl, ?_⟩
        have few := pok.few
        have one := pok.one
        refine ⟨_, rfl, 10, 9, rfl, rfl, ⟨by decide, by decide, by decide⟩, _, _, rfl, rfl, h, g, 1000000001, rfl, a3, by decide, by decide, fun H4 n b4 a4 n0 n1 => ?_⟩
        have hh3 := a3.lst
        have w4 : H4 q2 = some (.tup (ws.map V.int)) := by
          obtain ⟨_, hh3⟩ := hh3
          exact b4.kp _ _ (ne_of pa.words hh3 (by intro z; cases z)) pa.words
        refine ⟨_, rfl, _, rfl, _, rfl, q2, _, rfl, .inr (SqT.of w4), _, _, rfl, rfl, _, _, rfl, rfl, ⟨by decide, by decide⟩, h, g, (((ws.map V.int).length : Int) + 3) / 4, rfl, a4, by rw [List.length_map]; omega, by rw [List.length_map]; omega, fun H5 pp b5 a5 p0 p1 => ?_⟩
        rw [List.length_map] at p1
        have hh4 := a4.lst
        have w5 : H5 q2 = some (.tup (ws.map V.int)) := by
          obtain ⟨_, hh4⟩ := hh4
          exact b5.kp _ _ (ne_of w4 hh4 (by intro z; cases z)) w4
        refine ⟨n, q2, ws, pp.toNat, (by show [V.int n, V.ref q2, V.int pp] = [V.int n, V.ref q2, V.int ((pp.toNat : Nat) : Int)]; rw [Int.toNat_of_nonneg p0]), w5, by omega, fun H6 r q s6 la => ?_⟩
        have lb := load_ok (n := n) (p := pp.toNat) n0 (by omega) pok.lt (by omega) few
        have a6 := a5.same s6
        refine ⟨_, rfl, _, _, h, rfl, la.is h, fun H7 s7 => ?_⟩
        rw [lb]
        refine ⟨true, true, rfl, rfl, _, rfl, iteF ?_⟩
        have a7 := a6.same s7
        have la7 := la.same s7
        have lq : ((ws.drop (4 * pp.toNat)).take 4).length ≤ 4 := by rw [List.length_take]; omega
        generalize (ws.drop (4 * pp.toNat)).take 4 = qs at la7 lq ⊢
        generalize ((ws.length : Int) - 1) / 4 - ((pp.toNat : Nat) : Int) = l at la7 ⊢
        generalize chk n ((pp.toNat : Nat) : Int) l qs = cc at la7 ⊢
        refine ⟨_, rfl, h, g, 3, rfl, a7, by decide, by decide, fun H8 e b8 a8 e0 e1 => ⟨e, rfl, by omega, by omega, ?_⟩⟩
        refine for_range (lo := 0) (n := e.toNat) (fun i σ H' => ∃ (y2 y3 y4 y5 y6 y7 y8 y9 y11 : Option V) (r : Addr) (n pa l : Int) (q : Addr) (ws : List Int) (c : Int), σ = [some (.ref sa), some (.ref h), y2, y3, y4, y5, y6, y7, y8, y9, some (.ref r), y11] ∧ DeckAt H' h g ∧ LoadAt H' r n pa l q ws c ∧ ws.length + 1 ≤ 5 * 2 ^ i) ⟨_, _, _, _, _, _, _, _, _, r, n, _, l, q, qs, cc, rfl, a8, la7.kp a7.lst b8.kp, by show _ ≤ 5 * 1; omega⟩ ?_ ?_
        · rintro i2 σ H9 hi2 ⟨y2, y3, y4, y5, y6, y7, y8, y9, y11, r, n, pa, l, q, ws, c, rfl, a9, la9, le9⟩
          have p2 : 2 ^ i2 ≤ 4 := by
            have : i2 < 3 := by omega
            match i2, this with
            | 0, _ => decide
            | 1, _ => decide
            | 2, _ => decide
          refine ⟨_, rfl, r, _, _, _, rfl, rfl, SqT.of la9.at_, atI_nat (j := 3) rfl, q, _, rfl, .inr (SqT.of la9.words), _, _, rfl, rfl, _, rfl, ite2 (fun c0 => ?_) (fun _ => ?_)⟩
          · have c0 := of_decide_eq_true c0
            rw [List.length_map] at c0
            refine ⟨_, rfl, _, rfl, h, g, r, n, pa, l, q, ws, c, rfl, a9, la9, by omega, by omega, fun HA r' n' pa' l' q' ws' c' kpA aA laA leA => ?_⟩
            refine ⟨_, _, _, _, _, _, _, _, _, r', n', pa', l', q', ws', c', rfl, aA, laA, ?_⟩
            rw [Nat.pow_succ]
            omega
          · refine ⟨_, _, _, _, _, _, _, _, _, r, n, pa, l, q, ws, c, rfl, a9, la9, ?_⟩
            rw [Nat.pow_succ]
            omega
        rintro σ H9 ⟨y2, y3, y4, y5, y6, y7, y8, y9, y11, r, n, pa, l, q, ws, c, rfl, a9, la9, le9⟩
        have p3 : 2 ^ e.toNat ≤ 4 := by
          have : e.toNat < 3 := by omega
          match e.toNat, this with
          | 0, _ => decide
          | 1, _ => decide
          | 2, _ => decide
        refine ⟨fun σ' H' => ∃ (r : Addr) (n pa l : Int) (q : Addr) (ws : List Int) (c : Int), σ' = [some (.ref sa), some (.ref h), y2, y3, y4, y5, y6, y7, y8, y9, some (.ref r), y11] ∧ DeckAt H' h g ∧ LoadAt H' r n pa l q ws c, ?_, ?_⟩
        · refine ⟨_, rfl, h, g, 2, rfl, a9, by decide, by decide, fun HA f bA aA _ _ => ⟨rfl, _, rfl, ite2 (fun _ => ?_) (fun _ => ?_)⟩⟩
          · have laA := la9.kp a9.lst bA.kp
            exact ⟨_, rfl, r, n, pa, l, q, ws, c, rfl, laA, by omega, fun HB r' sB lB => ⟨r', n, pa, l, q, ws, _, rfl, aA.same sB, lB⟩⟩
          · exact ⟨r, n, pa, l, q, ws, c, rfl, aA, la9.kp a9.lst bA.kp⟩
        clear la9 a9 le9
        rintro σ' HA ⟨r, n, pa, l, q, ws, c, rfl, aA, laA⟩
        refine ⟨fun σ' H' => ∃ (x : V) (d : Td), σ' = [some (.ref sa), some (.ref h), y2, y3, y4, y5, y6, y7, y8, y9, some x, y11] ∧ DeckAt H' h g ∧ Is h H' x d, ?_, ?_⟩
        · refine ⟨_, rfl, h, g, 4, rfl, aA, by decide, by decide, fun HB f bB aB _ _ => ⟨rfl, _, rfl, ite2 (fun _ => ?_) (fun _ => ?_)⟩⟩
          · have laB := laA.kp aA.lst bB.kp
            refine ⟨_, rfl, _, rfl, h, g, r, _, _, rfl, aB, laB.at_, .cons (.int _) (.cons (.int _) (.cons (.int _) (.cons (.tup laB.words IsL.ints) (.cons (.int _) .nil)))), by show 1 ≤ 5; decide, by show 5 ≤ 10; decide, fun HC x d kpC aC ix => ?_⟩
            exact ⟨x, d, rfl, aC, ix⟩
          · exact ⟨_, _, rfl, aB, (laA.kp aA.lst bB.kp).is h⟩
        rintro σ' HB ⟨x, d, rfl, aB, ix⟩
        refine ⟨_, rfl, x, d, h, rfl, ix, fun HC sC => ?_⟩
        obtain ⟨tt, tty, _, te2, _⟩ := is_ty T (Is.bl (h := h) (H := HC) (loadB d))
        refine ⟨_, rfl, _, _, _, _, _, rfl, .ty "bool", tty, te2, _, rfl, iteF ?_⟩
        refine ⟨_, rfl, _, rfl, x, d, h, rfl, ix.same sC, fun HD sD => ⟨rfl, ?_⟩⟩
        rw [dec_self]
        exact ⟨false, rfl, iteF ⟨_, _, _, _, _, _, _, _, _, _, rfl, aB.same (sC.trans sD)⟩⟩
      · rintro σ H3 ⟨y2, y3, y4, y5, y6, y7, y8, y9, y10, y11, rfl, a3⟩
        exact kq H3
end

theorem end_mk {l : PySem.W.OpenLaw} {w : World} {K : PySem.W.Frag} {mg : Str → Option Value} {fa f_law : Addr} {kV dc pm cd ct : Value} {an : Option Addr} (E : ∃ A : Adr, Top K mg A ∧ A.d_law = PySem.W.fnOf "law" "law" (defArgs s_law) (defBody s_law) (defScope s_law) .none kV dc pm an cd ct ∧ A.a_law = f_law) (hfa : mg "law" = some (.ref fa)) :
    ∃ fd : FuncData, (∀ (s : Shared) (v : Value), BindsTo s fd ⟨[v], []⟩ [("_law_script", v)]) ∧ ∀ base : Heap, K.In base → base.Ns mainGlobals mg → FnOk l.prog w K mg base CX0 20 fa fd ["_law_script"] (spLaw K) := by
  obtain ⟨A, T, ed, ea⟩ := E
  have e := hfa.symm.trans T.g_law
  cases e
  exact ⟨A.d_law, fun s v => by rw [ed]; exact .of_eq rfl, fun base _ _ => ok_law T⟩
theorem top_end {l : PySem.W.OpenLaw} {w : World} {K : PySem.W.Frag} {h : Heap} {mg : Str → Option Value} {fa : Addr} (X : K.In h) (G : h.Ns mainGlobals mg) (hfa : mg "law" = some (.ref fa))
    {f_is_integer : Addr} {od_is_integer an_is_integer : Option Addr} {sl_is_integer : Array (Option Value)} {oc_is_integer kV_is_integer dc_is_integer pm_is_integer cd_is_integer ct_is_integer : Value}
    {f_is_integer_from : Addr} {od_is_integer_from an_is_integer_from : Option Addr} {sl_is_integer_from : Array (Option Value)} {oc_is_integer_from kV_is_integer_from dc_is_integer_from pm_is_integer_from cd_is_integer_from ct_is_integer_from : Value}
    {f_is_number_below : Addr} {od_is_number_below an_is_number_below : Option Addr} {sl_is_number_below : Array (Option Value)} {oc_is_number_below kV_is_number_below dc_is_number_below pm_is_number_below cd_is_number_below ct_is_number_below : Value}
    {f_is_tuple_of : Addr} {od_is_tuple_of an_is_tuple_of : Option Addr} {sl_is_tuple_of : Array (Option Value)} {oc_is_tuple_of kV_is_tuple_of dc_is_tuple_of pm_is_tuple_of cd_is_tuple_of ct_is_tuple_of : Value}
    {f_is_lot_below : Addr} {od_is_lot_below an_is_lot_below : Option Addr} {sl_is_lot_below : Array (Option Value)} {oc_is_lot_below kV_is_lot_below dc_is_lot_below pm_is_lot_below cd_is_lot_below ct_is_lot_below : Value}
    {f_are_outs : Addr} {od_are_outs an_are_outs : Option Addr} {sl_are_outs : Array (Option Value)} {oc_are_outs kV_are_outs dc_are_outs pm_are_outs cd_are_outs ct_are_outs : Value}
    {f_are_words : Addr} {od_are_words an_are_words : Option Addr} {sl_are_words : Array (Option Value)} {oc_are_words kV_are_words dc_are_words pm_are_words cd_are_words ct_are_words : Value}
    {f_is_packet : Addr} {od_is_packet an_is_packet : Option Addr} {sl_is_packet : Array (Option Value)} {oc_is_packet kV_is_packet dc_is_packet pm_is_packet cd_is_packet ct_is_packet : Value}
    {f_parts_of : Addr} {od_parts_of an_parts_of : Option Addr} {sl_parts_of : Array (Option Value)} {oc_parts_of kV_parts_of dc_parts_of pm_parts_of cd_parts_of ct_parts_of : Value}
    {f_cells_in : Addr} {od_cells_in an_cells_in : Option Addr} {sl_cells_in : Array (Option Value)} {oc_cells_in kV_cells_in dc_cells_in pm_cells_in cd_cells_in ct_cells_in : Value}
    {f_check_of : Addr} {od_check_of an_check_of : Option Addr} {sl_check_of : Array (Option Value)} {oc_check_of kV_check_of dc_check_of pm_check_of cd_check_of ct_check_of : Value}
    {f_is_load : Addr} {od_is_load an_is_load : Option Addr} {sl_is_load : Array (Option Value)} {oc_is_load kV_is_load dc_is_load pm_is_load cd_is_load ct_is_load : Value}
    {f_law_deck : Addr} {od_law_deck an_law_deck : Option Addr} {sl_law_deck : Array (Option Value)} {oc_law_deck kV_law_deck dc_law_deck pm_law_deck cd_law_deck ct_law_deck : Value}
    {f_law_mixed : Addr} {od_law_mixed an_law_mixed : Option Addr} {sl_law_mixed : Array (Option Value)} {oc_law_mixed kV_law_mixed dc_law_mixed pm_law_mixed cd_law_mixed ct_law_mixed : Value}
    {f_law_draw : Addr} {od_law_draw an_law_draw : Option Addr} {sl_law_draw : Array (Option Value)} {oc_law_draw kV_law_draw dc_law_draw pm_law_draw cd_law_draw ct_law_draw : Value}
    {f_law_outs : Addr} {od_law_outs an_law_outs : Option Addr} {sl_law_outs : Array (Option Value)} {oc_law_outs kV_law_outs dc_law_outs pm_law_outs cd_law_outs ct_law_outs : Value}
    {f_law_packet : Addr} {od_law_packet an_law_packet : Option Addr} {sl_law_packet : Array (Option Value)} {oc_law_packet kV_law_packet dc_law_packet pm_law_packet cd_law_packet ct_law_packet : Value}
    {f_law_load : Addr} {od_law_load an_law_load : Option Addr} {sl_law_load : Array (Option Value)} {oc_law_load kV_law_load dc_law_load pm_law_load cd_law_load ct_law_load : Value}
    {f_law_is_within : Addr} {od_law_is_within an_law_is_within : Option Addr} {sl_law_is_within : Array (Option Value)} {oc_law_is_within kV_law_is_within dc_law_is_within pm_law_is_within cd_law_is_within ct_law_is_within : Value}
    {f_law_are_words : Addr} {od_law_are_words an_law_are_words : Option Addr} {sl_law_are_words : Array (Option Value)} {oc_law_are_words kV_law_are_words dc_law_are_words pm_law_are_words cd_law_are_words ct_law_are_words : Value}
    {f_law_is_packet : Addr} {od_law_is_packet an_law_is_packet : Option Addr} {sl_law_is_packet : Array (Option Value)} {oc_law_is_packet kV_law_is_packet dc_law_is_packet pm_law_is_packet cd_law_is_packet ct_law_is_packet : Value}
    {f_law_is_load : Addr} {od_law_is_load an_law_is_load : Option Addr} {sl_law_is_load : Array (Option Value)} {oc_law_is_load kV_law_is_load dc_law_is_load pm_law_is_load cd_law_is_load ct_law_is_load : Value}
    {f_law_fitted : Addr} {od_law_fitted an_law_fitted : Option Addr} {sl_law_fitted : Array (Option Value)} {oc_law_fitted kV_law_fitted dc_law_fitted pm_law_fitted cd_law_fitted ct_law_fitted : Value}
    {f_law_changed : Addr} {od_law_changed an_law_changed : Option Addr} {sl_law_changed : Array (Option Value)} {oc_law_changed kV_law_changed dc_law_changed pm_law_changed cd_law_changed ct_law_changed : Value}
    {f_law_odd : Addr} {od_law_odd an_law_odd : Option Addr} {sl_law_odd : Array (Option Value)} {oc_law_odd kV_law_odd dc_law_odd pm_law_odd cd_law_odd ct_law_odd : Value}
    {f_law_told : Addr} {od_law_told an_law_told : Option Addr} {sl_law_told : Array (Option Value)} {oc_law_told kV_law_told dc_law_told pm_law_told cd_law_told ct_law_told : Value}
    {f_law : Addr} {od_law an_law : Option Addr} {sl_law : Array (Option Value)} {oc_law kV_law dc_law pm_law cd_law ct_law : Value}
    {c_FabricError : Addr}
    {c_NoOutput : Addr}
    {c_NoPacket : Addr}
    {t_MOST_LINES : Tok}
    {t_MOST_COPIES : Tok}
    {t_STREAMS : Tok}
    {t_KINDS : Tok}
    {t_MOST_WORDS : Tok}
    {t_WORDS_OF_A_CELL : Tok}
    {t_MOST_PARTS : Tok}
    {t_GREATEST_PACKET : Tok}
    {t_WORD_BOUND : Tok}
    {t_CHECK_BOUND : Tok}
    (ac_FabricError : PySem.W.nsIn K mainGlobals "FabricError" = some (some (.ref c_FabricError)))
    (ac_NoOutput : PySem.W.nsIn K mainGlobals "NoOutput" = some (some (.ref c_NoOutput)))
    (ac_NoPacket : PySem.W.nsIn K mainGlobals "NoPacket" = some (some (.ref c_NoPacket)))
    (a_is_integer : PySem.W.nsIn K mainGlobals "is_integer" = some (some (.ref f_is_integer)))
    (l_is_integer : K.lookup f_is_integer = some ⟨oc_is_integer, od_is_integer, .func (PySem.W.fnOf "is_integer" "is_integer" (defArgs s_is_integer) (defBody s_is_integer) (defScope s_is_integer) .none kV_is_integer dc_is_integer pm_is_integer an_is_integer cd_is_integer ct_is_integer), sl_is_integer⟩)
    (q_is_integer : PySem.W.codeIn K cd_is_integer "is_integer" = true)
    (p_is_integer : PySem.W.keepIn K (.ref f_is_integer) = true)
    (a_is_integer_from : PySem.W.nsIn K mainGlobals "is_integer_from" = some (some (.ref f_is_integer_from)))
    (l_is_integer_from : K.lookup f_is_integer_from = some ⟨oc_is_integer_from, od_is_integer_from, .func (PySem.W.fnOf "is_integer_from" "is_integer_from" (defArgs s_is_integer_from) (defBody s_is_integer_from) (defScope s_is_integer_from) .none kV_is_integer_from dc_is_integer_from pm_is_integer_from an_is_integer_from cd_is_integer_from ct_is_integer_from), sl_is_integer_from⟩)
    (q_is_integer_from : PySem.W.codeIn K cd_is_integer_from "is_integer_from" = true)
    (p_is_integer_from : PySem.W.keepIn K (.ref f_is_integer_from) = true)
    (a_is_number_below : PySem.W.nsIn K mainGlobals "is_number_below" = some (some (.ref f_is_number_below)))
    (l_is_number_below : K.lookup f_is_number_below = some ⟨oc_is_number_below, od_is_number_below, .func (PySem.W.fnOf "is_number_below" "is_number_below" (defArgs s_is_number_below) (defBody s_is_number_below) (defScope s_is_number_below) .none kV_is_number_below dc_is_number_below pm_is_number_below an_is_number_below cd_is_number_below ct_is_number_below), sl_is_number_below⟩)
    (q_is_number_below : PySem.W.codeIn K cd_is_number_below "is_number_below" = true)
    (p_is_number_below : PySem.W.keepIn K (.ref f_is_number_below) = true)
    (a_is_tuple_of : PySem.W.nsIn K mainGlobals "is_tuple_of" = some (some (.ref f_is_tuple_of)))
    (l_is_tuple_of : K.lookup f_is_tuple_of = some ⟨oc_is_tuple_of, od_is_tuple_of, .func (PySem.W.fnOf "is_tuple_of" "is_tuple_of" (defArgs s_is_tuple_of) (defBody s_is_tuple_of) (defScope s_is_tuple_of) .none kV_is_tuple_of dc_is_tuple_of pm_is_tuple_of an_is_tuple_of cd_is_tuple_of ct_is_tuple_of), sl_is_tuple_of⟩)
    (q_is_tuple_of : PySem.W.codeIn K cd_is_tuple_of "is_tuple_of" = true)
    (p_is_tuple_of : PySem.W.keepIn K (.ref f_is_tuple_of) = true)
    (a_is_lot_below : PySem.W.nsIn K mainGlobals "is_lot_below" = some (some (.ref f_is_lot_below)))
    (l_is_lot_below : K.lookup f_is_lot_below = some ⟨oc_is_lot_below, od_is_lot_below, .func (PySem.W.fnOf "is_lot_below" "is_lot_below" (defArgs s_is_lot_below) (defBody s_is_lot_below) (defScope s_is_lot_below) .none kV_is_lot_below dc_is_lot_below pm_is_lot_below an_is_lot_below cd_is_lot_below ct_is_lot_below), sl_is_lot_below⟩)
    (q_is_lot_below : PySem.W.codeIn K cd_is_lot_below "is_lot_below" = true)
    (p_is_lot_below : PySem.W.keepIn K (.ref f_is_lot_below) = true)
    (a_are_outs : PySem.W.nsIn K mainGlobals "are_outs" = some (some (.ref f_are_outs)))
    (l_are_outs : K.lookup f_are_outs = some ⟨oc_are_outs, od_are_outs, .func (PySem.W.fnOf "are_outs" "are_outs" (defArgs s_are_outs) (defBody s_are_outs) (defScope s_are_outs) .none kV_are_outs dc_are_outs pm_are_outs an_are_outs cd_are_outs ct_are_outs), sl_are_outs⟩)
    (q_are_outs : PySem.W.codeIn K cd_are_outs "are_outs" = true)
    (p_are_outs : PySem.W.keepIn K (.ref f_are_outs) = true)
    (a_are_words : PySem.W.nsIn K mainGlobals "are_words" = some (some (.ref f_are_words)))
    (l_are_words : K.lookup f_are_words = some ⟨oc_are_words, od_are_words, .func (PySem.W.fnOf "are_words" "are_words" (defArgs s_are_words) (defBody s_are_words) (defScope s_are_words) .none kV_are_words dc_are_words pm_are_words an_are_words cd_are_words ct_are_words), sl_are_words⟩)
    (q_are_words : PySem.W.codeIn K cd_are_words "are_words" = true)
    (p_are_words : PySem.W.keepIn K (.ref f_are_words) = true)
    (a_is_packet : PySem.W.nsIn K mainGlobals "is_packet" = some (some (.ref f_is_packet)))
    (l_is_packet : K.lookup f_is_packet = some ⟨oc_is_packet, od_is_packet, .func (PySem.W.fnOf "is_packet" "is_packet" (defArgs s_is_packet) (defBody s_is_packet) (defScope s_is_packet) .none kV_is_packet dc_is_packet pm_is_packet an_is_packet cd_is_packet ct_is_packet), sl_is_packet⟩)
    (q_is_packet : PySem.W.codeIn K cd_is_packet "is_packet" = true)
    (p_is_packet : PySem.W.keepIn K (.ref f_is_packet) = true)
    (a_parts_of : PySem.W.nsIn K mainGlobals "parts_of" = some (some (.ref f_parts_of)))
    (l_parts_of : K.lookup f_parts_of = some ⟨oc_parts_of, od_parts_of, .func (PySem.W.fnOf "parts_of" "parts_of" (defArgs s_parts_of) (defBody s_parts_of) (defScope s_parts_of) .none kV_parts_of dc_parts_of pm_parts_of an_parts_of cd_parts_of ct_parts_of), sl_parts_of⟩)
    (q_parts_of : PySem.W.codeIn K cd_parts_of "parts_of" = true)
    (p_parts_of : PySem.W.keepIn K (.ref f_parts_of) = true)
    (a_cells_in : PySem.W.nsIn K mainGlobals "cells_in" = some (some (.ref f_cells_in)))
    (l_cells_in : K.lookup f_cells_in = some ⟨oc_cells_in, od_cells_in, .func (PySem.W.fnOf "cells_in" "cells_in" (defArgs s_cells_in) (defBody s_cells_in) (defScope s_cells_in) .none kV_cells_in dc_cells_in pm_cells_in an_cells_in cd_cells_in ct_cells_in), sl_cells_in⟩)
    (q_cells_in : PySem.W.codeIn K cd_cells_in "cells_in" = true)
    (p_cells_in : PySem.W.keepIn K (.ref f_cells_in) = true)
    (a_check_of : PySem.W.nsIn K mainGlobals "check_of" = some (some (.ref f_check_of)))
    (l_check_of : K.lookup f_check_of = some ⟨oc_check_of, od_check_of, .func (PySem.W.fnOf "check_of" "check_of" (defArgs s_check_of) (defBody s_check_of) (defScope s_check_of) .none kV_check_of dc_check_of pm_check_of an_check_of cd_check_of ct_check_of), sl_check_of⟩)
    (q_check_of : PySem.W.codeIn K cd_check_of "check_of" = true)
    (p_check_of : PySem.W.keepIn K (.ref f_check_of) = true)
    (a_is_load : PySem.W.nsIn K mainGlobals "is_load" = some (some (.ref f_is_load)))
    (l_is_load : K.lookup f_is_load = some ⟨oc_is_load, od_is_load, .func (PySem.W.fnOf "is_load" "is_load" (defArgs s_is_load) (defBody s_is_load) (defScope s_is_load) .none kV_is_load dc_is_load pm_is_load an_is_load cd_is_load ct_is_load), sl_is_load⟩)
    (q_is_load : PySem.W.codeIn K cd_is_load "is_load" = true)
    (p_is_load : PySem.W.keepIn K (.ref f_is_load) = true)
    (a_law_deck : PySem.W.nsIn K mainGlobals "_law_deck" = some (some (.ref f_law_deck)))
    (l_law_deck : K.lookup f_law_deck = some ⟨oc_law_deck, od_law_deck, .func (PySem.W.fnOf "_law_deck" "_law_deck" (defArgs s_law_deck) (defBody s_law_deck) (defScope s_law_deck) .none kV_law_deck dc_law_deck pm_law_deck an_law_deck cd_law_deck ct_law_deck), sl_law_deck⟩)
    (q_law_deck : PySem.W.codeIn K cd_law_deck "_law_deck" = true)
    (p_law_deck : PySem.W.keepIn K (.ref f_law_deck) = true)
    (a_law_mixed : PySem.W.nsIn K mainGlobals "_law_mixed" = some (some (.ref f_law_mixed)))
    (l_law_mixed : K.lookup f_law_mixed = some ⟨oc_law_mixed, od_law_mixed, .func (PySem.W.fnOf "_law_mixed" "_law_mixed" (defArgs s_law_mixed) (defBody s_law_mixed) (defScope s_law_mixed) .none kV_law_mixed dc_law_mixed pm_law_mixed an_law_mixed cd_law_mixed ct_law_mixed), sl_law_mixed⟩)
    (q_law_mixed : PySem.W.codeIn K cd_law_mixed "_law_mixed" = true)
    (p_law_mixed : PySem.W.keepIn K (.ref f_law_mixed) = true)
    (a_law_draw : PySem.W.nsIn K mainGlobals "_law_draw" = some (some (.ref f_law_draw)))
    (l_law_draw : K.lookup f_law_draw = some ⟨oc_law_draw, od_law_draw, .func (PySem.W.fnOf "_law_draw" "_law_draw" (defArgs s_law_draw) (defBody s_law_draw) (defScope s_law_draw) .none kV_law_draw dc_law_draw pm_law_draw an_law_draw cd_law_draw ct_law_draw), sl_law_draw⟩)
    (q_law_draw : PySem.W.codeIn K cd_law_draw "_law_draw" = true)
    (p_law_draw : PySem.W.keepIn K (.ref f_law_draw) = true)
    (a_law_outs : PySem.W.nsIn K mainGlobals "_law_outs" = some (some (.ref f_law_outs)))
    (l_law_outs : K.lookup f_law_outs = some ⟨oc_law_outs, od_law_outs, .func (PySem.W.fnOf "_law_outs" "_law_outs" (defArgs s_law_outs) (defBody s_law_outs) (defScope s_law_outs) .none kV_law_outs dc_law_outs pm_law_outs an_law_outs cd_law_outs ct_law_outs), sl_law_outs⟩)
    (q_law_outs : PySem.W.codeIn K cd_law_outs "_law_outs" = true)
    (p_law_outs : PySem.W.keepIn K (.ref f_law_outs) = true)
    (a_law_packet : PySem.W.nsIn K mainGlobals "_law_packet" = some (some (.ref f_law_packet)))
    (l_law_packet : K.lookup f_law_packet = some ⟨oc_law_packet, od_law_packet, .func (PySem.W.fnOf "_law_packet" "_law_packet" (defArgs s_law_packet) (defBody s_law_packet) (defScope s_law_packet) .none kV_law_packet dc_law_packet pm_law_packet an_law_packet cd_law_packet ct_law_packet), sl_law_packet⟩)
    (q_law_packet : PySem.W.codeIn K cd_law_packet "_law_packet" = true)
    (p_law_packet : PySem.W.keepIn K (.ref f_law_packet) = true)
    (a_law_load : PySem.W.nsIn K mainGlobals "_law_load" = some (some (.ref f_law_load)))
    (l_law_load : K.lookup f_law_load = some ⟨oc_law_load, od_law_load, .func (PySem.W.fnOf "_law_load" "_law_load" (defArgs s_law_load) (defBody s_law_load) (defScope s_law_load) .none kV_law_load dc_law_load pm_law_load an_law_load cd_law_load ct_law_load), sl_law_load⟩)
    (q_law_load : PySem.W.codeIn K cd_law_load "_law_load" = true)
    (p_law_load : PySem.W.keepIn K (.ref f_law_load) = true)
    (a_law_is_within : PySem.W.nsIn K mainGlobals "_law_is_within" = some (some (.ref f_law_is_within)))
    (l_law_is_within : K.lookup f_law_is_within = some ⟨oc_law_is_within, od_law_is_within, .func (PySem.W.fnOf "_law_is_within" "_law_is_within" (defArgs s_law_is_within) (defBody s_law_is_within) (defScope s_law_is_within) .none kV_law_is_within dc_law_is_within pm_law_is_within an_law_is_within cd_law_is_within ct_law_is_within), sl_law_is_within⟩)
    (q_law_is_within : PySem.W.codeIn K cd_law_is_within "_law_is_within" = true)
    (p_law_is_within : PySem.W.keepIn K (.ref f_law_is_within) = true)
    (a_law_are_words : PySem.W.nsIn K mainGlobals "_law_are_words" = some (some (.ref f_law_are_words)))
    (l_law_are_words : K.lookup f_law_are_words = some ⟨oc_law_are_words, od_law_are_words, .func (PySem.W.fnOf "_law_are_words" "_law_are_words" (defArgs s_law_are_words) (defBody s_law_are_words) (defScope s_law_are_words) .none kV_law_are_words dc_law_are_words pm_law_are_words an_law_are_words cd_law_are_words ct_law_are_words), sl_law_are_words⟩)
    (q_law_are_words : PySem.W.codeIn K cd_law_are_words "_law_are_words" = true)
    (p_law_are_words : PySem.W.keepIn K (.ref f_law_are_words) = true)
    (a_law_is_packet : PySem.W.nsIn K mainGlobals "_law_is_packet" = some (some (.ref f_law_is_packet)))
    (l_law_is_packet : K.lookup f_law_is_packet = some ⟨oc_law_is_packet, od_law_is_packet, .func (PySem.W.fnOf "_law_is_packet" "_law_is_packet" (defArgs s_law_is_packet) (defBody s_law_is_packet) (defScope s_law_is_packet) .none kV_law_is_packet dc_law_is_packet pm_law_is_packet an_law_is_packet cd_law_is_packet ct_law_is_packet), sl_law_is_packet⟩)
    (q_law_is_packet : PySem.W.codeIn K cd_law_is_packet "_law_is_packet" = true)
    (p_law_is_packet : PySem.W.keepIn K (.ref f_law_is_packet) = true)
    (a_law_is_load : PySem.W.nsIn K mainGlobals "_law_is_load" = some (some (.ref f_law_is_load)))
    (l_law_is_load : K.lookup f_law_is_load = some ⟨oc_law_is_load, od_law_is_load, .func (PySem.W.fnOf "_law_is_load" "_law_is_load" (defArgs s_law_is_load) (defBody s_law_is_load) (defScope s_law_is_load) .none kV_law_is_load dc_law_is_load pm_law_is_load an_law_is_load cd_law_is_load ct_law_is_load), sl_law_is_load⟩)
    (q_law_is_load : PySem.W.codeIn K cd_law_is_load "_law_is_load" = true)
    (p_law_is_load : PySem.W.keepIn K (.ref f_law_is_load) = true)
    (a_law_fitted : PySem.W.nsIn K mainGlobals "_law_fitted" = some (some (.ref f_law_fitted)))
    (l_law_fitted : K.lookup f_law_fitted = some ⟨oc_law_fitted, od_law_fitted, .func (PySem.W.fnOf "_law_fitted" "_law_fitted" (defArgs s_law_fitted) (defBody s_law_fitted) (defScope s_law_fitted) .none kV_law_fitted dc_law_fitted pm_law_fitted an_law_fitted cd_law_fitted ct_law_fitted), sl_law_fitted⟩)
    (q_law_fitted : PySem.W.codeIn K cd_law_fitted "_law_fitted" = true)
    (p_law_fitted : PySem.W.keepIn K (.ref f_law_fitted) = true)
    (a_law_changed : PySem.W.nsIn K mainGlobals "_law_changed" = some (some (.ref f_law_changed)))
    (l_law_changed : K.lookup f_law_changed = some ⟨oc_law_changed, od_law_changed, .func (PySem.W.fnOf "_law_changed" "_law_changed" (defArgs s_law_changed) (defBody s_law_changed) (defScope s_law_changed) .none kV_law_changed dc_law_changed pm_law_changed an_law_changed cd_law_changed ct_law_changed), sl_law_changed⟩)
    (q_law_changed : PySem.W.codeIn K cd_law_changed "_law_changed" = true)
    (p_law_changed : PySem.W.keepIn K (.ref f_law_changed) = true)
    (a_law_odd : PySem.W.nsIn K mainGlobals "_law_odd" = some (some (.ref f_law_odd)))
    (l_law_odd : K.lookup f_law_odd = some ⟨oc_law_odd, od_law_odd, .func (PySem.W.fnOf "_law_odd" "_law_odd" (defArgs s_law_odd) (defBody s_law_odd) (defScope s_law_odd) .none kV_law_odd dc_law_odd pm_law_odd an_law_odd cd_law_odd ct_law_odd), sl_law_odd⟩)
    (q_law_odd : PySem.W.codeIn K cd_law_odd "_law_odd" = true)
    (p_law_odd : PySem.W.keepIn K (.ref f_law_odd) = true)
    (a_law_told : PySem.W.nsIn K mainGlobals "_law_told" = some (some (.ref f_law_told)))
    (l_law_told : K.lookup f_law_told = some ⟨oc_law_told, od_law_told, .func (PySem.W.fnOf "_law_told" "_law_told" (defArgs s_law_told) (defBody s_law_told) (defScope s_law_told) .none kV_law_told dc_law_told pm_law_told an_law_told cd_law_told ct_law_told), sl_law_told⟩)
    (q_law_told : PySem.W.codeIn K cd_law_told "_law_told" = true)
    (p_law_told : PySem.W.keepIn K (.ref f_law_told) = true)
    (a_law : PySem.W.nsIn K mainGlobals "law" = some (some (.ref f_law)))
    (l_law : K.lookup f_law = some ⟨oc_law, od_law, .func (PySem.W.fnOf "law" "law" (defArgs s_law) (defBody s_law) (defScope s_law) .none kV_law dc_law pm_law an_law cd_law ct_law), sl_law⟩)
    (q_law : PySem.W.codeIn K cd_law "law" = true)
    (p_law : PySem.W.keepIn K (.ref f_law) = true)
    (x_NoPacket : PySem.W.excIn K c_NoPacket [.type "ValueError", .type "Exception", .type "BaseException", .type "object"] "ValueError.__new__" = true)
    (kp_NoPacket : PySem.W.keepIn K (.ref c_NoPacket) = true)
    (s_NoPacket : PySem.W.subIn K (.ref c_NoPacket) (.type "BaseException") = some true)
    (t_NoPacket : PySem.W.typeIn K (.ref c_NoPacket) = some (.type "type"))
    (e1_NoPacket : PySem.W.findIn K (.ref c_NoPacket) "__getattribute__" = some (some (.builtin "BaseException.__getattribute__")))
    (e2_NoPacket : PySem.W.findIn K (.ref c_NoPacket) "__getattr__" = some none)
    (e3_NoPacket : PySem.W.hasDictIn K c_NoPacket = true)
    (e4_NoPacket : PySem.W.findIn K (.ref c_NoPacket) "__class__" = some (some (.builtin "object.__class__")))
    (e5_NoPacket : PySem.W.mroIn K c_NoPacket (.type "object") = some true)
    (en1 : PySem.W.specialIn K (.builtin "object.__class__") "__get__" = some (some (.builtin "getset_descriptor.__get__")))
    (en2 : PySem.W.takesIn K (.builtin "object.__class__") = some true)
    (s_NoOutput : PySem.W.subIn K (.ref c_NoOutput) (.type "BaseException") = some true)
    (t_NoOutput : PySem.W.typeIn K (.ref c_NoOutput) = some (.type "type"))
    (e3_NoOutput : PySem.W.hasDictIn K c_NoOutput = true)
    (su_NoOutput_NoOutput : PySem.W.subIn K (.ref c_NoOutput) (.ref c_NoOutput) = some true)
    (s_FabricError : PySem.W.subIn K (.ref c_FabricError) (.type "BaseException") = some true)
    (t_FabricError : PySem.W.typeIn K (.ref c_FabricError) = some (.type "type"))
    (e3_FabricError : PySem.W.hasDictIn K c_FabricError = true)
    (su_FabricError_FabricError : PySem.W.subIn K (.ref c_FabricError) (.ref c_FabricError) = some true)
    (su_NoPacket_NoPacket : PySem.W.subIn K (.ref c_NoPacket) (.ref c_NoPacket) = some true)
    (su_NoPacket_NoOutput : PySem.W.subIn K (.ref c_NoPacket) (.ref c_NoOutput) = some false)
    (su_NoPacket_FabricError : PySem.W.subIn K (.ref c_NoPacket) (.ref c_FabricError) = some true)
    (k_MOST_LINES : PySem.W.nsIn K mainGlobals "MOST_LINES" = some (some (.int 12 t_MOST_LINES)))
    (k_MOST_COPIES : PySem.W.nsIn K mainGlobals "MOST_COPIES" = some (some (.int 3 t_MOST_COPIES)))
    (k_STREAMS : PySem.W.nsIn K mainGlobals "STREAMS" = some (some (.int 100 t_STREAMS)))
    (k_KINDS : PySem.W.nsIn K mainGlobals "KINDS" = some (some (.int 8 t_KINDS)))
    (k_MOST_WORDS : PySem.W.nsIn K mainGlobals "MOST_WORDS" = some (some (.int 40 t_MOST_WORDS)))
    (k_WORDS_OF_A_CELL : PySem.W.nsIn K mainGlobals "WORDS_OF_A_CELL" = some (some (.int 4 t_WORDS_OF_A_CELL)))
    (k_MOST_PARTS : PySem.W.nsIn K mainGlobals "MOST_PARTS" = some (some (.int 10 t_MOST_PARTS)))
    (k_GREATEST_PACKET : PySem.W.nsIn K mainGlobals "GREATEST_PACKET" = some (some (.int 1000000000 t_GREATEST_PACKET)))
    (k_WORD_BOUND : PySem.W.nsIn K mainGlobals "WORD_BOUND" = some (some (.int 256 t_WORD_BOUND)))
    (k_CHECK_BOUND : PySem.W.nsIn K mainGlobals "CHECK_BOUND" = some (some (.int 251 t_CHECK_BOUND)))
    (z_abs : PySem.W.nsIn K mainGlobals "abs" = some none)
    (z_all : PySem.W.nsIn K mainGlobals "all" = some none)
    (z_bool : PySem.W.nsIn K mainGlobals "bool" = some none)
    (z_enumerate : PySem.W.nsIn K mainGlobals "enumerate" = some none)
    (z_int : PySem.W.nsIn K mainGlobals "int" = some none)
    (z_isinstance : PySem.W.nsIn K mainGlobals "isinstance" = some none)
    (z_len : PySem.W.nsIn K mainGlobals "len" = some none)
    (z_list : PySem.W.nsIn K mainGlobals "list" = some none)
    (z_range : PySem.W.nsIn K mainGlobals "range" = some none)
    (z_sorted : PySem.W.nsIn K mainGlobals "sorted" = some none)
    (z_sum : PySem.W.nsIn K mainGlobals "sum" = some none)
    (z_tuple : PySem.W.nsIn K mainGlobals "tuple" = some none)
    : ∃ fd : FuncData, (∀ (s : Shared) (v : Value), BindsTo s fd ⟨[v], []⟩ [("_law_script", v)]) ∧ ∀ base : Heap, K.In base → base.Ns mainGlobals mg → FnOk l.prog w K mg base CX0 20 fa fd ["_law_script"] (spLaw K) :=
  end_mk (top_mk (l := l) (w := w) X G ac_FabricError ac_NoOutput ac_NoPacket a_is_integer l_is_integer q_is_integer p_is_integer a_is_integer_from l_is_integer_from q_is_integer_from p_is_integer_from a_is_number_below l_is_number_below q_is_number_below p_is_number_below a_is_tuple_of l_is_tuple_of q_is_tuple_of p_is_tuple_of a_is_lot_below l_is_lot_below q_is_lot_below p_is_lot_below a_are_outs l_are_outs q_are_outs p_are_outs a_are_words l_are_words q_are_words p_are_words a_is_packet l_is_packet q_is_packet p_is_packet a_parts_of l_parts_of q_parts_of p_parts_of a_cells_in l_cells_in q_cells_in p_cells_in a_check_of l_check_of q_check_of p_check_of a_is_load l_is_load q_is_load p_is_load a_law_deck l_law_deck q_law_deck p_law_deck a_law_mixed l_law_mixed q_law_mixed p_law_mixed a_law_draw l_law_draw q_law_draw p_law_draw a_law_outs l_law_outs q_law_outs p_law_outs a_law_packet l_law_packet q_law_packet p_law_packet a_law_load l_law_load q_law_load p_law_load a_law_is_within l_law_is_within q_law_is_within p_law_is_within a_law_are_words l_law_are_words q_law_are_words p_law_are_words a_law_is_packet l_law_is_packet q_law_is_packet p_law_is_packet a_law_is_load l_law_is_load q_law_is_load p_law_is_load a_law_fitted l_law_fitted q_law_fitted p_law_fitted a_law_changed l_law_changed q_law_changed p_law_changed a_law_odd l_law_odd q_law_odd p_law_odd a_law_told l_law_told q_law_told p_law_told a_law l_law q_law p_law x_NoPacket kp_NoPacket s_NoPacket t_NoPacket e1_NoPacket e2_NoPacket e3_NoPacket e4_NoPacket e5_NoPacket en1 en2 s_NoOutput t_NoOutput e3_NoOutput su_NoOutput_NoOutput s_FabricError t_FabricError e3_FabricError su_FabricError_FabricError su_NoPacket_NoPacket su_NoPacket_NoOutput su_NoPacket_FabricError k_MOST_LINES k_MOST_COPIES k_STREAMS k_KINDS k_MOST_WORDS k_WORDS_OF_A_CELL k_MOST_PARTS k_GREATEST_PACKET k_WORD_BOUND k_CHECK_BOUND z_abs z_all z_bool z_enumerate z_int z_isinstance z_len z_list z_range z_sorted z_sum z_tuple) hfa

end KX
open PySem PySem.W PyProof.Rows in
set_option maxRecDepth 100000 in
set_option maxHeartbeats 0 in
theorem PySem.Challenge.cw_exactbeats_k76_whole_loads_and_cells_jud_holds : PySem.Challenge.rw_exactbeats_k76_whole_loads_and_cells_jud.Holds := by
  w_on; o_law; k_head; (case hw => w_witness2)
  k_fill
  refine L2.walk_of (l := PySem.Challenge.rw_exactbeats_k76_whole_loads_and_cells_jud) (n := 63) (k := 20) (x := "_law_script") (CX := fun _ => L2.CX0) (sp := fun w => KX.spLaw _) rfl (by decide) rfl ⟨rfl, by decide, by decide⟩ (fun w h Y => PySem.W.kIn_of Y) ?F (fun _ _ a ns hl _ hS => ⟨a, ns, rfl, hS, hl, fun _ => rfl⟩) (fun _ _ _ _ _ h => h)
  case F =>
    intro w mg fa h KX_ G hmg
    refine' KX.top_end KX_ G hmg ?ac_FabricError ?ac_NoOutput ?ac_NoPacket ?a_is_integer ?l_is_integer ?q_is_integer ?p_is_integer ?a_is_integer_from ?l_is_integer_from ?q_is_integer_from ?p_is_integer_from ?a_is_number_below ?l_is_number_below ?q_is_number_below ?p_is_number_below ?a_is_tuple_of ?l_is_tuple_of ?q_is_tuple_of ?p_is_tuple_of ?a_is_lot_below ?l_is_lot_below ?q_is_lot_below ?p_is_lot_below ?a_are_outs ?l_are_outs ?q_are_outs ?p_are_outs ?a_are_words ?l_are_words ?q_are_words ?p_are_words ?a_is_packet ?l_is_packet ?q_is_packet ?p_is_packet ?a_parts_of ?l_parts_of ?q_parts_of ?p_parts_of ?a_cells_in ?l_cells_in ?q_cells_in ?p_cells_in ?a_check_of ?l_check_of ?q_check_of ?p_check_of ?a_is_load ?l_is_load ?q_is_load ?p_is_load ?a_law_deck ?l_law_deck ?q_law_deck ?p_law_deck ?a_law_mixed ?l_law_mixed ?q_law_mixed ?p_law_mixed ?a_law_draw ?l_law_draw ?q_law_draw ?p_law_draw ?a_law_outs ?l_law_outs ?q_law_outs ?p_law_outs ?a_law_packet ?l_law_packet ?q_law_packet ?p_law_packet ?a_law_load ?l_law_load ?q_law_load ?p_law_load ?a_law_is_within ?l_law_is_within ?q_law_is_within ?p_law_is_within ?a_law_are_words ?l_law_are_words ?q_law_are_words ?p_law_are_words ?a_law_is_packet ?l_law_is_packet ?q_law_is_packet ?p_law_is_packet ?a_law_is_load ?l_law_is_load ?q_law_is_load ?p_law_is_load ?a_law_fitted ?l_law_fitted ?q_law_fitted ?p_law_fitted ?a_law_changed ?l_law_changed ?q_law_changed ?p_law_changed ?a_law_odd ?l_law_odd ?q_law_odd ?p_law_odd ?a_law_told ?l_law_told ?q_law_told ?p_law_told ?a_law ?l_law ?q_law ?p_law ?x_NoPacket ?kp_NoPacket ?s_NoPacket ?t_NoPacket ?e1_NoPacket ?e2_NoPacket ?e3_NoPacket ?e4_NoPacket ?e5_NoPacket ?en1 ?en2 ?s_NoOutput ?t_NoOutput ?e3_NoOutput ?su_NoOutput_NoOutput ?s_FabricError ?t_FabricError ?e3_FabricError ?su_FabricError_FabricError ?su_NoPacket_NoPacket ?su_NoPacket_NoOutput ?su_NoPacket_FabricError ?k_MOST_LINES ?k_MOST_COPIES ?k_STREAMS ?k_KINDS ?k_MOST_WORDS ?k_WORDS_OF_A_CELL ?k_MOST_PARTS ?k_GREATEST_PACKET ?k_WORD_BOUND ?k_CHECK_BOUND ?z_abs ?z_all ?z_bool ?z_enumerate ?z_int ?z_isinstance ?z_len ?z_list ?z_range ?z_sorted ?z_sum ?z_tuple
    (case ac_FabricError => k_is)
    (case ac_NoOutput => k_is)
    (case ac_NoPacket => k_is)
    (case a_is_integer => k_is)
    (case l_is_integer => k_is)
    (case q_is_integer => k_is)
    (case p_is_integer => k_is)
    (case a_is_integer_from => k_is)
    (case l_is_integer_from => k_is)
    (case q_is_integer_from => k_is)
    (case p_is_integer_from => k_is)
    (case a_is_number_below => k_is)
    (case l_is_number_below => k_is)
    (case q_is_number_below => k_is)
    (case p_is_number_below => k_is)
    (case a_is_tuple_of => k_is)
    (case l_is_tuple_of => k_is)
    (case q_is_tuple_of => k_is)
    (case p_is_tuple_of => k_is)
    (case a_is_lot_below => k_is)
    (case l_is_lot_below => k_is)
    (case q_is_lot_below => k_is)
    (case p_is_lot_below => k_is)
    (case a_are_outs => k_is)
    (case l_are_outs => k_is)
    (case q_are_outs => k_is)
    (case p_are_outs => k_is)
    (case a_are_words => k_is)
    (case l_are_words => k_is)
    (case q_are_words => k_is)
    (case p_are_words => k_is)
    (case a_is_packet => k_is)
    (case l_is_packet => k_is)
    (case q_is_packet => k_is)
    (case p_is_packet => k_is)
    (case a_parts_of => k_is)
    (case l_parts_of => k_is)
    (case q_parts_of => k_is)
    (case p_parts_of => k_is)
    (case a_cells_in => k_is)
    (case l_cells_in => k_is)
    (case q_cells_in => k_is)
    (case p_cells_in => k_is)
    (case a_check_of => k_is)
    (case l_check_of => k_is)
    (case q_check_of => k_is)
    (case p_check_of => k_is)
    (case a_is_load => k_is)
    (case l_is_load => k_is)
    (case q_is_load => k_is)
    (case p_is_load => k_is)
    (case a_law_deck => k_is)
    (case l_law_deck => k_is)
    (case q_law_deck => k_is)
    (case p_law_deck => k_is)
    (case a_law_mixed => k_is)
    (case l_law_mixed => k_is)
    (case q_law_mixed => k_is)
    (case p_law_mixed => k_is)
    (case a_law_draw => k_is)
    (case l_law_draw => k_is)
    (case q_law_draw => k_is)
    (case p_law_draw => k_is)
    (case a_law_outs => k_is)
    (case l_law_outs => k_is)
    (case q_law_outs => k_is)
    (case p_law_outs => k_is)
    (case a_law_packet => k_is)
    (case l_law_packet => k_is)
    (case q_law_packet => k_is)
    (case p_law_packet => k_is)
    (case a_law_load => k_is)
    (case l_law_load => k_is)
    (case q_law_load => k_is)
    (case p_law_load => k_is)
    (case a_law_is_within => k_is)
    (case l_law_is_within => k_is)
    (case q_law_is_within => k_is)
    (case p_law_is_within => k_is)
    (case a_law_are_words => k_is)
    (case l_law_are_words => k_is)
    (case q_law_are_words => k_is)
    (case p_law_are_words => k_is)
    (case a_law_is_packet => k_is)
    (case l_law_is_packet => k_is)
    (case q_law_is_packet => k_is)
    (case p_law_is_packet => k_is)
    (case a_law_is_load => k_is)
    (case l_law_is_load => k_is)
    (case q_law_is_load => k_is)
    (case p_law_is_load => k_is)
    (case a_law_fitted => k_is)
    (case l_law_fitted => k_is)
    (case q_law_fitted => k_is)
    (case p_law_fitted => k_is)
    (case a_law_changed => k_is)
    (case l_law_changed => k_is)
    (case q_law_changed => k_is)
    (case p_law_changed => k_is)
    (case a_law_odd => k_is)
    (case l_law_odd => k_is)
    (case q_law_odd => k_is)
    (case p_law_odd => k_is)
    (case a_law_told => k_is)
    (case l_law_told => k_is)
    (case q_law_told => k_is)
    (case p_law_told => k_is)
    (case a_law => k_is)
    (case l_law => k_is)
    (case q_law => k_is)
    (case p_law => k_is)
    (case x_NoPacket => k_exc)
    (case kp_NoPacket => k_is)
    (case s_NoPacket => k_is)
    (case t_NoPacket => k_is)
    (case e1_NoPacket => k_is)
    (case e2_NoPacket => k_is)
    (case e3_NoPacket => k_is)
    (case e4_NoPacket => k_is)
    (case e5_NoPacket => k_is)
    (case en1 => k_is)
    (case en2 => k_is)
    (case s_NoOutput => k_is)
    (case t_NoOutput => k_is)
    (case e3_NoOutput => k_is)
    (case su_NoOutput_NoOutput => k_is)
    (case s_FabricError => k_is)
    (case t_FabricError => k_is)
    (case e3_FabricError => k_is)
    (case su_FabricError_FabricError => k_is)
    (case su_NoPacket_NoPacket => k_is)
    (case su_NoPacket_NoOutput => k_is)
    (case su_NoPacket_FabricError => k_is)
    (case k_MOST_LINES => k_is)
    (case k_MOST_COPIES => k_is)
    (case k_STREAMS => k_is)
    (case k_KINDS => k_is)
    (case k_MOST_WORDS => k_is)
    (case k_WORDS_OF_A_CELL => k_is)
    (case k_MOST_PARTS => k_is)
    (case k_GREATEST_PACKET => k_is)
    (case k_WORD_BOUND => k_is)
    (case k_CHECK_BOUND => k_is)
    (case z_abs => k_is)
    (case z_all => k_is)
    (case z_bool => k_is)
    (case z_enumerate => k_is)
    (case z_int => k_is)
    (case z_isinstance => k_is)
    (case z_len => k_is)
    (case z_list => k_is)
    (case z_range => k_is)
    (case z_sorted => k_is)
    (case z_sum => k_is)
    (case z_tuple => k_is)
