import PyProof.Rows.All
import Wide.All
import OpenK.AllK
import Wide.FinOn
import HandS.ForMost
import HandS.IsInst
import HandS.More
import HandS.SetFor
import HandS.Evl
import HandS.Walk
import PyProof.Rows.CountFlat
import HandS.ForExc
import HandS.TryMany
import HandS.Small
import HandS.Style
import HandS.Lambda
import HandS.EndTab
import HandS.ExcIs
import KE.KNestM
import HandS.Zip
import HandS.TupAny
import HandS.Strs
import HandS.SortInts
import HandS.ExcInit
import HandS.ExcField
import KE.KExcIs
import KE.GoesMore
import PyProof.EnumMake
import PyProof.Draws
import PyProof.ReprRoads
import PyProof.CallFns
import PyProof.ReprLen
import PyProof.InstEq
import HandS.TupMul
import HandS.Flow
import HandS.Dict
import HandS.DictComp
import HandS.Deep
import HandS.TupSets
import HandS.Conv
import HandS.Rev
import KE.SortData
import HandS.TupLe
import PyProof.TupleOfSeq
import HandS.ExcValue
import PyProof.Transfer
import HandS.TupSets
import HandS.SortKw
import HandS.TupMul
import HandS.Zip0
import HandS.Zip
import HandS.Comp
import HandS.Walk
import HandS.Sort
import HandS.Deep
import HandS.WordsExc
import KE.GoesMore
import PyProof.EnumMake
import PyProof.Draws
import PyProof.EnumIter
import KE.GoesEnumKw
import KE.GoesEnum
import KE.DataMinMax
import KE.KDictList
import KE.SortData
import PySem.Challenge.RW_exactbeats_k78_whole_packets_gathered
set_option Elab.async false
set_option linter.all false
set_option maxRecDepth 100000
set_option maxHeartbeats 4000000
/-! Rules that the layer lacks: an own exception made without arguments; what a lambda's call may raise. -/
namespace GX
open PySem PySem.Spec PyProof.Rows L2
section
variable {X : Cx}
/-- X(): an own exception class without an __init__ of its own, no argument -/
theorem pmk_own0 {C : Addr} {bmB : List Value} {B newId initId : String} {x : Str} {p pos : Pos} (FB : ExcBaseFacts B newId initId bmB) (hx : PySem.W.excIn X.K C bmB newId = true) (hm : X.mg x = some (.ref C)) (hk : PySem.W.keepIn X.K (.ref C) = true)
    (hR : Raises X (.ref C)) (hg : Gl X x) (hdb : (x == ("__debug__" : Str)) = false := by decide) : PMk X (.Call (.Name x p) [] [] pos) (fun _ H Q => Q (.ref C) none H) := by
  intro pins s σ H Q I h
  refine wpAny_Call_Name_kw (ld_glob I hg hm (PySem.W.callWith_K0 I.kIn hk ?_) hdb)
  obtain ⟨bm, N, nm, qn, bs, hdct, sn, sub, ab, col, dd, k0, k1, k2, k3, k5, mN, e1, e2, e3, tail⟩ := exc_obj I.kIn hx
  refine wpAny_call_exc_subT (rest := [] ++ []) FB tail e1 e2 e3 (fun h' e made => ?_)
  refine mk_of I made hR h ?_
  -- the new address is tracked by nothing
  cases q : H e with
  | none => rfl
  | some o =>
    have z := made.new
    obtain ⟨b, hb⟩ := objOk_get (I.hok e o q)
    rw [hb] at z
    cases z
/-- raising calls within a def's own body (or a lambda's) -/
theorem passX {E : XK} (h1 : X.stack = X.env :: X.outer) (h2 : X.env.frame = some X.env.locals) (h3 : X.ex = []) {E₁ : Value → Shared → Prop}
    (h4 : X.xe = fun e s' => wpAny (model X.prog X.w) X.A (leaving X.env e) (fun _ s'' => L2.CX X.prog X.w X.outer X.H_0 X.s_0 E e s'') E₁ s') : Passes (L2.CX X.prog X.w) X E :=
  passes_call (takes_of h1 h2 h3 h4) fun _ _ _ _ h => h
theorem takes_len {W : WX} (h : Takes X W) : Takes X (fun cls d σ H => σ.length = X.N.length → W cls d σ H) := fun u s' z => by
  obtain ⟨a, B, sI, pins, σ, H, cls, d, e1, I, r1, r2, r3, r4, r5, r6, r7⟩ := z
  exact h u s' ⟨a, B, sI, pins, σ, H, cls, d, e1, I, r1, r2, r3, r4, r5, r6, r7 I.len⟩
theorem call_isEg {a : Addr} {cls : Value} {d : Option Addr} {oe : Obj} {pn : List (Addr × Obj)} (hz : Zc cls d oe) (hf : ∃ vs, oe.data = Data.fields vs) :
    CallR (X.suite a ((a, oe) :: pn)) (.builtin "isinstance") (fun xs H Q => ∃ D, cls = .ref D ∧ d = none ∧ ExcC X.K D ∧ rIsE X.K D a xs H Q) := by
  intro pins s σ H xs us Q I r h
  obtain ⟨D, rfl, rfl, hE, h⟩ := h
  exact call_isE hE hz hf pins s σ H xs us Q I r h
/-- isinstance(e, c), e the error that the suite holds, with fields or without -/
theorem call_isEa {a : Addr} {cls : Value} {d : Option Addr} {oe : Obj} {pn : List (Addr × Obj)} (hz : Zc cls d oe) (hf : ∃ vs, oe.data = Data.fields vs) :
    CallR (X.suite a ((a, oe) :: pn)) (.builtin "isinstance") (fun xs H Q => ∃ D, cls = .ref D ∧ ExcC X.K D ∧ (d = none ∨ ∃ dd fs, d = some dd ∧ H dd = some (.xd fs)) ∧ rIsE X.K D a xs H Q) := by
  intro pins s σ H xs us Q I r h
  obtain ⟨D, rfl, C, hd, c, cv, b, rfl, hcv, e, q⟩ := h
  obtain ⟨u, u2, rfl, ru, ru2⟩ := r.two
  cases (show u = Value.ref a from ru)
  cases hcv _ ru2
  obtain ⟨there, _⟩ := I.pin (a, oe) (List.mem_append.mpr (.inl List.mem_cons_self))
  obtain ⟨vs, hv⟩ := hf
  have nc : PySem.W.notCls oe = true := by
    unfold PySem.W.notCls
    rw [hv]
  have od : ∃ od, PySem.W.InstAt s.heap a oe D od := by
    rcases hd with e1 | ⟨dd, fs, e1, e2⟩
    · subst e1
      exact ⟨none, there, hz.1, nc, by rw [hz.2]; trivial⟩
    · subst e1
      obtain ⟨mA, hns, _⟩ : ObjOk X.prog X.w H s.heap dd (.xd fs) := I.hok dd _ e2
      obtain ⟨od, ho, _⟩ := lookIn_ns hns
      exact ⟨some od, there, hz.1, nc, by rw [hz.2]; exact ho⟩
  obtain ⟨od, J⟩ := od
  have isC : (PySem.W.clsIn X.K D).isSome = true := by
    obtain ⟨cd, hc, _⟩ := PySem.W.any_some C.hd
    rw [hc] <;> rfl
  exact PySem.W.kia_one (PySem.W.kitx_exc isC C.hg C.hk C.hs C.ha C.hn C.ht C.hm) I.kIn J e (fun z => nomatch z) fun tk => ⟨.bl b, H, I.kept (t' := tk) fun _ _ z => z, rfl, q⟩
theorem exm_kit {K : PySem.W.Frag} {t c : Value} {b : Bool} (h : PySem.W.exmOne K t c = some b) : PySem.W.kitCls K t c = some b := by
  unfold PySem.W.exmOne at h
  split at h
  · exact h
  · cases h
theorem kit_yes {K : PySem.W.Frag} {t c : Value} (h : PySem.W.exmOne K t c = some true) : PySem.W.kitOne K t c = some true := by
  unfold PySem.W.kitOne
  split
  · rfl
  · exact exm_kit h
theorem kit_no {K : PySem.W.Frag} {D C : Addr} (h : PySem.W.exmOne K (.ref D) (.ref C) = some false) (self : PySem.W.subIn K (.ref C) (.ref C) = some true) (no : PySem.W.subIn K (.ref D) (.ref C) = some false) : PySem.W.kitOne K (.ref D) (.ref C) = some false := by
  unfold PySem.W.kitOne
  split
  · rename_i e
    have e2 : (Value.ref D) = .ref C := eq_of_beq e
    rw [e2, self] at no
    cases no
  · exact exm_kit h
theorem kit_bi {K : PySem.W.Frag} {D : Addr} {T : String} {b : Bool} (m : PySem.W.kitMeta T = true) (h : PySem.W.subIn K (.ref D) (.type T) = some b) : PySem.W.kitOne K (.ref D) (.type T) = some b := by
  unfold PySem.W.kitOne
  split
  · rename_i e
    have e2 : (Value.ref D) = .type T := eq_of_beq e
    cases e2
  · show (if PySem.W.kitMeta T = true then PySem.W.subIn K (.ref D) (.type T) else none) = some b
    rw [if_pos m]
    exact h
/-- a def of the text whose code is known -/
structure FunC (K : PySem.W.Frag) (x qual : Str) (st : Stmt) (f : Addr) (fd : FuncData) (c : Addr) : Prop where
  ex : ∃ oc od kV doc pm an ct osl, fd = PySem.W.fnOf x qual (defArgs st) (defBody st) (defScope st) .none kV doc pm an (.ref c) ct ∧ K.lookup f = some ⟨oc, od, .func fd, osl⟩ ∧ PySem.W.codeIn K (.ref c) qual = true
theorem FunC.ok {P : Program} {w : World} {K : PySem.W.Frag} {mg : Str → Option Value} {base : Heap} {x qual : Str} {st : Stmt} {f c : Addr} {fd : FuncData} {N ps : List Str} {k : Nat} {sp : Sp} (F : FunC K x qual st f fd c) (S : FnScope N ps (defScope st))
    (len : ∀ vs H Q E, sp vs H Q E → vs.length = ps.length)
    (hb : ∀ (A : Around) (outer : List Env) (s : Shared) (H : Hp) (vs : List V) (Q : VK) (E : XK), Room k (A.deeper (envOfC qual (defScope st) s.heap.objs.size f (.ref c))) → sp vs H Q E →
      ∃ t, PSs (cxOf L2.CX0 P w K mg base N qual (defScope st) f (.ref c) A outer s H E).nox (defBody st) t ∧ t { nx := fun _ H' => Q .non H', rt := Q } (L2.start N vs) H) : FnOk P w K mg base L2.CX0 (k + 1) f fd ps sp := by
  obtain ⟨oc, od, kV, doc, pm, an, ct, osl, rfl, lk, hcd⟩ := F.ex
  refine fn_of lk hcd S len fun A outer s H vs Q E hr h => ?_
  obtain ⟨t, h1, h2⟩ := hb A outer s H vs Q E hr h
  exact ⟨t, h1.nox, h2⟩
def tTru (K : PySem.W.Frag) (ta : TE) : L2.St → Hp → (Bool → Hp → Prop) → Prop := fun σ H Q => ta σ H fun x H' => ∃ k, TruV K x H' k ∧ Q k H'
def WL (n : Nat) (W : WX) : WX := fun cls d σ H => σ.length = n → W cls d σ H
def EE (n : Nat) (W : WX) : XK := fun cls d H => ∀ σ : L2.St, σ.length = n → W cls d σ H
/-- raising calls within a try's body -/
theorem passT (n : Nat) {W : WX} (tk : Takes X W) (hn : X.N.length = n := by rfl) : Passes (L2.CX X.prog X.w) X (EE n W) := passes_call (takes_len tk) fun cls d σ H h hl => h σ (hl.trans hn)
/-- f(lambda: e) -/
theorem pe_lam {T : List (Addr × Str)} {TT : (XK → Hp → VK → Prop) → Hp → VK → Prop} {x a : Str} {g c P : Addr} {fd : FuncData} {k : Nat} {st : Stmt} {Ng : List Str} {params : Arguments} {body : Expr} {scope : Scope} {t : XK → TE} {p lpos pos : Pos}
    (F : Fun X.K x x st g fd) (Sg : FnScope Ng [a] (defScope st)) (hg : Gl X x) (hm : X.mg x = some (.ref g)) (hb : Binds X.K fd [a] []) (hNg : Ng[0]? = some a) (hva : Vis (defScope st) a)
    (hG : ∀ cdv, LamX.GivesTo X Ng x (defScope st) g cdv (defBody st) a (X.env.qual ++ "<lambda>") TT) (TB : LamX.TabB X.base X.mg c P) (hcode : X.env.code = .ref c) (hmT : (P, X.env.qual ++ "<lambda>") ∈ T)
    (hu : ∀ p ∈ T, p.1 = P → p.2 = X.env.qual ++ "<lambda>") (hr : Room (k + 2) X.A) (L : LamX.LamS X.env.scope scope) (hdef : defaultsOf params X.env = ([], []))
    (hbind : ∀ (q : Str) (cl : List (Str × Addr)) (pm cv ctv : Value), bindArgs (PySem.W.kla_fn "<lambda>" q params body scope cl pm cv ctv) ⟨[], []⟩ = pure [])
    (hbody : ∀ (A : Around) (outer : List Env) (s : Shared) (H : Hp) (E : XK) (f c' : Addr), Room k (A.deeper (LamX.lamEnv X scope s.heap.objs.size f c')) → PE (LamX.lamCx X A outer s H E scope f c') body (t E))
    (h1 : (x == ("__debug__" : Str)) = false := by decide) (h2 : (a == ("__debug__" : Str)) = false := by decide) (h3 : (a == ("__classdict__" : Str)) = false := by decide) :
    PE X (.Call (.Name x p) [.Lambda params body scope lpos] [] pos) (LamX.tLam T TT t) := by
  obtain ⟨oc, od, kV, doc, pm, an, cdv, ct, osl, rfl, lk, hcd⟩ := F.ex
  exact LamX.pe_lamcall hg hm F.kp lk hcd hb Sg hNg hva (hG cdv) TB hcode hmT hu hr L hdef hbind hbody h1 h2 h3
end
end GX
namespace KX
open PySem PySem.Spec PyProof.Rows L2
section
variable {X : Cx}
/-- xs.count(True), xs a list of bools -/
def rCntB (K : PySem.W.Frag) : V → List V → Hp → VK → Prop := fun x xs H Q => ∃ (p : Addr) (bs : List Bool) (k : Bool), x = .ref p ∧ xs = [.bl k] ∧ SqL K H p (bs.map V.bl) ∧ Q (.int (bs.countP (fun b => b == k) : Nat)) H
theorem bools_of : ∀ {bs : List Bool} {its : List Value}, Vals (bs.map V.bl) its → its = bs.map Value.bool
  | [], _, .nil => rfl
  | b :: bs, _, .cons r t => by
    cases (show _ = Value.bool b from r)
    rw [bools_of t]
    rfl
theorem mt_count_bl : MtR X "list.count" (rCntB X.K) := by
  intro pins s σ H x xs v us Q I rx rxs h
  obtain ⟨p, bs, k, rfl, rfl, hs, q⟩ := h
  cases rx
  obtain ⟨u, rfl, ru⟩ := rxs.one
  cases (show u = Value.bool k from ru)
  obtain ⟨its, rv, ⟨⟨cls, dd, data, sl⟩, n, ho, hc, hdn, hd⟩, hlen⟩ := I.list hs
  simp only at hc hd
  subst hc hd
  have hi := bools_of rv
  refine call_meets PySem.F.slot_list_count ⟨_, ho, rfl⟩ PySem.F.entry_list_count (PySem.F.args_list_count_2 _ _)
    (SeqAt.list_countAt p its.toArray n dd sl (.bool k) (isBoolOf k)) ⟨ho, fun y hy => ?_, ?_⟩
  · have hy' : y ∈ its := by simpa using hy
    rw [hi] at hy'
    obtain ⟨b, _, rfl⟩ := List.mem_map.mp hy'
    exact PySem.SeqAt.EqAt.bool_bool b k
  · have ec : its.toArray.toList.countP (isBoolOf k) = bs.countP (fun b => b == k) := by
      show its.countP (isBoolOf k) = _
      rw [hi, List.countP_map]
      rfl
    refine ⟨.int (bs.countP (fun b => b == k) : Nat), H, I.tok _, ⟨s.toks, ?_⟩, q⟩
    show Value.int ((its.toArray.toList.countP (isBoolOf k) : Nat) : Int) s.toks = _
    rw [ec]
end
end KX

/-! try: .. with any number of clauses, each naming one class, with `as` or without. -/
namespace GT
open PySem PySem.Spec PyProof.Rows L2
abbrev Suite := Addr → Value → Option Addr → TS
/-- what holds behind a suite: the clause's name is gone -/
def asEnds (D : Ends) : Option Nat → Ends
  | none => D
  | some i => { nx := fun σ' H' => D.nx (σ'.set i none) H', rt := D.rt, bk := fun σ' H' => D.bk (σ'.set i none) H', ct := fun σ' H' => D.ct (σ'.set i none) H' }
def asSt (σ : L2.St) (a : Addr) : Option Nat → L2.St
  | none => σ
  | some i => σ.set i (some (.ref a))
inductive Hds (X : Cx) : List ExceptHandler → List (Value × Option Nat × Suite) → Prop
  | nil : Hds X [] []
  | only {x : Str} {c : Value} {ts : Suite} {b₀ : Stmt} {suite : List Stmt} {np pos' : Pos} {hds : List ExceptHandler} {l : List (Value × Option Nat × Suite)} (hc : Gl X x) (hd : (x == ("__debug__" : Str)) = false) (hm : X.mg x = some c)
      (hs : ∀ (a : Addr) (oe : Obj) (cls : Value) (d : Option Addr) (pn : List (Addr × Obj)), Zc cls d oe → (∃ vs, oe.data = .fields vs) → PSs (X.suite a ((a, oe) :: pn)) (b₀ :: suite) (ts a cls d)) (rest : Hds X hds l) :
      Hds X (.ExceptHandler (some (.Name x np)) none (b₀ :: suite) pos' :: hds) ((c, none, ts) :: l)
  | as_ {x n : Str} {c : Value} {i : Nat} {ts : Suite} {b₀ : Stmt} {suite : List Stmt} {np pos' : Pos} {hds : List ExceptHandler} {l : List (Value × Option Nat × Suite)} (hc : Gl X x) (hd : (x == ("__debug__" : Str)) = false) (hm : X.mg x = some c)
      (hi : X.N[i]? = some n) (hn : X.env.kindOf n = some .local)
      (hs : ∀ (a : Addr) (oe : Obj) (cls : Value) (d : Option Addr) (pn : List (Addr × Obj)), Zc cls d oe → (∃ vs, oe.data = .fields vs) → PSs (X.suite a ((a, oe) :: pn)) (b₀ :: suite) (ts a cls d)) (rest : Hds X hds l) :
      Hds X (.ExceptHandler (some (.Name x np)) (some n) (b₀ :: suite) pos' :: hds) ((c, some i, ts) :: l)
def wHds (K : PySem.W.Frag) (Wout : WX) (D : Ends) : List (Value × Option Nat × Suite) → WX
  | [] => Wout
  | (c, oi, ts) :: l => fun cls d σ H => ∃ b, PySem.W.exmOne K cls c = some b ∧ (b = true → ∀ a, H a = none → ts a cls d (asEnds D oi) (asSt σ a oi) H) ∧ (b = false → wHds K Wout D l cls d σ H)
theorem ends_as {X : Cx} {pins : List (Addr × Obj)} {D : Ends} {f : Flow} {s : Shared} {a : Addr} {q : Addr × Obj} {pn' : List (Addr × Obj)} (ok : X.Ok) (h : SP (X.suite a (q :: (X.pn ++ pins))) pn' (asEnds D none) f s) : SP X pins D f s := by
  cases f with
  | ret u =>
    obtain ⟨v, σ', H', J, rv, k⟩ := h
    exact ⟨v, σ', H', J.unsuite ok, rv, k⟩
  | next =>
    obtain ⟨σ', H', J, k⟩ := h
    exact ⟨σ', H', J.unsuite ok, k⟩
  | brk =>
    obtain ⟨σ', H', J, k⟩ := h
    exact ⟨σ', H', J.unsuite ok, k⟩
  | cont =>
    obtain ⟨σ', H', J, k⟩ := h
    exact ⟨σ', H', J.unsuite ok, k⟩
section
variable {X : Cx}
structure Land (X : Cx) (pins : List (Addr × Obj)) (σ : L2.St) (B : Heap) (a : Addr) (cls : Value) (d : Option Addr) (sI : Shared) (H : Hp) (s : Shared) : Prop where
  I : Inv X pins σ H s
  fl : HandSPX.FlyingZ B X.stack a (Zc cls d) s.heap
  up : sI.heap.UpToSlots s.heap
  os : s.os = sI.os
  bare : AllBare s.gens
theorem not_env {pins : List (Addr × Obj)} {σ : L2.St} {H : Hp} {s : Shared} {a : Addr} {oe : Obj} {vs : Array Value} (I : Inv X pins σ H s) (e1 : s.heap.get? a = some oe) (e2 : oe.data = .fields vs) : a ≠ X.env.locals := fun z => by
  obtain ⟨m, ⟨o, es, ep, h1, h2, _⟩, _⟩ := I.loc
  rw [← z, e1] at h1
  cases h1
  rw [e2] at h2
  cases h2
theorem not_frs {B h : Heap} : ∀ {l : List Env} {a : Addr} {oe : Obj} {vs : Array Value}, h.FunFrames B l → h.get? a = some oe → oe.data = .fields vs → a ∉ frs l
  | [], _, _, _, _, _, _ => fun z => by cases z
  | env :: l, a, oe, vs, ff, e1, e2 => fun z => by
    rw [Heap.FunFrames.eq_2] at ff
    obtain ⟨_, ⟨L, o, f1, _, f3, f4⟩, f5⟩ := ff
    have z2 : a ∈ (env.frame.toList ++ frs l) := by
      unfold frs at z ⊢
      rw [List.filterMap_cons] at z
      rw [f1] at z ⊢
      exact z
    rw [f1] at z2
    rcases List.mem_cons.mp (show a ∈ L :: frs l from z2) with e | e
    · rw [e, f3] at e1
      cases e1
      exact f4 vs e2
    · exact not_frs f5 e1 e2 e
/-- an exception that landed: the clauses, one behind another -/
theorem handle {Wout : WX} {D : Ends} {pins : List (Addr × Obj)} {B : Heap} {a : Addr} {cls : Value} {d : Option Addr} {sI : Shared} {H : Hp} {σ : L2.St} (ok : X.Ok) (hs : X.stack = X.env :: X.outer) (hf : X.env.frame = some X.env.locals) (hN : X.N.Nodup) (tk : Takes X Wout)
    (ha : H a = none) (keep : ∀ (b : Addr) (o : Obj), sI.heap.get? b = some o → b ∉ frs X.stack → B.get? b = some o) (II : Inv X pins σ H sI) :
    ∀ {hds : List ExceptHandler} {l : List (Value × Option Nat × Suite)}, Hds X hds l → wHds X.K Wout D l cls d σ H → ∀ s : Shared, Land X pins σ B a cls d sI H s →
      wpAny (model X.prog X.w) X.A (handleBy (.ref a) X.env hds) (SP X pins D) X.xe s := by
  intro hds l hd
  have enter : ∀ {s : Shared}, Land X pins σ B a cls d sI H s → ∃ oe vs, s.heap.get? a = some oe ∧ Zc cls d oe ∧ oe.data = .fields vs ∧ ∀ {σ' : L2.St} {s' : Shared}, Inv X pins σ' H s' → s'.heap.get? a = some oe → Inv (X.suite a ((a, oe) :: (X.pn ++ pins))) [] σ' H s' := fun {s} L => by
    obtain ⟨oe, vs, e1, z, e2⟩ := L.fl.there
    have ff := L.fl.2.2.1
    rw [hs, Heap.FunFrames.eq_2] at ff
    exact ⟨oe, vs, e1, z, e2, fun I' e => I'.suite e e2 ha (not_env L.I e1 e2) (not_frs ff.2.2 e1 e2)⟩
  have look : ∀ {s : Shared} {c : Value} {b : Bool}, Land X pins σ B a cls d sI H s → PySem.W.exmOne X.K cls c = some b → PySem.W.Looks (model X.prog X.w) s.heap (excMatches (.ref a) c) b := fun {s c b} L eb => by
    obtain ⟨oe, vs, e1, z, e2, _⟩ := enter L
    exact PySem.W.exm_one L.I.kIn (fun A' Q' E' s' sub q => wpAny_typeOf_ref (sub _ _ e1) (by rw [z.1]; exact q)) eb
  have again : ∀ {s : Shared} {h' : Heap}, Land X pins σ B a cls d sI H s → HandSPX.FlyingZ B X.stack a (Zc cls d) h' → s.heap.UpToSlots h' → Land X pins σ B a cls d sI H { heap := h', gens := s.gens, drawn := s.drawn, toks := s.toks, os := s.os } := fun {s h'} L fl up =>
    ⟨II.landed keep fl.1 (L.up.trans up) L.os L.bare, fl, L.up.trans up, L.os, L.bare⟩
  induction hd with
  | nil =>
    intro hw s L
    refine wpAny_handleBy_nil ?_
    obtain ⟨st, bn, ff, oe, vs, T, oT, ts, e1, z, e2, e3, _⟩ := id L.fl
    unfold PySem.passOn
    refine wpAny_bind (wpAny_field e1 e2 e3 ?_)
    show wpAny _ _ (if (Value.ref T == Value.none) = true then _ else _) _ _ _
    rw [if_neg (fun h => by cases (eq_of_beq h))]
    refine wpAny_bind ?_
    rw [hf]
    exact HandSPX.setFlight_upZ L.fl fun h' held up2 => wpAny_throw (tk _ _ ⟨a, B, sI, pins, σ, H, cls, d, rfl, II, keep, L.up.trans up2, .inr (.inr held), ha, L.os, L.bare, hw⟩)
  | only hc hdb hm hsu rest ih =>
    intro hw s L
    obtain ⟨b, eb, hw1, hw2⟩ := hw
    obtain ⟨oe, vs, e1, z, e2, su⟩ := enter L
    refine wpAny_handleBy_cons ?_ (by intro h; cases h)
    refine codeAny_handlers_test (ld_glob (su L.I e1) hc hm ?_ hdb)
    refine look L eb _ _ _ _ (fun _ _ e => e) ?_
    cases b with
    | false => exact ih (hw2 rfl) s L
    | true =>
      refine codeAny_handlers_suite (HandSPX.lands_againZ L.fl fun h' fl' up' => ?_)
      have L' := again L fl' up'
      obtain ⟨oe', vs', e1', z', e2', su'⟩ := enter L'
      exact wpAny_mono ((hsu a oe' cls d (X.pn ++ pins) z' ⟨_, e2'⟩).run [] _ σ H D (su' L'.I e1') (hw1 rfl a ha)) (fun f s₂ q => ends_as ok q) fun _ _ q => q.elim
  | @as_ x n c i ts b₀ suite np pos' hds' l' hc hdb hm hi hn hsu rest ih =>
    intro hw s L
    obtain ⟨b, eb, hw1, hw2⟩ := hw
    obtain ⟨oe, vs, e1, z, e2, su⟩ := enter L
    refine wpAny_handleBy_cons ?_ (by intro h; cases h)
    refine codeAny_handlers_test (ld_glob (su L.I e1) hc hm ?_ hdb)
    refine look L eb _ _ _ _ (fun _ _ e => e) ?_
    cases b with
    | false => exact ih (hw2 rfl) s L
    | true =>
      refine codeAny_handlers_suite_as (HandSPX.lands_againZ L.fl fun h' fl' up' => ?_)
      have L' := again L fl' up'
      obtain ⟨oe', vs', e1', z', e2', su'⟩ := enter L'
      refine store_ok2 L'.I hN hi (.inl hn) (show RelV (.ref a) (.ref a) from rfl) (fun s'' J sb => ?_) (.inr hn)
      have e3 : s''.heap.get? a = some oe' := by
        obtain ⟨a2, sb, hor⟩ := sb
        have ne : a ≠ a2 := by
          rcases hor with e | e
          · rw [e]
            exact not_env L'.I e1' e2'
          · intro e3
            obtain ⟨v, o, c1, c2⟩ := L'.I.cell _ _ e
            rw [← e3] at c1
            have c3 : some oe' = some o := e1'.symm.trans c1
            cases c3
            rw [e2'] at c2
            cases c2
        rw [sb.2 a ne]
        exact e1'
      refine wpAny_mono ((hsu a oe' cls d (X.pn ++ pins) z' ⟨_, e2'⟩).run [] _ (σ.set i (some (.ref a))) H (asEnds D (some i)) (su' J e3) (hw1 rfl a ha)) (fun f s₂ q => ?_) fun _ _ q => q.elim
      cases f with
      | ret u =>
        obtain ⟨v, σ', H', J', rv, k⟩ := q
        exact gone_ok (J'.unsuite ok) hN hi hn fun s3 J3 => ⟨v, _, H', J3, rv, k⟩
      | next =>
        obtain ⟨σ', H', J', k⟩ := q
        exact gone_ok (J'.unsuite ok) hN hi hn fun s3 J3 => ⟨_, H', J3, k⟩
      | brk =>
        obtain ⟨σ', H', J', k⟩ := q
        exact gone_ok (J'.unsuite ok) hN hi hn fun s3 J3 => ⟨_, H', J3, k⟩
      | cont =>
        obtain ⟨σ', H', J', k⟩ := q
        exact gone_ok (J'.unsuite ok) hN hi hn fun s3 J3 => ⟨_, H', J3, k⟩
/-- try: body except A as x: .. except B: .. -/
theorem ps_try_g {body : List Stmt} {h₀ : ExceptHandler} {hds : List ExceptHandler} {l : List (Value × Option Nat × Suite)} {pos : Pos} {tb : WX → TS} {Wout : WX} (hs : X.stack = X.env :: X.outer) (hf : X.env.frame = some X.env.locals) (hN : X.N.Nodup) (tk : Takes X Wout)
    (hb : ∀ (W : WX) (pn : List (Addr × Obj)) (xe : Value → Shared → Prop), Takes (X.tr pn xe) W → PassesOwn (model X.prog X.w) X.A X.env xe → PSs (X.tr pn xe) body (tb W)) (hh : Hds X (h₀ :: hds) l) :
    PS X (.Try body (h₀ :: hds) [] [] pos) (fun D σ H => tb (wHds X.K Wout D l) D σ H) := by
  refine ⟨fun pins s σ H D I h => ?_⟩
  have ok := I.ok
  refine wpAny_Try_except ?_
  have fr : X.A.frames = some (X.env :: X.outer) := by
    rw [ok.frames, hs]
  have tkW : Takes (X.tr (X.pn ++ pins) (fun e s₁ => wpAny (model X.prog X.w) X.A (noteFrame e X.env) (fun _ s₂ => wpAny (model X.prog X.w) X.A (setFlight e none) (fun _ s₃ => wpAny (model X.prog X.w) X.A (handleBy e X.env (h₀ :: hds)) (SP X pins D) X.xe s₃) X.xe s₂) X.xe s₁)) (wHds X.K Wout D l) := fun u s' z => by
    obtain ⟨a, B, sI, pn', σ', H', cls, d, rfl, I', keep, up, sky, ha, os, bare, hw⟩ := z
    have II : Inv X pins σ' H' sI := I'.ofTry ok
    have sky' : Sky B (X.env :: X.outer) a (Zc cls d) X.env.locals s'.heap := by
      rw [← hs]
      exact sky
    refine Sky.land Zc.steady fr hf sky' fun h' fl up2 => ?_
    rw [← hs] at fl
    exact handle ok hs hf hN tk ha keep II hh hw _ ⟨II.landed keep fl.1 (up.trans up2) os bare, fl, up.trans up2, os, bare⟩
  refine wpAny_mono ((hb _ (X.pn ++ pins) _ tkW PassesOwn.looking).run [] s σ H D (I.toTry _) h) (fun f s1 q => ?_) fun e s1 q => q
  cases f with
  | ret u =>
    obtain ⟨v, σ', H', J, rv, k⟩ := q
    exact ⟨v, σ', H', J.ofTry ok, rv, k⟩
  | next =>
    obtain ⟨σ', H', J, k⟩ := q
    exact (pss_nil (X := X)).run pins s1 σ' H' D (J.ofTry ok) k
  | brk =>
    obtain ⟨σ', H', J, k⟩ := q
    exact ⟨σ', H', J.ofTry ok, k⟩
  | cont =>
    obtain ⟨σ', H', J, k⟩ := q
    exact ⟨σ', H', J.ofTry ok, k⟩
end
end GT

/-! enumerate(t), t a tuple. -/
namespace GE
open PySem PySem.Spec PyProof.Rows L2 Builtin
/-- a tuple's items with their places, a new pair at each turn -/
def Etp (K : PySem.W.Frag) (t : Addr) : It where
  go i H := ∃ xs x, SqT K H t xs ∧ xs[i]? = some x
  yld i H v H' := ∃ (p : Addr) (x : V), v = .ref p ∧ H p = none ∧ H' = upd H p (.tup [.int ((i : Nat) : Int), x]) ∧ ∀ xs, SqT K H t xs → xs[i]? = some x
  stop i H := ∃ xs, SqT K H t xs ∧ xs.length ≤ i
abbrev tIt (t : Addr) : Obj := { cls := .type "tuple_iterator", data := .fields #[.ref t, .int 0 0] }
abbrev eOb (i : Addr) : Obj := { cls := .type "enumerate", data := .fields #[.none, .bool false, .ref i, rawInt 0, .none, .none] }
set_option maxHeartbeats 8000000 in
theorem made (t : Addr) (vs : Array Value) : Meets (Builtin.«enumerate.__new__» ⟨[.type "enumerate", .ref t], []⟩)
    (fun _ R s => s.heap.IsTuple t vs ∧ R (.ok (.ret (.ref (s.heap.push (tIt t)).objs.size))) { s with heap := (s.heap.push (tIt t)).push (eOb s.heap.objs.size) }) := by
  refine Meets.of_wp fun prog w A R s both => ?_
  obtain ⟨h0, gs, dr, tk, os⟩ := s
  obtain ⟨isT, back⟩ := both
  have z1 := PySem.sub_enumerate
  have z2 : ∀ {B : Around} {F : Value → Shared → Prop} {G : Value → Shared → Prop}, G (.ref h0.objs.size) ⟨h0.push (tIt t), gs, dr, tk, os⟩ → wpAny (model prog w) B (pyIter (.ref t)) G F ⟨h0, gs, dr, tk, os⟩ := fun g => wpAny_pyIter_tuple isT g
  wp_walk using z2
  refine wpAny_stack_any fun st => ?_
  refine wpAny_pure ?_
  split
  · rename_i c _ _ _ _ _
    cases (c == Value.type "enumerate") <;> (wp_walk using z2; exact ⟨_, rfl, back⟩)
  · wp_walk using z2
    exact ⟨_, rfl, back⟩
section
variable {P : Program} {w : World} {A : Around} {E : Value → Shared → Prop} {s : Shared}
theorem begins {t : Addr} {vs : Array Value} {Q : Value → Shared → Prop} (isT : s.heap.IsTuple t vs)
    (k : ∀ h1, IsEnum h1 (s.heap.objs.size + 1) s.heap.objs.size 0 .none → h1.IsTupleIter s.heap.objs.size t 0 → h1.objs.size = s.heap.objs.size + 2 → (∀ b o, s.heap.get? b = some o → h1.get? b = some o) → Q (.ref (s.heap.objs.size + 1)) { s with heap := h1 }) :
    wpAny (model P w) A (call (.type "enumerate") [.ref t]) Q E s := by
  refine callType_new F.called_enumerate (by decide) (F.typeCall_enumerate_1 _) (F.newCall_enumerate_1 _) (fun y => F.args_object_init_2 y _) F.entry_enumerate_new (made t vs) ⟨isT, ?_⟩
  have sz : (s.heap.push (tIt t)).objs.size = s.heap.objs.size + 1 := Heap.size_push ..
  have at_ : IsEnum ((s.heap.push (tIt t)).push (eOb s.heap.objs.size)) (s.heap.objs.size + 1) s.heap.objs.size 0 .none := by
    have z := Heap.get?_push_size (s.heap.push (tIt t)) (o := eOb s.heap.objs.size) rfl
    rw [sz] at z
    exact z
  show _ ∧ _
  rw [sz]
  exact ⟨⟨_, at_, rfl⟩, k _ at_ ⟨_, Heap.get?_push_of_some _ (Heap.get?_push_size _ rfl), rfl, rfl⟩ (by rw [Heap.size_push, sz]) fun b o x => Heap.get?_push_of_some _ (Heap.get?_push_of_some _ x)⟩
end
theorem turn {P : Program} {w : World} {K : PySem.W.Frag} {elts : List Expr} {kk : Nat} {tpos : Pos} (t e i : Addr) :
    Turn P w K (.Tuple elts kk tpos) (Etp K t) [e, i] e (fun n h => (∃ old, IsEnum h e i ((n : Nat) : Int) old) ∧ h.IsTupleIter i t n ∧ e ≠ i) := by
  have two : ∀ {b : Addr}, b ∈ [e, i] → b = e ∨ b = i := fun hb => by simpa using hb
  constructor
  case mem => simp
  case obj =>
    rintro n h ⟨⟨old, h1⟩, ⟨o, h2, h3, h4⟩, _⟩ b hb
    rcases two hb with q | q <;> subst q
    · exact ⟨_, h1, fun v z => nomatch z⟩
    · exact ⟨o, h2, fun v z => by rw [h4] at z; cases z⟩
  case keep =>
    rintro n h h' ⟨⟨old, h1⟩, h2, h3⟩ k
    exact ⟨⟨old, k e (by simp) _ h1⟩, h2.at fun o q => k i (by simp) o q, h3⟩
  case item =>
    intro X eP ew eK calm n pins s σ H Er I free st go
    subst eP ew eK
    obtain ⟨⟨old, h1⟩, h2, apart⟩ := st
    obtain ⟨xs, x, hq, hx⟩ := go
    obtain ⟨vs, rv, isT, _⟩ := I.tuple hq
    obtain ⟨u, hu, ru⟩ := rv.get hx
    have le : e < s.heap.objs.size := Heap.lt_size h1
    have li : i < s.heap.objs.size := by
      obtain ⟨_, q, _⟩ := h2
      exact Heap.lt_size q
    have ti : t ≠ i := fun z => by
      subst z
      obtain ⟨o1, q1, c1, _⟩ := h2
      obtain ⟨o2, q2, c2, _⟩ := isT
      rw [q1] at q2
      cases q2
      rw [c1] at c2
      exact absurd (Value.type.inj c2) (by decide)
    have te : t ≠ e := fun z => by
      subst z
      obtain ⟨o2, q2, c2, _⟩ := isT
      rw [h1] at q2
      cases q2
      exact absurd (Value.type.inj c2) (by decide)
    have quiet : X.A.in1.handled = none := by
      have z := I.ok.hd calm
      simp [z]
    have lt : n < vs.toArray.size := by
      have z := (List.getElem?_eq_some_iff.mp hu).1
      simpa using z
    refine wpAny_pyNext_enum_itemD (Draws.tuple quiet i t ti vs.toArray) h1 ⟨h2, isT⟩ lt apart (by simp [apart, te.symm]) fun y h' tk py out st' tup size keep => ?_
    have ey : y = u := by
      have z : vs.toArray[n]? = some y := py
      rw [List.getElem?_toArray, hu] at z
      exact (Option.some.inj z).symm
    subst ey
    refine ⟨_, rfl, wpAny_letOwnedTupleGo_enum (s := { s with heap := h', toks := tk + 1 }) out fun h'' again sb => ?_⟩
    have tup2 : h''.get? s.heap.objs.size = some { cls := .type "tuple", data := .seq #[.int n tk, y] } := (sb.2 _ (Nat.ne_of_gt le)).trans tup
    have fresh : ObjOk X.prog X.w (upd H s.heap.objs.size (.tup [.int ((n : Nat) : Int), x])) h'' s.heap.objs.size (.tup [.int ((n : Nat) : Int), x]) :=
      ⟨by show 2 ≤ sizeLine; decide, [.int n tk, y], .cons ⟨_, rfl⟩ (.cons ru .nil), ⟨_, tup2, rfl, _, rfl⟩⟩
    have J : Inv X pins σ (upd H s.heap.objs.size (.tup [.int ((n : Nat) : Int), x])) { s with heap := h'', toks := tk + 1 } :=
      I.turnedNew (t' := tk + 1) (ch := [e, i]) (fun b ob hb q => (sb.2 b (fun z => hb (by simp [z]))).trans (keep b ob (fun z => hb (by simp [z])) (fun z => hb (by simp [z])) q)) free (Nat.le_refl _) fresh
    refine ⟨.ref s.heap.objs.size, _, J, rfl, ⟨_, x, rfl, I.hok.fresh (Nat.le_refl _), rfl, fun ys hy => by rw [I.tuple_inj hy hq]; exact hx⟩, ⟨⟨y, ?_⟩, st'.1.at fun o q => (sb.2 i (Ne.symm apart)).trans q, apart⟩, fun b hb => ?_⟩
    · rw [show ((n + 1 : Nat) : Int) = (n : Int) + 1 by omega]
      exact again
    · have lb : b < s.heap.objs.size := by
        rcases two hb with z | z <;> subst z
        · exact le
        · exact li
      rw [upd_ne (Nat.ne_of_lt lb)]
      exact (free b hb).1
  case done =>
    intro X eP ew eK calm n pins s σ H Er I free st stop
    subst eP ew eK
    obtain ⟨⟨old, h1⟩, h2, apart⟩ := st
    obtain ⟨xs, hq, hl⟩ := stop
    obtain ⟨vs, rv, isT, _⟩ := I.tuple hq
    have long := rv.length
    have quiet : X.A.in1.handled = none := by
      have z := I.ok.hd calm
      simp [z]
    have hT : s.TypeIs (.ref e) "enumerate" := ⟨_, h1, rfl⟩
    obtain ⟨f0, f1, f2, f3, f4, f5⟩ := free i (by simp)
    unfold pyNext
    refine wpAny_bind (wpAny_attempt (wpAny_callSpecial?_slot (name := Str.ofString "__next__") hT F.slot_enumerate_next (wpAny_call_entry F.slot_enumerate_next hT F.entry_enumerate_next ?_ (F.args_enumerate_next_1 _))))
    show wpAny _ _ (field (.ref e) 2 >>= _) _ _ _
    refine wpAny_bind (wpAny_field h1 rfl (x := .ref i) rfl (wpAny_bind ?_))
    refine wpAny_nextOf_tuple_end quiet h2 isT (by simp; omega) fun h' ex eb isx => ?_
    obtain ⟨o, ho, hc⟩ := isx
    refine wpAny_bind (wpAny_isInstance (T := "StopIteration") (b := true) ⟨o, ho, hc⟩ isSubtype_stop (wpAny_pure ?_))
    exact ⟨rfl, I.turned (t' := s.toks) (fun b o hb q => eb b o hb q) f0 f1 f3 f4 f5⟩
  case self =>
    rintro A n s Q Er ⟨⟨_, h1⟩, _⟩ q
    exact wpAny_pyIter_enum h1 q
/-- enumerate of a list or a tuple -/
def iEnA (K : PySem.W.Frag) (ta : TA) : TI := fun σ H R => ta σ H fun vs H1 => ∃ a xs, vs = [.ref a] ∧ ((SqL K H1 a xs ∧ R (Ite K a) H1) ∨ (SqT K H1 a xs ∧ R (Etp K a) H1))
theorem pi_enumA {X : Cx} {e : Expr} {ta : TA} {p pos tpos : Pos} {elts : List Expr} {kk : Nat} (hg : Gl X "enumerate") (hm : X.mg "enumerate" = none) (ha : PA X [e] ta) (hs : starEach [e] X.env = [(false, eval e X.env)] := by rfl) :
    PI X (.Tuple elts kk tpos) (.Call (.Name "enumerate" p) [e] [] pos) (iEnA X.K ta) := by
  constructor
  intro pins s σ H R I h
  refine Call_ (ld_blt I hg hm boot_enumerate (PyProof.Rows.callWith_type1 (thn (ha.run pos pins s σ H _ I h) fun us s1 got => ?_) hs rfl))
  obtain ⟨_, H1, I1, r1, a, xs, rfl, q⟩ := got
  have fp : ∀ b ∈ [s1.heap.objs.size + 1, s1.heap.objs.size], FpOk X pins H1 b := fun b hb => by
    have le : s1.heap.objs.size ≤ b := by
      rcases (show b = s1.heap.objs.size + 1 ∨ b = s1.heap.objs.size by simpa using hb) with z | z <;> omega
    exact I1.fpOk le (I1.hok.fresh le)
  cases r1 with
  | cons r rr =>
    cases rr
    cases r
    rcases q with ⟨hq, q⟩ | ⟨hq, q⟩
    · obtain ⟨vs, rv, isL, _⟩ := I1.list hq
      refine call_enumerate_list isL.isList fun h' at_ it size keep => wpAny_pyIter_enum at_ ?_
      exact ⟨_, _, _, _, H1, rfl, I1.kept (t' := s1.toks) keep, turn_enum a (s1.heap.objs.size + 1) s1.heap.objs.size, ⟨⟨.none, at_⟩, it, Nat.succ_ne_self _⟩, fp, q⟩
    · obtain ⟨vs, rv, isT, _⟩ := I1.tuple hq
      refine begins isT fun h' at_ it size keep => wpAny_pyIter_enum at_ ?_
      exact ⟨_, _, _, _, H1, rfl, I1.kept (t' := s1.toks) keep, turn a (s1.heap.objs.size + 1) s1.heap.objs.size, ⟨⟨.none, at_⟩, it, Nat.succ_ne_self _⟩, fp, q⟩
theorem walk {K : PySem.W.Frag} {a : Addr} {xs : List V} : Walk (Etp K a) xs.length (fun H => SqT K H a xs) (YPair (fun i => some (.int (i : Nat))) (fun i => xs[i]?)) := by
  constructor
  · exact fun i _ hi q => ⟨xs, xs[i], q, by simp [hi]⟩
  · exact fun _ q => ⟨xs, q, Nat.le_refl _⟩
  · rintro i H v H' _ q ⟨p, x, h1, h2, h3, h4⟩
    exact ⟨p, .int (i : Nat), x, h1, h2, h3, rfl, h4 xs q⟩
/-- zip of two tuples -/
theorem walk_zipT {K : PySem.W.Frag} {a b : Addr} {xs ys : List V} {n : Nat} (hn : n = min xs.length ys.length) : Walk (RZ.ItzT K a b) n (fun H => SqT K H a xs ∧ SqT K H b ys) (YPair (fun i => xs[i]?) (fun i => ys[i]?)) := by
  subst hn
  constructor
  · intro i _ hi q
    exact ⟨xs, ys, xs[i]'(by omega), ys[i]'(by omega), q.1, q.2, List.getElem?_eq_getElem _, List.getElem?_eq_getElem _⟩
  · exact fun _ q => ⟨xs, ys, q.1, q.2, by omega⟩
  · rintro i H v H' _ q ⟨p, x, y, h1, h2, h3, h4, h5⟩
    exact ⟨p, x, y, h1, h2, h3, h4 xs q.1, h5 ys q.2⟩
end GE

/-! comprehensions with two clauses, dict comprehensions, over any walk. -/
namespace GC
open PySem PySem.Spec PyProof.Rows L2
section
variable {J J1 : It} {n n1 : Nat} {G G1 : Hp → Prop} {Y Y1 : Nat → Hp → V → Hp → Prop}
/-- the outer clause -/
theorem lc2_it (w : Walk J n G Y) {g : TG} {tt : TT} {wi1 : TI} {g1 : TG} {tt1 : TT} {te : TE} {vs vs1 : List Nat} {σ : L2.St} {H1 : Hp} {D : Addr} {Qd : Hp → Prop} (Pv : Nat → Hp → Prop) (h0 : Pv 0 (upd H1 D (.lst []))) (hG : ∀ i H, i ≤ n → Pv i H → G H)
    (hs : ∀ i x H H', i < n → Pv i H → Y i H x H' → g x (wipe σ vs) H' fun σ2 H2 => wipe σ2 vs = wipe σ vs ∧ tt σ2 H2 fun b H3 =>
      if b = true then wi1 σ2 H3 fun J1 H4 => ∃ W1 : Nat → Nat → Hp → Prop, (∃ m, W1 0 m H4) ∧ ∀ j k H, W1 j k H →
        (J1.stop j H ∧ Pv (i + 1) H) ∨ (J1.go j H ∧ ∃ Nx1 : Hp → Prop, (∀ H', Nx1 H' → ∃ k', k' < k ∧ W1 (j + 1) k' H') ∧ ∀ x H', J1.yld j H x H' → g1 x (wipe σ2 vs1) H' fun σ3 H5 => wipe σ3 vs1 = wipe σ2 vs1 ∧ tt1 σ3 H5 fun b H6 =>
          if b = true then te σ3 H6 fun y H7 => ∃ acc, H7 D = some (.lst acc) ∧ acc.length < sizeLine ∧ Nx1 (upd H7 D (.lst (acc ++ [y]))) else Nx1 H6)
      else Pv (i + 1) H3) (hd : ∀ H, Pv n H → Qd H) :
    ∃ W : Nat → Nat → Hp → Prop, (∃ m, W 0 m (upd H1 D (.lst []))) ∧ ∀ i m H, W i m H →
      (J.stop i H ∧ Qd H) ∨ (J.go i H ∧ ∃ Nx : Hp → Prop, (∀ H', Nx H' → ∃ m', m' < m ∧ W (i + 1) m' H') ∧ ∀ x H', J.yld i H x H' → g x (wipe σ vs) H' fun σ2 H2 => wipe σ2 vs = wipe σ vs ∧ tt σ2 H2 fun b H3 =>
        if b = true then wi1 σ2 H3 fun J1 H4 => ∃ W1 : Nat → Nat → Hp → Prop, (∃ m, W1 0 m H4) ∧ ∀ j k H, W1 j k H →
          (J1.stop j H ∧ Nx H) ∨ (J1.go j H ∧ ∃ Nx1 : Hp → Prop, (∀ H', Nx1 H' → ∃ k', k' < k ∧ W1 (j + 1) k' H') ∧ ∀ x H', J1.yld j H x H' → g1 x (wipe σ2 vs1) H' fun σ3 H5 => wipe σ3 vs1 = wipe σ2 vs1 ∧ tt1 σ3 H5 fun b H6 =>
            if b = true then te σ3 H6 fun y H7 => ∃ acc, H7 D = some (.lst acc) ∧ acc.length < sizeLine ∧ Nx1 (upd H7 D (.lst (acc ++ [y]))) else Nx1 H6)
        else Nx H3) := by
  refine ⟨fun i m H => m = n - i ∧ i ≤ n ∧ Pv i H, ⟨n, by simp, Nat.zero_le _, h0⟩, ?_⟩
  rintro i m H ⟨rfl, hi, p⟩
  have q := hG i H hi p
  by_cases hlt : i < n
  · exact .inr ⟨w.goes i H hlt q, Pv (i + 1), fun H' p' => ⟨n - (i + 1), by omega, rfl, hlt, p'⟩, fun x H' y => hs i x H H' hlt p (w.yields i H x H' hlt q y)⟩
  · have e : i = n := by omega
    subst e
    exact .inl ⟨w.stops H q, hd H p⟩
/-- the inner clause -/
theorem lc2_in (w : Walk J1 n1 G1 Y1) {g1 : TG} {tt1 : TT} {te : TE} {vs1 : List Nat} {σ2 : L2.St} {H4 : Hp} {D : Addr} {Nx : Hp → Prop} (Pv : Nat → Hp → Prop) (h0 : Pv 0 H4) (hG : ∀ i H, i ≤ n1 → Pv i H → G1 H)
    (hs : ∀ i x H H', i < n1 → Pv i H → Y1 i H x H' → g1 x (wipe σ2 vs1) H' fun σ3 H5 => wipe σ3 vs1 = wipe σ2 vs1 ∧ tt1 σ3 H5 fun b H6 =>
      if b = true then te σ3 H6 fun y H7 => ∃ acc, H7 D = some (.lst acc) ∧ acc.length < sizeLine ∧ Pv (i + 1) (upd H7 D (.lst (acc ++ [y]))) else Pv (i + 1) H6) (hd : ∀ H, Pv n1 H → Nx H) :
    ∃ W1 : Nat → Nat → Hp → Prop, (∃ m, W1 0 m H4) ∧ ∀ j k H, W1 j k H →
      (J1.stop j H ∧ Nx H) ∨ (J1.go j H ∧ ∃ Nx1 : Hp → Prop, (∀ H', Nx1 H' → ∃ k', k' < k ∧ W1 (j + 1) k' H') ∧ ∀ x H', J1.yld j H x H' → g1 x (wipe σ2 vs1) H' fun σ3 H5 => wipe σ3 vs1 = wipe σ2 vs1 ∧ tt1 σ3 H5 fun b H6 =>
        if b = true then te σ3 H6 fun y H7 => ∃ acc, H7 D = some (.lst acc) ∧ acc.length < sizeLine ∧ Nx1 (upd H7 D (.lst (acc ++ [y]))) else Nx1 H6) := by
  refine ⟨fun i m H => m = n1 - i ∧ i ≤ n1 ∧ Pv i H, ⟨n1, by simp, Nat.zero_le _, h0⟩, ?_⟩
  rintro i m H ⟨rfl, hi, p⟩
  have q := hG i H hi p
  by_cases hlt : i < n1
  · exact .inr ⟨w.goes i H hlt q, Pv (i + 1), fun H' p' => ⟨n1 - (i + 1), by omega, rfl, hlt, p'⟩, fun x H' y => hs i x H H' hlt p (w.yields i H x H' hlt q y)⟩
  · have e : i = n1 := by omega
    subst e
    exact .inl ⟨w.stops H q, hd H p⟩
/-- a dict comprehension -/
theorem dc_it (w : Walk J n G Y) {g : TG} {tt : TT} {tk tv : TE} {vs : List Nat} {σ : L2.St} {H1 : Hp} {D : Addr} {Qd : Hp → Prop} (Pv : Nat → Hp → Prop) (h0 : Pv 0 (upd H1 D (.dK []))) (hG : ∀ i H, i ≤ n → Pv i H → G H)
    (hs : ∀ i x H H', i < n → Pv i H → Y i H x H' → g x (wipe σ vs) H' fun σ2 H2 => wipe σ2 vs = wipe σ vs ∧ tt σ2 H2 fun b H3 =>
      if b = true then tk σ2 H3 fun y H4 => tv σ2 H4 fun z H5 => ∃ kvs k, y = kV k ∧ H5 D = some (.dK kvs) ∧ kvs.length < sizeLine ∧ Pv (i + 1) (upd H5 D (.dK (putK kvs k z))) else Pv (i + 1) H3) (hd : ∀ H, Pv n H → Qd H) :
    ∃ W : Nat → Nat → Hp → Prop, (∃ m, W 0 m (upd H1 D (.dK []))) ∧ ∀ i m H, W i m H →
      (J.stop i H ∧ Qd H) ∨ (J.go i H ∧ ∃ Nx : Hp → Prop, (∀ H', Nx H' → ∃ m', m' < m ∧ W (i + 1) m' H') ∧ ∀ x H', J.yld i H x H' → g x (wipe σ vs) H' fun σ2 H2 => wipe σ2 vs = wipe σ vs ∧ tt σ2 H2 fun b H3 =>
        if b = true then tk σ2 H3 fun y H4 => tv σ2 H4 fun z H5 => ∃ kvs k, y = kV k ∧ H5 D = some (.dK kvs) ∧ kvs.length < sizeLine ∧ Nx (upd H5 D (.dK (putK kvs k z))) else Nx H3) := by
  refine ⟨fun i m H => m = n - i ∧ i ≤ n ∧ Pv i H, ⟨n, by simp, Nat.zero_le _, h0⟩, ?_⟩
  rintro i m H ⟨rfl, hi, p⟩
  have q := hG i H hi p
  by_cases hlt : i < n
  · exact .inr ⟨w.goes i H hlt q, Pv (i + 1), fun H' p' => ⟨n - (i + 1), by omega, rfl, hlt, p'⟩, fun x H' y => hs i x H H' hlt p (w.yields i H x H' hlt q y)⟩
  · have e : i = n := by omega
    subst e
    exact .inl ⟨w.stops H q, hd H p⟩
end
section
variable {X : Cx}
/-- xs[i], by values: for xs[i] += e -/
def rGetI : V → V → Hp → VK → Prop := fun x y H Q => ∃ p xs i j v, x = .ref p ∧ y = .int i ∧ H p = some (.lst xs) ∧ i = ((j : Nat) : Int) ∧ xs[j]? = some v ∧ Q v H
theorem get_listI : PGet X rGetI := by
  intro pins s σ H x y ov iv Q I rx ry h
  obtain ⟨p, xs, i, j, z, rfl, rfl, hq, rfl, he, q⟩ := h
  cases rx
  obtain ⟨t, rfl⟩ := ry
  obtain ⟨its, r, pl, hz⟩ := I.list (.inl (.inl hq))
  obtain ⟨w, ew, rw'⟩ := r.get he
  have hl := r.length
  have hn := line63
  have lt := (List.getElem?_eq_some_iff.mp he).1
  exact wpAny_getItem_list (x := w) pl.isList (by omega) (by omega) (by simpa using ew) ⟨z, H, I, rw', q⟩
end
theorem hu1 {k : Nat} {A : Around} (r : Room k A) : A.units + 1 < cLine := by have := r.un; omega
theorem hu65 {k : Nat} {A : Around} (r : Room k A) : A.units + 65 < cLine := by have := r.un; omega
theorem hu4 {k : Nat} {A : Around} (r : Room k A) : A.units + 4 < cLine := by have := r.un; omega
/-- tuple(xs), said for comprehensions -/
def rTupK (K : PySem.W.Frag) : List V → Hp → VK → Prop := fun xs H Q => ∃ p ys, xs = [.ref p] ∧ ((SqL K H p ys ∧ ∀ l, H l = none → Q (.ref l) (upd H l (.tup ys))) ∨ (SqT K H p ys ∧ Q (.ref p) H))
end GC

/-! sorted(xs), xs a list of tuples that read as data, of any length. -/
namespace GD
open PySem PySem.Spec PyProof.Rows L2 PySem.W
/-- sorted of tuples, by what they read as -/
def rSortD (K : PySem.W.Frag) : List V → Hp → VK → Prop := fun vs H Q => ∃ (a : Addr) (rs : List Addr) (D : Addr → PyData), vs = [V.ref a] ∧ SqL K H a (rs.map V.ref) ∧ (∀ r ∈ rs, Dp K H (.ref r) (D r)) ∧ (∀ r s, alike (D r) (D s) = true) ∧ (∀ r, ∃ x t, D r = .tuple (x :: t)) ∧ (∀ r, (D r).depth ≤ 50) ∧
  ∀ p, H p = none → Q (.ref p) (upd H p (.lst ((rs.mergeSort (dataLe false D)).map V.ref)))
theorem refs_eq : ∀ {rs : List Addr} {us : List Value}, Vals (rs.map V.ref) us → us = rs.map Value.ref
  | [], _, .nil => rfl
  | r :: rs, _, .cons q t => by
    cases (show _ = Value.ref r from q)
    rw [refs_eq t]
    rfl
theorem each_refs : ∀ (rs : List Addr), EachIs (fun (v : Value) (r : Addr) => v = Value.ref r) (rs.map Value.ref) rs
  | [] => .nil
  | r :: rs => .cons rfl (each_refs rs)
theorem each_eq : ∀ {us : List Value} {rs : List Addr}, EachIs (fun (v : Value) (r : Addr) => v = Value.ref r) us rs → us = rs.map Value.ref
  | _, _, .nil => rfl
  | _, _, .cons h t => by rw [h, each_eq t]; rfl
theorem each_reads {X : Cx} {pins : List (Addr × Obj)} {σ : L2.St} {H : Hp} {s : Shared} {D : Addr → PyData} (I : Inv X pins σ H s) : ∀ {rs : List Addr}, (∀ r ∈ rs, Dp X.K H (.ref r) (D r)) → EachIs (fun v r => ∃ as, Reads s.heap v (D r) as) (rs.map Value.ref) rs
  | [], _ => .nil
  | r :: rs, h => .cons (Dp.reads I _ _ _ (h r List.mem_cons_self) rfl) (each_reads I fun q hq => h q (List.mem_cons_of_mem _ hq))
theorem vals_refs : ∀ (rs : List Addr), Vals (rs.map V.ref) (rs.map Value.ref)
  | [] => .nil
  | r :: rs => .cons rfl (vals_refs rs)
theorem cr_sortD {X : Cx} (hu : X.A.units + 64 < cLine) : CallR X (.builtin "sorted") (rSortD X.K) := by
  intro pins s σ H vs us Q I r h
  obtain ⟨a, rs, D, rfl, hs, hx, al, tp, dep, q⟩ := h
  obtain ⟨its, rv, hl, hz⟩ := I.list hs
  rw [Vals.ref1 r]
  have e1 := refs_eq rv
  subst e1
  rw [List.length_map] at hz
  refine sorted_data (enc := D) (R := fun v r => v = Value.ref r) hl.isList (each_refs rs) (each_reads I hx) (AllAlike.of fun b b' => al b b') (Sortable.tuples fun b => tp b) hz (fun b _ => by have := dep b; omega) fun out ho hr => ?_
  have eo := each_eq hr
  obtain ⟨ep, he'⟩ := PyProof.Rows.sortedAll_at s.heap (rs.map Value.ref) (List.toArray out)
  refine ⟨.ref _, upd H (s.heap.objs.size + 1) (.lst ((rs.mergeSort (dataLe false D)).map V.ref)), I.laid (t' := s.toks) (fun _ _ => PyProof.Rows.sortedAll_old) (Nat.le_succ _) ⟨?_, out, ep, ?_, he'⟩, rfl, q _ (I.hok.fresh (Nat.le_succ _))⟩
  · rw [List.length_map, List.length_mergeSort]
    exact hz
  · rw [eo]
    exact vals_refs _
end GD

/-! enumerate(t, start=k), t a tuple. -/
namespace GEs
open PySem PySem.Spec PyProof.Rows L2 Builtin GE
/-- a tuple's items with their places from k0 on, a new pair at each turn -/
def Etk (K : PySem.W.Frag) (t : Addr) (k0 : Int) : It where
  go i H := ∃ xs x, SqT K H t xs ∧ xs[i]? = some x
  yld i H v H' := ∃ (p : Addr) (x : V), v = .ref p ∧ H p = none ∧ H' = upd H p (.tup [.int (k0 + ((i : Nat) : Int)), x]) ∧ ∀ xs, SqT K H t xs → xs[i]? = some x
  stop i H := ∃ xs, SqT K H t xs ∧ xs.length ≤ i
theorem turnK {P : Program} {w : World} {K : PySem.W.Frag} {elts : List Expr} {kk : Nat} {tpos : Pos} (t e i : Addr) (k0 : Int) :
    Turn P w K (.Tuple elts kk tpos) (Etk K t k0) [e, i] e (fun n h => (∃ old, IsEnum h e i (k0 + ((n : Nat) : Int)) old) ∧ h.IsTupleIter i t n ∧ e ≠ i) := by
  have two : ∀ {b : Addr}, b ∈ [e, i] → b = e ∨ b = i := fun hb => by simpa using hb
  constructor
  case mem => simp
  case obj =>
    rintro n h ⟨⟨old, h1⟩, ⟨o, h2, h3, h4⟩, _⟩ b hb
    rcases two hb with q | q <;> subst q
    · exact ⟨_, h1, fun v z => nomatch z⟩
    · exact ⟨o, h2, fun v z => by rw [h4] at z; cases z⟩
  case keep =>
    rintro n h h' ⟨⟨old, h1⟩, h2, h3⟩ k
    exact ⟨⟨old, k e (by simp) _ h1⟩, h2.at fun o q => k i (by simp) o q, h3⟩
  case item =>
    intro X eP ew eK calm n pins s σ H Er I free st go
    subst eP ew eK
    obtain ⟨⟨old, h1⟩, h2, apart⟩ := st
    obtain ⟨xs, x, hq, hx⟩ := go
    obtain ⟨vs, rv, isT, _⟩ := I.tuple hq
    obtain ⟨u, hu, ru⟩ := rv.get hx
    have le : e < s.heap.objs.size := Heap.lt_size h1
    have li : i < s.heap.objs.size := by
      obtain ⟨_, q, _⟩ := h2
      exact Heap.lt_size q
    have ti : t ≠ i := fun z => by
      subst z
      obtain ⟨o1, q1, c1, _⟩ := h2
      obtain ⟨o2, q2, c2, _⟩ := isT
      rw [q1] at q2
      cases q2
      rw [c1] at c2
      exact absurd (Value.type.inj c2) (by decide)
    have te : t ≠ e := fun z => by
      subst z
      obtain ⟨o2, q2, c2, _⟩ := isT
      rw [h1] at q2
      cases q2
      exact absurd (Value.type.inj c2) (by decide)
    have quiet : X.A.in1.handled = none := by
      have z := I.ok.hd calm
      simp [z]
    have lt : n < vs.toArray.size := by
      have z := (List.getElem?_eq_some_iff.mp hu).1
      simpa using z
    refine wpAny_pyNext_enum_itemC (Draws.tuple quiet i t ti vs.toArray) h1 ⟨h2, isT⟩ lt apart (by simp [apart, te.symm]) fun y h' tk py out st' tup size keep => ?_
    have ey : y = u := by
      have z : vs.toArray[n]? = some y := py
      rw [List.getElem?_toArray, hu] at z
      exact (Option.some.inj z).symm
    subst ey
    refine ⟨_, rfl, wpAny_letOwnedTupleGo_enum (s := { s with heap := h', toks := tk + 1 }) out fun h'' again sb => ?_⟩
    have tup2 : h''.get? s.heap.objs.size = some { cls := .type "tuple", data := .seq #[.int (k0 + (n : Int)) tk, y] } := (sb.2 _ (Nat.ne_of_gt le)).trans tup
    have fresh : ObjOk X.prog X.w (upd H s.heap.objs.size (.tup [.int (k0 + ((n : Nat) : Int)), x])) h'' s.heap.objs.size (.tup [.int (k0 + ((n : Nat) : Int)), x]) :=
      ⟨by show 2 ≤ sizeLine; decide, [.int (k0 + (n : Int)) tk, y], .cons ⟨_, rfl⟩ (.cons ru .nil), ⟨_, tup2, rfl, _, rfl⟩⟩
    have J : Inv X pins σ (upd H s.heap.objs.size (.tup [.int (k0 + ((n : Nat) : Int)), x])) { s with heap := h'', toks := tk + 1 } :=
      I.turnedNew (t' := tk + 1) (ch := [e, i]) (fun b ob hb q => (sb.2 b (fun z => hb (by simp [z]))).trans (keep b ob (fun z => hb (by simp [z])) (fun z => hb (by simp [z])) q)) free (Nat.le_refl _) fresh
    refine ⟨.ref s.heap.objs.size, _, J, rfl, ⟨_, x, rfl, I.hok.fresh (Nat.le_refl _), rfl, fun ys hy => by rw [I.tuple_inj hy hq]; exact hx⟩, ⟨⟨y, ?_⟩, st'.1.at fun o q => (sb.2 i (Ne.symm apart)).trans q, apart⟩, fun b hb => ?_⟩
    · rw [show k0 + ((n + 1 : Nat) : Int) = k0 + (n : Int) + 1 by omega]
      exact again
    · have lb : b < s.heap.objs.size := by
        rcases two hb with z | z <;> subst z
        · exact le
        · exact li
      rw [upd_ne (Nat.ne_of_lt lb)]
      exact (free b hb).1
  case done =>
    intro X eP ew eK calm n pins s σ H Er I free st stop
    subst eP ew eK
    obtain ⟨⟨old, h1⟩, h2, apart⟩ := st
    obtain ⟨xs, hq, hl⟩ := stop
    obtain ⟨vs, rv, isT, _⟩ := I.tuple hq
    have long := rv.length
    have quiet : X.A.in1.handled = none := by
      have z := I.ok.hd calm
      simp [z]
    have hT : s.TypeIs (.ref e) "enumerate" := ⟨_, h1, rfl⟩
    obtain ⟨f0, f1, f2, f3, f4, f5⟩ := free i (by simp)
    unfold pyNext
    refine wpAny_bind (wpAny_attempt (wpAny_callSpecial?_slot (name := Str.ofString "__next__") hT F.slot_enumerate_next (wpAny_call_entry F.slot_enumerate_next hT F.entry_enumerate_next ?_ (F.args_enumerate_next_1 _))))
    show wpAny _ _ (field (.ref e) 2 >>= _) _ _ _
    refine wpAny_bind (wpAny_field h1 rfl (x := .ref i) rfl (wpAny_bind ?_))
    refine wpAny_nextOf_tuple_end quiet h2 isT (by simp; omega) fun h' ex eb isx => ?_
    obtain ⟨o, ho, hc⟩ := isx
    refine wpAny_bind (wpAny_isInstance (T := "StopIteration") (b := true) ⟨o, ho, hc⟩ isSubtype_stop (wpAny_pure ?_))
    exact ⟨rfl, I.turned (t' := s.toks) (fun b o hb q => eb b o hb q) f0 f1 f3 f4 f5⟩
  case self =>
    rintro A n s Q Er ⟨⟨_, h1⟩, _⟩ q
    exact wpAny_pyIter_enum h1 q
section
variable {M : Model} {A : Around} {E : Value → Shared → Prop} {s : Shared} {env : Env}
theorem callWith_typeKB {pos : Pos} {T : String} {first : List Value} {args : List (Bool × Sem Value)} {keywords : List (Option Str × Sem Value)} {Q : Value → Shared → Prop}
    (hplain : args.any (·.1) = false) (hkw : keywords.any (·.1.isNone) = false)
    (h : wpAny M A (evalArgs (.type T) true args keywords) (fun a s₁ => wpAny M A (call (.type T) (first ++ a.pos) a.kw) Q E s₁) E s) :
    wpAny M A (callWith pos (.type T) first args keywords) Q E s := by
  unfold callWith
  refine wpAny_bind (wpAny_holding (wpAny_mono h (fun a s₁ h₁ => wpAny_bind (wpAny_standAt ?_)) fun _ _ x => x))
  simp only [hplain, hkw, Bool.or_false]
  refine wpAny_bind (wpAny_pure ?_)
  exact wpAny_bind (wpAny_mono h₁ (fun r s₂ hr => wpAny_bind (wpAny_holding (wpAny_point (wpAny_pure hr)))) fun _ _ x => x)
theorem callWith_typeK {pos : Pos} {T : String} {e : Expr} {rest : List Expr} {kws : List Keyword} {Q : Value → Shared → Prop}
    (h : wpAny M A (spliced (backTo pos (starEach (e :: rest) env))) (fun vs s₁ => wpAny M A (evalAll ((backToKw pos (keywordEach kws env)).map (·.2)))
      (fun kvs s₂ => wpAny M A (call (.type T) vs (((backToKw pos (keywordEach kws env)).filterMap (·.1)).zip kvs)) Q E s₂) E s₁) E s)
    (he : backTo pos (starEach (e :: rest) env) = (false, eval e env) :: backTo pos (starEach rest env))
    (hplain : (backTo pos (starEach (e :: rest) env)).any (·.1) = false)
    (hall : (backToKw pos (keywordEach kws env)).all (·.1.isSome) = true)
    (hkw : (backToKw pos (keywordEach kws env)).any (·.1.isNone) = false) :
    wpAny M A (callWith pos (.type T) [] (backTo pos (starEach (e :: rest) env)) (backToKw pos (keywordEach kws env))) Q E s := by
  refine callWith_typeKB hplain hkw ?_
  rw [he] at h ⊢
  exact evalArgs_kwB hall h
end
/-- enumerate(t, start=k) -/
def iEnK (K : PySem.W.Frag) (ta tk : TA) : TI := fun σ H R => ta σ H fun vs H1 => tk σ H1 fun zs H2 => ∃ a xs k, vs = [.ref a] ∧ zs = [.int k] ∧ -(2 ^ 63) ≤ k ∧ k < 2 ^ 63 ∧ SqT K H2 a xs ∧ R (Etk K a k) H2
theorem begins_tup (t : Addr) (vs : Array Value) : Begins (.ref t) (tIt t) fun h => h.IsTuple t vs where
  iter := fun prog w A E s Q hl h => wpAny_pyIter_tuple hl h
  keeps := fun h h' x hk => by
    obtain ⟨o, e, c, n, d⟩ := x
    exact ⟨o, hk _ _ e, c, n, d⟩
  free := rfl
theorem pi_enumK {X : Cx} {e : Expr} {kws : List Keyword} {ta tk : TA} {p pos tpos : Pos} {elts : List Expr} {kk : Nat} (hg : Gl X "enumerate") (hm : X.mg "enumerate" = none) (ha : PA X [e] ta) (hk : PK X kws tk)
    (he : backTo pos (starEach [e] X.env) = (false, eval e X.env) :: backTo pos (starEach [] X.env) := by rfl) (hpl : (backTo pos (starEach [e] X.env)).any (·.1) = false := by rfl)
    (hall : (backToKw pos (keywordEach kws X.env)).all (·.1.isSome) = true := by rfl) (hnone : (backToKw pos (keywordEach kws X.env)).any (·.1.isNone) = false := by rfl) (hks : (backToKw pos (keywordEach kws X.env)).filterMap (·.1) = [Str.ofString "start"] := by rfl) :
    PI X (.Tuple elts kk tpos) (.Call (.Name "enumerate" p) [e] kws pos) (iEnK X.K ta tk) := by
  constructor
  intro pins s σ H R I h
  refine wpAny_Call_Name_kw (ld_blt I hg hm boot_enumerate ?_)
  refine callWith_typeK (thn (ha.run pos pins s σ H _ I h) fun us s1 ⟨vs, H1, I1, r1, q1⟩ => thn (hk.run pos pins s1 σ H1 _ I1 q1) fun ws s2 ⟨zs, H2, I2, r2, q2⟩ => ?_) he hpl hall hnone
  rw [hks]
  obtain ⟨a, xs, k, rfl, rfl, k0, k1, hq, q⟩ := q2
  have fp : ∀ b ∈ [s2.heap.objs.size + 1, s2.heap.objs.size], FpOk X pins H2 b := fun b hb => by
    have le : s2.heap.objs.size ≤ b := by
      rcases (show b = s2.heap.objs.size + 1 ∨ b = s2.heap.objs.size by simpa using hb) with z | z <;> omega
    exact I2.fpOk le (I2.hok.fresh le)
  obtain ⟨w1, rfl, t1, rfl⟩ := vals1 r2
  cases r1 with
  | cons r rr =>
    cases rr
    cases r
    obtain ⟨vs, rv, isT, _⟩ := I2.tuple hq
    have ez : [Str.ofString "start"].zip [Value.int k t1] = [(Str.ofString "start", Value.int k t1)] := rfl
    rw [ez]
    refine enum_begins_start (begins_tup a vs.toArray) isT k0 k1 fun h' at_ it size keep => wpAny_pyIter_enum at_ ?_
    have at2 : IsEnum h' (s2.heap.objs.size + 1) s2.heap.objs.size (k + ((0 : Nat) : Int)) .none := by
      rw [show k + ((0 : Nat) : Int) = k by omega]
      exact at_
    have it2 : h'.IsTupleIter s2.heap.objs.size a 0 := ⟨tIt a, it, rfl, rfl⟩
    exact ⟨_, _, _, _, H2, rfl, I2.kept (t' := s2.toks) keep, turnK a (s2.heap.objs.size + 1) s2.heap.objs.size k, ⟨⟨.none, at2⟩, it2, Nat.succ_ne_self _⟩, fp, q⟩
theorem walkK {K : PySem.W.Frag} {a : Addr} {xs : List V} {k0 : Int} : Walk (Etk K a k0) xs.length (fun H => SqT K H a xs) (YPair (fun i => some (.int (k0 + (i : Nat)))) (fun i => xs[i]?)) := by
  constructor
  · exact fun i _ hi q => ⟨xs, xs[i], q, by simp [hi]⟩
  · exact fun _ q => ⟨xs, q, Nat.le_refl _⟩
  · rintro i H v H' _ q ⟨p, x, h1, h2, h3, h4⟩
    exact ⟨p, .int (k0 + (i : Nat)), x, h1, h2, h3, rfl, h4 xs q⟩
end GEs

namespace KX
open PySem L2
/-! ### the text by places -/
def top (i : Nat) : Stmt := PySem.Challenge.pw_exactbeats_k78_whole_packets_gathered.main.body.getD i (.Pass ⟨0, 0, 0, 0⟩)
abbrev s_is_integer : Stmt := top 1
abbrev N_is_integer : List Str := ["thing"]
abbrev P_is_integer : List Str := ["thing"]
theorem sc_is_integer : FnScope N_is_integer P_is_integer (defScope s_is_integer) := ⟨rfl, rfl, rfl, by decide +kernel, rfl, by decide +kernel, by decide +kernel⟩
abbrev s_is_integer_from : Stmt := top 2
abbrev N_is_integer_from : List Str := ["least", "greatest", "thing"]
abbrev P_is_integer_from : List Str := ["least", "greatest", "thing"]
theorem sc_is_integer_from : FnScope N_is_integer_from P_is_integer_from (defScope s_is_integer_from) := ⟨rfl, rfl, rfl, by decide +kernel, rfl, by decide +kernel, by decide +kernel⟩
abbrev s_is_number_below : Stmt := top 3
abbrev N_is_number_below : List Str := ["bound", "thing"]
abbrev P_is_number_below : List Str := ["bound", "thing"]
theorem sc_is_number_below : FnScope N_is_number_below P_is_number_below (defScope s_is_number_below) := ⟨rfl, rfl, rfl, by decide +kernel, rfl, by decide +kernel, by decide +kernel⟩
abbrev s_is_tuple_of : Stmt := top 4
abbrev N_is_tuple_of : List Str := ["many", "thing"]
abbrev P_is_tuple_of : List Str := ["many", "thing"]
theorem sc_is_tuple_of : FnScope N_is_tuple_of P_is_tuple_of (defScope s_is_tuple_of) := ⟨rfl, rfl, rfl, by decide +kernel, rfl, by decide +kernel, by decide +kernel⟩
abbrev s_are_words : Stmt := top 19
abbrev N_are_words : List Str := ["most", "thing", "word"]
abbrev P_are_words : List Str := ["most", "thing"]
theorem sc_are_words : FnScope N_are_words P_are_words (defScope s_are_words) := ⟨rfl, rfl, rfl, by decide +kernel, rfl, by decide +kernel, by decide +kernel⟩
abbrev s_check_of : Stmt := top 20
abbrev N_check_of : List Str := ["packet", "part", "left", "words", "place", "word"]
abbrev P_check_of : List Str := ["packet", "part", "left", "words"]
theorem sc_check_of : FnScope N_check_of P_check_of (defScope s_check_of) := ⟨rfl, rfl, rfl, by decide +kernel, rfl, by decide +kernel, by decide +kernel⟩
abbrev s_is_load : Stmt := top 21
abbrev N_is_load : List Str := ["thing", "packet", "part", "left", "words", "check"]
abbrev P_is_load : List Str := ["thing"]
theorem sc_is_load : FnScope N_is_load P_is_load (defScope s_is_load) := ⟨rfl, rfl, rfl, by decide +kernel, rfl, by decide +kernel, by decide +kernel⟩
abbrev s_Gatherer___init__ : Stmt := inClass (top 22) 0
abbrev N_Gatherer___init__ : List Str := ["self", "outputs", "_"]
abbrev P_Gatherer___init__ : List Str := ["self", "outputs"]
theorem sc_Gatherer___init__ : FnScope N_Gatherer___init__ P_Gatherer___init__ (defScope s_Gatherer___init__) := ⟨rfl, rfl, rfl, by decide +kernel, rfl, by decide +kernel, by decide +kernel⟩
abbrev s_Gatherer__check_output : Stmt := inClass (top 22) 1
abbrev N_Gatherer__check_output : List Str := ["self", "output"]
abbrev P_Gatherer__check_output : List Str := ["self", "output"]
theorem sc_Gatherer__check_output : FnScope N_Gatherer__check_output P_Gatherer__check_output (defScope s_Gatherer__check_output) := ⟨rfl, rfl, rfl, by decide +kernel, rfl, by decide +kernel, by decide +kernel⟩
abbrev s_Gatherer_comes : Stmt := inClass (top 22) 2
abbrev N_Gatherer_comes : List Str := ["self", "output", "thing", "packet", "part", "left", "words", "_", "many", "parts", "number", "word"]
abbrev P_Gatherer_comes : List Str := ["self", "output", "thing"]
theorem sc_Gatherer_comes : FnScope N_Gatherer_comes P_Gatherer_comes (defScope s_Gatherer_comes) := ⟨rfl, rfl, rfl, by decide +kernel, rfl, by decide +kernel, by decide +kernel⟩
abbrev s_Gatherer_lacking : Stmt := inClass (top 22) 3
abbrev N_Gatherer_lacking : List Str := ["self", "output", "lacking", "packet", "many", "parts", "lot", "part"]
abbrev P_Gatherer_lacking : List Str := ["self", "output"]
theorem sc_Gatherer_lacking : FnScope N_Gatherer_lacking P_Gatherer_lacking (defScope s_Gatherer_lacking) := ⟨rfl, rfl, rfl, by decide +kernel, rfl, by decide +kernel, by decide +kernel⟩
abbrev s_law_deck : Stmt := top 24
abbrev N_law_deck : List Str := ["_law_script", "_law_seed", "_law_cell"]
abbrev P_law_deck : List Str := ["_law_script"]
theorem sc_law_deck : FnScope N_law_deck P_law_deck (defScope s_law_deck) := ⟨rfl, rfl, rfl, by decide +kernel, rfl, by decide +kernel, by decide +kernel⟩
abbrev s_law_mixed : Stmt := top 25
abbrev N_law_mixed : List Str := ["_law_cell", "_law_turn", "_law_number"]
abbrev P_law_mixed : List Str := ["_law_cell", "_law_turn"]
theorem sc_law_mixed : FnScope N_law_mixed P_law_mixed (defScope s_law_mixed) := ⟨rfl, rfl, rfl, by decide +kernel, rfl, by decide +kernel, by decide +kernel⟩
abbrev s_law_draw : Stmt := top 26
abbrev N_law_draw : List Str := ["_law_deck_here", "_law_many", "_law_cell", "_law_found"]
abbrev P_law_draw : List Str := ["_law_deck_here", "_law_many"]
theorem sc_law_draw : FnScope N_law_draw P_law_draw (defScope s_law_draw) := ⟨rfl, rfl, rfl, by decide +kernel, rfl, by decide +kernel, by decide +kernel⟩
abbrev s_law_outs : Stmt := top 28
abbrev N_law_outs : List Str := ["_law_deck_here", "_law_lines", "_law_most", "_law_hot", "_law_found", "_law_k", "_law_out"]
abbrev P_law_outs : List Str := ["_law_deck_here", "_law_lines", "_law_most", "_law_hot"]
theorem sc_law_outs : FnScope N_law_outs P_law_outs (defScope s_law_outs) := ⟨rfl, rfl, rfl, by decide +kernel, rfl, by decide +kernel, by decide +kernel⟩
abbrev s_law_packet : Stmt := top 29
abbrev N_law_packet : List Str := ["_law_deck_here", "_law_lines", "_law_most", "_law_size", "_law_words", "_law_k"]
abbrev P_law_packet : List Str := ["_law_deck_here", "_law_lines", "_law_most"]
theorem sc_law_packet : FnScope N_law_packet P_law_packet (defScope s_law_packet) := ⟨rfl, rfl, rfl, by decide +kernel, rfl, by decide +kernel, by decide +kernel⟩
abbrev s_law_load : Stmt := top 30
abbrev N_law_load : List Str := ["_law_number", "_law_words", "_law_part", "_law_left", "_law_some", "_law_total", "_law_place"]
abbrev P_law_load : List Str := ["_law_number", "_law_words", "_law_part"]
theorem sc_law_load : FnScope N_law_load P_law_load (defScope s_law_load) := ⟨rfl, rfl, rfl, by decide +kernel, rfl, by decide +kernel, by decide +kernel⟩
abbrev s_law_same : Stmt := top 31
abbrev N_law_same : List Str := ["_law_one", "_law_other_here", "_law_key", "_law_k"]
abbrev P_law_same : List Str := ["_law_one", "_law_other_here"]
theorem sc_law_same : FnScope N_law_same P_law_same (defScope s_law_same) := ⟨rfl, rfl, rfl, by decide +kernel, rfl, by decide +kernel, by decide +kernel⟩
abbrev s_law_told : Stmt := top 32
abbrev N_law_told : List Str := ["_law_gatherer", "_law_output", "_law_thing", "_law_found", "_law_good", "error"]
abbrev P_law_told : List Str := ["_law_gatherer", "_law_output", "_law_thing"]
theorem sc_law_told : FnScope N_law_told P_law_told (defScope s_law_told) := ⟨rfl, rfl, rfl, by decide +kernel, rfl, by decide +kernel, by decide +kernel⟩
abbrev s_law_due : Stmt := top 33
abbrev N_law_due : List Str := ["_law_books", "_law_output", "_law_load_here", "_law_book", "_law_number", "_law_part", "_law_left", "_law_words", "_law_check", "_law_some", "_law_found", "_law_one"]
abbrev P_law_due : List Str := ["_law_books", "_law_output", "_law_load_here"]
theorem sc_law_due : FnScope N_law_due P_law_due (defScope s_law_due) := ⟨rfl, rfl, rfl, by decide +kernel, rfl, by decide +kernel, by decide +kernel⟩
abbrev s_law_lacking : Stmt := top 34
abbrev N_law_lacking : List Str := ["_law_book", "_law_found", "_law_number", "_law_many", "_law_some", "_law_lot", "_law_part"]
abbrev P_law_lacking : List Str := ["_law_book"]
theorem sc_law_lacking : FnScope N_law_lacking P_law_lacking (defScope s_law_lacking) := ⟨rfl, rfl, rfl, by decide +kernel, rfl, by decide +kernel, by decide +kernel⟩
abbrev s_law_odd : Stmt := top 35
abbrev N_law_odd : List Str := ["_law_deck_here", "_law_load_here", "_law_number", "_law_part", "_law_left", "_law_words", "_law_check", "_law_odd_here"]
abbrev P_law_odd : List Str := ["_law_deck_here", "_law_load_here"]
theorem sc_law_odd : FnScope N_law_odd P_law_odd (defScope s_law_odd) := ⟨rfl, rfl, rfl, by decide +kernel, rfl, by decide +kernel, by decide +kernel⟩
abbrev s_law_is_lacking : Stmt := top 36
abbrev N_law_is_lacking : List Str := ["_law_gatherer", "_law_books", "_law_outputs", "_law_output"]
abbrev P_law_is_lacking : List Str := ["_law_gatherer", "_law_books", "_law_outputs"]
theorem sc_law_is_lacking : FnScope N_law_is_lacking P_law_is_lacking (defScope s_law_is_lacking) := ⟨rfl, rfl, rfl, by decide +kernel, rfl, by decide +kernel, by decide +kernel⟩
abbrev s_law_is_refused : Stmt := top 37
abbrev N_law_is_refused : List Str := ["_law_thing", "_law_found", "error"]
abbrev P_law_is_refused : List Str := ["_law_thing"]
theorem sc_law_is_refused : FnScope N_law_is_refused P_law_is_refused (defScope s_law_is_refused) := ⟨rfl, rfl, rfl, by decide +kernel, rfl, by decide +kernel, by decide +kernel⟩
abbrev s_law_is_no_output : Stmt := top 38
abbrev N_law_is_no_output : List Str := ["_law_gatherer", "_law_thing", "_law_found", "error"]
abbrev P_law_is_no_output : List Str := ["_law_gatherer", "_law_thing"]
theorem sc_law_is_no_output : FnScope N_law_is_no_output P_law_is_no_output (defScope s_law_is_no_output) := ⟨rfl, rfl, rfl, by decide +kernel, rfl, by decide +kernel, by decide +kernel⟩
abbrev s_law_other : Stmt := top 39
abbrev N_law_other : List Str := ["_law_deck_here", "_law_loads", "_law_load_here", "_law_words", "_law_part", "_law_k"]
abbrev P_law_other : List Str := ["_law_deck_here", "_law_loads", "_law_load_here"]
theorem sc_law_other : FnScope N_law_other P_law_other (defScope s_law_other) := ⟨rfl, rfl, rfl, by decide +kernel, rfl, by decide +kernel, by decide +kernel⟩
abbrev s_law : Stmt := top 40
abbrev N_law : List Str := ["_law_script", "_law_deck_here", "_law_outputs", "_law_loads", "_law_used", "_law_k", "_law_number", "_law_words", "_law_gatherer", "_law_output", "_law_books", "_law_left", "_law_turn", "_law_kind", "_law_load_here", "_law_odd_here", "_law_thing", "_law_part"]
abbrev P_law : List Str := ["_law_script"]
theorem sc_law : FnScope N_law P_law (defScope s_law) := ⟨rfl, rfl, rfl, by decide +kernel, rfl, by decide +kernel, by decide +kernel⟩
/-! ### what the top has left -/
structure Adr where
  a_is_integer : Addr
  d_is_integer : FuncData
  a_is_integer_from : Addr
  d_is_integer_from : FuncData
  a_is_number_below : Addr
  d_is_number_below : FuncData
  a_is_tuple_of : Addr
  d_is_tuple_of : FuncData
  a_are_words : Addr
  d_are_words : FuncData
  a_check_of : Addr
  d_check_of : FuncData
  a_is_load : Addr
  d_is_load : FuncData
  a_Gatherer___init__ : Addr
  d_Gatherer___init__ : FuncData
  a_Gatherer__check_output : Addr
  d_Gatherer__check_output : FuncData
  a_Gatherer_comes : Addr
  d_Gatherer_comes : FuncData
  a_Gatherer_lacking : Addr
  d_Gatherer_lacking : FuncData
  a_law_deck : Addr
  d_law_deck : FuncData
  a_law_mixed : Addr
  d_law_mixed : FuncData
  a_law_draw : Addr
  d_law_draw : FuncData
  a_law_outs : Addr
  d_law_outs : FuncData
  a_law_packet : Addr
  d_law_packet : FuncData
  a_law_load : Addr
  d_law_load : FuncData
  a_law_same : Addr
  d_law_same : FuncData
  a_law_told : Addr
  d_law_told : FuncData
  a_law_due : Addr
  d_law_due : FuncData
  a_law_lacking : Addr
  d_law_lacking : FuncData
  a_law_odd : Addr
  d_law_odd : FuncData
  a_law_is_lacking : Addr
  d_law_is_lacking : FuncData
  a_law_is_refused : Addr
  d_law_is_refused : FuncData
  a_law_is_no_output : Addr
  d_law_is_no_output : FuncData
  a_law_other : Addr
  d_law_other : FuncData
  a_law : Addr
  d_law : FuncData
  c_Gatherer : Addr
  c_FabricError : Addr
  c_NoOutput : Addr
  c_NoNumber : Addr
  c_BadLoad : Addr
  c_Twice : Addr
  c_Mixed : Addr
structure Top (K : PySem.W.Frag) (mg : Str → Option Value) (A : Adr) : Prop where
  F_is_integer : Fun K "is_integer" "is_integer" s_is_integer A.a_is_integer A.d_is_integer
  g_is_integer : mg "is_integer" = some (.ref A.a_is_integer)
  b_is_integer : Binds K A.d_is_integer P_is_integer []
  F_is_integer_from : Fun K "is_integer_from" "is_integer_from" s_is_integer_from A.a_is_integer_from A.d_is_integer_from
  g_is_integer_from : mg "is_integer_from" = some (.ref A.a_is_integer_from)
  b_is_integer_from : Binds K A.d_is_integer_from P_is_integer_from []
  F_is_number_below : Fun K "is_number_below" "is_number_below" s_is_number_below A.a_is_number_below A.d_is_number_below
  g_is_number_below : mg "is_number_below" = some (.ref A.a_is_number_below)
  b_is_number_below : Binds K A.d_is_number_below P_is_number_below []
  F_is_tuple_of : Fun K "is_tuple_of" "is_tuple_of" s_is_tuple_of A.a_is_tuple_of A.d_is_tuple_of
  g_is_tuple_of : mg "is_tuple_of" = some (.ref A.a_is_tuple_of)
  b_is_tuple_of : Binds K A.d_is_tuple_of P_is_tuple_of []
  F_are_words : Fun K "are_words" "are_words" s_are_words A.a_are_words A.d_are_words
  g_are_words : mg "are_words" = some (.ref A.a_are_words)
  b_are_words : Binds K A.d_are_words P_are_words []
  F_check_of : Fun K "check_of" "check_of" s_check_of A.a_check_of A.d_check_of
  g_check_of : mg "check_of" = some (.ref A.a_check_of)
  b_check_of : Binds K A.d_check_of P_check_of []
  F_is_load : Fun K "is_load" "is_load" s_is_load A.a_is_load A.d_is_load
  g_is_load : mg "is_load" = some (.ref A.a_is_load)
  b_is_load : Binds K A.d_is_load P_is_load []
  F_Gatherer___init__ : Fun K "__init__" "Gatherer.__init__" s_Gatherer___init__ A.a_Gatherer___init__ A.d_Gatherer___init__
  b_Gatherer___init__ : Binds K A.d_Gatherer___init__ P_Gatherer___init__ []
  F_Gatherer__check_output : Fun K "_check_output" "Gatherer._check_output" s_Gatherer__check_output A.a_Gatherer__check_output A.d_Gatherer__check_output
  b_Gatherer__check_output : Binds K A.d_Gatherer__check_output P_Gatherer__check_output []
  F_Gatherer_comes : Fun K "comes" "Gatherer.comes" s_Gatherer_comes A.a_Gatherer_comes A.d_Gatherer_comes
  b_Gatherer_comes : Binds K A.d_Gatherer_comes P_Gatherer_comes []
  F_Gatherer_lacking : Fun K "lacking" "Gatherer.lacking" s_Gatherer_lacking A.a_Gatherer_lacking A.d_Gatherer_lacking
  b_Gatherer_lacking : Binds K A.d_Gatherer_lacking P_Gatherer_lacking []
  F_law_deck : Fun K "_law_deck" "_law_deck" s_law_deck A.a_law_deck A.d_law_deck
  g_law_deck : mg "_law_deck" = some (.ref A.a_law_deck)
  b_law_deck : Binds K A.d_law_deck P_law_deck []
  F_law_mixed : Fun K "_law_mixed" "_law_mixed" s_law_mixed A.a_law_mixed A.d_law_mixed
  g_law_mixed : mg "_law_mixed" = some (.ref A.a_law_mixed)
  b_law_mixed : Binds K A.d_law_mixed P_law_mixed []
  F_law_draw : Fun K "_law_draw" "_law_draw" s_law_draw A.a_law_draw A.d_law_draw
  g_law_draw : mg "_law_draw" = some (.ref A.a_law_draw)
  b_law_draw : Binds K A.d_law_draw P_law_draw []
  F_law_outs : Fun K "_law_outs" "_law_outs" s_law_outs A.a_law_outs A.d_law_outs
  g_law_outs : mg "_law_outs" = some (.ref A.a_law_outs)
  b_law_outs : Binds K A.d_law_outs P_law_outs []
  F_law_packet : Fun K "_law_packet" "_law_packet" s_law_packet A.a_law_packet A.d_law_packet
  g_law_packet : mg "_law_packet" = some (.ref A.a_law_packet)
  b_law_packet : Binds K A.d_law_packet P_law_packet []
  F_law_load : Fun K "_law_load" "_law_load" s_law_load A.a_law_load A.d_law_load
  g_law_load : mg "_law_load" = some (.ref A.a_law_load)
  b_law_load : Binds K A.d_law_load P_law_load []
  F_law_same : Fun K "_law_same" "_law_same" s_law_same A.a_law_same A.d_law_same
  g_law_same : mg "_law_same" = some (.ref A.a_law_same)
  b_law_same : Binds K A.d_law_same P_law_same []
  F_law_told : Fun K "_law_told" "_law_told" s_law_told A.a_law_told A.d_law_told
  g_law_told : mg "_law_told" = some (.ref A.a_law_told)
  b_law_told : Binds K A.d_law_told P_law_told []
  F_law_due : Fun K "_law_due" "_law_due" s_law_due A.a_law_due A.d_law_due
  g_law_due : mg "_law_due" = some (.ref A.a_law_due)
  b_law_due : Binds K A.d_law_due P_law_due []
  F_law_lacking : Fun K "_law_lacking" "_law_lacking" s_law_lacking A.a_law_lacking A.d_law_lacking
  g_law_lacking : mg "_law_lacking" = some (.ref A.a_law_lacking)
  b_law_lacking : Binds K A.d_law_lacking P_law_lacking []
  F_law_odd : Fun K "_law_odd" "_law_odd" s_law_odd A.a_law_odd A.d_law_odd
  g_law_odd : mg "_law_odd" = some (.ref A.a_law_odd)
  b_law_odd : Binds K A.d_law_odd P_law_odd []
  F_law_is_lacking : Fun K "_law_is_lacking" "_law_is_lacking" s_law_is_lacking A.a_law_is_lacking A.d_law_is_lacking
  g_law_is_lacking : mg "_law_is_lacking" = some (.ref A.a_law_is_lacking)
  b_law_is_lacking : Binds K A.d_law_is_lacking P_law_is_lacking []
  F_law_is_refused : Fun K "_law_is_refused" "_law_is_refused" s_law_is_refused A.a_law_is_refused A.d_law_is_refused
  g_law_is_refused : mg "_law_is_refused" = some (.ref A.a_law_is_refused)
  b_law_is_refused : Binds K A.d_law_is_refused P_law_is_refused []
  F_law_is_no_output : Fun K "_law_is_no_output" "_law_is_no_output" s_law_is_no_output A.a_law_is_no_output A.d_law_is_no_output
  g_law_is_no_output : mg "_law_is_no_output" = some (.ref A.a_law_is_no_output)
  b_law_is_no_output : Binds K A.d_law_is_no_output P_law_is_no_output []
  F_law_other : Fun K "_law_other" "_law_other" s_law_other A.a_law_other A.d_law_other
  g_law_other : mg "_law_other" = some (.ref A.a_law_other)
  b_law_other : Binds K A.d_law_other P_law_other []
  F_law : Fun K "law" "law" s_law A.a_law A.d_law
  g_law : mg "law" = some (.ref A.a_law)
  b_law : Binds K A.d_law P_law []
  cl_Gatherer : Cls K A.c_Gatherer
  gc_Gatherer : mg "Gatherer" = some (.ref A.c_Gatherer)
  mk_Gatherer : Mk K A.c_Gatherer A.a_Gatherer___init__
  m_Gatherer__check_output : Meth K A.c_Gatherer "_check_output" A.a_Gatherer__check_output
  m_Gatherer_comes : Meth K A.c_Gatherer "comes" A.a_Gatherer_comes
  m_Gatherer_lacking : Meth K A.c_Gatherer "lacking" A.a_Gatherer_lacking
  n_Gatherer__begun : NoAttr K A.c_Gatherer "_begun"
  em_Gatherer : PySem.W.mroIn K A.c_Gatherer (.type "object") = some true
  es_Gatherer : PySem.W.findIn K (.ref A.c_Gatherer) "__eq__" = some (some (.builtin "object.__eq__"))
  gc_FabricError : mg "FabricError" = some (.ref A.c_FabricError)
  gc_NoOutput : mg "NoOutput" = some (.ref A.c_NoOutput)
  gc_NoNumber : mg "NoNumber" = some (.ref A.c_NoNumber)
  gc_BadLoad : mg "BadLoad" = some (.ref A.c_BadLoad)
  gc_Twice : mg "Twice" = some (.ref A.c_Twice)
  gc_Mixed : mg "Mixed" = some (.ref A.c_Mixed)
  x_NoNumber : PySem.W.excIn K A.c_NoNumber [.type "ValueError", .type "Exception", .type "BaseException", .type "object"] "ValueError.__new__" = true
  kp_NoNumber : PySem.W.keepIn K (.ref A.c_NoNumber) = true
  s_NoNumber : PySem.W.subIn K (.ref A.c_NoNumber) (.type "BaseException") = some true
  t_NoNumber : PySem.W.typeIn K (.ref A.c_NoNumber) = some (.type "type")
  e1_NoNumber : PySem.W.findIn K (.ref A.c_NoNumber) "__getattribute__" = some (some (.builtin "BaseException.__getattribute__"))
  e2_NoNumber : PySem.W.findIn K (.ref A.c_NoNumber) "__getattr__" = some none
  e3_NoNumber : PySem.W.hasDictIn K A.c_NoNumber = true
  e4_NoNumber : PySem.W.findIn K (.ref A.c_NoNumber) "__class__" = some (some (.builtin "object.__class__"))
  e5_NoNumber : PySem.W.mroIn K A.c_NoNumber (.type "object") = some true
  x_NoOutput : PySem.W.excIn K A.c_NoOutput [.type "ValueError", .type "Exception", .type "BaseException", .type "object"] "ValueError.__new__" = true
  kp_NoOutput : PySem.W.keepIn K (.ref A.c_NoOutput) = true
  s_NoOutput : PySem.W.subIn K (.ref A.c_NoOutput) (.type "BaseException") = some true
  t_NoOutput : PySem.W.typeIn K (.ref A.c_NoOutput) = some (.type "type")
  e1_NoOutput : PySem.W.findIn K (.ref A.c_NoOutput) "__getattribute__" = some (some (.builtin "BaseException.__getattribute__"))
  e2_NoOutput : PySem.W.findIn K (.ref A.c_NoOutput) "__getattr__" = some none
  e3_NoOutput : PySem.W.hasDictIn K A.c_NoOutput = true
  e4_NoOutput : PySem.W.findIn K (.ref A.c_NoOutput) "__class__" = some (some (.builtin "object.__class__"))
  e5_NoOutput : PySem.W.mroIn K A.c_NoOutput (.type "object") = some true
  x_Mixed : PySem.W.excIn K A.c_Mixed [.type "ValueError", .type "Exception", .type "BaseException", .type "object"] "ValueError.__new__" = true
  kp_Mixed : PySem.W.keepIn K (.ref A.c_Mixed) = true
  s_Mixed : PySem.W.subIn K (.ref A.c_Mixed) (.type "BaseException") = some true
  t_Mixed : PySem.W.typeIn K (.ref A.c_Mixed) = some (.type "type")
  e1_Mixed : PySem.W.findIn K (.ref A.c_Mixed) "__getattribute__" = some (some (.builtin "BaseException.__getattribute__"))
  e2_Mixed : PySem.W.findIn K (.ref A.c_Mixed) "__getattr__" = some none
  e3_Mixed : PySem.W.hasDictIn K A.c_Mixed = true
  e4_Mixed : PySem.W.findIn K (.ref A.c_Mixed) "__class__" = some (some (.builtin "object.__class__"))
  e5_Mixed : PySem.W.mroIn K A.c_Mixed (.type "object") = some true
  x_Twice : PySem.W.excIn K A.c_Twice [.type "ValueError", .type "Exception", .type "BaseException", .type "object"] "ValueError.__new__" = true
  kp_Twice : PySem.W.keepIn K (.ref A.c_Twice) = true
  s_Twice : PySem.W.subIn K (.ref A.c_Twice) (.type "BaseException") = some true
  t_Twice : PySem.W.typeIn K (.ref A.c_Twice) = some (.type "type")
  e1_Twice : PySem.W.findIn K (.ref A.c_Twice) "__getattribute__" = some (some (.builtin "BaseException.__getattribute__"))
  e2_Twice : PySem.W.findIn K (.ref A.c_Twice) "__getattr__" = some none
  e3_Twice : PySem.W.hasDictIn K A.c_Twice = true
  e4_Twice : PySem.W.findIn K (.ref A.c_Twice) "__class__" = some (some (.builtin "object.__class__"))
  e5_Twice : PySem.W.mroIn K A.c_Twice (.type "object") = some true
  x_BadLoad : PySem.W.excIn K A.c_BadLoad [.type "ValueError", .type "Exception", .type "BaseException", .type "object"] "ValueError.__new__" = true
  kp_BadLoad : PySem.W.keepIn K (.ref A.c_BadLoad) = true
  s_BadLoad : PySem.W.subIn K (.ref A.c_BadLoad) (.type "BaseException") = some true
  t_BadLoad : PySem.W.typeIn K (.ref A.c_BadLoad) = some (.type "type")
  e1_BadLoad : PySem.W.findIn K (.ref A.c_BadLoad) "__getattribute__" = some (some (.builtin "BaseException.__getattribute__"))
  e2_BadLoad : PySem.W.findIn K (.ref A.c_BadLoad) "__getattr__" = some none
  e3_BadLoad : PySem.W.hasDictIn K A.c_BadLoad = true
  e4_BadLoad : PySem.W.findIn K (.ref A.c_BadLoad) "__class__" = some (some (.builtin "object.__class__"))
  e5_BadLoad : PySem.W.mroIn K A.c_BadLoad (.type "object") = some true
  en1 : PySem.W.specialIn K (.builtin "object.__class__") "__get__" = some (some (.builtin "getset_descriptor.__get__"))
  en2 : PySem.W.takesIn K (.builtin "object.__class__") = some true
  kt_NoNumber_Mixed : PySem.W.kitOne K (.ref A.c_NoNumber) (.ref A.c_Mixed) = some false
  xm_NoNumber_Mixed : PySem.W.exmOne K (.ref A.c_NoNumber) (.ref A.c_Mixed) = some false
  kt_NoNumber_FabricError : PySem.W.kitOne K (.ref A.c_NoNumber) (.ref A.c_FabricError) = some true
  xm_NoNumber_FabricError : PySem.W.exmOne K (.ref A.c_NoNumber) (.ref A.c_FabricError) = some true
  kt_NoNumber_Twice : PySem.W.kitOne K (.ref A.c_NoNumber) (.ref A.c_Twice) = some false
  xm_NoNumber_Twice : PySem.W.exmOne K (.ref A.c_NoNumber) (.ref A.c_Twice) = some false
  kt_NoNumber_BadLoad : PySem.W.kitOne K (.ref A.c_NoNumber) (.ref A.c_BadLoad) = some false
  xm_NoNumber_BadLoad : PySem.W.exmOne K (.ref A.c_NoNumber) (.ref A.c_BadLoad) = some false
  kt_NoNumber_NoOutput : PySem.W.kitOne K (.ref A.c_NoNumber) (.ref A.c_NoOutput) = some false
  xm_NoNumber_NoOutput : PySem.W.exmOne K (.ref A.c_NoNumber) (.ref A.c_NoOutput) = some false
  kt_NoNumber_NoNumber : PySem.W.kitOne K (.ref A.c_NoNumber) (.ref A.c_NoNumber) = some true
  xm_NoNumber_NoNumber : PySem.W.exmOne K (.ref A.c_NoNumber) (.ref A.c_NoNumber) = some true
  kt_NoOutput_Mixed : PySem.W.kitOne K (.ref A.c_NoOutput) (.ref A.c_Mixed) = some false
  xm_NoOutput_Mixed : PySem.W.exmOne K (.ref A.c_NoOutput) (.ref A.c_Mixed) = some false
  kt_NoOutput_FabricError : PySem.W.kitOne K (.ref A.c_NoOutput) (.ref A.c_FabricError) = some true
  xm_NoOutput_FabricError : PySem.W.exmOne K (.ref A.c_NoOutput) (.ref A.c_FabricError) = some true
  kt_NoOutput_Twice : PySem.W.kitOne K (.ref A.c_NoOutput) (.ref A.c_Twice) = some false
  xm_NoOutput_Twice : PySem.W.exmOne K (.ref A.c_NoOutput) (.ref A.c_Twice) = some false
  kt_NoOutput_BadLoad : PySem.W.kitOne K (.ref A.c_NoOutput) (.ref A.c_BadLoad) = some false
  xm_NoOutput_BadLoad : PySem.W.exmOne K (.ref A.c_NoOutput) (.ref A.c_BadLoad) = some false
  kt_NoOutput_NoOutput : PySem.W.kitOne K (.ref A.c_NoOutput) (.ref A.c_NoOutput) = some true
  xm_NoOutput_NoOutput : PySem.W.exmOne K (.ref A.c_NoOutput) (.ref A.c_NoOutput) = some true
  kt_NoOutput_NoNumber : PySem.W.kitOne K (.ref A.c_NoOutput) (.ref A.c_NoNumber) = some false
  xm_NoOutput_NoNumber : PySem.W.exmOne K (.ref A.c_NoOutput) (.ref A.c_NoNumber) = some false
  kt_Mixed_Mixed : PySem.W.kitOne K (.ref A.c_Mixed) (.ref A.c_Mixed) = some true
  xm_Mixed_Mixed : PySem.W.exmOne K (.ref A.c_Mixed) (.ref A.c_Mixed) = some true
  kt_Mixed_FabricError : PySem.W.kitOne K (.ref A.c_Mixed) (.ref A.c_FabricError) = some true
  xm_Mixed_FabricError : PySem.W.exmOne K (.ref A.c_Mixed) (.ref A.c_FabricError) = some true
  kt_Mixed_Twice : PySem.W.kitOne K (.ref A.c_Mixed) (.ref A.c_Twice) = some false
  xm_Mixed_Twice : PySem.W.exmOne K (.ref A.c_Mixed) (.ref A.c_Twice) = some false
  kt_Mixed_BadLoad : PySem.W.kitOne K (.ref A.c_Mixed) (.ref A.c_BadLoad) = some false
  xm_Mixed_BadLoad : PySem.W.exmOne K (.ref A.c_Mixed) (.ref A.c_BadLoad) = some false
  kt_Mixed_NoOutput : PySem.W.kitOne K (.ref A.c_Mixed) (.ref A.c_NoOutput) = some false
  xm_Mixed_NoOutput : PySem.W.exmOne K (.ref A.c_Mixed) (.ref A.c_NoOutput) = some false
  kt_Mixed_NoNumber : PySem.W.kitOne K (.ref A.c_Mixed) (.ref A.c_NoNumber) = some false
  xm_Mixed_NoNumber : PySem.W.exmOne K (.ref A.c_Mixed) (.ref A.c_NoNumber) = some false
  kt_Twice_Mixed : PySem.W.kitOne K (.ref A.c_Twice) (.ref A.c_Mixed) = some false
  xm_Twice_Mixed : PySem.W.exmOne K (.ref A.c_Twice) (.ref A.c_Mixed) = some false
  kt_Twice_FabricError : PySem.W.kitOne K (.ref A.c_Twice) (.ref A.c_FabricError) = some true
  xm_Twice_FabricError : PySem.W.exmOne K (.ref A.c_Twice) (.ref A.c_FabricError) = some true
  kt_Twice_Twice : PySem.W.kitOne K (.ref A.c_Twice) (.ref A.c_Twice) = some true
  xm_Twice_Twice : PySem.W.exmOne K (.ref A.c_Twice) (.ref A.c_Twice) = some true
  kt_Twice_BadLoad : PySem.W.kitOne K (.ref A.c_Twice) (.ref A.c_BadLoad) = some false
  xm_Twice_BadLoad : PySem.W.exmOne K (.ref A.c_Twice) (.ref A.c_BadLoad) = some false
  kt_Twice_NoOutput : PySem.W.kitOne K (.ref A.c_Twice) (.ref A.c_NoOutput) = some false
  xm_Twice_NoOutput : PySem.W.exmOne K (.ref A.c_Twice) (.ref A.c_NoOutput) = some false
  kt_Twice_NoNumber : PySem.W.kitOne K (.ref A.c_Twice) (.ref A.c_NoNumber) = some false
  xm_Twice_NoNumber : PySem.W.exmOne K (.ref A.c_Twice) (.ref A.c_NoNumber) = some false
  kt_BadLoad_Mixed : PySem.W.kitOne K (.ref A.c_BadLoad) (.ref A.c_Mixed) = some false
  xm_BadLoad_Mixed : PySem.W.exmOne K (.ref A.c_BadLoad) (.ref A.c_Mixed) = some false
  kt_BadLoad_FabricError : PySem.W.kitOne K (.ref A.c_BadLoad) (.ref A.c_FabricError) = some true
  xm_BadLoad_FabricError : PySem.W.exmOne K (.ref A.c_BadLoad) (.ref A.c_FabricError) = some true
  kt_BadLoad_Twice : PySem.W.kitOne K (.ref A.c_BadLoad) (.ref A.c_Twice) = some false
  xm_BadLoad_Twice : PySem.W.exmOne K (.ref A.c_BadLoad) (.ref A.c_Twice) = some false
  kt_BadLoad_BadLoad : PySem.W.kitOne K (.ref A.c_BadLoad) (.ref A.c_BadLoad) = some true
  xm_BadLoad_BadLoad : PySem.W.exmOne K (.ref A.c_BadLoad) (.ref A.c_BadLoad) = some true
  kt_BadLoad_NoOutput : PySem.W.kitOne K (.ref A.c_BadLoad) (.ref A.c_NoOutput) = some false
  xm_BadLoad_NoOutput : PySem.W.exmOne K (.ref A.c_BadLoad) (.ref A.c_NoOutput) = some false
  kt_BadLoad_NoNumber : PySem.W.kitOne K (.ref A.c_BadLoad) (.ref A.c_NoNumber) = some false
  xm_BadLoad_NoNumber : PySem.W.exmOne K (.ref A.c_BadLoad) (.ref A.c_NoNumber) = some false
  k_MOST_LINES : ∃ t, mg "MOST_LINES" = some (.int 12 t)
  k_WORDS_OF_A_CELL : ∃ t, mg "WORDS_OF_A_CELL" = some (.int 4 t)
  k_MOST_PARTS : ∃ t, mg "MOST_PARTS" = some (.int 10 t)
  k_GREATEST_PACKET : ∃ t, mg "GREATEST_PACKET" = some (.int 1000000000 t)
  k_WORD_BOUND : ∃ t, mg "WORD_BOUND" = some (.int 256 t)
  k_CHECK_BOUND : ∃ t, mg "CHECK_BOUND" = some (.int 251 t)
  z_abs : mg "abs" = none
  z_all : mg "all" = none
  z_bool : mg "bool" = none
  z_dict : mg "dict" = none
  z_enumerate : mg "enumerate" = none
  z_int : mg "int" = none
  z_isinstance : mg "isinstance" = none
  z_len : mg "len" = none
  z_list : mg "list" = none
  z_range : mg "range" = none
  z_sorted : mg "sorted" = none
  z_str : mg "str" = none
  z_sum : mg "sum" = none
  z_tuple : mg "tuple" = none
theorem top_mk {l : PySem.W.OpenLaw} {w : World} {K : PySem.W.Frag} {h : Heap} {mg : Str → Option Value} (X : K.In h) (G : h.Ns mainGlobals mg)
    {f_is_integer : Addr} {od_is_integer an_is_integer : Option Addr} {sl_is_integer : Array (Option Value)} {oc_is_integer kV_is_integer dc_is_integer pm_is_integer cd_is_integer ct_is_integer : Value}
    {f_is_integer_from : Addr} {od_is_integer_from an_is_integer_from : Option Addr} {sl_is_integer_from : Array (Option Value)} {oc_is_integer_from kV_is_integer_from dc_is_integer_from pm_is_integer_from cd_is_integer_from ct_is_integer_from : Value}
    {f_is_number_below : Addr} {od_is_number_below an_is_number_below : Option Addr} {sl_is_number_below : Array (Option Value)} {oc_is_number_below kV_is_number_below dc_is_number_below pm_is_number_below cd_is_number_below ct_is_number_below : Value}
    {f_is_tuple_of : Addr} {od_is_tuple_of an_is_tuple_of : Option Addr} {sl_is_tuple_of : Array (Option Value)} {oc_is_tuple_of kV_is_tuple_of dc_is_tuple_of pm_is_tuple_of cd_is_tuple_of ct_is_tuple_of : Value}
    {f_are_words : Addr} {od_are_words an_are_words : Option Addr} {sl_are_words : Array (Option Value)} {oc_are_words kV_are_words dc_are_words pm_are_words cd_are_words ct_are_words : Value}
    {f_check_of : Addr} {od_check_of an_check_of : Option Addr} {sl_check_of : Array (Option Value)} {oc_check_of kV_check_of dc_check_of pm_check_of cd_check_of ct_check_of : Value}
    {f_is_load : Addr} {od_is_load an_is_load : Option Addr} {sl_is_load : Array (Option Value)} {oc_is_load kV_is_load dc_is_load pm_is_load cd_is_load ct_is_load : Value}
    {f_Gatherer___init__ : Addr} {od_Gatherer___init__ an_Gatherer___init__ : Option Addr} {sl_Gatherer___init__ : Array (Option Value)} {oc_Gatherer___init__ kV_Gatherer___init__ dc_Gatherer___init__ pm_Gatherer___init__ cd_Gatherer___init__ ct_Gatherer___init__ : Value}
    {f_Gatherer__check_output : Addr} {od_Gatherer__check_output an_Gatherer__check_output : Option Addr} {sl_Gatherer__check_output : Array (Option Value)} {oc_Gatherer__check_output kV_Gatherer__check_output dc_Gatherer__check_output pm_Gatherer__check_output cd_Gatherer__check_output ct_Gatherer__check_output : Value}
    {f_Gatherer_comes : Addr} {od_Gatherer_comes an_Gatherer_comes : Option Addr} {sl_Gatherer_comes : Array (Option Value)} {oc_Gatherer_comes kV_Gatherer_comes dc_Gatherer_comes pm_Gatherer_comes cd_Gatherer_comes ct_Gatherer_comes : Value}
    {f_Gatherer_lacking : Addr} {od_Gatherer_lacking an_Gatherer_lacking : Option Addr} {sl_Gatherer_lacking : Array (Option Value)} {oc_Gatherer_lacking kV_Gatherer_lacking dc_Gatherer_lacking pm_Gatherer_lacking cd_Gatherer_lacking ct_Gatherer_lacking : Value}
    {f_law_deck : Addr} {od_law_deck an_law_deck : Option Addr} {sl_law_deck : Array (Option Value)} {oc_law_deck kV_law_deck dc_law_deck pm_law_deck cd_law_deck ct_law_deck : Value}
    {f_law_mixed : Addr} {od_law_mixed an_law_mixed : Option Addr} {sl_law_mixed : Array (Option Value)} {oc_law_mixed kV_law_mixed dc_law_mixed pm_law_mixed cd_law_mixed ct_law_mixed : Value}
    {f_law_draw : Addr} {od_law_draw an_law_draw : Option Addr} {sl_law_draw : Array (Option Value)} {oc_law_draw kV_law_draw dc_law_draw pm_law_draw cd_law_draw ct_law_draw : Value}
    {f_law_outs : Addr} {od_law_outs an_law_outs : Option Addr} {sl_law_outs : Array (Option Value)} {oc_law_outs kV_law_outs dc_law_outs pm_law_outs cd_law_outs ct_law_outs : Value}
    {f_law_packet : Addr} {od_law_packet an_law_packet : Option Addr} {sl_law_packet : Array (Option Value)} {oc_law_packet kV_law_packet dc_law_packet pm_law_packet cd_law_packet ct_law_packet : Value}
    {f_law_load : Addr} {od_law_load an_law_load : Option Addr} {sl_law_load : Array (Option Value)} {oc_law_load kV_law_load dc_law_load pm_law_load cd_law_load ct_law_load : Value}
    {f_law_same : Addr} {od_law_same an_law_same : Option Addr} {sl_law_same : Array (Option Value)} {oc_law_same kV_law_same dc_law_same pm_law_same cd_law_same ct_law_same : Value}
    {f_law_told : Addr} {od_law_told an_law_told : Option Addr} {sl_law_told : Array (Option Value)} {oc_law_told kV_law_told dc_law_told pm_law_told cd_law_told ct_law_told : Value}
    {f_law_due : Addr} {od_law_due an_law_due : Option Addr} {sl_law_due : Array (Option Value)} {oc_law_due kV_law_due dc_law_due pm_law_due cd_law_due ct_law_due : Value}
    {f_law_lacking : Addr} {od_law_lacking an_law_lacking : Option Addr} {sl_law_lacking : Array (Option Value)} {oc_law_lacking kV_law_lacking dc_law_lacking pm_law_lacking cd_law_lacking ct_law_lacking : Value}
    {f_law_odd : Addr} {od_law_odd an_law_odd : Option Addr} {sl_law_odd : Array (Option Value)} {oc_law_odd kV_law_odd dc_law_odd pm_law_odd cd_law_odd ct_law_odd : Value}
    {f_law_is_lacking : Addr} {od_law_is_lacking an_law_is_lacking : Option Addr} {sl_law_is_lacking : Array (Option Value)} {oc_law_is_lacking kV_law_is_lacking dc_law_is_lacking pm_law_is_lacking cd_law_is_lacking ct_law_is_lacking : Value}
    {f_law_is_refused : Addr} {od_law_is_refused an_law_is_refused : Option Addr} {sl_law_is_refused : Array (Option Value)} {oc_law_is_refused kV_law_is_refused dc_law_is_refused pm_law_is_refused cd_law_is_refused ct_law_is_refused : Value}
    {f_law_is_no_output : Addr} {od_law_is_no_output an_law_is_no_output : Option Addr} {sl_law_is_no_output : Array (Option Value)} {oc_law_is_no_output kV_law_is_no_output dc_law_is_no_output pm_law_is_no_output cd_law_is_no_output ct_law_is_no_output : Value}
    {f_law_other : Addr} {od_law_other an_law_other : Option Addr} {sl_law_other : Array (Option Value)} {oc_law_other kV_law_other dc_law_other pm_law_other cd_law_other ct_law_other : Value}
    {f_law : Addr} {od_law an_law : Option Addr} {sl_law : Array (Option Value)} {oc_law kV_law dc_law pm_law cd_law ct_law : Value}
    {c_Gatherer : Addr}
    {c_FabricError : Addr}
    {c_NoOutput : Addr}
    {c_NoNumber : Addr}
    {c_BadLoad : Addr}
    {c_Twice : Addr}
    {c_Mixed : Addr}
    {t_MOST_LINES : Tok}
    {t_WORDS_OF_A_CELL : Tok}
    {t_MOST_PARTS : Tok}
    {t_GREATEST_PACKET : Tok}
    {t_WORD_BOUND : Tok}
    {t_CHECK_BOUND : Tok}
    (ac_Gatherer : PySem.W.nsIn K mainGlobals "Gatherer" = some (some (.ref c_Gatherer)))
    (ac_FabricError : PySem.W.nsIn K mainGlobals "FabricError" = some (some (.ref c_FabricError)))
    (ac_NoOutput : PySem.W.nsIn K mainGlobals "NoOutput" = some (some (.ref c_NoOutput)))
    (ac_NoNumber : PySem.W.nsIn K mainGlobals "NoNumber" = some (some (.ref c_NoNumber)))
    (ac_BadLoad : PySem.W.nsIn K mainGlobals "BadLoad" = some (some (.ref c_BadLoad)))
    (ac_Twice : PySem.W.nsIn K mainGlobals "Twice" = some (some (.ref c_Twice)))
    (ac_Mixed : PySem.W.nsIn K mainGlobals "Mixed" = some (some (.ref c_Mixed)))
    (a_is_integer : PySem.W.nsIn K mainGlobals "is_integer" = some (some (.ref f_is_integer)))
    (l_is_integer : K.lookup f_is_integer = some ⟨oc_is_integer, od_is_integer, .func (PySem.W.fnOf "is_integer" "is_integer" (defArgs s_is_integer) (defBody s_is_integer) (defScope s_is_integer) .none kV_is_integer dc_is_integer pm_is_integer an_is_integer cd_is_integer ct_is_integer), sl_is_integer⟩)
    (q_is_integer : PySem.W.codeIn K cd_is_integer "is_integer" = true)
    (p_is_integer : PySem.W.keepIn K (.ref f_is_integer) = true)
    (a_is_integer_from : PySem.W.nsIn K mainGlobals "is_integer_from" = some (some (.ref f_is_integer_from)))
    (l_is_integer_from : K.lookup f_is_integer_from = some ⟨oc_is_integer_from, od_is_integer_from, .func (PySem.W.fnOf "is_integer_from" "is_integer_from" (defArgs s_is_integer_from) (defBody s_is_integer_from) (defScope s_is_integer_from) .none kV_is_integer_from dc_is_integer_from pm_is_integer_from an_is_integer_from cd_is_integer_from ct_is_integer_from), sl_is_integer_from⟩)
    (q_is_integer_from : PySem.W.codeIn K cd_is_integer_from "is_integer_from" = true)
    (p_is_integer_from : PySem.W.keepIn K (.ref f_is_integer_from) = true)
    (a_is_number_below : PySem.W.nsIn K mainGlobals "is_number_below" = some (some (.ref f_is_number_below)))
    (l_is_number_below : K.lookup f_is_number_below = some ⟨oc_is_number_below, od_is_number_below, .func (PySem.W.fnOf "is_number_below" "is_number_below" (defArgs s_is_number_below) (defBody s_is_number_below) (defScope s_is_number_below) .none kV_is_number_below dc_is_number_below pm_is_number_below an_is_number_below cd_is_number_below ct_is_number_below), sl_is_number_below⟩)
    (q_is_number_below : PySem.W.codeIn K cd_is_number_below "is_number_below" = true)
    (p_is_number_below : PySem.W.keepIn K (.ref f_is_number_below) = true)
    (a_is_tuple_of : PySem.W.nsIn K mainGlobals "is_tuple_of" = some (some (.ref f_is_tuple_of)))
    (l_is_tuple_of : K.lookup f_is_tuple_of = some ⟨oc_is_tuple_of, od_is_tuple_of, .func (PySem.W.fnOf "is_tuple_of" "is_tuple_of" (defArgs s_is_tuple_of) (defBody s_is_tuple_of) (defScope s_is_tuple_of) .none kV_is_tuple_of dc_is_tuple_of pm_is_tuple_of an_is_tuple_of cd_is_tuple_of ct_is_tuple_of), sl_is_tuple_of⟩)
    (q_is_tuple_of : PySem.W.codeIn K cd_is_tuple_of "is_tuple_of" = true)
    (p_is_tuple_of : PySem.W.keepIn K (.ref f_is_tuple_of) = true)
    (a_are_words : PySem.W.nsIn K mainGlobals "are_words" = some (some (.ref f_are_words)))
    (l_are_words : K.lookup f_are_words = some ⟨oc_are_words, od_are_words, .func (PySem.W.fnOf "are_words" "are_words" (defArgs s_are_words) (defBody s_are_words) (defScope s_are_words) .none kV_are_words dc_are_words pm_are_words an_are_words cd_are_words ct_are_words), sl_are_words⟩)
    (q_are_words : PySem.W.codeIn K cd_are_words "are_words" = true)
    (p_are_words : PySem.W.keepIn K (.ref f_are_words) = true)
    (a_check_of : PySem.W.nsIn K mainGlobals "check_of" = some (some (.ref f_check_of)))
    (l_check_of : K.lookup f_check_of = some ⟨oc_check_of, od_check_of, .func (PySem.W.fnOf "check_of" "check_of" (defArgs s_check_of) (defBody s_check_of) (defScope s_check_of) .none kV_check_of dc_check_of pm_check_of an_check_of cd_check_of ct_check_of), sl_check_of⟩)
    (q_check_of : PySem.W.codeIn K cd_check_of "check_of" = true)
    (p_check_of : PySem.W.keepIn K (.ref f_check_of) = true)
    (a_is_load : PySem.W.nsIn K mainGlobals "is_load" = some (some (.ref f_is_load)))
    (l_is_load : K.lookup f_is_load = some ⟨oc_is_load, od_is_load, .func (PySem.W.fnOf "is_load" "is_load" (defArgs s_is_load) (defBody s_is_load) (defScope s_is_load) .none kV_is_load dc_is_load pm_is_load an_is_load cd_is_load ct_is_load), sl_is_load⟩)
    (q_is_load : PySem.W.codeIn K cd_is_load "is_load" = true)
    (p_is_load : PySem.W.keepIn K (.ref f_is_load) = true)
    (a_Gatherer___init__ : PySem.W.findIn K (.ref c_Gatherer) "__init__" = some (some (.ref f_Gatherer___init__)))
    (i_Gatherer___init__ : PySem.W.isFn K (.ref f_Gatherer___init__) = true)
    (l_Gatherer___init__ : K.lookup f_Gatherer___init__ = some ⟨oc_Gatherer___init__, od_Gatherer___init__, .func (PySem.W.fnOf "__init__" "Gatherer.__init__" (defArgs s_Gatherer___init__) (defBody s_Gatherer___init__) (defScope s_Gatherer___init__) .none kV_Gatherer___init__ dc_Gatherer___init__ pm_Gatherer___init__ an_Gatherer___init__ cd_Gatherer___init__ ct_Gatherer___init__), sl_Gatherer___init__⟩)
    (q_Gatherer___init__ : PySem.W.codeIn K cd_Gatherer___init__ "Gatherer.__init__" = true)
    (p_Gatherer___init__ : PySem.W.keepIn K (.ref f_Gatherer___init__) = true)
    (a_Gatherer__check_output : PySem.W.findIn K (.ref c_Gatherer) "_check_output" = some (some (.ref f_Gatherer__check_output)))
    (i_Gatherer__check_output : PySem.W.isFn K (.ref f_Gatherer__check_output) = true)
    (l_Gatherer__check_output : K.lookup f_Gatherer__check_output = some ⟨oc_Gatherer__check_output, od_Gatherer__check_output, .func (PySem.W.fnOf "_check_output" "Gatherer._check_output" (defArgs s_Gatherer__check_output) (defBody s_Gatherer__check_output) (defScope s_Gatherer__check_output) .none kV_Gatherer__check_output dc_Gatherer__check_output pm_Gatherer__check_output an_Gatherer__check_output cd_Gatherer__check_output ct_Gatherer__check_output), sl_Gatherer__check_output⟩)
    (q_Gatherer__check_output : PySem.W.codeIn K cd_Gatherer__check_output "Gatherer._check_output" = true)
    (p_Gatherer__check_output : PySem.W.keepIn K (.ref f_Gatherer__check_output) = true)
    (a_Gatherer_comes : PySem.W.findIn K (.ref c_Gatherer) "comes" = some (some (.ref f_Gatherer_comes)))
    (i_Gatherer_comes : PySem.W.isFn K (.ref f_Gatherer_comes) = true)
    (l_Gatherer_comes : K.lookup f_Gatherer_comes = some ⟨oc_Gatherer_comes, od_Gatherer_comes, .func (PySem.W.fnOf "comes" "Gatherer.comes" (defArgs s_Gatherer_comes) (defBody s_Gatherer_comes) (defScope s_Gatherer_comes) .none kV_Gatherer_comes dc_Gatherer_comes pm_Gatherer_comes an_Gatherer_comes cd_Gatherer_comes ct_Gatherer_comes), sl_Gatherer_comes⟩)
    (q_Gatherer_comes : PySem.W.codeIn K cd_Gatherer_comes "Gatherer.comes" = true)
    (p_Gatherer_comes : PySem.W.keepIn K (.ref f_Gatherer_comes) = true)
    (a_Gatherer_lacking : PySem.W.findIn K (.ref c_Gatherer) "lacking" = some (some (.ref f_Gatherer_lacking)))
    (i_Gatherer_lacking : PySem.W.isFn K (.ref f_Gatherer_lacking) = true)
    (l_Gatherer_lacking : K.lookup f_Gatherer_lacking = some ⟨oc_Gatherer_lacking, od_Gatherer_lacking, .func (PySem.W.fnOf "lacking" "Gatherer.lacking" (defArgs s_Gatherer_lacking) (defBody s_Gatherer_lacking) (defScope s_Gatherer_lacking) .none kV_Gatherer_lacking dc_Gatherer_lacking pm_Gatherer_lacking an_Gatherer_lacking cd_Gatherer_lacking ct_Gatherer_lacking), sl_Gatherer_lacking⟩)
    (q_Gatherer_lacking : PySem.W.codeIn K cd_Gatherer_lacking "Gatherer.lacking" = true)
    (p_Gatherer_lacking : PySem.W.keepIn K (.ref f_Gatherer_lacking) = true)
    (a_law_deck : PySem.W.nsIn K mainGlobals "_law_deck" = some (some (.ref f_law_deck)))
    (l_law_deck : K.lookup f_law_deck = some ⟨oc_law_deck, od_law_deck, .func (PySem.W.fnOf "_law_deck" "_law_deck" (defArgs s_law_deck) (defBody s_law_deck) (defScope s_law_deck) .none kV_law_deck dc_law_deck pm_law_deck an_law_deck cd_law_deck ct_law_deck), sl_law_deck⟩)
    (q_law_deck : PySem.W.codeIn K cd_law_deck "_law_deck" = true)
    (p_law_deck : PySem.W.keepIn K (.ref f_law_deck) = true)
    (a_law_mixed : PySem.W.nsIn K mainGlobals "_law_mixed" = some (some (.ref f_law_mixed)))
    (l_law_mixed : K.lookup f_law_mixed = some ⟨oc_law_mixed, od_law_mixed, .func (PySem.W.fnOf "_law_mixed" "_law_mixed" (defArgs s_law_mixed) (defBody s_law_mixed) (defScope s_law_mixed) .none kV_law_mixed dc_law_mixed pm_law_mixed an_law_mixed cd_law_mixed ct_law_mixed), sl_law_mixed⟩)
    (q_law_mixed : PySem.W.codeIn K cd_law_mixed "_law_mixed" = true)
    (p_law_mixed : PySem.W.keepIn K (.ref f_law_mixed) = true)
    (a_law_draw : PySem.W.nsIn K mainGlobals "_law_draw" = some (some (.ref f_law_draw)))
    (l_law_draw : K.lookup f_law_draw = some ⟨oc_law_draw, od_law_draw, .func (PySem.W.fnOf "_law_draw" "_law_draw" (defArgs s_law_draw) (defBody s_law_draw) (defScope s_law_draw) .none kV_law_draw dc_law_draw pm_law_draw an_law_draw cd_law_draw ct_law_draw), sl_law_draw⟩)
    (q_law_draw : PySem.W.codeIn K cd_law_draw "_law_draw" = true)
    (p_law_draw : PySem.W.keepIn K (.ref f_law_draw) = true)
    (a_law_outs : PySem.W.nsIn K mainGlobals "_law_outs" = some (some (.ref f_law_outs)))
    (l_law_outs : K.lookup f_law_outs = some ⟨oc_law_outs, od_law_outs, .func (PySem.W.fnOf "_law_outs" "_law_outs" (defArgs s_law_outs) (defBody s_law_outs) (defScope s_law_outs) .none kV_law_outs dc_law_outs pm_law_outs an_law_outs cd_law_outs ct_law_outs), sl_law_outs⟩)
    (q_law_outs : PySem.W.codeIn K cd_law_outs "_law_outs" = true)
    (p_law_outs : PySem.W.keepIn K (.ref f_law_outs) = true)
    (a_law_packet : PySem.W.nsIn K mainGlobals "_law_packet" = some (some (.ref f_law_packet)))
    (l_law_packet : K.lookup f_law_packet = some ⟨oc_law_packet, od_law_packet, .func (PySem.W.fnOf "_law_packet" "_law_packet" (defArgs s_law_packet) (defBody s_law_packet) (defScope s_law_packet) .none kV_law_packet dc_law_packet pm_law_packet an_law_packet cd_law_packet ct_law_packet), sl_law_packet⟩)
    (q_law_packet : PySem.W.codeIn K cd_law_packet "_law_packet" = true)
    (p_law_packet : PySem.W.keepIn K (.ref f_law_packet) = true)
    (a_law_load : PySem.W.nsIn K mainGlobals "_law_load" = some (some (.ref f_law_load)))
    (l_law_load : K.lookup f_law_load = some ⟨oc_law_load, od_law_load, .func (PySem.W.fnOf "_law_load" "_law_load" (defArgs s_law_load) (defBody s_law_load) (defScope s_law_load) .none kV_law_load dc_law_load pm_law_load an_law_load cd_law_load ct_law_load), sl_law_load⟩)
    (q_law_load : PySem.W.codeIn K cd_law_load "_law_load" = true)
    (p_law_load : PySem.W.keepIn K (.ref f_law_load) = true)
    (a_law_same : PySem.W.nsIn K mainGlobals "_law_same" = some (some (.ref f_law_same)))
    (l_law_same : K.lookup f_law_same = some ⟨oc_law_same, od_law_same, .func (PySem.W.fnOf "_law_same" "_law_same" (defArgs s_law_same) (defBody s_law_same) (defScope s_law_same) .none kV_law_same dc_law_same pm_law_same an_law_same cd_law_same ct_law_same), sl_law_same⟩)
    (q_law_same : PySem.W.codeIn K cd_law_same "_law_same" = true)
    (p_law_same : PySem.W.keepIn K (.ref f_law_same) = true)
    (a_law_told : PySem.W.nsIn K mainGlobals "_law_told" = some (some (.ref f_law_told)))
    (l_law_told : K.lookup f_law_told = some ⟨oc_law_told, od_law_told, .func (PySem.W.fnOf "_law_told" "_law_told" (defArgs s_law_told) (defBody s_law_told) (defScope s_law_told) .none kV_law_told dc_law_told pm_law_told an_law_told cd_law_told ct_law_told), sl_law_told⟩)
    (q_law_told : PySem.W.codeIn K cd_law_told "_law_told" = true)
    (p_law_told : PySem.W.keepIn K (.ref f_law_told) = true)
    (a_law_due : PySem.W.nsIn K mainGlobals "_law_due" = some (some (.ref f_law_due)))
    (l_law_due : K.lookup f_law_due = some ⟨oc_law_due, od_law_due, .func (PySem.W.fnOf "_law_due" "_law_due" (defArgs s_law_due) (defBody s_law_due) (defScope s_law_due) .none kV_law_due dc_law_due pm_law_due an_law_due cd_law_due ct_law_due), sl_law_due⟩)
    (q_law_due : PySem.W.codeIn K cd_law_due "_law_due" = true)
    (p_law_due : PySem.W.keepIn K (.ref f_law_due) = true)
    (a_law_lacking : PySem.W.nsIn K mainGlobals "_law_lacking" = some (some (.ref f_law_lacking)))
    (l_law_lacking : K.lookup f_law_lacking = some ⟨oc_law_lacking, od_law_lacking, .func (PySem.W.fnOf "_law_lacking" "_law_lacking" (defArgs s_law_lacking) (defBody s_law_lacking) (defScope s_law_lacking) .none kV_law_lacking dc_law_lacking pm_law_lacking an_law_lacking cd_law_lacking ct_law_lacking), sl_law_lacking⟩)
    (q_law_lacking : PySem.W.codeIn K cd_law_lacking "_law_lacking" = true)
    (p_law_lacking : PySem.W.keepIn K (.ref f_law_lacking) = true)
    (a_law_odd : PySem.W.nsIn K mainGlobals "_law_odd" = some (some (.ref f_law_odd)))
    (l_law_odd : K.lookup f_law_odd = some ⟨oc_law_odd, od_law_odd, .func (PySem.W.fnOf "_law_odd" "_law_odd" (defArgs s_law_odd) (defBody s_law_odd) (defScope s_law_odd) .none kV_law_odd dc_law_odd pm_law_odd an_law_odd cd_law_odd ct_law_odd), sl_law_odd⟩)
    (q_law_odd : PySem.W.codeIn K cd_law_odd "_law_odd" = true)
    (p_law_odd : PySem.W.keepIn K (.ref f_law_odd) = true)
    (a_law_is_lacking : PySem.W.nsIn K mainGlobals "_law_is_lacking" = some (some (.ref f_law_is_lacking)))
    (l_law_is_lacking : K.lookup f_law_is_lacking = some ⟨oc_law_is_lacking, od_law_is_lacking, .func (PySem.W.fnOf "_law_is_lacking" "_law_is_lacking" (defArgs s_law_is_lacking) (defBody s_law_is_lacking) (defScope s_law_is_lacking) .none kV_law_is_lacking dc_law_is_lacking pm_law_is_lacking an_law_is_lacking cd_law_is_lacking ct_law_is_lacking), sl_law_is_lacking⟩)
    (q_law_is_lacking : PySem.W.codeIn K cd_law_is_lacking "_law_is_lacking" = true)
    (p_law_is_lacking : PySem.W.keepIn K (.ref f_law_is_lacking) = true)
    (a_law_is_refused : PySem.W.nsIn K mainGlobals "_law_is_refused" = some (some (.ref f_law_is_refused)))
    (l_law_is_refused : K.lookup f_law_is_refused = some ⟨oc_law_is_refused, od_law_is_refused, .func (PySem.W.fnOf "_law_is_refused" "_law_is_refused" (defArgs s_law_is_refused) (defBody s_law_is_refused) (defScope s_law_is_refused) .none kV_law_is_refused dc_law_is_refused pm_law_is_refused an_law_is_refused cd_law_is_refused ct_law_is_refused), sl_law_is_refused⟩)
    (q_law_is_refused : PySem.W.codeIn K cd_law_is_refused "_law_is_refused" = true)
    (p_law_is_refused : PySem.W.keepIn K (.ref f_law_is_refused) = true)
    (a_law_is_no_output : PySem.W.nsIn K mainGlobals "_law_is_no_output" = some (some (.ref f_law_is_no_output)))
    (l_law_is_no_output : K.lookup f_law_is_no_output = some ⟨oc_law_is_no_output, od_law_is_no_output, .func (PySem.W.fnOf "_law_is_no_output" "_law_is_no_output" (defArgs s_law_is_no_output) (defBody s_law_is_no_output) (defScope s_law_is_no_output) .none kV_law_is_no_output dc_law_is_no_output pm_law_is_no_output an_law_is_no_output cd_law_is_no_output ct_law_is_no_output), sl_law_is_no_output⟩)
    (q_law_is_no_output : PySem.W.codeIn K cd_law_is_no_output "_law_is_no_output" = true)
    (p_law_is_no_output : PySem.W.keepIn K (.ref f_law_is_no_output) = true)
    (a_law_other : PySem.W.nsIn K mainGlobals "_law_other" = some (some (.ref f_law_other)))
    (l_law_other : K.lookup f_law_other = some ⟨oc_law_other, od_law_other, .func (PySem.W.fnOf "_law_other" "_law_other" (defArgs s_law_other) (defBody s_law_other) (defScope s_law_other) .none kV_law_other dc_law_other pm_law_other an_law_other cd_law_other ct_law_other), sl_law_other⟩)
    (q_law_other : PySem.W.codeIn K cd_law_other "_law_other" = true)
    (p_law_other : PySem.W.keepIn K (.ref f_law_other) = true)
    (a_law : PySem.W.nsIn K mainGlobals "law" = some (some (.ref f_law)))
    (l_law : K.lookup f_law = some ⟨oc_law, od_law, .func (PySem.W.fnOf "law" "law" (defArgs s_law) (defBody s_law) (defScope s_law) .none kV_law dc_law pm_law an_law cd_law ct_law), sl_law⟩)
    (q_law : PySem.W.codeIn K cd_law "law" = true)
    (p_law : PySem.W.keepIn K (.ref f_law) = true)
    (pg_Gatherer : PySem.W.plainGet K c_Gatherer Str.empty = true)
    (hd_Gatherer : PySem.W.hasDictIn K c_Gatherer = true)
    (po_Gatherer : PySem.W.plainOver K c_Gatherer = true)
    (sa_Gatherer : PySem.W.findIn K (.ref c_Gatherer) "__setattr__" = some (some (.builtin "object.__setattr__")))
    (mk_Gatherer : PySem.W.makesIn K c_Gatherer = true)
    (kc_Gatherer : PySem.W.keepIn K (.ref c_Gatherer) = true)
    (n_Gatherer__begun : PySem.W.findIn K (.ref c_Gatherer) "_begun" = some none)
    (em_Gatherer : PySem.W.mroIn K c_Gatherer (.type "object") = some true)
    (es_Gatherer : PySem.W.findIn K (.ref c_Gatherer) "__eq__" = some (some (.builtin "object.__eq__")))
    (x_NoNumber : PySem.W.excIn K c_NoNumber [.type "ValueError", .type "Exception", .type "BaseException", .type "object"] "ValueError.__new__" = true)
    (kp_NoNumber : PySem.W.keepIn K (.ref c_NoNumber) = true)
    (s_NoNumber : PySem.W.subIn K (.ref c_NoNumber) (.type "BaseException") = some true)
    (t_NoNumber : PySem.W.typeIn K (.ref c_NoNumber) = some (.type "type"))
    (e1_NoNumber : PySem.W.findIn K (.ref c_NoNumber) "__getattribute__" = some (some (.builtin "BaseException.__getattribute__")))
    (e2_NoNumber : PySem.W.findIn K (.ref c_NoNumber) "__getattr__" = some none)
    (e3_NoNumber : PySem.W.hasDictIn K c_NoNumber = true)
    (e4_NoNumber : PySem.W.findIn K (.ref c_NoNumber) "__class__" = some (some (.builtin "object.__class__")))
    (e5_NoNumber : PySem.W.mroIn K c_NoNumber (.type "object") = some true)
    (x_NoOutput : PySem.W.excIn K c_NoOutput [.type "ValueError", .type "Exception", .type "BaseException", .type "object"] "ValueError.__new__" = true)
    (kp_NoOutput : PySem.W.keepIn K (.ref c_NoOutput) = true)
    (s_NoOutput : PySem.W.subIn K (.ref c_NoOutput) (.type "BaseException") = some true)
    (t_NoOutput : PySem.W.typeIn K (.ref c_NoOutput) = some (.type "type"))
    (e1_NoOutput : PySem.W.findIn K (.ref c_NoOutput) "__getattribute__" = some (some (.builtin "BaseException.__getattribute__")))
    (e2_NoOutput : PySem.W.findIn K (.ref c_NoOutput) "__getattr__" = some none)
    (e3_NoOutput : PySem.W.hasDictIn K c_NoOutput = true)
    (e4_NoOutput : PySem.W.findIn K (.ref c_NoOutput) "__class__" = some (some (.builtin "object.__class__")))
    (e5_NoOutput : PySem.W.mroIn K c_NoOutput (.type "object") = some true)
    (x_Mixed : PySem.W.excIn K c_Mixed [.type "ValueError", .type "Exception", .type "BaseException", .type "object"] "ValueError.__new__" = true)
    (kp_Mixed : PySem.W.keepIn K (.ref c_Mixed) = true)
    (s_Mixed : PySem.W.subIn K (.ref c_Mixed) (.type "BaseException") = some true)
    (t_Mixed : PySem.W.typeIn K (.ref c_Mixed) = some (.type "type"))
    (e1_Mixed : PySem.W.findIn K (.ref c_Mixed) "__getattribute__" = some (some (.builtin "BaseException.__getattribute__")))
    (e2_Mixed : PySem.W.findIn K (.ref c_Mixed) "__getattr__" = some none)
    (e3_Mixed : PySem.W.hasDictIn K c_Mixed = true)
    (e4_Mixed : PySem.W.findIn K (.ref c_Mixed) "__class__" = some (some (.builtin "object.__class__")))
    (e5_Mixed : PySem.W.mroIn K c_Mixed (.type "object") = some true)
    (x_Twice : PySem.W.excIn K c_Twice [.type "ValueError", .type "Exception", .type "BaseException", .type "object"] "ValueError.__new__" = true)
    (kp_Twice : PySem.W.keepIn K (.ref c_Twice) = true)
    (s_Twice : PySem.W.subIn K (.ref c_Twice) (.type "BaseException") = some true)
    (t_Twice : PySem.W.typeIn K (.ref c_Twice) = some (.type "type"))
    (e1_Twice : PySem.W.findIn K (.ref c_Twice) "__getattribute__" = some (some (.builtin "BaseException.__getattribute__")))
    (e2_Twice : PySem.W.findIn K (.ref c_Twice) "__getattr__" = some none)
    (e3_Twice : PySem.W.hasDictIn K c_Twice = true)
    (e4_Twice : PySem.W.findIn K (.ref c_Twice) "__class__" = some (some (.builtin "object.__class__")))
    (e5_Twice : PySem.W.mroIn K c_Twice (.type "object") = some true)
    (x_BadLoad : PySem.W.excIn K c_BadLoad [.type "ValueError", .type "Exception", .type "BaseException", .type "object"] "ValueError.__new__" = true)
    (kp_BadLoad : PySem.W.keepIn K (.ref c_BadLoad) = true)
    (s_BadLoad : PySem.W.subIn K (.ref c_BadLoad) (.type "BaseException") = some true)
    (t_BadLoad : PySem.W.typeIn K (.ref c_BadLoad) = some (.type "type"))
    (e1_BadLoad : PySem.W.findIn K (.ref c_BadLoad) "__getattribute__" = some (some (.builtin "BaseException.__getattribute__")))
    (e2_BadLoad : PySem.W.findIn K (.ref c_BadLoad) "__getattr__" = some none)
    (e3_BadLoad : PySem.W.hasDictIn K c_BadLoad = true)
    (e4_BadLoad : PySem.W.findIn K (.ref c_BadLoad) "__class__" = some (some (.builtin "object.__class__")))
    (e5_BadLoad : PySem.W.mroIn K c_BadLoad (.type "object") = some true)
    (en1 : PySem.W.specialIn K (.builtin "object.__class__") "__get__" = some (some (.builtin "getset_descriptor.__get__")))
    (en2 : PySem.W.takesIn K (.builtin "object.__class__") = some true)
    (s_FabricError : PySem.W.subIn K (.ref c_FabricError) (.type "BaseException") = some true)
    (t_FabricError : PySem.W.typeIn K (.ref c_FabricError) = some (.type "type"))
    (e3_FabricError : PySem.W.hasDictIn K c_FabricError = true)
    (su_FabricError_FabricError : PySem.W.subIn K (.ref c_FabricError) (.ref c_FabricError) = some true)
    (su_NoNumber_Mixed : PySem.W.subIn K (.ref c_NoNumber) (.ref c_Mixed) = some false)
    (su_NoNumber_FabricError : PySem.W.subIn K (.ref c_NoNumber) (.ref c_FabricError) = some true)
    (su_NoNumber_Twice : PySem.W.subIn K (.ref c_NoNumber) (.ref c_Twice) = some false)
    (su_NoNumber_BadLoad : PySem.W.subIn K (.ref c_NoNumber) (.ref c_BadLoad) = some false)
    (su_NoNumber_NoOutput : PySem.W.subIn K (.ref c_NoNumber) (.ref c_NoOutput) = some false)
    (su_NoNumber_NoNumber : PySem.W.subIn K (.ref c_NoNumber) (.ref c_NoNumber) = some true)
    (su_NoOutput_Mixed : PySem.W.subIn K (.ref c_NoOutput) (.ref c_Mixed) = some false)
    (su_NoOutput_FabricError : PySem.W.subIn K (.ref c_NoOutput) (.ref c_FabricError) = some true)
    (su_NoOutput_Twice : PySem.W.subIn K (.ref c_NoOutput) (.ref c_Twice) = some false)
    (su_NoOutput_BadLoad : PySem.W.subIn K (.ref c_NoOutput) (.ref c_BadLoad) = some false)
    (su_NoOutput_NoOutput : PySem.W.subIn K (.ref c_NoOutput) (.ref c_NoOutput) = some true)
    (su_NoOutput_NoNumber : PySem.W.subIn K (.ref c_NoOutput) (.ref c_NoNumber) = some false)
    (su_Mixed_Mixed : PySem.W.subIn K (.ref c_Mixed) (.ref c_Mixed) = some true)
    (su_Mixed_FabricError : PySem.W.subIn K (.ref c_Mixed) (.ref c_FabricError) = some true)
    (su_Mixed_Twice : PySem.W.subIn K (.ref c_Mixed) (.ref c_Twice) = some false)
    (su_Mixed_BadLoad : PySem.W.subIn K (.ref c_Mixed) (.ref c_BadLoad) = some false)
    (su_Mixed_NoOutput : PySem.W.subIn K (.ref c_Mixed) (.ref c_NoOutput) = some false)
    (su_Mixed_NoNumber : PySem.W.subIn K (.ref c_Mixed) (.ref c_NoNumber) = some false)
    (su_Twice_Mixed : PySem.W.subIn K (.ref c_Twice) (.ref c_Mixed) = some false)
    (su_Twice_FabricError : PySem.W.subIn K (.ref c_Twice) (.ref c_FabricError) = some true)
    (su_Twice_Twice : PySem.W.subIn K (.ref c_Twice) (.ref c_Twice) = some true)
    (su_Twice_BadLoad : PySem.W.subIn K (.ref c_Twice) (.ref c_BadLoad) = some false)
    (su_Twice_NoOutput : PySem.W.subIn K (.ref c_Twice) (.ref c_NoOutput) = some false)
    (su_Twice_NoNumber : PySem.W.subIn K (.ref c_Twice) (.ref c_NoNumber) = some false)
    (su_BadLoad_Mixed : PySem.W.subIn K (.ref c_BadLoad) (.ref c_Mixed) = some false)
    (su_BadLoad_FabricError : PySem.W.subIn K (.ref c_BadLoad) (.ref c_FabricError) = some true)
    (su_BadLoad_Twice : PySem.W.subIn K (.ref c_BadLoad) (.ref c_Twice) = some false)
    (su_BadLoad_BadLoad : PySem.W.subIn K (.ref c_BadLoad) (.ref c_BadLoad) = some true)
    (su_BadLoad_NoOutput : PySem.W.subIn K (.ref c_BadLoad) (.ref c_NoOutput) = some false)
    (su_BadLoad_NoNumber : PySem.W.subIn K (.ref c_BadLoad) (.ref c_NoNumber) = some false)
    (k_MOST_LINES : PySem.W.nsIn K mainGlobals "MOST_LINES" = some (some (.int 12 t_MOST_LINES)))
    (k_WORDS_OF_A_CELL : PySem.W.nsIn K mainGlobals "WORDS_OF_A_CELL" = some (some (.int 4 t_WORDS_OF_A_CELL)))
    (k_MOST_PARTS : PySem.W.nsIn K mainGlobals "MOST_PARTS" = some (some (.int 10 t_MOST_PARTS)))
    (k_GREATEST_PACKET : PySem.W.nsIn K mainGlobals "GREATEST_PACKET" = some (some (.int 1000000000 t_GREATEST_PACKET)))
    (k_WORD_BOUND : PySem.W.nsIn K mainGlobals "WORD_BOUND" = some (some (.int 256 t_WORD_BOUND)))
    (k_CHECK_BOUND : PySem.W.nsIn K mainGlobals "CHECK_BOUND" = some (some (.int 251 t_CHECK_BOUND)))
    (z_abs : PySem.W.nsIn K mainGlobals "abs" = some none)
    (z_all : PySem.W.nsIn K mainGlobals "all" = some none)
    (z_bool : PySem.W.nsIn K mainGlobals "bool" = some none)
    (z_dict : PySem.W.nsIn K mainGlobals "dict" = some none)
    (z_enumerate : PySem.W.nsIn K mainGlobals "enumerate" = some none)
    (z_int : PySem.W.nsIn K mainGlobals "int" = some none)
    (z_isinstance : PySem.W.nsIn K mainGlobals "isinstance" = some none)
    (z_len : PySem.W.nsIn K mainGlobals "len" = some none)
    (z_list : PySem.W.nsIn K mainGlobals "list" = some none)
    (z_range : PySem.W.nsIn K mainGlobals "range" = some none)
    (z_sorted : PySem.W.nsIn K mainGlobals "sorted" = some none)
    (z_str : PySem.W.nsIn K mainGlobals "str" = some none)
    (z_sum : PySem.W.nsIn K mainGlobals "sum" = some none)
    (z_tuple : PySem.W.nsIn K mainGlobals "tuple" = some none)
    : ∃ A : Adr, Top K mg A ∧ A.d_law = PySem.W.fnOf "law" "law" (defArgs s_law) (defBody s_law) (defScope s_law) .none kV_law dc_law pm_law an_law cd_law ct_law ∧ A.a_law = f_law := by
  have F_is_integer := fun_mk (st := s_is_integer) l_is_integer q_is_integer p_is_integer
  have F_is_integer_from := fun_mk (st := s_is_integer_from) l_is_integer_from q_is_integer_from p_is_integer_from
  have F_is_number_below := fun_mk (st := s_is_number_below) l_is_number_below q_is_number_below p_is_number_below
  have F_is_tuple_of := fun_mk (st := s_is_tuple_of) l_is_tuple_of q_is_tuple_of p_is_tuple_of
  have F_are_words := fun_mk (st := s_are_words) l_are_words q_are_words p_are_words
  have F_check_of := fun_mk (st := s_check_of) l_check_of q_check_of p_check_of
  have F_is_load := fun_mk (st := s_is_load) l_is_load q_is_load p_is_load
  have F_Gatherer___init__ := fun_mk (st := s_Gatherer___init__) l_Gatherer___init__ q_Gatherer___init__ p_Gatherer___init__
  have F_Gatherer__check_output := fun_mk (st := s_Gatherer__check_output) l_Gatherer__check_output q_Gatherer__check_output p_Gatherer__check_output
  have F_Gatherer_comes := fun_mk (st := s_Gatherer_comes) l_Gatherer_comes q_Gatherer_comes p_Gatherer_comes
  have F_Gatherer_lacking := fun_mk (st := s_Gatherer_lacking) l_Gatherer_lacking q_Gatherer_lacking p_Gatherer_lacking
  have F_law_deck := fun_mk (st := s_law_deck) l_law_deck q_law_deck p_law_deck
  have F_law_mixed := fun_mk (st := s_law_mixed) l_law_mixed q_law_mixed p_law_mixed
  have F_law_draw := fun_mk (st := s_law_draw) l_law_draw q_law_draw p_law_draw
  have F_law_outs := fun_mk (st := s_law_outs) l_law_outs q_law_outs p_law_outs
  have F_law_packet := fun_mk (st := s_law_packet) l_law_packet q_law_packet p_law_packet
  have F_law_load := fun_mk (st := s_law_load) l_law_load q_law_load p_law_load
  have F_law_same := fun_mk (st := s_law_same) l_law_same q_law_same p_law_same
  have F_law_told := fun_mk (st := s_law_told) l_law_told q_law_told p_law_told
  have F_law_due := fun_mk (st := s_law_due) l_law_due q_law_due p_law_due
  have F_law_lacking := fun_mk (st := s_law_lacking) l_law_lacking q_law_lacking p_law_lacking
  have F_law_odd := fun_mk (st := s_law_odd) l_law_odd q_law_odd p_law_odd
  have F_law_is_lacking := fun_mk (st := s_law_is_lacking) l_law_is_lacking q_law_is_lacking p_law_is_lacking
  have F_law_is_refused := fun_mk (st := s_law_is_refused) l_law_is_refused q_law_is_refused p_law_is_refused
  have F_law_is_no_output := fun_mk (st := s_law_is_no_output) l_law_is_no_output q_law_is_no_output p_law_is_no_output
  have F_law_other := fun_mk (st := s_law_other) l_law_other q_law_other p_law_other
  have F_law := fun_mk (st := s_law) l_law q_law p_law
  refine ⟨⟨f_is_integer, PySem.W.fnOf "is_integer" "is_integer" (defArgs s_is_integer) (defBody s_is_integer) (defScope s_is_integer) .none kV_is_integer dc_is_integer pm_is_integer an_is_integer cd_is_integer ct_is_integer, f_is_integer_from, PySem.W.fnOf "is_integer_from" "is_integer_from" (defArgs s_is_integer_from) (defBody s_is_integer_from) (defScope s_is_integer_from) .none kV_is_integer_from dc_is_integer_from pm_is_integer_from an_is_integer_from cd_is_integer_from ct_is_integer_from, f_is_number_below, PySem.W.fnOf "is_number_below" "is_number_below" (defArgs s_is_number_below) (defBody s_is_number_below) (defScope s_is_number_below) .none kV_is_number_below dc_is_number_below pm_is_number_below an_is_number_below cd_is_number_below ct_is_number_below, f_is_tuple_of, PySem.W.fnOf "is_tuple_of" "is_tuple_of" (defArgs s_is_tuple_of) (defBody s_is_tuple_of) (defScope s_is_tuple_of) .none kV_is_tuple_of dc_is_tuple_of pm_is_tuple_of an_is_tuple_of cd_is_tuple_of ct_is_tuple_of, f_are_words, PySem.W.fnOf "are_words" "are_words" (defArgs s_are_words) (defBody s_are_words) (defScope s_are_words) .none kV_are_words dc_are_words pm_are_words an_are_words cd_are_words ct_are_words, f_check_of, PySem.W.fnOf "check_of" "check_of" (defArgs s_check_of) (defBody s_check_of) (defScope s_check_of) .none kV_check_of dc_check_of pm_check_of an_check_of cd_check_of ct_check_of, f_is_load, PySem.W.fnOf "is_load" "is_load" (defArgs s_is_load) (defBody s_is_load) (defScope s_is_load) .none kV_is_load dc_is_load pm_is_load an_is_load cd_is_load ct_is_load, f_Gatherer___init__, PySem.W.fnOf "__init__" "Gatherer.__init__" (defArgs s_Gatherer___init__) (defBody s_Gatherer___init__) (defScope s_Gatherer___init__) .none kV_Gatherer___init__ dc_Gatherer___init__ pm_Gatherer___init__ an_Gatherer___init__ cd_Gatherer___init__ ct_Gatherer___init__, f_Gatherer__check_output, PySem.W.fnOf "_check_output" "Gatherer._check_output" (defArgs s_Gatherer__check_output) (defBody s_Gatherer__check_output) (defScope s_Gatherer__check_output) .none kV_Gatherer__check_output dc_Gatherer__check_output pm_Gatherer__check_output an_Gatherer__check_output cd_Gatherer__check_output ct_Gatherer__check_output, f_Gatherer_comes, PySem.W.fnOf "comes" "Gatherer.comes" (defArgs s_Gatherer_comes) (defBody s_Gatherer_comes) (defScope s_Gatherer_comes) .none kV_Gatherer_comes dc_Gatherer_comes pm_Gatherer_comes an_Gatherer_comes cd_Gatherer_comes ct_Gatherer_comes, f_Gatherer_lacking, PySem.W.fnOf "lacking" "Gatherer.lacking" (defArgs s_Gatherer_lacking) (defBody s_Gatherer_lacking) (defScope s_Gatherer_lacking) .none kV_Gatherer_lacking dc_Gatherer_lacking pm_Gatherer_lacking an_Gatherer_lacking cd_Gatherer_lacking ct_Gatherer_lacking, f_law_deck, PySem.W.fnOf "_law_deck" "_law_deck" (defArgs s_law_deck) (defBody s_law_deck) (defScope s_law_deck) .none kV_law_deck dc_law_deck pm_law_deck an_law_deck cd_law_deck ct_law_deck, f_law_mixed, PySem.W.fnOf "_law_mixed" "_law_mixed" (defArgs s_law_mixed) (defBody s_law_mixed) (defScope s_law_mixed) .none kV_law_mixed dc_law_mixed pm_law_mixed an_law_mixed cd_law_mixed ct_law_mixed, f_law_draw, PySem.W.fnOf "_law_draw" "_law_draw" (defArgs s_law_draw) (defBody s_law_draw) (defScope s_law_draw) .none kV_law_draw dc_law_draw pm_law_draw an_law_draw cd_law_draw ct_law_draw, f_law_outs, PySem.W.fnOf "_law_outs" "_law_outs" (defArgs s_law_outs) (defBody s_law_outs) (defScope s_law_outs) .none kV_law_outs dc_law_outs pm_law_outs an_law_outs cd_law_outs ct_law_outs, f_law_packet, PySem.W.fnOf "_law_packet" "_law_packet" (defArgs s_law_packet) (defBody s_law_packet) (defScope s_law_packet) .none kV_law_packet dc_law_packet pm_law_packet an_law_packet cd_law_packet ct_law_packet, f_law_load, PySem.W.fnOf "_law_load" "_law_load" (defArgs s_law_load) (defBody s_law_load) (defScope s_law_load) .none kV_law_load dc_law_load pm_law_load an_law_load cd_law_load ct_law_load, f_law_same, PySem.W.fnOf "_law_same" "_law_same" (defArgs s_law_same) (defBody s_law_same) (defScope s_law_same) .none kV_law_same dc_law_same pm_law_same an_law_same cd_law_same ct_law_same, f_law_told, PySem.W.fnOf "_law_told" "_law_told" (defArgs s_law_told) (defBody s_law_told) (defScope s_law_told) .none kV_law_told dc_law_told pm_law_told an_law_told cd_law_told ct_law_told, f_law_due, PySem.W.fnOf "_law_due" "_law_due" (defArgs s_law_due) (defBody s_law_due) (defScope s_law_due) .none kV_law_due dc_law_due pm_law_due an_law_due cd_law_due ct_law_due, f_law_lacking, PySem.W.fnOf "_law_lacking" "_law_lacking" (defArgs s_law_lacking) (defBody s_law_lacking) (defScope s_law_lacking) .none kV_law_lacking dc_law_lacking pm_law_lacking an_law_lacking cd_law_lacking ct_law_lacking, f_law_odd, PySem.W.fnOf "_law_odd" "_law_odd" (defArgs s_law_odd) (defBody s_law_odd) (defScope s_law_odd) .none kV_law_odd dc_law_odd pm_law_odd an_law_odd cd_law_odd ct_law_odd, f_law_is_lacking, PySem.W.fnOf "_law_is_lacking" "_law_is_lacking" (defArgs s_law_is_lacking) (defBody s_law_is_lacking) (defScope s_law_is_lacking) .none kV_law_is_lacking dc_law_is_lacking pm_law_is_lacking an_law_is_lacking cd_law_is_lacking ct_law_is_lacking, f_law_is_refused, PySem.W.fnOf "_law_is_refused" "_law_is_refused" (defArgs s_law_is_refused) (defBody s_law_is_refused) (defScope s_law_is_refused) .none kV_law_is_refused dc_law_is_refused pm_law_is_refused an_law_is_refused cd_law_is_refused ct_law_is_refused, f_law_is_no_output, PySem.W.fnOf "_law_is_no_output" "_law_is_no_output" (defArgs s_law_is_no_output) (defBody s_law_is_no_output) (defScope s_law_is_no_output) .none kV_law_is_no_output dc_law_is_no_output pm_law_is_no_output an_law_is_no_output cd_law_is_no_output ct_law_is_no_output, f_law_other, PySem.W.fnOf "_law_other" "_law_other" (defArgs s_law_other) (defBody s_law_other) (defScope s_law_other) .none kV_law_other dc_law_other pm_law_other an_law_other cd_law_other ct_law_other, f_law, PySem.W.fnOf "law" "law" (defArgs s_law) (defBody s_law) (defScope s_law) .none kV_law dc_law pm_law an_law cd_law ct_law, c_Gatherer, c_FabricError, c_NoOutput, c_NoNumber, c_BadLoad, c_Twice, c_Mixed⟩, ?_, rfl, rfl⟩
  exact ⟨F_is_integer,
    PySem.W.mg_of X G a_is_integer,
    F_is_integer.binds (fun _ _ _ _ _ _ us hl => match us, hl with | [_], _ => rfl),
    F_is_integer_from,
    PySem.W.mg_of X G a_is_integer_from,
    F_is_integer_from.binds (fun _ _ _ _ _ _ us hl => match us, hl with | [_, _, _], _ => rfl),
    F_is_number_below,
    PySem.W.mg_of X G a_is_number_below,
    F_is_number_below.binds (fun _ _ _ _ _ _ us hl => match us, hl with | [_, _], _ => rfl),
    F_is_tuple_of,
    PySem.W.mg_of X G a_is_tuple_of,
    F_is_tuple_of.binds (fun _ _ _ _ _ _ us hl => match us, hl with | [_, _], _ => rfl),
    F_are_words,
    PySem.W.mg_of X G a_are_words,
    F_are_words.binds (fun _ _ _ _ _ _ us hl => match us, hl with | [_, _], _ => rfl),
    F_check_of,
    PySem.W.mg_of X G a_check_of,
    F_check_of.binds (fun _ _ _ _ _ _ us hl => match us, hl with | [_, _, _, _], _ => rfl),
    F_is_load,
    PySem.W.mg_of X G a_is_load,
    F_is_load.binds (fun _ _ _ _ _ _ us hl => match us, hl with | [_], _ => rfl),
    F_Gatherer___init__,
    F_Gatherer___init__.binds (fun _ _ _ _ _ _ us hl => match us, hl with | [_, _], _ => rfl),
    F_Gatherer__check_output,
    F_Gatherer__check_output.binds (fun _ _ _ _ _ _ us hl => match us, hl with | [_, _], _ => rfl),
    F_Gatherer_comes,
    F_Gatherer_comes.binds (fun _ _ _ _ _ _ us hl => match us, hl with | [_, _, _], _ => rfl),
    F_Gatherer_lacking,
    F_Gatherer_lacking.binds (fun _ _ _ _ _ _ us hl => match us, hl with | [_, _], _ => rfl),
    F_law_deck,
    PySem.W.mg_of X G a_law_deck,
    F_law_deck.binds (fun _ _ _ _ _ _ us hl => match us, hl with | [_], _ => rfl),
    F_law_mixed,
    PySem.W.mg_of X G a_law_mixed,
    F_law_mixed.binds (fun _ _ _ _ _ _ us hl => match us, hl with | [_, _], _ => rfl),
    F_law_draw,
    PySem.W.mg_of X G a_law_draw,
    F_law_draw.binds (fun _ _ _ _ _ _ us hl => match us, hl with | [_, _], _ => rfl),
    F_law_outs,
    PySem.W.mg_of X G a_law_outs,
    F_law_outs.binds (fun _ _ _ _ _ _ us hl => match us, hl with | [_, _, _, _], _ => rfl),
    F_law_packet,
    PySem.W.mg_of X G a_law_packet,
    F_law_packet.binds (fun _ _ _ _ _ _ us hl => match us, hl with | [_, _, _], _ => rfl),
    F_law_load,
    PySem.W.mg_of X G a_law_load,
    F_law_load.binds (fun _ _ _ _ _ _ us hl => match us, hl with | [_, _, _], _ => rfl),
    F_law_same,
    PySem.W.mg_of X G a_law_same,
    F_law_same.binds (fun _ _ _ _ _ _ us hl => match us, hl with | [_, _], _ => rfl),
    F_law_told,
    PySem.W.mg_of X G a_law_told,
    F_law_told.binds (fun _ _ _ _ _ _ us hl => match us, hl with | [_, _, _], _ => rfl),
    F_law_due,
    PySem.W.mg_of X G a_law_due,
    F_law_due.binds (fun _ _ _ _ _ _ us hl => match us, hl with | [_, _, _], _ => rfl),
    F_law_lacking,
    PySem.W.mg_of X G a_law_lacking,
    F_law_lacking.binds (fun _ _ _ _ _ _ us hl => match us, hl with | [_], _ => rfl),
    F_law_odd,
    PySem.W.mg_of X G a_law_odd,
    F_law_odd.binds (fun _ _ _ _ _ _ us hl => match us, hl with | [_, _], _ => rfl),
    F_law_is_lacking,
    PySem.W.mg_of X G a_law_is_lacking,
    F_law_is_lacking.binds (fun _ _ _ _ _ _ us hl => match us, hl with | [_, _, _], _ => rfl),
    F_law_is_refused,
    PySem.W.mg_of X G a_law_is_refused,
    F_law_is_refused.binds (fun _ _ _ _ _ _ us hl => match us, hl with | [_], _ => rfl),
    F_law_is_no_output,
    PySem.W.mg_of X G a_law_is_no_output,
    F_law_is_no_output.binds (fun _ _ _ _ _ _ us hl => match us, hl with | [_, _], _ => rfl),
    F_law_other,
    PySem.W.mg_of X G a_law_other,
    F_law_other.binds (fun _ _ _ _ _ _ us hl => match us, hl with | [_, _, _], _ => rfl),
    F_law,
    PySem.W.mg_of X G a_law,
    F_law.binds (fun _ _ _ _ _ _ us hl => match us, hl with | [_], _ => rfl),
    ⟨pg_Gatherer, hd_Gatherer, po_Gatherer, sa_Gatherer⟩,
    PySem.W.mg_of X G ac_Gatherer,
    ⟨mk_Gatherer, a_Gatherer___init__, i_Gatherer___init__, kc_Gatherer⟩,
    ⟨a_Gatherer__check_output, i_Gatherer__check_output, p_Gatherer__check_output⟩,
    ⟨a_Gatherer_comes, i_Gatherer_comes, p_Gatherer_comes⟩,
    ⟨a_Gatherer_lacking, i_Gatherer_lacking, p_Gatherer_lacking⟩,
    n_Gatherer__begun,
    em_Gatherer,
    es_Gatherer,
    PySem.W.mg_of X G ac_FabricError,
    PySem.W.mg_of X G ac_NoOutput,
    PySem.W.mg_of X G ac_NoNumber,
    PySem.W.mg_of X G ac_BadLoad,
    PySem.W.mg_of X G ac_Twice,
    PySem.W.mg_of X G ac_Mixed,
    x_NoNumber,
    kp_NoNumber,
    s_NoNumber,
    t_NoNumber,
    e1_NoNumber,
    e2_NoNumber,
    e3_NoNumber,
    e4_NoNumber,
    e5_NoNumber,
    x_NoOutput,
    kp_NoOutput,
    s_NoOutput,
    t_NoOutput,
    e1_NoOutput,
    e2_NoOutput,
    e3_NoOutput,
    e4_NoOutput,
    e5_NoOutput,
    x_Mixed,
    kp_Mixed,
    s_Mixed,
    t_Mixed,
    e1_Mixed,
    e2_Mixed,
    e3_Mixed,
    e4_Mixed,
    e5_Mixed,
    x_Twice,
    kp_Twice,
    s_Twice,
    t_Twice,
    e1_Twice,
    e2_Twice,
    e3_Twice,
    e4_Twice,
    e5_Twice,
    x_BadLoad,
    kp_BadLoad,
    s_BadLoad,
    t_BadLoad,
    e1_BadLoad,
    e2_BadLoad,
    e3_BadLoad,
    e4_BadLoad,
    e5_BadLoad,
    en1,
    en2,
    GX.kit_no (PySem.W.exm_ref s_Mixed e3_Mixed t_Mixed su_NoNumber_Mixed) su_Mixed_Mixed su_NoNumber_Mixed,
    (PySem.W.exm_ref s_Mixed e3_Mixed t_Mixed su_NoNumber_Mixed),
    GX.kit_yes (PySem.W.exm_ref s_FabricError e3_FabricError t_FabricError su_NoNumber_FabricError),
    (PySem.W.exm_ref s_FabricError e3_FabricError t_FabricError su_NoNumber_FabricError),
    GX.kit_no (PySem.W.exm_ref s_Twice e3_Twice t_Twice su_NoNumber_Twice) su_Twice_Twice su_NoNumber_Twice,
    (PySem.W.exm_ref s_Twice e3_Twice t_Twice su_NoNumber_Twice),
    GX.kit_no (PySem.W.exm_ref s_BadLoad e3_BadLoad t_BadLoad su_NoNumber_BadLoad) su_BadLoad_BadLoad su_NoNumber_BadLoad,
    (PySem.W.exm_ref s_BadLoad e3_BadLoad t_BadLoad su_NoNumber_BadLoad),
    GX.kit_no (PySem.W.exm_ref s_NoOutput e3_NoOutput t_NoOutput su_NoNumber_NoOutput) su_NoOutput_NoOutput su_NoNumber_NoOutput,
    (PySem.W.exm_ref s_NoOutput e3_NoOutput t_NoOutput su_NoNumber_NoOutput),
    GX.kit_yes (PySem.W.exm_ref s_NoNumber e3_NoNumber t_NoNumber su_NoNumber_NoNumber),
    (PySem.W.exm_ref s_NoNumber e3_NoNumber t_NoNumber su_NoNumber_NoNumber),
    GX.kit_no (PySem.W.exm_ref s_Mixed e3_Mixed t_Mixed su_NoOutput_Mixed) su_Mixed_Mixed su_NoOutput_Mixed,
    (PySem.W.exm_ref s_Mixed e3_Mixed t_Mixed su_NoOutput_Mixed),
    GX.kit_yes (PySem.W.exm_ref s_FabricError e3_FabricError t_FabricError su_NoOutput_FabricError),
    (PySem.W.exm_ref s_FabricError e3_FabricError t_FabricError su_NoOutput_FabricError),
    GX.kit_no (PySem.W.exm_ref s_Twice e3_Twice t_Twice su_NoOutput_Twice) su_Twice_Twice su_NoOutput_Twice,
    (PySem.W.exm_ref s_Twice e3_Twice t_Twice su_NoOutput_Twice),
    GX.kit_no (PySem.W.exm_ref s_BadLoad e3_BadLoad t_BadLoad su_NoOutput_BadLoad) su_BadLoad_BadLoad su_NoOutput_BadLoad,
    (PySem.W.exm_ref s_BadLoad e3_BadLoad t_BadLoad su_NoOutput_BadLoad),
    GX.kit_yes (PySem.W.exm_ref s_NoOutput e3_NoOutput t_NoOutput su_NoOutput_NoOutput),
    (PySem.W.exm_ref s_NoOutput e3_NoOutput t_NoOutput su_NoOutput_NoOutput),
    GX.kit_no (PySem.W.exm_ref s_NoNumber e3_NoNumber t_NoNumber su_NoOutput_NoNumber) su_NoNumber_NoNumber su_NoOutput_NoNumber,
    (PySem.W.exm_ref s_NoNumber e3_NoNumber t_NoNumber su_NoOutput_NoNumber),
    GX.kit_yes (PySem.W.exm_ref s_Mixed e3_Mixed t_Mixed su_Mixed_Mixed),
    (PySem.W.exm_ref s_Mixed e3_Mixed t_Mixed su_Mixed_Mixed),
    GX.kit_yes (PySem.W.exm_ref s_FabricError e3_FabricError t_FabricError su_Mixed_FabricError),
    (PySem.W.exm_ref s_FabricError e3_FabricError t_FabricError su_Mixed_FabricError),
    GX.kit_no (PySem.W.exm_ref s_Twice e3_Twice t_Twice su_Mixed_Twice) su_Twice_Twice su_Mixed_Twice,
    (PySem.W.exm_ref s_Twice e3_Twice t_Twice su_Mixed_Twice),
    GX.kit_no (PySem.W.exm_ref s_BadLoad e3_BadLoad t_BadLoad su_Mixed_BadLoad) su_BadLoad_BadLoad su_Mixed_BadLoad,
    (PySem.W.exm_ref s_BadLoad e3_BadLoad t_BadLoad su_Mixed_BadLoad),
    GX.kit_no (PySem.W.exm_ref s_NoOutput e3_NoOutput t_NoOutput su_Mixed_NoOutput) su_NoOutput_NoOutput su_Mixed_NoOutput,
    (PySem.W.exm_ref s_NoOutput e3_NoOutput t_NoOutput su_Mixed_NoOutput),
    GX.kit_no (PySem.W.exm_ref s_NoNumber e3_NoNumber t_NoNumber su_Mixed_NoNumber) su_NoNumber_NoNumber su_Mixed_NoNumber,
    (PySem.W.exm_ref s_NoNumber e3_NoNumber t_NoNumber su_Mixed_NoNumber),
    GX.kit_no (PySem.W.exm_ref s_Mixed e3_Mixed t_Mixed su_Twice_Mixed) su_Mixed_Mixed su_Twice_Mixed,
    (PySem.W.exm_ref s_Mixed e3_Mixed t_Mixed su_Twice_Mixed),
    GX.kit_yes (PySem.W.exm_ref s_FabricError e3_FabricError t_FabricError su_Twice_FabricError),
    (PySem.W.exm_ref s_FabricError e3_FabricError t_FabricError su_Twice_FabricError),
    GX.kit_yes (PySem.W.exm_ref s_Twice e3_Twice t_Twice su_Twice_Twice),
    (PySem.W.exm_ref s_Twice e3_Twice t_Twice su_Twice_Twice),
    GX.kit_no (PySem.W.exm_ref s_BadLoad e3_BadLoad t_BadLoad su_Twice_BadLoad) su_BadLoad_BadLoad su_Twice_BadLoad,
    (PySem.W.exm_ref s_BadLoad e3_BadLoad t_BadLoad su_Twice_BadLoad),
    GX.kit_no (PySem.W.exm_ref s_NoOutput e3_NoOutput t_NoOutput su_Twice_NoOutput) su_NoOutput_NoOutput su_Twice_NoOutput,
    (PySem.W.exm_ref s_NoOutput e3_NoOutput t_NoOutput su_Twice_NoOutput),
    GX.kit_no (PySem.W.exm_ref s_NoNumber e3_NoNumber t_NoNumber su_Twice_NoNumber) su_NoNumber_NoNumber su_Twice_NoNumber,
    (PySem.W.exm_ref s_NoNumber e3_NoNumber t_NoNumber su_Twice_NoNumber),
    GX.kit_no (PySem.W.exm_ref s_Mixed e3_Mixed t_Mixed su_BadLoad_Mixed) su_Mixed_Mixed su_BadLoad_Mixed,
    (PySem.W.exm_ref s_Mixed e3_Mixed t_Mixed su_BadLoad_Mixed),
    GX.kit_yes (PySem.W.exm_ref s_FabricError e3_FabricError t_FabricError su_BadLoad_FabricError),
    (PySem.W.exm_ref s_FabricError e3_FabricError t_FabricError su_BadLoad_FabricError),
    GX.kit_no (PySem.W.exm_ref s_Twice e3_Twice t_Twice su_BadLoad_Twice) su_Twice_Twice su_BadLoad_Twice,
    (PySem.W.exm_ref s_Twice e3_Twice t_Twice su_BadLoad_Twice),
    GX.kit_yes (PySem.W.exm_ref s_BadLoad e3_BadLoad t_BadLoad su_BadLoad_BadLoad),
    (PySem.W.exm_ref s_BadLoad e3_BadLoad t_BadLoad su_BadLoad_BadLoad),
    GX.kit_no (PySem.W.exm_ref s_NoOutput e3_NoOutput t_NoOutput su_BadLoad_NoOutput) su_NoOutput_NoOutput su_BadLoad_NoOutput,
    (PySem.W.exm_ref s_NoOutput e3_NoOutput t_NoOutput su_BadLoad_NoOutput),
    GX.kit_no (PySem.W.exm_ref s_NoNumber e3_NoNumber t_NoNumber su_BadLoad_NoNumber) su_NoNumber_NoNumber su_BadLoad_NoNumber,
    (PySem.W.exm_ref s_NoNumber e3_NoNumber t_NoNumber su_BadLoad_NoNumber),
    ⟨_, PySem.W.mg_of X G k_MOST_LINES⟩,
    ⟨_, PySem.W.mg_of X G k_WORDS_OF_A_CELL⟩,
    ⟨_, PySem.W.mg_of X G k_MOST_PARTS⟩,
    ⟨_, PySem.W.mg_of X G k_GREATEST_PACKET⟩,
    ⟨_, PySem.W.mg_of X G k_WORD_BOUND⟩,
    ⟨_, PySem.W.mg_of X G k_CHECK_BOUND⟩,
    PySem.W.mg_none_of X G z_abs,
    PySem.W.mg_none_of X G z_all,
    PySem.W.mg_none_of X G z_bool,
    PySem.W.mg_none_of X G z_dict,
    PySem.W.mg_none_of X G z_enumerate,
    PySem.W.mg_none_of X G z_int,
    PySem.W.mg_none_of X G z_isinstance,
    PySem.W.mg_none_of X G z_len,
    PySem.W.mg_none_of X G z_list,
    PySem.W.mg_none_of X G z_range,
    PySem.W.mg_none_of X G z_sorted,
    PySem.W.mg_none_of X G z_str,
    PySem.W.mg_none_of X G z_sum,
    PySem.W.mg_none_of X G z_tuple⟩

/-! ### heaps -/
theorem dec_int {a b : Int} : decide (V.int a = V.int b) = decide (a = b) := decide_eq_decide.mpr ⟨fun e => V.int.inj e, fun e => by rw [e]⟩
theorem dec_self {a : V} : decide (a = a) = true := decide_eq_true rfl
theorem same_upd {H : Hp} {p : Addr} {o : HO} (h : H p = none) : Same H (upd H p o) := fun b x e => by
  rw [upd_ne (ne_of_none e h)]
  exact e
theorem same_to {H H1 : Hp} {p : Addr} {o : HO} (s : Same H H1) (h : H p = none) : Same H (upd H1 p o) := fun b x e => by
  rw [upd_ne (ne_of_none e h)]
  exact s b x e
/-- as H but at x, new objects apart -/
def Kp (x : Addr) (H H' : Hp) : Prop := ∀ q o, q ≠ x → H q = some o → H' q = some o
theorem Kp.same {x : Addr} {H H1 H2 : Hp} (a : Kp x H H1) (b : Same H1 H2) : Kp x H H2 := fun q o hq h => b _ _ (a q o hq h)
theorem kp_of {H H' : Hp} (a : Same H H') (x : Addr) : Kp x H H' := fun q o _ h => a q o h
theorem Kp.upd {x : Addr} {H H1 : Hp} {o : HO} (a : Kp x H H1) : Kp x H (upd H1 x o) := fun q u hq h => by
  rw [upd_ne hq]
  exact a q u hq h
theorem Kp.trans {h : Addr} {H H1 H2 : Hp} (a : Kp h H H1) (b : Kp h H1 H2) : Kp h H H2 := fun q o hq e => b q o hq (a q o hq e)
theorem Kp.free {h p : Addr} {H H' : Hp} (a : Kp h H H') (hp : p ≠ h) (e : H' p = none) : H p = none := by
  cases q : H p with
  | none => rfl
  | some o =>
    rw [a p o hp q] at e
    cases e
theorem small1000 {n : Nat} (h : n < 1000) : n < sizeLine := Nat.lt_trans h (by decide)
theorem ne_of {H : Hp} {p q : Addr} {o u : HO} (hp : H p = some o) (hq : H q = some u) (h : o ≠ u) : p ≠ q := fun e => by
  rw [e, hq] at hp
  exact h (Option.some.inj hp).symm
def NT (o : HO) : Prop := ∀ ps, o ≠ .tbl ps
/-- as H but at h, tables apart -/
def Mv (h : Addr) (H H' : Hp) : Prop := ∀ q o, q ≠ h → H q = some o → NT o → H' q = some o
theorem Mv.of {h : Addr} {H H' : Hp} (k : Kp h H H') : Mv h H H' := fun q o hq e _ => k q o hq e
theorem Mv.same {h : Addr} {H H' : Hp} (k : Same H H') : Mv h H H' := fun q o _ e _ => k q o e
theorem Mv.ext {h : Addr} {H H' : Hp} (k : LamX.ExtN H H') : Mv h H H' := fun q o _ e n => k q o e n
theorem Mv.trans {h : Addr} {H H1 H2 : Hp} (a : Mv h H H1) (b : Mv h H1 H2) : Mv h H H2 := fun q o hq e n => b q o hq (a q o hq e n) n
theorem nt_lst {xs : List V} : NT (.lst xs) := fun _ z => by cases z
theorem nt_tup {xs : List V} : NT (.tup xs) := fun _ z => by cases z
theorem nt_ins {a b : Addr} {fs : List (Str × V)} : NT (.ins a b fs) := fun _ z => by cases z
theorem nt_dK {kvs : List (Key × V)} : NT (.dK kvs) := fun _ z => by cases z
/-! ### things of any sort, told as data -/
inductive Td where
  | int (i : Int) | bl (b : Bool) | non | str (s : Str) | tup (ds : List Td) | oth
mutual
/-- v tells d; what may change (the list at h) is none of it -/
inductive Is (h : Addr) (H : Hp) : V → Td → Prop
  | int (i : Int) : Is h H (.int i) (.int i)
  | bl (b : Bool) : Is h H (.bl b) (.bl b)
  | non : Is h H .non .non
  | str (s : Str) : Is h H (.str s) (.str s)
  | tup {a : Addr} {xs : List V} {ds : List Td} : H a = some (.tup xs) → IsL h H xs ds → Is h H (.ref a) (.tup ds)
  | lst {a : Addr} {xs : List V} : H a = some (.lst xs) → a ≠ h → Is h H (.ref a) .oth
  | dK {a : Addr} {kvs : List (Key × V)} : H a = some (.dK kvs) → Is h H (.ref a) .oth
inductive IsL (h : Addr) (H : Hp) : List V → List Td → Prop
  | nil : IsL h H [] []
  | cons {v : V} {d : Td} {vs : List V} {ds : List Td} : Is h H v d → IsL h H vs ds → IsL h H (v :: vs) (d :: ds)
end
section
variable {h : Addr} {H H' : Hp}
theorem Is.mv {v : V} {d : Td} (t : Is h H v d) (k : Mv h H H') (hh : ∃ ys, H h = some (.lst ys)) : Is h H' v d := by
  obtain ⟨ys, hh⟩ := hh
  refine Is.rec (motive_1 := fun v d _ => Is h H' v d) (motive_2 := fun vs ds _ => IsL h H' vs ds) (fun i => .int i) (fun b => .bl b) .non (fun s => .str s) (fun e _ ih => .tup (k _ _ (ne_of e hh (by intro z; cases z)) e nt_tup) ih)
    (fun e n => .lst (k _ _ n e nt_lst) n) (fun e => .dK (k _ _ (ne_of e hh (by intro z; cases z)) e nt_dK)) .nil (fun _ _ a b => .cons a b) t
theorem IsL.mv {vs : List V} {ds : List Td} (t : IsL h H vs ds) (k : Mv h H H') (hh : ∃ ys, H h = some (.lst ys)) : IsL h H' vs ds := by
  obtain ⟨ys, hh⟩ := hh
  refine IsL.rec (motive_1 := fun v d _ => Is h H' v d) (motive_2 := fun vs ds _ => IsL h H' vs ds) (fun i => .int i) (fun b => .bl b) .non (fun s => .str s) (fun e _ ih => .tup (k _ _ (ne_of e hh (by intro z; cases z)) e nt_tup) ih)
    (fun e n => .lst (k _ _ n e nt_lst) n) (fun e => .dK (k _ _ (ne_of e hh (by intro z; cases z)) e nt_dK)) .nil (fun _ _ a b => .cons a b) t
theorem Is.same {v : V} {d : Td} (t : Is h H v d) (s : Same H H') : Is h H' v d := by
  refine Is.rec (motive_1 := fun v d _ => Is h H' v d) (motive_2 := fun vs ds _ => IsL h H' vs ds) (fun i => .int i) (fun b => .bl b) .non (fun s => .str s) (fun e _ ih => .tup (s _ _ e) ih)
    (fun e n => .lst (s _ _ e) n) (fun e => .dK (s _ _ e)) .nil (fun _ _ a b => .cons a b) t
theorem IsL.same {v : List V} {d : List Td} (t : IsL h H v d) (s : Same H H') : IsL h H' v d := by
  refine IsL.rec (motive_1 := fun v d _ => Is h H' v d) (motive_2 := fun vs ds _ => IsL h H' vs ds) (fun i => .int i) (fun b => .bl b) .non (fun s => .str s) (fun e _ ih => .tup (s _ _ e) ih)
    (fun e n => .lst (s _ _ e) n) (fun e => .dK (s _ _ e)) .nil (fun _ _ a b => .cons a b) t
theorem IsL.len : ∀ {vs : List V} {ds : List Td}, IsL h H vs ds → vs.length = ds.length
  | _, _, .nil => rfl
  | _, _, .cons _ t => by rw [List.length_cons, List.length_cons, t.len]
theorem IsL.get : ∀ {vs : List V} {ds : List Td}, IsL h H vs ds → ∀ {i : Nat} {v : V}, vs[i]? = some v → ∃ d, ds[i]? = some d ∧ Is h H v d
  | _, _, .cons a _, 0, _, e => by
    cases e
    exact ⟨_, rfl, a⟩
  | _, _, .cons _ t, i + 1, _, e => by
    obtain ⟨d, e1, e2⟩ := t.get (i := i) e
    exact ⟨d, e1, e2⟩
theorem IsL.append : ∀ {vs us : List V} {ds es : List Td}, IsL h H vs ds → IsL h H us es → IsL h H (vs ++ us) (ds ++ es)
  | _, _, _, _, .nil, t => t
  | _, _, _, _, .cons a r, t => .cons a (r.append t)
theorem IsL.three {x y z : V} {ds : List Td} (t : IsL h H [x, y, z] ds) : ∃ a b c, ds = [a, b, c] ∧ Is h H x a ∧ Is h H y b ∧ Is h H z c := by
  cases t with
  | cons a t => cases t with
    | cons b t => cases t with
      | cons c t => cases t with
        | nil => exact ⟨_, _, _, rfl, a, b, c⟩
theorem IsL.ints : ∀ {ns : List Int}, IsL h H (ns.map V.int) (ns.map Td.int)
  | [] => .nil
  | n :: ns => .cons (.int n) IsL.ints
end
def isI : Td → Bool
  | .int _ => true
  | _ => false
def isBl : Td → Bool
  | .bl _ => true
  | _ => false
def isT : Td → Bool
  | .tup _ => true
  | _ => false
/-- an integer from lo to hi -/
def inI (lo hi : Int) : Td → Bool
  | .int i => decide (lo ≤ i) && decide (i ≤ hi)
  | _ => false
def tupN (n : Int) : Td → Bool
  | .tup ds => decide ((ds.length : Int) = n)
  | _ => false
section
variable {P : Program} {w : World} {K : PySem.W.Frag} {mg : Str → Option Value} {base : Heap} {A : Adr}
theorem kitQ {a b : String} {r r' : Bool} (h : kitB a b = some r) (e : r' = r) : PySem.W.kitOne K (.type a) (.type b) = some r' := by
  rw [e]
  exact kit_ty h
theorem is_ty (T : Top K mg A) {h : Addr} {H : Hp} {x : V} {d : Td} (t : Is h H x d) : ∃ t, TyX K H x t ∧ PySem.W.kitOne K t (.type "int") = some (isI d || isBl d) ∧ PySem.W.kitOne K t (.type "bool") = some (isBl d) ∧ PySem.W.kitOne K t (.type "tuple") = some (isT d) := by
  cases t with
  | non => exact ⟨_, .base .non, kitQ (a := "NoneType") (b := "int") (r := false) (by decide +kernel) rfl, kitQ (a := "NoneType") (b := "bool") (r := false) (by decide +kernel) rfl, kitQ (a := "NoneType") (b := "tuple") (r := false) (by decide +kernel) rfl⟩
  | bl b => exact ⟨_, .base (.bl b), kitQ (a := "bool") (b := "int") (r := true) (by decide +kernel) rfl, kitQ (a := "bool") (b := "bool") (r := true) (by decide +kernel) rfl, kitQ (a := "bool") (b := "tuple") (r := false) (by decide +kernel) rfl⟩
  | int i => exact ⟨_, .base (.int i), kitQ (a := "int") (b := "int") (r := true) (by decide +kernel) rfl, kitQ (a := "int") (b := "bool") (r := false) (by decide +kernel) rfl, kitQ (a := "int") (b := "tuple") (r := false) (by decide +kernel) rfl⟩
  | str s => exact ⟨_, .base (.str s), kitQ (a := "str") (b := "int") (r := false) (by decide +kernel) rfl, kitQ (a := "str") (b := "bool") (r := false) (by decide +kernel) rfl, kitQ (a := "str") (b := "tuple") (r := false) (by decide +kernel) rfl⟩
  | tup e l => exact ⟨_, .base (.tup e), kitQ (a := "tuple") (b := "int") (r := false) (by decide +kernel) rfl, kitQ (a := "tuple") (b := "bool") (r := false) (by decide +kernel) rfl, kitQ (a := "tuple") (b := "tuple") (r := true) (by decide +kernel) rfl⟩
  | lst e n => exact ⟨_, .base (.lst e), kitQ (a := "list") (b := "int") (r := false) (by decide +kernel) rfl, kitQ (a := "list") (b := "bool") (r := false) (by decide +kernel) rfl, kitQ (a := "list") (b := "tuple") (r := false) (by decide +kernel) rfl⟩
  | dK e => exact ⟨_, .base (.dK e), kitQ (a := "dict") (b := "int") (r := false) (by decide +kernel) rfl, kitQ (a := "dict") (b := "bool") (r := false) (by decide +kernel) rfl, kitQ (a := "dict") (b := "tuple") (r := false) (by decide +kernel) rfl⟩
theorem isT_of {h : Addr} {H : Hp} {x : V} {d : Td} (t : Is h H x d) (c : isT d = true) : ∃ a xs ds, x = .ref a ∧ d = .tup ds ∧ H a = some (.tup xs) ∧ IsL h H xs ds := by
  cases t with
  | tup e l => exact ⟨_, _, _, rfl, rfl, e, l⟩
  | _ => cases c
/-! ### what counts as an integer -/
def spIsInteger : Sp := fun vs H Q _ => ∃ x d h, vs = [x] ∧ Is h H x d ∧ Q (.bl (isI d)) H
theorem ok_is_integer (T : Top K mg A) : FnOk P w K mg base CX0 1 A.a_is_integer A.d_is_integer P_is_integer spIsInteger := by
  refine T.F_is_integer.ok sc_is_integer (fun vs H Q E h => ?_) (fun cdv A' outer s H vs Q E hr h => ?_)
  · obtain ⟨x, d, h, rfl, _⟩ := h
    rfl
  · obtain ⟨x, d, h, rfl, ht, k⟩ := h
    obtain ⟨t, ty, e1, e2, _⟩ := is_ty T ht
    refine ⟨_, (pss_one (ps_ret (pe_and (pe_callB call_isi (by rfl) T.z_isinstance (by decide +kernel) (pa_cons (pv 0) (pa_cons (pe_bltn (v := .ty "int") (by rfl) T.z_int (by decide +kernel) rfl) pa_nil))) (pe_one (pe_not (pe_callB call_isi (by rfl) T.z_isinstance (by decide +kernel) (pa_cons (pv 0) (pa_cons (pe_bltn (v := .ty "bool") (by rfl) T.z_bool (by decide +kernel) rfl) pa_nil)))))))), ?_⟩
    refine ⟨_, rfl, _, _, _, _, _, rfl, .ty "int", ty, e1, (isI d || isBl d), rfl, ?_⟩
    cases c : (isI d || isBl d) with
    | false =>
      refine iteF ?_
      have q : isI d = false := by
        cases d <;> first | rfl | cases c
      rw [q] at k
      exact k
    | true =>
      refine iteT ?_
      refine ⟨_, rfl, _, _, _, _, _, rfl, .ty "bool", ty, e2, _, rfl, ?_⟩
      have q : isI d = !isBl d := by
        cases d <;> first | rfl | cases c
      rw [q] at k
      exact k
theorem is_int {h : Addr} {H : Hp} {x : V} {d : Td} (t : Is h H x d) (c : isI d = true) : ∃ i, x = .int i ∧ d = .int i := by
  cases t with
  | int i => exact ⟨i, rfl, rfl⟩
  | _ => cases c
theorem inI_no {lo hi : Int} {d : Td} (c : isI d = false) : inI lo hi d = false := by
  cases d with
  | int i => cases c
  | _ => rfl
def spIIF : Sp := fun vs H Q _ => ∃ (lo hi : Int) (x : V) (d : Td) (h : Addr), vs = [.int lo, .int hi, x] ∧ Is h H x d ∧ Q (.bl (inI lo hi d)) H
theorem ok_is_integer_from (T : Top K mg A) : FnOk P w K mg base CX0 2 A.a_is_integer_from A.d_is_integer_from P_is_integer_from spIIF := by
  refine T.F_is_integer_from.ok sc_is_integer_from (fun vs H Q E h => ?_) (fun cdv A' outer s H vs Q E hr h => ?_)
  · obtain ⟨lo, hi, x, d, h, rfl, _⟩ := h
    rfl
  · obtain ⟨lo, hi, x, d, h, rfl, ht, k⟩ := h
    refine ⟨_, (pss_one (ps_ret (pe_and (pe_call (ok_is_integer T) (hr.mono (by decide)) (by rfl) T.g_is_integer T.F_is_integer.kp T.b_is_integer .nil pass0 (pa_cons (pv 2) pa_nil)) (pe_one (pe_chain op_le op_le (pv 0) (pv 2) (pv 1)))))), ?_⟩
    refine ⟨_, rfl, x, d, h, rfl, ht, _, rfl, ?_⟩
    cases c : isI d with
    | true =>
      obtain ⟨i, rfl, rfl⟩ := is_int ht c
      refine iteT ?_
      refine ⟨_, rfl, _, rfl, _, _, rfl, rfl, _, rfl, ?_⟩
      by_cases c : lo ≤ i
      · simp only [inI, decide_eq_true c, Bool.true_and] at k
        rw [decide_eq_true c]
        refine iteT ⟨_, rfl, _, _, rfl, rfl, k⟩
      · simp only [inI, decide_eq_false c, Bool.false_and] at k
        rw [decide_eq_false c]
        exact iteF k
    | false =>
      rw [inI_no c] at k
      exact iteF k
def spINB : Sp := fun vs H Q _ => ∃ (n : Int) (x : V) (d : Td) (h : Addr), vs = [.int n, x] ∧ Is h H x d ∧ Q (.bl (inI 0 (n - 1) d)) H
theorem ok_is_number_below (T : Top K mg A) : FnOk P w K mg base CX0 3 A.a_is_number_below A.d_is_number_below P_is_number_below spINB := by
  refine T.F_is_number_below.ok sc_is_number_below (fun vs H Q E h => ?_) (fun cdv A' outer s H vs Q E hr h => ?_)
  · obtain ⟨n, x, d, h, rfl, _⟩ := h
    rfl
  · obtain ⟨n, x, d, h, rfl, ht, k⟩ := h
    refine ⟨_, (pss_one (ps_ret (pe_call (ok_is_integer_from T) (hr.mono (by decide)) (by rfl) T.g_is_integer_from T.F_is_integer_from.kp T.b_is_integer_from .nil pass0 (pa_cons pe_int (pa_cons (pe_op op_sub (pv 0) pe_int) (pa_cons (pv 1) pa_nil)))))), ?_⟩
    exact ⟨_, rfl, _, _, rfl, rfl, _, rfl, _, _, _, _, _, rfl, ht, k⟩
theorem tupN_no {n : Int} {d : Td} (c : isT d = false) : tupN n d = false := by
  cases d with
  | tup i => cases c
  | _ => rfl
def spITO : Sp := fun vs H Q _ => ∃ (n : Int) (x : V) (d : Td) (h : Addr), vs = [.int n, x] ∧ Is h H x d ∧ Q (.bl (tupN n d)) H
theorem ok_is_tuple_of (T : Top K mg A) : FnOk P w K mg base CX0 1 A.a_is_tuple_of A.d_is_tuple_of P_is_tuple_of spITO := by
  refine T.F_is_tuple_of.ok sc_is_tuple_of (fun vs H Q E h => ?_) (fun cdv A' outer s H vs Q E hr h => ?_)
  · obtain ⟨n, x, d, h, rfl, _⟩ := h
    rfl
  · obtain ⟨n, x, d, h, rfl, ht, k⟩ := h
    obtain ⟨t, ty, _, _, e3⟩ := is_ty T ht
    refine ⟨_, (pss_one (ps_ret (pe_and (pe_callB call_isi (by rfl) T.z_isinstance (by decide +kernel) (pa_cons (pv 1) (pa_cons (pe_bltn (v := .ty "tuple") (by rfl) T.z_tuple (by decide +kernel) rfl) pa_nil))) (pe_one (pe_cmpR op_eq (pe_callB call_len_seq (by rfl) T.z_len (by decide +kernel) (pa_cons (pv 1) pa_nil)) (pv 0) (nomark _)))))), ?_⟩
    refine ⟨_, rfl, _, _, _, _, _, rfl, .ty "tuple", ty, e3, _, rfl, ?_⟩
    cases c : isT d with
    | false =>
      rw [tupN_no c] at k
      exact iteF k
    | true =>
      obtain ⟨a, xs, ds, rfl, rfl, ha, hl⟩ := isT_of ht c
      refine iteT ?_
      refine ⟨_, rfl, _, _, rfl, .inr (SqT.of ha), _, rfl, rfl, ?_⟩
      rw [dec_int, hl.len]
      exact k
end

/-! ### what many laws want -/
/-- one by one -/
inductive All2 {α β : Type} (R : α → β → Prop) : List α → List β → Prop where
  | nil : All2 R [] []
  | cons {a : α} {b : β} {as : List α} {bs : List β} : R a b → All2 R as bs → All2 R (a :: as) (b :: bs)
section
variable {α β : Type} {R R' : α → β → Prop}
theorem All2.imp (f : ∀ a b, R a b → R' a b) : ∀ {as : List α} {bs : List β}, All2 R as bs → All2 R' as bs
  | _, _, .nil => .nil
  | _, _, .cons h t => .cons (f _ _ h) (t.imp f)
theorem All2.snoc : ∀ {as : List α} {bs : List β} {a : α} {b : β}, All2 R as bs → R a b → All2 R (as ++ [a]) (bs ++ [b])
  | _, _, _, _, .nil, h => .cons h .nil
  | _, _, _, _, .cons h t, h' => .cons h (t.snoc h')
theorem All2.len : ∀ {as : List α} {bs : List β}, All2 R as bs → as.length = bs.length
  | _, _, .nil => rfl
  | _, _, .cons _ t => by rw [List.length_cons, List.length_cons, t.len]
theorem All2.get : ∀ {as : List α} {bs : List β}, All2 R as bs → ∀ {i : Nat} {b : β}, bs[i]? = some b → ∃ a, as[i]? = some a ∧ R a b
  | _, _, .cons h _, 0, _, e => by
    cases e
    exact ⟨_, rfl, h⟩
  | _, _, .cons _ t, i + 1, _, e => t.get (i := i) e
theorem All2.getL : ∀ {as : List α} {bs : List β}, All2 R as bs → ∀ {i : Nat} {a : α}, as[i]? = some a → ∃ b, bs[i]? = some b ∧ R a b
  | _, _, .cons h _, 0, _, e => by
    cases e
    exact ⟨_, rfl, h⟩
  | _, _, .cons _ t, i + 1, _, e => t.getL (i := i) e
theorem All2.take : ∀ {as : List α} {bs : List β}, All2 R as bs → ∀ n : Nat, All2 R (as.take n) (bs.take n)
  | _, _, _, 0 => .nil
  | _, _, .nil, _ + 1 => .nil
  | _, _, .cons h t, n + 1 => .cons h (t.take n)
theorem All2.drop : ∀ {as : List α} {bs : List β}, All2 R as bs → ∀ n : Nat, All2 R (as.drop n) (bs.drop n)
  | _, _, h, 0 => h
  | _, _, .nil, _ + 1 => .nil
  | _, _, .cons _ t, n + 1 => t.drop n
theorem All2.mem : ∀ {as : List α} {bs : List β}, All2 R as bs → ∀ {b : β}, b ∈ bs → ∃ a ∈ as, R a b
  | _, _, .cons h t, b, m => by
    rcases List.mem_cons.mp m with e | m
    · subst e
      exact ⟨_, List.mem_cons_self, h⟩
    · obtain ⟨a, h1, h2⟩ := t.mem m
      exact ⟨a, List.mem_cons_of_mem _ h1, h2⟩
theorem All2.append : ∀ {as : List α} {bs : List β} {as' : List α} {bs' : List β}, All2 R as bs → All2 R as' bs' → All2 R (as ++ as') (bs ++ bs')
  | _, _, _, _, .nil, h => h
  | _, _, _, _, .cons h t, h' => .cons h (t.append h')
end
/-! ### comprehensions whose items are known -/
def LP (H : Hp) (D : Addr) (vals : List V) (i : Nat) (H' : Hp) : Prop := Same H H' ∧ H' D = some (.lst (vals.take i))
theorem LP.start {H : Hp} {D : Addr} {vals : List V} (nD : H D = none) : LP H D vals 0 (upd H D (.lst [])) := ⟨same_upd nD, upd_same⟩
theorem lcPut {H0 H1 H4 : Hp} {D : Addr} {vals : List V} {i : Nat} {y : V} (nD : H0 D = none) (p : LP H0 D vals i H1) (s : Same H1 H4) (hy : vals[i]? = some y) (few : vals.length ≤ 100000) :
    ∃ acc, H4 D = some (.lst acc) ∧ acc.length < sizeLine ∧ LP H0 D vals (i + 1) (upd H4 D (.lst (acc ++ [y]))) := by
  refine ⟨_, s _ _ p.2, ?_, same_to (p.1.trans s) nD, ?_⟩
  · rw [List.length_take]
    exact Nat.lt_of_le_of_lt (Nat.le_trans (Nat.min_le_right _ _) few) (by decide)
  · rw [upd_same, List.take_add_one, hy]
    rfl
theorem map_at {α β : Type} {f : α → β} {l : List α} {i : Nat} {x : α} (h : l[i]? = some x) : (l.map f)[i]? = some (f x) := by
  rw [List.getElem?_map, h]
  rfl
theorem take_all {α : Type} {l : List α} {n : Nat} (h : n = l.length) : l.take n = l := List.take_of_length_le (by omega)
/-- a new object -/
theorem newS {H : Hp} {o : HO} {Q : VK} (k : ∀ (H' : Hp) (p : Addr), H p = none → Same H H' → H' p = some o → Q (.ref p) H') : ∀ p, H p = none → Q (.ref p) (upd H p o) := fun p n => k _ p n (same_upd n) upd_same
theorem lay_all : ∀ {ds : List PyData}, (∀ x ∈ ds, PyData.canLay0 x = true) → PyData.canLayAll0 ds = true
  | [], _ => rfl
  | x :: ds, h => by
    show (PyData.canLay0 x && PyData.canLayAll0 ds) = true
    rw [h x List.mem_cons_self, lay_all fun y hy => h y (List.mem_cons_of_mem _ hy)]
    rfl
theorem dep_all {n : Nat} : ∀ {ds : List PyData}, (∀ x ∈ ds, PyData.depth x ≤ n) → PyData.depthAll ds ≤ n
  | [], _ => Nat.zero_le _
  | x :: ds, h => by
    show max (PyData.depth x) (PyData.depthAll ds) ≤ n
    exact Nat.max_le.mpr ⟨h x List.mem_cons_self, dep_all fun y hy => h y (List.mem_cons_of_mem _ hy)⟩
/-- data that may be laid, of a depth -/
structure Lay (d : PyData) (n : Nat) : Prop where
  lay : d.canLay0 = true
  dep : d.depth ≤ n
theorem Lay.sh {d : PyData} {n : Nat} (h : Lay d n) (hn : n ≤ 64) : SeqAt.shaped d = true := by
  unfold SeqAt.shaped
  rw [h.lay, decide_eq_true (Nat.le_trans h.dep hn)]
  rfl
theorem Lay.int (i : Int) : Lay (.int i) 0 := ⟨rfl, Nat.le_refl _⟩
theorem Lay.tup {ds : List PyData} {n : Nat} (h : ∀ x ∈ ds, Lay x n) : Lay (.tuple ds) (n + 1) := ⟨lay_all fun x hx => (h x hx).lay, Nat.succ_le_succ (dep_all fun x hx => (h x hx).dep)⟩
theorem Lay.lst {ds : List PyData} {n : Nat} (h : ∀ x ∈ ds, Lay x n) : Lay (.list ds) (n + 1) := ⟨lay_all fun x hx => (h x hx).lay, Nat.succ_le_succ (dep_all fun x hx => (h x hx).dep)⟩
theorem Lay.mono {d : PyData} {n m : Nat} (h : Lay d n) (hm : n ≤ m) : Lay d m := ⟨h.lay, Nat.le_trans h.dep hm⟩
theorem dpAll_of {α : Type} {K : PySem.W.Frag} {H : Hp} {R : α → V → Prop} {f : α → PyData} (g : ∀ a v, R a v → Dp K H v (f a)) : ∀ {as : List α} {vs : List V}, All2 R as vs → DpAll K H vs (as.map f)
  | _, _, .nil => .nil
  | _, _, .cons h t => .cons (g _ _ h) (dpAll_of g t)
theorem eqv_int {i j : Int} : PyData.eqv (.int i) (.int j) = decide (i = j) := by
  show (i == j) = decide (i = j)
  by_cases h : i = j <;> simp [h]
theorem eqvAll_map {α : Type} [DecidableEq α] {f : α → PyData} (h : ∀ a b, PyData.eqv (f a) (f b) = decide (a = b)) : ∀ as bs : List α, PyData.eqvAll (as.map f) (bs.map f) = decide (as = bs)
  | [], [] => rfl
  | [], _ :: _ => rfl
  | _ :: _, [] => rfl
  | a :: as, b :: bs => by
    show (PyData.eqv (f a) (f b) && PyData.eqvAll (as.map f) (bs.map f)) = _
    rw [h, eqvAll_map h as bs]
    by_cases h1 : a = b <;> by_cases h2 : as = bs <;> simp [h1, h2]
def intsD (ns : List Int) : List PyData := ns.map PyData.int
theorem eqv_ints (ns ms : List Int) : PyData.eqv (.list (intsD ns)) (.list (intsD ms)) = decide (ns = ms) := eqvAll_map (fun _ _ => eqv_int) ns ms
theorem eqv_intsT (ns ms : List Int) : PyData.eqv (.tuple (intsD ns)) (.tuple (intsD ms)) = decide (ns = ms) := eqvAll_map (fun _ _ => eqv_int) ns ms
theorem dp_ints {K : PySem.W.Frag} {H : Hp} : ∀ {ns : List Int}, DpAll K H (ns.map V.int) (intsD ns)
  | [] => .nil
  | n :: _ => .cons (.int n) dp_ints
theorem lay_intsL (ns : List Int) : Lay (.list (intsD ns)) 1 := Lay.lst fun x hx => by
  obtain ⟨i, _, rfl⟩ := List.mem_map.mp hx
  exact Lay.int i
theorem lay_intsT (ns : List Int) : Lay (.tuple (intsD ns)) 1 := Lay.tup fun x hx => by
  obtain ⟨i, _, rfl⟩ := List.mem_map.mp hx
  exact Lay.int i
def matD (m : List (List Int)) : PyData := .tuple (m.map fun r => .tuple (intsD r))
theorem eqv_mat (a b : List (List Int)) : PyData.eqv (matD a) (matD b) = decide (a = b) := eqvAll_map (f := fun r => .tuple (intsD r)) eqv_intsT a b
theorem lay_mat (a : List (List Int)) : Lay (matD a) 2 := Lay.tup fun x hx => by
  obtain ⟨r, _, rfl⟩ := List.mem_map.mp hx
  exact lay_intsT r
theorem ixN_at {n j : Nat} (h : j < n) : ixN n (j : Int) = some j := by
  unfold ixN
  rw [if_pos (by omega), if_pos (by omega), Int.toNat_natCast]
theorem flat_len {α : Type} {m : Nat} : ∀ {l : List (List α)}, (∀ r ∈ l, r.length ≤ m) → l.flatten.length ≤ l.length * m
  | [], _ => by simp
  | r :: l, h => by
    rw [List.flatten_cons, List.length_append, List.length_cons, Nat.add_mul, Nat.one_mul]
    have h1 := h r List.mem_cons_self
    have h2 := flat_len (l := l) fun x hx => h x (List.mem_cons_of_mem _ hx)
    omega
theorem take_flat {α : Type} {l : List (List α)} {i : Nat} {r : List α} (h : l[i]? = some r) : (l.take (i + 1)).flatten = (l.take i).flatten ++ r := by
  rw [List.take_add_one, h, List.flatten_append]
  congr 1
  show [r].flatten = r
  rw [List.flatten_cons, List.flatten_nil, List.append_nil]
theorem take_flat_le {α : Type} {l : List (List α)} (n : Nat) : ((l.take n).flatten).length ≤ l.flatten.length := by
  conv => rhs; rw [← List.take_append_drop n l, List.flatten_append, List.length_append]
  omega
theorem newH {H : Hp} {p : Addr} {o : HO} (n : H p = none) : ∃ H', upd H p o = H' ∧ Same H H' ∧ H' p = some o := ⟨_, rfl, same_upd n, upd_same⟩
theorem sl_at {H : Hp} {K : PySem.W.Frag} {b : Addr} {us : List V} {lo hi : Option Int} {Q : VK} (e : H b = some (.tup us)) (q : ∀ H' p, Same H H' → H' p = some (.tup (cutV us lo hi)) → Q (.ref p) H') : rSlA K (.ref b) lo hi H Q := by
  refine ⟨b, us, rfl, SqT.of e, fun ⟨z1, z2⟩ => q _ _ (fun _ _ z => z) ?_, fun _ p np => q _ _ (same_upd np) upd_same⟩
  rw [e]
  unfold cutV
  rw [z1, z2, List.drop_zero, Nat.sub_zero, List.take_length]
/-! ### matchings: (line, output, place) -/
theorem cut_one {xs : List V} : cutV xs (some (1 : Int)) none = xs.drop 1 := by
  cases xs with
  | nil => rfl
  | cons y r =>
    show cutV (y :: r) (some ((1 : Nat) : Int)) none = _
    unfold cutV
    rw [HT.sIx_none, HT.sIx_nat, Nat.min_eq_left (by rw [List.length_cons]; omega)]
    exact List.take_of_length_le (by rw [List.length_drop]; exact Nat.le_refl _)
theorem cat_at {H : Hp} {K : PySem.W.Frag} {a b : Addr} {xs ys : List V} {Q : VK} (e1 : H a = some (.tup xs)) (e2 : H b = some (.tup ys)) (l : xs.length + ys.length ≤ 1000) (q : ∀ H' p, Same H H' → H' p = some (.tup (xs ++ ys)) → Q (.ref p) H') : rCatA K (.ref a) (.ref b) H Q := by
  refine ⟨a, b, xs, ys, rfl, rfl, SqT.of e1, SqT.of e2, Nat.le_trans l (by decide), fun z => ?_, fun _ z => ?_, fun _ _ p np => q _ p (same_upd np) upd_same⟩
  · subst z
    exact q H b (fun _ _ e => e) e2
  · subst z
    exact q H a (fun _ _ e => e) (by rw [List.append_nil]; exact e1)
theorem cut_to {xs : List V} {n : Nat} (h : n ≤ xs.length) : cutV xs none (some (n : Int)) = xs.take n := by
  unfold cutV
  rw [HT.sIx_none, HT.sIx_nat, Nat.min_eq_left h]
  rfl
theorem cut_from {xs : List V} {n : Nat} (h : n ≤ xs.length) : cutV xs (some (n : Int)) none = xs.drop n := by
  unfold cutV
  rw [HT.sIx_none, HT.sIx_nat, Nat.min_eq_left h]
  exact List.take_of_length_le (by rw [List.length_drop]; exact Nat.le_refl _)

section
variable {P : Program} {w : World} {K : PySem.W.Frag} {mg : Str → Option Value} {base : Heap} {A : Adr}
/-! ### the deck: a list of five, [the script's numbers, place, rest, turns, seed] -/
def deckO (g : Addr) (i m t s : Int) : HO := .lst [.ref g, .int i, .int m, .int t, .int s]
structure DeckAt (H : Hp) (h g : Addr) : Prop where
  cells : ∃ ns : List Int, H g = some (.lst (ns.map V.int))
  five : ∃ i m t s, H h = some (deckO g i m t s) ∧ 0 ≤ i
  ne : h ≠ g
def But (h : Addr) (H H' : Hp) : Prop := ∀ b, b ≠ h → H' b = H b
theorem But.upd {h : Addr} {H : Hp} {o : HO} : But h H (upd H h o) := fun _ hb => upd_ne hb
theorem But.trans {h : Addr} {H H1 H2 : Hp} (a : But h H H1) (b : But h H1 H2) : But h H H2 := fun c hc => (b c hc).trans (a c hc)
theorem But.refl (h : Addr) (H : Hp) : But h H H := fun _ _ => rfl
theorem But.mv {h : Addr} {H H' : Hp} (b : But h H H') : Mv h H H' := fun q o hq e _ => (b q hq).trans e
theorem deck_upd {H : Hp} {h g : Addr} (a : DeckAt H h g) {i m t s : Int} (hi : 0 ≤ i) : DeckAt (upd H h (deckO g i m t s)) h g :=
  ⟨by
    obtain ⟨ns, e⟩ := a.cells
    exact ⟨ns, by rw [upd_ne a.ne.symm]; exact e⟩, ⟨i, m, t, s, upd_same, hi⟩, a.ne⟩
theorem DeckAt.same {H H' : Hp} {h g : Addr} (a : DeckAt H h g) (s : Same H H') : DeckAt H' h g :=
  ⟨let ⟨ns, e⟩ := a.cells; ⟨ns, s _ _ e⟩, let ⟨i, m, t, sd, e, hi⟩ := a.five; ⟨i, m, t, sd, s _ _ e, hi⟩, a.ne⟩
theorem DeckAt.lst {H : Hp} {h g : Addr} (a : DeckAt H h g) : ∃ ys, H h = some (.lst ys) := let ⟨_, _, _, _, e, _⟩ := a.five; ⟨_, e⟩
def spMixed : Sp := fun vs H Q _ => ∃ c t : Int, vs = [.int c, .int t] ∧ ∀ z : Int, Q (.int z) H
theorem ok_law_mixed (T : Top K mg A) : FnOk P w K mg base CX0 1 A.a_law_mixed A.d_law_mixed P_law_mixed spMixed := by
  refine T.F_law_mixed.ok sc_law_mixed (fun vs H Q E h => ?_) (fun cdv A' outer s H vs Q E hr h => ?_)
  · obtain ⟨c, t, rfl, _⟩ := h
    rfl
  · obtain ⟨c, t, rfl, k⟩ := h
    refine ⟨_, (pss_cons (ps_set (i := 2) sc_law_mixed.nd rfl (.inl rfl) (pe_op op_mod (pe_op op_mul (pe_callTy call_int1 (by rfl) T.z_int (by decide +kernel) (pa_cons (pe_op op_add (pe_op op_add (pv 0) (pe_op op_mul pe_int (pv 1))) pe_int) pa_nil)) pe_int) pe_int))
    (pss_cons (ps_set (i := 2) sc_law_mixed.nd rfl (.inl rfl) (pe_op op_mod (pe_callTy call_int1 (by rfl) T.z_int (by decide +kernel) (pa_cons (pe_op op_mul (pv 2) (pe_op op_add (pe_op op_fdiv (pv 2) pe_int) pe_int)) pa_nil)) pe_int))
    (pss_cons (ps_set (i := 2) sc_law_mixed.nd rfl (.inl rfl) (pe_op op_mod (pe_callTy call_int1 (by rfl) T.z_int (by decide +kernel) (pa_cons (pe_op op_mul (pv 2) (pe_op op_add (pe_op op_add (pe_op op_fdiv (pv 2) pe_int) pe_int) (pv 1))) pa_nil)) pe_int))
    (pss_one (ps_ret (pe_op op_fdiv (pv 2) pe_int)))))), ?_⟩
    refine ⟨_, rfl, _, rfl, _, _, rfl, rfl, .inl ⟨by decide, by decide⟩, _, _, rfl, rfl, _, _, rfl, rfl, .inl ⟨_, rfl, _, _, rfl, rfl, .inr ⟨by decide, by decide⟩, _, _, rfl, rfl, (by show (0 : Int) < 2147483647; decide), ?_⟩⟩
    generalize hz : (c + 7919 * t + 1) * 48271 = z0
    have m0 := Int.emod_nonneg z0 (show (2147483647 : Int) ≠ 0 by decide)
    have m1 := Int.emod_lt_of_pos z0 (show (0 : Int) < 2147483647 by decide)
    generalize z0 % 2147483647 = x1 at m0 m1 ⊢
    refine ⟨_, rfl, _, rfl, _, _, rfl, rfl, ⟨by decide, by decide⟩, _, _, rfl, rfl, _, _, rfl, rfl, .inl ⟨by omega, by omega⟩, .inl ⟨_, rfl, _, _, rfl, rfl, (by show (0 : Int) < 2147483647; decide), ?_⟩⟩
    have m2 := Int.emod_nonneg (x1 * (x1 / 1009 + 69621)) (show (2147483647 : Int) ≠ 0 by decide)
    have m3 := Int.emod_lt_of_pos (x1 * (x1 / 1009 + 69621)) (show (0 : Int) < 2147483647 by decide)
    generalize x1 * (x1 / 1009 + 69621) % 2147483647 = x2 at m2 m3 ⊢
    refine ⟨_, rfl, _, rfl, _, _, rfl, rfl, ⟨by decide, by decide⟩, _, _, rfl, rfl, _, rfl, _, _, rfl, rfl, _, _, rfl, rfl, .inl ⟨by omega, by omega⟩, .inl ⟨_, rfl, _, _, rfl, rfl, (by show (0 : Int) < 2147483399; decide), ?_⟩⟩
    exact ⟨_, rfl, _, _, rfl, rfl, ⟨by decide, by decide⟩, k _⟩
def spDraw : Sp := fun vs H Q _ => ∃ (h g : Addr) (n : Int), vs = [.ref h, .int n] ∧ DeckAt H h g ∧ 0 < n ∧ n < 1073741824 ∧ ∀ (H' : Hp) (d : Int), But h H H' → DeckAt H' h g → 0 ≤ d → d < n → Q (.int d) H'
theorem ok_law_draw (T : Top K mg A) : FnOk P w K mg base CX0 2 A.a_law_draw A.d_law_draw P_law_draw spDraw := by
  refine T.F_law_draw.ok sc_law_draw (fun vs H Q E h => ?_) (fun cdv A' outer s H vs Q E hr h => ?_)
  · obtain ⟨h, g, n, rfl, _⟩ := h
    rfl
  · obtain ⟨h, g, n, rfl, ha, hn, hn2, k⟩ := h
    obtain ⟨ns, eg⟩ := ha.cells
    obtain ⟨i, m, t, sd, eh, hi⟩ := ha.five
    have hne := ha.ne
    refine ⟨_, (pss_cons (ps_asg (pe_op op_add (pe_ix ix_list (pv 0) pe_int (fun _ _ => rfl)) pe_int) (pg_sub (pv 0) pe_int set_list))
    (Evl.pss_cut (ps_if (PW.pt (pw_and (pt_cmpR op_eq (pe_ix ix_list (pv 0) pe_int (fun _ _ => rfl)) pe_int (nomark _)) (pw_and1 (pt_cmpR op_lt (pe_ix ix_list (pv 0) pe_int (fun _ _ => rfl)) (pe_callB call_len_seq (by rfl) T.z_len (by decide +kernel) (pa_cons (pe_ix ix_list (pv 0) pe_int (fun _ _ => rfl)) pa_nil)) (nomark _))))) (pss_cons (ps_set (i := 2) sc_law_draw.nd rfl (.inl rfl) (pe_ix ix_list (pe_ix ix_list (pv 0) pe_int (fun _ _ => rfl)) (pe_ix ix_list (pv 0) pe_int (fun _ _ => rfl)) (fun _ _ => rfl)))
    (pss_cons (ps_asg (pe_op op_add (pe_ix ix_list (pv 0) pe_int (fun _ _ => rfl)) pe_int) (pg_sub (pv 0) pe_int set_list))
    (pss_cons (ps_if (pt_chain op_lt op_lt (pe_un un_neg (pe_op op_pow pe_int pe_int)) (pv 2) (pe_op op_pow pe_int pe_int)) (pss_one (ps_ret (pe_op op_mod (pe_callTy call_int1 (by rfl) T.z_int (by decide +kernel) (pa_cons (pe_call (ok_law_mixed T) (hr.mono (by decide)) (by rfl) T.g_law_mixed T.F_law_mixed.kp T.b_law_mixed .nil pass0 (pa_cons (pv 2) (pa_cons (pe_ix ix_list (pv 0) pe_int (fun _ _ => rfl)) pa_nil))) pa_nil)) (pv 1)))) pss_nil)
    (pss_one (ps_asg (pe_callB call_abs (by rfl) T.z_abs (by decide +kernel) (pa_cons (pv 2) pa_nil)) (pg_sub (pv 0) pe_int set_list)))))) pss_nil)
    (pss_cons (ps_if (pt_cmpR op_gt (pe_ix ix_list (pv 0) pe_int (fun _ _ => rfl)) pe_int (nomark _)) (pss_cons (ps_set (i := 3) sc_law_draw.nd rfl (.inl rfl) (pe_op op_mod (pe_callTy call_int1 (by rfl) T.z_int (by decide +kernel) (pa_cons (pe_ix ix_list (pv 0) pe_int (fun _ _ => rfl)) pa_nil)) (pv 1)))
    (pss_cons (ps_asg (pe_op op_fdiv (pe_ix ix_list (pv 0) pe_int (fun _ _ => rfl)) (pv 1)) (pg_sub (pv 0) pe_int set_list))
    (pss_one (ps_ret (pv 3))))) pss_nil)
    (pss_one (ps_ret (pe_op op_mod (pe_callTy call_int1 (by rfl) T.z_int (by decide +kernel) (pa_cons (pe_call (ok_law_mixed T) (hr.mono (by decide)) (by rfl) T.g_law_mixed T.F_law_mixed.kp T.b_law_mixed .nil pass0 (pa_cons (pe_ix ix_list (pv 0) pe_int (fun _ _ => rfl)) (pa_cons (pe_ix ix_list (pv 0) pe_int (fun _ _ => rfl)) pa_nil))) pa_nil)) (pv 1))))))), ?_⟩
    refine ⟨_, rfl, h, _, 3, _, rfl, rfl, SqL.of eh, atI_nat (j := 3) rfl, _, _, rfl, rfl, _, rfl, h, _, _, 3, rfl, rfl, eh, rfl, ?_⟩
    have eh1 : (upd H h (deckO g i m (t + 1) sd)) h = some (deckO g i m (t + 1) sd) := upd_same
    have h1 : DeckAt (upd H h (deckO g i m (t + 1) sd)) h g := deck_upd ha hi
    have eg1 : (upd H h (deckO g i m (t + 1) sd)) g = some (.lst (ns.map V.int)) := by rw [upd_ne hne.symm]; exact eg
    have b1 : But h H (upd H h (deckO g i m (t + 1) sd)) := But.upd
    refine ⟨fun σ' H' => ∃ y2, σ' = [some (.ref h), some (.int n), y2, none] ∧ But h H H' ∧ DeckAt H' h g, ?_, ?_⟩
    · have stay : ∃ y2, ([some (.ref h), some (.int n), none, none] : L2.St) = [some (.ref h), some (.int n), y2, none] ∧ But h H (upd H h (deckO g i m (t + 1) sd)) ∧ DeckAt (upd H h (deckO g i m (t + 1) sd)) h g := ⟨none, rfl, b1, h1⟩
      refine ⟨_, rfl, h, _, 2, _, rfl, rfl, SqL.of eh1, atI_nat (j := 2) rfl, rfl, _, rfl, ite2 (fun c1 => ?_) (fun _ => iteF stay)⟩
      refine ⟨_, rfl, h, _, 1, _, rfl, rfl, SqL.of eh1, atI_nat (j := 1) rfl, _, rfl, h, _, 0, _, rfl, rfl, SqL.of eh1, atI_nat (j := 0) rfl, g, _, rfl, .inl (SqL.of eg1), _, _, rfl, rfl, _, rfl, ite2 (fun c2 => ?_) (fun _ => stay)⟩
      have c3 : i < (ns.length : Int) := by
        have q := of_decide_eq_true c2
        rw [List.length_map] at q
        exact q
      have hj : i.toNat < ns.length := by omega
      have ej : (ns.map V.int)[i.toNat]? = some (.int ns[i.toNat]) := by
        rw [List.getElem?_map, List.getElem?_eq_getElem hj]
        rfl
      refine ⟨_, rfl, h, _, 0, _, rfl, rfl, SqL.of eh1, atI_nat (j := 0) rfl, _, rfl, h, _, 1, _, rfl, rfl, SqL.of eh1, atI_nat (j := 1) rfl, g, _, i, _, rfl, rfl, SqL.of eg1, at_of (by omega) ej, ?_⟩
      refine ⟨_, rfl, h, _, 1, _, rfl, rfl, SqL.of eh1, atI_nat (j := 1) rfl, i, 1, rfl, rfl, _, rfl, h, _, _, 1, rfl, rfl, eh1, rfl, ?_⟩
      have eh2 : (upd (upd H h (deckO g i m (t + 1) sd)) h (deckO g (i + 1) m (t + 1) sd)) h = some (deckO g (i + 1) m (t + 1) sd) := upd_same
      have h2 : DeckAt (upd (upd H h (deckO g i m (t + 1) sd)) h (deckO g (i + 1) m (t + 1) sd)) h g := deck_upd h1 (by omega)
      have b2 : But h H (upd (upd H h (deckO g i m (t + 1) sd)) h (deckO g (i + 1) m (t + 1) sd)) := b1.trans But.upd
      have last : ∃ y2, ([some (.ref h), some (.int n), some (.int ns[i.toNat]), none] : L2.St) = [some (.ref h), some (.int n), y2, none] ∧ But h H (upd (upd (upd H h (deckO g i m (t + 1) sd)) h (deckO g (i + 1) m (t + 1) sd)) h (deckO g (i + 1) (if ns[i.toNat] < 0 then -ns[i.toNat] else ns[i.toNat]) (t + 1) sd)) ∧ DeckAt (upd (upd (upd H h (deckO g i m (t + 1) sd)) h (deckO g (i + 1) m (t + 1) sd)) h (deckO g (i + 1) (if ns[i.toNat] < 0 then -ns[i.toNat] else ns[i.toNat]) (t + 1) sd)) h g := ⟨_, rfl, b2.trans But.upd, deck_upd h2 (by omega)⟩
      refine ⟨10, 18, rfl, rfl, ⟨by decide, by decide, by decide⟩, _, rfl, _, rfl, _, _, rfl, rfl, _, rfl, ite2 (fun _ => ?_) (fun _ => ?_)⟩
      · refine ⟨10, 18, rfl, rfl, ⟨by decide, by decide, by decide⟩, _, _, rfl, rfl, _, rfl, ite2 (fun _ => ?_) (fun _ => ?_)⟩
        · refine ⟨_, rfl, _, rfl, h, _, 3, _, rfl, rfl, SqL.of eh2, atI_nat (j := 3) rfl, _, _, rfl, fun z => .inl ⟨_, rfl, _, rfl, _, _, rfl, rfl, hn, ?_⟩⟩
          exact k _ _ b2 h2 (Int.emod_nonneg _ (by omega)) (Int.emod_lt_of_pos _ hn)
        · exact ⟨_, rfl, _, rfl, _, rfl, h, _, _, 2, rfl, rfl, eh2, rfl, last⟩
      · exact ⟨_, rfl, iteF ⟨_, rfl, _, rfl, _, rfl, h, _, _, 2, rfl, rfl, eh2, rfl, last⟩⟩
    · rintro σ' H1 ⟨y2, rfl, b1, h1⟩
      obtain ⟨i, m, t, sd, eh, hi⟩ := h1.five
      refine ⟨_, rfl, h, _, 2, _, rfl, rfl, SqL.of eh, atI_nat (j := 2) rfl, _, _, rfl, rfl, _, rfl, ite2 (fun c => ?_) (fun _ => ?_)⟩
      · refine ⟨_, rfl, h, _, 2, _, rfl, rfl, SqL.of eh, atI_nat (j := 2) rfl, .inl ⟨_, rfl, _, rfl, _, _, rfl, rfl, hn, ?_⟩⟩
        refine ⟨_, rfl, h, _, 2, _, rfl, rfl, SqL.of eh, atI_nat (j := 2) rfl, _, rfl, _, _, rfl, rfl, ⟨hn, hn2⟩, _, rfl, h, _, _, 2, rfl, rfl, eh, rfl, ?_⟩
        exact ⟨_, rfl, k _ _ (b1.trans But.upd) (deck_upd h1 hi) (Int.emod_nonneg _ (by omega)) (Int.emod_lt_of_pos _ hn)⟩
      · refine ⟨_, rfl, h, _, 4, _, rfl, rfl, SqL.of eh, atI_nat (j := 4) rfl, _, rfl, h, _, 3, _, rfl, rfl, SqL.of eh, atI_nat (j := 3) rfl, _, _, rfl, fun z => .inl ⟨_, rfl, _, rfl, _, _, rfl, rfl, hn, ?_⟩⟩
        exact k _ _ b1 h1 (Int.emod_nonneg _ (by omega)) (Int.emod_lt_of_pos _ hn)
def spDeck (K : PySem.W.Frag) : Sp := fun vs H Q _ => ∃ (a : Addr) (ns : List Int), vs = [.ref a] ∧ SqL K H a (ns.map V.int) ∧ ∀ (H' : Hp) (h g : Addr), Same H H' → H h = none → H g = none → DeckAt H' h g → Q (.ref h) H'
theorem ok_law_deck (T : Top K mg A) : FnOk P w K mg base CX0 1 A.a_law_deck A.d_law_deck P_law_deck (spDeck K) := by
  refine T.F_law_deck.ok sc_law_deck (fun vs H Q E h => ?_) (fun cdv A' outer s H vs Q E hr h => ?_)
  · obtain ⟨a, ns, rfl, _⟩ := h
    rfl
  · obtain ⟨a, ns, rfl, ha, k⟩ := h
    refine ⟨_, (pss_cons (ps_set (i := 1) sc_law_deck.nd rfl (.inl rfl) pe_int)
    (pss_cons (ps_for PassesOwn.never rfl (pi_list (pv 0)) (pg_name (i := 2) sc_law_deck.nd rfl (.inl rfl)) (pss_one (ps_set (i := 1) sc_law_deck.nd rfl (.inl rfl) (pe_op op_mod (pe_callTy call_int1 (by rfl) T.z_int (by decide +kernel) (pa_cons (pe_op op_add (pe_op op_mul (pv 1) pe_int) (pv 2)) pa_nil)) pe_int))))
    (pss_one (ps_ret (pe_lst (pa_cons (pe_callTy call_list_of (by rfl) T.z_list (by decide +kernel) (pa_cons (pv 0) pa_nil)) (pa_cons pe_int (pa_cons pe_int (pa_cons pe_int (pa_cons (pv 1) pa_nil)))))))))), ?_⟩
    refine ⟨_, rfl, a, rfl, ⟨_, ha⟩, for_list (K := K) (a := a) (xs := ns.map V.int) (fun i σ H' => ∃ (s : Int) (y2 : Option V), σ = [some (.ref a), some (.int s), y2] ∧ H' = H) ⟨1, _, rfl, rfl⟩ (fun i σ H' _ ⟨_, _, _, e⟩ => by rw [e]; exact ha) ?_ ?_⟩
    · rintro i x σ H' hx ⟨s, y2, rfl, rfl⟩
      rw [List.getElem?_map] at hx
      obtain ⟨n, hn, rfl⟩ := Option.map_eq_some_iff.mp hx
      refine ⟨_, rfl, _, _, rfl, rfl, .inr ⟨by decide, by decide⟩, _, rfl, _, _, rfl, rfl, .inl ⟨_, rfl, _, _, rfl, rfl, (by show (0 : Int) < 998244353; decide), ?_⟩⟩
      exact ⟨_, _, rfl, rfl⟩
    · rintro σ H' ⟨s, y2, rfl, rfl⟩
      refine ⟨_, rfl, a, _, rfl, .inl ha, fun g ng => ⟨_, rfl, by show 5 ≤ sizeLine; decide, fun h nh => ?_⟩⟩
      have hg : h ≠ g := fun e => by
        rw [e, upd_same] at nh
        cases nh
      have nh' := (same_upd ng (o := .lst (ns.map V.int))).free nh
      exact k _ h g (same_to (same_upd ng) nh') nh' ng ⟨⟨ns, by rw [upd_ne hg.symm]; exact upd_same⟩, ⟨0, 0, 0, s, upd_same, by decide⟩, hg⟩
end

/-! ### things judged -/
def itsOf : Td → List Td
  | .tup es => es
  | _ => []
def intOf : Td → Int
  | .int i => i
  | _ => 0
def lotL (b : Int) : Int → List Td → Bool
  | _, [] => true
  | last, d :: ds => inI (last + 1) (b - 1) d && lotL b (intOf d) ds
def lotB (b : Int) : Td → Bool
  | .tup ds => lotL b (-1) ds
  | _ => false
def outsB (b m : Int) (d : Td) : Bool := lotB b d && (decide (1 ≤ ((itsOf d).length : Int)) && decide (((itsOf d).length : Int) ≤ m))
def wordsB (m : Int) : Td → Bool
  | .tup ds => (decide (1 ≤ (ds.length : Int)) && decide ((ds.length : Int) ≤ m)) && ds.all (inI 0 255)
  | _ => false
def packB (b m : Int) : Td → Bool
  | .tup [s, k, o, w] => inI 0 99 s && (inI 0 7 k && (outsB b m o && wordsB 40 w))
  | _ => false
theorem lotB_no {b : Int} {d : Td} (c : isT d = false) : lotB b d = false := by
  cases d with
  | tup ds => cases c
  | _ => rfl
theorem wordsB_no {m : Int} {d : Td} (c : isT d = false) : wordsB m d = false := by
  cases d with
  | tup ds => cases c
  | _ => rfl
theorem inI_yes {lo hi : Int} {d : Td} (c : inI lo hi d = true) : ∃ i, d = .int i ∧ lo ≤ i ∧ i ≤ hi := by
  cases d with
  | int i =>
    unfold inI at c
    rw [Bool.and_eq_true] at c
    exact ⟨i, rfl, of_decide_eq_true c.1, of_decide_eq_true c.2⟩
  | _ => cases c
section
variable {P : Program} {w : World} {K : PySem.W.Frag} {mg : Str → Option Value} {base : Heap} {A : Adr}
def spLot : Sp := fun vs H Q _ => ∃ (n : Int) (x : V) (d : Td) (h : Addr), vs = [.int n, x] ∧ Is h H x d ∧ Q (.bl (lotB n d)) H
def spOuts : Sp := fun vs H Q _ => ∃ (n m : Int) (x : V) (d : Td) (h : Addr), vs = [.int n, .int m, x] ∧ Is h H x d ∧ Q (.bl (outsB n m d)) H
def spWords : Sp := fun vs H Q _ => ∃ (m : Int) (x : V) (d : Td) (h : Addr), vs = [.int m, x] ∧ Is h H x d ∧ m ≤ 1000 ∧ ∀ H', Same H H' → Q (.bl (wordsB m d)) H'
theorem ok_are_words (T : Top K mg A) : FnOk P w K mg base CX0 4 A.a_are_words A.d_are_words P_are_words spWords := by
  refine T.F_are_words.ok sc_are_words (fun vs H Q E h => ?_) (fun cdv A' outer s H vs Q E hr h => ?_)
  · obtain ⟨m, x, d, h, rfl, _⟩ := h
    rfl
  · obtain ⟨m, x, d, h, rfl, ix, hm, k⟩ := h
    obtain ⟨t, ty, _, _, e3⟩ := is_ty T ix
    refine ⟨_, (pss_cons (ps_if (PW.pt (pw_or (pt_not (pt_val (pe_callB call_isi (by rfl) T.z_isinstance (by decide +kernel) (pa_cons (pv 1) (pa_cons (pe_bltn (v := .ty "tuple") (by rfl) T.z_tuple (by decide +kernel) rfl) pa_nil))))) (pw_or1 (pt_not (pt_chain op_le op_le pe_int (pe_callB call_len_seq (by rfl) T.z_len (by decide +kernel) (pa_cons (pv 1) pa_nil)) (pv 0)))))) (pss_one (ps_ret pe_bl)) pss_nil)
    (pss_one (ps_ret (pe_callB (cr_all rfl) (by rfl) T.z_all (by decide +kernel) (pa_cons (pe_lc (own := [("word", 2)]) (by rfl) sc_are_words.nd (pi_tup (pv 1)) (blkOk_by (own := [("word", 2)]) (N := N_are_words) (sc := defScope s_are_words) (by decide +kernel)) (fun _ _ _ _ _ => (pg_name (i := 2) sc_are_words.nd rfl (.inl rfl))) (fun _ _ _ _ _ => pts_nil) (fun _ _ _ _ _ => (pe_call (ok_is_number_below (P := P) (w := w) T) (hr.mono (by decide)) (by rfl) T.g_is_number_below T.F_is_number_below.kp T.b_is_number_below .nil pass0 (pa_cons (pe_glob (v := .int 256) rfl (T.k_WORD_BOUND).choose_spec ⟨_, rfl⟩) (pa_cons (pv 2) pa_nil))))) pa_nil))))), ?_⟩
    refine ⟨_, rfl, _, _, _, _, _, rfl, .ty "tuple", ty, e3, _, rfl, ?_⟩
    cases c : isT d with
    | false =>
      rw [wordsB_no c] at k
      exact iteT (k H fun _ _ e => e)
    | true =>
      obtain ⟨a, xs, ds, rfl, rfl, ha, hl⟩ := isT_of ix c
      have lx := hl.len
      have k : ∀ H', Same H H' → Q (.bl ((decide (1 ≤ (ds.length : Int)) && decide ((ds.length : Int) ≤ m)) && ds.all (inI 0 255))) H' := k
      refine iteF ⟨_, rfl, a, xs, rfl, .inr (SqT.of ha), _, _, rfl, rfl, _, rfl, ?_⟩
      by_cases c1 : (1 : Int) ≤ ds.length
      · rw [decide_eq_true (show (1 : Int) ≤ xs.length by omega)]
        rw [decide_eq_true c1] at k
        refine iteT ⟨_, rfl, _, _, rfl, rfl, _, rfl, ?_⟩
        by_cases c2 : (ds.length : Int) ≤ m
        · rw [decide_eq_true (show (xs.length : Int) ≤ m by omega)]
          rw [decide_eq_true c2] at k
          refine iteF ⟨_, rfl, a, rfl, ⟨_, SqT.of ha⟩, fun D nD => ?_⟩
          refine lc_tup (K := K) (a := a) (xs := xs) (LP H D ((ds.map (inI 0 255)).map V.bl)) (LP.start nD) (fun i H' _ p => SqT.of (p.1 _ _ ha)) ?_ ?_
          · rintro i y H' hi p
            obtain ⟨e, he, ie⟩ := hl.get hi
            refine ⟨by kernel_rfl, ?_⟩
            refine ⟨_, rfl, 256, y, e, h, rfl, ie.same p.1, ?_⟩
            exact lcPut nD p (fun _ _ e => e) (map_at (map_at he)) (by rw [List.length_map, List.length_map]; omega)
          · rintro H' ⟨s1, d1⟩
            rw [take_all (by rw [List.length_map, List.length_map]; exact lx)] at d1
            refine ⟨D, _, rfl, SqL.of d1, ?_⟩
            rw [List.all_map]
            exact k H' s1
        · rw [decide_eq_false (show ¬ (xs.length : Int) ≤ m by omega)]
          rw [decide_eq_false c2] at k
          exact iteT (k H fun _ _ e => e)
      · rw [decide_eq_false (show ¬ (1 : Int) ≤ xs.length by omega)]
        rw [decide_eq_false c1] at k
        exact iteF ⟨_, rfl, iteT (k H fun _ _ e => e)⟩
end

/-! ### packets and loads -/
def wLen : Td → Int
  | .tup [_, _, _, w] => (itsOf w).length
  | _ => 0
def partsN (d : Td) : Int := (wLen d + 4 - 1) / 4
theorem four_of {h : Addr} {H : Hp} {x : V} {d : Td} (t : Is h H x d) (c : tupN 4 d = true) : ∃ a x1 x2 x3 x4 d1 d2 d3 d4, x = .ref a ∧ d = .tup [d1, d2, d3, d4] ∧ H a = some (.tup [x1, x2, x3, x4]) ∧ Is h H x1 d1 ∧ Is h H x2 d2 ∧ Is h H x3 d3 ∧ Is h H x4 d4 := by
  cases t with
  | tup e l =>
    have c := of_decide_eq_true (show decide (_ = (4 : Int)) = true from c)
    cases l with
    | nil => (exfalso; simp only [List.length_nil] at c; omega)
    | cons a l => cases l with
      | nil => (exfalso; simp only [List.length_cons, List.length_nil] at c; omega)
      | cons b l => cases l with
        | nil => (exfalso; simp only [List.length_cons, List.length_nil] at c; omega)
        | cons g l => cases l with
          | nil => (exfalso; simp only [List.length_cons, List.length_nil] at c; omega)
          | cons k l => cases l with
            | nil => exact ⟨_, _, _, _, _, _, _, _, _, rfl, rfl, e, a, b, g, k⟩
            | cons f l =>
              exfalso
              rw [List.length_cons, List.length_cons, List.length_cons, List.length_cons, List.length_cons] at c
              omega
  | _ => cases c
theorem packB_no {n m : Int} {d : Td} (c : tupN 4 d = false) : packB n m d = false := by
  cases d with
  | tup ds =>
    match ds with
    | [] => rfl
    | [_] => rfl
    | [_, _] => rfl
    | [_, _, _] => rfl
    | [_, _, _, _] => cases c
    | _ :: _ :: _ :: _ :: _ :: _ => rfl
  | _ => rfl
section
variable {P : Program} {w : World} {K : PySem.W.Frag} {mg : Str → Option Value} {base : Heap} {A : Adr}
def spPack : Sp := fun vs H Q _ => ∃ (n m : Int) (x : V) (d : Td) (h : Addr), vs = [.int n, .int m, x] ∧ Is h H x d ∧ ∀ H', Same H H' → Q (.bl (packB n m d)) H'
def spParts : Sp := fun vs H Q _ => ∃ (x : V) (d1 d2 d3 : Td) (ws : List Td) (h : Addr), vs = [x] ∧ Is h H x (.tup [d1, d2, d3, .tup ws]) ∧ Q (.int (((ws.length : Int) + 4 - 1) / 4)) H
def spCellsIn (C : Addr) : Sp := fun vs H Q E => ∃ (x : V) (d : Td) (h : Addr), vs = [x] ∧ Is h H x d ∧ (packB 12 3 d = true → ∀ H', Same H H' → Q (.int (partsN d)) H') ∧ (packB 12 3 d = false → ∀ H', Same H H' → E (.ref C) none H')
/-- the sum of words by their places from k on -/
def sumW : Int → List Int → Int
  | _, [] => 0
  | k, x :: xs => k * x + sumW (k + 1) xs
def placed (k : Int) : List Int → List Int
  | [] => []
  | x :: xs => k * x :: placed (k + 1) xs
theorem placed_sum : ∀ (k : Int) (ws : List Int), (placed k ws).sum = sumW k ws
  | _, [] => rfl
  | k, x :: xs => by
    show (k * x :: placed (k + 1) xs).sum = _
    rw [List.sum_cons, placed_sum (k + 1) xs]
    rfl
theorem placed_len : ∀ (k : Int) (ws : List Int), (placed k ws).length = ws.length
  | _, [] => rfl
  | k, x :: xs => by
    show (placed (k + 1) xs).length + 1 = xs.length + 1
    rw [placed_len]
theorem placed_at : ∀ {k : Int} {ws : List Int} {i : Nat} {x : Int}, ws[i]? = some x → (placed k ws)[i]? = some ((k + (i : Int)) * x)
  | k, x :: xs, 0, y, h => by
    cases h
    show some (k * x) = _
    rw [show k + ((0 : Nat) : Int) = k by omega]
  | k, x :: xs, i + 1, y, h => by
    have q := placed_at (k := k + 1) (ws := xs) (i := i) (x := y) h
    show (placed (k + 1) xs)[i]? = _
    rw [q, show k + ((i + 1 : Nat) : Int) = k + 1 + (i : Int) by omega]
def chk (n p l : Int) (ws : List Int) : Int := (sumW 1 ws + 7 * p + 11 * l + 13 * n) % 251
def spChk : Sp := fun vs H Q _ => ∃ (n p l : Int) (a : Addr) (ws : List Int), vs = [.int n, .int p, .int l, .ref a] ∧ H a = some (.tup (ws.map V.int)) ∧ ws.length ≤ 1000 ∧ ∀ H', Same H H' → Q (.int (chk n p l ws)) H'
theorem ok_check_of (T : Top K mg A) : FnOk P w K mg base CX0 1 A.a_check_of A.d_check_of P_check_of spChk := by
  refine T.F_check_of.ok sc_check_of (fun vs H Q E h => ?_) (fun cdv A' outer s H vs Q E hr h => ?_)
  · obtain ⟨n, p, l, a, ws, rfl, _⟩ := h
    rfl
  · obtain ⟨n, p, l, a, ws, rfl, ha, lw, k⟩ := h
    refine ⟨_, (pss_one (ps_ret (pe_op op_mod (pe_op op_add (pe_op op_add (pe_op op_add (pe_callB (cr_sum rfl) (by rfl) T.z_sum (by decide +kernel) (pa_cons (pe_lc (own := [("place", 4), ("word", 5)]) (by rfl) sc_check_of.nd (GEs.pi_enumK (by rfl) T.z_enumerate (pa_cons (pv 3) pa_nil) (pk_cons pe_int pk_nil)) (blkOk_by (own := [("place", 4), ("word", 5)]) (N := N_check_of) (sc := defScope s_check_of) (by decide +kernel)) (fun _ _ _ _ _ => (show PG _ _ (gTup K 2 _) from (pg_tup rfl (pgs_cons (pg_name (i := 4) sc_check_of.nd rfl (.inl rfl)) (pgs_cons (pg_name (i := 5) sc_check_of.nd rfl (.inl rfl)) pgs_nil))))) (fun _ _ _ _ _ => pts_nil) (fun _ _ _ _ _ => (pe_op op_mul (pv 4) (pv 5)))) pa_nil)) (pe_op op_mul pe_int (pv 1))) (pe_op op_mul pe_int (pv 2))) (pe_op op_mul pe_int (pv 0))) (pe_glob (v := .int 251) rfl (T.k_CHECK_BOUND).choose_spec ⟨_, rfl⟩)))), ?_⟩
    refine ⟨_, rfl, a, _, 1, rfl, rfl, by decide, by decide, SqT.of ha, fun D nD => ?_⟩
    refine lc_it GEs.walkK (fun i H' => Same H H' ∧ H' D = some (.lst (((placed 1 ws).take i).map V.int))) ⟨same_upd nD, upd_same⟩ (fun i H' _ ⟨s1, _⟩ => SqT.of (s1 _ _ ha)) ?_ ?_
    · rintro i x H1 H1' hi ⟨s1, e1⟩ ⟨T1, x1, x2, rfl, nT, rfl, ex1, ex2⟩
      cases ex1
      have ex2 : (ws.map V.int)[i]? = some x2 := ex2
      rw [List.getElem?_map] at ex2
      obtain ⟨z, hz, rfl⟩ := Option.map_eq_some_iff.mp ex2
      have hil := (List.getElem?_eq_some_iff.mp hz).1
      have s2 := same_upd nT (o := .tup [.int (1 + ((i : Nat) : Int)), .int z])
      have s02 : Same H (upd H1 T1 (.tup [.int (1 + ((i : Nat) : Int)), .int z])) := s1.trans s2
      have e2 := s2 _ _ e1
      generalize hH2 : upd H1 T1 (.tup [.int (1 + ((i : Nat) : Int)), .int z]) = H2 at s2 s02 e2 ⊢
      have eT : H2 T1 = some (.tup [.int (1 + ((i : Nat) : Int)), .int z]) := by rw [← hH2]; exact upd_same
      clear hH2
      show gTup K 2 _ _ ([some (.int n), some (.int p), some (.int l), some (.ref a), none, none] : L2.St) _ _
      refine ⟨T1, _, rfl, SqT.of eT, rfl, _, _, rfl, _, _, rfl, rfl, by kernel_rfl, ?_⟩
      refine ⟨_, rfl, _, rfl, _, _, rfl, rfl, .inl ⟨by omega, by omega⟩, ?_⟩
      refine ⟨_, e2, small1000 (by rw [List.length_map, List.length_take, placed_len]; omega), same_to s02 nD, ?_⟩
      rw [upd_same, List.take_add_one, placed_at hz, List.map_append]
      rfl
    · rintro H1 ⟨s1, e1⟩
      rw [List.length_map, ← placed_len 1 ws, List.take_length] at e1
      refine ⟨D, _, rfl, SqL.of e1, ?_⟩
      rw [placed_sum]
      refine ⟨_, rfl, _, _, rfl, rfl, .inl ⟨by decide, by decide⟩, _, _, rfl, rfl, _, rfl, _, _, rfl, rfl, .inl ⟨by decide, by decide⟩, _, _, rfl, rfl, _, rfl, _, _, rfl, rfl, .inl ⟨by decide, by decide⟩, _, _, rfl, rfl, ?_⟩
      exact ⟨_, _, rfl, rfl, (by show (0 : Int) < 251; decide), k H1 s1⟩
end

/-! ### loads -/
theorem five_of {h : Addr} {H : Hp} {x : V} {d : Td} (t : Is h H x d) (c : tupN 5 d = true) : ∃ a x1 x2 x3 x4 x5 d1 d2 d3 d4 d5, x = .ref a ∧ d = .tup [d1, d2, d3, d4, d5] ∧ H a = some (.tup [x1, x2, x3, x4, x5]) ∧ Is h H x1 d1 ∧ Is h H x2 d2 ∧ Is h H x3 d3 ∧ Is h H x4 d4 ∧ Is h H x5 d5 := by
  cases t with
  | tup e l =>
    have c := of_decide_eq_true (show decide (_ = (5 : Int)) = true from c)
    cases l with
    | nil => (exfalso; simp only [List.length_nil] at c; omega)
    | cons a l => cases l with
      | nil => (exfalso; simp only [List.length_cons, List.length_nil] at c; omega)
      | cons b l => cases l with
        | nil => (exfalso; simp only [List.length_cons, List.length_nil] at c; omega)
        | cons g l => cases l with
          | nil => (exfalso; simp only [List.length_cons, List.length_nil] at c; omega)
          | cons k l => cases l with
            | nil => (exfalso; simp only [List.length_cons, List.length_nil] at c; omega)
            | cons f l => cases l with
              | nil => exact ⟨_, _, _, _, _, _, _, _, _, _, _, rfl, rfl, e, a, b, g, k, f⟩
              | cons u l => (exfalso; simp only [List.length_cons] at c; omega)
  | _ => cases c
def wordsOf (d : Td) : List Int := (itsOf d).map intOf
def loadB : Td → Bool
  | .tup [n, p, l, w, c] => inI 0 1000000000 n && (inI 0 9 p && (inI 0 (10 - intOf p - 1) l && (wordsB 4 w && (!(decide (0 < intOf l) && decide (((itsOf w).length : Int) < 4)) && (inI 0 250 c && decide (intOf c = chk (intOf n) (intOf p) (intOf l) (wordsOf w)))))))
  | _ => false
theorem loadB_no {d : Td} (c : tupN 5 d = false) : loadB d = false := by
  cases d with
  | tup ds =>
    match ds with
    | [] => rfl
    | [_] => rfl
    | [_, _] => rfl
    | [_, _, _] => rfl
    | [_, _, _, _] => rfl
    | [_, _, _, _, _] => cases c
    | _ :: _ :: _ :: _ :: _ :: _ :: _ => rfl
  | _ => rfl
theorem ints_all {h : Addr} {H : Hp} {lo hi : Int} : ∀ {vs : List V} {ds : List Td}, IsL h H vs ds → ds.all (inI lo hi) = true → vs = (ds.map intOf).map V.int
  | _, _, .nil, _ => rfl
  | _, _, .cons a t, c => by
    rw [List.all_cons, Bool.and_eq_true] at c
    obtain ⟨i, rfl, i0, i1⟩ := inI_yes c.1
    cases a
    rw [ints_all t c.2]
    rfl
theorem words_of {h : Addr} {H : Hp} {m : Int} {x : V} {d : Td} (t : Is h H x d) (c : wordsB m d = true) : ∃ a, x = .ref a ∧ H a = some (.tup ((wordsOf d).map V.int)) ∧ 1 ≤ ((wordsOf d).length : Int) ∧ ((wordsOf d).length : Int) ≤ m ∧ ((itsOf d).length : Int) = (wordsOf d).length := by
  cases d with
  | tup ds =>
    obtain ⟨a, xs, ds', rfl, e, ha, hl⟩ := isT_of t rfl
    cases e
    have c : ((decide (1 ≤ (ds.length : Int)) && decide ((ds.length : Int) ≤ m)) && ds.all (inI 0 255)) = true := c
    rw [Bool.and_eq_true, Bool.and_eq_true] at c
    have e := ints_all hl c.2
    subst e
    refine ⟨a, rfl, ha, ?_, ?_, ?_⟩
    · show 1 ≤ ((ds.map intOf).length : Int)
      rw [List.length_map]
      exact of_decide_eq_true c.1.1
    · show ((ds.map intOf).length : Int) ≤ m
      rw [List.length_map]
      exact of_decide_eq_true c.1.2
    · show (ds.length : Int) = ((ds.map intOf).length : Int)
      rw [List.length_map]
  | _ => cases c
section
variable {P : Program} {w : World} {K : PySem.W.Frag} {mg : Str → Option Value} {base : Heap} {A : Adr}
def spLoad : Sp := fun vs H Q _ => ∃ (x : V) (d : Td) (h : Addr), vs = [x] ∧ Is h H x d ∧ ∀ H', Same H H' → Q (.bl (loadB d)) H'
theorem ok_is_load (T : Top K mg A) : FnOk P w K mg base CX0 5 A.a_is_load A.d_is_load P_is_load spLoad := by
  refine T.F_is_load.ok sc_is_load (fun vs H Q E h => ?_) (fun cdv A' outer s H vs Q E hr h => ?_)
  · obtain ⟨x, d, h, rfl, _⟩ := h
    rfl
  · obtain ⟨x, d, h, rfl, ix, k⟩ := h
    refine ⟨_, (pss_cons (ps_if (pt_not (pt_val (pe_call (ok_is_tuple_of T) (hr.mono (by decide)) (by rfl) T.g_is_tuple_of T.F_is_tuple_of.kp T.b_is_tuple_of .nil pass0 (pa_cons pe_int (pa_cons (pv 0) pa_nil))))) (pss_one (ps_ret pe_bl)) pss_nil)
    (pss_cons (ps_asg (pv 0) (pg_tup rfl (pgs_cons (pg_name (i := 1) sc_is_load.nd rfl (.inl rfl)) (pgs_cons (pg_name (i := 2) sc_is_load.nd rfl (.inl rfl)) (pgs_cons (pg_name (i := 3) sc_is_load.nd rfl (.inl rfl)) (pgs_cons (pg_name (i := 4) sc_is_load.nd rfl (.inl rfl)) (pgs_cons (pg_name (i := 5) sc_is_load.nd rfl (.inl rfl)) pgs_nil)))))))
    (pss_cons (ps_if (PW.pt (pw_or (pt_not (pt_val (pe_call (ok_is_integer_from T) (hr.mono (by decide)) (by rfl) T.g_is_integer_from T.F_is_integer_from.kp T.b_is_integer_from .nil pass0 (pa_cons pe_int (pa_cons (pe_glob (v := .int 1000000000) rfl (T.k_GREATEST_PACKET).choose_spec ⟨_, rfl⟩) (pa_cons (pv 1) pa_nil)))))) (pw_or1 (pt_not (pt_val (pe_call (ok_is_number_below T) (hr.mono (by decide)) (by rfl) T.g_is_number_below T.F_is_number_below.kp T.b_is_number_below .nil pass0 (pa_cons (pe_glob (v := .int 10) rfl (T.k_MOST_PARTS).choose_spec ⟨_, rfl⟩) (pa_cons (pv 2) pa_nil)))))))) (pss_one (ps_ret pe_bl)) pss_nil)
    (pss_cons (ps_if (PW.pt (pw_or (pt_not (pt_val (pe_call (ok_is_number_below T) (hr.mono (by decide)) (by rfl) T.g_is_number_below T.F_is_number_below.kp T.b_is_number_below .nil pass0 (pa_cons (pe_op op_sub (pe_glob (v := .int 10) rfl (T.k_MOST_PARTS).choose_spec ⟨_, rfl⟩) (pv 2)) (pa_cons (pv 3) pa_nil))))) (pw_or1 (pt_not (pt_val (pe_call (ok_are_words T) (hr.mono (by decide)) (by rfl) T.g_are_words T.F_are_words.kp T.b_are_words .nil pass0 (pa_cons (pe_glob (v := .int 4) rfl (T.k_WORDS_OF_A_CELL).choose_spec ⟨_, rfl⟩) (pa_cons (pv 4) pa_nil)))))))) (pss_one (ps_ret pe_bl)) pss_nil)
    (pss_cons (ps_if (PW.pt (pw_and (pt_cmpR op_gt (pv 3) pe_int (nomark _)) (pw_and1 (pt_cmpR op_lt (pe_callB call_len_seq (by rfl) T.z_len (by decide +kernel) (pa_cons (pv 4) pa_nil)) (pe_glob (v := .int 4) rfl (T.k_WORDS_OF_A_CELL).choose_spec ⟨_, rfl⟩) (nomark _))))) (pss_one (ps_ret pe_bl)) pss_nil)
    (pss_one (ps_ret (pe_and (pe_call (ok_is_number_below T) (hr.mono (by decide)) (by rfl) T.g_is_number_below T.F_is_number_below.kp T.b_is_number_below .nil pass0 (pa_cons (pe_glob (v := .int 251) rfl (T.k_CHECK_BOUND).choose_spec ⟨_, rfl⟩) (pa_cons (pv 5) pa_nil))) (pe_one (pe_cmpR op_eq (pv 5) (pe_call (ok_check_of T) (hr.mono (by decide)) (by rfl) T.g_check_of T.F_check_of.kp T.b_check_of .nil pass0 (pa_cons (pv 1) (pa_cons (pv 2) (pa_cons (pv 3) (pa_cons (pv 4) pa_nil))))) (nomark _))))))))))), ?_⟩
    refine ⟨_, rfl, 5, x, d, h, rfl, ix, _, rfl, ?_⟩
    cases c : tupN 5 d with
    | false =>
      rw [loadB_no c] at k
      exact iteT (k H fun _ _ e => e)
    | true =>
      obtain ⟨a, x1, x2, x3, x4, x5, d1, d2, d3, d4, d5, rfl, rfl, ha, i1, i2, i3, i4, i5⟩ := five_of ix c
      have k : ∀ H', Same H H' → Q (.bl (inI 0 1000000000 d1 && (inI 0 9 d2 && (inI 0 (10 - intOf d2 - 1) d3 && (wordsB 4 d4 && (!(decide (0 < intOf d3) && decide (((itsOf d4).length : Int) < 4)) && (inI 0 250 d5 && decide (intOf d5 = chk (intOf d1) (intOf d2) (intOf d3) (wordsOf d4))))))))) H' := k
      refine iteF ⟨_, rfl, a, _, rfl, SqT.of ha, rfl, _, _, rfl, _, _, rfl, _, _, rfl, _, _, rfl, _, _, rfl, rfl, ?_⟩
      refine ⟨_, rfl, 0, 1000000000, x1, d1, h, rfl, i1, _, rfl, ?_⟩
      show if (!inI 0 1000000000 d1) = true then _ else _
      cases c1 : inI 0 1000000000 d1 with
      | false =>
        rw [c1] at k
        exact iteT (iteT (k H fun _ _ e => e))
      | true =>
        obtain ⟨n, rfl, n0, n1⟩ := inI_yes c1
        cases i1
        rw [c1, Bool.true_and] at k
        refine iteF ⟨_, rfl, 10, x2, d2, h, rfl, i2, _, rfl, ?_⟩
        show if (!inI 0 9 d2) = true then _ else _
        cases c2 : inI 0 9 d2 with
        | false =>
          rw [c2] at k
          exact iteT (k H fun _ _ e => e)
        | true =>
          obtain ⟨p, rfl, p0, p1⟩ := inI_yes c2
          cases i2
          rw [c2, Bool.true_and] at k
          refine iteF ⟨_, rfl, _, _, rfl, rfl, _, rfl, 10 - p, x3, d3, h, rfl, i3, _, rfl, ?_⟩
          show if (!inI 0 (10 - p - 1) d3) = true then _ else _
          have k : ∀ H', Same H H' → Q (.bl (inI 0 (10 - p - 1) d3 && (wordsB 4 d4 && (!(decide (0 < intOf d3) && decide (((itsOf d4).length : Int) < 4)) && (inI 0 250 d5 && decide (intOf d5 = chk n p (intOf d3) (wordsOf d4))))))) H' := k
          cases c3 : inI 0 (10 - p - 1) d3 with
          | false =>
            rw [c3] at k
            exact iteT (iteT (k H fun _ _ e => e))
          | true =>
            obtain ⟨l, rfl, l0, l1⟩ := inI_yes c3
            cases i3
            rw [c3, Bool.true_and] at k
            refine iteF ⟨_, rfl, 4, x4, d4, h, rfl, i4, by decide, fun H1 s1 => ⟨_, rfl, ?_⟩⟩
            show if (!wordsB 4 d4) = true then _ else _
            cases c4 : wordsB 4 d4 with
            | false =>
              rw [c4] at k
              exact iteT (k H1 s1)
            | true =>
              rw [c4, Bool.true_and] at k
              obtain ⟨b, rfl, hb, w1, w2, w3⟩ := words_of i4 c4
              have k : ∀ H', Same H H' → Q (.bl (!(decide (0 < l) && decide (((itsOf d4).length : Int) < 4)) && (inI 0 250 d5 && decide (intOf d5 = chk n p l (wordsOf d4))))) H' := k
              rw [w3] at k
              have hb1 := s1 _ _ hb
              refine iteF ?_
              refine ⟨_, rfl, _, _, rfl, rfl, _, rfl, ?_⟩
              by_cases cl : 0 < l
              · rw [decide_eq_true cl] at k ⊢
                refine iteT ⟨_, rfl, b, _, rfl, .inr (SqT.of hb1), _, _, rfl, rfl, _, rfl, ?_⟩
                rw [List.length_map]
                by_cases cw : ((wordsOf d4).length : Int) < 4
                · rw [decide_eq_true cw] at k ⊢
                  exact iteT (k H1 s1)
                · rw [decide_eq_false cw] at k ⊢
                  have k : ∀ H', Same H H' → Q (.bl (inI 0 250 d5 && decide (intOf d5 = chk n p l (wordsOf d4)))) H' := k
                  refine iteF ?_
                  refine ⟨_, rfl, 251, x5, d5, h, rfl, i5.same s1, _, rfl, ?_⟩
                  show if inI 0 250 d5 = true then _ else _
                  cases c5 : inI 0 250 d5 with
                  | false =>
                    rw [c5] at k
                    exact iteF (k H1 s1)
                  | true =>
                    obtain ⟨c, rfl, _, _⟩ := inI_yes c5
                    cases i5
                    rw [c5, Bool.true_and] at k
                    refine iteT ⟨_, rfl, _, rfl, _, rfl, _, rfl, _, rfl, n, p, l, b, wordsOf d4, rfl, hb1, by omega, fun H2 s2 => ⟨rfl, ?_⟩⟩
                    rw [dec_int]
                    exact k H2 (s1.trans s2)
              · rw [decide_eq_false cl] at k ⊢
                have k : ∀ H', Same H H' → Q (.bl (inI 0 250 d5 && decide (intOf d5 = chk n p l (wordsOf d4)))) H' := k
                refine iteF (iteF ?_)
                refine ⟨_, rfl, 251, x5, d5, h, rfl, i5.same s1, _, rfl, ?_⟩
                show if inI 0 250 d5 = true then _ else _
                cases c5 : inI 0 250 d5 with
                | false =>
                  rw [c5] at k
                  exact iteF (k H1 s1)
                | true =>
                  obtain ⟨c, rfl, _, _⟩ := inI_yes c5
                  cases i5
                  rw [c5, Bool.true_and] at k
                  refine iteT ⟨_, rfl, _, rfl, _, rfl, _, rfl, _, rfl, n, p, l, b, wordsOf d4, rfl, hb1, by omega, fun H2 s2 => ⟨rfl, ?_⟩⟩
                  rw [dec_int]
                  exact k H2 (s1.trans s2)
end

/-! ### the law's own looks -/
section
variable {P : Program} {w : World} {K : PySem.W.Frag} {mg : Str → Option Value} {base : Heap} {A : Adr}
def spWithin : Sp := fun vs H Q _ => ∃ (lo hi : Int) (x : V) (d : Td) (h : Addr), vs = [x, .int lo, .int hi] ∧ Is h H x d ∧ Q (.bl (inI lo hi d)) H
def spLWords : Sp := fun vs H Q _ => ∃ (m : Int) (x : V) (d : Td) (h : Addr), vs = [x, .int m] ∧ Is h H x d ∧ m ≤ 1000 ∧ ∀ H', Same H H' → Q (.bl (wordsB m d)) H'
/-! ### packets drawn -/
theorem inV_int {o : Int} : ∀ {os : List Int}, inV (.int o) (os.map V.int) = decide (o ∈ os)
  | [] => rfl
  | x :: os => by
    unfold inV
    rw [List.map_cons, List.any_cons]
    have ih : (List.any (os.map V.int) fun y => eqV y (.int o)) = decide (o ∈ os) := inV_int
    rw [ih]
    have h1 : eqV (.int x) (.int o) = decide (x = o) := rfl
    rw [h1]
    by_cases c : x = o
    · subst c
      simp
    · have c2 : ¬ o = x := fun z => c z.symm
      simp [c, c2]
theorem DeckAt.but {H H' : Hp} {h g F : Addr} (a : DeckAt H h g) (b : ∀ q, q ≠ F → H' q = H q) (h1 : F ≠ h) (h2 : F ≠ g) : DeckAt H' h g :=
  ⟨let ⟨ns, e⟩ := a.cells; ⟨ns, by rw [b _ h2.symm]; exact e⟩, let ⟨i, m, t, sd, e, hi⟩ := a.five; ⟨i, m, t, sd, by rw [b _ h1.symm]; exact e, hi⟩, a.ne⟩
structure OutsOk (os : List Int) : Prop where
  asc : os.Pairwise (· < ·)
  one : 1 ≤ os.length
  few : os.length ≤ 3
  lt : ∀ o ∈ os, 0 ≤ o ∧ o ≤ 11
def spLOuts : Sp := fun vs H Q _ => ∃ (h g : Addr), vs = [.ref h, .int 12, .int 3, .int 0] ∧ DeckAt H h g ∧ ∀ (H' : Hp) (p : Addr) (os : List Int), Kp h H H' → DeckAt H' h g → H' p = some (.tup (os.map V.int)) → OutsOk os → Q (.ref p) H'
theorem ok_law_outs (T : Top K mg A) : FnOk P w K mg base CX0 3 A.a_law_outs A.d_law_outs P_law_outs spLOuts := by
  refine T.F_law_outs.ok sc_law_outs (fun vs H Q E h => ?_) (fun cdv A' outer s H vs Q E hr h => ?_)
  · obtain ⟨h, g, rfl, _⟩ := h
    rfl
  · obtain ⟨h, g, rfl, a0, k⟩ := h
    refine ⟨_, (pss_cons (ps_set (i := 4) sc_law_outs.nd rfl (.inl rfl) (pe_lst pa_nil))
    (pss_cons (ps_for PassesOwn.never rfl (pi_range1 rfl T.z_range (pa_cons (pe_op op_add pe_int (pe_call (ok_law_draw T) (hr.mono (by decide)) (by rfl) T.g_law_draw T.F_law_draw.kp T.b_law_draw .nil pass0 (pa_cons (pv 0) (pa_cons (pv 2) pa_nil)))) pa_nil)) (pg_name (i := 5) sc_law_outs.nd rfl (.inl rfl)) (pss_cons (ps_set (i := 6) sc_law_outs.nd rfl (.inl rfl) (pe_call (ok_law_draw T) (hr.mono (by decide)) (by rfl) T.g_law_draw T.F_law_draw.kp T.b_law_draw .nil pass0 (pa_cons (pv 0) (pa_cons (pv 1) pa_nil))))
    (Evl.pss_cut (ps_if (pt_cmpR op_eq (pe_call (ok_law_draw T) (hr.mono (by decide)) (by rfl) T.g_law_draw T.F_law_draw.kp T.b_law_draw .nil pass0 (pa_cons (pv 0) (pa_cons pe_int pa_nil))) pe_int (nomark _)) (pss_one (ps_set (i := 6) sc_law_outs.nd rfl (.inl rfl) (pv 3))) pss_nil)
    (pss_one (ps_if (pt_cmpR op_notIn_seq (pv 6) (pv 4) (by rfl)) (pss_one (ps_expr (pe_bm PySem.F.plainAttrs_list PySem.F.slot_list_append PySem.F.type_list_append mt_append (pv 4) (pa_cons (pv 6) pa_nil)))) pss_nil)))))
    (pss_one (ps_ret (pe_callTy call_tuple_of (by rfl) T.z_tuple (by decide +kernel) (pa_cons (pe_callB cr_sortedI (by rfl) T.z_sorted (by decide +kernel) (pa_cons (pv 4) pa_nil)) pa_nil)))))), ?_⟩
    refine ⟨by show 0 ≤ sizeLine; decide, fun F nF => ?_⟩
    have s0 := same_upd nF (o := .lst [])
    have a1 := a0.same s0
    have Fh : F ≠ h := fun z => by
      obtain ⟨_, e⟩ := a0.lst
      rw [← z, nF] at e
      cases e
    have Fg : F ≠ g := fun z => by
      obtain ⟨_, e⟩ := a0.cells
      rw [← z, nF] at e
      cases e
    refine ⟨_, rfl, _, rfl, h, g, 3, rfl, a1, by decide, by decide, fun H1 d b1 a2 d0 d1 => ⟨1, d, rfl, rfl, 1 + d, rfl, by omega, by omega, ?_⟩⟩
    have F1 : H1 F = some (.lst []) := by rw [b1 F Fh]; exact upd_same
    refine for_range (lo := 0) (n := (1 + d).toNat) (fun i σ H' => ∃ (y5 y6 : Option V) (os : List Int), σ = [some (.ref h), some (.int 12), some (.int 3), some (.int 0), some (.ref F), y5, y6] ∧ (∀ b, b ≠ h → b ≠ F → H' b = H1 b) ∧ DeckAt H' h g ∧ H' F = some (.lst (os.map V.int)) ∧ os.Nodup ∧ os.length ≤ i ∧ (1 ≤ i → 1 ≤ os.length) ∧ ∀ o ∈ os, 0 ≤ o ∧ o ≤ 11)
      ⟨_, _, [], rfl, fun _ _ _ => rfl, a2, F1, List.nodup_nil, Nat.le_refl _, fun h => absurd h (by decide), fun o ho => absurd ho List.not_mem_nil⟩ ?_ ?_
    · rintro i σ H2 hi ⟨y5, y6, os, rfl, o2, a3, eF, nd, le, pos, bd⟩
      refine ⟨_, rfl, _, rfl, h, g, 12, rfl, a3, by decide, by decide, fun H3 d3 b3 a4 d30 d31 => ?_⟩
      refine ⟨fun σ' H' => ∃ (y5 : Option V) (z : Int), σ' = [some (.ref h), some (.int 12), some (.int 3), some (.int 0), some (.ref F), y5, some (.int z)] ∧ But h H3 H' ∧ DeckAt H' h g ∧ 0 ≤ z ∧ z ≤ 11, ?_, ?_⟩
      · refine ⟨_, rfl, h, g, 3, rfl, a4, by decide, by decide, fun H4 d4 b4 a5 _ _ => ⟨rfl, _, rfl, ite2 (fun c => ?_) (fun c => ?_)⟩⟩
        · exact ⟨_, rfl, _, 0, rfl, b4, a5, by decide, by decide⟩
        · exact ⟨_, d3, rfl, b4, a5, d30, by omega⟩
      rintro σ' H4 ⟨y5, z, rfl, b4, a5, z0, z1⟩
      have eF4 : H4 F = some (.lst (os.map V.int)) := by rw [b4 F Fh, b3 F Fh]; exact eF
      have o4 : ∀ b, b ≠ h → b ≠ F → H4 b = H1 b := fun b h1 h2 => by rw [b4 b h1, b3 b h1]; exact o2 b h1 h2
      refine ⟨_, rfl, _, rfl, F, _, rfl, .inl (SqL.of eF4), rfl, ?_, _, rfl, ?_⟩
      · rw [List.all_map]
        exact List.all_eq_true.mpr fun _ _ => rfl
      show if (!inV (.int z) (os.map V.int)) = true then _ else _
      rw [inV_int]
      by_cases c : z ∈ os
      · rw [decide_eq_true c]
        exact iteF ⟨_, _, os, rfl, o4, a5, eF4, nd, by omega, fun _ => List.length_pos_of_mem c, bd⟩
      · rw [decide_eq_false c]
        refine iteT ⟨_, rfl, .inl ⟨rfl, _, SqL.of eF4⟩, _, rfl, F, _, _, rfl, rfl, eF4, small1000 (by rw [List.length_map]; omega), ?_⟩
        refine ⟨_, _, os ++ [z], rfl, fun b h1 h2 => by rw [upd_ne h2]; exact o4 b h1 h2, a5.but (fun q hq => upd_ne hq) Fh Fg, by rw [upd_same, List.map_append]; rfl, ?_, ?_, fun _ => ?_, fun o ho => ?_⟩
        · rw [List.nodup_append]
          exact ⟨nd, List.nodup_cons.mpr ⟨List.not_mem_nil, List.nodup_nil⟩, fun a ha b hb e => by
            rw [List.mem_singleton] at hb
            rw [e, hb] at ha
            exact c ha⟩
        · rw [List.length_append]
          show os.length + 1 ≤ i + 1
          omega
        · rw [List.length_append]
          show 1 ≤ os.length + 1
          omega
        · rcases List.mem_append.mp ho with q | q
          · exact bd o q
          · rw [List.mem_singleton] at q
            rw [q]
            exact ⟨z0, z1⟩
    · rintro σ H2 ⟨y5, y6, os, rfl, o2, a3, eF, nd, le, pos, bd⟩
      refine ⟨_, rfl, F, os, rfl, SqL.of eF, fun ns p pm pw np => ⟨p, _, rfl, .inl ⟨SqL.of upd_same, fun q nq => ?_⟩⟩⟩
      have s3 := same_upd np (o := .lst (ns.map V.int))
      have s4 := same_upd nq (o := .tup (ns.map V.int))
      have nd2 := pm.nodup_iff.mpr nd
      refine k _ q ns (fun b o hb e => ?_) (a3.same (s3.trans s4)) upd_same ⟨?_, by rw [pm.length_eq]; exact pos (by omega), by rw [pm.length_eq]; omega, fun o ho => bd o (pm.mem_iff.mp ho)⟩
      · have bF : b ≠ F := fun z => by rw [z, nF] at e; cases e
        have e2 : H2 b = some o := by rw [o2 b hb bF, b1 b hb]; exact s0 _ _ e
        exact (s3.trans s4) _ _ e2
      · exact (pw.and nd2).imp fun h => by omega
end

section
variable {P : Program} {w : World} {K : PySem.W.Frag} {mg : Str → Option Value} {base : Heap} {A : Adr}
/-- a drawn packet at p -/
structure PackAt (H : Hp) (p : Addr) (s k : Int) (q1 q2 : Addr) (os ws : List Int) : Prop where
  at_ : H p = some (.tup [.int s, .int k, .ref q1, .ref q2])
  outs : H q1 = some (.tup (os.map V.int))
  words : H q2 = some (.tup (ws.map V.int))
structure PackOk (s k : Int) (os ws : List Int) : Prop where
  s0 : 0 ≤ s ∧ s ≤ 99
  k0 : 0 ≤ k ∧ k ≤ 7
  os : OutsOk os
  one : 1 ≤ ws.length
  few : ws.length ≤ 40
  lt : ∀ x ∈ ws, 0 ≤ x ∧ x ≤ 255
def spLPack : Sp := fun vs H Q _ => ∃ (h g : Addr), vs = [.ref h, .int 12, .int 3] ∧ DeckAt H h g ∧ ∀ (H' : Hp) (p : Addr) (s k : Int) (q1 q2 : Addr) (os ws : List Int), Kp h H H' → DeckAt H' h g → PackAt H' p s k q1 q2 os ws → PackOk s k os ws → Q (.ref p) H'
theorem ok_law_packet (T : Top K mg A) : FnOk P w K mg base CX0 4 A.a_law_packet A.d_law_packet P_law_packet spLPack := by
  refine T.F_law_packet.ok sc_law_packet (fun vs H Q E h => ?_) (fun cdv A' outer s H vs Q E hr h => ?_)
  · obtain ⟨h, g, rfl, _⟩ := h
    rfl
  · obtain ⟨h, g, rfl, a0, k⟩ := h
    refine ⟨_, (pss_cons (ps_set (i := 3) sc_law_packet.nd rfl (.inl rfl) (pe_ix ix_list (pe_lst (pa_cons pe_int (pa_cons pe_int (pa_cons pe_int (pa_cons pe_int (pa_cons pe_int (pa_cons pe_int (pa_cons pe_int (pa_cons pe_int pa_nil))))))))) (pe_call (ok_law_draw T) (hr.mono (by decide)) (by rfl) T.g_law_draw T.F_law_draw.kp T.b_law_draw .nil pass0 (pa_cons (pv 0) (pa_cons pe_int pa_nil))) (fun _ _ => rfl)))
    (pss_cons (ps_set (i := 4) sc_law_packet.nd rfl (.inl rfl) (pe_callTy call_tuple_of (by rfl) T.z_tuple (by decide +kernel) (pa_cons (pe_lc (own := [("_law_k", 5)]) (by rfl) sc_law_packet.nd (pi_range1 rfl T.z_range (pa_cons (pe_op op_add pe_int (pe_call (ok_law_draw T) (hr.mono (by decide)) (by rfl) T.g_law_draw T.F_law_draw.kp T.b_law_draw .nil pass0 (pa_cons (pv 0) (pa_cons (pv 3) pa_nil)))) pa_nil)) (blkOk_by (own := [("_law_k", 5)]) (N := N_law_packet) (sc := defScope s_law_packet) (by decide +kernel)) (fun _ _ _ _ _ => (pg_name (i := 5) sc_law_packet.nd rfl (.inl rfl))) (fun _ _ _ _ _ => pts_nil) (fun _ _ _ _ _ => (pe_call (ok_law_draw (P := P) (w := w) T) (hr.mono (by decide)) (by rfl) T.g_law_draw T.F_law_draw.kp T.b_law_draw .nil pass0 (pa_cons (pv 0) (pa_cons pe_int pa_nil))))) pa_nil)))
    (pss_one (ps_ret (pe_tup (pa_cons (pe_call (ok_law_draw T) (hr.mono (by decide)) (by rfl) T.g_law_draw T.F_law_draw.kp T.b_law_draw .nil pass0 (pa_cons (pv 0) (pa_cons pe_int pa_nil))) (pa_cons (pe_call (ok_law_draw T) (hr.mono (by decide)) (by rfl) T.g_law_draw T.F_law_draw.kp T.b_law_draw .nil pass0 (pa_cons (pv 0) (pa_cons pe_int pa_nil))) (pa_cons (pe_call (ok_law_outs T) (hr.mono (by decide)) (by rfl) T.g_law_outs T.F_law_outs.kp T.b_law_outs .nil pass0 (pa_cons (pv 0) (pa_cons (pv 1) (pa_cons (pv 2) (pa_cons pe_int pa_nil))))) (pa_cons (pv 4) pa_nil))))))))), ?_⟩
    refine ⟨by show 8 ≤ sizeLine; decide, fun l nl => ?_⟩
    have s0 := same_upd nl (o := .lst [.int 1, .int 3, .int 4, .int 5, .int 8, .int 9, .int 12, .int 40])
    have a1 := a0.same s0
    have lh : l ≠ h := fun z => by
      obtain ⟨_, e⟩ := a0.lst
      rw [← z, nl] at e
      cases e
    refine ⟨_, rfl, h, g, 8, rfl, a1, by decide, by decide, fun H1 d b1 a2 d0 d1 => ?_⟩
    have el : H1 l = some (.lst [.int 1, .int 3, .int 4, .int 5, .int 8, .int 9, .int 12, .int 40]) := by rw [b1 l lh]; exact upd_same
    have hv : ∃ z : Int, ([.int 1, .int 3, .int 4, .int 5, .int 8, .int 9, .int 12, .int 40] : List V)[d.toNat]? = some (.int z) ∧ 1 ≤ z ∧ z ≤ 40 := by
      have hd : d.toNat < 8 := by omega
      match d.toNat, hd with
      | 0, _ => exact ⟨1, rfl, by decide, by decide⟩
      | 1, _ => exact ⟨3, rfl, by decide, by decide⟩
      | 2, _ => exact ⟨4, rfl, by decide, by decide⟩
      | 3, _ => exact ⟨5, rfl, by decide, by decide⟩
      | 4, _ => exact ⟨8, rfl, by decide, by decide⟩
      | 5, _ => exact ⟨9, rfl, by decide, by decide⟩
      | 6, _ => exact ⟨12, rfl, by decide, by decide⟩
      | 7, _ => exact ⟨40, rfl, by decide, by decide⟩
      | n + 8, h => omega
    obtain ⟨z, hz, z0, z1⟩ := hv
    refine ⟨l, _, d, _, rfl, rfl, SqL.of el, at_of (by omega) hz, ?_⟩
    have k01 : Kp h H H1 := fun q o hq e => by rw [b1 q hq]; exact s0 _ _ e
    refine ⟨_, rfl, _, rfl, h, g, z, rfl, a2, by omega, by omega, fun H2 d2 b2 a3 d20 d21 => ⟨1, d2, rfl, rfl, 1 + d2, rfl, by omega, by omega, fun W nW => ?_⟩⟩
    have k02 : Kp h H H2 := fun q o hq e => by rw [b2 q hq]; exact k01 q o hq e
    have Wh : W ≠ h := fun z => by
      obtain ⟨_, e⟩ := a3.lst
      rw [← z, nW] at e
      cases e
    have Wg : W ≠ g := fun z => by
      obtain ⟨_, e⟩ := a3.cells
      rw [← z, nW] at e
      cases e
    refine lc_range (lo := 0) (n := (1 + d2).toNat) (fun i H' => ∃ ws : List Int, (∀ b, b ≠ h → b ≠ W → H' b = H2 b) ∧ DeckAt H' h g ∧ H' W = some (.lst (ws.map V.int)) ∧ ws.length = i ∧ ∀ x ∈ ws, 0 ≤ x ∧ x ≤ 255)
      ⟨[], fun b _ hb => upd_ne hb, a3.same (same_upd nW), upd_same, rfl, fun x hx => absurd hx List.not_mem_nil⟩ ?_ ?_
    · rintro i H3 hi ⟨ws, o3, a4, eW, lw, bd⟩
      refine ⟨by kernel_rfl, ?_⟩
      refine ⟨_, rfl, h, g, 256, rfl, a4, by decide, by decide, fun H4 x b4 a5 x0 x1 => ?_⟩
      have eW4 : H4 W = some (.lst (ws.map V.int)) := by rw [b4 W Wh]; exact eW
      refine ⟨_, eW4, small1000 (by rw [List.length_map]; omega), ws ++ [x], fun b h1 h2 => by rw [upd_ne h2, b4 b h1]; exact o3 b h1 h2, a5.but (fun q hq => upd_ne hq) Wh Wg, by rw [upd_same, List.map_append]; rfl, by rw [List.length_append, lw]; rfl, fun y hy => ?_⟩
      rcases List.mem_append.mp hy with q | q
      · exact bd y q
      · rw [List.mem_singleton] at q
        rw [q]
        exact ⟨x0, by omega⟩
    rintro H3 ⟨ws, o3, a4, eW, lw, bd⟩
    have k03 : Kp h H H3 := fun q o hq e => by
      have e2 := k02 q o hq e
      have qW : q ≠ W := fun z => by rw [z, nW] at e2; cases e2
      rw [o3 q hq qW]
      exact e2
    refine ⟨W, _, rfl, .inl ⟨SqL.of eW, fun q2 nq2 => ?_⟩⟩
    have s4 := same_upd nq2 (o := .tup (ws.map V.int))
    have e2 : upd H3 q2 (.tup (ws.map V.int)) q2 = some (.tup (ws.map V.int)) := upd_same
    have a5 := a4.same s4
    have k04 := k03.same s4
    have qh : q2 ≠ h := fun z => by
      obtain ⟨_, e⟩ := a4.lst
      rw [← z, nq2] at e
      cases e
    generalize upd H3 q2 (.tup (ws.map V.int)) = H4 at e2 a5 k04 ⊢
    refine ⟨_, rfl, h, g, 100, rfl, a5, by decide, by decide, fun H5 s b5 a6 s00 s01 => ⟨_, rfl, h, g, 8, rfl, a6, by decide, by decide, fun H6 kk b6 a7 k00 k011 => ⟨_, rfl, _, rfl, _, rfl, h, g, rfl, a7, fun H7 q1 os kp7 a8 eo oo => ⟨_, rfl, by show 4 ≤ sizeLine; decide, fun p np => ?_⟩⟩⟩⟩
    have k46 : Kp h H4 H6 := fun q o hq e => by rw [b6 q hq, b5 q hq]; exact e
    have k47 := k46.trans kp7
    have s8 := same_upd np (o := .tup [.int s, .int kk, .ref q1, .ref q2])
    exact k _ p s kk q1 q2 os ws ((k04.trans k47).same s8) (a8.same s8) ⟨upd_same, s8 _ _ eo, s8 _ _ (k47 q2 _ qh e2)⟩ ⟨⟨s00, by omega⟩, ⟨k00, by omega⟩, oo, by omega, by omega, bd⟩
end

/-! ### loads made -/
def cutI (xs : List Int) (lo hi : Option Int) : List Int := (xs.drop (HT.sIx xs.length 0 lo)).take (HT.sIx xs.length xs.length hi - HT.sIx xs.length 0 lo)
theorem cut_ints (xs : List Int) (lo hi : Option Int) : cutV (xs.map V.int) lo hi = (cutI xs lo hi).map V.int := by
  unfold cutV cutI
  rw [List.length_map, List.map_take, List.map_drop]
theorem cut_quad (xs : List Int) (p : Nat) : cutI xs (some (4 * (p : Int))) (some (4 * (p : Int) + 4)) = (xs.drop (4 * p)).take 4 := by
  unfold cutI
  rw [show (4 * (p : Int)) = ((4 * p : Nat) : Int) by omega, show (((4 * p : Nat) : Int) + 4) = ((4 * p + 4 : Nat) : Int) by omega, HT.sIx_nat, HT.sIx_nat]
  by_cases h : 4 * p ≤ xs.length
  · rw [Nat.min_eq_left h]
    by_cases h2 : 4 * p + 4 ≤ xs.length
    · rw [Nat.min_eq_left h2, show 4 * p + 4 - 4 * p = 4 by omega]
    · rw [Nat.min_eq_right (by omega)]
      rw [List.take_of_length_le (by rw [List.length_drop]; exact Nat.le_refl _), List.take_of_length_le (by rw [List.length_drop]; omega)]
  · rw [show min (4 * p) xs.length = xs.length by omega, List.drop_of_length_le (Nat.le_refl _), List.drop_of_length_le (show xs.length ≤ 4 * p by omega), List.take_nil, List.take_nil]
theorem sumW_snoc : ∀ (k : Int) (ws : List Int) (i : Nat) (x : Int), ws[i]? = some x → sumW k (ws.take (i + 1)) = sumW k (ws.take i) + (k + (i : Int)) * x
  | k, y :: ys, 0, x, h => by
    cases h
    show k * y + sumW (k + 1) [] = 0 + (k + 0) * y
    show k * y + 0 = 0 + (k + 0) * y
    rw [Int.add_zero, Int.zero_add, Int.add_zero]
  | k, y :: ys, i + 1, x, h => by
    have q := sumW_snoc (k + 1) ys i x h
    show k * y + sumW (k + 1) (ys.take (i + 1)) = (k * y + sumW (k + 1) (ys.take i)) + (k + ((i + 1 : Nat) : Int)) * x
    rw [q, show k + 1 + (i : Int) = k + ((i + 1 : Nat) : Int) by omega, Int.add_assoc]
/-- a load at p -/
structure LoadAt (H : Hp) (p : Addr) (n pa l : Int) (q : Addr) (ws : List Int) (c : Int) : Prop where
  at_ : H p = some (.tup [.int n, .int pa, .int l, .ref q, .int c])
  words : H q = some (.tup (ws.map V.int))
theorem LoadAt.same {H H' : Hp} {p : Addr} {n pa l : Int} {q : Addr} {ws : List Int} {c : Int} (a : LoadAt H p n pa l q ws c) (s : Same H H') : LoadAt H' p n pa l q ws c := ⟨s _ _ a.at_, s _ _ a.words⟩
def loadT (n pa l : Int) (ws : List Int) (c : Int) : Td := .tup [.int n, .int pa, .int l, .tup (ws.map Td.int), .int c]
theorem LoadAt.is {H : Hp} {p : Addr} {n pa l : Int} {q : Addr} {ws : List Int} {c : Int} (a : LoadAt H p n pa l q ws c) (h : Addr) : Is h H (.ref p) (loadT n pa l ws c) :=
  .tup a.at_ (.cons (.int _) (.cons (.int _) (.cons (.int _) (.cons (.tup a.words IsL.ints) (.cons (.int _) .nil)))))
theorem chk_eq (n pa l : Int) (ws : List Int) (z : Int) (h : z = 7 * pa + 11 * l + 13 * n + sumW 1 ws) : z % 251 = chk n pa l ws := by
  unfold chk
  rw [h]
  congr 1
  omega
section
variable {P : Program} {w : World} {K : PySem.W.Frag} {mg : Str → Option Value} {base : Heap} {A : Adr}
def spLLoad : Sp := fun vs H Q _ => ∃ (n : Int) (a : Addr) (ws : List Int) (p : Nat), vs = [.int n, .ref a, .int (p : Int)] ∧ H a = some (.tup (ws.map V.int)) ∧ ws.length ≤ 1000 ∧
  ∀ (H' : Hp) (r q : Addr), Same H H' → LoadAt H' r n (p : Int) (((ws.length : Int) - 1) / 4 - (p : Int)) q ((ws.drop (4 * p)).take 4) (chk n (p : Int) (((ws.length : Int) - 1) / 4 - (p : Int)) ((ws.drop (4 * p)).take 4)) → Q (.ref r) H'
theorem ok_law_load (T : Top K mg A) : FnOk P w K mg base CX0 1 A.a_law_load A.d_law_load P_law_load spLLoad := by
  refine T.F_law_load.ok sc_law_load (fun vs H Q E h => ?_) (fun cdv A' outer s H vs Q E hr h => ?_)
  · obtain ⟨n, a, ws, p, rfl, _⟩ := h
    rfl
  · obtain ⟨n, a, ws, p, rfl, ha, lw, k⟩ := h
    refine ⟨_, (pss_cons (ps_set (i := 3) sc_law_load.nd rfl (.inl rfl) (pe_op op_sub (pe_op op_fdiv (pe_op op_sub (pe_callB call_len_seq (by rfl) T.z_len (by decide +kernel) (pa_cons (pv 1) pa_nil)) pe_int) pe_int) (pv 2)))
    (pss_cons (ps_set (i := 4) sc_law_load.nd rfl (.inl rfl) (pe_slice sl_tupA (pv 1) (po_some (pe_op op_mul pe_int (pv 2))) (po_some (pe_op op_add (pe_op op_mul pe_int (pv 2)) pe_int))))
    (pss_cons (ps_set (i := 5) sc_law_load.nd rfl (.inl rfl) (pe_op op_add (pe_op op_add (pe_op op_mul pe_int (pv 2)) (pe_op op_mul pe_int (pv 3))) (pe_op op_mul pe_int (pv 0))))
    (pss_cons (ps_for PassesOwn.never rfl (pi_range1 rfl T.z_range (pa_cons (pe_callB call_len_seq (by rfl) T.z_len (by decide +kernel) (pa_cons (pv 4) pa_nil)) pa_nil)) (pg_name (i := 6) sc_law_load.nd rfl (.inl rfl)) (pss_one (ps_set (i := 5) sc_law_load.nd rfl (.inl rfl) (pe_op op_add (pv 5) (pe_op op_mul (pe_op op_add (pv 6) pe_int) (pe_ix ix_tup (pv 4) (pv 6) (fun _ _ => rfl)))))))
    (pss_one (ps_ret (pe_tup (pa_cons (pv 0) (pa_cons (pv 2) (pa_cons (pv 3) (pa_cons (pv 4) (pa_cons (pe_op op_mod (pe_callTy call_int1 (by rfl) T.z_int (by decide +kernel) (pa_cons (pv 5) pa_nil)) pe_int) pa_nil)))))))))))), ?_⟩
    refine ⟨_, rfl, a, _, rfl, .inr (SqT.of ha), _, _, rfl, rfl, _, _, rfl, rfl, ⟨by decide, by decide⟩, _, rfl, _, _, rfl, rfl, ?_⟩
    rw [List.length_map]
    refine ⟨_, rfl, _, rfl, _, _, rfl, rfl, .inl ⟨by decide, by decide⟩, _, rfl, _, rfl, _, _, rfl, rfl, .inl ⟨by decide, by decide⟩, _, _, rfl, rfl, _, rfl, ?_⟩
    refine sl_at ha fun H1 q s1 e1 => ?_
    rw [cut_ints, cut_quad] at e1
    have lq : ((ws.drop (4 * p)).take 4).length ≤ 4 := by rw [List.length_take]; omega
    generalize hq : (ws.drop (4 * p)).take 4 = qs at e1 k lq ⊢
    refine ⟨_, rfl, _, _, rfl, rfl, .inl ⟨by decide, by decide⟩, _, rfl, _, _, rfl, rfl, .inl ⟨by decide, by decide⟩, _, _, rfl, rfl, _, rfl, _, _, rfl, rfl, .inl ⟨by decide, by decide⟩, _, _, rfl, rfl, ?_⟩
    refine ⟨_, rfl, q, _, rfl, .inr (SqT.of e1), _, rfl, by omega, by rw [List.length_map]; omega, ?_⟩
    refine for_range (lo := 0) (n := (((qs.map V.int).length : Nat) : Int).toNat) (fun i σ H' => ∃ (y6 : Option V), σ = [some (.int n), some (.ref a), some (.int (p : Int)), some (.int (((ws.length : Int) - 1) / 4 - (p : Int))), some (.ref q), some (.int (7 * (p : Int) + 11 * (((ws.length : Int) - 1) / 4 - (p : Int)) + 13 * n + sumW 1 (qs.take i))), y6] ∧ H' = H1) ⟨_, by
      show _ = ([some (.int n), some (.ref a), some (.int (p : Int)), some (.int (((ws.length : Int) - 1) / 4 - (p : Int))), some (.ref q), some (.int (7 * (p : Int) + 11 * (((ws.length : Int) - 1) / 4 - (p : Int)) + 13 * n + 0)), none] : L2.St)
      rw [Int.add_zero]
      rfl, rfl⟩ ?_ ?_
    · rintro i σ H2 hi ⟨y6, rfl, rfl⟩
      rw [Int.toNat_natCast, List.length_map] at hi
      have hx : qs[i]? = some qs[i] := List.getElem?_eq_getElem hi
      have hx2 : (qs.map V.int)[i]? = some (.int qs[i]) := by rw [List.getElem?_map, hx]; rfl
      refine ⟨_, rfl, _, rfl, _, _, rfl, rfl, _, rfl, _, rfl, q, _, _, _, rfl, rfl, SqT.of e1, at_of (j := i) (by omega) hx2, _, _, rfl, rfl, .inl ⟨by omega, by omega⟩, _, _, rfl, rfl, ?_⟩
      refine ⟨some (.int (0 + (i : Int))), ?_, rfl⟩
      show ([some (.int n), some (.ref a), some (.int (p : Int)), some (.int (((ws.length : Int) - 1) / 4 - (p : Int))), some (.ref q), some (.int (7 * (p : Int) + 11 * (((ws.length : Int) - 1) / 4 - (p : Int)) + 13 * n + sumW 1 (qs.take i) + (0 + (i : Int) + 1) * qs[i])), some (.int (0 + (i : Int)))] : L2.St) = _
      rw [sumW_snoc 1 qs i _ hx, show (0 + (i : Int) + 1) = 1 + (i : Int) by omega, Int.add_assoc (7 * (p : Int) + 11 * (((ws.length : Int) - 1) / 4 - (p : Int)) + 13 * n)]
    · rintro σ H2 ⟨y6, rfl, rfl⟩
      refine ⟨_, rfl, _, rfl, _, rfl, _, rfl, _, rfl, .inl ⟨_, rfl, _, _, rfl, rfl, (by show (0 : Int) < 251; decide), by show 5 ≤ sizeLine; decide, fun r nr => ?_⟩⟩
      have s2 := same_upd nr (o := .tup [.int n, .int (p : Int), .int (((ws.length : Int) - 1) / 4 - (p : Int)), .ref q, .int ((7 * (p : Int) + 11 * (((ws.length : Int) - 1) / 4 - (p : Int)) + 13 * n + sumW 1 (qs.take (((qs.map V.int).length : Nat) : Int).toNat)) % 251)])
      refine k _ r q (s1.trans s2) ⟨?_, s2 _ _ e1⟩
      rw [upd_same]
      have ec := chk_eq n (p : Int) (((ws.length : Int) - 1) / 4 - (p : Int)) qs (7 * (p : Int) + 11 * (((ws.length : Int) - 1) / 4 - (p : Int)) + 13 * n + sumW 1 qs) rfl
      rw [← ec, Int.toNat_natCast, List.length_map, List.take_length]
end

/-! ### who owns what -/
inductive Lab where
  | deck | cells | left | loads | gi | gl | gd (o : Nat) | gp (o : Nat) (n : Int) | bl | bd (o : Nat) | be (o : Nat) (n : Int) | bp (o : Nat) (n : Int)
def Ow := Addr → Option Lab
/-- what is kept: tuples, and what is owned under labels not in S -/
structure Kpt (S : Lab → Prop) (H : Hp) (ℓ : Ow) (H' : Hp) (ℓ' : Ow) : Prop where
  tup : ∀ q ys, H q = some (.tup ys) → H' q = some (.tup ys)
  kep : ∀ q o l, H q = some o → ℓ q = some l → ¬ S l → H' q = some o
  liv : ∀ q, H q ≠ none → H' q ≠ none
  own : ∀ q, H q ≠ none → ℓ' q = ℓ q
theorem some_ne {H : Hp} {q : Addr} {o : HO} (e : H q = some o) : H q ≠ none := fun z => by rw [e] at z; cases z
theorem Kpt.refl (S : Lab → Prop) (H : Hp) (ℓ : Ow) : Kpt S H ℓ H ℓ := ⟨fun _ _ h => h, fun _ _ _ h _ _ => h, fun _ h => h, fun _ _ => rfl⟩
theorem Kpt.trans {S : Lab → Prop} {H H1 H2 : Hp} {ℓ ℓ1 ℓ2 : Ow} (a : Kpt S H ℓ H1 ℓ1) (b : Kpt S H1 ℓ1 H2 ℓ2) : Kpt S H ℓ H2 ℓ2 :=
  ⟨fun q ys h => b.tup q ys (a.tup q ys h), fun q o l h hl hs => b.kep q o l (a.kep q o l h hl hs) ((a.own q (some_ne h)).trans hl) hs, fun q h => b.liv q (a.liv q h), fun q h => (b.own q (a.liv q h)).trans (a.own q h)⟩
theorem Kpt.mono {S S' : Lab → Prop} {H H1 : Hp} {ℓ ℓ1 : Ow} (a : Kpt S H ℓ H1 ℓ1) (h : ∀ l, S l → S' l) : Kpt S' H ℓ H1 ℓ1 :=
  ⟨a.tup, fun q o l e hl hs => a.kep q o l e hl (fun z => hs (h l z)), a.liv, a.own⟩
theorem live_same {H H1 : Hp} (s : Same H H1) {q : Addr} (h : H q ≠ none) : H1 q ≠ none := by
  cases e : H q with
  | none => exact absurd e h
  | some o => exact some_ne (s _ _ e)
theorem Kpt.same {S : Lab → Prop} {H H1 : Hp} {ℓ : Ow} (s : Same H H1) : Kpt S H ℓ H1 ℓ :=
  ⟨fun q ys h => s _ _ h, fun q o l h _ _ => s _ _ h, fun q h => live_same s h, fun _ _ => rfl⟩
theorem Kpt.kp {S : Lab → Prop} {H H1 : Hp} {ℓ : Ow} {h : Addr} {l : Lab} {ys : List V} (s : Kp h H H1) (hh : H h = some (.lst ys)) (h1 : H1 h ≠ none) (hl : ℓ h = some l) (sl : S l) : Kpt S H ℓ H1 ℓ := by
  refine ⟨fun q ys e => s _ _ (ne_of e hh (by intro z; cases z)) e, fun q o l' e hl' hs => s _ _ (fun z => ?_) e, fun q hq => ?_, fun _ _ => rfl⟩
  · rw [z, hl] at hl'
    cases hl'
    exact hs sl
  · by_cases z : q = h
    · rw [z]
      exact h1
    · cases e : H q with
      | none => exact absurd e hq
      | some o => exact some_ne (s _ _ z e)
theorem Kpt.upd {S : Lab → Prop} {H : Hp} {ℓ : Ow} {h : Addr} {l : Lab} {o u : HO} (hh : H h = some o) (nt : ∀ ys, o ≠ .tup ys) (hl : ℓ h = some l) (sl : S l) : Kpt S H ℓ (L2.upd H h u) ℓ := by
  refine ⟨fun q ys e => ?_, fun q o' l' e hl' hs => ?_, fun q hq => ?_, fun _ _ => rfl⟩
  · rw [upd_ne (ne_of e hh (fun z => nt ys z.symm))]
    exact e
  · have hq : q ≠ h := fun z => by
      rw [z, hl] at hl'
      cases hl'
      exact hs sl
    rw [upd_ne hq]
    exact e
  · by_cases z : q = h
    · rw [z, upd_same]
      intro z
      cases z
    · rw [upd_ne z]
      exact hq
open Classical in
/-- a new owner -/
noncomputable def own (ℓ : Ow) (a : Addr) (l : Lab) : Ow := fun q => if q = a then some l else ℓ q
theorem own_same {ℓ : Ow} {a : Addr} {l : Lab} : own ℓ a l a = some l := if_pos rfl
theorem own_ne {ℓ : Ow} {a q : Addr} {l : Lab} (h : q ≠ a) : own ℓ a l q = ℓ q := if_neg h
theorem Kpt.own_ {S : Lab → Prop} {H H1 : Hp} {ℓ ℓ1 : Ow} {a : Addr} {l : Lab} (k : Kpt S H ℓ H1 ℓ1) (na : H a = none) : Kpt S H ℓ H1 (KX.own ℓ1 a l) :=
  ⟨k.tup, k.kep, k.liv, fun q h => (own_ne (fun z => h (by rw [z]; exact na))).trans (k.own q h)⟩
theorem Kpt.ne_new {S : Lab → Prop} {H H1 : Hp} {ℓ ℓ1 : Ow} {a q : Addr} (na : H a = none) (h : H q ≠ none) : q ≠ a := fun z => h (by rw [z]; exact na)
theorem Kpt.free {S : Lab → Prop} {H H1 : Hp} {ℓ ℓ1 : Ow} {a : Addr} (k : Kpt S H ℓ H1 ℓ1) (na : H1 a = none) : H a = none := Classical.byContradiction fun z => k.liv a z na
/-! ### what waits at an output: packets, with how many parts, and the words of those that came -/
abbrev Wd := List Int
abbrev Pn := List (Int × Wd)
abbrev Bk := List (Int × Int × Pn)
def keysP (ps : Pn) : List Int := ps.map (·.1)
def getW (ps : Pn) (k : Int) : Option Wd := (ps.find? fun p => decide (p.1 = k)).map (·.2)
def getB (b : Bk) (k : Int) : Option (Int × Pn) := (b.find? fun p => decide (p.1 = k)).map (·.2)
def putB (b : Bk) (k : Int) (e : Int × Pn) : Bk := if (b.any fun p => decide (p.1 = k)) then b.map (fun p => if p.1 = k then (k, e) else p) else b ++ [(k, e)]
def gathW (ps : Pn) (n : Nat) : Wd := (List.range n).flatMap fun (j : Nat) => (getW ps (j : Int)).getD []
inductive Out where
  | told (r : Option Wd) | twice | mixed
def finO (m : Int) (ps : Pn) : Option Wd := if (ps.length : Int) < m then none else some (gathW ps m.toNat)
def entB (b : Bk) (n p l : Int) : Int × Pn := (getB b n).getD (p + l + 1, [])
def outB (b : Bk) (n p l : Int) (ws : Wd) : Out :=
  if p ∈ keysP (entB b n p l).2 then .twice else if p + l + 1 ≠ (entB b n p l).1 then .mixed else .told (finO (entB b n p l).1 ((entB b n p l).2 ++ [(p, ws)]))
def nxtB (b : Bk) (n p l : Int) (ws : Wd) : Bk :=
  if p ∈ keysP (entB b n p l).2 then b else if p + l + 1 ≠ (entB b n p l).1 then b else putB b n ((entB b n p l).1, (entB b n p l).2 ++ [(p, ws)])
/-- what may stand in a book -/
structure PnOk (m : Int) (ps : Pn) : Prop where
  nd : (keysP ps).Nodup
  lt : ∀ k ∈ keysP ps, 0 ≤ k ∧ k < m
  few : ∀ p ∈ ps, p.2.length ≤ 4
structure BkOk (b : Bk) : Prop where
  nd : (b.map (·.1)).Nodup
  ok : ∀ e ∈ b, 1 ≤ e.2.1 ∧ e.2.1 ≤ 10 ∧ PnOk e.2.1 e.2.2
theorem find_key {α : Type} {b : List (Int × α)} {k : Int} {e : Int × α} (h : (b.find? fun p => decide (p.1 = k)) = some e) : e ∈ b ∧ e.1 = k :=
  ⟨List.mem_of_find?_eq_some h, of_decide_eq_true (List.find?_some (p := fun p : Int × α => decide (p.1 = k)) h)⟩
theorem getB_mem {b : Bk} {k : Int} {e : Int × Pn} (h : getB b k = some e) : (k, e) ∈ b := by
  unfold getB at h
  cases c : b.find? fun p => decide (p.1 = k) with
  | none => rw [c] at h; cases h
  | some q =>
    rw [c] at h
    cases h
    obtain ⟨h1, h2⟩ := find_key c
    rw [← h2]
    exact h1
theorem PnOk.nil {m : Int} : PnOk m [] := ⟨List.nodup_nil, fun _ h => absurd h List.not_mem_nil, fun _ h => absurd h List.not_mem_nil⟩
theorem PnOk.snoc {m : Int} {ps : Pn} (g : PnOk m ps) {p : Int} {ws : Wd} (h : p ∉ keysP ps) (h0 : 0 ≤ p) (h1 : p < m) (hw : ws.length ≤ 4) : PnOk m (ps ++ [(p, ws)]) := by
  have e : keysP (ps ++ [(p, ws)]) = keysP ps ++ [p] := by unfold keysP; rw [List.map_append]; rfl
  refine ⟨?_, fun k hk => ?_, fun q hq => ?_⟩
  · rw [e, List.nodup_append]
    exact ⟨g.nd, List.nodup_cons.mpr ⟨List.not_mem_nil, List.nodup_nil⟩, fun a ha b hb z => by
      rw [List.mem_singleton] at hb
      rw [z, hb] at ha
      exact h ha⟩
  · rw [e] at hk
    rcases List.mem_append.mp hk with z | z
    · exact g.lt k z
    · rw [List.mem_singleton] at z
      subst z
      exact ⟨h0, h1⟩
  · rcases List.mem_append.mp hq with z | z
    · exact g.few q z
    · rw [List.mem_singleton] at z
      subst z
      exact hw
theorem nd_le {α : Type} [DecidableEq α] : ∀ {l m : List α}, l.Nodup → (∀ x ∈ l, x ∈ m) → l.length ≤ m.length
  | [], _, _, _ => Nat.zero_le _
  | a :: l, m, nd, h => by
    rw [List.nodup_cons] at nd
    have ha := h a List.mem_cons_self
    have ih := nd_le (l := l) (m := m.erase a) nd.2 fun x hx => (List.mem_erase_of_ne (fun z => nd.1 (by rw [← z]; exact hx))).mpr (h x (List.mem_cons_of_mem _ hx))
    rw [List.length_erase_of_mem ha] at ih
    have := List.length_pos_of_mem ha
    rw [List.length_cons]
    omega
theorem PnOk.len {m : Int} {ps : Pn} (g : PnOk m ps) (hm : 0 ≤ m) : (ps.length : Int) ≤ m := by
  have h := nd_le (l := keysP ps) (m := (List.range m.toNat).map fun (j : Nat) => (j : Int)) g.nd fun k hk => by
    obtain ⟨h0, h1⟩ := g.lt k hk
    exact List.mem_map.mpr ⟨k.toNat, List.mem_range.mpr (by omega), by omega⟩
  rw [List.length_map, List.length_range] at h
  unfold keysP at h
  rw [List.length_map] at h
  omega
theorem PnOk.full {m : Int} {ps : Pn} (g : PnOk m ps) (h : ¬ (ps.length : Int) < m) {j : Nat} (hj : (j : Int) < m) : (j : Int) ∈ keysP ps := by
  refine Classical.byContradiction fun z => ?_
  have q := nd_le (l := (j : Int) :: keysP ps) (m := (List.range m.toNat).map fun (j : Nat) => (j : Int)) (List.nodup_cons.mpr ⟨z, g.nd⟩) fun k hk => by
    rcases List.mem_cons.mp hk with e | hk
    · exact List.mem_map.mpr ⟨j, List.mem_range.mpr (by omega), e.symm⟩
    · obtain ⟨h0, h1⟩ := g.lt k hk
      exact List.mem_map.mpr ⟨k.toNat, List.mem_range.mpr (by omega), by omega⟩
  rw [List.length_cons, List.length_map, List.length_range] at q
  unfold keysP at q
  rw [List.length_map] at q
  omega
theorem getW_in {ps : Pn} {k : Int} (h : k ∈ keysP ps) : ∃ ws, getW ps k = some ws ∧ (k, ws) ∈ ps := by
  unfold getW
  obtain ⟨p, hp, rfl⟩ := List.mem_map.mp h
  cases c : ps.find? fun q => decide (q.1 = p.1) with
  | none =>
    have := List.find?_eq_none.mp c p hp
    exact absurd (decide_eq_true rfl) this
  | some q =>
    obtain ⟨h1, h2⟩ := find_key c
    exact ⟨q.2, rfl, by rw [← h2]; exact h1⟩
theorem entB_ok {b : Bk} (g : BkOk b) {n p l : Int} (hp : 0 ≤ p) (hl : 0 ≤ l) (ht : p + l ≤ 9) : 1 ≤ (entB b n p l).1 ∧ (entB b n p l).1 ≤ 10 ∧ PnOk (entB b n p l).1 (entB b n p l).2 := by
  unfold entB
  cases c : getB b n with
  | none => exact ⟨by show 1 ≤ p + l + 1; omega, by show p + l + 1 ≤ 10; omega, PnOk.nil⟩
  | some e => exact g.ok _ (getB_mem c)
theorem putB_keys {b : Bk} {k : Int} {e : Int × Pn} : (putB b k e).map (·.1) = if k ∈ b.map (·.1) then b.map (·.1) else b.map (·.1) ++ [k] := by
  unfold putB
  by_cases c : (b.any fun p => decide (p.1 = k)) = true
  · rw [if_pos c]
    obtain ⟨p, hp, z⟩ := List.any_eq_true.mp c
    rw [if_pos (List.mem_map.mpr ⟨p, hp, of_decide_eq_true z⟩), List.map_map]
    refine List.map_congr_left fun q _ => ?_
    show (if q.1 = k then (k, e) else q).1 = q.1
    by_cases z : q.1 = k
    · rw [if_pos z]; exact z.symm
    · rw [if_neg z]
  · rw [if_neg c, if_neg, List.map_append]
    · rfl
    · intro z
      obtain ⟨p, hp, z⟩ := List.mem_map.mp z
      exact c (List.any_eq_true.mpr ⟨p, hp, decide_eq_true z⟩)
theorem putB_mem {b : Bk} {k : Int} {e : Int × Pn} {x : Int × Int × Pn} (h : x ∈ putB b k e) : x ∈ b ∨ x = (k, e) := by
  unfold putB at h
  split at h
  · obtain ⟨q, hq, z⟩ := List.mem_map.mp h
    by_cases c : q.1 = k
    · rw [if_pos c] at z
      exact .inr z.symm
    · rw [if_neg c] at z
      exact .inl (by rw [← z]; exact hq)
  · rcases List.mem_append.mp h with z | z
    · exact .inl z
    · exact .inr (List.mem_singleton.mp z)
theorem BkOk.put {b : Bk} (g : BkOk b) {k : Int} {e : Int × Pn} (h : 1 ≤ e.1 ∧ e.1 ≤ 10 ∧ PnOk e.1 e.2) : BkOk (putB b k e) := by
  refine ⟨?_, fun x hx => ?_⟩
  · rw [putB_keys]
    split
    · exact g.nd
    · rename_i z
      rw [List.nodup_append]
      exact ⟨g.nd, List.nodup_cons.mpr ⟨List.not_mem_nil, List.nodup_nil⟩, fun a ha c hc q => by
        rw [List.mem_singleton] at hc
        rw [q, hc] at ha
        exact z ha⟩
  · rcases putB_mem hx with z | z
    · exact g.ok x z
    · subst z
      exact h
theorem BkOk.nxt {b : Bk} (g : BkOk b) {n p l : Int} {ws : Wd} (hp : 0 ≤ p) (hl : 0 ≤ l) (ht : p + l ≤ 9) (hw : ws.length ≤ 4) : BkOk (nxtB b n p l ws) := by
  unfold nxtB
  obtain ⟨h1, h2, h3⟩ := entB_ok g (n := n) hp hl ht
  split
  · exact g
  · rename_i z1
    split
    · exact g
    · rename_i z2
      exact g.put ⟨h1, h2, h3.snoc z1 hp (by omega) hw⟩
theorem putB_len {b : Bk} {k : Int} {e : Int × Pn} : (putB b k e).length ≤ b.length + 1 := by
  unfold putB
  split
  · rw [List.length_map]; omega
  · rw [List.length_append]; exact Nat.le_refl _
theorem nxtB_len {b : Bk} {n p l : Int} {ws : Wd} : (nxtB b n p l ws).length ≤ b.length + 1 := by
  unfold nxtB
  split
  · omega
  · split
    · omega
    · exact putB_len

/-! ### dicts over what they hold -/
theorem look {α : Type} {R : Key × V → Int × α → Prop} (hk : ∀ a b, R a b → a.1 = .inl b.1) (k : Int) : ∀ {kvs : List (Key × V)} {xs : List (Int × α)}, All2 R kvs xs →
    (valV kvs (.inl k) = none ∧ (xs.find? fun p => decide (p.1 = k)) = none) ∨ ∃ v e, valV kvs (.inl k) = some v ∧ (xs.find? fun p => decide (p.1 = k)) = some (k, e) ∧ R (.inl k, v) (k, e)
  | _, _, .nil => .inl ⟨rfl, rfl⟩
  | _, _, .cons (a := a) (b := b) h t => by
    have e := hk _ _ h
    by_cases c : b.1 = k
    · right
      obtain ⟨a1, a2⟩ := a
      obtain ⟨b1, b2⟩ := b
      have e : a1 = .inl b1 := e
      have c : b1 = k := c
      subst e c
      exact ⟨a2, b2, valV_pos rfl, List.find?_cons_of_pos (p := fun p : Int × α => decide (p.1 = b1)) (decide_eq_true rfl), h⟩
    · have c2 : ¬ a.1 = .inl k := fun z => by
        rw [e] at z
        cases z
        exact c rfl
      rw [valV_neg c2, List.find?_cons_of_neg (p := fun p : Int × α => decide (p.1 = k)) (fun z => c (of_decide_eq_true z))]
      exact look hk k t
theorem All2.map2 {α β γ δ : Type} {R : α → β → Prop} {R' : γ → δ → Prop} {f : α → γ} {g : β → δ} (h : ∀ a b, R a b → R' (f a) (g b)) : ∀ {as : List α} {bs : List β}, All2 R as bs → All2 R' (as.map f) (bs.map g)
  | _, _, .nil => .nil
  | _, _, .cons a t => .cons (h _ _ a) (t.map2 h)
theorem any_key {α : Type} {R : Key × V → Int × α → Prop} (hk : ∀ a b, R a b → a.1 = .inl b.1) (k : Int) : ∀ {kvs : List (Key × V)} {xs : List (Int × α)}, All2 R kvs xs →
    (kvs.any fun kv => decide (kv.1 = (.inl k : Key))) = xs.any fun p => decide (p.1 = k)
  | _, _, .nil => rfl
  | _, _, .cons (a := a) (b := b) h t => by
    rw [List.any_cons, List.any_cons, any_key hk k t, hk _ _ h]
    congr 1
    exact decide_eq_decide.mpr ⟨fun z => Sum.inl.inj z, fun z => by rw [z]⟩
theorem put2 {R R' : Key × V → Int × Int × Pn → Prop} (hk : ∀ a b, R a b → a.1 = .inl b.1) {k : Int} {v : V} {e : Int × Pn} (hn : R' (.inl k, v) (k, e)) (hs : ∀ a b, R a b → b.1 ≠ k → R' a b) {kvs : List (Key × V)} {xs : Bk} (h : All2 R kvs xs) :
    All2 R' (putK kvs (.inl k) v) (putB xs k e) := by
  unfold putK putB
  rw [any_key hk k h]
  by_cases c : (xs.any fun p => decide (p.1 = k)) = true
  · rw [if_pos c, if_pos c]
    refine h.map2 fun a b r => ?_
    have ea := hk _ _ r
    by_cases z : b.1 = k
    · rw [if_pos (by rw [ea, z]), if_pos z, ea, z]
      exact hn
    · rw [if_neg (fun q => z (Sum.inl.inj (ea.symm.trans q))), if_neg z]
      exact hs _ _ r z
  · rw [if_neg c, if_neg c]
    have h2 : All2 R' kvs xs := by
      refine All2.rec (motive := fun as bs _ => (bs.any fun p => decide (p.1 = k)) = false → All2 R' as bs) (fun _ => .nil) (fun {a b as bs} r _ ih q => ?_) h (by
        cases q : xs.any fun p => decide (p.1 = k) with
        | false => rfl
        | true => exact absurd q c)
      rw [List.any_cons, Bool.or_eq_false_iff] at q
      exact .cons (hs _ _ r (of_decide_eq_false q.1)) (ih q.2)
    exact h2.snoc hn
/-! ### parts that came, at an address -/
def PrtAt (H : Hp) (kv : Key × V) (p : Int × Wd) : Prop := kv.1 = .inl p.1 ∧ ∃ t, kv.2 = .ref t ∧ H t = some (.tup (p.2.map V.int))
theorem PrtAt.keep {H H' : Hp} (s : ∀ q ys, H q = some (.tup ys) → H' q = some (.tup ys)) {kv : Key × V} {p : Int × Wd} (h : PrtAt H kv p) : PrtAt H' kv p :=
  let ⟨h1, t, h2, h3⟩ := h; ⟨h1, t, h2, s _ _ h3⟩
structure PartsAt (H : Hp) (a : Addr) (ps : Pn) : Prop where
  ex : ∃ kvs, H a = some (.dK kvs) ∧ All2 (PrtAt H) kvs ps
theorem PartsAt.keep {H H' : Hp} (s : ∀ q ys, H q = some (.tup ys) → H' q = some (.tup ys)) {a : Addr} {ps : Pn} (h : PartsAt H a ps) (e : ∀ o, H a = some o → H' a = some o) : PartsAt H' a ps :=
  let ⟨kvs, h1, h2⟩ := h.ex; ⟨kvs, e _ h1, h2.imp fun _ _ r => r.keep s⟩
theorem PartsAt.len {H : Hp} {a : Addr} {ps : Pn} (h : PartsAt H a ps) : ∃ kvs, H a = some (.dK kvs) ∧ kvs.length = ps.length := let ⟨kvs, h1, h2⟩ := h.ex; ⟨kvs, h1, h2.len⟩
theorem PartsAt.get {H : Hp} {a : Addr} {ps : Pn} (h : PartsAt H a ps) (k : Int) : ∃ o, DGet H a (.int k) o ∧ ((getW ps k = none ∧ o = none) ∨ ∃ ws t, getW ps k = some ws ∧ o = some (.ref t) ∧ H t = some (.tup (ws.map V.int))) := by
  obtain ⟨kvs, h1, h2⟩ := h.ex
  refine ⟨_, DGet.k (k := .inl k) h1, ?_⟩
  rcases look (fun _ _ r => r.1) k h2 with ⟨z1, z2⟩ | ⟨v, e, z1, z2, _, t, z3, z4⟩
  · left
    exact ⟨by unfold getW; rw [z2]; rfl, z1⟩
  · right
    have z3 : v = .ref t := z3
    subst z3
    exact ⟨e, t, by unfold getW; rw [z2]; rfl, z1, z4⟩
theorem getW_none {ps : Pn} {k : Int} : getW ps k = none ↔ k ∉ keysP ps := by
  constructor
  · intro h z
    obtain ⟨ws, e, _⟩ := getW_in z
    rw [h] at e
    cases e
  · intro h
    cases e : getW ps k with
    | none => rfl
    | some ws =>
      unfold getW at e
      cases c : ps.find? fun p => decide (p.1 = k) with
      | none => rw [c] at e; cases e
      | some q =>
        obtain ⟨h1, h2⟩ := find_key c
        exact absurd (List.mem_map.mpr ⟨q, h1, h2⟩) h
theorem PartsAt.has {H : Hp} {a : Addr} {ps : Pn} (h : PartsAt H a ps) (k : Int) : ∃ o, DGet H a (.int k) o ∧ o.isSome = decide (k ∈ keysP ps) := by
  obtain ⟨o, h1, h2⟩ := h.get k
  refine ⟨o, h1, ?_⟩
  rcases h2 with ⟨z1, rfl⟩ | ⟨ws, t, z1, rfl, _⟩
  · exact (decide_eq_false (getW_none.mp z1)).symm
  · refine (decide_eq_true (Classical.byContradiction fun z => ?_)).symm
    rw [getW_none.mpr z] at z1
    cases z1
/-- one more part -/
theorem PartsAt.put {H : Hp} {a : Addr} {ps : Pn} (h : PartsAt H a ps) {k : Int} (hk : k ∉ keysP ps) {t : Addr} {ws : Wd} (ht : H t = some (.tup (ws.map V.int))) (few : ps.length ≤ 1000) :
    ∃ kvs', DPut H a (.int k) (.ref t) (upd H a (.dK kvs')) ∧ PartsAt (upd H a (.dK kvs')) a (ps ++ [(k, ws)]) := by
  obtain ⟨kvs, h1, h2⟩ := h.ex
  have e : putK kvs (.inl k) (.ref t) = kvs ++ [(.inl k, .ref t)] := by
    refine putK_new _ ?_
    rcases look (fun _ _ r => r.1) k h2 with ⟨z1, _⟩ | ⟨v, e, _, z2, _⟩
    · exact z1
    · have := find_key z2
      exact absurd (List.mem_map.mpr ⟨_, this.1, rfl⟩) hk
  refine ⟨putK kvs (.inl k) (.ref t), DPut.k (k := .inl k) h1 (Nat.lt_of_le_of_lt (Nat.le_of_eq h2.len) (Nat.lt_of_le_of_lt few (by decide))), ?_⟩
  have s : ∀ q ys, H q = some (.tup ys) → upd H a (.dK (putK kvs (.inl k) (.ref t))) q = some (.tup ys) := fun q ys hq => by
    rw [upd_ne (ne_of hq h1 (by intro z; cases z))]
    exact hq
  have h3 := (h2.imp fun _ _ r => r.keep s).snoc (a := ((.inl k : Key), V.ref t)) (b := (k, ws)) ⟨rfl, t, rfl, s _ _ ht⟩
  rw [← e] at h3
  exact ⟨_, upd_same, h3⟩

/-! ### the gatherer, and the law's books -/
def EnG (H : Hp) (ℓ : Ow) (o : Nat) (kv : Key × V) (e : Int × Int × Pn) : Prop :=
  kv.1 = .inl e.1 ∧ ∃ t a, kv.2 = .ref t ∧ H t = some (.tup [.int e.2.1, .ref a]) ∧ ℓ a = some (.gp o e.1) ∧ PartsAt H a e.2.2
def EnL (H : Hp) (ℓ : Ow) (o : Nat) (kv : Key × V) (e : Int × Int × Pn) : Prop :=
  kv.1 = .inl e.1 ∧ ∃ t a, kv.2 = .ref t ∧ H t = some (.lst [.int e.2.1, .ref a]) ∧ ℓ t = some (.be o e.1) ∧ ℓ a = some (.bp o e.1) ∧ PartsAt H a e.2.2
structure BkG (H : Hp) (ℓ : Ow) (o : Nat) (a : Addr) (b : Bk) : Prop where
  own : ℓ a = some (.gd o)
  ex : ∃ kvs, H a = some (.dK kvs) ∧ All2 (EnG H ℓ o) kvs b
structure BkL (H : Hp) (ℓ : Ow) (o : Nat) (a : Addr) (b : Bk) : Prop where
  own : ℓ a = some (.bd o)
  ex : ∃ kvs, H a = some (.dK kvs) ∧ All2 (EnL H ℓ o) kvs b
structure GAt (C : Addr) (H : Hp) (ℓ : Ow) (g : Addr) (st : List Bk) : Prop where
  ex : ∃ (dx L : Addr) (as : List Addr), H g = some (.ins C dx [("_begun", .ref L)]) ∧ ℓ g = some .gi ∧ H L = some (.lst (as.map V.ref)) ∧ ℓ L = some .gl ∧ as.length = st.length ∧ ∀ o a b, as[o]? = some a → st[o]? = some b → BkG H ℓ o a b
structure LAt (H : Hp) (ℓ : Ow) (g : Addr) (st : List Bk) : Prop where
  ex : ∃ as : List Addr, H g = some (.lst (as.map V.ref)) ∧ ℓ g = some .bl ∧ as.length = st.length ∧ ∀ o a b, as[o]? = some a → st[o]? = some b → BkL H ℓ o a b
section
variable {S : Lab → Prop} {H H' : Hp} {ℓ ℓ' : Ow}
theorem Kpt.lab (k : Kpt S H ℓ H' ℓ') {q : Addr} {o : HO} {l : Lab} (e : H q = some o) (h : ℓ q = some l) : ℓ' q = some l := (k.own q (some_ne e)).trans h
theorem PartsAt.ali {a : Addr} {ps : Pn} (h : PartsAt H a ps) : ∃ o, H a = some o := let ⟨kvs, e, _⟩ := h.ex; ⟨_, e⟩
theorem PartsAt.kpt (k : Kpt S H ℓ H' ℓ') {a : Addr} {ps : Pn} {l : Lab} (h : PartsAt H a ps) (hl : ℓ a = some l) (hs : ¬ S l) : PartsAt H' a ps := h.keep k.tup fun o e => k.kep a o l e hl hs
theorem EnG.kpt (k : Kpt S H ℓ H' ℓ') {o : Nat} {kv : Key × V} {e : Int × Int × Pn} (h : EnG H ℓ o kv e) (hs : ¬ S (.gp o e.1)) : EnG H' ℓ' o kv e := by
  obtain ⟨h1, t, a, h2, h3, h4, h5⟩ := h
  obtain ⟨_, ha⟩ := h5.ali
  exact ⟨h1, t, a, h2, k.tup _ _ h3, k.lab ha h4, h5.kpt k h4 hs⟩
theorem EnL.kpt (k : Kpt S H ℓ H' ℓ') {o : Nat} {kv : Key × V} {e : Int × Int × Pn} (h : EnL H ℓ o kv e) (h1 : ¬ S (.be o e.1)) (hs : ¬ S (.bp o e.1)) : EnL H' ℓ' o kv e := by
  obtain ⟨h0, t, a, h2, h3, h6, h4, h5⟩ := h
  obtain ⟨_, ha⟩ := h5.ali
  exact ⟨h0, t, a, h2, k.kep _ _ _ h3 h6 h1, k.lab h3 h6, k.lab ha h4, h5.kpt k h4 hs⟩
theorem BkG.kpt (k : Kpt S H ℓ H' ℓ') {o : Nat} {a : Addr} {b : Bk} (h : BkG H ℓ o a b) (h1 : ¬ S (.gd o)) (h2 : ∀ n, ¬ S (.gp o n)) : BkG H' ℓ' o a b :=
  let ⟨kvs, e, al⟩ := h.ex; ⟨k.lab e h.own, kvs, k.kep _ _ _ e h.own h1, al.imp fun _ _ r => EnG.kpt k r (h2 _)⟩
theorem BkL.kpt (k : Kpt S H ℓ H' ℓ') {o : Nat} {a : Addr} {b : Bk} (h : BkL H ℓ o a b) (h1 : ¬ S (.bd o)) (h2 : ∀ n, ¬ S (.bp o n)) (h3 : ∀ n, ¬ S (.be o n)) : BkL H' ℓ' o a b :=
  let ⟨kvs, e, al⟩ := h.ex; ⟨k.lab e h.own, kvs, k.kep _ _ _ e h.own h1, al.imp fun _ _ r => EnL.kpt k r (h3 _) (h2 _)⟩
def isG : Lab → Prop
  | .gi | .gl | .gd _ | .gp _ _ => True
  | _ => False
def isB : Lab → Prop
  | .bl | .bd _ | .be _ _ | .bp _ _ => True
  | _ => False
theorem GAt.kpt {C : Addr} (k : Kpt S H ℓ H' ℓ') {g : Addr} {st : List Bk} (h : GAt C H ℓ g st) (hs : ∀ l, isG l → ¬ S l) : GAt C H' ℓ' g st :=
  let ⟨dx, L, as, h1, h2, h3, h4, h5, h6⟩ := h.ex
  ⟨dx, L, as, k.kep _ _ _ h1 h2 (hs _ trivial), k.lab h1 h2, k.kep _ _ _ h3 h4 (hs _ trivial), k.lab h3 h4, h5, fun o a b ha hb => (h6 o a b ha hb).kpt k (hs _ trivial) (fun _ => hs _ trivial)⟩
theorem LAt.kpt (k : Kpt S H ℓ H' ℓ') {g : Addr} {st : List Bk} (h : LAt H ℓ g st) (hs : ∀ l, isB l → ¬ S l) : LAt H' ℓ' g st :=
  let ⟨as, h1, h2, h5, h6⟩ := h.ex
  ⟨as, k.kep _ _ _ h1 h2 (hs _ trivial), k.lab h1 h2, h5, fun o a b ha hb => (h6 o a b ha hb).kpt k (hs _ trivial) (fun _ => hs _ trivial) (fun _ => hs _ trivial)⟩
/-- what a step at output o touches -/
def atG (o : Nat) (l : Lab) : Prop := l = .gd o ∨ ∃ n, l = .gp o n
def atB (o : Nat) (l : Lab) : Prop := l = .bd o ∨ (∃ n, l = .bp o n) ∨ ∃ n, l = .be o n
theorem atG_ne {o o' : Nat} (h : o' ≠ o) : (¬ atG o (.gd o')) ∧ ∀ n, ¬ atG o (.gp o' n) :=
  ⟨fun z => by rcases z with z | ⟨_, z⟩ <;> cases z; exact h rfl, fun n z => by rcases z with z | ⟨_, z⟩ <;> cases z; exact h rfl⟩
theorem atB_ne {o o' : Nat} (h : o' ≠ o) : (¬ atB o (.bd o')) ∧ (∀ n, ¬ atB o (.bp o' n)) ∧ ∀ n, ¬ atB o (.be o' n) :=
  ⟨fun z => by rcases z with z | ⟨_, z⟩ | ⟨_, z⟩ <;> cases z; exact h rfl, fun n z => by rcases z with z | ⟨_, z⟩ | ⟨_, z⟩ <;> cases z; exact h rfl, fun n z => by rcases z with z | ⟨_, z⟩ | ⟨_, z⟩ <;> cases z; exact h rfl⟩
theorem GAt.put {C : Addr} {o : Nat} (k : Kpt (atG o) H ℓ H' ℓ') {g : Addr} {st : List Bk} {b : Bk} (h : GAt C H ℓ g st) (hb : ∀ (dx L : Addr) (as : List Addr), H g = some (.ins C dx [("_begun", .ref L)]) → H L = some (.lst (as.map V.ref)) → ∀ a, as[o]? = some a → BkG H' ℓ' o a b) : GAt C H' ℓ' g (st.set o b) := by
  obtain ⟨dx, L, as, h1, h2, h3, h4, h5, h6⟩ := h.ex
  refine ⟨dx, L, as, k.kep _ _ _ h1 h2 ?_, k.lab h1 h2, k.kep _ _ _ h3 h4 ?_, k.lab h3 h4, by rw [List.length_set]; exact h5, fun o' a b' ha hb' => ?_⟩
  · intro z; rcases z with z | ⟨_, z⟩ <;> cases z
  · intro z; rcases z with z | ⟨_, z⟩ <;> cases z
  · by_cases e : o' = o
    · subst e
      have lt : o' < st.length := by
        have := (List.getElem?_eq_some_iff.mp ha).1
        omega
      rw [List.getElem?_set_self lt] at hb'
      cases hb'
      exact hb dx L as h1 h3 a ha
    · rw [List.getElem?_set_ne (Ne.symm e)] at hb'
      exact (h6 o' a b' ha hb').kpt k (atG_ne e).1 (atG_ne e).2
theorem LAt.put {o : Nat} (k : Kpt (atB o) H ℓ H' ℓ') {g : Addr} {st : List Bk} {b : Bk} (h : LAt H ℓ g st) (hb : ∀ as : List Addr, H g = some (.lst (as.map V.ref)) → ∀ a, as[o]? = some a → BkL H' ℓ' o a b) : LAt H' ℓ' g (st.set o b) := by
  obtain ⟨as, h1, h2, h5, h6⟩ := h.ex
  refine ⟨as, k.kep _ _ _ h1 h2 ?_, k.lab h1 h2, by rw [List.length_set]; exact h5, fun o' a b' ha hb' => ?_⟩
  · intro z; rcases z with z | ⟨_, z⟩ | ⟨_, z⟩ <;> cases z
  · by_cases e : o' = o
    · subst e
      have lt : o' < st.length := by
        have := (List.getElem?_eq_some_iff.mp ha).1
        omega
      rw [List.getElem?_set_self lt] at hb'
      cases hb'
      exact hb as h1 a ha
    · rw [List.getElem?_set_ne (Ne.symm e)] at hb'
      exact (h6 o' a b' ha hb').kpt k (atB_ne e).1 (atB_ne e).2.1 (atB_ne e).2.2
theorem ref_inj {as bs : List Addr} (h : as.map V.ref = bs.map V.ref) : as = bs := (List.map_inj_right fun _ _ z => V.ref.inj z).mp h
end

/-! ### a load comes -/
structure LdOk (n p l : Int) (ws : Wd) (c : Int) : Prop where
  n0 : 0 ≤ n ∧ n ≤ 1000000000
  p0 : 0 ≤ p
  l0 : 0 ≤ l
  few : p + l ≤ 9
  one : 1 ≤ ws.length ∧ ws.length ≤ 4
  ok : loadB (loadT n p l ws c) = true
def RAt (H : Hp) (v : V) : Option Wd → Prop
  | none => v = .non
  | some ws => ∃ t, v = .ref t ∧ H t = some (.tup (ws.map V.int))
section
variable {P : Program} {w : World} {K : PySem.W.Frag} {mg : Str → Option Value} {base : Heap} {A : Adr}
def spChkOut (C N : Addr) : Sp := fun vs H Q E => ∃ (g h : Addr) (ℓ : Ow) (st : List Bk) (u : V) (d : Td), vs = [.ref g, u] ∧ GAt C H ℓ g st ∧ Is h H u d ∧ (inI 0 ((st.length : Int) - 1) d = true → Q .non H) ∧ (inI 0 ((st.length : Int) - 1) d = false → E (.ref N) none H)
theorem ok_Gatherer__check_output (T : Top K mg A) : FnOk P w K mg base (L2.CX P w) 4 A.a_Gatherer__check_output A.d_Gatherer__check_output P_Gatherer__check_output (spChkOut A.c_Gatherer A.c_NoOutput) := by
  refine T.F_Gatherer__check_output.okX sc_Gatherer__check_output (fun vs H Q E h => ?_) (fun cdv A' outer s H vs Q E hr h => ?_)
  · obtain ⟨g, h, ℓ, st, u, d, rfl, _⟩ := h
    rfl
  · obtain ⟨g, h, ℓ, st, u, d, rfl, G, iu, yes, no⟩ := h
    obtain ⟨dx, L, as, h1, h2, h3, h4, h5, h6⟩ := G.ex
    refine ⟨_, (pss_one (ps_if (pt_not (pt_val (pe_call (ok_is_number_below T) (hr.mono (by decide)) (by rfl) T.g_is_number_below T.F_is_number_below.kp T.b_is_number_below .nil pass0 (pa_cons (pe_callB call_len_seq (by rfl) T.z_len (by decide +kernel) (pa_cons (pe_fld (pv 0) rfl) pa_nil)) (pa_cons (pv 1) pa_nil))))) (pss_one (ps_raise rfl (takes_of rfl rfl rfl rfl) (GX.pmk_own0 PySem.F.excBase_ValueError T.x_NoOutput T.gc_NoOutput T.kp_NoOutput (raises_own T.s_NoOutput T.t_NoOutput) rfl))) pss_nil)), ?_⟩
    refine ⟨_, rfl, g, _, dx, _, .ref L, rfl, h1, T.cl_Gatherer, T.n_Gatherer__begun, rfl, L, _, rfl, .inl (SqL.of h3), ?_⟩
    rw [List.length_map, h5]
    refine ⟨_, rfl, (st.length : Int), u, d, h, rfl, iu, _, rfl, ?_⟩
    show if (!inI 0 ((st.length : Int) - 1) d) = true then _ else _
    cases c : inI 0 ((st.length : Int) - 1) d with
    | true => exact iteF (yes c)
    | false => exact iteT (no c)
end

section
variable {P : Program} {w : World} {K : PySem.W.Frag} {mg : Str → Option Value} {base : Heap} {A : Adr}
structure CErr where
  no : Addr
  bad : Addr
  tw : Addr
  mi : Addr
/-- a good load at a good output -/
structure Good (H : Hp) (st : List Bk) (u x : V) (o : Nat) (b : Bk) (n p l : Int) (ws : Wd) (c : Int) (ad q : Addr) : Prop where
  out : u = .int (o : Int)
  at_ : st[o]? = some b
  ref : x = .ref ad
  load : LoadAt H ad n p l q ws c
  ok : LdOk n p l ws c
def atGn (o : Nat) (n : Int) (l : Lab) : Prop := l = .gd o ∨ l = .gp o n
theorem atGn_G {o : Nat} {n : Int} (l : Lab) (h : atGn o n l) : atG o l := by
  rcases h with h | h
  · exact .inl h
  · exact .inr ⟨n, h⟩
theorem gathW_succ (ps : Pn) (n : Nat) : gathW ps (n + 1) = gathW ps n ++ (getW ps (n : Int)).getD [] := by
  unfold gathW
  rw [List.range_succ, List.flatMap_append, List.flatMap_cons, List.flatMap_nil, List.append_nil]
theorem gathW_len {m : Int} {ps : Pn} (g : PnOk m ps) : ∀ n, (gathW ps n).length ≤ 4 * n
  | 0 => Nat.le_refl _
  | n + 1 => by
    rw [gathW_succ, List.length_append]
    have h := gathW_len g n
    have h2 : ((getW ps (n : Int)).getD []).length ≤ 4 := by
      cases e : getW ps (n : Int) with
      | none => exact Nat.zero_le _
      | some ws =>
        unfold getW at e
        cases c : ps.find? fun p => decide (p.1 = (n : Int)) with
        | none => rw [c] at e; cases e
        | some q =>
          rw [c] at e
          cases e
          exact g.few q (find_key c).1
    omega
def spComes (C : Addr) (er : CErr) : Sp := fun vs H Q E => ∃ (g h : Addr) (ℓ : Ow) (st : List Bk) (u x : V) (d1 d2 : Td), vs = [.ref g, u, x] ∧ GAt C H ℓ g st ∧ (∀ b ∈ st, BkOk b ∧ b.length ≤ 1000) ∧ Is h H u d1 ∧ Is h H x d2 ∧
  ((inI 0 ((st.length : Int) - 1) d1 = false ∧ E (.ref er.no) none H) ∨
   (inI 0 ((st.length : Int) - 1) d1 = true ∧ loadB d2 = false ∧ ∀ H', Same H H' → E (.ref er.bad) none H') ∨
   ∃ (o : Nat) (b : Bk) (n p l : Int) (ws : Wd) (c : Int) (ad q : Addr), Good H st u x o b n p l ws c ad q ∧ d1 = .int (o : Int) ∧ d2 = loadT n p l ws c ∧
    (outB b n p l ws = .twice → ∀ H', Same H H' → E (.ref er.tw) none H') ∧ (outB b n p l ws = .mixed → ∀ H', Same H H' → E (.ref er.mi) none H') ∧
    ∀ r, outB b n p l ws = .told r → ∀ H' ℓ' v, Kpt (atG o) H ℓ H' ℓ' → GAt C H' ℓ' g (st.set o (nxtB b n p l ws)) → RAt H' v r → Q v H')
theorem ok_Gatherer_comes (T : Top K mg A) : FnOk P w K mg base (L2.CX P w) 6 A.a_Gatherer_comes A.d_Gatherer_comes P_Gatherer_comes (spComes A.c_Gatherer ⟨A.c_NoOutput, A.c_BadLoad, A.c_Twice, A.c_Mixed⟩) := by
  refine T.F_Gatherer_comes.okX sc_Gatherer_comes (fun vs H Q E h => ?_) (fun cdv A' outer s H vs Q E hr h => ?_)
  · obtain ⟨g, h, ℓ, st, u, x, d1, d2, rfl, _⟩ := h
    rfl
  · obtain ⟨g, h, ℓ, st, u, x, d1, d2, rfl, G, ok, iu, ix, md⟩ := h
    obtain ⟨dx, L, as, h1, h2, h3, h4, h5, h6⟩ := G.ex
    refine ⟨_, (pss_cons (ps_expr (pe_meth (pv 0) T.cl_Gatherer T.m_Gatherer__check_output (ok_Gatherer__check_output T) (hr.mono (by decide)) T.b_Gatherer__check_output .nil (GX.passX rfl rfl rfl rfl) (pa_cons (pv 1) pa_nil)))
    (pss_cons (ps_if (pt_not (pt_val (pe_call (ok_is_load T) (hr.mono (by decide)) (by rfl) T.g_is_load T.F_is_load.kp T.b_is_load .nil pass0 (pa_cons (pv 2) pa_nil)))) (pss_one (ps_raise rfl (takes_of rfl rfl rfl rfl) (GX.pmk_own0 PySem.F.excBase_ValueError T.x_BadLoad T.gc_BadLoad T.kp_BadLoad (raises_own T.s_BadLoad T.t_BadLoad) rfl))) pss_nil)
    (pss_cons (ps_asg (pv 2) (pg_tup rfl (pgs_cons (pg_name (i := 3) sc_Gatherer_comes.nd rfl (.inl rfl)) (pgs_cons (pg_name (i := 4) sc_Gatherer_comes.nd rfl (.inl rfl)) (pgs_cons (pg_name (i := 5) sc_Gatherer_comes.nd rfl (.inl rfl)) (pgs_cons (pg_name (i := 6) sc_Gatherer_comes.nd rfl (.inl rfl)) (pgs_cons (pg_name (i := 7) sc_Gatherer_comes.nd rfl (.inl rfl)) pgs_nil)))))))
    (pss_cons (ps_asg (pe_dget2 (GC.hu1 hr) (pe_ix ix_list (pe_fld (pv 0) rfl) (pv 1) (fun _ _ => rfl)) (pv 3) (pe_tup (pa_cons (pe_op op_add (pe_op op_add (pv 4) (pv 5)) pe_int) (pa_cons pe_dnewK pa_nil))) ⟨by rfl, by rfl, by rfl, by rfl⟩) (pg_tup rfl (pgs_cons (pg_name (i := 8) sc_Gatherer_comes.nd rfl (.inl rfl)) (pgs_cons (pg_name (i := 9) sc_Gatherer_comes.nd rfl (.inr rfl)) pgs_nil))))
    (pss_cons (ps_if (pt_cmp (pc_din (GC.hu1 hr) (pv 4) (pv 9))) (pss_one (ps_raise rfl (takes_of rfl rfl rfl rfl) (GX.pmk_own0 PySem.F.excBase_ValueError T.x_Twice T.gc_Twice T.kp_Twice (raises_own T.s_Twice T.t_Twice) rfl))) pss_nil)
    (pss_cons (ps_if (pt_cmpR op_ne (pe_op op_add (pe_op op_add (pv 4) (pv 5)) pe_int) (pv 8) (nomark _)) (pss_one (ps_raise rfl (takes_of rfl rfl rfl rfl) (GX.pmk_own0 PySem.F.excBase_ValueError T.x_Mixed T.gc_Mixed T.kp_Mixed (raises_own T.s_Mixed T.t_Mixed) rfl))) pss_nil)
    (pss_cons (ps_dput (GC.hu1 hr) (pv 9) (pv 4) (pv 6) (by rfl))
    (pss_cons (ps_dput (GC.hu1 hr) (pe_ix ix_list (pe_fld (pv 0) rfl) (pv 1) (fun _ _ => rfl)) (pv 3) (pe_tup (pa_cons (pv 8) (pa_cons (pv 9) pa_nil))) (by rfl))
    (pss_cons (ps_if (pt_cmpR op_lt (pe_callB call_lenD (by rfl) T.z_len (by decide +kernel) (pa_cons (pv 9) pa_nil)) (pv 8) (nomark _)) (pss_one (ps_ret pe_non)) pss_nil)
    (pss_one (ps_ret (pe_callTy call_tuple_of (by rfl) T.z_tuple (by decide +kernel) (pa_cons (pe_lc2 (own := [("number", 10), ("word", 11)]) (vs1 := [11]) (by rfl) sc_Gatherer_comes.nd (pi_range1 rfl T.z_range (pa_cons (pv 8) pa_nil)) (blkOk_by (own := [("number", 10), ("word", 11)]) (N := N_Gatherer_comes) (sc := defScope s_Gatherer_comes) (by decide +kernel)) (by decide) (fun _ _ _ _ _ => (pg_name (i := 10) sc_Gatherer_comes.nd rfl (.inl rfl))) (fun _ _ _ _ _ => pts_nil) (fun _ _ _ _ _ => (show PI _ _ _ (iTup K _) from pi_tup (pe_dget (GC.hu1 hr) (pv 9) (pv 10) (fun _ _ => rfl)))) (fun _ _ _ _ _ => (pg_name (i := 11) sc_Gatherer_comes.nd rfl (.inl rfl))) (fun _ _ _ _ _ => pts_nil) (fun _ _ _ _ _ => (pv 11))) pa_nil))))))))))))), ?_⟩
    refine ⟨_, rfl, g, _, _, rfl, h1, rfl, _, rfl, g, h, ℓ, st, u, d1, rfl, G, iu, fun c1 => ?_, fun c1 => ?_⟩
    rotate_left
    · rcases md with ⟨_, e⟩ | ⟨z, _⟩ | ⟨o, b, n, p, l, ws, c, ad, q, gd, z, _⟩
      · exact e
      · rw [z] at c1; cases c1
      · have := (List.getElem?_eq_some_iff.mp gd.at_).1
        rw [z] at c1
        have c1 : (decide ((0 : Int) ≤ (o : Int)) && decide ((o : Int) ≤ (st.length : Int) - 1)) = false := c1
        rw [decide_eq_true (show (0 : Int) ≤ (o : Int) by omega), decide_eq_true (show (o : Int) ≤ (st.length : Int) - 1 by omega)] at c1
        cases c1
    refine ⟨_, rfl, x, d2, h, rfl, ix, fun H1 s1 => ⟨_, rfl, ?_⟩⟩
    show if (!loadB d2) = true then _ else _
    rcases md with ⟨z, _⟩ | ⟨_, z, e⟩ | ⟨o, b, n, p, l, ws, c, ad, q, gd, _, rfl, tw, mi, tl⟩
    · rw [z] at c1; cases c1
    · rw [z]
      exact iteT (e H1 s1)
    rw [gd.ok.ok]
    refine iteF ?_
    obtain ⟨eu, eb, ex, ld, lo⟩ := gd
    subst eu ex
    have ld1 := ld.same s1
    have lt : o < as.length := by
      have := (List.getElem?_eq_some_iff.mp eb).1
      omega
    have ea : as[o]? = some as[o] := List.getElem?_eq_getElem lt
    generalize as[o] = a at ea
    have B := h6 o a b ea eb
    obtain ⟨kvs, ek, al⟩ := B.ex
    have h11 := s1 _ _ h1
    have h31 := s1 _ _ h3
    have ek1 := s1 _ _ ek
    have bok := ok b (List.mem_of_getElem? eb)
    have eo := entB_ok bok.1 (n := n) lo.p0 lo.l0 lo.few
    refine ⟨_, rfl, ad, _, rfl, SqT.of ld1.at_, rfl, _, _, rfl, _, _, rfl, _, _, rfl, _, _, rfl, _, _, rfl, rfl, ?_⟩
    refine ⟨_, rfl, g, _, dx, _, .ref L, rfl, h11, T.cl_Gatherer, T.n_Gatherer__begun, rfl, _, rfl, L, _, (o : Int), _, rfl, rfl, SqL.of h31, at_of (j := o) (by omega) (map_at ea), a, rfl, .inl ⟨_, .inl ek1⟩, _, rfl, ?_⟩
    refine ⟨_, rfl, _, rfl, _, _, rfl, rfl, _, _, rfl, rfl, fun na nna => ⟨by show 2 ≤ sizeLine; decide, fun t nt => ?_⟩⟩
    have s2 : Same H1 (upd H1 na (.dK [])) := same_upd nna
    have s3 : Same (upd H1 na (.dK [])) (upd (upd H1 na (.dK [])) t (.tup [.int (p + l + 1), .ref na])) := same_upd nt
    have et : (upd (upd H1 na (.dK [])) t (.tup [.int (p + l + 1), .ref na])) t = some (.tup [.int (p + l + 1), .ref na]) := upd_same
    have ena : (upd (upd H1 na (.dK [])) t (.tup [.int (p + l + 1), .ref na])) na = some (.dK []) := s3 _ _ upd_same
    have s13 := s1.trans (s2.trans s3)
    have nna0 : H na = none := s1.free nna
    generalize upd (upd H1 na (.dK [])) t (.tup [.int (p + l + 1), .ref na]) = H3 at et ena s13 s3 ⊢
    have k03 : Kpt (atG o) H ℓ H3 ℓ := Kpt.same s13
    refine ⟨_, DGet.k (k := .inl n) (s13 _ _ ek), ?_⟩
    obtain ⟨m, ps, em⟩ : ∃ m ps, entB b n p l = (m, ps) := ⟨_, _, rfl⟩
    rw [em] at eo
    obtain ⟨m1, m10, pok⟩ := eo
    have m1 : 1 ≤ m := m1
    have m10 : m ≤ 10 := m10
    have pok : PnOk m ps := pok
    have pl := pok.len (by omega)
    obtain ⟨z, a0, ℓ', e1, e2, e3, e4, k03'⟩ : ∃ z a0 ℓ', ((valV kvs (.inl n)).getD (.ref t)) = .ref z ∧ H3 z = some (.tup [.int m, .ref a0]) ∧ PartsAt H3 a0 ps ∧ ℓ' a0 = some (.gp o n) ∧ Kpt (atG o) H ℓ H3 ℓ' := by
      have em2 := em
      unfold entB getB at em2
      rcases look (fun _ _ r => r.1) n al with ⟨z1, z2⟩ | ⟨v, e, z1, z2, _, t0, a0, z3, z4, z5, z6⟩
      · rw [z2] at em2
        cases em2
        exact ⟨t, na, own ℓ na (.gp o n), by rw [z1]; rfl, et, ⟨[], ena, .nil⟩, own_same, k03.own_ nna0⟩
      · rw [z2] at em2
        have em2 : e = (m, ps) := em2
        subst em2
        have z3 : v = .ref t0 := z3
        subst z3
        obtain ⟨_, ha0⟩ := z6.ali
        exact ⟨t0, a0, ℓ, by rw [z1]; rfl, s13 _ _ z4, z6.keep (fun q ys h => s13 _ _ h) (fun _ h => s13 _ _ h), z5, k03⟩
    refine ⟨z, _, e1, SqT.of e2, rfl, _, _, rfl, _, _, rfl, rfl, ?_⟩
    obtain ⟨oo, dg, hoo⟩ := e3.has p
    refine ⟨_, rfl, _, rfl, a0, oo, rfl, dg, _, rfl, ?_⟩
    show if oo.isSome = true then _ else _
    rw [hoo]
    by_cases cp : p ∈ keysP ps
    · rw [decide_eq_true cp]
      exact iteT (tw (by unfold outB; rw [em]; exact if_pos cp) H3 s13)
    rw [decide_eq_false cp]
    refine iteF ?_
    refine ⟨_, rfl, _, rfl, _, _, rfl, rfl, _, _, rfl, rfl, _, rfl, rfl, _, rfl, ?_⟩
    rw [dec_int]
    by_cases cm : p + l + 1 = m
    rotate_left
    · rw [decide_eq_false cm]
      exact iteT (mi (by unfold outB; rw [em, if_neg cp]; exact if_pos cm) H3 s13)
    rw [decide_eq_true cm]
    refine iteF ?_
    have hn2 : nxtB b n p l ws = putB b n (m, ps ++ [(p, ws)]) := by
      unfold nxtB
      rw [em, if_neg cp, if_neg (fun z => z cm)]
    have ho2 : outB b n p l ws = .told (finO m (ps ++ [(p, ws)])) := by
      unfold outB
      rw [em, if_neg cp, if_neg (fun z => z cm)]
    have tl := tl _ ho2
    rw [hn2] at tl
    have pok2 : PnOk m (ps ++ [(p, ws)]) := pok.snoc cp lo.p0 (by have := lo.l0; omega) lo.one.2
    clear hn2 ho2 tw mi
    obtain ⟨kvs1, dp, e31⟩ := e3.put cp (t := q) (ws := ws) (s13 _ _ ld.words) (by omega)
    refine ⟨_, rfl, _, rfl, _, rfl, a0, _, rfl, dp, ?_⟩
    obtain ⟨kvs0, ea0, _⟩ := e3.ex
    have k04 : Kpt (atGn o n) H3 ℓ' (upd H3 a0 (.dK kvs1)) ℓ' := Kpt.upd ea0 (fun ys z => by cases z) e4 (.inr rfl)
    have hla : ℓ' a = some (.gd o) := k03'.lab ek B.own
    have ne : a ≠ a0 := fun z => by
      rw [z, e4] at hla
      cases hla
    have ea4 : (upd H3 a0 (.dK kvs1)) a = some (.dK kvs) := by
      rw [upd_ne ne]
      exact s13 _ _ ek
    have k03n : Kpt (atGn o n) H ℓ H3 ℓ' := ⟨k03'.tup, fun q o' l' h _ _ => s13 _ _ h, k03'.liv, k03'.own⟩
    have k04 := k03n.trans k04
    generalize upd H3 a0 (.dK kvs1) = H4 at k04 ea4 e31 ⊢
    refine ⟨_, rfl, _, rfl, by show 2 ≤ sizeLine; decide, fun t1 nt1 => ?_⟩
    have s5 : Same H4 (upd H4 t1 (.tup [.int m, .ref a0])) := same_upd nt1
    have et1 : (upd H4 t1 (.tup [.int m, .ref a0])) t1 = some (.tup [.int m, .ref a0]) := upd_same
    have k05 := k04.trans (Kpt.same s5)
    have ea5 := s5 _ _ ea4
    have e35 : PartsAt (upd H4 t1 (.tup [.int m, .ref a0])) a0 (ps ++ [(p, ws)]) := e31.keep (fun q ys h => s5 _ _ h) (fun _ h => s5 _ _ h)
    generalize upd H4 t1 (.tup [.int m, .ref a0]) = H5 at k05 ea5 e35 et1 ⊢
    have g5 := k05.kep _ _ _ h1 h2 (by intro z; rcases z with z | z <;> cases z)
    have L5 := k05.kep _ _ _ h3 h4 (by intro z; rcases z with z | z <;> cases z)
    refine ⟨_, rfl, g, _, dx, _, .ref L, rfl, g5, T.cl_Gatherer, T.n_Gatherer__begun, rfl, _, rfl, L, _, (o : Int), _, rfl, rfl, SqL.of L5, at_of (j := o) (by omega) (map_at ea), _, rfl, a, _, rfl, DPut.k (k := .inl n) ea5 (Nat.lt_of_le_of_lt (Nat.le_of_eq al.len) (Nat.lt_of_le_of_lt bok.2 (by decide))), ?_⟩
    have u6 : Kpt (atGn o n) H5 ℓ' (upd H5 a (.dK (putK kvs (.inl n) (.ref t1)))) ℓ' := Kpt.upd ea5 (fun ys z => by cases z) hla (.inl rfl)
    have k06 := k05.trans u6
    have et6 := u6.tup _ _ et1
    have e36 : PartsAt (upd H5 a (.dK (putK kvs (.inl n) (.ref t1)))) a0 (ps ++ [(p, ws)]) := e35.keep u6.tup fun o' h => by
      rw [upd_ne ne.symm]
      exact h
    have ea6 : (upd H5 a (.dK (putK kvs (.inl n) (.ref t1)))) a = some (.dK (putK kvs (.inl n) (.ref t1))) := upd_same
    generalize upd H5 a (.dK (putK kvs (.inl n) (.ref t1))) = H6 at k06 et6 e36 ea6 ⊢
    have G6 : GAt A.c_Gatherer H6 ℓ' g (st.set o (putB b n (m, ps ++ [(p, ws)]))) := by
      refine G.put (k06.mono fun l h => atGn_G l h) fun dx' L' as' z1 z2 a' ha' => ?_
      rw [h1] at z1
      cases z1
      rw [h3] at z2
      have ea' := ref_inj (HO.lst.inj (Option.some.inj z2))
      subst ea'
      rw [ea] at ha'
      cases ha'
      refine ⟨hla, _, ea6, put2 (R := EnG H ℓ o) (fun _ _ r => r.1) ⟨rfl, t1, a0, rfl, et6, e4, e36⟩ (fun kv e r z => EnG.kpt k06 r fun q => ?_) al⟩
      rcases q with q | q <;> cases q
      exact z rfl
    have k06 := k06.mono fun l h => atGn_G l h
    obtain ⟨kvs6, ep6, al6⟩ := e36.ex
    refine ⟨_, rfl, a0, kvs6, rfl, ep6, _, rfl, _, _, rfl, rfl, _, rfl, ?_⟩
    rw [al6.len]
    by_cases cl : ((ps ++ [(p, ws)]).length : Int) < m
    · rw [decide_eq_true cl]
      refine iteT ?_
      exact tl H6 ℓ' .non k06 G6 (by unfold finO; rw [if_pos cl]; rfl)
    rw [decide_eq_false cl]
    refine iteF ?_
    have tl : ∀ v H', Same H6 H' → (∃ t, v = .ref t ∧ H' t = some (.tup ((gathW (ps ++ [(p, ws)]) m.toNat).map V.int))) → Q v H' := fun v H' s hv => by
      have ks : Kpt isB H6 ℓ' H' ℓ' := Kpt.same s
      refine tl H' ℓ' v (k06.trans (Kpt.same s)) (G6.kpt ks fun l hl hb => ?_) (by unfold finO; rw [if_neg cl]; exact hv)
      cases l <;> first | exact hl.elim | exact hb.elim
    clear G6 k06
    generalize ps ++ [(p, ws)] = ps2 at *
    refine ⟨_, rfl, m, rfl, by omega, by omega, fun D nD => ?_⟩
    refine GC.lc2_it (walk_range (lo := 0) (n := m.toNat)) (fun i H' => Same H6 H' ∧ H' D = some (.lst ((gathW ps2 i).map V.int))) ⟨same_upd nD, upd_same⟩ (fun _ _ _ _ => trivial) ?_ ?_
    · rintro i x H7 H7' hi ⟨s7, e7⟩ ⟨rfl, rfl⟩
      refine ⟨rfl, ?_⟩
      have e37 := e36.keep (fun q ys h => s7 _ _ h) (fun _ h => s7 _ _ h)
      obtain ⟨o7, dg, ho7⟩ := e37.get (0 + (i : Int))
      rw [Int.zero_add] at ho7
      obtain ⟨ws0, hw0, _⟩ := getW_in (pok2.full cl (j := i) (by omega))
      rcases ho7 with ⟨z1, _⟩ | ⟨ws1, t7, z1, rfl, ht7⟩
      · rw [hw0] at z1
        cases z1
      refine ⟨_, rfl, _, rfl, a0, _, rfl, dg, t7, rfl, ⟨_, SqT.of ht7⟩, ?_⟩
      have l4 : ws1.length ≤ 4 := by
        have h5 := gathW_len pok2 (i + 1)
        unfold getW at z1
        cases c : ps2.find? fun p => decide (p.1 = (i : Int)) with
        | none => rw [c] at z1; cases z1
        | some q =>
          rw [c] at z1
          cases z1
          exact pok2.few q (find_key c).1
      have h5 := gathW_len pok2 i
      have tsm : ∀ {H8 : Hp}, Same H6 H8 → H8 t7 = some (.tup (ws1.map V.int)) ∨ True := fun _ => .inr trivial
      refine GC.lc2_in (walk_tup (K := K) (a := t7) (xs := ws1.map V.int)) (fun j H' => Same H6 H' ∧ H' t7 = some (.tup (ws1.map V.int)) ∧ H' D = some (.lst ((gathW ps2 i ++ ws1.take j).map V.int))) ⟨s7, ht7, by rw [List.take_zero, List.append_nil]; exact e7⟩ (fun _ _ _ z => SqT.of z.2.1) ?_ ?_
      · rintro j x H8 H8' hj ⟨s8, et8, e8⟩ ⟨rfl, hx⟩
        rw [List.getElem?_map] at hx
        obtain ⟨y, hy, rfl⟩ := Option.map_eq_some_iff.mp hx
        refine ⟨rfl, _, rfl, _, e8, ?_, same_to s8 nD, ?_, ?_⟩
        · rw [List.length_map, List.length_append, List.length_take]
          exact small1000 (by omega)
        · rw [upd_ne (ne_of et8 e8 (by intro z; cases z))]
          exact et8
        · rw [upd_same, List.take_add_one, hy, ← List.append_assoc, List.map_append (l₂ := (some y).toList)]
          rfl
      · rintro H8 ⟨s8, et8, e8⟩
        rw [List.length_map, List.take_length] at e8
        refine ⟨s8, ?_⟩
        rw [gathW_succ, z1]
        exact e8
    · rintro H7 ⟨s7, e7⟩
      refine ⟨D, _, rfl, .inl ⟨SqL.of e7, fun t9 nt9 => ?_⟩⟩
      exact tl _ _ (s7.trans (same_upd nt9)) ⟨t9, rfl, upd_same⟩
end

/-! ### a new gatherer -/
/-- so many empty dicts in a list at D, all new since H -/
structure Fresh (H H' : Hp) (D : Addr) (as : List Addr) : Prop where
  same : Same H H'
  nD : H D = none
  lst : H' D = some (.lst (as.map V.ref))
  nd : as.Nodup
  all : ∀ a ∈ as, H a = none ∧ a ≠ D ∧ H' a = some (.dK [])
theorem Fresh.start {H : Hp} {D : Addr} (nD : H D = none) : Fresh H (upd H D (.lst [])) D [] := ⟨same_upd nD, nD, upd_same, List.nodup_nil, fun _ h => absurd h List.not_mem_nil⟩
theorem Fresh.next {H H' : Hp} {D : Addr} {as : List Addr} (f : Fresh H H' D as) (few : as.length ≤ 12) {p : Addr} (np : H' p = none) :
    ∃ acc, (upd H' p (.dK [])) D = some (.lst acc) ∧ acc.length < sizeLine ∧ Fresh H (upd (upd H' p (.dK [])) D (.lst (acc ++ [.ref p]))) D (as ++ [p]) := by
  have pD : p ≠ D := fun e => by
    have := f.lst
    rw [← e, np] at this
    cases this
  have eD : (upd H' p (.dK [])) D = some (.lst (as.map V.ref)) := by
    rw [upd_ne pD.symm]
    exact f.lst
  have pn : p ∉ as := fun z => by
    have := (f.all p z).2.2
    rw [np] at this
    cases this
  refine ⟨_, eD, small1000 (by rw [List.length_map]; omega), same_to (same_to f.same (f.same.free np)) f.nD, f.nD, by rw [upd_same, List.map_append]; rfl, ?_, fun a ha => ?_⟩
  · rw [List.nodup_append]
    exact ⟨f.nd, List.nodup_cons.mpr ⟨List.not_mem_nil, List.nodup_nil⟩, fun a ha b hb e => by
      rw [List.mem_singleton] at hb
      rw [e, hb] at ha
      exact pn ha⟩
  · rcases List.mem_append.mp ha with h | h
    · obtain ⟨h1, h2, h3⟩ := f.all a h
      refine ⟨h1, h2, ?_⟩
      rw [upd_ne h2, upd_ne (fun e => pn (by rw [← e]; exact h))]
      exact h3
    · rw [List.mem_singleton] at h
      subst h
      exact ⟨f.same.free np, pD, by rw [upd_ne pD]; exact upd_same⟩
open Classical in
/-- owners given to the addresses of a list -/
noncomputable def ownL (f : Nat → Lab) : Nat → List Addr → Ow → Ow
  | _, [], ℓ => ℓ
  | i, a :: as, ℓ => own (ownL f (i + 1) as ℓ) a (f i)
theorem ownL_ne {f : Nat → Lab} {ℓ : Ow} {q : Addr} : ∀ {i : Nat} {as : List Addr}, q ∉ as → ownL f i as ℓ q = ℓ q
  | _, [], _ => rfl
  | i, a :: as, h => (own_ne (fun z => h (by rw [z]; exact List.mem_cons_self))).trans (ownL_ne fun z => h (List.mem_cons_of_mem _ z))
theorem ownL_at {f : Nat → Lab} {ℓ : Ow} : ∀ {i j : Nat} {as : List Addr} {a : Addr}, as.Nodup → as[j]? = some a → ownL f i as ℓ a = some (f (i + j))
  | i, 0, b :: as, a, _, h => by
    cases h
    exact own_same
  | i, j + 1, b :: as, a, nd, h => by
    rw [List.nodup_cons] at nd
    have h : as[j]? = some a := h
    have hb : a ≠ b := fun z => nd.1 (by rw [← z]; exact List.mem_of_getElem? h)
    have e := ownL_at (f := f) (ℓ := ℓ) (i := i + 1) nd.2 h
    rw [show i + 1 + j = i + (j + 1) by omega] at e
    exact (own_ne hb).trans e
theorem rep_at {st : List Bk} {n o : Nat} {b : Bk} (e : st = List.replicate n []) (h : st[o]? = some b) : b = [] := by
  subst e
  rw [List.getElem?_replicate] at h
  split at h
  · cases h; rfl
  · cases h
section
variable {P : Program} {w : World} {K : PySem.W.Frag} {mg : Str → Option Value} {base : Heap} {A : Adr}
def spGInit (C N : Addr) : Sp := fun vs H Q E => ∃ (x dx h : Addr) (v : V) (d : Td), vs = [.ref x, v] ∧ Is h H v d ∧ H x = some (.ins C dx []) ∧ (inI 1 12 d = false → E (.ref N) none H) ∧
  ∀ n : Nat, d = .int (n : Int) → 1 ≤ n → n ≤ 12 → ∀ (H1 H' : Hp) (R : Addr) (as : List Addr), Fresh H H1 R as → as.length = n → H' = upd H1 x (.ins C dx [("_begun", .ref R)]) → Q .non H'
theorem ok_Gatherer___init__ (T : Top K mg A) : FnOk P w K mg base (L2.CX P w) 4 A.a_Gatherer___init__ A.d_Gatherer___init__ P_Gatherer___init__ (spGInit A.c_Gatherer A.c_NoNumber) := by
  refine T.F_Gatherer___init__.okX sc_Gatherer___init__ (fun vs H Q E h => ?_) (fun cdv A' outer s H vs Q E hr h => ?_)
  · obtain ⟨x, dx, h, v, d, rfl, _⟩ := h
    rfl
  · obtain ⟨x, dx, h, v, d, rfl, iv, hx, ke, k⟩ := h
    refine ⟨_, (pss_cons (ps_if (pt_not (pt_val (pe_call (ok_is_integer_from T) (hr.mono (by decide)) (by rfl) T.g_is_integer_from T.F_is_integer_from.kp T.b_is_integer_from .nil pass0 (pa_cons pe_int (pa_cons (pe_glob (v := .int 12) rfl (T.k_MOST_LINES).choose_spec ⟨_, rfl⟩) (pa_cons (pv 1) pa_nil)))))) (pss_one (ps_raise rfl (takes_of rfl rfl rfl rfl) (GX.pmk_own0 PySem.F.excBase_ValueError T.x_NoNumber T.gc_NoNumber T.kp_NoNumber (raises_own T.s_NoNumber T.t_NoNumber) rfl))) pss_nil)
    (pss_one (ps_fld (pv 0) (pe_lc (own := [("_", 2)]) (by rfl) sc_Gatherer___init__.nd (pi_range1 rfl T.z_range (pa_cons (pv 1) pa_nil)) (blkOk_by (own := [("_", 2)]) (N := N_Gatherer___init__) (sc := defScope s_Gatherer___init__) (by decide +kernel)) (fun _ _ _ _ _ => (pg_name (i := 2) sc_Gatherer___init__.nd rfl (.inl rfl))) (fun _ _ _ _ _ => pts_nil) (fun _ _ _ _ _ => pe_dnewK)) (by rfl)))), ?_⟩
    refine ⟨_, rfl, 1, 12, v, d, h, rfl, iv, _, rfl, ?_⟩
    show if (!inI 1 12 d) = true then _ else _
    cases c : inI 1 12 d with
    | false => exact iteT (ke c)
    | true =>
      obtain ⟨i, rfl, i0, i1⟩ := inI_yes c
      obtain ⟨n, rfl⟩ := Int.eq_ofNat_of_zero_le (show 0 ≤ i by omega)
      cases iv
      have k := k n rfl (by omega) (by omega)
      refine iteF ⟨_, rfl, (n : Int), rfl, by omega, by omega, fun D hD => ?_⟩
      refine lc_range (lo := 0) (n := (n : Int).toNat) (fun i H' => ∃ as, Fresh H H' D as ∧ as.length = i) ⟨[], Fresh.start hD, rfl⟩ ?_ ?_
      · rintro i H' hi ⟨as, f, e⟩
        refine ⟨rfl, fun p np => ?_⟩
        rw [Int.toNat_natCast] at hi
        obtain ⟨acc, h1, h2, h3⟩ := f.next (by omega) np
        exact ⟨acc, h1, h2, _, h3, by rw [List.length_append, e]; rfl⟩
      · rintro H' ⟨as, f, e⟩
        rw [Int.toNat_natCast] at e
        refine ⟨_, rfl, x, _, dx, _, rfl, f.same _ _ hx, T.cl_Gatherer, T.n_Gatherer__begun, (by show 0 < 1000; decide), ?_⟩
        exact k H' _ D as f e rfl
end

/-! ### what lacks: pairs of a packet and its parts that are wanting, in order -/
theorem perm_all2 {α β : Type} {R : α → β → Prop} {ys xs : List β} (h : ys.Perm xs) : ∀ {as : List α}, All2 R as xs → ∃ bs, bs.Perm as ∧ All2 R bs ys := by
  induction h with
  | nil => intro as h; cases h; exact ⟨[], .nil, .nil⟩
  | cons x _ ih =>
    intro as h
    cases h with
    | cons a t =>
      obtain ⟨bs, h1, h2⟩ := ih t
      exact ⟨_, h1.cons _, .cons a h2⟩
  | swap x y l =>
    intro as h
    cases h with
    | cons a t => cases t with
      | cons b t => exact ⟨_, List.Perm.swap _ _ _, .cons b (.cons a t)⟩
  | trans _ _ ih1 ih2 =>
    intro as h
    obtain ⟨bs, h1, h2⟩ := ih2 h
    obtain ⟨cs, h3, h4⟩ := ih1 h2
    exact ⟨cs, h3.trans h1, h4⟩
theorem pw_all2 {α β : Type} {R : α → β → Prop} {S : β → β → Prop} {S' : α → α → Prop} (g : ∀ a b x y, R a x → R b y → S x y → S' a b) : ∀ {as : List α} {xs : List β}, All2 R as xs → xs.Pairwise S → as.Pairwise S'
  | _, _, .nil, _ => .nil
  | _, _, .cons h t, p => by
    rw [List.pairwise_cons] at p
    refine List.pairwise_cons.mpr ⟨fun b hb => ?_, pw_all2 g t p.2⟩
    obtain ⟨i, hi⟩ := List.mem_iff_getElem?.mp hb
    obtain ⟨y, hy, r⟩ := t.getL hi
    exact g _ _ _ _ h r (p.1 y (List.mem_of_getElem? hy))
theorem all2_refs {α : Type} {R : α → V → Prop} (ref : ∀ a v, R a v → ∃ r, v = .ref r) : ∀ {as : List α} {vs : List V}, All2 R as vs → ∃ rs : List Addr, vs = rs.map V.ref
  | _, _, .nil => ⟨[], rfl⟩
  | _, _, .cons h t => by
    obtain ⟨r, rfl⟩ := ref _ _ h
    obtain ⟨rs, e⟩ := all2_refs ref t
    exact ⟨r :: rs, by rw [e]; rfl⟩
abbrev Lt := Int × List Int
def lotUp (ps : Pn) (n : Nat) : List Int := ((List.range n).map fun (j : Nat) => (j : Int)).filter fun k => !decide (k ∈ keysP ps)
theorem lotUp_succ (ps : Pn) (n : Nat) : lotUp ps (n + 1) = lotUp ps n ++ (if (!decide ((n : Int) ∈ keysP ps)) = true then [(n : Int)] else []) := by
  unfold lotUp
  rw [List.range_succ, List.map_append, List.filter_append]
  congr 1
  rw [List.map_cons, List.map_nil]
  by_cases c : (!decide ((n : Int) ∈ keysP ps)) = true
  · rw [if_pos c, List.filter_cons_of_pos (p := fun k : Int => !decide (k ∈ keysP ps)) c, List.filter_nil]
  · rw [if_neg c, List.filter_cons_of_neg (p := fun k : Int => !decide (k ∈ keysP ps)) c, List.filter_nil]
theorem lotUp_len (ps : Pn) (n : Nat) : (lotUp ps n).length ≤ n := by
  have h := List.length_filter_le (fun k => !decide (k ∈ keysP ps)) ((List.range n).map fun (j : Nat) => (j : Int))
  rw [List.length_map, List.length_range] at h
  exact h
def lotE (e : Int × Int × Pn) : Option Lt := if lotUp e.2.2 e.2.1.toNat = [] then none else some (e.1, lotUp e.2.2 e.2.1.toNat)
def lots (b : Bk) : List Lt := b.filterMap lotE
theorem lots_take {b : Bk} {i : Nat} {e : Int × Int × Pn} (h : b[i]? = some e) : lots (b.take (i + 1)) = lots (b.take i) ++ (lotE e).toList := by
  unfold lots
  rw [List.take_add_one, h, List.filterMap_append]
  show _ ++ [e].filterMap lotE = _
  cases c : lotE e with
  | none => rw [List.filterMap_cons_none c]; rfl
  | some x => rw [List.filterMap_cons_some c]; rfl
theorem lotE_key {e : Int × Int × Pn} {x : Lt} (h : lotE e = some x) : x.1 = e.1 := by
  unfold lotE at h
  split at h
  · cases h
  · cases h; rfl
theorem lots_mem {b : Bk} {x : Lt} (h : x ∈ lots b) : x.1 ∈ b.map (·.1) := by
  obtain ⟨e, he, h⟩ := List.mem_filterMap.mp h
  rw [lotE_key h]
  exact List.mem_map.mpr ⟨e, he, rfl⟩
theorem lots_nd : ∀ {b : Bk}, (b.map (·.1)).Nodup → ((lots b).map (·.1)).Nodup
  | [], _ => List.nodup_nil
  | e :: b, nd => by
    rw [List.map_cons, List.nodup_cons] at nd
    have ih := lots_nd nd.2
    unfold lots
    cases c : lotE e with
    | none => rw [List.filterMap_cons_none c]; exact ih
    | some x =>
      rw [List.filterMap_cons_some c, List.map_cons, List.nodup_cons]
      refine ⟨fun z => nd.1 ?_, ih⟩
      obtain ⟨y, hy, z⟩ := List.mem_map.mp z
      rw [← lotE_key c, ← z]
      exact lots_mem hy
theorem asc_same {xs ys : List Lt} (pm : xs.Perm ys) (hx : xs.Pairwise fun a b => a.1 < b.1) (hy : ys.Pairwise fun a b => a.1 < b.1) : xs = ys := by
  induction xs generalizing ys with
  | nil => exact (List.nil_perm.mp pm).symm
  | cons x xs ih =>
    cases ys with
    | nil => exact absurd pm.length_eq (by simp)
    | cons y ys =>
      rw [List.pairwise_cons] at hx hy
      have e : x = y := by
        rcases List.mem_cons.mp (pm.mem_iff.mp List.mem_cons_self) with z | z
        · exact z
        · rcases List.mem_cons.mp (pm.symm.mem_iff.mp List.mem_cons_self) with q | q
          · exact q.symm
          · have h1 := hy.1 x z
            have h2 := hx.1 y q
            omega
      subst e
      rw [ih pm.cons_inv hx.2 hy.2]
def lotD (x : Lt) : PyData := .tuple [.int x.1, .tuple (intsD x.2)]
theorem ints_alike : ∀ xs ys : List Int, PySem.W.alikeAll (intsD xs) (intsD ys) = true
  | [], _ => by rw [intsD, List.map_nil, PySem.W.alikeAll]
  | x :: xs, [] => by rw [intsD, intsD, List.map_nil, List.map_cons, PySem.W.alikeAll]
  | x :: xs, y :: ys => by
    show PySem.W.alikeAll (.int x :: intsD xs) (.int y :: intsD ys) = true
    rw [PySem.W.alikeAll, ints_alike xs ys]
    simp [PySem.W.alike]
section
open PySem.W PyProof.Rows
theorem lotD_alike (a b : Lt) : alike (lotD a) (lotD b) = true := by
  have h : alike (.tuple (intsD a.2)) (.tuple (intsD b.2)) = true := by rw [alike]; exact ints_alike _ _
  simp only [lotD, alike, alikeAll, ints_alike, Bool.and_self, Bool.and_true]
def lLe (a b : Lt) : Bool := !dataLt (lotD b) (lotD a)
theorem lLe_trans (a b c : Lt) (h1 : lLe a b = true) (h2 : lLe b c = true) : lLe a c = true := by
  unfold lLe dataLt at *
  rw [Bool.not_eq_true'] at *
  cases z : PyProof.Rows.lexLt itemOrd (keyToks (lotD c)) (keyToks (lotD a)) with
  | false => rfl
  | true =>
    rcases lex_negTrans _ (keyToks (lotD b)) _ z with q | q
    · rw [h2] at q; cases q
    · rw [h1] at q; cases q
theorem lLe_total (a b : Lt) : (lLe a b || lLe b a) = true := by
  unfold lLe dataLt
  cases z : PyProof.Rows.lexLt itemOrd (keyToks (lotD b)) (keyToks (lotD a)) with
  | false => rfl
  | true =>
    cases q : PyProof.Rows.lexLt itemOrd (keyToks (lotD a)) (keyToks (lotD b)) with
    | false => rfl
    | true =>
      have t := lex_trans _ _ _ z q
      rw [lex_irrefl] at t
      cases t
theorem lLe_lt {a b : Lt} (h : lLe a b = true) (hn : a.1 ≠ b.1) : a.1 < b.1 := by
  unfold lLe lotD at h
  rw [Bool.not_eq_true', dataLt_tuple, dataLt_cons (by simp [alike]), dataLt_int, eqv_int, decide_eq_false (fun z => hn z.symm), if_neg Bool.false_ne_true, decide_eq_false_iff_not] at h
  omega
theorem lLe_eq (D : Addr → Lt) : dataLe false (fun r => lotD (D r)) = fun a b => lLe (D a) (D b) := by
  rw [dataLe_eq]
  rfl
end
def LtAt (H : Hp) (x : Lt) (v : V) : Prop := ∃ t q, v = .ref t ∧ H t = some (.tup [.int x.1, .ref q]) ∧ H q = some (.tup (x.2.map V.int))
theorem LtAt.same {H H' : Hp} (s : Same H H') {x : Lt} {v : V} (h : LtAt H x v) : LtAt H' x v := let ⟨t, q, h1, h2, h3⟩ := h; ⟨t, q, h1, s _ _ h2, s _ _ h3⟩
def intV : V → Int
  | .int i => i
  | _ => 0
def ltOf (H : Hp) (r : Addr) : Lt := match H r with
  | some (.tup [.int n, .ref q]) => (match H q with
    | some (.tup xs) => (n, xs.map intV)
    | _ => (0, []))
  | _ => (0, [])
theorem LtAt.of {H : Hp} {x : Lt} {r : Addr} (h : LtAt H x (.ref r)) : ltOf H r = x := by
  obtain ⟨t, q, e, h1, h2⟩ := h
  cases e
  unfold ltOf
  rw [h1]
  simp only [h2]
  rw [List.map_map]
  have : (intV ∘ V.int) = id := rfl
  rw [this, List.map_id]
theorem LtAt.dp {K : PySem.W.Frag} {H : Hp} {x : Lt} {v : V} (h : LtAt H x v) : Dp K H v (lotD x) := by
  obtain ⟨t, q, rfl, h1, h2⟩ := h
  exact .tup (SqT.of h1) (.cons (.int _) (.cons (.tup (SqT.of h2) dp_ints) .nil))
theorem lay_lot (x : Lt) : Lay (lotD x) 2 := Lay.tup fun y hy => by
  rcases List.mem_cons.mp hy with rfl | hy
  · exact (Lay.int _).mono (by decide)
  · rw [List.mem_singleton] at hy
    subst hy
    exact lay_intsT _
section
variable {K : PySem.W.Frag}
theorem sort_lot {H : Hp} {l : Addr} {xs : List V} {ls : List Lt} {Q : VK} (nd : (ls.map (·.1)).Nodup) (el : H l = some (.lst xs)) (al : All2 (LtAt H) ls xs)
    (q : ∀ (H' : Hp) (p : Addr) (ys : List V) (es : List Lt), Same H H' → H' p = some (.lst ys) → All2 (LtAt H') es ys → es.Perm ls → (es.Pairwise fun a b => a.1 < b.1) → Q (.ref p) H') : GD.rSortD K [.ref l] H Q := by
  obtain ⟨rs, rfl⟩ := all2_refs (fun a v h => let ⟨t, _, e, _⟩ := h; ⟨t, e⟩) al
  refine ⟨l, rs, fun r => lotD (ltOf H r), rfl, SqL.of el, fun r hr => ?_, fun r s => lotD_alike _ _, fun r => ⟨_, _, rfl⟩, fun r => Nat.le_trans (lay_lot _).dep (by decide), fun p np => ?_⟩
  · obtain ⟨e, _, h⟩ := al.mem (List.mem_map.mpr ⟨r, hr, rfl⟩)
    show Dp K H (.ref r) (lotD (ltOf H r))
    rw [h.of]
    exact h.dp
  · rw [lLe_eq]
    have pm := List.mergeSort_perm rs fun a b => lLe (ltOf H a) (ltOf H b)
    have pw := List.pairwise_mergeSort (le := fun a b => lLe (ltOf H a) (ltOf H b)) (fun a b c => lLe_trans _ _ _) (fun a b => lLe_total _ _) rs
    generalize List.mergeSort rs (fun a b => lLe (ltOf H a) (ltOf H b)) = ss at pm pw ⊢
    obtain ⟨es, h1, h2⟩ := perm_all2 (pm.map V.ref) al
    have pw2 : (ss.map V.ref).Pairwise fun u v => ∀ r s, u = .ref r → v = .ref s → lLe (ltOf H r) (ltOf H s) = true := by
      rw [List.pairwise_map]
      exact pw.imp fun h r s e1 e2 => by
        cases e1
        cases e2
        exact h
    have pw3 : es.Pairwise fun a b => lLe a b = true := pw_all2 (fun a b x y ha hb h => by
      obtain ⟨r, _, er, _⟩ := id ha
      obtain ⟨s, _, es, _⟩ := id hb
      subst er es
      have h := h r s rfl rfl
      rw [ha.of, hb.of] at h
      exact h) h2 pw2
    have nd2 : (es.map (·.1)).Nodup := (h1.map (·.1)).nodup_iff.mpr nd
    have pw4 : es.Pairwise fun a b => a.1 ≠ b.1 := List.pairwise_map.mp nd2
    exact q _ p _ es (same_upd np) upd_same (h2.imp fun _ _ h => h.same (same_upd np)) h1 ((pw3.and pw4).imp fun h => lLe_lt h.1 h.2)
end

/-! ### what lacks at an output -/
theorem nat_snoc (xs : List Int) (n : Int) : (xs.map V.int) ++ [V.int n] = (xs ++ [n]).map V.int := by
  rw [List.map_append]
  rfl
section
variable {P : Program} {w : World} {K : PySem.W.Frag} {mg : Str → Option Value} {base : Heap} {A : Adr}
def LotsAt (H : Hp) (p : Addr) (b : Bk) : Prop := ∃ ys es, H p = some (.lst ys) ∧ All2 (LtAt H) es ys ∧ es.Perm (lots b) ∧ es.Pairwise fun a b => a.1 < b.1
def spLacking (C NO : Addr) : Sp := fun vs H Q E => ∃ (g h : Addr) (ℓ : Ow) (st : List Bk) (u : V) (d : Td), vs = [.ref g, u] ∧ GAt C H ℓ g st ∧ (∀ b ∈ st, BkOk b ∧ b.length ≤ 1000) ∧ Is h H u d ∧
  ((inI 0 ((st.length : Int) - 1) d = false ∧ E (.ref NO) none H) ∨
   ∃ (o : Nat) (b : Bk), u = .int (o : Int) ∧ st[o]? = some b ∧ ∀ H' p, Same H H' → LotsAt H' p b → Q (.ref p) H')
theorem ok_Gatherer_lacking (T : Top K mg A) : FnOk P w K mg base (L2.CX P w) 5 A.a_Gatherer_lacking A.d_Gatherer_lacking P_Gatherer_lacking (spLacking A.c_Gatherer A.c_NoOutput) := by
  refine T.F_Gatherer_lacking.okX sc_Gatherer_lacking (fun vs H Q E h => ?_) (fun cdv A' outer s H vs Q E hr h => ?_)
  · obtain ⟨g, h, ℓ, st, u, d, rfl, _⟩ := h
    rfl
  · obtain ⟨g, h, ℓ, st, u, d, rfl, G, ok, iu, md⟩ := h
    obtain ⟨dx, L, as, h1, h2, h3, h4, h5, h6⟩ := G.ex
    refine ⟨_, (pss_cons (ps_expr (pe_meth (pv 0) T.cl_Gatherer T.m_Gatherer__check_output (ok_Gatherer__check_output T) (hr.mono (by decide)) T.b_Gatherer__check_output .nil (GX.passX rfl rfl rfl rfl) (pa_cons (pv 1) pa_nil)))
    (pss_cons (ps_set (i := 2) sc_Gatherer_lacking.nd rfl (.inl rfl) (pe_lst pa_nil))
    (pss_cons (ps_lock (ps_for (L2.passes_of rfl) rfl (pi_items (pe_ix ix_list (pe_fld (pv 0) rfl) (pv 1) (fun _ _ => rfl))) (pg_tup rfl (pgs_cons (pg_name (i := 3) sc_Gatherer_lacking.nd rfl (.inl rfl)) (pgs_cons (pg_tup rfl (pgs_cons (pg_name (i := 4) sc_Gatherer_lacking.nd rfl (.inl rfl)) (pgs_cons (pg_name (i := 5) sc_Gatherer_lacking.nd rfl (.inr rfl)) pgs_nil))) pgs_nil))) (pss_cons (ps_set (i := 6) sc_Gatherer_lacking.nd rfl (.inl rfl) (pe_callTy call_tuple_of (by rfl) T.z_tuple (by decide +kernel) (pa_cons (pe_lc (own := [("part", 7)]) (by rfl) sc_Gatherer_lacking.nd (pi_range1 rfl T.z_range (pa_cons (pv 4) pa_nil)) (blkOk_by (own := [("part", 7)]) (N := N_Gatherer_lacking) (sc := defScope s_Gatherer_lacking) (by decide +kernel)) (fun _ _ _ _ _ => (pg_name (i := 7) sc_Gatherer_lacking.nd rfl (.inl rfl))) (fun _ _ _ _ _ => (pts_one (pt_cmp (pc_dnotin (GC.hu1 hr) (pv 7) (pv 5))))) (fun _ _ _ _ _ => (pv 7))) pa_nil)))
    (pss_one (ps_if (pt_truth (pv 6) (by intro _; rfl)) (pss_one (ps_expr (pe_bm PySem.F.plainAttrs_list PySem.F.slot_list_append PySem.F.type_list_append mt_append (pv 2) (pa_cons (pe_tup (pa_cons (pv 3) (pa_cons (pv 6) pa_nil))) pa_nil)))) pss_nil)))))
    (pss_one (ps_ret (pe_callB (GD.cr_sortD hr.units) (by rfl) T.z_sorted (by decide +kernel) (pa_cons (pv 2) pa_nil))))))), ?_⟩
    refine ⟨_, rfl, g, _, _, rfl, h1, rfl, _, rfl, g, h, ℓ, st, u, d, rfl, G, iu, fun c1 => ?_, fun c1 => ?_⟩
    rotate_left
    · rcases md with ⟨_, e⟩ | ⟨o, b, rfl, eb, _⟩
      · exact e
      · have := (List.getElem?_eq_some_iff.mp eb).1
        cases iu
        have c1 : (decide ((0 : Int) ≤ (o : Int)) && decide ((o : Int) ≤ (st.length : Int) - 1)) = false := c1
        rw [decide_eq_true (show (0 : Int) ≤ (o : Int) by omega), decide_eq_true (show (o : Int) ≤ (st.length : Int) - 1 by omega)] at c1
        cases c1
    rcases md with ⟨z, _⟩ | ⟨o, b, rfl, eb, k⟩
    · rw [z] at c1; cases c1
    clear c1
    have lt : o < as.length := by
      have := (List.getElem?_eq_some_iff.mp eb).1
      omega
    have ea : as[o]? = some as[o] := List.getElem?_eq_getElem lt
    generalize as[o] = a at ea
    obtain ⟨kvs, ek, al⟩ := (h6 o a b ea eb).ex
    have bok := ok b (List.mem_of_getElem? eb)
    refine ⟨by show 0 ≤ sizeLine; decide, fun F nF => ?_⟩
    obtain ⟨H1, e1, s1, eF⟩ := newH nF (o := .lst [])
    rw [e1]
    clear e1
    refine ⟨a, _, s1 _ _ ek, trivial, fun od => ?_⟩
    have ekf : (upd H1 a (.frz od (.dK kvs))) a = some (.frz od (.dK kvs)) := upd_same
    have off : ∀ q, q ≠ a → (upd H1 a (.frz od (.dK kvs))) q = H1 q := fun q hq => upd_ne hq
    have na : ∀ {q o'}, H q = some o' → (∀ kvs', o' ≠ .dK kvs') → (upd H1 a (.frz od (.dK kvs))) q = some o' := fun {q o'} hq ho => by
      rw [off q (ne_of hq ek (ho _)).symm.symm]
      exact s1 _ _ hq
    generalize upd H1 a (.frz od (.dK kvs)) = H2 at ekf off na ⊢
    refine ⟨_, rfl, g, _, dx, _, .ref L, rfl, na h1 (by intro z; nofun), T.cl_Gatherer, T.n_Gatherer__begun, rfl, _, rfl, L, _, (o : Int), _, rfl, rfl, SqL.of (na h3 (by intro z; nofun)), at_of (j := o) (by omega) (map_at ea), a, od, kvs, rfl, ekf, ?_⟩
    have Fa : F ≠ a := fun z => by rw [z, ek] at nF; cases nF
    have eF2 : H2 F = some (.lst []) := by rw [off F Fa]; exact eF
    have s2 : ∀ q o', q ≠ a → H q = some o' → H2 q = some o' := fun q o' hq e => by
      rw [off q hq]
      exact s1 _ _ e
    refine for_it walk_items (fun i σ H' => ∃ y3 y4 y5 y6 : Option V, σ = [some (.ref g), some (.int (o : Int)), some (.ref F), y3, y4, y5, y6, none] ∧ Kp F H2 H' ∧ ∃ ys, H' F = some (.lst ys) ∧ All2 (LtAt H') (lots (b.take i)) ys ∧ ys.length ≤ i) ⟨none, none, none, none, rfl, fun _ _ _ e => e, [], eF2, .nil, Nat.le_refl _⟩ (fun i σ H' _ ⟨_, _, _, _, _, k7, _⟩ => k7 a _ Fa.symm ekf) ?_ ?_
    · rintro i x σ H3 H3' hi ⟨y3, y4, y5, y6, rfl, k3, ys, e3, all3, len3⟩ ⟨TT, x1, x2, rfl, nT, rfl, z1, z2⟩
      have hkv : kvs[i]? = some kvs[i] := List.getElem?_eq_getElem hi
      obtain ⟨e, he, r⟩ := al.getL hkv
      have z1 : (kvs[i]?.map fun kv => kV kv.1) = some x1 := z1
      have z2 : kvs[i]?.map Prod.snd = some x2 := z2
      rw [hkv] at z1 z2
      generalize kvs[i] = kv at hkv r z1 z2
      obtain ⟨kk, vv⟩ := kv
      obtain ⟨n, m, ps⟩ := e
      obtain ⟨r1, t, a0, r2, r3, r4, r5⟩ := r
      have r1 : kk = .inl n := r1
      have r2 : vv = .ref t := r2
      subst r1 r2
      cases z1
      cases z2
      have eok := bok.1.ok _ (List.mem_of_getElem? he)
      obtain ⟨m1, m10, pok⟩ := eok
      have m1 : 1 ≤ m := m1
      have m10 : m ≤ 10 := m10
      have sT := same_upd nT (o := .tup [kV (.inl n), .ref t])
      have eTT : (upd H3 TT (.tup [kV (.inl n), .ref t])) TT = some (.tup [.int n, .ref t]) := upd_same
      have k4 := k3.same sT
      have e4 := sT _ _ e3
      have all4 := all3.imp fun _ _ h => h.same sT
      generalize upd H3 TT (.tup [kV (.inl n), .ref t]) = H4 at eTT k4 e4 all4 ⊢
      have old : ∀ {q o'}, H q = some o' → q ≠ a → q ≠ F → H4 q = some o' := fun {q o'} h h1 h2 => k4 q _ h2 (s2 q _ h1 h)
      have t4 : ∀ q ys, H q = some (.tup ys) → H4 q = some (.tup ys) := fun q ys h => old h (ne_of h ek (by intro z; cases z)) (fun z => by rw [z, nF] at h; cases h)
      have na0 : a0 ≠ a := fun z => by
        have q := (h6 o a b ea eb).own
        rw [z, q] at r4
        cases r4
      have p4 : PartsAt H4 a0 ps := r5.keep t4 fun o' h => old h na0 (fun z => by rw [z, nF] at h; cases h)
      refine ⟨TT, _, rfl, SqT.of eTT, rfl, _, _, rfl, _, _, rfl, t, _, rfl, SqT.of (t4 _ _ r3), rfl, _, _, rfl, _, _, rfl, rfl, rfl, ?_⟩
      refine ⟨_, rfl, m, rfl, by omega, by omega, fun D nD => ?_⟩
      refine lc_range (lo := 0) (n := m.toNat) (fun j H' => Same H4 H' ∧ H' D = some (.lst ((lotUp ps j).map V.int))) ⟨same_upd nD, upd_same⟩ ?_ ?_
      · rintro j H5 hj ⟨s5, e5⟩
        obtain ⟨oo, dg, hoo⟩ := (p4.keep (fun q ys h => s5 _ _ h) (fun _ h => s5 _ _ h)).has (0 + (j : Int))
        refine ⟨rfl, _, rfl, _, rfl, a0, oo, rfl, dg, _, rfl, ?_⟩
        show if (!oo.isSome) = true then _ else _
        rw [hoo, Int.zero_add]
        have st := lotUp_succ ps j
        by_cases c : (!decide ((j : Int) ∈ keysP ps)) = true
        · rw [if_pos c] at st ⊢
          refine ⟨_, rfl, _, e5, small1000 (by rw [List.length_map]; have := lotUp_len ps j; omega), same_to s5 nD, ?_⟩
          rw [upd_same, st, nat_snoc]
        · rw [if_neg c] at st ⊢
          rw [List.append_nil] at st
          exact ⟨s5, by rw [st]; exact e5⟩
      rintro H5 ⟨s5, e5⟩
      refine ⟨D, _, rfl, .inl ⟨SqL.of e5, fun q5 nq5 => ?_⟩⟩
      have s6 := s5.trans (same_upd nq5 (o := .tup ((lotUp ps m.toNat).map V.int)))
      have e6 : (upd H5 q5 (.tup ((lotUp ps m.toNat).map V.int))) q5 = some (.tup ((lotUp ps m.toNat).map V.int)) := upd_same
      generalize upd H5 q5 (.tup ((lotUp ps m.toNat).map V.int)) = H6 at s6 e6 ⊢
      have k6 := k4.same s6
      have st := lots_take he
      refine ⟨_, rfl, (!((lotUp ps m.toNat).map V.int).isEmpty), .inr (.inl ⟨_, SqT.of e6, rfl⟩), ?_⟩
      have em : lotE (n, m, ps) = if lotUp ps m.toNat = [] then none else some (n, lotUp ps m.toNat) := rfl
      cases c : lotUp ps m.toNat with
      | nil =>
        rw [c] at em
        rw [em] at st
        refine iteF ⟨_, _, _, _, rfl, k6, ys, s6 _ _ e4, ?_, by omega⟩
        rw [st, if_pos rfl]
        show All2 (LtAt H6) (lots (b.take i) ++ []) ys
        rw [List.append_nil]
        exact all4.imp fun _ _ h => h.same s6
      | cons x xs =>
        rw [c] at em e6
        rw [em] at st
        refine iteT ⟨_, rfl, .inl ⟨rfl, _, SqL.of (s6 _ _ e4)⟩, _, rfl, _, rfl, by show 2 ≤ sizeLine; decide, fun q7 nq7 => ?_⟩
        have s7 := same_upd nq7 (o := .tup [.int n, .ref q5])
        have e7 : (upd H6 q7 (.tup [.int n, .ref q5])) q7 = some (.tup [.int n, .ref q5]) := upd_same
        have e67 := s7 _ _ e6
        have k7 := k6.same s7
        have all7 := all4.imp fun _ _ h => h.same (s6.trans s7)
        have eF7 := s7 _ _ (s6 _ _ e4)
        generalize upd H6 q7 (.tup [.int n, .ref q5]) = H7 at e7 e67 k7 all7 eF7 ⊢
        have bl := bok.2
        have li : i < 1000 := by
          have := al.len
          omega
        refine ⟨F, _, _, rfl, rfl, eF7, small1000 (by omega), _, _, _, _, rfl, k7.upd, _, upd_same, ?_, by rw [List.length_append]; exact Nat.succ_le_succ len3⟩
        rw [st]
        have keepL : ∀ x v, LtAt H7 x v → LtAt (upd H7 F (.lst (ys ++ [.ref q7]))) x v := fun x v ⟨t1, t2, z1, z2, z3⟩ => ⟨t1, t2, z1, by rw [upd_ne (ne_of z2 eF7 (by intro z; cases z))]; exact z2, by rw [upd_ne (ne_of z3 eF7 (by intro z; cases z))]; exact z3⟩
        exact (all7.imp fun _ _ h => keepL _ _ h).snoc (keepL _ _ ⟨q7, q5, rfl, e7, e67⟩)
    · rintro σ H3 ⟨y3, y4, y5, y6, rfl, k3, ys, e3, all3, len3⟩
      rw [al.len, List.take_length] at all3
      have ek3 := k3 a _ Fa.symm ekf
      refine ⟨ek3, ?_⟩
      have unf : ∀ q o', q ≠ a → H3 q = some o' → (upd H3 a (.dK kvs)) q = some o' := fun q o' hq e => by
        rw [upd_ne hq]
        exact e
      have eF4 := unf F _ Fa e3
      have ne3 : ∀ {q xs}, H3 q = some (.tup xs) → q ≠ a := fun {q xs} h z => by
        rw [z, ek3] at h
        cases h
      have all4 : All2 (LtAt (upd H3 a (.dK kvs))) (lots b) ys := all3.imp fun x v ⟨t1, t2, z1, z2, z3⟩ => ⟨t1, t2, z1, unf _ _ (ne3 z2) z2, unf _ _ (ne3 z3) z3⟩
      have s4 : Same H (upd H3 a (.dK kvs)) := fun q o' e => by
        by_cases z : q = a
        · subst z
          rw [ek] at e
          rw [← e, upd_same]
        · exact unf q _ z (k3 q _ (fun w => by rw [w, nF] at e; cases e) (s2 q _ z e))
      generalize upd H3 a (.dK kvs) = H4 at eF4 all4 s4 ⊢
      refine ⟨_, rfl, sort_lot (lots_nd bok.1.nd) eF4 all4 fun H5 p5 ys5 es5 s5 e5 al5 pm pw => ?_⟩
      exact k H5 p5 (s4.trans s5) ⟨ys5, es5, e5, al5, pm, pw⟩
end

/-! ### the same, told twice -/
inductive Plain : V → Prop where
  | non : Plain .non
  | int (i : Int) : Plain (.int i)
  | bl (b : Bool) : Plain (.bl b)
  | str (x : Str) : Plain (.str x)
/-- a list or a tuple at a -/
def SeqO (b : Bool) (xs : List V) : HO := if b then .lst xs else .tup xs
inductive SameV (H : Hp) : Nat → V → V → Prop where
  | plain {n : Nat} {v : V} : Plain v → SameV H n v v
  | seq {n : Nat} {k : Bool} {a b : Addr} {xs ys : List V} : H a = some (SeqO k xs) → H b = some (SeqO k ys) → xs.length = ys.length → xs.length ≤ 900 → (∀ (i : Nat) (u v : V), xs[i]? = some u → ys[i]? = some v → SameV H n u v) → SameV H (n + 1) (.ref a) (.ref b)
theorem SameV.same {H H' : Hp} (s : Same H H') {n : Nat} {u v : V} (h : SameV H n u v) : SameV H' n u v := by
  induction h with
  | plain p => exact .plain p
  | seq e1 e2 l m _ ih => exact .seq (s _ _ e1) (s _ _ e2) l m ih
theorem kit2 {K : PySem.W.Frag} {a : String} {b1 b2 : Bool} (h1 : kitB a "list" = some b1) (h2 : kitB a "tuple" = some b2) : PySem.W.kitAny K (.type a) [.type "list", .type "tuple"] = some (b1 || b2) := by
  unfold PySem.W.kitAny
  rw [kitQ h1 rfl]
  cases b1 with
  | true => rfl
  | false =>
    dsimp only
    unfold PySem.W.kitAny
    rw [kitQ h2 rfl]
    cases b2 <;> rfl
theorem true_snoc (n : Nat) : (List.replicate (n + 1) true).map V.bl = (List.replicate n true).map V.bl ++ [.bl true] := by
  rw [List.replicate_succ', List.map_append]
  rfl
theorem all_rep (n : Nat) : (List.replicate n true).all id = true := by
  induction n with
  | zero => rfl
  | succ n ih => rw [List.replicate_succ, List.all_cons, ih]; rfl
section
variable {P : Program} {w : World} {K : PySem.W.Frag} {mg : Str → Option Value} {base : Heap} {A : Adr}
def spSame (c : Nat) : Sp := fun vs H Q _ => ∃ (u v : V) (n : Nat), vs = [u, v] ∧ SameV H n u v ∧ n < c ∧ ∀ H', Same H H' → Q (.bl true) H'
theorem same_step {c : Nat} (T : Top K mg A) (G : FnOk P w K mg base CX0 c A.a_law_same A.d_law_same P_law_same (spSame c)) : FnOk P w K mg base CX0 (c + 1) A.a_law_same A.d_law_same P_law_same (spSame (c + 1)) := by
  refine T.F_law_same.ok sc_law_same (fun vs H Q E h => ?_) (fun cdv A' outer s H vs Q E hr h => ?_)
  · obtain ⟨u, v, n, rfl, _⟩ := h
    rfl
  · obtain ⟨u, v, n, rfl, sv, hn, k⟩ := h
    refine ⟨_, (pss_cons (ps_if (pt_val (pe_callB call_isi (by rfl) T.z_isinstance (by decide +kernel) (pa_cons (pv 1) (pa_cons (pe_bltn (v := .ty "dict") (by rfl) T.z_dict (by decide +kernel) rfl) pa_nil)))) (pss_cons (ps_if (PW.pt (pw_or (pt_not (pt_val (pe_callB call_isi (by rfl) T.z_isinstance (by decide +kernel) (pa_cons (pv 0) (pa_cons (pe_bltn (v := .ty "dict") (by rfl) T.z_dict (by decide +kernel) rfl) pa_nil))))) (pw_or1 (pt_cmpR op_ne (pe_callB cr_sortedI (by rfl) T.z_sorted (by decide +kernel) (pa_cons (pv 0) pa_nil)) (pe_callB cr_sortedI (by rfl) T.z_sorted (by decide +kernel) (pa_cons (pv 1) pa_nil)) (nomark _))))) (pss_one (ps_ret pe_bl)) pss_nil)
    (pss_one (ps_ret (pe_callB (cr_all rfl) (by rfl) T.z_all (by decide +kernel) (pa_cons (pe_lc (own := [("_law_key", 2)]) (by rfl) sc_law_same.nd (pi_list (pe_callB cr_sortedI (by rfl) T.z_sorted (by decide +kernel) (pa_cons (pv 1) pa_nil))) (blkOk_by (own := [("_law_key", 2)]) (N := N_law_same) (sc := defScope s_law_same) (by decide +kernel)) (fun _ _ _ _ _ => (pg_name (i := 2) sc_law_same.nd rfl (.inl rfl))) (fun _ _ _ _ _ => pts_nil) (fun _ _ _ _ _ => (pe_call G hr (by rfl) T.g_law_same T.F_law_same.kp T.b_law_same .nil pass0 (pa_cons (pe_ix (show IxR _ (rIxL K) from ix_list) (pv 0) (pv 2) (fun _ _ => rfl)) (pa_cons (pe_ix (show IxR _ (rIxL K) from ix_list) (pv 1) (pv 2) (fun _ _ => rfl)) pa_nil))))) pa_nil))))) pss_nil)
    (pss_cons (ps_if (pt_val (pe_callB call_isiT (by rfl) T.z_isinstance (by decide +kernel) (pa_cons (pv 1) (pa_cons (pe_tup (pa_cons (pe_bltn (v := .ty "list") (by rfl) T.z_list (by decide +kernel) rfl) (pa_cons (pe_bltn (v := .ty "tuple") (by rfl) T.z_tuple (by decide +kernel) rfl) pa_nil))) pa_nil)))) (pss_cons (ps_if (PW.pt (pw_or (pt_cmpR op_ne (pe_callB call_isi (by rfl) T.z_isinstance (by decide +kernel) (pa_cons (pv 0) (pa_cons (pe_bltn (v := .ty "list") (by rfl) T.z_list (by decide +kernel) rfl) pa_nil))) (pe_callB call_isi (by rfl) T.z_isinstance (by decide +kernel) (pa_cons (pv 1) (pa_cons (pe_bltn (v := .ty "list") (by rfl) T.z_list (by decide +kernel) rfl) pa_nil))) (nomark _)) (pw_or1 (pt_cmpR op_ne (pe_callB call_isi (by rfl) T.z_isinstance (by decide +kernel) (pa_cons (pv 0) (pa_cons (pe_bltn (v := .ty "tuple") (by rfl) T.z_tuple (by decide +kernel) rfl) pa_nil))) (pe_callB call_isi (by rfl) T.z_isinstance (by decide +kernel) (pa_cons (pv 1) (pa_cons (pe_bltn (v := .ty "tuple") (by rfl) T.z_tuple (by decide +kernel) rfl) pa_nil))) (nomark _))))) (pss_one (ps_ret pe_bl)) pss_nil)
    (pss_cons (ps_if (pt_cmpR op_ne (pe_callB call_len_seq (by rfl) T.z_len (by decide +kernel) (pa_cons (pv 0) pa_nil)) (pe_callB call_len_seq (by rfl) T.z_len (by decide +kernel) (pa_cons (pv 1) pa_nil)) (nomark _)) (pss_one (ps_ret pe_bl)) pss_nil)
    (pss_one (ps_ret (pe_callB (cr_all rfl) (by rfl) T.z_all (by decide +kernel) (pa_cons (pe_lc (own := [("_law_k", 3)]) (by rfl) sc_law_same.nd (pi_range1 rfl T.z_range (pa_cons (pe_callB call_len_seq (by rfl) T.z_len (by decide +kernel) (pa_cons (pv 1) pa_nil)) pa_nil)) (blkOk_by (own := [("_law_k", 3)]) (N := N_law_same) (sc := defScope s_law_same) (by decide +kernel)) (fun _ _ _ _ _ => (pg_name (i := 3) sc_law_same.nd rfl (.inl rfl))) (fun _ _ _ _ _ => pts_nil) (fun _ _ _ _ _ => (pe_call G hr (by rfl) T.g_law_same T.F_law_same.kp T.b_law_same .nil pass0 (pa_cons (pe_ix (show IxR _ (fun x y H Q => rIxL K x y H Q ∨ rIxT K x y H Q) from (IxR.or ix_list ix_tup)) (pv 0) (pv 3) (fun _ _ => rfl)) (pa_cons (pe_ix (show IxR _ (fun x y H Q => rIxL K x y H Q ∨ rIxT K x y H Q) from (IxR.or ix_list ix_tup)) (pv 1) (pv 3) (fun _ _ => rfl)) pa_nil))))) pa_nil)))))) pss_nil)
    (pss_cons (ps_if (PW.pt (pw_or (pt_cmpR op_isN (pv 1) pe_non (nomark _)) (pw_or1 (pt_cmpR op_ne (pe_callB call_isi (by rfl) T.z_isinstance (by decide +kernel) (pa_cons (pv 0) (pa_cons (pe_bltn (v := .ty "bool") (by rfl) T.z_bool (by decide +kernel) rfl) pa_nil))) (pe_callB call_isi (by rfl) T.z_isinstance (by decide +kernel) (pa_cons (pv 1) (pa_cons (pe_bltn (v := .ty "bool") (by rfl) T.z_bool (by decide +kernel) rfl) pa_nil))) (nomark _))))) (pss_one (ps_ret (pe_and (pe_cmpR op_isN (pv 0) pe_non (nomark _)) (pe_one (pe_cmpR op_isN (pv 1) pe_non (nomark _)))))) pss_nil)
    (pss_cons (ps_if (pt_val (pe_callB call_isi (by rfl) T.z_isinstance (by decide +kernel) (pa_cons (pv 1) (pa_cons (pe_bltn (v := .ty "int") (by rfl) T.z_int (by decide +kernel) rfl) pa_nil)))) (pss_one (ps_ret (pe_and (pe_callB call_isi (by rfl) T.z_isinstance (by decide +kernel) (pa_cons (pv 0) (pa_cons (pe_bltn (v := .ty "int") (by rfl) T.z_int (by decide +kernel) rfl) pa_nil))) (pe_one (pe_cmpR op_eq (pv 0) (pv 1) (nomark _)))))) pss_nil)
    (pss_one (ps_ret (pe_and (pe_callB call_isi (by rfl) T.z_isinstance (by decide +kernel) (pa_cons (pv 0) (pa_cons (pe_bltn (v := .ty "str") (by rfl) T.z_str (by decide +kernel) rfl) pa_nil))) (pe_one (pe_cmpR op_eq (pv 0) (pv 1) (nomark _)))))))))), ?_⟩
    cases sv with
    | plain pl =>
      obtain ⟨t, bb, bi, bs, ty, kd, k2, kb, ki, ks, kn⟩ : ∃ t bb bi bs, (∀ H', TyX K H' u t) ∧ PySem.W.kitOne K t (.type "dict") = some false ∧ PySem.W.kitAny K t [.type "list", .type "tuple"] = some false ∧ PySem.W.kitOne K t (.type "bool") = some bb ∧ PySem.W.kitOne K t (.type "int") = some bi ∧ PySem.W.kitOne K t (.type "str") = some bs ∧ (u ≠ .non → bi = false → bs = true) := by
        cases pl with
        | non => exact ⟨_, false, false, false, fun _ => .base .non, kitQ (by decide +kernel) rfl, kit2 (b1 := false) (b2 := false) (by decide +kernel) (by decide +kernel), kitQ (by decide +kernel) rfl, kitQ (by decide +kernel) rfl, kitQ (by decide +kernel) rfl, fun z => absurd rfl z⟩
        | int i => exact ⟨_, false, true, false, fun _ => .base (.int i), kitQ (by decide +kernel) rfl, kit2 (b1 := false) (b2 := false) (by decide +kernel) (by decide +kernel), kitQ (by decide +kernel) rfl, kitQ (by decide +kernel) rfl, kitQ (by decide +kernel) rfl, fun _ z => (by cases z)⟩
        | bl c => exact ⟨_, true, true, false, fun _ => .base (.bl c), kitQ (by decide +kernel) rfl, kit2 (b1 := false) (b2 := false) (by decide +kernel) (by decide +kernel), kitQ (by decide +kernel) rfl, kitQ (by decide +kernel) rfl, kitQ (by decide +kernel) rfl, fun _ z => (by cases z)⟩
        | str x => exact ⟨_, false, false, true, fun _ => .base (.str x), kitQ (by decide +kernel) rfl, kit2 (b1 := false) (b2 := false) (by decide +kernel) (by decide +kernel), kitQ (by decide +kernel) rfl, kitQ (by decide +kernel) rfl, kitQ (by decide +kernel) rfl, fun _ _ => rfl⟩
      refine ⟨_, rfl, _, _, _, _, _, rfl, .ty "dict", ty _, kd, _, rfl, iteF ?_⟩
      refine ⟨_, rfl, (by show 2 ≤ sizeLine; decide), fun p np => ?_⟩
      have s1 := same_upd np (o := .tup [.ty "list", .ty "tuple"])
      refine ⟨_, p, _, t, _, false, rfl, upd_same, .cons (.ty _) (.cons (.ty _) .nil), ty _, k2, _, rfl, iteF ?_⟩
      generalize upd H p (.tup [.ty "list", .ty "tuple"]) = H1 at s1 ⊢
      by_cases nn : u = .non
      · subst nn
        refine ⟨_, rfl, rfl, _, rfl, ?_⟩
        rw [dec_self]
        refine iteT ⟨_, rfl, rfl, _, rfl, ?_⟩
        rw [dec_self]
        refine iteT ⟨_, rfl, rfl, ?_⟩
        rw [dec_self]
        exact k _ s1
      refine ⟨_, rfl, rfl, _, rfl, ?_⟩
      rw [decide_eq_false nn]
      refine iteF ⟨_, rfl, _, _, _, _, _, rfl, .ty "bool", ty _, kb, _, rfl, _, _, _, _, _, rfl, .ty "bool", ty _, kb, rfl, _, rfl, ?_⟩
      rw [dec_self]
      refine iteF ⟨_, rfl, _, _, _, _, _, rfl, .ty "int", ty _, ki, _, rfl, ?_⟩
      cases hb : bi with
      | true =>
        rw [hb] at ki
        refine iteT ⟨_, rfl, _, _, _, _, _, rfl, .ty "int", ty _, ki, _, rfl, iteT ⟨_, rfl, _, rfl, ?_, ?_⟩⟩
        · cases pl <;> rfl
        · rw [dec_self]
          exact k _ s1
      | false =>
        rw [hb] at ki
        have hs := kn nn hb
        subst hs
        refine iteF ⟨_, rfl, _, _, _, _, _, rfl, .ty "str", ty _, ks, _, rfl, iteT ⟨_, rfl, _, rfl, ?_, ?_⟩⟩
        · cases pl <;> rfl
        · rw [dec_self]
          exact k _ s1
    | seq e1 e2 ll few each =>
      rename_i n kk a b xs ys
      obtain ⟨t, ty, kd, k2, kl, kt, ln, ixq⟩ : ∃ t, (∀ H' p zs, H' p = some (SeqO kk zs) → TyX K H' (.ref p) t) ∧ PySem.W.kitOne K t (.type "dict") = some false ∧ PySem.W.kitAny K t [.type "list", .type "tuple"] = some true ∧ PySem.W.kitOne K t (.type "list") = some kk ∧ PySem.W.kitOne K t (.type "tuple") = some (!kk) ∧
          (∀ (H' : Hp) p zs, H' p = some (SeqO kk zs) → SqL K H' p zs ∨ SqT K H' p zs) ∧ (∀ (H' : Hp) p zs (j : Nat) v (Q : VK), H' p = some (SeqO kk zs) → zs[j]? = some v → Q v H' → (rIxL K (.ref p) (.int (j : Int)) H' Q ∨ rIxT K (.ref p) (.int (j : Int)) H' Q)) := by
        cases kk with
        | true => exact ⟨_, fun H' p zs e => .base (.lst e), kitQ (a := "list") (r := false) (by decide +kernel) rfl, kit2 (a := "list") (b1 := true) (b2 := false) (by decide +kernel) (by decide +kernel), kitQ (a := "list") (r := true) (by decide +kernel) rfl, kitQ (a := "list") (r := false) (by decide +kernel) rfl, fun H' p zs e => .inl (SqL.of e), fun H' p zs j v Q e hv q => .inl ⟨p, zs, _, v, rfl, rfl, SqL.of e, atI_nat hv, q⟩⟩
        | false => exact ⟨_, fun H' p zs e => .base (.tup e), kitQ (a := "tuple") (r := false) (by decide +kernel) rfl, kit2 (a := "tuple") (b1 := false) (b2 := true) (by decide +kernel) (by decide +kernel), kitQ (a := "tuple") (r := false) (by decide +kernel) rfl, kitQ (a := "tuple") (r := true) (by decide +kernel) rfl, fun H' p zs e => .inr (SqT.of e), fun H' p zs j v Q e hv q => .inr ⟨p, zs, _, v, rfl, rfl, SqT.of e, atI_nat hv, q⟩⟩
      refine ⟨_, rfl, _, _, _, _, _, rfl, .ty "dict", ty _ _ _ e2, kd, _, rfl, iteF ?_⟩
      refine ⟨_, rfl, (by show 2 ≤ sizeLine; decide), fun p np => ?_⟩
      have s1 := same_upd np (o := .tup [.ty "list", .ty "tuple"])
      refine ⟨_, p, _, t, _, true, rfl, upd_same, .cons (.ty _) (.cons (.ty _) .nil), ty _ _ _ (s1 _ _ e2), k2, _, rfl, iteT ?_⟩
      have e1 := s1 _ _ e1
      have e2 := s1 _ _ e2
      generalize upd H p (.tup [.ty "list", .ty "tuple"]) = H1 at s1 e1 e2 ⊢
      refine ⟨_, rfl, _, _, _, _, _, rfl, .ty "list", ty _ _ _ e1, kl, _, rfl, _, _, _, _, _, rfl, .ty "list", ty _ _ _ e2, kl, rfl, _, rfl, ?_⟩
      rw [dec_self]
      refine iteF ⟨_, rfl, _, _, _, _, _, rfl, .ty "tuple", ty _ _ _ e1, kt, _, rfl, _, _, _, _, _, rfl, .ty "tuple", ty _ _ _ e2, kt, rfl, _, rfl, ?_⟩
      rw [dec_self]
      refine iteF ?_
      refine ⟨_, rfl, a, xs, rfl, ln _ _ _ e1, _, rfl, b, ys, rfl, ln _ _ _ e2, rfl, _, rfl, ?_⟩
      rw [dec_int, decide_eq_true (show (xs.length : Int) = (ys.length : Int) by omega)]
      refine iteF ⟨_, rfl, b, ys, rfl, ln _ _ _ e2, _, rfl, by omega, by omega, fun B nB => ?_⟩
      refine lc_range (lo := 0) (n := ((ys.length : Nat) : Int).toNat) (fun i H' => Same H1 H' ∧ H' B = some (.lst ((List.replicate i true).map V.bl))) ⟨same_upd nB, upd_same⟩ ?_ ?_
      · rintro i H3 hi ⟨s3, e3⟩
        rw [Int.toNat_natCast] at hi
        have hx : xs[i]? = some (xs[i]'(by omega)) := List.getElem?_eq_getElem (by omega)
        have hy : ys[i]? = some ys[i] := List.getElem?_eq_getElem hi
        rw [Int.zero_add]
        refine ⟨rfl, ?_⟩
        refine ⟨_, rfl, _, rfl, ixq _ _ _ i _ _ (s3 _ _ e1) hx ?_⟩
        refine ⟨_, rfl, _, rfl, ixq _ _ _ i _ _ (s3 _ _ e2) hy ?_⟩
        refine ⟨_, _, n, rfl, (each i _ _ hx hy).same (s1.trans s3), by omega, fun H5 s5 => ?_⟩
        refine ⟨_, s5 _ _ e3, by rw [List.length_map, List.length_replicate]; exact small1000 (by omega), same_to (s3.trans s5) nB, by rw [upd_same, true_snoc]⟩
      · rintro H3 ⟨s3, e3⟩
        refine ⟨B, _, rfl, SqL.of e3, ?_⟩
        rw [all_rep]
        exact k _ (s1.trans s3)
theorem same_all (T : Top K mg A) : ∀ c : Nat, FnOk P w K mg base CX0 c A.a_law_same A.d_law_same P_law_same (spSame c)
  | 0 => by
    have none_ : ∀ vs H Q E, ¬ spSame 0 vs H Q E := fun vs H Q E h => by
      obtain ⟨u, v, n, _, _, hn, _⟩ := h
      omega
    exact ⟨fun vs H Q E h => absurd h (none_ vs H Q E), fun A outer s H args us vs Q E _ _ _ _ h => absurd h (none_ vs H Q E)⟩
  | c + 1 => same_step T (same_all T c)
theorem ok_law_same (T : Top K mg A) : FnOk P w K mg base CX0 5 A.a_law_same A.d_law_same P_law_same (spSame 5) := same_all T 5
end

/-! ### what the law is told of a load that comes -/
def AnsAt (H : Hp) (v : V) : Out → Prop
  | .told r => ∃ t x, v = .ref t ∧ H t = some (.tup [.str "told", x]) ∧ RAt H x r
  | .twice => ∃ t, v = .ref t ∧ H t = some (.tup [.str "Twice"])
  | .mixed => ∃ t, v = .ref t ∧ H t = some (.tup [.str "Mixed"])
theorem set_self {st : List Bk} {o : Nat} {b : Bk} (h : st[o]? = some b) : st.set o b = st := by
  refine List.ext_getElem? fun i => ?_
  by_cases e : i = o
  · subst e
    rw [List.getElem?_set_self (List.getElem?_eq_some_iff.mp h).1, h]
  · rw [List.getElem?_set_ne (Ne.symm e)]
theorem RAt.same {H H' : Hp} (s : Same H H') {v : V} {r : Option Wd} (h : RAt H v r) : RAt H' v r := by
  cases r with
  | none => exact h
  | some ws => exact let ⟨t, h1, h2⟩ := h; ⟨t, h1, s _ _ h2⟩
section
variable {P : Program} {w : World} {K : PySem.W.Frag} {mg : Str → Option Value} {base : Heap} {A : Adr}
def spTold (C : Addr) : Sp := fun vs H Q _ => ∃ (g h : Addr) (ℓ : Ow) (st : List Bk) (u x : V) (d1 d2 : Td), vs = [.ref g, u, x] ∧ GAt C H ℓ g st ∧ (∀ b ∈ st, BkOk b ∧ b.length ≤ 1000) ∧ Is h H u d1 ∧ Is h H x d2 ∧
  ((inI 0 ((st.length : Int) - 1) d1 = false ∧ ∀ H' p, Same H H' → H' p = some (.tup [.str "NoOutput"]) → Q (.ref p) H') ∨
   (inI 0 ((st.length : Int) - 1) d1 = true ∧ loadB d2 = false ∧ ∀ H' p, Same H H' → H' p = some (.tup [.str "BadLoad"]) → Q (.ref p) H') ∨
   ∃ (o : Nat) (b : Bk) (n p l : Int) (ws : Wd) (c : Int) (ad q : Addr), Good H st u x o b n p l ws c ad q ∧ d1 = .int (o : Int) ∧ d2 = loadT n p l ws c ∧
    ∀ H' ℓ' v, Kpt (atG o) H ℓ H' ℓ' → GAt C H' ℓ' g (st.set o (nxtB b n p l ws)) → AnsAt H' v (outB b n p l ws) → Q v H')
theorem GAt.same {C : Addr} {H H' : Hp} {ℓ : Ow} {g : Addr} {st : List Bk} (G : GAt C H ℓ g st) (s : Same H H') : GAt C H' ℓ g st := G.kpt (Kpt.same (S := isB) s) fun l hl hb => by
  cases l <;> first | exact hl.elim | exact hb.elim
theorem ok_law_told (T : Top K mg A) : FnOk P w K mg base CX0 7 A.a_law_told A.d_law_told P_law_told (spTold A.c_Gatherer) := by
  refine T.F_law_told.ok sc_law_told (fun vs H Q E h => ?_) (fun cdv A' outer s H vs Q E hr h => ?_)
  · obtain ⟨g, h, ℓ, st, u, x, d1, d2, rfl, _⟩ := h
    rfl
  · obtain ⟨g, h, ℓ, st, u, x, d1, d2, rfl, G, ok, iu, ix, md⟩ := h
    refine ⟨_, (pss_cons (ps_set (i := 3) sc_law_told.nd rfl (.inl rfl) pe_non)
    (pss_cons (ps_set (i := 4) sc_law_told.nd rfl (.inl rfl) pe_bl)
    (pss_cons (GT.ps_try_g rfl rfl sc_law_told.nd LamX.takes0 (fun W pn xe tk _ => (pss_one (ps_set (i := 3) sc_law_told.nd rfl (.inl rfl) (pe_tup (pa_cons pe_str (pa_cons (pe_meth (pv 0) T.cl_Gatherer T.m_Gatherer_comes (ok_Gatherer_comes T) (hr.mono (by decide)) T.b_Gatherer_comes .nil (GX.passT 6 tk) (pa_cons (pv 1) (pa_cons (pv 2) pa_nil))) pa_nil)))))) (.as_ (i := 5) rfl (by decide) T.gc_NoOutput rfl rfl (fun a oe cls d pn hz hf => by exact (pss_cons (ps_set (i := 3) sc_law_told.nd rfl (.inl rfl) (pe_tup (pa_cons pe_str pa_nil)))
    (pss_one (ps_set (i := 4) sc_law_told.nd rfl (.inl rfl) (pe_callB (GX.call_isEa (a := a) (pn := pn) hz hf) (by rfl) T.z_isinstance (by decide +kernel) (pa_cons (pv 5) (pa_cons (pe_glob (v := .ref A.c_FabricError) (by rfl) T.gc_FabricError (by rfl)) pa_nil))))))) (.as_ (i := 5) rfl (by decide) T.gc_BadLoad rfl rfl (fun a oe cls d pn hz hf => by exact (pss_cons (ps_set (i := 3) sc_law_told.nd rfl (.inl rfl) (pe_tup (pa_cons pe_str pa_nil)))
    (pss_one (ps_set (i := 4) sc_law_told.nd rfl (.inl rfl) (pe_callB (GX.call_isEa (a := a) (pn := pn) hz hf) (by rfl) T.z_isinstance (by decide +kernel) (pa_cons (pv 5) (pa_cons (pe_glob (v := .ref A.c_FabricError) (by rfl) T.gc_FabricError (by rfl)) pa_nil))))))) (.as_ (i := 5) rfl (by decide) T.gc_Twice rfl rfl (fun a oe cls d pn hz hf => by exact (pss_cons (ps_set (i := 3) sc_law_told.nd rfl (.inl rfl) (pe_tup (pa_cons pe_str pa_nil)))
    (pss_one (ps_set (i := 4) sc_law_told.nd rfl (.inl rfl) (pe_callB (GX.call_isEa (a := a) (pn := pn) hz hf) (by rfl) T.z_isinstance (by decide +kernel) (pa_cons (pv 5) (pa_cons (pe_glob (v := .ref A.c_FabricError) (by rfl) T.gc_FabricError (by rfl)) pa_nil))))))) (.as_ (i := 5) rfl (by decide) T.gc_Mixed rfl rfl (fun a oe cls d pn hz hf => by exact (pss_cons (ps_set (i := 3) sc_law_told.nd rfl (.inl rfl) (pe_tup (pa_cons pe_str pa_nil)))
    (pss_one (ps_set (i := 4) sc_law_told.nd rfl (.inl rfl) (pe_callB (GX.call_isEa (a := a) (pn := pn) hz hf) (by rfl) T.z_isinstance (by decide +kernel) (pa_cons (pv 5) (pa_cons (pe_glob (v := .ref A.c_FabricError) (by rfl) T.gc_FabricError (by rfl)) pa_nil))))))) .nil)))))
    (pss_one (ps_ret (pe_ifExp (pt_truth (pv 4) (by intro _; rfl)) (pv 3) pe_non)))))), ?_⟩
    obtain ⟨dx, L, as, h1, _⟩ := G.ex
    refine ⟨_, rfl, g, _, _, rfl, h1, rfl, _, rfl, _, rfl, g, h, ℓ, st, u, x, d1, d2, rfl, G, ok, iu, ix, ?_⟩
    rcases md with ⟨c1, k⟩ | ⟨c1, c2, k⟩ | ⟨o, b, n, p, l, ws, c, ad, q, gd, e1, e2, k⟩
    · refine .inl ⟨c1, ?_⟩
      intro σ hσ
      obtain ⟨x0, x1, x2, x3, x4, x5, rfl⟩ : ∃ x0 x1 x2 x3 x4 x5, σ = [x0, x1, x2, x3, x4, x5] := by
        match σ, hσ with
        | [x0, x1, x2, x3, x4, x5], _ => exact ⟨x0, x1, x2, x3, x4, x5, rfl⟩
      have xD : ExcC K A.c_NoOutput := ⟨T.e1_NoOutput, T.e2_NoOutput, T.s_NoOutput, T.e3_NoOutput, T.e4_NoOutput, T.en1, T.en2, T.e5_NoOutput⟩
      refine ⟨true, T.xm_NoOutput_NoOutput, fun _ a ha => ?_, fun z => (by cases z)⟩
      refine ⟨by show 1 ≤ sizeLine; decide, fun p np => ?_⟩
      refine ⟨_, rfl, A.c_NoOutput, rfl, xD, .inl rfl, _, _, true, rfl, fun u r => r, T.kt_NoOutput_FabricError, ?_⟩
      refine ⟨_, rfl, true, rfl, iteT ⟨_, rfl, ?_⟩⟩
      exact k _ p (same_upd np) upd_same
    · refine .inr (.inl ⟨c1, c2, fun H1 s1 => ?_⟩)
      intro σ hσ
      obtain ⟨x0, x1, x2, x3, x4, x5, rfl⟩ : ∃ x0 x1 x2 x3 x4 x5, σ = [x0, x1, x2, x3, x4, x5] := by
        match σ, hσ with
        | [x0, x1, x2, x3, x4, x5], _ => exact ⟨x0, x1, x2, x3, x4, x5, rfl⟩
      have xD : ExcC K A.c_BadLoad := ⟨T.e1_BadLoad, T.e2_BadLoad, T.s_BadLoad, T.e3_BadLoad, T.e4_BadLoad, T.en1, T.en2, T.e5_BadLoad⟩
      refine ⟨false, T.xm_BadLoad_NoOutput, fun z => (by cases z), fun _ => ⟨true, T.xm_BadLoad_BadLoad, fun _ a ha => ?_, fun z => (by cases z)⟩⟩
      refine ⟨by show 1 ≤ sizeLine; decide, fun p np => ?_⟩
      refine ⟨_, rfl, A.c_BadLoad, rfl, xD, .inl rfl, _, _, true, rfl, fun u r => r, T.kt_BadLoad_FabricError, ?_⟩
      refine ⟨_, rfl, true, rfl, iteT ⟨_, rfl, ?_⟩⟩
      exact k _ p (s1.trans (same_upd np)) upd_same
    · refine .inr (.inr ⟨o, b, n, p, l, ws, c, ad, q, gd, e1, e2, fun e H1 s1 => ?_, fun e H1 s1 => ?_, fun r e H1 ℓ1 v k1 G1 rv => ?_⟩)
      · have hn : nxtB b n p l ws = b := by
          unfold nxtB
          unfold outB at e
          by_cases z : p ∈ keysP (entB b n p l).2
          · rw [if_pos z]
          · rw [if_neg z] at e
            split at e <;> cases e
        rw [hn, set_self gd.at_, e] at k
        intro σ hσ
        obtain ⟨x0, x1, x2, x3, x4, x5, rfl⟩ : ∃ x0 x1 x2 x3 x4 x5, σ = [x0, x1, x2, x3, x4, x5] := by
          match σ, hσ with
          | [x0, x1, x2, x3, x4, x5], _ => exact ⟨x0, x1, x2, x3, x4, x5, rfl⟩
        have xD : ExcC K A.c_Twice := ⟨T.e1_Twice, T.e2_Twice, T.s_Twice, T.e3_Twice, T.e4_Twice, T.en1, T.en2, T.e5_Twice⟩
        refine ⟨false, T.xm_Twice_NoOutput, fun z => (by cases z), fun _ => ⟨false, T.xm_Twice_BadLoad, fun z => (by cases z), fun _ => ⟨true, T.xm_Twice_Twice, fun _ a ha => ?_, fun z => (by cases z)⟩⟩⟩
        refine ⟨by show 1 ≤ sizeLine; decide, fun p' np => ?_⟩
        refine ⟨_, rfl, A.c_Twice, rfl, xD, .inl rfl, _, _, true, rfl, fun u r => r, T.kt_Twice_FabricError, ?_⟩
        refine ⟨_, rfl, true, rfl, iteT ⟨_, rfl, ?_⟩⟩
        exact k _ ℓ _ (Kpt.same (s1.trans (same_upd np))) (G.same (s1.trans (same_upd np))) ⟨p', rfl, upd_same⟩
      · have hn : nxtB b n p l ws = b := by
          unfold nxtB
          unfold outB at e
          by_cases z : p ∈ keysP (entB b n p l).2
          · rw [if_pos z]
          · rw [if_neg z] at e ⊢
            by_cases z2 : p + l + 1 ≠ (entB b n p l).1
            · rw [if_pos z2]
            · rw [if_neg z2] at e
              cases e
        rw [hn, set_self gd.at_, e] at k
        intro σ hσ
        obtain ⟨x0, x1, x2, x3, x4, x5, rfl⟩ : ∃ x0 x1 x2 x3 x4 x5, σ = [x0, x1, x2, x3, x4, x5] := by
          match σ, hσ with
          | [x0, x1, x2, x3, x4, x5], _ => exact ⟨x0, x1, x2, x3, x4, x5, rfl⟩
        have xD : ExcC K A.c_Mixed := ⟨T.e1_Mixed, T.e2_Mixed, T.s_Mixed, T.e3_Mixed, T.e4_Mixed, T.en1, T.en2, T.e5_Mixed⟩
        refine ⟨false, T.xm_Mixed_NoOutput, fun z => (by cases z), fun _ => ⟨false, T.xm_Mixed_BadLoad, fun z => (by cases z), fun _ => ⟨false, T.xm_Mixed_Twice, fun z => (by cases z), fun _ => ⟨true, T.xm_Mixed_Mixed, fun _ a ha => ?_, fun z => (by cases z)⟩⟩⟩⟩
        refine ⟨by show 1 ≤ sizeLine; decide, fun p' np => ?_⟩
        refine ⟨_, rfl, A.c_Mixed, rfl, xD, .inl rfl, _, _, true, rfl, fun u r => r, T.kt_Mixed_FabricError, ?_⟩
        refine ⟨_, rfl, true, rfl, iteT ⟨_, rfl, ?_⟩⟩
        exact k _ ℓ _ (Kpt.same (s1.trans (same_upd np))) (G.same (s1.trans (same_upd np))) ⟨p', rfl, upd_same⟩
      · rw [e] at k
        refine ⟨by show 2 ≤ sizeLine; decide, fun p' np => ?_⟩
        refine ⟨_, rfl, true, rfl, iteT ⟨_, rfl, ?_⟩⟩
        have s2 := same_upd np (o := .tup [.str "told", v])
        exact k _ ℓ1 _ (k1.trans (Kpt.same s2)) (G1.same s2) ⟨p', v, rfl, upd_same, rv.same s2⟩
end

/-! ### what the law reckons is due -/
def addB (b : Bk) (n m : Int) : Bk := match getB b n with
  | none => putB b n (m, [])
  | some _ => b
theorem get_put {b : Bk} {k : Int} {e : Int × Pn} : getB (putB b k e) k = some e := by
  have one : ∀ b : Bk, (b.any fun p => decide (p.1 = k)) = true → ((b.map fun p => if p.1 = k then (k, e) else p).find? fun p => decide (p.1 = k)) = some (k, e) := by
    intro b
    induction b with
    | nil => intro h; cases h
    | cons x xs ih =>
      intro h
      rw [List.map_cons]
      by_cases c : x.1 = k
      · rw [if_pos c]
        exact List.find?_cons_of_pos (p := fun p : Int × Int × Pn => decide (p.1 = k)) (decide_eq_true rfl)
      · rw [if_neg c, List.find?_cons_of_neg (p := fun p : Int × Int × Pn => decide (p.1 = k)) (fun z => c (of_decide_eq_true z))]
        rw [List.any_cons, decide_eq_false c, Bool.false_or] at h
        exact ih h
  unfold getB putB
  by_cases c : (b.any fun p => decide (p.1 = k)) = true
  · rw [if_pos c, one b c]
    rfl
  · rw [if_neg c, List.find?_append, List.find?_eq_none.mpr (fun x hx z => c (List.any_eq_true.mpr ⟨x, hx, z⟩)), Option.none_or, List.find?_cons_of_pos (p := fun p : Int × Int × Pn => decide (p.1 = k)) (decide_eq_true rfl)]
    rfl
theorem get_add {b : Bk} {n p l : Int} : getB (addB b n (p + l + 1)) n = some (entB b n p l) := by
  unfold addB entB
  cases c : getB b n with
  | none => exact get_put
  | some e => exact c
theorem put_any {b : Bk} {k : Int} {e : Int × Pn} : ((putB b k e).any fun p => decide (p.1 = k)) = true := by
  have h := get_put (b := b) (k := k) (e := e)
  exact List.any_eq_true.mpr ⟨_, getB_mem h, decide_eq_true rfl⟩
theorem put_put {b : Bk} {k : Int} {e e' : Int × Pn} : putB (putB b k e) k e' = putB b k e' := by
  have h := put_any (b := b) (k := k) (e := e)
  unfold putB at h ⊢
  rw [if_pos h]
  by_cases c : (b.any fun p => decide (p.1 = k)) = true
  · rw [if_pos c, if_pos c, List.map_map]
    refine List.map_congr_left fun q _ => ?_
    show (if (if q.1 = k then (k, e) else q).1 = k then (k, e') else (if q.1 = k then (k, e) else q)) = if q.1 = k then (k, e') else q
    by_cases z : q.1 = k
    · rw [if_pos z, if_pos z, if_pos rfl]
    · rw [if_neg z, if_neg z]
  · rw [if_neg c, if_neg c, List.map_append]
    congr 1
    · conv => rhs; rw [← List.map_id b]
      refine List.map_congr_left fun q hq => ?_
      rw [if_neg (fun z => c (List.any_eq_true.mpr ⟨q, hq, decide_eq_true z⟩))]
      rfl
    · show [if k = k then (k, e') else (k, e)] = _
      rw [if_pos rfl]
theorem put_add {b : Bk} {n m : Int} {e : Int × Pn} : putB (addB b n m) n e = putB b n e := by
  unfold addB
  cases getB b n with
  | none => exact put_put
  | some _ => rfl
theorem add_ok {b : Bk} (g : BkOk b) {n m : Int} (h1 : 1 ≤ m) (h2 : m ≤ 10) : BkOk (addB b n m) := by
  unfold addB
  cases getB b n with
  | none => exact g.put ⟨h1, h2, PnOk.nil⟩
  | some _ => exact g
theorem map_not {R R' : Key × V → Int × Int × Pn → Prop} {k : Int} {e' : Int × Pn} (hs : ∀ a b, R a b → b.1 ≠ k → R' a b) : ∀ {kvs : List (Key × V)} {xs : Bk}, All2 R kvs xs → k ∉ xs.map (·.1) → All2 R' kvs (xs.map fun p => if p.1 = k then (k, e') else p)
  | _, _, .nil, _ => .nil
  | _, _, .cons (b := b) h t, n => by
    have c : b.1 ≠ k := fun z => n (by rw [← z]; exact List.mem_cons_self)
    rw [List.map_cons, if_neg c]
    exact .cons (hs _ _ h c) (map_not hs t fun z => n (List.mem_cons_of_mem _ z))
theorem map_one {R R' : Key × V → Int × Int × Pn → Prop} (hk : ∀ a b, R a b → a.1 = .inl b.1) {k : Int} {v : V} {e' : Int × Pn} (hn : R' (.inl k, v) (k, e')) (hs : ∀ a b, R a b → b.1 ≠ k → R' a b) : ∀ {kvs : List (Key × V)} {xs : Bk}, All2 R kvs xs → (xs.map (·.1)).Nodup → valV kvs (.inl k) = some v → All2 R' kvs (xs.map fun p => if p.1 = k then (k, e') else p)
  | _, _, .nil, _, _ => .nil
  | _, _, .cons (a := a) (b := b) h t, nd, hv => by
    rw [List.map_cons, List.nodup_cons] at nd
    rw [List.map_cons]
    have ea := hk _ _ h
    by_cases c : b.1 = k
    · rw [if_pos c]
      have ea2 : a.1 = .inl k := by rw [ea, c]
      rw [valV_pos ea2] at hv
      cases hv
      refine .cons ?_ (map_not hs t (by rw [← c]; exact nd.1))
      obtain ⟨a1, a2⟩ := a
      have ea2 : a1 = .inl k := ea2
      subst ea2
      exact hn
    · rw [if_neg c]
      have ea2 : ¬ a.1 = .inl k := fun z => c (Sum.inl.inj (ea.symm.trans z))
      rw [valV_neg ea2] at hv
      exact .cons (hs _ _ h c) (map_one hk hn hs t nd.2 hv)
section
variable {P : Program} {w : World} {K : PySem.W.Frag} {mg : Str → Option Value} {base : Heap} {A : Adr}
def onB (o : Nat) (l : Lab) : Prop := l = .bd o
def onP (o : Nat) (n : Int) (l : Lab) : Prop := l = .bp o n
def spDue : Sp := fun vs H Q _ => ∃ (B ad q : Addr) (ℓ : Ow) (st : List Bk) (o : Nat) (b : Bk) (n p l : Int) (ws : Wd) (c : Int), vs = [.ref B, .int (o : Int), .ref ad] ∧ LAt H ℓ B st ∧ st[o]? = some b ∧ BkOk b ∧ b.length ≤ 1000 ∧ LoadAt H ad n p l q ws c ∧ LdOk n p l ws c ∧
  ∀ H' ℓ' v, Kpt (atB o) H ℓ H' ℓ' → LAt H' ℓ' B (st.set o (nxtB b n p l ws)) → AnsAt H' v (outB b n p l ws) → Q v H'
theorem ok_law_due (T : Top K mg A) : FnOk P w K mg base CX0 1 A.a_law_due A.d_law_due P_law_due spDue := by
  refine T.F_law_due.ok sc_law_due (fun vs H Q E h => ?_) (fun cdv A' outer s H vs Q E hr h => ?_)
  · obtain ⟨B, ad, q, ℓ, st, o, b, n, p, l, ws, c, rfl, _⟩ := h
    rfl
  · obtain ⟨B, ad, q, ℓ, st, o, b, n, p, l, ws, c, rfl, LA, eb, bok, blen, ld, lo, k⟩ := h
    obtain ⟨as, h1, h2, h5, h6⟩ := LA.ex
    refine ⟨_, (pss_cons (ps_set (i := 3) sc_law_due.nd rfl (.inl rfl) (pe_ix ix_list (pv 0) (pv 1) (fun _ _ => rfl)))
    (pss_cons (ps_asg (pv 2) (pg_tup rfl (pgs_cons (pg_name (i := 4) sc_law_due.nd rfl (.inl rfl)) (pgs_cons (pg_name (i := 5) sc_law_due.nd rfl (.inl rfl)) (pgs_cons (pg_name (i := 6) sc_law_due.nd rfl (.inl rfl)) (pgs_cons (pg_name (i := 7) sc_law_due.nd rfl (.inl rfl)) (pgs_cons (pg_name (i := 8) sc_law_due.nd rfl (.inl rfl)) pgs_nil)))))))
    (Evl.pss_cut (ps_if (pt_cmp (pc_dnotin (GC.hu1 hr) (pv 4) (pv 3))) (pss_one (ps_dput (GC.hu1 hr) (pv 3) (pv 4) (pe_lst (pa_cons (pe_op op_add (pe_op op_add (pv 5) (pv 6)) pe_int) (pa_cons pe_dnewK pa_nil))) (by rfl))) pss_nil)
    (pss_cons (ps_if (pt_cmp (pc_din (GC.hu1 hr) (pv 5) (pe_ix ix_list (pe_dget (GC.hu1 hr) (pv 3) (pv 4) (fun _ _ => rfl)) pe_int (fun _ _ => rfl)))) (pss_one (ps_ret (pe_tup (pa_cons pe_str pa_nil)))) pss_nil)
    (pss_cons (ps_if (pt_cmpR op_ne (pe_ix ix_list (pe_dget (GC.hu1 hr) (pv 3) (pv 4) (fun _ _ => rfl)) pe_int (fun _ _ => rfl)) (pe_op op_add (pe_op op_add (pv 5) (pv 6)) pe_int) (nomark _)) (pss_one (ps_ret (pe_tup (pa_cons pe_str pa_nil)))) pss_nil)
    (pss_cons (ps_set (i := 9) sc_law_due.nd rfl (.inl rfl) (pe_ix ix_list (pe_dget (GC.hu1 hr) (pv 3) (pv 4) (fun _ _ => rfl)) pe_int (fun _ _ => rfl)))
    (pss_cons (ps_dput (GC.hu1 hr) (pv 9) (pv 5) (pv 7) (by rfl))
    (pss_cons (ps_if (pt_cmpR op_lt (pe_callB call_lenD (by rfl) T.z_len (by decide +kernel) (pa_cons (pv 9) pa_nil)) (pe_ix ix_list (pe_dget (GC.hu1 hr) (pv 3) (pv 4) (fun _ _ => rfl)) pe_int (fun _ _ => rfl)) (nomark _)) (pss_one (ps_ret (pe_tup (pa_cons pe_str (pa_cons pe_non pa_nil))))) pss_nil)
    (pss_cons (ps_set (i := 10) sc_law_due.nd rfl (.inl rfl) (pe_tup pa_nil))
    (pss_cons (ps_for PassesOwn.never rfl (pi_range1 rfl T.z_range (pa_cons (pe_ix ix_list (pe_dget (GC.hu1 hr) (pv 3) (pv 4) (fun _ _ => rfl)) pe_int (fun _ _ => rfl)) pa_nil)) (pg_name (i := 11) sc_law_due.nd rfl (.inl rfl)) (pss_one (ps_set (i := 10) sc_law_due.nd rfl (.inl rfl) (pe_op op_catA (pv 10) (pe_dget (GC.hu1 hr) (pv 9) (pv 11) (fun _ _ => rfl))))))
    (pss_one (ps_ret (pe_tup (pa_cons pe_str (pa_cons (pv 10) pa_nil))))))))))))))), ?_⟩
    have lt : o < as.length := by
      have := (List.getElem?_eq_some_iff.mp eb).1
      omega
    have ea : as[o]? = some as[o] := List.getElem?_eq_getElem lt
    generalize as[o] = a at ea
    have bk := h6 o a b ea eb
    obtain ⟨kvs, ek, al⟩ := bk.ex
    have hla := bk.own
    refine ⟨_, rfl, _, rfl, B, _, (o : Int), _, rfl, rfl, SqL.of h1, at_of (j := o) (by omega) (map_at ea), ?_⟩
    refine ⟨_, rfl, ad, _, rfl, SqT.of ld.at_, rfl, _, _, rfl, _, _, rfl, _, _, rfl, _, _, rfl, _, _, rfl, rfl, ?_⟩
    refine ⟨fun σ' H' => ∃ ℓ' kvs', σ' = [some (.ref B), some (.int (o : Int)), some (.ref ad), some (.ref a), some (.int n), some (.int p), some (.int l), some (.ref q), some (.int c), none, none, none] ∧ Kpt (onB o) H ℓ H' ℓ' ∧ H' a = some (.dK kvs') ∧ All2 (EnL H' ℓ' o) kvs' (addB b n (p + l + 1)), ?_, ?_⟩
    · refine ⟨_, rfl, _, rfl, a, _, rfl, DGet.k (k := .inl n) ek, _, rfl, ?_⟩
      rcases look (fun _ _ r => r.1) n al with ⟨z1, z2⟩ | ⟨v, e, z1, z2, _⟩
      · rw [z1]
        refine iteT ⟨_, rfl, _, rfl, _, _, rfl, rfl, _, _, rfl, rfl, fun na nna => ⟨by show 2 ≤ sizeLine; decide, fun t nt => ?_⟩⟩
        have s1 : Same H (upd H na (.dK [])) := same_upd nna
        have s2 : Same (upd H na (.dK [])) (upd (upd H na (.dK [])) t (.lst [.int (p + l + 1), .ref na])) := same_upd nt
        have et : (upd (upd H na (.dK [])) t (.lst [.int (p + l + 1), .ref na])) t = some (.lst [.int (p + l + 1), .ref na]) := upd_same
        have ena : (upd (upd H na (.dK [])) t (.lst [.int (p + l + 1), .ref na])) na = some (.dK []) := s2 _ _ upd_same
        have nt0 : H t = none := s1.free nt
        have nat_ : na ≠ t := fun z => by
          rw [← z] at nt
          rw [upd_same] at nt
          cases nt
        have s12 := s1.trans s2
        generalize upd (upd H na (.dK [])) t (.lst [.int (p + l + 1), .ref na]) = H2 at et ena s12 ⊢
        have k2 : Kpt (onB o) H ℓ H2 (own (own ℓ na (.bp o n)) t (.be o n)) := ((Kpt.same s12).own_ nna).own_ nt0
        have l1 : own (own ℓ na (.bp o n)) t (.be o n) t = some (.be o n) := own_same
        have l2 : own (own ℓ na (.bp o n)) t (.be o n) na = some (.bp o n) := (own_ne nat_).trans own_same
        have la := k2.lab ek hla
        generalize own (own ℓ na (.bp o n)) t (.be o n) = ℓ2 at k2 l1 l2 la
        have ea2 := s12 _ _ ek
        refine ⟨_, rfl, _, rfl, a, _, rfl, DPut.k (k := .inl n) ea2 (Nat.lt_of_le_of_lt (Nat.le_of_eq al.len) (Nat.lt_of_le_of_lt blen (by decide))), ?_⟩
        have u3 : Kpt (onB o) H2 ℓ2 (upd H2 a (.dK (putK kvs (.inl n) (.ref t)))) ℓ2 := Kpt.upd ea2 (fun ys z => by cases z) la rfl
        have k3 := k2.trans u3
        have et3 := u3.kep _ _ _ et l1 (fun z => by cases z)
        have en3 := u3.kep _ _ _ ena l2 (fun z => by cases z)
        refine ⟨ℓ2, _, rfl, k3, upd_same, ?_⟩
        have ge : addB b n (p + l + 1) = putB b n (p + l + 1, []) := by
          unfold addB getB
          rw [z2]
          rfl
        rw [ge]
        exact put2 (R := EnL H ℓ o) (fun _ _ r => r.1) ⟨rfl, t, na, rfl, et3, l1, l2, ⟨[], en3, .nil⟩⟩ (fun kv e r z => EnL.kpt k3 r (fun q => by cases q) (fun q => by cases q)) al
      · rw [z1]
        have ge : addB b n (p + l + 1) = b := by
          unfold addB getB
          rw [z2]
          rfl
        exact iteF ⟨ℓ, kvs, rfl, Kpt.refl _ _ _, ek, by rw [ge]; exact al⟩
    rintro σ' H3 ⟨ℓ3, kvs3, rfl, k3, ek3, al3⟩
    have bok3 := add_ok bok (n := n) (m := p + l + 1) (by have := lo.p0; have := lo.l0; omega) (by have := lo.few; omega)
    have ge := get_add (b := b) (n := n) (p := p) (l := l)
    obtain ⟨m, ps, em⟩ : ∃ m ps, entB b n p l = (m, ps) := ⟨_, _, rfl⟩
    have eo := entB_ok bok (n := n) lo.p0 lo.l0 lo.few
    rw [em] at eo ge
    obtain ⟨m1, m10, pok⟩ := eo
    have m1 : 1 ≤ m := m1
    have m10 : m ≤ 10 := m10
    have pok : PnOk m ps := pok
    have pl := pok.len (by omega)
    obtain ⟨t3, a0, z1, et3, l1, l2, e3⟩ : ∃ t3 a0, valV kvs3 (.inl n) = some (.ref t3) ∧ H3 t3 = some (.lst [.int m, .ref a0]) ∧ ℓ3 t3 = some (.be o n) ∧ ℓ3 a0 = some (.bp o n) ∧ PartsAt H3 a0 ps := by
      unfold getB at ge
      rcases look (fun _ _ r => r.1) n al3 with ⟨_, z2⟩ | ⟨v, e, z1, z2, _, t3, a0, z3, z4, z5, z6, z7⟩
      · rw [z2] at ge
        cases ge
      · rw [z2] at ge
        have ge : some e = some (m, ps) := ge
        cases ge
        have z3 : v = .ref t3 := z3
        subst z3
        exact ⟨t3, a0, z1, z4, z5, z6, z7⟩
    have ld3 : LoadAt H3 ad n p l q ws c := ⟨k3.tup _ _ ld.at_, k3.tup _ _ ld.words⟩
    have la3 := k3.lab ek hla
    have dgE : DGet H3 a (.int n) (some (.ref t3)) := by
      have := DGet.k (k := .inl n) ek3
      rw [z1] at this
      exact this
    have k3w := k3.mono (S' := atB o) fun l h => .inl h
    obtain ⟨oo, dg, hoo⟩ := e3.has p
    refine ⟨_, rfl, _, rfl, _, rfl, a, _, rfl, dgE, t3, _, 1, _, rfl, rfl, SqL.of et3, atI_nat (j := 1) rfl, a0, oo, rfl, dg, _, rfl, ?_⟩
    show if oo.isSome = true then _ else _
    rw [hoo]
    have same3 : (p ∈ keysP ps ∨ p + l + 1 ≠ m) → addB b n (p + l + 1) = b := fun h => by
      unfold addB
      unfold entB at em
      cases c : getB b n with
      | none =>
        rw [c] at em
        cases em
        rcases h with h | h
        · exact absurd h List.not_mem_nil
        · exact absurd rfl h
      | some e => rfl
    by_cases cp : p ∈ keysP ps
    · rw [decide_eq_true cp]
      have hn : nxtB b n p l ws = b := by unfold nxtB; rw [em]; exact if_pos cp
      have ho : outB b n p l ws = .twice := by unfold outB; rw [em]; exact if_pos cp
      rw [hn, ho] at k
      rw [same3 (.inl cp)] at al3
      refine iteT ⟨by show 1 ≤ sizeLine; decide, fun t nt => ?_⟩
      have s4 := same_upd nt (o := .tup [.str "Twice"])
      have k4 := k3w.trans (Kpt.same s4)
      refine k _ ℓ3 _ k4 (LA.put k4 fun as' z1 a' ha' => ?_) ⟨t, rfl, upd_same⟩
      rw [h1] at z1
      have ea' := ref_inj (HO.lst.inj (Option.some.inj z1))
      subst ea'
      rw [ea] at ha'
      cases ha'
      have kk : Kpt (fun _ => False) H3 ℓ3 (upd H3 t (.tup [.str "Twice"])) ℓ3 := Kpt.same s4
      exact ⟨la3, kvs3, s4 _ _ ek3, al3.imp fun _ _ r => EnL.kpt kk r (fun z => z) (fun z => z)⟩
    rw [decide_eq_false cp]
    refine iteF ?_
    refine ⟨_, rfl, _, rfl, a, _, rfl, dgE, t3, _, 0, _, rfl, rfl, SqL.of et3, atI_nat (j := 0) rfl, _, rfl, _, rfl, _, _, rfl, rfl, _, _, rfl, rfl, rfl, _, rfl, ?_⟩
    rw [dec_int]
    by_cases cm : p + l + 1 = m
    rotate_left
    · rw [decide_eq_false (fun z => cm z.symm)]
      have hn : nxtB b n p l ws = b := by unfold nxtB; rw [em, if_neg cp]; exact if_pos cm
      have ho : outB b n p l ws = .mixed := by unfold outB; rw [em, if_neg cp]; exact if_pos cm
      rw [hn, ho] at k
      rw [same3 (.inr cm)] at al3
      refine iteT ⟨by show 1 ≤ sizeLine; decide, fun t nt => ?_⟩
      have s4 := same_upd nt (o := .tup [.str "Mixed"])
      have k4 := k3w.trans (Kpt.same s4)
      refine k _ ℓ3 _ k4 (LA.put k4 fun as' z1 a' ha' => ?_) ⟨t, rfl, upd_same⟩
      rw [h1] at z1
      have ea' := ref_inj (HO.lst.inj (Option.some.inj z1))
      subst ea'
      rw [ea] at ha'
      cases ha'
      have kk : Kpt (fun _ => False) H3 ℓ3 (upd H3 t (.tup [.str "Mixed"])) ℓ3 := Kpt.same s4
      exact ⟨la3, kvs3, s4 _ _ ek3, al3.imp fun _ _ r => EnL.kpt kk r (fun z => z) (fun z => z)⟩
    rw [decide_eq_true cm.symm]
    refine iteF ?_
    refine ⟨_, rfl, _, rfl, a, _, rfl, dgE, t3, _, 1, _, rfl, rfl, SqL.of et3, atI_nat (j := 1) rfl, ?_⟩
    have hn2 : nxtB b n p l ws = putB b n (m, ps ++ [(p, ws)]) := by
      unfold nxtB
      rw [em, if_neg cp, if_neg (fun z => z cm)]
    have ho2 : outB b n p l ws = .told (finO m (ps ++ [(p, ws)])) := by
      unfold outB
      rw [em, if_neg cp, if_neg (fun z => z cm)]
    rw [hn2, ho2] at k
    have pok2 : PnOk m (ps ++ [(p, ws)]) := pok.snoc cp lo.p0 (by have := lo.l0; omega) lo.one.2
    clear hn2 ho2 same3
    obtain ⟨kvs1, dp, e31⟩ := e3.put cp (t := q) (ws := ws) ld3.words (by omega)
    refine ⟨_, rfl, _, rfl, _, rfl, a0, _, rfl, dp, ?_⟩
    obtain ⟨kvs0, ea0, _⟩ := e3.ex
    have u4 : Kpt (onP o n) H3 ℓ3 (upd H3 a0 (.dK kvs1)) ℓ3 := Kpt.upd ea0 (fun ys z => by cases z) l2 rfl
    have ek4 := u4.kep _ _ _ ek3 la3 (fun z => by cases z)
    have et4 := u4.kep _ _ _ et3 l1 (fun z => by cases z)
    generalize upd H3 a0 (.dK kvs1) = H4 at u4 ek4 et4 e31 ⊢
    have k4 := k3w.trans (u4.mono fun l h => .inr (.inl ⟨n, h⟩))
    have L4 : LAt H4 ℓ3 B (st.set o (putB b n (m, ps ++ [(p, ws)]))) := by
      refine LA.put k4 fun as' y1 a' ha' => ?_
      rw [h1] at y1
      have ea' := ref_inj (HO.lst.inj (Option.some.inj y1))
      subst ea'
      rw [ea] at ha'
      cases ha'
      refine ⟨la3, kvs3, ek4, ?_⟩
      rw [← put_add (m := p + l + 1)]
      have anyk : ((addB b n (p + l + 1)).any fun p => decide (p.1 = n)) = true := List.any_eq_true.mpr ⟨_, getB_mem ge, decide_eq_true rfl⟩
      unfold putB
      rw [if_pos anyk]
      exact map_one (R := EnL H3 ℓ3 o) (fun _ _ r => r.1) ⟨rfl, t3, a0, rfl, et4, l1, l2, e31⟩ (fun kv e r z => EnL.kpt u4 r (fun q => by cases q) (fun q => by cases q; exact z rfl)) al3 bok3.nd z1
    have k : ∀ v H', Same H4 H' → AnsAt H' v (.told (finO m (ps ++ [(p, ws)]))) → Q v H' := fun v H' s hv => k H' ℓ3 v (k4.trans (Kpt.same s)) (L4.kpt (Kpt.same (S := isG) s) fun l hl hb => by
      cases l <;> first | exact hl.elim | exact hb.elim) hv
    have dgE4 : ∀ {H'}, Same H4 H' → DGet H' a (.int n) (some (.ref t3)) := fun {H'} s => by
      have := DGet.k (k := .inl n) (s _ _ ek4)
      rw [z1] at this
      exact this
    clear L4 k4 u4 al3 k3w k3 dgE dg e3 et3
    generalize ps ++ [(p, ws)] = ps2 at *
    obtain ⟨kvs6, ep6, al6⟩ := e31.ex
    refine ⟨_, rfl, a0, kvs6, rfl, ep6, _, rfl, _, rfl, a, _, rfl, dgE4 (fun _ _ e => e), t3, _, 0, _, rfl, rfl, SqL.of et4, atI_nat (j := 0) rfl, _, _, rfl, rfl, _, rfl, ?_⟩
    rw [al6.len]
    by_cases cl : (ps2.length : Int) < m
    · rw [decide_eq_true cl]
      refine iteT ⟨by show 2 ≤ sizeLine; decide, fun t nt => ?_⟩
      exact k _ _ (same_upd nt) ⟨t, _, rfl, upd_same, by unfold finO; rw [if_pos cl]; rfl⟩
    rw [decide_eq_false cl]
    refine iteF ⟨by show 0 ≤ sizeLine; decide, fun f0 nf0 => ?_⟩
    have s5 := same_upd nf0 (o := .tup [])
    have ef0 : (upd H4 f0 (.tup [])) f0 = some (.tup []) := upd_same
    generalize upd H4 f0 (.tup []) = H5 at s5 ef0 ⊢
    refine ⟨_, rfl, _, rfl, a, _, rfl, dgE4 s5, t3, _, 0, _, rfl, rfl, SqL.of (s5 _ _ et4), atI_nat (j := 0) rfl, m, rfl, by omega, by omega, ?_⟩
    refine for_range (lo := 0) (n := m.toNat) (fun i σ H' => ∃ (f : Addr) (y11 : Option V), σ = [some (.ref B), some (.int (o : Int)), some (.ref ad), some (.ref a), some (.int n), some (.int p), some (.int l), some (.ref q), some (.int c), some (.ref a0), some (.ref f), y11] ∧ Same H5 H' ∧ H' f = some (.tup ((gathW ps2 i).map V.int))) ⟨f0, _, rfl, fun _ _ e => e, ef0⟩ ?_ ?_
    · rintro i σ H6 hi ⟨f, y11, rfl, s6, e6⟩
      have e36 := e31.keep (fun q ys h => s6 _ _ (s5 _ _ h)) (fun _ h => s6 _ _ (s5 _ _ h))
      obtain ⟨o7, dg, ho7⟩ := e36.get (0 + (i : Int))
      rw [Int.zero_add] at ho7
      obtain ⟨ws0, hw0, hmem⟩ := getW_in (pok2.full cl (j := i) (by omega))
      rcases ho7 with ⟨z1, _⟩ | ⟨ws1, t7, z1, rfl, ht7⟩
      · rw [hw0] at z1
        cases z1
      rw [hw0] at z1
      cases z1
      have l4 := pok2.few _ hmem
      have l4 : ws0.length ≤ 4 := l4
      have h5 := gathW_len pok2 i
      refine ⟨_, rfl, _, rfl, _, rfl, a0, _, rfl, dg, ?_⟩
      refine cat_at e6 ht7 (by rw [List.length_map, List.length_map]; omega) fun H7 f7 s7 e7 => ?_
      refine ⟨f7, _, rfl, s6.trans s7, ?_⟩
      rw [e7, gathW_succ, hw0, List.map_append]
      rfl
    · rintro σ H6 ⟨f, y11, rfl, s6, e6⟩
      refine ⟨_, rfl, by show 2 ≤ sizeLine; decide, fun t nt => ?_⟩
      exact k _ _ (s5.trans (s6.trans (same_upd nt))) ⟨t, _, rfl, upd_same, by unfold finO; rw [if_neg cl]; exact ⟨f, rfl, same_upd nt _ _ e6⟩⟩
end

/-! ### the law's look at what lacks -/
theorem getB_at : ∀ {b : Bk} {e : Int × Int × Pn}, (b.map (·.1)).Nodup → e ∈ b → getB b e.1 = some e.2
  | x :: xs, e, nd, h => by
    rw [List.map_cons, List.nodup_cons] at nd
    unfold getB
    rcases List.mem_cons.mp h with z | z
    · subst z
      rw [List.find?_cons_of_pos (p := fun p : Int × Int × Pn => decide (p.1 = e.1)) (decide_eq_true rfl)]
      rfl
    · have c : ¬ x.1 = e.1 := fun q => nd.1 (by rw [q]; exact List.mem_map.mpr ⟨e, z, rfl⟩)
      rw [List.find?_cons_of_neg (p := fun p : Int × Int × Pn => decide (p.1 = e.1)) (fun q => c (of_decide_eq_true q))]
      exact getB_at nd.2 z
def lotK (b : Bk) (n : Int) : Option Lt := (getB b n).bind fun e => lotE (n, e)
theorem fil_congr {α β : Type} {f g : α → Option β} : ∀ {l : List α}, (∀ e ∈ l, f e = g e) → l.filterMap f = l.filterMap g
  | [], _ => rfl
  | x :: xs, h => by
    have ih := fil_congr (l := xs) fun e he => h e (List.mem_cons_of_mem _ he)
    have e := h x List.mem_cons_self
    cases c : g x with
    | none => rw [List.filterMap_cons_none c, List.filterMap_cons_none (e.trans c), ih]
    | some y => rw [List.filterMap_cons_some c, List.filterMap_cons_some (e.trans c), ih]
theorem lotsK_all {b : Bk} (nd : (b.map (·.1)).Nodup) : (b.map (·.1)).filterMap (lotK b) = lots b := by
  rw [List.filterMap_map]
  unfold lots
  refine fil_congr fun e he => ?_
  show lotK b e.1 = lotE e
  unfold lotK
  rw [getB_at nd he]
  rfl
theorem lotK_key {b : Bk} {n : Int} {x : Lt} (h : lotK b n = some x) : x.1 = n := by
  unfold lotK at h
  cases c : getB b n with
  | none => rw [c] at h; cases h
  | some e =>
    rw [c] at h
    have h : lotE (n, e) = some x := h
    exact lotE_key h
theorem lotsK_asc {b : Bk} : ∀ {ys : List Int}, (ys.Pairwise fun x y => x < y) → (ys.filterMap (lotK b)).Pairwise fun a b => a.1 < b.1
  | [], _ => .nil
  | y :: ys, h => by
    rw [List.pairwise_cons] at h
    have ih := lotsK_asc (b := b) h.2
    cases c : lotK b y with
    | none => rw [List.filterMap_cons_none c]; exact ih
    | some x =>
      rw [List.filterMap_cons_some c]
      refine List.pairwise_cons.mpr ⟨fun z hz => ?_, ih⟩
      obtain ⟨n, hn, hz⟩ := List.mem_filterMap.mp hz
      rw [lotK_key c, lotK_key hz]
      exact h.1 n hn
theorem keys_eq {R : Key × V → Int × Int × Pn → Prop} (hk : ∀ a b, R a b → a.1 = .inl b.1) : ∀ {kvs : List (Key × V)} {b : Bk}, All2 R kvs b → kvs.map (·.1) = (b.map (·.1)).map Sum.inl
  | _, _, .nil => rfl
  | _, _, .cons h t => by
    rw [List.map_cons, List.map_cons, List.map_cons, keys_eq hk t, hk _ _ h]
section
variable {P : Program} {w : World} {K : PySem.W.Frag} {mg : Str → Option Value} {base : Heap} {A : Adr}
def spLLack : Sp := fun vs H Q _ => ∃ (a : Addr) (ℓ : Ow) (o : Nat) (b : Bk), vs = [.ref a] ∧ BkL H ℓ o a b ∧ BkOk b ∧ b.length < 64 ∧ ∀ H' p, Same H H' → LotsAt H' p b → Q (.ref p) H'
theorem ok_law_lacking (T : Top K mg A) : FnOk P w K mg base CX0 1 A.a_law_lacking A.d_law_lacking P_law_lacking spLLack := by
  refine T.F_law_lacking.ok sc_law_lacking (fun vs H Q E h => ?_) (fun cdv A' outer s H vs Q E hr h => ?_)
  · obtain ⟨a, ℓ, o, b, rfl, _⟩ := h
    rfl
  · obtain ⟨a, ℓ, o, b, rfl, bk, bok, blen, k⟩ := h
    obtain ⟨kvs, ek, al⟩ := bk.ex
    refine ⟨_, (pss_cons (ps_set (i := 1) sc_law_lacking.nd rfl (.inl rfl) (pe_lst pa_nil))
    (pss_cons (ps_for PassesOwn.never rfl (pi_list (pe_callB (call_sortedDI rfl) (by rfl) T.z_sorted (by decide +kernel) (pa_cons (pv 0) pa_nil))) (pg_name (i := 2) sc_law_lacking.nd rfl (.inl rfl)) (pss_cons (ps_asg (pe_dget (GC.hu1 hr) (pv 0) (pv 2) (fun _ _ => rfl)) (pg_lst rfl (pgs_cons (pg_name (i := 3) sc_law_lacking.nd rfl (.inl rfl)) (pgs_cons (pg_name (i := 4) sc_law_lacking.nd rfl (.inr rfl)) pgs_nil))))
    (pss_cons (ps_setLc (i := 5) (own := [("_law_part", 6)]) (by rfl) sc_law_lacking.nd rfl rfl (sw_true rfl rfl rfl (by decide +kernel)) (pi_range1 rfl T.z_range (pa_cons (pv 3) pa_nil)) (blkOk_by (own := [("_law_part", 6)]) (N := N_law_lacking) (sc := defScope s_law_lacking) (by decide +kernel)) (fun _ _ _ _ _ => (pg_name (i := 6) sc_law_lacking.nd rfl (.inl rfl))) (fun _ _ _ _ _ => (pts_one (pt_cmp (pc_dnotin (GC.hu1 hr) (pv 6) (pv 4))))) (fun _ _ _ _ _ => (pv 6)))
    (pss_one (ps_if (pt_cmpR op_gt (pe_callB call_len_seq (by rfl) T.z_len (by decide +kernel) (pa_cons (pv 5) pa_nil)) pe_int (nomark _)) (pss_one (ps_expr (pe_bm PySem.F.plainAttrs_list PySem.F.slot_list_append PySem.F.type_list_append mt_append (pv 1) (pa_cons (pe_tup (pa_cons (pv 2) (pa_cons (pe_callTy call_tuple_of (by rfl) T.z_tuple (by decide +kernel) (pa_cons (pv 5) pa_nil)) pa_nil))) pa_nil)))) pss_nil)))))
    (pss_one (ps_ret (pv 1))))), ?_⟩
    refine ⟨by show 0 ≤ sizeLine; decide, fun F nF => ?_⟩
    obtain ⟨H1, e1, s1, eF⟩ := newH nF (o := .lst [])
    rw [e1]
    clear e1
    refine ⟨_, rfl, a, kvs, b.map (·.1), rfl, .inl (s1 _ _ ek), keys_eq (fun _ _ r => r.1) al, by rw [List.length_map]; exact blen, fun ys p pm pw np => ?_⟩
    have s2 := same_upd np (o := .lst (ys.map V.int))
    have ep : (upd H1 p (.lst (ys.map V.int))) p = some (.lst (ys.map V.int)) := upd_same
    have eF2 := s2 _ _ eF
    have s02 := s1.trans s2
    have pF : p ≠ F := fun z => by rw [z, eF] at np; cases np
    generalize upd H1 p (.lst (ys.map V.int)) = H2 at ep eF2 s02 ⊢
    have yl : ys.length < 64 := by rw [pm.length_eq, List.length_map]; exact blen
    refine ⟨p, rfl, ⟨_, SqL.of ep⟩, for_list (K := K) (a := p) (xs := ys.map V.int) (fun i σ H' => ∃ y2 y3 y4 y5 : Option V, σ = [some (.ref a), some (.ref F), y2, y3, y4, y5, none] ∧ Kp F H2 H' ∧ ∃ vs, H' F = some (.lst vs) ∧ All2 (LtAt H') ((ys.take i).filterMap (lotK b)) vs ∧ vs.length ≤ i) ⟨_, _, _, _, rfl, fun _ _ _ e => e, [], eF2, .nil, Nat.le_refl _⟩ (fun i σ H' _ ⟨_, _, _, _, _, k7, _⟩ => SqL.of (k7 p _ pF ep)) ?_ ?_⟩
    · rintro i x σ H3 hx ⟨y2, y3, y4, y5, rfl, k3, vs, e3, all3, len3⟩
      rw [List.getElem?_map] at hx
      obtain ⟨n, hn, rfl⟩ := Option.map_eq_some_iff.mp hx
      have li : i < 64 := by have := (List.getElem?_eq_some_iff.mp hn).1; omega
      have nk : n ∈ b.map (·.1) := pm.mem_iff.mp (List.mem_of_getElem? hn)
      obtain ⟨e, he, en⟩ := List.mem_map.mp nk
      have ge := getB_at bok.nd he
      rw [en] at ge
      obtain ⟨n', m, ps⟩ := e
      have en : n' = n := en
      subst en
      obtain ⟨m1, m10, pok⟩ := bok.ok _ he
      have m1 : 1 ≤ m := m1
      have m10 : m ≤ 10 := m10
      obtain ⟨t, a0, z1, et, l1, l2, p0⟩ : ∃ t a0, valV kvs (.inl n') = some (.ref t) ∧ H t = some (.lst [.int m, .ref a0]) ∧ ℓ t = some (.be o n') ∧ ℓ a0 = some (.bp o n') ∧ PartsAt H a0 ps := by
        unfold getB at ge
        rcases look (fun _ _ r => r.1) n' al with ⟨_, z2⟩ | ⟨v, e, z1, z2, _, t3, a0, z3, z4, z5, z6, z7⟩
        · rw [z2] at ge
          cases ge
        · rw [z2] at ge
          have ge : some e = some (m, ps) := ge
          cases ge
          have z3 : v = .ref t3 := z3
          subst z3
          exact ⟨t3, a0, z1, z4, z5, z6, z7⟩
      have old : ∀ {q o'}, H q = some o' → H3 q = some o' := fun {q o'} e => k3 q o' (fun z => by rw [z, nF] at e; cases e) (s02 _ _ e)
      have dg0 : DGet H3 a (.int n') (some (.ref t)) := by
        have := DGet.k (k := .inl n') (old ek)
        rw [z1] at this
        exact this
      have p3 : PartsAt H3 a0 ps := p0.keep (fun q ys h => old h) (fun _ h => old h)
      refine ⟨_, rfl, _, rfl, a, _, rfl, dg0, t, _, rfl, SqL.of (old et), rfl, _, _, rfl, _, _, rfl, rfl, ?_⟩
      refine ⟨_, rfl, m, rfl, by omega, by omega, fun D nD => ?_⟩
      refine lc_range (lo := 0) (n := m.toNat) (fun j H' => Same H3 H' ∧ H' D = some (.lst ((lotUp ps j).map V.int))) ⟨same_upd nD, upd_same⟩ ?_ ?_
      · rintro j H5 hj ⟨s5, e5⟩
        obtain ⟨oo, dg, hoo⟩ := (p3.keep (fun q ys h => s5 _ _ h) (fun _ h => s5 _ _ h)).has (0 + (j : Int))
        refine ⟨rfl, _, rfl, _, rfl, a0, oo, rfl, dg, _, rfl, ?_⟩
        show if (!oo.isSome) = true then _ else _
        rw [hoo, Int.zero_add]
        have st := lotUp_succ ps j
        by_cases c : (!decide ((j : Int) ∈ keysP ps)) = true
        · rw [if_pos c] at st ⊢
          refine ⟨_, rfl, _, e5, small1000 (by rw [List.length_map]; have := lotUp_len ps j; omega), same_to s5 nD, ?_⟩
          rw [upd_same, st, nat_snoc]
        · rw [if_neg c] at st ⊢
          rw [List.append_nil] at st
          exact ⟨s5, by rw [st]; exact e5⟩
      rintro H5 ⟨s5, e5⟩
      refine ⟨_, rfl, D, _, rfl, .inl (SqL.of e5), _, _, rfl, rfl, _, rfl, ?_⟩
      rw [List.length_map]
      have st : (ys.take (i + 1)).filterMap (lotK b) = (ys.take i).filterMap (lotK b) ++ (lotK b n').toList := by
        rw [List.take_add_one, hn, List.filterMap_append]
        show _ ++ [n'].filterMap (lotK b) = _
        cases c : lotK b n' with
        | none => rw [List.filterMap_cons_none c]; rfl
        | some x => rw [List.filterMap_cons_some c]; rfl
      have em : lotK b n' = if lotUp ps m.toNat = [] then none else some (n', lotUp ps m.toNat) := by
        unfold lotK
        rw [ge]
        rfl
      have k5 := k3.same s5
      cases c : lotUp ps m.toNat with
      | nil =>
        rw [c, if_pos rfl] at em
        refine iteF ⟨_, _, _, _, rfl, k5, vs, s5 _ _ e3, ?_, by omega⟩
        rw [st, em]
        show All2 (LtAt H5) ((ys.take i).filterMap (lotK b) ++ []) vs
        rw [List.append_nil]
        exact all3.imp fun _ _ h => h.same s5
      | cons x xs =>
        rw [c, if_neg (by intro z; cases z)] at em
        rw [c] at e5
        rw [decide_eq_true (show (0 : Int) < (((x :: xs).length : Nat) : Int) by rw [List.length_cons]; omega)]
        refine iteT ⟨_, rfl, .inl ⟨rfl, _, SqL.of (s5 _ _ e3)⟩, _, rfl, _, rfl, D, _, rfl, .inl ⟨SqL.of e5, fun q6 nq6 => ?_⟩⟩
        have s6 := same_upd nq6 (o := .tup ((x :: xs).map V.int))
        have e6 : (upd H5 q6 (.tup ((x :: xs).map V.int))) q6 = some (.tup ((x :: xs).map V.int)) := upd_same
        have s36 := s5.trans s6
        generalize upd H5 q6 (.tup ((x :: xs).map V.int)) = H6 at s6 e6 s36 ⊢
        refine ⟨by show 2 ≤ sizeLine; decide, fun q7 nq7 => ?_⟩
        have s7 := same_upd nq7 (o := .tup [.int n', .ref q6])
        have e7 : (upd H6 q7 (.tup [.int n', .ref q6])) q7 = some (.tup [.int n', .ref q6]) := upd_same
        have e67 := s7 _ _ e6
        have s37 := s36.trans s7
        generalize upd H6 q7 (.tup [.int n', .ref q6]) = H7 at e7 e67 s37 ⊢
        have eF7 := s37 _ _ e3
        have k7 := k3.same s37
        refine ⟨F, _, _, rfl, rfl, eF7, small1000 (by omega), _, _, _, _, rfl, k7.upd, _, upd_same, ?_, by rw [List.length_append]; exact Nat.succ_le_succ len3⟩
        rw [st, em]
        have keepL : ∀ x v, LtAt H7 x v → LtAt (upd H7 F (.lst (vs ++ [.ref q7]))) x v := fun x v ⟨t1, t2, z1, z2, z3⟩ => ⟨t1, t2, z1, by rw [upd_ne (ne_of z2 eF7 (by intro z; cases z))]; exact z2, by rw [upd_ne (ne_of z3 eF7 (by intro z; cases z))]; exact z3⟩
        exact (all3.imp fun _ _ h => keepL _ _ (h.same s37)).snoc (keepL _ _ ⟨q7, q6, rfl, e7, e67⟩)
    · rintro σ H3 ⟨y2, y3, y4, y5, rfl, k3, vs, e3, all3, len3⟩
      rw [List.length_map, List.take_length] at all3
      refine ⟨_, rfl, k H3 F (fun q o' e => k3 q o' (fun z => by rw [z, nF] at e; cases e) (s02 _ _ e)) ⟨vs, _, e3, all3, ?_, lotsK_asc ?_⟩⟩
      · rw [← lotsK_all bok.nd]
        exact pm.filterMap _
      · have nd2 : ys.Nodup := pm.nodup_iff.mpr bok.nd
        exact (pw.and nd2).imp fun h => by omega
end

/-! ### odd loads -/
theorem loadB_tells {n p l w c : Td} (h : loadB (.tup [n, p, l, w, c]) = true) : inI 0 9 p = true ∧ wordsB 4 w = true ∧ inI 0 250 c = true ∧ intOf c = chk (intOf n) (intOf p) (intOf l) (wordsOf w) := by
  have h : (inI 0 1000000000 n && (inI 0 9 p && (inI 0 (10 - intOf p - 1) l && (wordsB 4 w && (!(decide (0 < intOf l) && decide (((itsOf w).length : Int) < 4)) && (inI 0 250 c && decide (intOf c = chk (intOf n) (intOf p) (intOf l) (wordsOf w)))))))) = true := h
  rw [Bool.and_eq_true, Bool.and_eq_true, Bool.and_eq_true, Bool.and_eq_true, Bool.and_eq_true, Bool.and_eq_true, decide_eq_true_eq] at h
  exact ⟨h.2.1, h.2.2.2.1, h.2.2.2.2.2.1, h.2.2.2.2.2.2⟩
theorem loadB_false {n p l w c : Td} (h : inI 0 9 p = false ∨ wordsB 4 w = false ∨ inI 0 250 c = false ∨ intOf c ≠ chk (intOf n) (intOf p) (intOf l) (wordsOf w)) : loadB (.tup [n, p, l, w, c]) = false := by
  cases z : loadB (.tup [n, p, l, w, c]) with
  | false => rfl
  | true =>
    obtain ⟨h1, h2, h3, h4⟩ := loadB_tells z
    rcases h with h | h | h | h
    · rw [h1] at h; cases h
    · rw [h2] at h; cases h
    · rw [h3] at h; cases h
    · exact absurd h4 h
theorem wordsOf_ints (ws : List Int) : wordsOf (.tup (ws.map Td.int)) = ws := by
  show (ws.map Td.int).map intOf = ws
  rw [List.map_map]
  exact List.map_id _
theorem LdOk.chk {n p l : Int} {ws : Wd} {c : Int} (h : LdOk n p l ws c) : c = KX.chk n p l ws ∧ 0 ≤ c ∧ c ≤ 250 := by
  obtain ⟨_, _, h3, h4⟩ := loadB_tells h.ok
  have h4 : c = KX.chk n p l (wordsOf (.tup (ws.map Td.int))) := h4
  rw [wordsOf_ints] at h4
  obtain ⟨i, e, i0, i1⟩ := inI_yes h3
  cases e
  exact ⟨h4, i0, i1⟩
theorem wordsB_ints {ws : List Int} (h : ws.length = 0 ∨ 4 < ws.length) : wordsB 4 (.tup (ws.map Td.int)) = false := by
  show ((decide ((1 : Int) ≤ ((ws.map Td.int).length : Int)) && decide (((ws.map Td.int).length : Int) ≤ 4)) && (ws.map Td.int).all (inI 0 255)) = false
  rw [List.length_map]
  rcases h with h | h
  · rw [decide_eq_false (show ¬ (1 : Int) ≤ (ws.length : Int) by omega)]
    rfl
  · rw [decide_eq_false (show ¬ (ws.length : Int) ≤ 4 by omega), Bool.and_false]
    rfl
def Bd (h : Addr) (H : Hp) (v : V) : Prop := ∃ d, Is h H v d ∧ loadB d = false
theorem Bd.same {h : Addr} {H H' : Hp} (s : Same H H') {v : V} (b : Bd h H v) : Bd h H' v := let ⟨d, i, e⟩ := b; ⟨d, i.same s, e⟩
theorem Bd.five {h : Addr} {H : Hp} {t : Addr} {a b c d e : V} {a' b' c' d' e' : Td} (et : H t = some (.tup [a, b, c, d, e])) (ha : Is h H a a') (hb : Is h H b b') (hc : Is h H c c') (hd : Is h H d d') (he : Is h H e e')
    (f : inI 0 9 b' = false ∨ wordsB 4 d' = false ∨ inI 0 250 e' = false ∨ intOf e' ≠ chk (intOf a') (intOf b') (intOf c') (wordsOf d')) : Bd h H (.ref t) :=
  ⟨_, .tup et (.cons ha (.cons hb (.cons hc (.cons hd (.cons he .nil))))), loadB_false f⟩
structure Odds (h : Addr) (H : Hp) (L : Addr) (n : Nat) : Prop where
  ne : L ≠ h
  ex : ∃ vs, H L = some (.lst vs) ∧ vs.length = n ∧ ∀ v ∈ vs, Bd h H v
theorem no_part {σ : L2.St} {H : Hp} {Q : Option Int → Hp → Prop} (h : Q none H) : tNoPart σ H Q := h
theorem ne_deck {H H' : Hp} {h g L : Addr} (dk : DeckAt H h g) (s : Same H H') (n : H' L = none) : L ≠ h := fun z => by
  obtain ⟨_, e⟩ := dk.lst
  have e := s _ _ e
  rw [← z, n] at e
  cases e
theorem five_list {P : V → Prop} {a : V} {xs : List V} (h : P a) (t : ∀ v ∈ xs, P v) : ∀ v ∈ a :: xs, P v := fun v hv => by
  rcases List.mem_cons.mp hv with z | z
  · rw [z]; exact h
  · exact t v z
theorem nil_list {P : V → Prop} : ∀ v ∈ ([] : List V), P v := fun v hv => absurd hv List.not_mem_nil
section
variable {P : Program} {w : World} {K : PySem.W.Frag} {mg : Str → Option Value} {base : Heap} {A : Adr}
def spOdd : Sp := fun vs H Q _ => ∃ (h g ad q : Addr) (n p l : Int) (ws : Wd) (c : Int), vs = [.ref h, .ref ad] ∧ DeckAt H h g ∧ LoadAt H ad n p l q ws c ∧ LdOk n p l ws c ∧
  ∀ H' v d, Kp h H H' → DeckAt H' h g → Is h H' v d → loadB d = false → Q v H'
theorem ok_law_odd (T : Top K mg A) : FnOk P w K mg base CX0 3 A.a_law_odd A.d_law_odd P_law_odd spOdd := by
  refine T.F_law_odd.ok sc_law_odd (fun vs H Q E h => ?_) (fun cdv A' outer s H vs Q E hr h => ?_)
  · obtain ⟨h, g, ad, q, n, p, l, ws, c, rfl, _⟩ := h
    rfl
  · obtain ⟨h, g, ad, q, n, p, l, ws, c, rfl, dk, ld, lo, k⟩ := h
    refine ⟨_, (pss_cons (ps_asg (pv 1) (pg_tup rfl (pgs_cons (pg_name (i := 2) sc_law_odd.nd rfl (.inl rfl)) (pgs_cons (pg_name (i := 3) sc_law_odd.nd rfl (.inl rfl)) (pgs_cons (pg_name (i := 4) sc_law_odd.nd rfl (.inl rfl)) (pgs_cons (pg_name (i := 5) sc_law_odd.nd rfl (.inl rfl)) (pgs_cons (pg_name (i := 6) sc_law_odd.nd rfl (.inl rfl)) pgs_nil)))))))
    (Evl.pss_cut (ps_set (i := 7) sc_law_odd.nd rfl (.inl rfl) (pe_lst (pa_cons pe_non (pa_cons (pe_tup pa_nil) (pa_cons (pe_callTy call_list_of (by rfl) T.z_list (by decide +kernel) (pa_cons (pv 1) pa_nil)) (pa_cons (pe_slice sl_tupA (pv 1) po_none (po_some pe_int)) (pa_cons (pe_op op_catA (pv 1) (pe_tup (pa_cons pe_int pa_nil))) (pa_cons (pe_tup (pa_cons (pv 2) (pa_cons (pv 3) (pa_cons (pv 4) (pa_cons (pv 5) (pa_cons (pe_op op_mod (pe_callTy call_int1 (by rfl) T.z_int (by decide +kernel) (pa_cons (pe_op op_add (pv 6) pe_int) pa_nil)) pe_int) pa_nil)))))) pa_nil))))))))
    (Evl.pss_cut (ps_set (i := 7) sc_law_odd.nd rfl (.inl rfl) (pe_op op_cat (pv 7) (pe_lst (pa_cons (pe_tup (pa_cons (pv 2) (pa_cons (pv 3) (pa_cons (pv 4) (pa_cons (pv 5) (pa_cons (pe_op op_add (pv 6) pe_int) pa_nil)))))) (pa_cons (pe_tup (pa_cons (pv 2) (pa_cons (pv 3) (pa_cons (pv 4) (pa_cons (pe_op op_catA (pv 5) (pe_op op_repT (pe_tup (pa_cons pe_int pa_nil)) pe_int)) (pa_cons (pv 6) pa_nil)))))) pa_nil)))))
    (Evl.pss_cut (ps_set (i := 7) sc_law_odd.nd rfl (.inl rfl) (pe_op op_cat (pv 7) (pe_lst (pa_cons (pe_op op_catA (pe_tup (pa_cons pe_bl pa_nil)) (pe_slice sl_tupA (pv 1) (po_some pe_int) po_none)) (pa_cons (pe_tup (pa_cons (pv 2) (pa_cons (pv 3) (pa_cons (pv 4) (pa_cons (pe_tup pa_nil) (pa_cons (pv 6) pa_nil)))))) (pa_cons (pe_tup (pa_cons (pv 2) (pa_cons (pe_un un_neg pe_int) (pa_cons (pv 4) (pa_cons (pv 5) (pa_cons (pv 6) pa_nil)))))) (pa_cons pe_str pa_nil)))))))
    (Evl.pss_cut (ps_set (i := 7) sc_law_odd.nd rfl (.inl rfl) (pe_op op_cat (pv 7) (pe_lst (pa_cons (pe_tup (pa_cons (pv 2) (pa_cons (pv 3) (pa_cons (pv 4) (pa_cons (pv 5) (pa_cons pe_non pa_nil)))))) pa_nil))))
    (pss_one (ps_ret (pe_ix ix_list (pv 7) (pe_call (ok_law_draw T) (hr.mono (by decide)) (by rfl) T.g_law_draw T.F_law_draw.kp T.b_law_draw .nil pass0 (pa_cons (pv 0) (pa_cons pe_int pa_nil))) (fun _ _ => rfl))))))))), ?_⟩
    refine ⟨_, rfl, ad, _, rfl, SqT.of ld.at_, rfl, _, _, rfl, _, _, rfl, _, _, rfl, _, _, rfl, _, _, rfl, rfl, ?_⟩
    obtain ⟨ec, c0, c1⟩ := lo.chk
    obtain ⟨w1, w4⟩ := lo.one
    have is_w : ∀ {H'}, Same H H' → Is h H' (.ref q) (.tup (ws.map Td.int)) := fun s => .tup (s _ _ ld.words) IsL.ints
    refine ⟨fun σ' H' => ∃ L, σ' = [some (.ref h), some (.ref ad), some (.int n), some (.int p), some (.int l), some (.ref q), some (.int c), some (.ref L)] ∧ Same H H' ∧ Odds h H' L 6, ?_, ?_⟩
    · refine ⟨by show 0 ≤ sizeLine; decide, fun p1 n1 => ?_⟩
      obtain ⟨H1, x1, s1, e1⟩ := newH n1 (o := .tup [])
      rw [x1]
      clear x1
      refine ⟨_, rfl, ad, _, rfl, .inr (SqT.of (s1 _ _ ld.at_)), fun p2 n2 => ?_⟩
      obtain ⟨H2, x2, s2, e2⟩ := newH n2 (o := .lst [.int n, .int p, .int l, .ref q, .int c])
      rw [x2]
      clear x2
      have s02 := s1.trans s2
      refine ⟨_, rfl, no_part ⟨4, rfl, sl_at (s02 _ _ ld.at_) fun H3 p3 s3 e3 => ?_⟩⟩
      have e3 : H3 p3 = some (.tup [.int n, .int p, .int l, .ref q]) := e3
      have s03 := s02.trans s3
      refine ⟨_, rfl, by show 1 ≤ sizeLine; decide, fun p4 n4 => ?_⟩
      obtain ⟨H4, x4, s4, e4⟩ := newH n4 (o := .tup [.int 0])
      rw [x4]
      clear x4
      have s04 := s03.trans s4
      refine cat_at (s04 _ _ ld.at_) e4 (by show 5 + 1 ≤ 1000; decide) fun H5 p5 s5 e5 => ?_
      have s05 := s04.trans s5
      refine ⟨_, rfl, _, rfl, _, rfl, _, rfl, _, rfl, _, _, rfl, rfl, .inl ⟨_, rfl, _, _, rfl, rfl, (by show (0 : Int) < 251; decide), ?_⟩⟩
      refine ⟨by show 5 ≤ sizeLine; decide, fun p6 n6 => ?_⟩
      obtain ⟨H6, x6, s6, e6⟩ := newH n6 (o := .tup [.int n, .int p, .int l, .ref q, .int ((c + 1) % 251)])
      rw [x6]
      clear x6
      refine ⟨by show 6 ≤ sizeLine; decide, fun L n7 => ?_⟩
      obtain ⟨H7, x7, s7, e7⟩ := newH n7 (o := .lst [.non, .ref p1, .ref p2, .ref p3, .ref p5, .ref p6])
      rw [x7]
      clear x7
      have s57 := s6.trans s7
      have s47 := s5.trans s57
      have s37 := s4.trans s47
      have s27 := s3.trans s37
      have s17 := s2.trans s27
      have s07 := s1.trans s17
      refine ⟨L, rfl, s07, ne_deck dk (s1.trans (s2.trans (s3.trans (s4.trans (s5.trans s6))))) n7, _, e7, rfl, five_list ⟨_, .non, rfl⟩ (five_list ⟨_, .tup (s17 _ _ e1) .nil, rfl⟩ (five_list ⟨.oth, ?_, rfl⟩ (five_list ?_ (five_list ?_ (five_list ?_ nil_list)))))⟩
      · refine .lst (s27 _ _ e2) fun z => ?_
        obtain ⟨_, e⟩ := dk.lst
        have e := s1 _ _ e
        rw [← z, n2] at e
        cases e
      · refine ⟨.tup [.int n, .int p, .int l, .tup (ws.map Td.int)], ?_, rfl⟩
        exact .tup (s37 _ _ e3) (.cons (.int _) (.cons (.int _) (.cons (.int _) (.cons (is_w s07) .nil))))
      · refine ⟨.tup [.int n, .int p, .int l, .tup (ws.map Td.int), .int c, .int 0], ?_, rfl⟩
        exact .tup (s57 _ _ e5) (.cons (.int _) (.cons (.int _) (.cons (.int _) (.cons (is_w s07) (.cons (.int _) (.cons (.int _) .nil))))))
      · refine Bd.five (s7 _ _ e6) (.int _) (.int _) (.int _) (is_w s07) (.int _) (.inr (.inr (.inr ?_)))
        show (c + 1) % 251 ≠ chk n p l (wordsOf (.tup (ws.map Td.int)))
        rw [wordsOf_ints, ← ec]
        omega
    rintro σ' H1 ⟨L1, rfl, s1, Lh, vs1, eL1, len1, bd1⟩
    refine ⟨fun σ' H' => ∃ L, σ' = [some (.ref h), some (.ref ad), some (.int n), some (.int p), some (.int l), some (.ref q), some (.int c), some (.ref L)] ∧ Same H H' ∧ Odds h H' L 8, ?_, ?_⟩
    · refine ⟨_, rfl, _, rfl, _, rfl, _, rfl, _, rfl, _, rfl, _, _, rfl, rfl, by show 5 ≤ sizeLine; decide, fun p2 n2 => ?_⟩
      obtain ⟨H2, x2, s2, e2⟩ := newH n2 (o := .tup [.int n, .int p, .int l, .ref q, .int (c + 251)])
      rw [x2]
      clear x2
      refine ⟨_, rfl, _, rfl, _, rfl, _, rfl, by show 1 ≤ sizeLine; decide, fun p3 n3 => ?_⟩
      obtain ⟨H3, x3, s3, e3⟩ := newH n3 (o := .tup [.int 0])
      rw [x3]
      clear x3
      refine ⟨p3, 5, _, rfl, rfl, SqT.of e3, (by intro z; cases z), by decide, by decide, by show 1 ≤ 1000; decide, fun p4 n4 => ?_⟩
      obtain ⟨H4, x4, s4, e4⟩ := newH n4 (o := .tup (List.replicate (5 : Int).toNat [.int 0]).flatten)
      rw [x4]
      clear x4
      have s24 := s3.trans s4
      have s14 := s2.trans s24
      have s04 := s1.trans s14
      have e4 : H4 p4 = some (.tup ([0, 0, 0, 0, 0].map V.int)) := e4
      refine cat_at (s04 _ _ ld.words) e4 (by rw [List.length_map]; show ws.length + 5 ≤ 1000; omega) fun H5 p5 s5 e5 => ?_
      rw [← List.map_append] at e5
      refine ⟨_, rfl, by show 5 ≤ sizeLine; decide, fun p6 n6 => ?_⟩
      obtain ⟨H6, x6, s6, e6⟩ := newH n6 (o := .tup [.int n, .int p, .int l, .ref p5, .int c])
      rw [x6]
      clear x6
      refine ⟨by show 2 ≤ sizeLine; decide, fun p7 n7 => ?_⟩
      obtain ⟨H7, x7, s7, e7⟩ := newH n7 (o := .lst [.ref p2, .ref p6])
      rw [x7]
      clear x7
      have s57 := s6.trans s7
      have s47 := s5.trans s57
      have s27 := s24.trans s47
      have s17 := s2.trans s27
      have s07 := s1.trans s17
      refine ⟨L1, p7, vs1, _, rfl, rfl, s17 _ _ eL1, e7, by rw [len1]; show 8 ≤ sizeLine; decide, fun L n8 => ?_⟩
      obtain ⟨H8, x8, s8, e8⟩ := newH n8 (o := .lst (vs1 ++ [.ref p2, .ref p6]))
      rw [x8]
      clear x8
      have s08 := s07.trans s8
      refine ⟨L, rfl, s08, ne_deck dk s07 n8, _, e8, by rw [List.length_append, len1]; rfl, fun v hv => ?_⟩
      rcases List.mem_append.mp hv with hv | hv
      · exact (bd1 v hv).same (s17.trans s8)
      refine five_list (P := Bd h H8) ?_ (five_list ?_ nil_list) v hv
      · refine Bd.five ((s27.trans s8) _ _ e2) (.int _) (.int _) (.int _) (is_w s08) (.int _) (.inr (.inr (.inl ?_)))
        show (decide ((0 : Int) ≤ c + 251) && decide (c + 251 ≤ 250)) = false
        rw [decide_eq_false (show ¬ c + 251 ≤ 250 by omega), Bool.and_false]
      · refine Bd.five ((s7.trans s8) _ _ e6) (.int _) (.int _) (.int _) (.tup ((s57.trans s8) _ _ e5) IsL.ints) (.int _) (.inr (.inl (wordsB_ints (.inr ?_))))
        rw [List.length_append]
        show 4 < ws.length + 5
        omega
    clear bd1 eL1 s1 Lh
    rintro σ' H1 ⟨L1, rfl, s1, Lh, vs1, eL1, len1, bd1⟩
    refine ⟨fun σ' H' => ∃ L, σ' = [some (.ref h), some (.ref ad), some (.int n), some (.int p), some (.int l), some (.ref q), some (.int c), some (.ref L)] ∧ Same H H' ∧ Odds h H' L 12, ?_, ?_⟩
    · refine ⟨_, rfl, by show 1 ≤ sizeLine; decide, fun p2 n2 => ?_⟩
      obtain ⟨H2, x2, s2, e2⟩ := newH n2 (o := .tup [.bl true])
      rw [x2]
      clear x2
      have s02 := s1.trans s2
      refine ⟨_, rfl, 1, rfl, no_part (sl_at (s02 _ _ ld.at_) fun H3 p3 s3 e3 => ?_)⟩
      have e3 : H3 p3 = some (.tup [.int p, .int l, .ref q, .int c]) := e3
      have s03 := s02.trans s3
      refine cat_at (s3 _ _ e2) e3 (by show 1 + 4 ≤ 1000; decide) fun H4 p4 s4 e4 => ?_
      refine ⟨_, rfl, _, rfl, _, rfl, by show 0 ≤ sizeLine; decide, fun p5 n5 => ?_⟩
      obtain ⟨H5, x5, s5, e5⟩ := newH n5 (o := .tup [])
      rw [x5]
      clear x5
      refine ⟨_, rfl, by show 5 ≤ sizeLine; decide, fun p6 n6 => ?_⟩
      obtain ⟨H6, x6, s6, e6⟩ := newH n6 (o := .tup [.int n, .int p, .int l, .ref p5, .int c])
      rw [x6]
      clear x6
      refine ⟨_, rfl, _, rfl, _, rfl, _, rfl, _, rfl, by show 5 ≤ sizeLine; decide, fun p7 n7 => ?_⟩
      obtain ⟨H7, x7, s7, e7⟩ := newH n7 (o := .tup [.int n, .int (-1), .int l, .ref q, .int c])
      rw [x7]
      clear x7
      refine ⟨by show 4 ≤ sizeLine; decide, fun p8 n8 => ?_⟩
      obtain ⟨H8, x8, s8, e8⟩ := newH n8 (o := .lst [.ref p4, .ref p6, .ref p7, .str "load"])
      rw [x8]
      clear x8
      have s78 := s7.trans s8
      have s68 := s6.trans s7 |>.trans s8
      have s58 := s5.trans s68
      have s48 := s4.trans s58
      have s18 := s2.trans (s3.trans s48)
      have s08 := s1.trans s18
      refine ⟨L1, p8, vs1, _, rfl, rfl, s18 _ _ eL1, e8, by rw [len1]; show 12 ≤ sizeLine; decide, fun L n9 => ?_⟩
      obtain ⟨H9, x9, s9, e9⟩ := newH n9 (o := .lst (vs1 ++ [.ref p4, .ref p6, .ref p7, .str "load"]))
      rw [x9]
      clear x9
      have s09 := s08.trans s9
      refine ⟨L, rfl, s09, ne_deck dk s08 n9, _, e9, by rw [List.length_append, len1]; rfl, fun v hv => ?_⟩
      rcases List.mem_append.mp hv with hv | hv
      · exact (bd1 v hv).same (s18.trans s9)
      refine five_list (P := Bd h H9) ?_ (five_list ?_ (five_list ?_ (five_list ⟨_, .str _, rfl⟩ nil_list))) v hv
      · refine ⟨.tup [.bl true, .int p, .int l, .tup (ws.map Td.int), .int c], ?_, rfl⟩
        exact .tup ((s58.trans s9) _ _ e4) (.cons (.bl _) (.cons (.int _) (.cons (.int _) (.cons (is_w s09) (.cons (.int _) .nil)))))
      · exact Bd.five ((s7.trans (s8.trans s9)) _ _ e6) (.int _) (.int _) (.int _) (.tup ((s68.trans s9) _ _ e5) .nil) (.int _) (.inr (.inl rfl))
      · exact Bd.five ((s8.trans s9) _ _ e7) (.int _) (.int _) (.int _) (is_w s09) (.int _) (.inl rfl)
    clear bd1 eL1 s1 Lh
    rintro σ' H1 ⟨L1, rfl, s1, Lh, vs1, eL1, len1, bd1⟩
    refine ⟨fun σ' H' => ∃ L, σ' = [some (.ref h), some (.ref ad), some (.int n), some (.int p), some (.int l), some (.ref q), some (.int c), some (.ref L)] ∧ Same H H' ∧ Odds h H' L 13, ?_, ?_⟩
    · refine ⟨_, rfl, _, rfl, _, rfl, _, rfl, _, rfl, by show 5 ≤ sizeLine; decide, fun p2 n2 => ?_⟩
      obtain ⟨H2, x2, s2, e2⟩ := newH n2 (o := .tup [.int n, .int p, .int l, .ref q, .non])
      rw [x2]
      clear x2
      refine ⟨by show 1 ≤ sizeLine; decide, fun p3 n3 => ?_⟩
      obtain ⟨H3, x3, s3, e3⟩ := newH n3 (o := .lst [.ref p2])
      rw [x3]
      clear x3
      have s13 := s2.trans s3
      refine ⟨L1, p3, vs1, _, rfl, rfl, s13 _ _ eL1, e3, by rw [len1]; show 13 ≤ sizeLine; decide, fun L n4 => ?_⟩
      obtain ⟨H4, x4, s4, e4⟩ := newH n4 (o := .lst (vs1 ++ [.ref p2]))
      rw [x4]
      clear x4
      have s04 := s1.trans (s13.trans s4)
      refine ⟨L, rfl, s04, ne_deck dk (s1.trans s13) n4, _, e4, by rw [List.length_append, len1]; rfl, fun v hv => ?_⟩
      rcases List.mem_append.mp hv with hv | hv
      · exact (bd1 v hv).same (s13.trans s4)
      refine five_list (P := Bd h H4) ?_ nil_list v hv
      exact Bd.five ((s3.trans s4) _ _ e2) (.int _) (.int _) (.int _) (is_w s04) .non (.inr (.inr (.inl rfl)))
    clear bd1 eL1 s1 Lh
    rintro σ' H1 ⟨L1, rfl, s1, Lh, vs1, eL1, len1, bd1⟩
    refine ⟨_, rfl, _, rfl, h, g, 13, rfl, dk.same s1, by decide, by decide, fun H2 d b2 a2 d0 d1 => ?_⟩
    have e2 : H2 L1 = some (.lst vs1) := by rw [b2 L1 Lh]; exact eL1
    have hd : d.toNat < vs1.length := by omega
    refine ⟨L1, _, d, _, rfl, rfl, SqL.of e2, at_of (by omega) (List.getElem?_eq_getElem hd), ?_⟩
    obtain ⟨dd, i, f⟩ := bd1 _ (List.getElem_mem hd)
    exact k _ _ dd (fun q' o hq e => by rw [b2 q' hq]; exact s1 _ _ e) a2 (i.mv b2.mv ⟨_, (dk.same s1).lst.choose_spec⟩) f
end

/-! ### all that lacks, twice told -/
theorem All2.rel_at {α β : Type} {R : α → β → Prop} : ∀ {as : List α} {bs : List β}, All2 R as bs → ∀ {i : Nat} {b : β}, bs[i]? = some b → ∃ a, as[i]? = some a ∧ R a b := fun h _ _ e => h.get e
theorem LotsAt.same {H H' : Hp} (s : Same H H') {p : Addr} {b : Bk} (h : LotsAt H p b) : LotsAt H' p b := let ⟨ys, es, h1, h2, h3, h4⟩ := h; ⟨ys, es, s _ _ h1, h2.imp fun _ _ r => r.same s, h3, h4⟩
theorem ints_sameV {H : Hp} {a b : Addr} {xs : List Int} (ha : H a = some (.tup (xs.map V.int))) (hb : H b = some (.tup (xs.map V.int))) (few : xs.length ≤ 900) : SameV H 1 (.ref a) (.ref b) :=
  .seq (k := false) ha hb rfl (by rw [List.length_map]; exact few) fun i u v hu hv => by
    rw [hu] at hv
    cases hv
    rw [List.getElem?_map] at hu
    obtain ⟨n, _, rfl⟩ := Option.map_eq_some_iff.mp hu
    exact .plain (.int n)
theorem lots_few {b : Bk} (g : BkOk b) {x : Lt} (h : x ∈ lots b) : x.2.length ≤ 900 := by
  obtain ⟨e, he, h⟩ := List.mem_filterMap.mp h
  obtain ⟨h1, h2, _⟩ := g.ok e he
  unfold lotE at h
  split at h
  · cases h
  · cases h
    have := lotUp_len e.2.2 e.2.1.toNat
    show (lotUp e.2.2 e.2.1.toNat).length ≤ 900
    omega
theorem lots_sameV {H : Hp} {p q : Addr} {b : Bk} (g : BkOk b) (few : b.length ≤ 900) (h1 : LotsAt H p b) (h2 : LotsAt H q b) : SameV H 3 (.ref p) (.ref q) := by
  obtain ⟨ys, es, a1, a2, a3, a4⟩ := h1
  obtain ⟨zs, fs, b1, b2, b3, b4⟩ := h2
  have e := asc_same (a3.trans b3.symm) a4 b4
  subst e
  have l1 := a2.len
  have l2 := b2.len
  have l3 := a3.length_eq
  have l4 : (lots b).length ≤ b.length := List.length_filterMap_le _ _
  refine .seq (k := true) a1 b1 (by omega) (by omega) fun i u v hu hv => ?_
  obtain ⟨x, hx, t1, q1, rfl, c1, c2⟩ := All2.rel_at a2 hu
  obtain ⟨y, hy, t2, q2, rfl, d1, d2⟩ := All2.rel_at b2 hv
  rw [hx] at hy
  cases hy
  refine .seq (k := false) c1 d1 rfl (by show 2 ≤ 900; decide) fun j u v hu hv => ?_
  match j, hu, hv with
  | 0, hu, hv => cases hu; cases hv; exact .plain (.int _)
  | 1, hu, hv => cases hu; cases hv; exact ints_sameV c2 d2 (lots_few g (a3.mem_iff.mp (List.mem_of_getElem? hx)))
section
variable {P : Program} {w : World} {K : PySem.W.Frag} {mg : Str → Option Value} {base : Heap} {A : Adr}
def spIsLack (C : Addr) : Sp := fun vs H Q _ => ∃ (g B : Addr) (ℓ : Ow) (st : List Bk), vs = [.ref g, .ref B, .int (st.length : Int)] ∧ GAt C H ℓ g st ∧ LAt H ℓ B st ∧ (∀ b ∈ st, BkOk b ∧ b.length < 64) ∧ st.length ≤ 12 ∧ ∀ H', Same H H' → Q (.bl true) H'
theorem LAt.same {H H' : Hp} {ℓ : Ow} {g : Addr} {st : List Bk} (G : LAt H ℓ g st) (s : Same H H') : LAt H' ℓ g st := G.kpt (Kpt.same (S := isG) s) fun l hl hb => by
  cases l <;> first | exact hl.elim | exact hb.elim
theorem ok_law_is_lacking (T : Top K mg A) : FnOk P w K mg base CX0 6 A.a_law_is_lacking A.d_law_is_lacking P_law_is_lacking (spIsLack A.c_Gatherer) := by
  refine T.F_law_is_lacking.ok sc_law_is_lacking (fun vs H Q E h => ?_) (fun cdv A' outer s H vs Q E hr h => ?_)
  · obtain ⟨g, B, ℓ, st, rfl, _⟩ := h
    rfl
  · obtain ⟨g, B, ℓ, st, rfl, G, L, ok, few, k⟩ := h
    refine ⟨_, (pss_cons (ps_for PassesOwn.never rfl (pi_range1 rfl T.z_range (pa_cons (pv 2) pa_nil)) (pg_name (i := 3) sc_law_is_lacking.nd rfl (.inl rfl)) (pss_one (ps_if (pt_not (pt_val (pe_call (ok_law_same T) (hr.mono (by decide)) (by rfl) T.g_law_same T.F_law_same.kp T.b_law_same .nil pass0 (pa_cons (pe_meth (pv 0) T.cl_Gatherer T.m_Gatherer_lacking (ok_Gatherer_lacking T) (hr.mono (by decide)) T.b_Gatherer_lacking .nil passL (pa_cons (pv 3) pa_nil)) (pa_cons (pe_call (ok_law_lacking T) (hr.mono (by decide)) (by rfl) T.g_law_lacking T.F_law_lacking.kp T.b_law_lacking .nil pass0 (pa_cons (pe_ix ix_list (pv 1) (pv 3) (fun _ _ => rfl)) pa_nil)) pa_nil))))) (pss_one (ps_ret pe_bl)) pss_nil)))
    (pss_one (ps_ret pe_bl))), ?_⟩
    refine ⟨_, rfl, (st.length : Int), rfl, by omega, by omega, ?_⟩
    refine for_range (lo := 0) (n := (st.length : Int).toNat) (fun i σ H' => ∃ y3, σ = [some (.ref g), some (.ref B), some (.int (st.length : Int)), y3] ∧ Same H H') ⟨_, rfl, fun _ _ e => e⟩ ?_ ?_
    · rintro o σ H1 ho ⟨y3, rfl, s1⟩
      rw [Int.toNat_natCast] at ho
      have eb : st[o]? = some st[o] := List.getElem?_eq_getElem ho
      have bok := ok _ (List.mem_of_getElem? eb)
      generalize st[o] = b at eb bok
      have G1 := G.same s1
      obtain ⟨dx, L', as', h1, _⟩ := G1.ex
      refine ⟨_, rfl, g, _, _, rfl, h1, rfl, _, rfl, g, g, ℓ, st, _, .int (0 + (o : Int)), rfl, G1, fun b hb => ⟨(ok b hb).1, by have := (ok b hb).2; omega⟩, .int _, .inr ⟨o, b, by rw [Int.zero_add], eb, fun H2 p2 s2 lot2 => ?_⟩⟩
      have L2 := L.same (s1.trans s2)
      obtain ⟨as, l1, l2, l3, l4⟩ := L2.ex
      have ea : as[o]? = some (as[o]'(by omega)) := List.getElem?_eq_getElem (by omega)
      generalize as[o]'(by omega) = a at ea
      refine ⟨_, rfl, _, rfl, B, _, _, _, rfl, rfl, SqL.of l1, at_of (j := o) (by omega) (map_at ea), a, ℓ, o, b, rfl, l4 o a b ea eb, bok.1, bok.2, fun H3 p3 s3 lot3 => ?_⟩
      refine ⟨_, _, 3, rfl, lots_sameV bok.1 (by have := bok.2; omega) (lot2.same s3) lot3, by decide, fun H4 s4 => ⟨_, rfl, ?_⟩⟩
      exact iteF ⟨_, rfl, s1.trans (s2.trans (s3.trans s4))⟩
    · rintro σ H1 ⟨y3, rfl, s1⟩
      exact k H1 s1
end

/-! ### what is refused -/
section
variable {P : Program} {w : World} {K : PySem.W.Frag} {mg : Str → Option Value} {base : Heap} {A : Adr}
def spRefused : Sp := fun vs H Q _ => ∃ (x : V) (d : Td) (h : Addr), vs = [x] ∧ Is h H x d ∧ inI 1 12 d = false ∧ ∀ H', Same H H' → Q (.bl true) H'
theorem ok_law_is_refused (T : Top K mg A) : FnOk P w K mg base CX0 6 A.a_law_is_refused A.d_law_is_refused P_law_is_refused spRefused := by
  refine T.F_law_is_refused.ok sc_law_is_refused (fun vs H Q E h => ?_) (fun cdv A' outer s H vs Q E hr h => ?_)
  · obtain ⟨x, d, h, rfl, _⟩ := h
    rfl
  · obtain ⟨x, d, h, rfl, ix, bad, k⟩ := h
    refine ⟨_, (pss_cons (ps_set (i := 1) sc_law_is_refused.nd rfl (.inl rfl) pe_bl)
    (pss_cons (GT.ps_try_g rfl rfl sc_law_is_refused.nd LamX.takes0 (fun W pn xe tk _ => (pss_one (ps_expr (pe_make T.mk_Gatherer (ok_Gatherer___init__ T) (hr.mono (by decide)) (by rfl) T.gc_Gatherer T.b_Gatherer___init__ .nil (GX.passT 3 tk) (pa_cons (pv 0) pa_nil))))) (.as_ (i := 2) rfl (by decide) T.gc_NoNumber rfl rfl (fun a oe cls d pn hz hf => by exact (pss_one (ps_set (i := 1) sc_law_is_refused.nd rfl (.inl rfl) (pe_callB (GX.call_isEa (a := a) (pn := pn) hz hf) (by rfl) T.z_isinstance (by decide +kernel) (pa_cons (pv 2) (pa_cons (pe_glob (v := .ref A.c_FabricError) (by rfl) T.gc_FabricError (by rfl)) pa_nil)))))) .nil))
    (pss_one (ps_ret (pv 1))))), ?_⟩
    refine ⟨_, rfl, fun y dy ny ndy ne => ?_⟩
    have s0 : Same H (upd (upd H dy (.own y)) y (.ins A.c_Gatherer dy [])) := fun q o e => by
      rw [upd_ne (ne_of_none e ny), upd_ne (ne_of_none e ndy)]
      exact e
    refine ⟨y, dy, h, x, d, rfl, ix.same s0, upd_same, fun _ => ?_, fun n e h1 h2 => ?_⟩
    · intro σ hσ
      obtain ⟨x0, x1, x2, rfl⟩ : ∃ x0 x1 x2, σ = [x0, x1, x2] := by
        match σ, hσ with
        | [x0, x1, x2], _ => exact ⟨x0, x1, x2, rfl⟩
      have xD : ExcC K A.c_NoNumber := ⟨T.e1_NoNumber, T.e2_NoNumber, T.s_NoNumber, T.e3_NoNumber, T.e4_NoNumber, T.en1, T.en2, T.e5_NoNumber⟩
      refine ⟨true, T.xm_NoNumber_NoNumber, fun _ a ha => ?_, fun z => (by cases z)⟩
      refine ⟨_, rfl, A.c_NoNumber, rfl, xD, .inl rfl, _, _, true, rfl, fun u r => r, T.kt_NoNumber_FabricError, ?_⟩
      exact ⟨_, rfl, k _ s0⟩
    · subst e
      have bad : (decide ((1 : Int) ≤ (n : Int)) && decide ((n : Int) ≤ 12)) = false := bad
      rw [decide_eq_true (show (1 : Int) ≤ (n : Int) by omega), decide_eq_true (show (n : Int) ≤ 12 by omega)] at bad
      cases bad
def spNoOut (C : Addr) : Sp := fun vs H Q _ => ∃ (g h : Addr) (ℓ : Ow) (st : List Bk) (x : V) (d : Td), vs = [.ref g, x] ∧ GAt C H ℓ g st ∧ (∀ b ∈ st, BkOk b ∧ b.length ≤ 1000) ∧ Is h H x d ∧ inI 0 ((st.length : Int) - 1) d = false ∧ Q (.bl true) H
theorem ok_law_is_no_output (T : Top K mg A) : FnOk P w K mg base CX0 6 A.a_law_is_no_output A.d_law_is_no_output P_law_is_no_output (spNoOut A.c_Gatherer) := by
  refine T.F_law_is_no_output.ok sc_law_is_no_output (fun vs H Q E h => ?_) (fun cdv A' outer s H vs Q E hr h => ?_)
  · obtain ⟨g, h, ℓ, st, x, d, rfl, _⟩ := h
    rfl
  · obtain ⟨g, h, ℓ, st, x, d, rfl, G, ok, ix, bad, k⟩ := h
    refine ⟨_, (pss_cons (ps_set (i := 2) sc_law_is_no_output.nd rfl (.inl rfl) pe_bl)
    (pss_cons (GT.ps_try_g rfl rfl sc_law_is_no_output.nd LamX.takes0 (fun W pn xe tk _ => (pss_one (ps_expr (pe_meth (pv 0) T.cl_Gatherer T.m_Gatherer_lacking (ok_Gatherer_lacking T) (hr.mono (by decide)) T.b_Gatherer_lacking .nil (GX.passT 4 tk) (pa_cons (pv 1) pa_nil))))) (.as_ (i := 3) rfl (by decide) T.gc_NoOutput rfl rfl (fun a oe cls d pn hz hf => by exact (pss_one (ps_set (i := 2) sc_law_is_no_output.nd rfl (.inl rfl) (pe_callB (GX.call_isEa (a := a) (pn := pn) hz hf) (by rfl) T.z_isinstance (by decide +kernel) (pa_cons (pv 3) (pa_cons (pe_glob (v := .ref A.c_FabricError) (by rfl) T.gc_FabricError (by rfl)) pa_nil)))))) .nil))
    (pss_one (ps_ret (pv 2))))), ?_⟩
    obtain ⟨dx, L', as', h1, _⟩ := G.ex
    refine ⟨_, rfl, g, _, _, rfl, h1, rfl, _, rfl, g, h, ℓ, st, x, d, rfl, G, ok, ix, .inl ⟨bad, ?_⟩⟩
    intro σ hσ
    obtain ⟨x0, x1, x2, x3, rfl⟩ : ∃ x0 x1 x2 x3, σ = [x0, x1, x2, x3] := by
      match σ, hσ with
      | [x0, x1, x2, x3], _ => exact ⟨x0, x1, x2, x3, rfl⟩
    have xD : ExcC K A.c_NoOutput := ⟨T.e1_NoOutput, T.e2_NoOutput, T.s_NoOutput, T.e3_NoOutput, T.e4_NoOutput, T.en1, T.en2, T.e5_NoOutput⟩
    refine ⟨true, T.xm_NoOutput_NoOutput, fun _ a ha => ?_, fun z => (by cases z)⟩
    refine ⟨_, rfl, A.c_NoOutput, rfl, xD, .inl rfl, _, _, true, rfl, fun u r => r, T.kt_NoOutput_FabricError, ?_⟩
    exact ⟨_, rfl, k⟩
/-! ### another load of the same packet -/
def spOther : Sp := fun vs H Q _ => ∃ (h g x ad q : Addr) (n p l : Int) (ws : Wd) (c : Int), vs = [.ref h, .ref x, .ref ad] ∧ DeckAt H h g ∧ LoadAt H ad n p l q ws c ∧ LdOk n p l ws c ∧
  ∀ (H' : Hp) (ad' q' : Addr) (p' l' : Int) (ws' : Wd) (c' : Int), Kp h H H' → DeckAt H' h g → LoadAt H' ad' n p' l' q' ws' c' → LdOk n p' l' ws' c' → Q (.ref ad') H'
/-- a load cut from words -/
theorem ld_cut {n : Int} {ws : List Int} {p : Nat} (h0 : 0 ≤ n ∧ n ≤ 1000000000) (l40 : ws.length ≤ 40) (lt : 4 * p < ws.length) (lo : ∀ x ∈ ws, 0 ≤ x ∧ x ≤ 255) :
    LdOk n (p : Int) (((ws.length : Int) - 1) / 4 - (p : Int)) ((ws.drop (4 * p)).take 4) (chk n (p : Int) (((ws.length : Int) - 1) / 4 - (p : Int)) ((ws.drop (4 * p)).take 4)) := by
  have len : ((ws.drop (4 * p)).take 4).length = min 4 (ws.length - 4 * p) := by rw [List.length_take, List.length_drop]
  have mem : ∀ x ∈ (ws.drop (4 * p)).take 4, 0 ≤ x ∧ x ≤ 255 := fun x hx => lo x (List.mem_of_mem_drop (List.mem_of_mem_take hx))
  generalize hl : ((ws.length : Int) - 1) / 4 - (p : Int) = l
  generalize hw : (ws.drop (4 * p)).take 4 = us at len mem
  have l0 : 0 ≤ l := by omega
  have l9 : (p : Int) + l ≤ 9 := by omega
  refine ⟨h0, by omega, l0, l9, by omega, ?_⟩
  show (inI 0 1000000000 (.int n) && (inI 0 9 (.int (p : Int)) && (inI 0 (10 - (p : Int) - 1) (.int l) && (wordsB 4 (.tup (us.map Td.int)) && (!(decide (0 < l) && decide (((us.map Td.int).length : Int) < 4)) && (inI 0 250 (.int (chk n (p : Int) l us)) && decide (chk n (p : Int) l us = chk n (p : Int) l (wordsOf (.tup (us.map Td.int)))))))))) = true
  have inT : ∀ {a b i : Int}, a ≤ i → i ≤ b → inI a b (.int i) = true := fun {a b i} h1 h2 => by
    show (decide (a ≤ i) && decide (i ≤ b)) = true
    rw [decide_eq_true h1, decide_eq_true h2]
    rfl
  have c0 : 0 ≤ chk n (p : Int) l us := Int.emod_nonneg _ (by decide)
  have c1 : chk n (p : Int) l us < 251 := Int.emod_lt_of_pos _ (by decide)
  rw [inT h0.1 h0.2, inT (by omega) (by omega), inT l0 (by omega), inT c0 (by omega), wordsOf_ints, decide_eq_true rfl, List.length_map]
  have hw4 : wordsB 4 (.tup (us.map Td.int)) = true := by
    show ((decide ((1 : Int) ≤ ((us.map Td.int).length : Int)) && decide (((us.map Td.int).length : Int) ≤ 4)) && (us.map Td.int).all (inI 0 255)) = true
    rw [List.length_map, decide_eq_true (show (1 : Int) ≤ (us.length : Int) by omega), decide_eq_true (show (us.length : Int) ≤ 4 by omega), List.all_map]
    exact List.all_eq_true.mpr fun x hx => inT (mem x hx).1 (mem x hx).2
  rw [hw4]
  by_cases z : 0 < l
  · rw [decide_eq_true z, decide_eq_false (show ¬ (us.length : Int) < 4 by omega)]
    rfl
  · rw [decide_eq_false z]
    rfl
theorem ok_law_other (T : Top K mg A) : FnOk P w K mg base CX0 3 A.a_law_other A.d_law_other P_law_other spOther := by
  refine T.F_law_other.ok sc_law_other (fun vs H Q E h => ?_) (fun cdv A' outer s H vs Q E hr h => ?_)
  · obtain ⟨h, g, x, ad, q, n, p, l, ws, c, rfl, _⟩ := h
    rfl
  · obtain ⟨h, g, x, ad, q, n, p, l, ws, c, rfl, dk, ld, lo, k⟩ := h
    refine ⟨_, (pss_cons (ps_set (i := 3) sc_law_other.nd rfl (.inl rfl) (pe_callTy call_tuple_of (by rfl) T.z_tuple (by decide +kernel) (pa_cons (pe_lc (own := [("_law_k", 5)]) (by rfl) sc_law_other.nd (pi_range1 rfl T.z_range (pa_cons (pe_op op_mul pe_int (pe_op op_add pe_int (pe_call (ok_law_draw T) (hr.mono (by decide)) (by rfl) T.g_law_draw T.F_law_draw.kp T.b_law_draw .nil pass0 (pa_cons (pv 0) (pa_cons pe_int pa_nil))))) pa_nil)) (blkOk_by (own := [("_law_k", 5)]) (N := N_law_other) (sc := defScope s_law_other) (by decide +kernel)) (fun _ _ _ _ _ => (pg_name (i := 5) sc_law_other.nd rfl (.inl rfl))) (fun _ _ _ _ _ => pts_nil) (fun _ _ _ _ _ => (pe_call (ok_law_draw (P := P) (w := w) T) (hr.mono (by decide)) (by rfl) T.g_law_draw T.F_law_draw.kp T.b_law_draw .nil pass0 (pa_cons (pv 0) (pa_cons pe_int pa_nil))))) pa_nil)))
    (pss_cons (ps_set (i := 4) sc_law_other.nd rfl (.inl rfl) (pe_ix ix_tup (pv 2) pe_int (fun _ _ => rfl)))
    (Evl.pss_cut (ps_if (pt_cmpR op_gt (pe_op op_add (pe_op op_mul pe_int (pv 4)) pe_int) (pe_callB call_len_seq (by rfl) T.z_len (by decide +kernel) (pa_cons (pv 3) pa_nil)) (nomark _)) (pss_one (ps_set (i := 4) sc_law_other.nd rfl (.inl rfl) pe_int)) pss_nil)
    (pss_one (ps_ret (pe_call (ok_law_load T) (hr.mono (by decide)) (by rfl) T.g_law_load T.F_law_load.kp T.b_law_load .nil pass0 (pa_cons (pe_ix ix_tup (pv 2) pe_int (fun _ _ => rfl)) (pa_cons (pv 3) (pa_cons (pv 4) pa_nil))))))))), ?_⟩
    refine ⟨_, rfl, h, g, 10, rfl, dk, by decide, by decide, fun H2 d2 b2 a3 d20 d21 => ⟨1, d2, rfl, rfl, 4, _, rfl, rfl, .inl ⟨by decide, by decide⟩, 4 * (1 + d2), rfl, by omega, by omega, fun W nW => ?_⟩⟩
    have k02 : Kp h H H2 := fun q o hq e => by rw [b2 q hq]; exact e
    have Wh : W ≠ h := fun z => by
      obtain ⟨_, e⟩ := a3.lst
      rw [← z, nW] at e
      cases e
    have Wg : W ≠ g := fun z => by
      obtain ⟨_, e⟩ := a3.cells
      rw [← z, nW] at e
      cases e
    refine lc_range (lo := 0) (n := (4 * (1 + d2)).toNat) (fun i H' => ∃ ws : List Int, (∀ b, b ≠ h → b ≠ W → H' b = H2 b) ∧ DeckAt H' h g ∧ H' W = some (.lst (ws.map V.int)) ∧ ws.length = i ∧ ∀ x ∈ ws, 0 ≤ x ∧ x ≤ 255)
      ⟨[], fun b _ hb => upd_ne hb, a3.same (same_upd nW), upd_same, rfl, fun x hx => absurd hx List.not_mem_nil⟩ ?_ ?_
    · rintro i H3 hi ⟨ws, o3, a4, eW, lw, bd⟩
      refine ⟨by kernel_rfl, ?_⟩
      refine ⟨_, rfl, h, g, 256, rfl, a4, by decide, by decide, fun H4 x b4 a5 x0 x1 => ?_⟩
      have eW4 : H4 W = some (.lst (ws.map V.int)) := by rw [b4 W Wh]; exact eW
      refine ⟨_, eW4, small1000 (by rw [List.length_map]; omega), ws ++ [x], fun b h1 h2 => by rw [upd_ne h2, b4 b h1]; exact o3 b h1 h2, a5.but (fun q hq => upd_ne hq) Wh Wg, by rw [upd_same, List.map_append]; rfl, by rw [List.length_append, lw]; rfl, fun y hy => ?_⟩
      rcases List.mem_append.mp hy with q | q
      · exact bd y q
      · rw [List.mem_singleton] at q
        rw [q]
        exact ⟨x0, by omega⟩
    rintro H3 ⟨us, o3, a4, eW, lw, bd⟩
    have k03 : Kp h H H3 := fun q o hq e => by
      have e2 := k02 q o hq e
      have qW : q ≠ W := fun z => by rw [z, nW] at e2; cases e2
      rw [o3 q hq qW]
      exact e2
    refine ⟨W, _, rfl, .inl ⟨SqL.of eW, fun q2 nq2 => ?_⟩⟩
    have s4 := same_upd nq2 (o := .tup (us.map V.int))
    have e2 : upd H3 q2 (.tup (us.map V.int)) q2 = some (.tup (us.map V.int)) := upd_same
    have a5 := a4.same s4
    have k04 := k03.same s4
    generalize upd H3 q2 (.tup (us.map V.int)) = H4 at e2 a5 k04 ⊢
    have adh : ad ≠ h := fun z => by
      obtain ⟨_, e⟩ := dk.lst
      have := ld.at_
      rw [z, e] at this
      cases this
    have ed4 := k04 ad _ adh ld.at_
    refine ⟨_, rfl, ad, _, 1, _, rfl, rfl, SqT.of ed4, atI_nat (j := 1) rfl, ?_⟩
    obtain ⟨pn, rfl⟩ := Int.eq_ofNat_of_zero_le lo.p0
    have l40 : us.length ≤ 40 := by omega
    have l4 : 4 ≤ us.length := by omega
    refine ⟨fun σ' H' => H' = H4 ∧ ∃ p' : Nat, 4 * p' < us.length ∧ σ' = [some (.ref h), some (.ref x), some (.ref ad), some (.ref q2), some (.int (p' : Int)), none], ?_, ?_⟩
    · refine ⟨_, rfl, _, _, rfl, rfl, .inl ⟨by decide, by decide⟩, _, _, rfl, rfl, _, rfl, q2, _, rfl, .inr (SqT.of e2), _, _, rfl, rfl, _, rfl, ite2 (fun cc => ?_) (fun cc => ?_)⟩
      · exact ⟨rfl, 0, by omega, rfl⟩
      · have cc : ¬ ((us.map V.int).length : Int) < 4 * (pn : Int) + 4 := fun z => cc (decide_eq_true z)
        rw [List.length_map] at cc
        exact ⟨rfl, pn, by omega, rfl⟩
    · rintro σ' H5 ⟨rfl, p', lt, rfl⟩
      refine ⟨_, rfl, ad, _, 0, _, rfl, rfl, SqT.of ed4, atI_nat (j := 0) rfl, _, rfl, _, rfl, n, q2, us, p', rfl, e2, by omega, fun H6 r q6 s6 la6 => ?_⟩
      exact k H6 r q6 _ _ _ _ (k04.same s6) (a5.same s6) la6 (ld_cut lo.n0 l40 lt bd)
end

/-! ### the law's state -/
def TK (H H' : Hp) : Prop := ∀ q ys, H q = some (.tup ys) → H' q = some (.tup ys)
theorem TK.trans {H H1 H2 : Hp} (a : TK H H1) (b : TK H1 H2) : TK H H2 := fun q ys h => b q ys (a q ys h)
theorem TK.same {H H1 : Hp} (s : Same H H1) : TK H H1 := fun q ys h => s _ _ h
theorem TK.lst {H : Hp} {a : Addr} {xs : List V} {o : HO} (e : H a = some (.lst xs)) : TK H (upd H a o) := fun q ys h => by
  rw [upd_ne (ne_of h e (by intro z; cases z))]
  exact h
def GoodLd (H : Hp) (v : V) : Prop := ∃ ad q n p l ws c, v = .ref ad ∧ LoadAt H ad n p l q ws c ∧ LdOk n p l ws c
theorem GoodLd.tk {H H' : Hp} (t : TK H H') {v : V} (g : GoodLd H v) : GoodLd H' v :=
  let ⟨ad, q, n, p, l, ws, c, h1, h2, h3⟩ := g; ⟨ad, q, n, p, l, ws, c, h1, ⟨t _ _ h2.at_, t _ _ h2.words⟩, h3⟩
structure Env0 (H : Hp) (ℓ : Ow) (h dg aL aS : Addr) (lds left : List V) : Prop where
  dk : DeckAt H h dg
  hdk : ℓ h = some .deck
  hdg : ℓ dg = some .cells
  eS : H aS = some (.lst lds)
  hS : ℓ aS = some .loads
  eL : H aL = some (.lst left)
  hL : ℓ aL = some .left
  gS : ∀ v ∈ lds, GoodLd H v
  gL : ∀ v ∈ left, GoodLd H v
structure Tn (C : Addr) (n i : Nat) (H : Hp) (ℓ : Ow) (h dg g B aL aS : Addr) (st : List Bk) (lds left : List V) : Prop where
  e0 : Env0 H ℓ h dg aL aS lds left
  G : GAt C H ℓ g st
  L : LAt H ℓ B st
  len : st.length = n
  ok : ∀ b ∈ st, BkOk b ∧ b.length ≤ i
  le : left.length ≤ 2 * lds.length
section
variable {C : Addr} {n i : Nat} {H H' : Hp} {ℓ ℓ' : Ow} {h dg g B aL aS : Addr} {st : List Bk} {lds left : List V}
theorem Env0.lib {S : Lab → Prop} (e : Env0 H ℓ h dg aL aS lds left) (k : Kpt S H ℓ H' ℓ') (hS : ∀ l, S l → isG l ∨ isB l) : Env0 H' ℓ' h dg aL aS lds left := by
  have no : ∀ l, (¬ (isG l ∨ isB l)) → ¬ S l := fun l h z => h (hS l z)
  obtain ⟨ns, eg⟩ := e.dk.cells
  obtain ⟨a, m, t, s, eh, ha⟩ := e.dk.five
  refine ⟨⟨⟨ns, k.kep _ _ _ eg e.hdg (no _ (by rintro (z | z) <;> exact z))⟩, ⟨a, m, t, s, k.kep _ _ _ eh e.hdk (no _ (by rintro (z | z) <;> exact z)), ha⟩, e.dk.ne⟩, k.lab eh e.hdk, k.lab eg e.hdg, k.kep _ _ _ e.eS e.hS (no _ (by rintro (z | z) <;> exact z)), k.lab e.eS e.hS, k.kep _ _ _ e.eL e.hL (no _ (by rintro (z | z) <;> exact z)), k.lab e.eL e.hL, fun v hv => (e.gS v hv).tk k.tup, fun v hv => (e.gL v hv).tk k.tup⟩
theorem Env0.kd (e : Env0 H ℓ h dg aL aS lds left) (k : Kp h H H') (dk' : DeckAt H' h dg) : Kpt (fun l => l = .deck) H ℓ H' ℓ := by
  obtain ⟨_, hh⟩ := e.dk.lst
  obtain ⟨_, hh'⟩ := dk'.lst
  exact Kpt.kp k hh (some_ne hh') e.hdk rfl
theorem Env0.deck (e : Env0 H ℓ h dg aL aS lds left) (k : Kp h H H') (dk' : DeckAt H' h dg) : Env0 H' ℓ h dg aL aS lds left := by
  have k := e.kd k dk'
  exact ⟨dk', e.hdk, e.hdg, k.kep _ _ _ e.eS e.hS (by intro z; cases z), e.hS, k.kep _ _ _ e.eL e.hL (by intro z; cases z), e.hL, fun v hv => (e.gS v hv).tk k.tup, fun v hv => (e.gL v hv).tk k.tup⟩
theorem Tn.deck (t : Tn C n i H ℓ h dg g B aL aS st lds left) (k : Kp h H H') (dk' : DeckAt H' h dg) : Tn C n i H' ℓ h dg g B aL aS st lds left := by
  have k2 := t.e0.kd k dk'
  exact ⟨t.e0.deck k dk', t.G.kpt k2 (fun l hl z => by cases z; exact hl), t.L.kpt k2 (fun l hl z => by cases z; exact hl), t.len, t.ok, t.le⟩
theorem Tn.same (t : Tn C n i H ℓ h dg g B aL aS st lds left) (s : Same H H') : Tn C n i H' ℓ h dg g B aL aS st lds left := t.deck (fun q o _ e => s q o e) (t.e0.dk.same s)
theorem Tn.pop (t : Tn C n i H ℓ h dg g B aL aS st lds left) (k : Nat) : Tn C n i (upd H aL (.lst (left.eraseIdx k))) ℓ h dg g B aL aS st lds (left.eraseIdx k) := by
  have ne : ∀ {q l}, ℓ q = some l → l ≠ .left → q ≠ aL := fun {q l} hq hl z => by
    rw [z, t.e0.hL] at hq
    cases hq
    exact hl rfl
  have tk : TK H (upd H aL (.lst (left.eraseIdx k))) := TK.lst t.e0.eL
  have kk : Kpt (fun l => l = .left) H ℓ (upd H aL (.lst (left.eraseIdx k))) ℓ := Kpt.upd t.e0.eL (fun ys z => by cases z) t.e0.hL rfl
  refine ⟨⟨?_, t.e0.hdk, t.e0.hdg, ?_, t.e0.hS, upd_same, t.e0.hL, fun v hv => (t.e0.gS v hv).tk tk, fun v hv => (t.e0.gL v (List.mem_of_mem_eraseIdx hv)).tk tk⟩, t.G.kpt kk (fun l hl z => by cases z; exact hl), t.L.kpt kk (fun l hl z => by cases z; exact hl), t.len, t.ok, ?_⟩
  · exact t.e0.dk.but (fun q hq => upd_ne hq) (ne t.e0.hdk (by intro z; cases z)).symm (ne t.e0.hdg (by intro z; cases z)).symm
  · rw [upd_ne (ne t.e0.hS (by intro z; cases z))]
    exact t.e0.eS
  · have := List.length_eraseIdx_le left k
    have := t.le
    omega
theorem Tn.up (t : Tn C n i H ℓ h dg g B aL aS st lds left) {j : Nat} (hj : i ≤ j) : Tn C n j H ℓ h dg g B aL aS st lds left := ⟨t.e0, t.G, t.L, t.len, fun b hb => ⟨(t.ok b hb).1, Nat.le_trans (t.ok b hb).2 hj⟩, t.le⟩
theorem atG_isG {o : Nat} (l : Lab) (z : atG o l) : isG l := by
  rcases z with z | ⟨_, z⟩ <;> cases z <;> trivial
theorem atB_isB {o : Nat} (l : Lab) (z : atB o l) : isB l := by
  rcases z with z | ⟨_, z⟩ | ⟨_, z⟩ <;> cases z <;> trivial
theorem isG_B (l : Lab) (h1 : isG l) (h2 : isB l) : False := by
  cases l <;> first | exact h1.elim | exact h2.elim
theorem set_ok {o : Nat} {b : Bk} {i : Nat} (h : ∀ x ∈ st, BkOk x ∧ x.length ≤ i) (hb : BkOk b ∧ b.length ≤ i + 1) : ∀ x ∈ st.set o b, BkOk x ∧ x.length ≤ i + 1 := fun x hx => by
  rcases List.mem_or_eq_of_mem_set hx with z | z
  · exact ⟨(h x z).1, Nat.le_succ_of_le (h x z).2⟩
  · rw [z]; exact hb
end
theorem RAt.tk {H H' : Hp} (s : TK H H') {v : V} {r : Option Wd} (h : RAt H v r) : RAt H' v r := by
  cases r with
  | none => exact h
  | some ws => exact let ⟨t, h1, h2⟩ := h; ⟨t, h1, s _ _ h2⟩
theorem AnsAt.tk {H H' : Hp} (s : TK H H') {v : V} {r : Out} (h : AnsAt H v r) : AnsAt H' v r := by
  cases r with
  | told r => exact let ⟨t, x, h1, h2, h3⟩ := h; ⟨t, x, h1, s _ _ h2, h3.tk s⟩
  | twice => exact let ⟨t, h1, h2⟩ := h; ⟨t, h1, s _ _ h2⟩
  | mixed => exact let ⟨t, h1, h2⟩ := h; ⟨t, h1, s _ _ h2⟩
theorem out_few {b : Bk} (g : BkOk b) {n p l : Int} {ws us : Wd} {c : Int} (lo : LdOk n p l ws c) (h : outB b n p l ws = .told (some us)) : us.length ≤ 900 := by
  obtain ⟨m1, m10, pok⟩ := entB_ok g (n := n) lo.p0 lo.l0 lo.few
  unfold outB at h
  by_cases c1 : p ∈ keysP (entB b n p l).2
  · rw [if_pos c1] at h; cases h
  · rw [if_neg c1] at h
    by_cases c2 : p + l + 1 ≠ (entB b n p l).1
    · rw [if_pos c2] at h; cases h
    · rw [if_neg c2] at h
      injection h with h
      unfold finO at h
      split at h
      · cases h
      · cases h
        have q := gathW_len (pok.snoc c1 lo.p0 (by have := lo.l0; omega) lo.one.2) (entB b n p l).1.toNat
        omega
theorem ans_sameV {H : Hp} {u v : V} {r : Out} (few : ∀ us, r = .told (some us) → us.length ≤ 900) (h1 : AnsAt H u r) (h2 : AnsAt H v r) : SameV H 2 u v := by
  cases r with
  | told r =>
    obtain ⟨t, x, rfl, a1, a2⟩ := h1
    obtain ⟨t', y, rfl, b1, b2⟩ := h2
    refine .seq (k := false) a1 b1 rfl (by show 2 ≤ 900; decide) fun i u v hu hv => ?_
    match i, hu, hv with
    | 0, hu, hv => cases hu; cases hv; exact .plain (.str _)
    | 1, hu, hv =>
      cases hu
      cases hv
      cases r with
      | none =>
        cases (show x = .non from a2)
        cases (show y = .non from b2)
        exact .plain .non
      | some us =>
        obtain ⟨t1, rfl, c1⟩ := a2
        obtain ⟨t2, rfl, c2⟩ := b2
        exact ints_sameV c1 c2 (few us rfl)
  | twice =>
    obtain ⟨t, rfl, a1⟩ := h1
    obtain ⟨t', rfl, b1⟩ := h2
    refine .seq (k := false) a1 b1 rfl (by show 1 ≤ 900; decide) fun i u v hu hv => ?_
    match i, hu, hv with
    | 0, hu, hv => cases hu; cases hv; exact .plain (.str _)
  | mixed =>
    obtain ⟨t, rfl, a1⟩ := h1
    obtain ⟨t', rfl, b1⟩ := h2
    refine .seq (k := false) a1 b1 rfl (by show 1 ≤ 900; decide) fun i u v hu hv => ?_
    match i, hu, hv with
    | 0, hu, hv => cases hu; cases hv; exact .plain (.str _)
def wordD (x : Str) : PyData := .tuple [.str x]
theorem word_dp {K : PySem.W.Frag} {H : Hp} {p : Addr} {x : Str} (e : H p = some (.tup [.str x])) : Dp K H (.ref p) (wordD x) := .tup (SqT.of e) (.cons (.str _) .nil)
theorem bad_lay : (wordD "BadLoad").canLay0 = true := by kernel_rfl
theorem bad_sh : SeqAt.shaped (wordD "BadLoad") = true := by
  unfold SeqAt.shaped
  kernel_rfl
theorem nout_lay : (wordD "NoOutput").canLay0 = true := by kernel_rfl
theorem nout_sh : SeqAt.shaped (wordD "NoOutput") = true := by
  unfold SeqAt.shaped
  kernel_rfl
theorem pick_at {xs : List V} {n : Nat} {f : Int} (hn : xs.length = n) (f0 : 0 ≤ f) (f1 : f < (n : Int)) : ∃ v, v ∈ xs ∧ atI xs f = some v := by
  have hf : f.toNat < xs.length := by omega
  exact ⟨_, List.getElem_mem hf, at_of (by omega) (List.getElem?_eq_getElem hf)⟩
theorem But.tk {h : Addr} {H H' : Hp} (b : But h H H') {g : Addr} (dk : DeckAt H h g) : TK H H' := fun q ys e => by
  obtain ⟨_, hh⟩ := dk.lst
  rw [b q (ne_of e hh (by intro z; cases z))]
  exact e
theorem But.kp {h : Addr} {H H' : Hp} (b : But h H H') : Kp h H H' := fun q o hq e => by rw [b q hq]; exact e
theorem Kp.tk {h : Addr} {H H' : Hp} (b : Kp h H H') {g : Addr} (dk : DeckAt H h g) : TK H H' := fun q ys e => by
  obtain ⟨_, hh⟩ := dk.lst
  exact b _ _ (ne_of e hh (by intro z; cases z)) e

/-! ### the law's state begins -/
theorem Kpt.ownL {S : Lab → Prop} {H H1 : Hp} {ℓ ℓ1 : Ow} {f : Nat → Lab} (k : Kpt S H ℓ H1 ℓ1) : ∀ {i : Nat} {as : List Addr}, (∀ a ∈ as, H a = none) → Kpt S H ℓ H1 (KX.ownL f i as ℓ1)
  | _, [], _ => k
  | i, a :: as, h => Kpt.own_ (Kpt.ownL k fun b hb => h b (List.mem_cons_of_mem _ hb)) (h a List.mem_cons_self)
theorem mkL {H H' : Hp} {D : Addr} {bs : List Addr} (f : Fresh H H' D bs) (ℓ : Ow) : ∃ ℓ', LAt H' ℓ' D (List.replicate bs.length []) ∧ ∀ S, Kpt S H ℓ H' ℓ' := by
  have Dn : D ∉ bs := fun z => (f.all D z).2.1 rfl
  refine ⟨ownL .bd 0 bs (own ℓ D .bl), ⟨bs, f.lst, (ownL_ne Dn).trans own_same, by rw [List.length_replicate], fun o a b ha hb => ?_⟩, fun S => ?_⟩
  · rw [rep_at rfl hb]
    have ho := ownL_at (f := .bd) (ℓ := own ℓ D .bl) (i := 0) f.nd ha
    rw [Nat.zero_add] at ho
    exact ⟨ho, [], (f.all a (List.mem_of_getElem? ha)).2.2, .nil⟩
  · exact Kpt.ownL ((Kpt.same f.same).own_ f.nD) fun a ha => (f.all a ha).1
theorem mkG {C : Addr} {H H9 : Hp} {y dy R : Addr} {as : List Addr} (ny : H y = none) (ndy : H dy = none) (ne : dy ≠ y) (f : Fresh (upd (upd H dy (.own y)) y (.ins C dy [])) H9 R as) (ℓ : Ow) :
    ∃ ℓ', GAt C (upd H9 y (.ins C dy [("_begun", .ref R)])) ℓ' y (List.replicate as.length []) ∧ (∀ S, Kpt S H ℓ (upd H9 y (.ins C dy [("_begun", .ref R)])) ℓ') ∧ Same H (upd H9 y (.ins C dy [("_begun", .ref R)])) := by
  have e0 : (upd (upd H dy (.own y)) y (.ins C dy [])) y = some (.ins C dy []) := upd_same
  have yR : y ≠ R := fun z => by
    have := f.nD
    rw [← z, e0] at this
    cases this
  have yn : y ∉ as := fun z => by
    have := (f.all y z).1
    rw [e0] at this
    cases this
  have Rn : R ∉ as := fun z => (f.all R z).2.1 rfl
  have s0 : Same H (upd (upd H dy (.own y)) y (.ins C dy [])) := fun q o e => by
    rw [upd_ne (ne_of_none e ny), upd_ne (ne_of_none e ndy)]
    exact e
  have s1 : Same H (upd H9 y (.ins C dy [("_begun", .ref R)])) := fun q o e => by
    rw [upd_ne (ne_of_none e ny)]
    exact f.same _ _ (s0 _ _ e)
  have nn : ∀ {a}, (upd (upd H dy (.own y)) y (.ins C dy [])) a = none → H a = none := fun {a} h => s0.free h
  refine ⟨ownL .gd 0 as (own (own ℓ y .gi) R .gl), ⟨dy, R, as, upd_same, (ownL_ne yn).trans ((own_ne yR).trans own_same), by rw [upd_ne yR.symm]; exact f.lst, (ownL_ne Rn).trans own_same, by rw [List.length_replicate], fun o a b ha hb => ?_⟩, fun S => ?_, s1⟩
  · rw [rep_at rfl hb]
    have ho := ownL_at (f := .gd) (ℓ := own (own ℓ y .gi) R .gl) (i := 0) f.nd ha
    rw [Nat.zero_add] at ho
    refine ⟨ho, [], ?_, .nil⟩
    rw [upd_ne (fun z => yn (by rw [← z]; exact List.mem_of_getElem? ha))]
    exact (f.all a (List.mem_of_getElem? ha)).2.2
  · exact Kpt.ownL (((Kpt.same s1).own_ ny).own_ (nn f.nD)) fun a ha => nn (f.all a ha).1
theorem rep_ok {n : Nat} : ∀ b ∈ List.replicate n ([] : Bk), BkOk b ∧ b.length ≤ 0 := fun b hb => by
  rw [(List.mem_replicate.mp hb).2]
  exact ⟨⟨List.nodup_nil, fun _ h => absurd h List.not_mem_nil⟩, Nat.le_refl _⟩
/-- the loads made -/
structure Ld1 (H : Hp) (h dg aS U : Addr) (lds : List V) (us : List Int) : Prop where
  dk : DeckAt H h dg
  eS : H aS = some (.lst lds)
  eU : H U = some (.lst (us.map V.int))
  Uh : U ≠ h
  Ug : U ≠ dg
  US : U ≠ aS
  Sh : aS ≠ h
  Sg : aS ≠ dg
  g : ∀ v ∈ lds, GoodLd H v
theorem Ld1.kp {H H' : Hp} {h dg aS U : Addr} {lds : List V} {us : List Int} (e : Ld1 H h dg aS U lds us) (k : Kp h H H') (dk : DeckAt H' h dg) : Ld1 H' h dg aS U lds us :=
  ⟨dk, k _ _ e.Sh e.eS, k _ _ e.Uh e.eU, e.Uh, e.Ug, e.US, e.Sh, e.Sg, fun v hv => (e.g v hv).tk (k.tk e.dk)⟩
theorem Ld1.same {H H' : Hp} {h dg aS U : Addr} {lds : List V} {us : List Int} (e : Ld1 H h dg aS U lds us) (s : Same H H') : Ld1 H' h dg aS U lds us := e.kp (fun q o _ z => s q o z) (e.dk.same s)
/-- the first state -/
theorem mkTn {C : Addr} {n : Nat} {H H1 H2 H3 : Hp} {h dg g B aL aS U : Addr} {lds : List V} {us : List Int} {as bs : List Addr} (e : Ld1 H h dg aS U lds us)
    (mg : ∀ ℓ : Ow, ∃ ℓ', GAt C H1 ℓ' g (List.replicate as.length []) ∧ (∀ S, Kpt S H ℓ H1 ℓ') ∧ Same H H1) (la : as.length = n) (f : Fresh H1 H2 B bs) (lb : bs.length = n) (nL : H2 aL = none) (eH : H3 = upd H2 aL (.lst (lds ++ lds))) :
    ∃ ℓ, Tn C n 0 H3 ℓ h dg g B aL aS (List.replicate n []) lds (lds ++ lds) := by
  obtain ⟨ns, edg⟩ := e.dk.cells
  obtain ⟨ys, eh⟩ := e.dk.lst
  obtain ⟨ℓ1, G1, k1, s1⟩ := mg (own (own (own (fun _ => none) aS .loads) dg .cells) h .deck)
  obtain ⟨ℓ2, L2, k2⟩ := mkL f ℓ1
  rw [la] at G1
  rw [lb] at L2
  have l0 : (own (own (own (fun _ => none) aS .loads) dg .cells) h .deck) h = some .deck := own_same
  have l1 : (own (own (own (fun _ => none) aS .loads) dg .cells) h .deck) dg = some .cells := (own_ne e.dk.ne.symm).trans own_same
  have l2 : (own (own (own (fun _ => none) aS .loads) dg .cells) h .deck) aS = some .loads := (own_ne e.Sh).trans ((own_ne e.Sg).trans own_same)
  have s3 : Same H2 H3 := by rw [eH]; exact same_upd nL
  have k3 : ∀ S, Kpt S H2 ℓ2 H3 (own ℓ2 aL .left) := fun S => (Kpt.same s3).own_ nL
  have k := fun S => ((k1 S).trans (k2 S)).trans (k3 S)
  have sm := (s1.trans f.same).trans s3
  refine ⟨own ℓ2 aL .left, ⟨e.dk.same sm, (k isG).lab eh l0, (k isG).lab edg l1, sm _ _ e.eS, (k isG).lab e.eS l2, by rw [eH]; exact upd_same, own_same, fun v hv => (e.g v hv).tk (TK.same sm), fun v hv => ?_⟩, ?_, ?_, List.length_replicate, rep_ok, by rw [List.length_append]; omega⟩
  · rcases List.mem_append.mp hv with hv | hv <;> exact (e.g v hv).tk (TK.same sm)
  · exact (G1.kpt (k2 isB) (fun l a b => isG_B l a b)).kpt (k3 isB) (fun l a b => isG_B l a b)
  · exact L2.kpt (k3 isG) (fun l a b => isG_B l b a)

/-! ### the law -/
def spLaw (K : PySem.W.Frag) : Sp := fun vs H Q _ => ∃ (a : Addr) (ns : List Int), vs = [.ref a] ∧ SqL K H a (ns.map V.int) ∧ ns.length ≤ 63 ∧ ∀ H', Q (.bl true) H'
section
variable {P : Program} {w : World} {K : PySem.W.Frag} {mg : Str → Option Value} {base : Heap} {A : Adr}
theorem ok_law (T : Top K mg A) : FnOk P w K mg base CX0 12 A.a_law A.d_law P_law (spLaw K) := by
  refine T.F_law.ok sc_law (fun vs H Q E h => ?_) (fun cdv A' outer s H vs Q E hr h => ?_)
  · obtain ⟨a, ns, rfl, _⟩ := h
    rfl
  · obtain ⟨sa, ns, rfl, hS, hn, kq⟩ := h
    refine ⟨_, (pss_cons (ps_set (i := 1) sc_law.nd rfl (.inl rfl) (pe_call (ok_law_deck T) (hr.mono (by decide)) (by rfl) T.g_law_deck T.F_law_deck.kp T.b_law_deck .nil pass0 (pa_cons (pv 0) pa_nil)))
    (pss_cons (ps_set (i := 2) sc_law.nd rfl (.inl rfl) (pe_op op_add pe_int (pe_call (ok_law_draw T) (hr.mono (by decide)) (by rfl) T.g_law_draw T.F_law_draw.kp T.b_law_draw .nil pass0 (pa_cons (pv 1) (pa_cons (pe_ix ix_list (pe_lst (pa_cons pe_int (pa_cons pe_int pa_nil))) (pe_call (ok_law_draw T) (hr.mono (by decide)) (by rfl) T.g_law_draw T.F_law_draw.kp T.b_law_draw .nil pass0 (pa_cons (pv 1) (pa_cons pe_int pa_nil))) (fun _ _ => rfl)) pa_nil)))))
    (pss_cons (ps_set (i := 3) sc_law.nd rfl (.inl rfl) (pe_lst pa_nil))
    (pss_cons (ps_set (i := 4) sc_law.nd rfl (.inl rfl) (pe_lst pa_nil))
    (pss_cons (ps_for PassesOwn.never rfl (pi_range1 rfl T.z_range (pa_cons (pe_op op_add pe_int (pe_call (ok_law_draw T) (hr.mono (by decide)) (by rfl) T.g_law_draw T.F_law_draw.kp T.b_law_draw .nil pass0 (pa_cons (pv 1) (pa_cons pe_int pa_nil)))) pa_nil)) (pg_name (i := 5) sc_law.nd rfl (.inl rfl)) (pss_cons (ps_set (i := 6) sc_law.nd rfl (.inr rfl) (pe_ix ix_list (pe_lst (pa_cons (pv 5) (pa_cons (pe_op op_sub (pe_op op_pow pe_int pe_int) (pv 5)) (pa_cons (pe_call (ok_law_draw T) (hr.mono (by decide)) (by rfl) T.g_law_draw T.F_law_draw.kp T.b_law_draw .nil pass0 (pa_cons (pv 1) (pa_cons (pe_op op_pow pe_int pe_int) pa_nil))) pa_nil)))) (pe_call (ok_law_draw T) (hr.mono (by decide)) (by rfl) T.g_law_draw T.F_law_draw.kp T.b_law_draw .nil pass0 (pa_cons (pv 1) (pa_cons pe_int pa_nil))) (fun _ _ => rfl)))
    (pss_one (ps_if (pt_cmpR op_notIn_seq (pv 6) (pv 4) (by rfl)) (pss_cons (ps_expr (pe_bm PySem.F.plainAttrs_list PySem.F.slot_list_append PySem.F.type_list_append mt_append (pv 4) (pa_cons (pv 6) pa_nil)))
    (pss_cons (ps_set (i := 7) sc_law.nd rfl (.inr rfl) (pe_ix ix_tup (pe_call (ok_law_packet T) (hr.mono (by decide)) (by rfl) T.g_law_packet T.F_law_packet.kp T.b_law_packet .nil pass0 (pa_cons (pv 1) (pa_cons pe_int (pa_cons pe_int pa_nil)))) pe_int (fun _ _ => rfl)))
    (pss_one (ps_set (i := 3) sc_law.nd rfl (.inl rfl) (pe_op op_cat (pv 3) (pe_lc (own := [("_law_part", 17)]) (by rfl) sc_law.nd (pi_range1 rfl T.z_range (pa_cons (pe_op op_fdiv (pe_op op_add (pe_callB call_len_seq (by rfl) T.z_len (by decide +kernel) (pa_cons (pv 7) pa_nil)) pe_int) pe_int) pa_nil)) (blkOk_by (own := [("_law_part", 17)]) (N := N_law) (sc := defScope s_law) (by decide +kernel)) (fun _ _ _ _ _ => (pg_name (i := 17) sc_law.nd rfl (.inl rfl))) (fun _ _ _ _ _ => pts_nil) (fun _ _ _ _ _ => (pe_call (ok_law_load (P := P) (w := w) T) (hr.mono (by decide)) (by rfl) T.g_law_load T.F_law_load.kp T.b_law_load .nil pass0 (pa_cons (pv 6) (pa_cons (pv 7) (pa_cons (pv 17) pa_nil))))))))))) pss_nil))))
    (pss_cons (ps_set (i := 8) sc_law.nd rfl (.inl rfl) (pe_make T.mk_Gatherer (ok_Gatherer___init__ T) (hr.mono (by decide)) (by rfl) T.gc_Gatherer T.b_Gatherer___init__ .nil passL (pa_cons (pv 2) pa_nil)))
    (pss_cons (ps_setLc (i := 10) (own := [("_law_output", 9)]) (by rfl) sc_law.nd rfl rfl (sw_true rfl rfl rfl (by decide +kernel)) (pi_range1 rfl T.z_range (pa_cons (pv 2) pa_nil)) (blkOk_by (own := [("_law_output", 9)]) (N := N_law) (sc := defScope s_law) (by decide +kernel)) (fun _ _ _ _ _ => (pg_name (i := 9) sc_law.nd rfl (.inl rfl))) (fun _ _ _ _ _ => pts_nil) (fun _ _ _ _ _ => pe_dnewK))
    (Evl.pss_cut (ps_set (i := 11) sc_law.nd rfl (.inl rfl) (pe_op op_cat (pv 3) (pv 3)))
    (pss_cons (ps_for PassesOwn.never rfl (pi_range1 rfl T.z_range (pa_cons (pe_op op_add pe_int (pe_call (ok_law_draw T) (hr.mono (by decide)) (by rfl) T.g_law_draw T.F_law_draw.kp T.b_law_draw .nil pass0 (pa_cons (pv 1) (pa_cons pe_int pa_nil)))) pa_nil)) (pg_name (i := 12) sc_law.nd rfl (.inl rfl)) (pss_cons (ps_set (i := 13) sc_law.nd rfl (.inl rfl) (pe_call (ok_law_draw T) (hr.mono (by decide)) (by rfl) T.g_law_draw T.F_law_draw.kp T.b_law_draw .nil pass0 (pa_cons (pv 1) (pa_cons pe_int pa_nil))))
    (pss_cons (ps_set (i := 9) sc_law.nd rfl (.inl rfl) (pe_call (ok_law_draw T) (hr.mono (by decide)) (by rfl) T.g_law_draw T.F_law_draw.kp T.b_law_draw .nil pass0 (pa_cons (pv 1) (pa_cons (pv 2) pa_nil))))
    (Evl.pss_cut (ps_if (PW.pt (pw_and (pt_cmpR op_lt (pv 13) pe_int (nomark _)) (pw_and1 (pt_cmpR op_gt (pe_callB call_len_seq (by rfl) T.z_len (by decide +kernel) (pa_cons (pv 11) pa_nil)) pe_int (nomark _))))) (pss_cons (ps_set (i := 14) sc_law.nd rfl (.inl rfl) (pe_bm PySem.F.plainAttrs_list PySem.F.slot_list_pop PySem.F.type_list_pop mt_popAt (pv 11) (pa_cons (pe_call (ok_law_draw T) (hr.mono (by decide)) (by rfl) T.g_law_draw T.F_law_draw.kp T.b_law_draw .nil pass0 (pa_cons (pv 1) (pa_cons (pe_callB call_len_seq (by rfl) T.z_len (by decide +kernel) (pa_cons (pv 11) pa_nil)) pa_nil))) pa_nil)))
    (pss_cons (ps_set (i := 9) sc_law.nd rfl (.inl rfl) (pe_op op_fdiv (pe_callB call_len_seq (by rfl) T.z_len (by decide +kernel) (pa_cons (pv 11) pa_nil)) (pe_callB call_len_seq (by rfl) T.z_len (by decide +kernel) (pa_cons (pv 3) pa_nil))))
    (pss_one (ps_set (i := 9) sc_law.nd rfl (.inl rfl) (pe_op op_mod (pe_callTy call_int1 (by rfl) T.z_int (by decide +kernel) (pa_cons (pv 9) pa_nil)) (pv 2)))))) (pss_one (ps_set (i := 14) sc_law.nd rfl (.inl rfl) (pe_ix ix_list (pv 3) (pe_call (ok_law_draw T) (hr.mono (by decide)) (by rfl) T.g_law_draw T.F_law_draw.kp T.b_law_draw .nil pass0 (pa_cons (pv 1) (pa_cons (pe_callB call_len_seq (by rfl) T.z_len (by decide +kernel) (pa_cons (pv 3) pa_nil)) pa_nil))) (fun _ _ => rfl)))))
    (Evl.pss_cut (ps_if (pt_cmpR op_eq (pv 13) pe_int (nomark _)) (pss_one (ps_set (i := 14) sc_law.nd rfl (.inl rfl) (pe_call (ok_law_other T) (hr.mono (by decide)) (by rfl) T.g_law_other T.F_law_other.kp T.b_law_other .nil pass0 (pa_cons (pv 1) (pa_cons (pv 3) (pa_cons (pv 14) pa_nil)))))) pss_nil)
    (Evl.pss_cut (ps_if (pt_cmpR op_eq (pv 13) pe_int (nomark _)) (pss_one (ps_if (pt_cmpR (op_neD hr.units) (pe_call (ok_law_told T) (hr.mono (by decide)) (by rfl) T.g_law_told T.F_law_told.kp T.b_law_told .nil pass0 (pa_cons (pv 8) (pa_cons (pv 9) (pa_cons (pe_call (ok_law_odd T) (hr.mono (by decide)) (by rfl) T.g_law_odd T.F_law_odd.kp T.b_law_odd .nil pass0 (pa_cons (pv 1) (pa_cons (pv 14) pa_nil))) pa_nil)))) (pe_tup (pa_cons pe_str pa_nil)) (nomark _)) (pss_one (ps_ret pe_bl)) pss_nil)) (pss_one (ps_if (pt_cmpR op_eq (pv 13) pe_int (nomark _)) (Evl.pss_cut (ps_set (i := 15) sc_law.nd rfl (.inl rfl) (pe_ix ix_list (pe_lst (pa_cons (pv 2) (pa_cons (pe_un un_neg pe_int) (pa_cons pe_bl (pa_cons pe_non (pa_cons pe_str (pa_cons (pe_op op_pow pe_int pe_int) (pa_cons (pe_tup (pa_cons pe_int pa_nil)) pa_nil)))))))) (pe_call (ok_law_draw T) (hr.mono (by decide)) (by rfl) T.g_law_draw T.F_law_draw.kp T.b_law_draw .nil pass0 (pa_cons (pv 1) (pa_cons pe_int pa_nil))) (fun _ _ => rfl)))
    (pss_cons (ps_if (pt_cmpR (op_neD hr.units) (pe_call (ok_law_told T) (hr.mono (by decide)) (by rfl) T.g_law_told T.F_law_told.kp T.b_law_told .nil pass0 (pa_cons (pv 8) (pa_cons (pv 15) (pa_cons (pe_ix ix_list (pe_lst (pa_cons (pv 14) (pa_cons pe_non pa_nil))) (pe_op op_mod (pv 12) pe_int) (fun _ _ => rfl)) pa_nil)))) (pe_tup (pa_cons pe_str pa_nil)) (nomark _)) (pss_one (ps_ret pe_bl)) pss_nil)
    (pss_one (ps_if (pt_not (pt_val (pe_call (ok_law_is_no_output T) (hr.mono (by decide)) (by rfl) T.g_law_is_no_output T.F_law_is_no_output.kp T.b_law_is_no_output .nil pass0 (pa_cons (pv 8) (pa_cons (pv 15) pa_nil))))) (pss_one (ps_ret pe_bl)) pss_nil)))) (pss_one (ps_if (pt_not (pt_val (pe_call (ok_law_same T) (hr.mono (by decide)) (by rfl) T.g_law_same T.F_law_same.kp T.b_law_same .nil pass0 (pa_cons (pe_call (ok_law_told T) (hr.mono (by decide)) (by rfl) T.g_law_told T.F_law_told.kp T.b_law_told .nil pass0 (pa_cons (pv 8) (pa_cons (pv 9) (pa_cons (pv 14) pa_nil)))) (pa_cons (pe_call (ok_law_due T) (hr.mono (by decide)) (by rfl) T.g_law_due T.F_law_due.kp T.b_law_due .nil pass0 (pa_cons (pv 10) (pa_cons (pv 9) (pa_cons (pv 14) pa_nil)))) pa_nil))))) (pss_one (ps_ret pe_bl)) pss_nil)))))
    (pss_one (ps_if (PW.pt (pw_and (pt_cmpR op_gt (pv 13) pe_int (nomark _)) (pw_and1 (pt_not (pt_val (pe_call (ok_law_is_lacking T) (hr.mono (by decide)) (by rfl) T.g_law_is_lacking T.F_law_is_lacking.kp T.b_law_is_lacking .nil pass0 (pa_cons (pv 8) (pa_cons (pv 10) (pa_cons (pv 2) pa_nil))))))))) (pss_one (ps_ret pe_bl)) pss_nil))))))))
    (pss_cons (ps_if (PW.pt (pw_or (pt_not (pt_val (pe_call (ok_law_is_lacking T) (hr.mono (by decide)) (by rfl) T.g_law_is_lacking T.F_law_is_lacking.kp T.b_law_is_lacking .nil pass0 (pa_cons (pv 8) (pa_cons (pv 10) (pa_cons (pv 2) pa_nil)))))) (pw_or1 (pt_not (pt_val (pe_call (ok_law_is_lacking T) (hr.mono (by decide)) (by rfl) T.g_law_is_lacking T.F_law_is_lacking.kp T.b_law_is_lacking .nil pass0 (pa_cons (pv 8) (pa_cons (pv 10) (pa_cons (pv 2) pa_nil))))))))) (pss_one (ps_ret pe_bl)) pss_nil)
    (pss_one (ps_ret (pe_callB (cr_all rfl) (by rfl) T.z_all (by decide +kernel) (pa_cons (pe_lc (own := [("_law_thing", 16)]) (by rfl) sc_law.nd (pi_list (pe_lst (pa_cons pe_int (pa_cons pe_int (pa_cons pe_bl (pa_cons pe_non (pa_cons pe_str (pa_cons (pe_un un_neg pe_int) pa_nil)))))))) (blkOk_by (own := [("_law_thing", 16)]) (N := N_law) (sc := defScope s_law) (by decide +kernel)) (fun _ _ _ _ _ => (pg_name (i := 16) sc_law.nd rfl (.inl rfl))) (fun _ _ _ _ _ => pts_nil) (fun _ _ _ _ _ => (pe_call (ok_law_is_refused (P := P) (w := w) T) (hr.mono (by decide)) (by rfl) T.g_law_is_refused T.F_law_is_refused.kp T.b_law_is_refused .nil pass0 (pa_cons (pv 16) pa_nil)))) pa_nil)))))))))))))), ?_⟩
    refine ⟨_, rfl, sa, ns, rfl, hS, fun H1 h dg s1 _ _ a1 => ?_⟩
    refine ⟨_, rfl, by show 2 ≤ sizeLine; decide, fun l0 nl0 => ?_⟩
    obtain ⟨H2, x2, s2, e2⟩ := newH nl0 (o := .lst [.int 3, .int 12])
    rw [x2]
    clear x2
    have a2 := a1.same s2
    have l0h := ne_deck a1 (fun _ _ e => e) nl0
    refine ⟨_, rfl, h, dg, 2, rfl, a2, by decide, by decide, fun H3 d b3 a3 d0 d1 => ?_⟩
    have e3 : H3 l0 = some (.lst [.int 3, .int 12]) := by rw [b3 l0 l0h]; exact e2
    obtain ⟨v, hv, hat⟩ := pick_at (n := 2) (xs := [V.int 3, V.int 12]) rfl d0 d1
    obtain ⟨m, rfl, m0, m1⟩ : ∃ m, v = .int m ∧ 1 ≤ m ∧ m ≤ 12 := by
      rcases List.mem_cons.mp hv with z | hv
      · exact ⟨3, z, by decide, by decide⟩
      · rw [List.mem_singleton] at hv
        exact ⟨12, hv, by decide, by decide⟩
    refine ⟨l0, _, d, _, rfl, rfl, SqL.of e3, hat, h, dg, m, rfl, a3, by omega, by omega, fun H4 d4 b4 a4 d40 d41 => ⟨1, d4, rfl, rfl, ?_⟩⟩
    obtain ⟨n, hn2⟩ : ∃ n : Nat, 1 + d4 = (n : Int) := ⟨(1 + d4).toNat, by omega⟩
    show gName 2 (V.int (1 + d4)) _ _ _
    rw [hn2]
    have n1 : 1 ≤ n := by omega
    have n12 : n ≤ 12 := by omega
    clear hn2 d40 d41 hat hv e3 b3 b4 e2 a2 a3
    refine ⟨by show 0 ≤ sizeLine; decide, fun S0 nS0 => ?_⟩
    obtain ⟨H5, x5, s5, e5⟩ := newH nS0 (o := .lst [])
    rw [x5]
    clear x5
    refine ⟨by show 0 ≤ sizeLine; decide, fun U nU => ?_⟩
    obtain ⟨H6, x6, s6, e6⟩ := newH nU (o := .lst [])
    rw [x6]
    clear x6
    have Sh := ne_deck a4 (fun _ _ e => e) nS0
    have Uh := ne_deck a4 s5 nU
    have ng : ∀ {H' q}, Same H4 H' → H' q = none → q ≠ dg := fun {H' q} s n z => by
      obtain ⟨_, e⟩ := a4.cells
      have e := s _ _ e
      rw [← z, n] at e
      cases e
    have L0 : Ld1 H6 h dg S0 U [] [] := ⟨a4.same (s5.trans s6), s6 _ _ e5, e6, Uh, ng s5 nU, (fun z => by rw [z, e5] at nU; cases nU), Sh, ng (fun _ _ e => e) nS0, fun v hv => absurd hv List.not_mem_nil⟩
    clear Uh Sh ng s5 s6 e5 e6 nU nS0
    refine ⟨_, rfl, h, dg, 7, rfl, L0.dk, by decide, by decide, fun H7 d7 b7 a7 d70 d71 => ⟨1, d7, rfl, rfl, 1 + d7, rfl, by omega, by omega, ?_⟩⟩
    refine for_range (lo := 0) (n := (1 + d7).toNat) (fun i σ H' => ∃ (aS : Addr) (lds : List V) (us : List Int) (y5 y6 y7 : Option V), σ = [some (.ref sa), some (.ref h), some (.int (n : Int)), some (.ref aS), some (.ref U), y5, y6, y7, none, none, none, none, none, none, none, none, none, none] ∧ Ld1 H' h dg aS U lds us ∧ us.length ≤ i ∧ lds.length ≤ 10 * i ∧ (1 ≤ i → lds ≠ []) ∧ (us = [] ∨ lds ≠ [])) ⟨S0, [], [], _, _, _, rfl, L0.kp b7.kp a7, Nat.le_refl _, Nat.le_refl _, fun h => absurd h (by decide), .inl rfl⟩ ?_ ?_
    · rintro i σ H8 hi ⟨aS, lds, us, y5, y6, y7, rfl, E8, ul, ll, _, al⟩
      refine ⟨_, rfl, 10, 9, rfl, rfl, ⟨by decide, by decide, by decide⟩, _, rfl, _, _, rfl, rfl, _, rfl, 10, 9, rfl, rfl, ⟨by decide, by decide, by decide⟩, h, dg, 1000000000, rfl, E8.dk, by decide, by decide, fun H9 d9 b9 a9 d90 d91 => ?_⟩
      have F8 := E8.kp b9.kp a9
      refine ⟨by show 3 ≤ sizeLine; decide, fun l1 nl1 => ?_⟩
      show tCall spDraw [] E0 (tCons (tVar 1) (tCons (tC (V.int 3)) tNil)) _ (upd H9 l1 (HO.lst [V.int (0 + (i : Int)), V.int (1000000000 - (0 + (i : Int))), V.int d9])) _
      obtain ⟨HA, xA, sA, eA⟩ := newH nl1 (o := .lst [.int (0 + (i : Int)), .int (1000000000 - (0 + (i : Int))), .int d9])
      rw [xA]
      clear xA
      have eA : HA l1 = some (.lst [.int (0 + (i : Int)), .int (1000000000 - (0 + (i : Int))), .int d9]) := eA
      have l1h := ne_deck F8.dk (fun _ _ e => e) nl1
      have FA := F8.same sA
      refine ⟨_, rfl, h, dg, 3, rfl, FA.dk, by decide, by decide, fun HB dB bB aB dB0 dB1 => ?_⟩
      have eB : HB l1 = some (.lst [.int (0 + (i : Int)), .int (1000000000 - (0 + (i : Int))), .int d9]) := by rw [bB l1 l1h]; exact eA
      have FB := FA.kp bB.kp aB
      obtain ⟨v, hv, hat⟩ := pick_at (n := 3) (xs := [V.int (0 + (i : Int)), V.int (1000000000 - (0 + (i : Int))), V.int d9]) rfl dB0 dB1
      obtain ⟨nn, rfl, nn0, nn1⟩ : ∃ m, v = .int m ∧ 0 ≤ m ∧ m ≤ 1000000000 := by
        rcases List.mem_cons.mp hv with z | hv
        · exact ⟨_, z, by omega, by omega⟩
        · rcases List.mem_cons.mp hv with z | hv
          · exact ⟨_, z, by omega, by omega⟩
          · rw [List.mem_singleton] at hv
            exact ⟨_, hv, by omega, by omega⟩
      refine ⟨l1, _, dB, _, rfl, rfl, SqL.of eB, hat, ?_⟩
      clear hat hv eB bB aB FA b9 a9 F8 sA eA nl1 l1h E8
      refine ⟨_, rfl, _, rfl, U, _, rfl, .inl (SqL.of FB.eU), rfl, ?_, _, rfl, ?_⟩
      · rw [List.all_map]
        exact List.all_eq_true.mpr fun _ _ => rfl
      show if (!inV (.int nn) (us.map V.int)) = true then _ else _
      rw [inV_int]
      by_cases c : nn ∈ us
      · rw [decide_eq_true c]
        have hl : lds ≠ [] := by
          rcases al with z | z
          · rw [z] at c; exact absurd c List.not_mem_nil
          · exact z
        exact iteF ⟨aS, lds, us, _, _, _, rfl, FB, by omega, by omega, fun _ => hl, .inr hl⟩
      rw [decide_eq_false c]
      refine iteT ⟨_, rfl, .inl ⟨rfl, _, SqL.of FB.eU⟩, _, rfl, U, _, _, rfl, rfl, FB.eU, small1000 (by rw [List.length_map]; omega), ?_⟩
      have FC : Ld1 (upd HB U (.lst (us.map V.int ++ [.int nn]))) h dg aS U lds (us ++ [nn]) :=
        ⟨FB.dk.but (fun q hq => upd_ne hq) FB.Uh FB.Ug, by rw [upd_ne FB.US.symm]; exact FB.eS, by rw [upd_same, List.map_append]; rfl, FB.Uh, FB.Ug, FB.US, FB.Sh, FB.Sg, fun v hv => (FB.g v hv).tk (TK.lst FB.eU)⟩
      generalize upd HB U (.lst (us.map V.int ++ [.int nn])) = HC at FC ⊢
      refine ⟨_, rfl, h, dg, rfl, FC.dk, fun HD pp sk kk q1 q2 os ws kpD aD pa pok => ?_⟩
      have FD := FC.kp kpD aD
      refine ⟨pp, _, 3, _, rfl, rfl, SqT.of pa.at_, atI_nat (j := 3) rfl, ?_⟩
      have w1 := pok.one
      have w40 := pok.few
      refine ⟨_, rfl, _, rfl, q2, _, rfl, .inr (SqT.of pa.words), _, _, rfl, rfl, _, _, rfl, rfl, ⟨by decide, by decide⟩, ?_⟩
      rw [List.length_map]
      refine ⟨((ws.length : Int) + 3) / 4, rfl, by omega, by omega, fun DD nDD => ?_⟩
      refine lc_range (lo := 0) (n := (((ws.length : Int) + 3) / 4).toNat) (fun j H' => Same HD H' ∧ ∃ vs, H' DD = some (.lst vs) ∧ vs.length = j ∧ ∀ v ∈ vs, GoodLd H' v) ⟨same_upd nDD, [], upd_same, rfl, fun v hv => absurd hv List.not_mem_nil⟩ ?_ ?_
      · rintro j HE hj ⟨sE, vs, eE, lE, gE⟩
        refine ⟨rfl, ?_⟩
        refine ⟨_, rfl, _, rfl, _, rfl, nn, q2, ws, j, by rw [Int.zero_add]; rfl, sE _ _ pa.words, by omega, fun HF r q6 sF la => ?_⟩
        have sDF := sE.trans sF
        have eF := sF _ _ eE
        refine ⟨_, eF, small1000 (by omega), same_to sDF nDD, _, upd_same, by rw [List.length_append, lE]; rfl, fun v hv => ?_⟩
        have tk : TK HF (upd HF DD (.lst (vs ++ [.ref r]))) := TK.lst eF
        rcases List.mem_append.mp hv with hv | hv
        · exact ((gE v hv).tk (TK.same sF)).tk tk
        · rw [List.mem_singleton] at hv
          subst hv
          exact GoodLd.tk tk ⟨r, q6, nn, _, _, _, _, rfl, la, ld_cut ⟨nn0, nn1⟩ w40 (by omega) pok.lt⟩
      · rintro HE ⟨sE, vs, eE, lE, gE⟩
        have FE := FD.same sE
        refine ⟨aS, DD, lds, vs, rfl, rfl, FE.eS, eE, Nat.le_trans (show lds.length + vs.length ≤ 1000 by omega) (by decide), fun S1 nS1 => ?_⟩
        have s9 := same_upd nS1 (o := .lst (lds ++ vs))
        have FG := FE.same s9
        have tk := TK.same s9
        have ng : S1 ≠ dg := fun z => by
          obtain ⟨_, e⟩ := FE.dk.cells
          rw [← z, nS1] at e
          cases e
        have nU : U ≠ S1 := fun z => by
          have e := FE.eU
          rw [z, nS1] at e
          cases e
        have vne : lds ++ vs ≠ [] := fun z => by
          have := congrArg List.length z
          rw [List.length_append, lE] at this
          have : (((ws.length : Int) + 3) / 4).toNat = 0 := by
            have h0 : ([] : List V).length = 0 := rfl
            omega
          omega
        refine ⟨S1, lds ++ vs, us ++ [nn], _, _, _, rfl, ⟨FG.dk, upd_same, FG.eU, FG.Uh, FG.Ug, nU, ne_deck FE.dk (fun _ _ e => e) nS1, ng, fun v hv => ?_⟩, by rw [List.length_append]; exact Nat.succ_le_succ ul, by rw [List.length_append]; omega, fun _ => vne, .inr vne⟩
        rcases List.mem_append.mp hv with hv | hv
        · exact FG.g v hv
        · exact (gE v hv).tk tk
    · rintro σ H8 ⟨aS, lds, us, y5, y6, y7, rfl, E8, ul, ll, ne, _⟩
      have ne := ne (by omega)
      have ll80 : lds.length ≤ 80 := by omega
      clear ul ll L0 b7 a7 d70 d71 a4 a1
      refine ⟨_, rfl, fun y dy ny ndy ney => ⟨y, dy, h, _, .int (n : Int), rfl, .int _, upd_same, fun c => ?_, fun n' en' h1 h2 H9 HA R as f lA eHA => ⟨rfl, ?_⟩⟩⟩
      · have c : (decide ((1 : Int) ≤ (n : Int)) && decide ((n : Int) ≤ 12)) = false := c
        rw [decide_eq_true (show (1 : Int) ≤ (n : Int) by omega), decide_eq_true (show (n : Int) ≤ 12 by omega)] at c
        cases c
      have en' : n' = n := by
        injection en' with en'
        omega
      subst en'
      have mg := mkG ny ndy ney f
      rw [← eHA] at mg
      clear eHA f
      refine ⟨_, rfl, (n' : Int), rfl, by omega, by omega, fun D nD => ?_⟩
      refine lc_range (lo := 0) (n := (n' : Int).toNat) (fun i H' => ∃ bs, Fresh HA H' D bs ∧ bs.length = i) ⟨[], Fresh.start nD, rfl⟩ ?_ ?_
      · rintro i H' hi ⟨bs, f, e⟩
        refine ⟨rfl, fun p np => ?_⟩
        rw [Int.toNat_natCast] at hi
        obtain ⟨acc, h1, h2, h3⟩ := f.next (by omega) np
        exact ⟨acc, h1, h2, _, h3, by rw [List.length_append, e]; rfl⟩
      rintro HB ⟨bs, f, lB⟩
      rw [Int.toNat_natCast] at lB
      obtain ⟨_, _, _, sHA⟩ := mg (fun _ => none)
      have eSB := f.same _ _ (sHA _ _ E8.eS)
      refine ⟨fun σ' H' => ∃ aL ℓ, σ' = [some (.ref sa), some (.ref h), some (.int (n' : Int)), some (.ref aS), some (.ref U), y5, y6, y7, some (.ref y), none, some (.ref D), some (.ref aL), none, none, none, none, none, none] ∧ Tn A.c_Gatherer n' 0 H' ℓ h dg y D aL aS (List.replicate n' []) lds (lds ++ lds), ?_, ?_⟩
      · refine ⟨_, rfl, _, rfl, aS, aS, lds, lds, rfl, rfl, eSB, eSB, Nat.le_trans (show lds.length + lds.length ≤ 1000 by omega) (by decide), fun aL nL => ?_⟩
        obtain ⟨ℓ, tn⟩ := mkTn (C := A.c_Gatherer) (n := n') E8 mg lA f lB nL rfl
        exact ⟨aL, ℓ, rfl, tn⟩
      clear eSB sHA lB f nD mg lA ndy ny ney E8
      rintro σ' HC ⟨aL, ℓ, rfl, T0⟩
      refine ⟨_, rfl, h, dg, 56, rfl, T0.e0.dk, by decide, by decide, fun HD dD bD aD dD0 dD1 => ⟨8, dD, rfl, rfl, 8 + dD, rfl, by omega, by omega, ?_⟩⟩
      have T1 := T0.deck bD.kp aD
      refine for_range (lo := 0) (n := (8 + dD).toNat) (fun i σ H' => ∃ (ℓ : Ow) (st : List Bk) (left : List V) (y9 y12 y13 y14 y15 : Option V), σ = [some (.ref sa), some (.ref h), some (.int (n' : Int)), some (.ref aS), some (.ref U), y5, y6, y7, some (.ref y), y9, some (.ref D), some (.ref aL), y12, y13, y14, y15, none, none] ∧ Tn A.c_Gatherer n' i H' ℓ h dg y D aL aS st lds left) ⟨ℓ, _, _, _, _, _, _, _, rfl, T1⟩ ?_ ?_
      · clear T1 T0 bD aD ℓ
        rintro i σ HE hi ⟨ℓ, st, left, y9, y12, y13, y14, y15, rfl, t0⟩
        have i63 : i < 63 := by omega
        refine ⟨_, rfl, h, dg, 16, rfl, t0.e0.dk, by decide, by decide, fun H1 kd b1 a1 kd0 kd1 => ?_⟩
        refine ⟨_, rfl, _, rfl, h, dg, (n' : Int), rfl, a1, by omega, by omega, fun H2 o b2 a2 o0 o1 => ?_⟩
        have t2 := (t0.deck b1.kp a1).deck b2.kp a2
        clear t0 b1 a1 b2 a2
        have len := t2.len
        refine ⟨fun σ' H' => ∃ (left' : List V) (o' : Int) (v14 : V), σ' = [some (.ref sa), some (.ref h), some (.int (n' : Int)), some (.ref aS), some (.ref U), y5, y6, y7, some (.ref y), some (.int o'), some (.ref D), some (.ref aL), some (.int (0 + (i : Int))), some (.int kd), some v14, y15, none, none] ∧ Tn A.c_Gatherer n' i H' ℓ h dg y D aL aS st lds left' ∧ GoodLd H' v14 ∧ 0 ≤ o' ∧ o' < (n' : Int), ?_, ?_⟩
        · have lpos : 0 < lds.length := List.length_pos_iff.mpr ne
          refine ⟨_, rfl, _, _, rfl, rfl, _, rfl, ite2 (fun c1 => ?_) (fun _ => iteF ?_)⟩
          · refine ⟨_, rfl, aL, _, rfl, .inl (SqL.of t2.e0.eL), _, _, rfl, rfl, _, rfl, ite2 (fun c2 => ?_) (fun _ => ?_)⟩
            · have c2 : (0 : Int) < (left.length : Int) := of_decide_eq_true c2
              have le := t2.le
              refine ⟨_, rfl, .inl ⟨rfl, _, SqL.of t2.e0.eL⟩, _, rfl, _, rfl, aL, _, rfl, .inl (SqL.of t2.e0.eL), h, dg, (left.length : Int), rfl, t2.e0.dk, c2, by omega, fun H3 d3 b3 a3 d30 d31 => ?_⟩
              have t3 := t2.deck b3.kp a3
              have hk : d3.toNat < left.length := by omega
              have ek : left[d3.toNat]? = some left[d3.toNat] := List.getElem?_eq_getElem hk
              refine ⟨aL, left, d3, d3.toNat, left[d3.toNat], rfl, rfl, t3.e0.eL, by omega, by omega, ?_, ek, ?_⟩
              · have z := Evl.ixN_nat (n := left.length) (j := d3.toNat) hk
                rw [Int.toNat_of_nonneg d30] at z
                exact (ixN_seq z).1
              have gv := t3.e0.gL _ (List.getElem_mem hk)
              have t4 := t3.pop d3.toNat
              have gv4 := gv.tk (TK.lst t3.e0.eL (o := .lst (left.eraseIdx d3.toNat)))
              generalize upd H3 aL (.lst (left.eraseIdx d3.toNat)) = H4 at t4 gv4 ⊢
              refine ⟨_, rfl, aL, _, rfl, .inl (SqL.of t4.e0.eL), _, rfl, aS, _, rfl, .inl (SqL.of t4.e0.eS), _, _, rfl, rfl, ⟨by omega, by omega⟩, ?_⟩
              refine ⟨_, rfl, .inl ⟨_, rfl, _, rfl, _, _, rfl, rfl, by omega, ?_⟩⟩
              exact ⟨_, _, _, rfl, t4, gv4, Int.emod_nonneg _ (by omega), Int.emod_lt_of_pos _ (by omega)⟩
            · refine ⟨_, rfl, _, rfl, _, rfl, aS, _, rfl, .inl (SqL.of t2.e0.eS), h, dg, (lds.length : Int), rfl, t2.e0.dk, by omega, by omega, fun H3 d3 b3 a3 d30 d31 => ?_⟩
              have t3 := t2.deck b3.kp a3
              obtain ⟨v, hv, hat⟩ := pick_at (n := lds.length) (xs := lds) rfl d30 d31
              exact ⟨aS, _, d3, _, rfl, rfl, SqL.of t3.e0.eS, hat, _, _, _, rfl, t3, t3.e0.gS v hv, o0, o1⟩
          · refine ⟨_, rfl, _, rfl, _, rfl, aS, _, rfl, .inl (SqL.of t2.e0.eS), h, dg, (lds.length : Int), rfl, t2.e0.dk, by omega, by omega, fun H3 d3 b3 a3 d30 d31 => ?_⟩
            have t3 := t2.deck b3.kp a3
            obtain ⟨v, hv, hat⟩ := pick_at (n := lds.length) (xs := lds) rfl d30 d31
            exact ⟨aS, _, d3, _, rfl, rfl, SqL.of t3.e0.eS, hat, _, _, _, rfl, t3, t3.e0.gS v hv, o0, o1⟩
        clear t2
        rintro σ' H2 ⟨left', o', v14, rfl, t2, gv, o'0, o'1⟩
        refine ⟨fun σ' H' => ∃ (v14 : V), σ' = [some (.ref sa), some (.ref h), some (.int (n' : Int)), some (.ref aS), some (.ref U), y5, y6, y7, some (.ref y), some (.int o'), some (.ref D), some (.ref aL), some (.int (0 + (i : Int))), some (.int kd), some v14, y15, none, none] ∧ Tn A.c_Gatherer n' i H' ℓ h dg y D aL aS st lds left' ∧ GoodLd H' v14, ?_, ?_⟩
        · refine ⟨_, rfl, rfl, _, rfl, ite2 (fun c1 => ?_) (fun _ => ?_)⟩
          · obtain ⟨ad, q, nn, p, l, ws, c, rfl, ld, lo⟩ := gv
            refine ⟨_, rfl, _, rfl, _, rfl, h, dg, aS, ad, q, nn, p, l, ws, c, rfl, t2.e0.dk, ld, lo, fun H3 ad' q' p' l' ws' c' k3 a3 ld' lo' => ?_⟩
            exact ⟨_, rfl, t2.deck k3 a3, ad', q', nn, p', l', ws', c', rfl, ld', lo'⟩
          · exact ⟨_, rfl, t2, gv⟩
        clear t2 gv v14
        rintro σ' H2 ⟨v14, rfl, t2, gv⟩
        obtain ⟨ad, q, nn, p, l, ws, c, rfl, ld, lo⟩ := gv
        obtain ⟨on, rfl⟩ := Int.eq_ofNat_of_zero_le o'0
        have ok1 : ∀ b ∈ st, BkOk b ∧ b.length ≤ 1000 := fun b hb => ⟨(t2.ok b hb).1, by have := (t2.ok b hb).2; omega⟩
        have inn : inI 0 ((st.length : Int) - 1) (.int (on : Int)) = true := by
          show (decide ((0 : Int) ≤ (on : Int)) && decide ((on : Int) ≤ (st.length : Int) - 1)) = true
          rw [decide_eq_true (show (0 : Int) ≤ (on : Int) by omega), decide_eq_true (show (on : Int) ≤ (st.length : Int) - 1 by omega)]
          rfl
        refine ⟨fun σ' H' => ∃ (ℓ' : Ow) (st' : List Bk) (y9 y14 y15 : Option V), σ' = [some (.ref sa), some (.ref h), some (.int (n' : Int)), some (.ref aS), some (.ref U), y5, y6, y7, some (.ref y), y9, some (.ref D), some (.ref aL), some (.int (0 + (i : Int))), some (.int kd), y14, y15, none, none] ∧ Tn A.c_Gatherer n' (i + 1) H' ℓ' h dg y D aL aS st' lds left', ?_, ?_⟩
        · refine ⟨_, rfl, rfl, _, rfl, ite2 (fun _ => ?_) (fun _ => ?_)⟩
          · refine ⟨_, rfl, _, rfl, _, rfl, _, rfl, h, dg, ad, q, nn, p, l, ws, c, rfl, t2.e0.dk, ld, lo, fun H3 v d k3 a3 iv bad => ?_⟩
            have t3 := t2.deck k3 a3
            refine ⟨y, h, ℓ, st, _, v, _, d, rfl, t3.G, ok1, .int _, iv, .inr (.inl ⟨inn, bad, fun H4 p4 s4 e4 => ?_⟩)⟩
            refine ⟨by show 1 ≤ sizeLine; decide, fun u nu => ?_⟩
            have s5 := same_upd nu (o := .tup [.str "BadLoad"])
            refine ⟨wordD "BadLoad", wordD "BadLoad", word_dp (s5 _ _ e4), word_dp upd_same, bad_sh, bad_sh, ?_⟩
            rw [SeqAt.eqv_refl _ bad_lay]
            exact ⟨false, rfl, iteF ⟨ℓ, st, _, _, _, rfl, (t3.same (s4.trans s5)).up (Nat.le_succ i)⟩⟩
          · refine ⟨_, rfl, rfl, _, rfl, ite2 (fun _ => ?_) (fun _ => ?_)⟩
            · refine ⟨fun σ' H' => ∃ (v15 : V) (d15 : Td), σ' = [some (.ref sa), some (.ref h), some (.int (n' : Int)), some (.ref aS), some (.ref U), y5, y6, y7, some (.ref y), some (.int (on : Int)), some (.ref D), some (.ref aL), some (.int (0 + (i : Int))), some (.int kd), some (.ref ad), some v15, none, none] ∧ Tn A.c_Gatherer n' i H' ℓ h dg y D aL aS st lds left' ∧ LoadAt H' ad nn p l q ws c ∧ Is h H' v15 d15 ∧ inI 0 ((st.length : Int) - 1) d15 = false, ?_, ?_⟩
              · refine ⟨_, rfl, _, rfl, 10, 30, rfl, rfl, ⟨by decide, by decide, by decide⟩, by show 1 ≤ sizeLine; decide, fun t0 nt0 => ?_⟩
                obtain ⟨H3, x3, s3, e3⟩ := newH nt0 (o := .tup [.int 0])
                rw [x3]
                clear x3
                refine ⟨by show 7 ≤ sizeLine; decide, fun l0 nl0 => ?_⟩
                show tCall spDraw [] E0 (tCons (tVar 1) (tCons (tC (V.int 7)) tNil)) _ (upd H3 l0 (HO.lst [V.int (n' : Int), V.int (-1), V.bl true, V.non, V.str "0", V.int 1000000000000000000000000000000, V.ref t0])) _
                obtain ⟨H4, x4, s4, e4⟩ := newH nl0 (o := .lst [.int (n' : Int), .int (-1), .bl true, .non, .str "0", .int 1000000000000000000000000000000, .ref t0])
                rw [x4]
                clear x4
                have l0h := ne_deck (t2.e0.dk.same s3) (fun _ _ e => e) nl0
                have t4 := t2.same (s3.trans s4)
                refine ⟨_, rfl, h, dg, 7, rfl, t4.e0.dk, by decide, by decide, fun H5 d5 b5 a5 d50 d51 => ?_⟩
                have t5 := t4.deck b5.kp a5
                have e5 : H5 l0 = some (.lst [.int (n' : Int), .int (-1), .bl true, .non, .str "0", .int 1000000000000000000000000000000, .ref t0]) := by rw [b5 l0 l0h]; exact e4
                have tk5 : TK H2 H5 := (TK.same (s3.trans s4)).trans (b5.tk t4.e0.dk)
                have et0 : H5 t0 = some (.tup [.int 0]) := (b5.tk t4.e0.dk) _ _ (s4 _ _ e3)
                obtain ⟨v, hv, hat⟩ := pick_at (n := 7) (xs := [V.int (n' : Int), V.int (-1), V.bl true, V.non, V.str "0", V.int 1000000000000000000000000000000, V.ref t0]) rfl d50 d51
                obtain ⟨d, iv, bad⟩ : ∃ d, Is h H5 v d ∧ inI 0 ((st.length : Int) - 1) d = false := by
                  rcases List.mem_cons.mp hv with rfl | hv
                  · refine ⟨_, .int _, ?_⟩
                    show (decide ((0 : Int) ≤ (n' : Int)) && decide ((n' : Int) ≤ (st.length : Int) - 1)) = false
                    rw [decide_eq_false (show ¬ (n' : Int) ≤ (st.length : Int) - 1 by omega), Bool.and_false]
                  rcases List.mem_cons.mp hv with rfl | hv
                  · exact ⟨_, .int _, rfl⟩
                  rcases List.mem_cons.mp hv with rfl | hv
                  · exact ⟨_, .bl _, rfl⟩
                  rcases List.mem_cons.mp hv with rfl | hv
                  · exact ⟨_, .non, rfl⟩
                  rcases List.mem_cons.mp hv with rfl | hv
                  · exact ⟨_, .str _, rfl⟩
                  rcases List.mem_cons.mp hv with rfl | hv
                  · refine ⟨_, .int _, ?_⟩
                    show (decide ((0 : Int) ≤ 1000000000000000000000000000000) && decide ((1000000000000000000000000000000 : Int) ≤ (st.length : Int) - 1)) = false
                    rw [decide_eq_false (show ¬ (1000000000000000000000000000000 : Int) ≤ (st.length : Int) - 1 by omega), Bool.and_false]
                  rw [List.mem_singleton] at hv
                  subst hv
                  exact ⟨_, .tup et0 (.cons (.int _) .nil), rfl⟩
                exact ⟨l0, _, d5, _, rfl, rfl, SqL.of e5, hat, v, d, rfl, t5, ⟨tk5 _ _ ld.at_, tk5 _ _ ld.words⟩, iv, bad⟩
              clear t2 ld
              rintro σ' H3 ⟨v15, d15, rfl, t3, ld, iv, bad⟩
              refine ⟨_, rfl, _, rfl, _, rfl, by show 2 ≤ sizeLine; decide, fun l2 nl2 => ?_⟩
              obtain ⟨H4, x4, s4, e4⟩ := newH nl2 (o := .lst [.ref ad, .non])
              rw [x4]
              clear x4
              have t4 := t3.same s4
              have ld4 := ld.same s4
              have iv4 := iv.same s4
              obtain ⟨x, d2, ixx, hat⟩ : ∃ x d2, Is h H4 x d2 ∧ atI [V.ref ad, V.non] ((0 + (i : Int)) % 2) = some x := by
                obtain ⟨v, hv, hat⟩ := pick_at (n := 2) (xs := [V.ref ad, V.non]) (f := (0 + (i : Int)) % 2) rfl (Int.emod_nonneg _ (by decide)) (Int.emod_lt_of_pos _ (by decide))
                rcases List.mem_cons.mp hv with rfl | hv
                · exact ⟨_, _, ld4.is h, hat⟩
                · rw [List.mem_singleton] at hv
                  subst hv
                  exact ⟨_, _, .non, hat⟩
              refine ⟨_, rfl, _, _, rfl, rfl, by show (0 : Int) < 2; decide, l2, _, _, _, rfl, rfl, SqL.of e4, hat, ?_⟩
              refine ⟨y, h, ℓ, st, v15, x, d15, d2, rfl, t4.G, ok1, iv4, ixx, .inl ⟨bad, fun H5 p5 s5 e5 => ?_⟩⟩
              refine ⟨by show 1 ≤ sizeLine; decide, fun u nu => ?_⟩
              have s6 := same_upd nu (o := .tup [.str "NoOutput"])
              refine ⟨wordD "NoOutput", wordD "NoOutput", word_dp (s6 _ _ e5), word_dp upd_same, nout_sh, nout_sh, ?_⟩
              rw [SeqAt.eqv_refl _ nout_lay]
              refine ⟨false, rfl, iteF ?_⟩
              have s56 := s5.trans s6
              have t6 := t4.same s56
              refine ⟨_, rfl, _, rfl, y, h, ℓ, st, v15, d15, rfl, t6.G, ok1, iv4.same s56, bad, _, rfl, iteF ?_⟩
              exact ⟨ℓ, st, _, _, _, rfl, t6.up (Nat.le_succ i)⟩
            · have lt : on < st.length := by omega
              have eb : st[on]? = some st[on] := List.getElem?_eq_getElem lt
              have okb := t2.ok _ (List.mem_of_getElem? eb)
              generalize st[on] = b at eb okb
              refine ⟨_, rfl, _, rfl, _, rfl, y, h, ℓ, st, _, _, _, _, rfl, t2.G, ok1, .int _, ld.is h, .inr (.inr ⟨on, b, nn, p, l, ws, c, ad, q, ⟨rfl, eb, rfl, ld, lo⟩, rfl, rfl, fun H4 ℓ4 v4 k4 G4 an4 => ?_⟩)⟩
              have L4 := t2.L.kpt k4 (fun l hl z => isG_B l (atG_isG l z) hl)
              have ld4 : LoadAt H4 ad nn p l q ws c := ⟨k4.tup _ _ ld.at_, k4.tup _ _ ld.words⟩
              refine ⟨_, rfl, _, rfl, _, rfl, D, ad, q, ℓ4, st, on, b, nn, p, l, ws, c, rfl, L4, eb, okb.1, by have := okb.2; omega, ld4, lo, fun H5 ℓ5 v5 k5 L5 an5 => ?_⟩
              refine ⟨v4, v5, 2, rfl, ans_sameV (fun us e => out_few okb.1 lo e) (an4.tk k5.tup) an5, by decide, fun H6 s6 => ⟨_, rfl, iteF ?_⟩⟩
              have e05 := (t2.e0.lib k4 fun l z => .inl (atG_isG l z)).lib k5 fun l z => .inr (atB_isB l z)
              have t5 : Tn A.c_Gatherer n' (i + 1) H5 ℓ5 h dg y D aL aS (st.set on (nxtB b nn p l ws)) lds left' := ⟨e05, G4.kpt k5 (fun l hl z => isG_B l hl (atB_isB l z)), L5, by rw [List.length_set]; exact len, set_ok t2.ok ⟨okb.1.nxt lo.p0 lo.l0 lo.few lo.one.2, Nat.le_trans nxtB_len (Nat.succ_le_succ okb.2)⟩, t2.le⟩
              exact ⟨ℓ5, _, _, _, _, rfl, t5.same s6⟩
        clear t2 ok1 inn ld lo
        rintro σ' H3 ⟨ℓ3, st3, y9', y14', y15', rfl, t3⟩
        have len3 := t3.len
        have few3 : ∀ b ∈ st3, BkOk b ∧ b.length < 64 := fun b hb => ⟨(t3.ok b hb).1, by have := (t3.ok b hb).2; omega⟩
        refine ⟨_, rfl, _, _, rfl, rfl, _, rfl, ite2 (fun _ => ?_) (fun _ => iteF ?_)⟩
        · refine ⟨_, rfl, _, rfl, _, rfl, y, D, ℓ3, st3, by rw [len3]; rfl, t3.G, t3.L, few3, by omega, fun HF sF => ⟨_, rfl, iteF ?_⟩⟩
          exact ⟨ℓ3, st3, left', _, _, _, _, _, rfl, t3.same sF⟩
        · exact ⟨ℓ3, st3, left', _, _, _, _, _, rfl, t3⟩
      · rintro σ HE ⟨ℓ, st, left, y9, y12, y13, y14, y15, rfl, t0⟩
        have len := t0.len
        have few : ∀ b ∈ st, BkOk b ∧ b.length < 64 := fun b hb => ⟨(t0.ok b hb).1, by have := (t0.ok b hb).2; omega⟩
        refine ⟨_, rfl, _, rfl, _, rfl, y, D, ℓ, st, by rw [len]; rfl, t0.G, t0.L, few, by omega, fun HF sF => ⟨_, rfl, iteF ?_⟩⟩
        have t1 := t0.same sF
        refine ⟨_, rfl, _, rfl, _, rfl, y, D, ℓ, st, by rw [len]; rfl, t1.G, t1.L, few, by omega, fun HG sG => ⟨_, rfl, iteF ?_⟩⟩
        refine ⟨_, rfl, by show 6 ≤ sizeLine; decide, fun Lq nLq => ?_⟩
        have eq : (upd HG Lq (.lst [.int 0, .int 13, .bl true, .non, .str "1", .int (-1)])) Lq = some (.lst [.int 0, .int 13, .bl true, .non, .str "1", .int (-1)]) := upd_same
        generalize upd HG Lq (.lst [.int 0, .int 13, .bl true, .non, .str "1", .int (-1)]) = HH at eq
        refine ⟨Lq, rfl, ⟨_, SqL.of eq⟩, fun DD nDD => ?_⟩
        have all : ∀ x ∈ ([.int 0, .int 13, .bl true, .non, .str "1", .int (-1)] : List V), ∃ d, (∀ H', Is h H' x d) ∧ inI 1 12 d = false := fun x hx => by
          rcases List.mem_cons.mp hx with rfl | hx
          · exact ⟨_, fun _ => .int _, rfl⟩
          rcases List.mem_cons.mp hx with rfl | hx
          · exact ⟨_, fun _ => .int _, rfl⟩
          rcases List.mem_cons.mp hx with rfl | hx
          · exact ⟨_, fun _ => .bl _, rfl⟩
          rcases List.mem_cons.mp hx with rfl | hx
          · exact ⟨_, fun _ => .non, rfl⟩
          rcases List.mem_cons.mp hx with rfl | hx
          · exact ⟨_, fun _ => .str _, rfl⟩
          rw [List.mem_singleton] at hx
          subst hx
          exact ⟨_, fun _ => .int _, rfl⟩
        refine lc_list (K := K) (a := Lq) (xs := [.int 0, .int 13, .bl true, .non, .str "1", .int (-1)]) (fun i H' => Same HH H' ∧ H' DD = some (.lst ((List.replicate i true).map V.bl)) ∧ i ≤ 6) ⟨same_upd nDD, upd_same, by decide⟩ (fun i H' _ z => SqL.of (z.1 _ _ eq)) ?_ ?_
        · rintro i x H3 hx ⟨s3, e3, i6⟩
          obtain ⟨d, id, bad⟩ := all x (List.mem_of_getElem? hx)
          have i6 : i < 6 := (List.getElem?_eq_some_iff.mp hx).1
          refine ⟨rfl, _, rfl, x, d, h, rfl, id _, bad, fun H5 s5 => ?_⟩
          exact ⟨_, s5 _ _ e3, by rw [List.length_map, List.length_replicate]; exact small1000 (by omega), same_to (s3.trans s5) nDD, by rw [upd_same, true_snoc], by omega⟩
        · rintro H3 ⟨s3, e3, _⟩
          refine ⟨DD, _, rfl, SqL.of e3, ?_⟩
          rw [all_rep]
          exact kq _
end

theorem end_mk {l : PySem.W.OpenLaw} {w : World} {K : PySem.W.Frag} {mg : Str → Option Value} {fa f_law : Addr} {kV dc pm cd ct : Value} {an : Option Addr} (E : ∃ A : Adr, Top K mg A ∧ A.d_law = PySem.W.fnOf "law" "law" (defArgs s_law) (defBody s_law) (defScope s_law) .none kV dc pm an cd ct ∧ A.a_law = f_law) (hfa : mg "law" = some (.ref fa)) :
    ∃ fd : FuncData, (∀ (s : Shared) (v : Value), BindsTo s fd ⟨[v], []⟩ [("_law_script", v)]) ∧ ∀ base : Heap, K.In base → base.Ns mainGlobals mg → FnOk l.prog w K mg base CX0 12 fa fd ["_law_script"] (spLaw K) := by
  obtain ⟨A, T, ed, ea⟩ := E
  have e := hfa.symm.trans T.g_law
  cases e
  exact ⟨A.d_law, fun s v => by rw [ed]; exact .of_eq rfl, fun base _ _ => ok_law T⟩
theorem top_end {l : PySem.W.OpenLaw} {w : World} {K : PySem.W.Frag} {h : Heap} {mg : Str → Option Value} {fa : Addr} (X : K.In h) (G : h.Ns mainGlobals mg) (hfa : mg "law" = some (.ref fa))
    {f_is_integer : Addr} {od_is_integer an_is_integer : Option Addr} {sl_is_integer : Array (Option Value)} {oc_is_integer kV_is_integer dc_is_integer pm_is_integer cd_is_integer ct_is_integer : Value}
    {f_is_integer_from : Addr} {od_is_integer_from an_is_integer_from : Option Addr} {sl_is_integer_from : Array (Option Value)} {oc_is_integer_from kV_is_integer_from dc_is_integer_from pm_is_integer_from cd_is_integer_from ct_is_integer_from : Value}
    {f_is_number_below : Addr} {od_is_number_below an_is_number_below : Option Addr} {sl_is_number_below : Array (Option Value)} {oc_is_number_below kV_is_number_below dc_is_number_below pm_is_number_below cd_is_number_below ct_is_number_below : Value}
    {f_is_tuple_of : Addr} {od_is_tuple_of an_is_tuple_of : Option Addr} {sl_is_tuple_of : Array (Option Value)} {oc_is_tuple_of kV_is_tuple_of dc_is_tuple_of pm_is_tuple_of cd_is_tuple_of ct_is_tuple_of : Value}
    {f_are_words : Addr} {od_are_words an_are_words : Option Addr} {sl_are_words : Array (Option Value)} {oc_are_words kV_are_words dc_are_words pm_are_words cd_are_words ct_are_words : Value}
    {f_check_of : Addr} {od_check_of an_check_of : Option Addr} {sl_check_of : Array (Option Value)} {oc_check_of kV_check_of dc_check_of pm_check_of cd_check_of ct_check_of : Value}
    {f_is_load : Addr} {od_is_load an_is_load : Option Addr} {sl_is_load : Array (Option Value)} {oc_is_load kV_is_load dc_is_load pm_is_load cd_is_load ct_is_load : Value}
    {f_Gatherer___init__ : Addr} {od_Gatherer___init__ an_Gatherer___init__ : Option Addr} {sl_Gatherer___init__ : Array (Option Value)} {oc_Gatherer___init__ kV_Gatherer___init__ dc_Gatherer___init__ pm_Gatherer___init__ cd_Gatherer___init__ ct_Gatherer___init__ : Value}
    {f_Gatherer__check_output : Addr} {od_Gatherer__check_output an_Gatherer__check_output : Option Addr} {sl_Gatherer__check_output : Array (Option Value)} {oc_Gatherer__check_output kV_Gatherer__check_output dc_Gatherer__check_output pm_Gatherer__check_output cd_Gatherer__check_output ct_Gatherer__check_output : Value}
    {f_Gatherer_comes : Addr} {od_Gatherer_comes an_Gatherer_comes : Option Addr} {sl_Gatherer_comes : Array (Option Value)} {oc_Gatherer_comes kV_Gatherer_comes dc_Gatherer_comes pm_Gatherer_comes cd_Gatherer_comes ct_Gatherer_comes : Value}
    {f_Gatherer_lacking : Addr} {od_Gatherer_lacking an_Gatherer_lacking : Option Addr} {sl_Gatherer_lacking : Array (Option Value)} {oc_Gatherer_lacking kV_Gatherer_lacking dc_Gatherer_lacking pm_Gatherer_lacking cd_Gatherer_lacking ct_Gatherer_lacking : Value}
    {f_law_deck : Addr} {od_law_deck an_law_deck : Option Addr} {sl_law_deck : Array (Option Value)} {oc_law_deck kV_law_deck dc_law_deck pm_law_deck cd_law_deck ct_law_deck : Value}
    {f_law_mixed : Addr} {od_law_mixed an_law_mixed : Option Addr} {sl_law_mixed : Array (Option Value)} {oc_law_mixed kV_law_mixed dc_law_mixed pm_law_mixed cd_law_mixed ct_law_mixed : Value}
    {f_law_draw : Addr} {od_law_draw an_law_draw : Option Addr} {sl_law_draw : Array (Option Value)} {oc_law_draw kV_law_draw dc_law_draw pm_law_draw cd_law_draw ct_law_draw : Value}
    {f_law_outs : Addr} {od_law_outs an_law_outs : Option Addr} {sl_law_outs : Array (Option Value)} {oc_law_outs kV_law_outs dc_law_outs pm_law_outs cd_law_outs ct_law_outs : Value}
    {f_law_packet : Addr} {od_law_packet an_law_packet : Option Addr} {sl_law_packet : Array (Option Value)} {oc_law_packet kV_law_packet dc_law_packet pm_law_packet cd_law_packet ct_law_packet : Value}
    {f_law_load : Addr} {od_law_load an_law_load : Option Addr} {sl_law_load : Array (Option Value)} {oc_law_load kV_law_load dc_law_load pm_law_load cd_law_load ct_law_load : Value}
    {f_law_same : Addr} {od_law_same an_law_same : Option Addr} {sl_law_same : Array (Option Value)} {oc_law_same kV_law_same dc_law_same pm_law_same cd_law_same ct_law_same : Value}
    {f_law_told : Addr} {od_law_told an_law_told : Option Addr} {sl_law_told : Array (Option Value)} {oc_law_told kV_law_told dc_law_told pm_law_told cd_law_told ct_law_told : Value}
    {f_law_due : Addr} {od_law_due an_law_due : Option Addr} {sl_law_due : Array (Option Value)} {oc_law_due kV_law_due dc_law_due pm_law_due cd_law_due ct_law_due : Value}
    {f_law_lacking : Addr} {od_law_lacking an_law_lacking : Option Addr} {sl_law_lacking : Array (Option Value)} {oc_law_lacking kV_law_lacking dc_law_lacking pm_law_lacking cd_law_lacking ct_law_lacking : Value}
    {f_law_odd : Addr} {od_law_odd an_law_odd : Option Addr} {sl_law_odd : Array (Option Value)} {oc_law_odd kV_law_odd dc_law_odd pm_law_odd cd_law_odd ct_law_odd : Value}
    {f_law_is_lacking : Addr} {od_law_is_lacking an_law_is_lacking : Option Addr} {sl_law_is_lacking : Array (Option Value)} {oc_law_is_lacking kV_law_is_lacking dc_law_is_lacking pm_law_is_lacking cd_law_is_lacking ct_law_is_lacking : Value}
    {f_law_is_refused : Addr} {od_law_is_refused an_law_is_refused : Option Addr} {sl_law_is_refused : Array (Option Value)} {oc_law_is_refused kV_law_is_refused dc_law_is_refused pm_law_is_refused cd_law_is_refused ct_law_is_refused : Value}
    {f_law_is_no_output : Addr} {od_law_is_no_output an_law_is_no_output : Option Addr} {sl_law_is_no_output : Array (Option Value)} {oc_law_is_no_output kV_law_is_no_output dc_law_is_no_output pm_law_is_no_output cd_law_is_no_output ct_law_is_no_output : Value}
    {f_law_other : Addr} {od_law_other an_law_other : Option Addr} {sl_law_other : Array (Option Value)} {oc_law_other kV_law_other dc_law_other pm_law_other cd_law_other ct_law_other : Value}
    {f_law : Addr} {od_law an_law : Option Addr} {sl_law : Array (Option Value)} {oc_law kV_law dc_law pm_law cd_law ct_law : Value}
    {c_Gatherer : Addr}
    {c_FabricError : Addr}
    {c_NoOutput : Addr}
    {c_NoNumber : Addr}
    {c_BadLoad : Addr}
    {c_Twice : Addr}
    {c_Mixed : Addr}
    {t_MOST_LINES : Tok}
    {t_WORDS_OF_A_CELL : Tok}
    {t_MOST_PARTS : Tok}
    {t_GREATEST_PACKET : Tok}
    {t_WORD_BOUND : Tok}
    {t_CHECK_BOUND : Tok}
    (ac_Gatherer : PySem.W.nsIn K mainGlobals "Gatherer" = some (some (.ref c_Gatherer)))
    (ac_FabricError : PySem.W.nsIn K mainGlobals "FabricError" = some (some (.ref c_FabricError)))
    (ac_NoOutput : PySem.W.nsIn K mainGlobals "NoOutput" = some (some (.ref c_NoOutput)))
    (ac_NoNumber : PySem.W.nsIn K mainGlobals "NoNumber" = some (some (.ref c_NoNumber)))
    (ac_BadLoad : PySem.W.nsIn K mainGlobals "BadLoad" = some (some (.ref c_BadLoad)))
    (ac_Twice : PySem.W.nsIn K mainGlobals "Twice" = some (some (.ref c_Twice)))
    (ac_Mixed : PySem.W.nsIn K mainGlobals "Mixed" = some (some (.ref c_Mixed)))
    (a_is_integer : PySem.W.nsIn K mainGlobals "is_integer" = some (some (.ref f_is_integer)))
    (l_is_integer : K.lookup f_is_integer = some ⟨oc_is_integer, od_is_integer, .func (PySem.W.fnOf "is_integer" "is_integer" (defArgs s_is_integer) (defBody s_is_integer) (defScope s_is_integer) .none kV_is_integer dc_is_integer pm_is_integer an_is_integer cd_is_integer ct_is_integer), sl_is_integer⟩)
    (q_is_integer : PySem.W.codeIn K cd_is_integer "is_integer" = true)
    (p_is_integer : PySem.W.keepIn K (.ref f_is_integer) = true)
    (a_is_integer_from : PySem.W.nsIn K mainGlobals "is_integer_from" = some (some (.ref f_is_integer_from)))
    (l_is_integer_from : K.lookup f_is_integer_from = some ⟨oc_is_integer_from, od_is_integer_from, .func (PySem.W.fnOf "is_integer_from" "is_integer_from" (defArgs s_is_integer_from) (defBody s_is_integer_from) (defScope s_is_integer_from) .none kV_is_integer_from dc_is_integer_from pm_is_integer_from an_is_integer_from cd_is_integer_from ct_is_integer_from), sl_is_integer_from⟩)
    (q_is_integer_from : PySem.W.codeIn K cd_is_integer_from "is_integer_from" = true)
    (p_is_integer_from : PySem.W.keepIn K (.ref f_is_integer_from) = true)
    (a_is_number_below : PySem.W.nsIn K mainGlobals "is_number_below" = some (some (.ref f_is_number_below)))
    (l_is_number_below : K.lookup f_is_number_below = some ⟨oc_is_number_below, od_is_number_below, .func (PySem.W.fnOf "is_number_below" "is_number_below" (defArgs s_is_number_below) (defBody s_is_number_below) (defScope s_is_number_below) .none kV_is_number_below dc_is_number_below pm_is_number_below an_is_number_below cd_is_number_below ct_is_number_below), sl_is_number_below⟩)
    (q_is_number_below : PySem.W.codeIn K cd_is_number_below "is_number_below" = true)
    (p_is_number_below : PySem.W.keepIn K (.ref f_is_number_below) = true)
    (a_is_tuple_of : PySem.W.nsIn K mainGlobals "is_tuple_of" = some (some (.ref f_is_tuple_of)))
    (l_is_tuple_of : K.lookup f_is_tuple_of = some ⟨oc_is_tuple_of, od_is_tuple_of, .func (PySem.W.fnOf "is_tuple_of" "is_tuple_of" (defArgs s_is_tuple_of) (defBody s_is_tuple_of) (defScope s_is_tuple_of) .none kV_is_tuple_of dc_is_tuple_of pm_is_tuple_of an_is_tuple_of cd_is_tuple_of ct_is_tuple_of), sl_is_tuple_of⟩)
    (q_is_tuple_of : PySem.W.codeIn K cd_is_tuple_of "is_tuple_of" = true)
    (p_is_tuple_of : PySem.W.keepIn K (.ref f_is_tuple_of) = true)
    (a_are_words : PySem.W.nsIn K mainGlobals "are_words" = some (some (.ref f_are_words)))
    (l_are_words : K.lookup f_are_words = some ⟨oc_are_words, od_are_words, .func (PySem.W.fnOf "are_words" "are_words" (defArgs s_are_words) (defBody s_are_words) (defScope s_are_words) .none kV_are_words dc_are_words pm_are_words an_are_words cd_are_words ct_are_words), sl_are_words⟩)
    (q_are_words : PySem.W.codeIn K cd_are_words "are_words" = true)
    (p_are_words : PySem.W.keepIn K (.ref f_are_words) = true)
    (a_check_of : PySem.W.nsIn K mainGlobals "check_of" = some (some (.ref f_check_of)))
    (l_check_of : K.lookup f_check_of = some ⟨oc_check_of, od_check_of, .func (PySem.W.fnOf "check_of" "check_of" (defArgs s_check_of) (defBody s_check_of) (defScope s_check_of) .none kV_check_of dc_check_of pm_check_of an_check_of cd_check_of ct_check_of), sl_check_of⟩)
    (q_check_of : PySem.W.codeIn K cd_check_of "check_of" = true)
    (p_check_of : PySem.W.keepIn K (.ref f_check_of) = true)
    (a_is_load : PySem.W.nsIn K mainGlobals "is_load" = some (some (.ref f_is_load)))
    (l_is_load : K.lookup f_is_load = some ⟨oc_is_load, od_is_load, .func (PySem.W.fnOf "is_load" "is_load" (defArgs s_is_load) (defBody s_is_load) (defScope s_is_load) .none kV_is_load dc_is_load pm_is_load an_is_load cd_is_load ct_is_load), sl_is_load⟩)
    (q_is_load : PySem.W.codeIn K cd_is_load "is_load" = true)
    (p_is_load : PySem.W.keepIn K (.ref f_is_load) = true)
    (a_Gatherer___init__ : PySem.W.findIn K (.ref c_Gatherer) "__init__" = some (some (.ref f_Gatherer___init__)))
    (i_Gatherer___init__ : PySem.W.isFn K (.ref f_Gatherer___init__) = true)
    (l_Gatherer___init__ : K.lookup f_Gatherer___init__ = some ⟨oc_Gatherer___init__, od_Gatherer___init__, .func (PySem.W.fnOf "__init__" "Gatherer.__init__" (defArgs s_Gatherer___init__) (defBody s_Gatherer___init__) (defScope s_Gatherer___init__) .none kV_Gatherer___init__ dc_Gatherer___init__ pm_Gatherer___init__ an_Gatherer___init__ cd_Gatherer___init__ ct_Gatherer___init__), sl_Gatherer___init__⟩)
    (q_Gatherer___init__ : PySem.W.codeIn K cd_Gatherer___init__ "Gatherer.__init__" = true)
    (p_Gatherer___init__ : PySem.W.keepIn K (.ref f_Gatherer___init__) = true)
    (a_Gatherer__check_output : PySem.W.findIn K (.ref c_Gatherer) "_check_output" = some (some (.ref f_Gatherer__check_output)))
    (i_Gatherer__check_output : PySem.W.isFn K (.ref f_Gatherer__check_output) = true)
    (l_Gatherer__check_output : K.lookup f_Gatherer__check_output = some ⟨oc_Gatherer__check_output, od_Gatherer__check_output, .func (PySem.W.fnOf "_check_output" "Gatherer._check_output" (defArgs s_Gatherer__check_output) (defBody s_Gatherer__check_output) (defScope s_Gatherer__check_output) .none kV_Gatherer__check_output dc_Gatherer__check_output pm_Gatherer__check_output an_Gatherer__check_output cd_Gatherer__check_output ct_Gatherer__check_output), sl_Gatherer__check_output⟩)
    (q_Gatherer__check_output : PySem.W.codeIn K cd_Gatherer__check_output "Gatherer._check_output" = true)
    (p_Gatherer__check_output : PySem.W.keepIn K (.ref f_Gatherer__check_output) = true)
    (a_Gatherer_comes : PySem.W.findIn K (.ref c_Gatherer) "comes" = some (some (.ref f_Gatherer_comes)))
    (i_Gatherer_comes : PySem.W.isFn K (.ref f_Gatherer_comes) = true)
    (l_Gatherer_comes : K.lookup f_Gatherer_comes = some ⟨oc_Gatherer_comes, od_Gatherer_comes, .func (PySem.W.fnOf "comes" "Gatherer.comes" (defArgs s_Gatherer_comes) (defBody s_Gatherer_comes) (defScope s_Gatherer_comes) .none kV_Gatherer_comes dc_Gatherer_comes pm_Gatherer_comes an_Gatherer_comes cd_Gatherer_comes ct_Gatherer_comes), sl_Gatherer_comes⟩)
    (q_Gatherer_comes : PySem.W.codeIn K cd_Gatherer_comes "Gatherer.comes" = true)
    (p_Gatherer_comes : PySem.W.keepIn K (.ref f_Gatherer_comes) = true)
    (a_Gatherer_lacking : PySem.W.findIn K (.ref c_Gatherer) "lacking" = some (some (.ref f_Gatherer_lacking)))
    (i_Gatherer_lacking : PySem.W.isFn K (.ref f_Gatherer_lacking) = true)
    (l_Gatherer_lacking : K.lookup f_Gatherer_lacking = some ⟨oc_Gatherer_lacking, od_Gatherer_lacking, .func (PySem.W.fnOf "lacking" "Gatherer.lacking" (defArgs s_Gatherer_lacking) (defBody s_Gatherer_lacking) (defScope s_Gatherer_lacking) .none kV_Gatherer_lacking dc_Gatherer_lacking pm_Gatherer_lacking an_Gatherer_lacking cd_Gatherer_lacking ct_Gatherer_lacking), sl_Gatherer_lacking⟩)
    (q_Gatherer_lacking : PySem.W.codeIn K cd_Gatherer_lacking "Gatherer.lacking" = true)
    (p_Gatherer_lacking : PySem.W.keepIn K (.ref f_Gatherer_lacking) = true)
    (a_law_deck : PySem.W.nsIn K mainGlobals "_law_deck" = some (some (.ref f_law_deck)))
    (l_law_deck : K.lookup f_law_deck = some ⟨oc_law_deck, od_law_deck, .func (PySem.W.fnOf "_law_deck" "_law_deck" (defArgs s_law_deck) (defBody s_law_deck) (defScope s_law_deck) .none kV_law_deck dc_law_deck pm_law_deck an_law_deck cd_law_deck ct_law_deck), sl_law_deck⟩)
    (q_law_deck : PySem.W.codeIn K cd_law_deck "_law_deck" = true)
    (p_law_deck : PySem.W.keepIn K (.ref f_law_deck) = true)
    (a_law_mixed : PySem.W.nsIn K mainGlobals "_law_mixed" = some (some (.ref f_law_mixed)))
    (l_law_mixed : K.lookup f_law_mixed = some ⟨oc_law_mixed, od_law_mixed, .func (PySem.W.fnOf "_law_mixed" "_law_mixed" (defArgs s_law_mixed) (defBody s_law_mixed) (defScope s_law_mixed) .none kV_law_mixed dc_law_mixed pm_law_mixed an_law_mixed cd_law_mixed ct_law_mixed), sl_law_mixed⟩)
    (q_law_mixed : PySem.W.codeIn K cd_law_mixed "_law_mixed" = true)
    (p_law_mixed : PySem.W.keepIn K (.ref f_law_mixed) = true)
    (a_law_draw : PySem.W.nsIn K mainGlobals "_law_draw" = some (some (.ref f_law_draw)))
    (l_law_draw : K.lookup f_law_draw = some ⟨oc_law_draw, od_law_draw, .func (PySem.W.fnOf "_law_draw" "_law_draw" (defArgs s_law_draw) (defBody s_law_draw) (defScope s_law_draw) .none kV_law_draw dc_law_draw pm_law_draw an_law_draw cd_law_draw ct_law_draw), sl_law_draw⟩)
    (q_law_draw : PySem.W.codeIn K cd_law_draw "_law_draw" = true)
    (p_law_draw : PySem.W.keepIn K (.ref f_law_draw) = true)
    (a_law_outs : PySem.W.nsIn K mainGlobals "_law_outs" = some (some (.ref f_law_outs)))
    (l_law_outs : K.lookup f_law_outs = some ⟨oc_law_outs, od_law_outs, .func (PySem.W.fnOf "_law_outs" "_law_outs" (defArgs s_law_outs) (defBody s_law_outs) (defScope s_law_outs) .none kV_law_outs dc_law_outs pm_law_outs an_law_outs cd_law_outs ct_law_outs), sl_law_outs⟩)
    (q_law_outs : PySem.W.codeIn K cd_law_outs "_law_outs" = true)
    (p_law_outs : PySem.W.keepIn K (.ref f_law_outs) = true)
    (a_law_packet : PySem.W.nsIn K mainGlobals "_law_packet" = some (some (.ref f_law_packet)))
    (l_law_packet : K.lookup f_law_packet = some ⟨oc_law_packet, od_law_packet, .func (PySem.W.fnOf "_law_packet" "_law_packet" (defArgs s_law_packet) (defBody s_law_packet) (defScope s_law_packet) .none kV_law_packet dc_law_packet pm_law_packet an_law_packet cd_law_packet ct_law_packet), sl_law_packet⟩)
    (q_law_packet : PySem.W.codeIn K cd_law_packet "_law_packet" = true)
    (p_law_packet : PySem.W.keepIn K (.ref f_law_packet) = true)
    (a_law_load : PySem.W.nsIn K mainGlobals "_law_load" = some (some (.ref f_law_load)))
    (l_law_load : K.lookup f_law_load = some ⟨oc_law_load, od_law_load, .func (PySem.W.fnOf "_law_load" "_law_load" (defArgs s_law_load) (defBody s_law_load) (defScope s_law_load) .none kV_law_load dc_law_load pm_law_load an_law_load cd_law_load ct_law_load), sl_law_load⟩)
    (q_law_load : PySem.W.codeIn K cd_law_load "_law_load" = true)
    (p_law_load : PySem.W.keepIn K (.ref f_law_load) = true)
    (a_law_same : PySem.W.nsIn K mainGlobals "_law_same" = some (some (.ref f_law_same)))
    (l_law_same : K.lookup f_law_same = some ⟨oc_law_same, od_law_same, .func (PySem.W.fnOf "_law_same" "_law_same" (defArgs s_law_same) (defBody s_law_same) (defScope s_law_same) .none kV_law_same dc_law_same pm_law_same an_law_same cd_law_same ct_law_same), sl_law_same⟩)
    (q_law_same : PySem.W.codeIn K cd_law_same "_law_same" = true)
    (p_law_same : PySem.W.keepIn K (.ref f_law_same) = true)
    (a_law_told : PySem.W.nsIn K mainGlobals "_law_told" = some (some (.ref f_law_told)))
    (l_law_told : K.lookup f_law_told = some ⟨oc_law_told, od_law_told, .func (PySem.W.fnOf "_law_told" "_law_told" (defArgs s_law_told) (defBody s_law_told) (defScope s_law_told) .none kV_law_told dc_law_told pm_law_told an_law_told cd_law_told ct_law_told), sl_law_told⟩)
    (q_law_told : PySem.W.codeIn K cd_law_told "_law_told" = true)
    (p_law_told : PySem.W.keepIn K (.ref f_law_told) = true)
    (a_law_due : PySem.W.nsIn K mainGlobals "_law_due" = some (some (.ref f_law_due)))
    (l_law_due : K.lookup f_law_due = some ⟨oc_law_due, od_law_due, .func (PySem.W.fnOf "_law_due" "_law_due" (defArgs s_law_due) (defBody s_law_due) (defScope s_law_due) .none kV_law_due dc_law_due pm_law_due an_law_due cd_law_due ct_law_due), sl_law_due⟩)
    (q_law_due : PySem.W.codeIn K cd_law_due "_law_due" = true)
    (p_law_due : PySem.W.keepIn K (.ref f_law_due) = true)
    (a_law_lacking : PySem.W.nsIn K mainGlobals "_law_lacking" = some (some (.ref f_law_lacking)))
    (l_law_lacking : K.lookup f_law_lacking = some ⟨oc_law_lacking, od_law_lacking, .func (PySem.W.fnOf "_law_lacking" "_law_lacking" (defArgs s_law_lacking) (defBody s_law_lacking) (defScope s_law_lacking) .none kV_law_lacking dc_law_lacking pm_law_lacking an_law_lacking cd_law_lacking ct_law_lacking), sl_law_lacking⟩)
    (q_law_lacking : PySem.W.codeIn K cd_law_lacking "_law_lacking" = true)
    (p_law_lacking : PySem.W.keepIn K (.ref f_law_lacking) = true)
    (a_law_odd : PySem.W.nsIn K mainGlobals "_law_odd" = some (some (.ref f_law_odd)))
    (l_law_odd : K.lookup f_law_odd = some ⟨oc_law_odd, od_law_odd, .func (PySem.W.fnOf "_law_odd" "_law_odd" (defArgs s_law_odd) (defBody s_law_odd) (defScope s_law_odd) .none kV_law_odd dc_law_odd pm_law_odd an_law_odd cd_law_odd ct_law_odd), sl_law_odd⟩)
    (q_law_odd : PySem.W.codeIn K cd_law_odd "_law_odd" = true)
    (p_law_odd : PySem.W.keepIn K (.ref f_law_odd) = true)
    (a_law_is_lacking : PySem.W.nsIn K mainGlobals "_law_is_lacking" = some (some (.ref f_law_is_lacking)))
    (l_law_is_lacking : K.lookup f_law_is_lacking = some ⟨oc_law_is_lacking, od_law_is_lacking, .func (PySem.W.fnOf "_law_is_lacking" "_law_is_lacking" (defArgs s_law_is_lacking) (defBody s_law_is_lacking) (defScope s_law_is_lacking) .none kV_law_is_lacking dc_law_is_lacking pm_law_is_lacking an_law_is_lacking cd_law_is_lacking ct_law_is_lacking), sl_law_is_lacking⟩)
    (q_law_is_lacking : PySem.W.codeIn K cd_law_is_lacking "_law_is_lacking" = true)
    (p_law_is_lacking : PySem.W.keepIn K (.ref f_law_is_lacking) = true)
    (a_law_is_refused : PySem.W.nsIn K mainGlobals "_law_is_refused" = some (some (.ref f_law_is_refused)))
    (l_law_is_refused : K.lookup f_law_is_refused = some ⟨oc_law_is_refused, od_law_is_refused, .func (PySem.W.fnOf "_law_is_refused" "_law_is_refused" (defArgs s_law_is_refused) (defBody s_law_is_refused) (defScope s_law_is_refused) .none kV_law_is_refused dc_law_is_refused pm_law_is_refused an_law_is_refused cd_law_is_refused ct_law_is_refused), sl_law_is_refused⟩)
    (q_law_is_refused : PySem.W.codeIn K cd_law_is_refused "_law_is_refused" = true)
    (p_law_is_refused : PySem.W.keepIn K (.ref f_law_is_refused) = true)
    (a_law_is_no_output : PySem.W.nsIn K mainGlobals "_law_is_no_output" = some (some (.ref f_law_is_no_output)))
    (l_law_is_no_output : K.lookup f_law_is_no_output = some ⟨oc_law_is_no_output, od_law_is_no_output, .func (PySem.W.fnOf "_law_is_no_output" "_law_is_no_output" (defArgs s_law_is_no_output) (defBody s_law_is_no_output) (defScope s_law_is_no_output) .none kV_law_is_no_output dc_law_is_no_output pm_law_is_no_output an_law_is_no_output cd_law_is_no_output ct_law_is_no_output), sl_law_is_no_output⟩)
    (q_law_is_no_output : PySem.W.codeIn K cd_law_is_no_output "_law_is_no_output" = true)
    (p_law_is_no_output : PySem.W.keepIn K (.ref f_law_is_no_output) = true)
    (a_law_other : PySem.W.nsIn K mainGlobals "_law_other" = some (some (.ref f_law_other)))
    (l_law_other : K.lookup f_law_other = some ⟨oc_law_other, od_law_other, .func (PySem.W.fnOf "_law_other" "_law_other" (defArgs s_law_other) (defBody s_law_other) (defScope s_law_other) .none kV_law_other dc_law_other pm_law_other an_law_other cd_law_other ct_law_other), sl_law_other⟩)
    (q_law_other : PySem.W.codeIn K cd_law_other "_law_other" = true)
    (p_law_other : PySem.W.keepIn K (.ref f_law_other) = true)
    (a_law : PySem.W.nsIn K mainGlobals "law" = some (some (.ref f_law)))
    (l_law : K.lookup f_law = some ⟨oc_law, od_law, .func (PySem.W.fnOf "law" "law" (defArgs s_law) (defBody s_law) (defScope s_law) .none kV_law dc_law pm_law an_law cd_law ct_law), sl_law⟩)
    (q_law : PySem.W.codeIn K cd_law "law" = true)
    (p_law : PySem.W.keepIn K (.ref f_law) = true)
    (pg_Gatherer : PySem.W.plainGet K c_Gatherer Str.empty = true)
    (hd_Gatherer : PySem.W.hasDictIn K c_Gatherer = true)
    (po_Gatherer : PySem.W.plainOver K c_Gatherer = true)
    (sa_Gatherer : PySem.W.findIn K (.ref c_Gatherer) "__setattr__" = some (some (.builtin "object.__setattr__")))
    (mk_Gatherer : PySem.W.makesIn K c_Gatherer = true)
    (kc_Gatherer : PySem.W.keepIn K (.ref c_Gatherer) = true)
    (n_Gatherer__begun : PySem.W.findIn K (.ref c_Gatherer) "_begun" = some none)
    (em_Gatherer : PySem.W.mroIn K c_Gatherer (.type "object") = some true)
    (es_Gatherer : PySem.W.findIn K (.ref c_Gatherer) "__eq__" = some (some (.builtin "object.__eq__")))
    (x_NoNumber : PySem.W.excIn K c_NoNumber [.type "ValueError", .type "Exception", .type "BaseException", .type "object"] "ValueError.__new__" = true)
    (kp_NoNumber : PySem.W.keepIn K (.ref c_NoNumber) = true)
    (s_NoNumber : PySem.W.subIn K (.ref c_NoNumber) (.type "BaseException") = some true)
    (t_NoNumber : PySem.W.typeIn K (.ref c_NoNumber) = some (.type "type"))
    (e1_NoNumber : PySem.W.findIn K (.ref c_NoNumber) "__getattribute__" = some (some (.builtin "BaseException.__getattribute__")))
    (e2_NoNumber : PySem.W.findIn K (.ref c_NoNumber) "__getattr__" = some none)
    (e3_NoNumber : PySem.W.hasDictIn K c_NoNumber = true)
    (e4_NoNumber : PySem.W.findIn K (.ref c_NoNumber) "__class__" = some (some (.builtin "object.__class__")))
    (e5_NoNumber : PySem.W.mroIn K c_NoNumber (.type "object") = some true)
    (x_NoOutput : PySem.W.excIn K c_NoOutput [.type "ValueError", .type "Exception", .type "BaseException", .type "object"] "ValueError.__new__" = true)
    (kp_NoOutput : PySem.W.keepIn K (.ref c_NoOutput) = true)
    (s_NoOutput : PySem.W.subIn K (.ref c_NoOutput) (.type "BaseException") = some true)
    (t_NoOutput : PySem.W.typeIn K (.ref c_NoOutput) = some (.type "type"))
    (e1_NoOutput : PySem.W.findIn K (.ref c_NoOutput) "__getattribute__" = some (some (.builtin "BaseException.__getattribute__")))
    (e2_NoOutput : PySem.W.findIn K (.ref c_NoOutput) "__getattr__" = some none)
    (e3_NoOutput : PySem.W.hasDictIn K c_NoOutput = true)
    (e4_NoOutput : PySem.W.findIn K (.ref c_NoOutput) "__class__" = some (some (.builtin "object.__class__")))
    (e5_NoOutput : PySem.W.mroIn K c_NoOutput (.type "object") = some true)
    (x_Mixed : PySem.W.excIn K c_Mixed [.type "ValueError", .type "Exception", .type "BaseException", .type "object"] "ValueError.__new__" = true)
    (kp_Mixed : PySem.W.keepIn K (.ref c_Mixed) = true)
    (s_Mixed : PySem.W.subIn K (.ref c_Mixed) (.type "BaseException") = some true)
    (t_Mixed : PySem.W.typeIn K (.ref c_Mixed) = some (.type "type"))
    (e1_Mixed : PySem.W.findIn K (.ref c_Mixed) "__getattribute__" = some (some (.builtin "BaseException.__getattribute__")))
    (e2_Mixed : PySem.W.findIn K (.ref c_Mixed) "__getattr__" = some none)
    (e3_Mixed : PySem.W.hasDictIn K c_Mixed = true)
    (e4_Mixed : PySem.W.findIn K (.ref c_Mixed) "__class__" = some (some (.builtin "object.__class__")))
    (e5_Mixed : PySem.W.mroIn K c_Mixed (.type "object") = some true)
    (x_Twice : PySem.W.excIn K c_Twice [.type "ValueError", .type "Exception", .type "BaseException", .type "object"] "ValueError.__new__" = true)
    (kp_Twice : PySem.W.keepIn K (.ref c_Twice) = true)
    (s_Twice : PySem.W.subIn K (.ref c_Twice) (.type "BaseException") = some true)
    (t_Twice : PySem.W.typeIn K (.ref c_Twice) = some (.type "type"))
    (e1_Twice : PySem.W.findIn K (.ref c_Twice) "__getattribute__" = some (some (.builtin "BaseException.__getattribute__")))
    (e2_Twice : PySem.W.findIn K (.ref c_Twice) "__getattr__" = some none)
    (e3_Twice : PySem.W.hasDictIn K c_Twice = true)
    (e4_Twice : PySem.W.findIn K (.ref c_Twice) "__class__" = some (some (.builtin "object.__class__")))
    (e5_Twice : PySem.W.mroIn K c_Twice (.type "object") = some true)
    (x_BadLoad : PySem.W.excIn K c_BadLoad [.type "ValueError", .type "Exception", .type "BaseException", .type "object"] "ValueError.__new__" = true)
    (kp_BadLoad : PySem.W.keepIn K (.ref c_BadLoad) = true)
    (s_BadLoad : PySem.W.subIn K (.ref c_BadLoad) (.type "BaseException") = some true)
    (t_BadLoad : PySem.W.typeIn K (.ref c_BadLoad) = some (.type "type"))
    (e1_BadLoad : PySem.W.findIn K (.ref c_BadLoad) "__getattribute__" = some (some (.builtin "BaseException.__getattribute__")))
    (e2_BadLoad : PySem.W.findIn K (.ref c_BadLoad) "__getattr__" = some none)
    (e3_BadLoad : PySem.W.hasDictIn K c_BadLoad = true)
    (e4_BadLoad : PySem.W.findIn K (.ref c_BadLoad) "__class__" = some (some (.builtin "object.__class__")))
    (e5_BadLoad : PySem.W.mroIn K c_BadLoad (.type "object") = some true)
    (en1 : PySem.W.specialIn K (.builtin "object.__class__") "__get__" = some (some (.builtin "getset_descriptor.__get__")))
    (en2 : PySem.W.takesIn K (.builtin "object.__class__") = some true)
    (s_FabricError : PySem.W.subIn K (.ref c_FabricError) (.type "BaseException") = some true)
    (t_FabricError : PySem.W.typeIn K (.ref c_FabricError) = some (.type "type"))
    (e3_FabricError : PySem.W.hasDictIn K c_FabricError = true)
    (su_FabricError_FabricError : PySem.W.subIn K (.ref c_FabricError) (.ref c_FabricError) = some true)
    (su_NoNumber_Mixed : PySem.W.subIn K (.ref c_NoNumber) (.ref c_Mixed) = some false)
    (su_NoNumber_FabricError : PySem.W.subIn K (.ref c_NoNumber) (.ref c_FabricError) = some true)
    (su_NoNumber_Twice : PySem.W.subIn K (.ref c_NoNumber) (.ref c_Twice) = some false)
    (su_NoNumber_BadLoad : PySem.W.subIn K (.ref c_NoNumber) (.ref c_BadLoad) = some false)
    (su_NoNumber_NoOutput : PySem.W.subIn K (.ref c_NoNumber) (.ref c_NoOutput) = some false)
    (su_NoNumber_NoNumber : PySem.W.subIn K (.ref c_NoNumber) (.ref c_NoNumber) = some true)
    (su_NoOutput_Mixed : PySem.W.subIn K (.ref c_NoOutput) (.ref c_Mixed) = some false)
    (su_NoOutput_FabricError : PySem.W.subIn K (.ref c_NoOutput) (.ref c_FabricError) = some true)
    (su_NoOutput_Twice : PySem.W.subIn K (.ref c_NoOutput) (.ref c_Twice) = some false)
    (su_NoOutput_BadLoad : PySem.W.subIn K (.ref c_NoOutput) (.ref c_BadLoad) = some false)
    (su_NoOutput_NoOutput : PySem.W.subIn K (.ref c_NoOutput) (.ref c_NoOutput) = some true)
    (su_NoOutput_NoNumber : PySem.W.subIn K (.ref c_NoOutput) (.ref c_NoNumber) = some false)
    (su_Mixed_Mixed : PySem.W.subIn K (.ref c_Mixed) (.ref c_Mixed) = some true)
    (su_Mixed_FabricError : PySem.W.subIn K (.ref c_Mixed) (.ref c_FabricError) = some true)
    (su_Mixed_Twice : PySem.W.subIn K (.ref c_Mixed) (.ref c_Twice) = some false)
    (su_Mixed_BadLoad : PySem.W.subIn K (.ref c_Mixed) (.ref c_BadLoad) = some false)
    (su_Mixed_NoOutput : PySem.W.subIn K (.ref c_Mixed) (.ref c_NoOutput) = some false)
    (su_Mixed_NoNumber : PySem.W.subIn K (.ref c_Mixed) (.ref c_NoNumber) = some false)
    (su_Twice_Mixed : PySem.W.subIn K (.ref c_Twice) (.ref c_Mixed) = some false)
    (su_Twice_FabricError : PySem.W.subIn K (.ref c_Twice) (.ref c_FabricError) = some true)
    (su_Twice_Twice : PySem.W.subIn K (.ref c_Twice) (.ref c_Twice) = some true)
    (su_Twice_BadLoad : PySem.W.subIn K (.ref c_Twice) (.ref c_BadLoad) = some false)
    (su_Twice_NoOutput : PySem.W.subIn K (.ref c_Twice) (.ref c_NoOutput) = some false)
    (su_Twice_NoNumber : PySem.W.subIn K (.ref c_Twice) (.ref c_NoNumber) = some false)
    (su_BadLoad_Mixed : PySem.W.subIn K (.ref c_BadLoad) (.ref c_Mixed) = some false)
    (su_BadLoad_FabricError : PySem.W.subIn K (.ref c_BadLoad) (.ref c_FabricError) = some true)
    (su_BadLoad_Twice : PySem.W.subIn K (.ref c_BadLoad) (.ref c_Twice) = some false)
    (su_BadLoad_BadLoad : PySem.W.subIn K (.ref c_BadLoad) (.ref c_BadLoad) = some true)
    (su_BadLoad_NoOutput : PySem.W.subIn K (.ref c_BadLoad) (.ref c_NoOutput) = some false)
    (su_BadLoad_NoNumber : PySem.W.subIn K (.ref c_BadLoad) (.ref c_NoNumber) = some false)
    (k_MOST_LINES : PySem.W.nsIn K mainGlobals "MOST_LINES" = some (some (.int 12 t_MOST_LINES)))
    (k_WORDS_OF_A_CELL : PySem.W.nsIn K mainGlobals "WORDS_OF_A_CELL" = some (some (.int 4 t_WORDS_OF_A_CELL)))
    (k_MOST_PARTS : PySem.W.nsIn K mainGlobals "MOST_PARTS" = some (some (.int 10 t_MOST_PARTS)))
    (k_GREATEST_PACKET : PySem.W.nsIn K mainGlobals "GREATEST_PACKET" = some (some (.int 1000000000 t_GREATEST_PACKET)))
    (k_WORD_BOUND : PySem.W.nsIn K mainGlobals "WORD_BOUND" = some (some (.int 256 t_WORD_BOUND)))
    (k_CHECK_BOUND : PySem.W.nsIn K mainGlobals "CHECK_BOUND" = some (some (.int 251 t_CHECK_BOUND)))
    (z_abs : PySem.W.nsIn K mainGlobals "abs" = some none)
    (z_all : PySem.W.nsIn K mainGlobals "all" = some none)
    (z_bool : PySem.W.nsIn K mainGlobals "bool" = some none)
    (z_dict : PySem.W.nsIn K mainGlobals "dict" = some none)
    (z_enumerate : PySem.W.nsIn K mainGlobals "enumerate" = some none)
    (z_int : PySem.W.nsIn K mainGlobals "int" = some none)
    (z_isinstance : PySem.W.nsIn K mainGlobals "isinstance" = some none)
    (z_len : PySem.W.nsIn K mainGlobals "len" = some none)
    (z_list : PySem.W.nsIn K mainGlobals "list" = some none)
    (z_range : PySem.W.nsIn K mainGlobals "range" = some none)
    (z_sorted : PySem.W.nsIn K mainGlobals "sorted" = some none)
    (z_str : PySem.W.nsIn K mainGlobals "str" = some none)
    (z_sum : PySem.W.nsIn K mainGlobals "sum" = some none)
    (z_tuple : PySem.W.nsIn K mainGlobals "tuple" = some none)
    : ∃ fd : FuncData, (∀ (s : Shared) (v : Value), BindsTo s fd ⟨[v], []⟩ [("_law_script", v)]) ∧ ∀ base : Heap, K.In base → base.Ns mainGlobals mg → FnOk l.prog w K mg base CX0 12 fa fd ["_law_script"] (spLaw K) :=
  end_mk (top_mk (l := l) (w := w) X G ac_Gatherer ac_FabricError ac_NoOutput ac_NoNumber ac_BadLoad ac_Twice ac_Mixed a_is_integer l_is_integer q_is_integer p_is_integer a_is_integer_from l_is_integer_from q_is_integer_from p_is_integer_from a_is_number_below l_is_number_below q_is_number_below p_is_number_below a_is_tuple_of l_is_tuple_of q_is_tuple_of p_is_tuple_of a_are_words l_are_words q_are_words p_are_words a_check_of l_check_of q_check_of p_check_of a_is_load l_is_load q_is_load p_is_load a_Gatherer___init__ i_Gatherer___init__ l_Gatherer___init__ q_Gatherer___init__ p_Gatherer___init__ a_Gatherer__check_output i_Gatherer__check_output l_Gatherer__check_output q_Gatherer__check_output p_Gatherer__check_output a_Gatherer_comes i_Gatherer_comes l_Gatherer_comes q_Gatherer_comes p_Gatherer_comes a_Gatherer_lacking i_Gatherer_lacking l_Gatherer_lacking q_Gatherer_lacking p_Gatherer_lacking a_law_deck l_law_deck q_law_deck p_law_deck a_law_mixed l_law_mixed q_law_mixed p_law_mixed a_law_draw l_law_draw q_law_draw p_law_draw a_law_outs l_law_outs q_law_outs p_law_outs a_law_packet l_law_packet q_law_packet p_law_packet a_law_load l_law_load q_law_load p_law_load a_law_same l_law_same q_law_same p_law_same a_law_told l_law_told q_law_told p_law_told a_law_due l_law_due q_law_due p_law_due a_law_lacking l_law_lacking q_law_lacking p_law_lacking a_law_odd l_law_odd q_law_odd p_law_odd a_law_is_lacking l_law_is_lacking q_law_is_lacking p_law_is_lacking a_law_is_refused l_law_is_refused q_law_is_refused p_law_is_refused a_law_is_no_output l_law_is_no_output q_law_is_no_output p_law_is_no_output a_law_other l_law_other q_law_other p_law_other a_law l_law q_law p_law pg_Gatherer hd_Gatherer po_Gatherer sa_Gatherer mk_Gatherer kc_Gatherer n_Gatherer__begun em_Gatherer es_Gatherer x_NoNumber kp_NoNumber s_NoNumber t_NoNumber e1_NoNumber e2_NoNumber e3_NoNumber e4_NoNumber e5_NoNumber x_NoOutput kp_NoOutput s_NoOutput t_NoOutput e1_NoOutput e2_NoOutput e3_NoOutput e4_NoOutput e5_NoOutput x_Mixed kp_Mixed s_Mixed t_Mixed e1_Mixed e2_Mixed e3_Mixed e4_Mixed e5_Mixed x_Twice kp_Twice s_Twice t_Twice e1_Twice e2_Twice e3_Twice e4_Twice e5_Twice x_BadLoad kp_BadLoad s_BadLoad t_BadLoad e1_BadLoad e2_BadLoad e3_BadLoad e4_BadLoad e5_BadLoad en1 en2 s_FabricError t_FabricError e3_FabricError su_FabricError_FabricError su_NoNumber_Mixed su_NoNumber_FabricError su_NoNumber_Twice su_NoNumber_BadLoad su_NoNumber_NoOutput su_NoNumber_NoNumber su_NoOutput_Mixed su_NoOutput_FabricError su_NoOutput_Twice su_NoOutput_BadLoad su_NoOutput_NoOutput su_NoOutput_NoNumber su_Mixed_Mixed su_Mixed_FabricError su_Mixed_Twice su_Mixed_BadLoad su_Mixed_NoOutput su_Mixed_NoNumber su_Twice_Mixed su_Twice_FabricError su_Twice_Twice su_Twice_BadLoad su_Twice_NoOutput su_Twice_NoNumber su_BadLoad_Mixed su_BadLoad_FabricError su_BadLoad_Twice su_BadLoad_BadLoad su_BadLoad_NoOutput su_BadLoad_NoNumber k_MOST_LINES k_WORDS_OF_A_CELL k_MOST_PARTS k_GREATEST_PACKET k_WORD_BOUND k_CHECK_BOUND z_abs z_all z_bool z_dict z_enumerate z_int z_isinstance z_len z_list z_range z_sorted z_str z_sum z_tuple) hfa

end KX
open PySem PySem.W PyProof.Rows in
set_option maxRecDepth 100000 in
set_option maxHeartbeats 0 in
theorem PySem.Challenge.cw_exactbeats_k78_whole_packets_gathered_holds : PySem.Challenge.rw_exactbeats_k78_whole_packets_gathered.Holds := by
  w_on; o_law; k_head; (case hw => w_witness2)
  k_fill
  refine L2.walk_of (l := PySem.Challenge.rw_exactbeats_k78_whole_packets_gathered) (n := 63) (k := 12) (x := "_law_script") (CX := fun _ => L2.CX0) (sp := fun w => KX.spLaw _) rfl (by decide) rfl ⟨rfl, by decide, by decide⟩ (fun w h Y => PySem.W.kIn_of Y) ?F (fun _ _ a ns hl _ hS => ⟨a, ns, rfl, hS, hl, fun _ => rfl⟩) (fun _ _ _ _ _ h => h)
  case F =>
    intro w mg fa h KX_ G hmg
    refine' KX.top_end KX_ G hmg ?ac_Gatherer ?ac_FabricError ?ac_NoOutput ?ac_NoNumber ?ac_BadLoad ?ac_Twice ?ac_Mixed ?a_is_integer ?l_is_integer ?q_is_integer ?p_is_integer ?a_is_integer_from ?l_is_integer_from ?q_is_integer_from ?p_is_integer_from ?a_is_number_below ?l_is_number_below ?q_is_number_below ?p_is_number_below ?a_is_tuple_of ?l_is_tuple_of ?q_is_tuple_of ?p_is_tuple_of ?a_are_words ?l_are_words ?q_are_words ?p_are_words ?a_check_of ?l_check_of ?q_check_of ?p_check_of ?a_is_load ?l_is_load ?q_is_load ?p_is_load ?a_Gatherer___init__ ?i_Gatherer___init__ ?l_Gatherer___init__ ?q_Gatherer___init__ ?p_Gatherer___init__ ?a_Gatherer__check_output ?i_Gatherer__check_output ?l_Gatherer__check_output ?q_Gatherer__check_output ?p_Gatherer__check_output ?a_Gatherer_comes ?i_Gatherer_comes ?l_Gatherer_comes ?q_Gatherer_comes ?p_Gatherer_comes ?a_Gatherer_lacking ?i_Gatherer_lacking ?l_Gatherer_lacking ?q_Gatherer_lacking ?p_Gatherer_lacking ?a_law_deck ?l_law_deck ?q_law_deck ?p_law_deck ?a_law_mixed ?l_law_mixed ?q_law_mixed ?p_law_mixed ?a_law_draw ?l_law_draw ?q_law_draw ?p_law_draw ?a_law_outs ?l_law_outs ?q_law_outs ?p_law_outs ?a_law_packet ?l_law_packet ?q_law_packet ?p_law_packet ?a_law_load ?l_law_load ?q_law_load ?p_law_load ?a_law_same ?l_law_same ?q_law_same ?p_law_same ?a_law_told ?l_law_told ?q_law_told ?p_law_told ?a_law_due ?l_law_due ?q_law_due ?p_law_due ?a_law_lacking ?l_law_lacking ?q_law_lacking ?p_law_lacking ?a_law_odd ?l_law_odd ?q_law_odd ?p_law_odd ?a_law_is_lacking ?l_law_is_lacking ?q_law_is_lacking ?p_law_is_lacking ?a_law_is_refused ?l_law_is_refused ?q_law_is_refused ?p_law_is_refused ?a_law_is_no_output ?l_law_is_no_output ?q_law_is_no_output ?p_law_is_no_output ?a_law_other ?l_law_other ?q_law_other ?p_law_other ?a_law ?l_law ?q_law ?p_law ?pg_Gatherer ?hd_Gatherer ?po_Gatherer ?sa_Gatherer ?mk_Gatherer ?kc_Gatherer ?n_Gatherer__begun ?em_Gatherer ?es_Gatherer ?x_NoNumber ?kp_NoNumber ?s_NoNumber ?t_NoNumber ?e1_NoNumber ?e2_NoNumber ?e3_NoNumber ?e4_NoNumber ?e5_NoNumber ?x_NoOutput ?kp_NoOutput ?s_NoOutput ?t_NoOutput ?e1_NoOutput ?e2_NoOutput ?e3_NoOutput ?e4_NoOutput ?e5_NoOutput ?x_Mixed ?kp_Mixed ?s_Mixed ?t_Mixed ?e1_Mixed ?e2_Mixed ?e3_Mixed ?e4_Mixed ?e5_Mixed ?x_Twice ?kp_Twice ?s_Twice ?t_Twice ?e1_Twice ?e2_Twice ?e3_Twice ?e4_Twice ?e5_Twice ?x_BadLoad ?kp_BadLoad ?s_BadLoad ?t_BadLoad ?e1_BadLoad ?e2_BadLoad ?e3_BadLoad ?e4_BadLoad ?e5_BadLoad ?en1 ?en2 ?s_FabricError ?t_FabricError ?e3_FabricError ?su_FabricError_FabricError ?su_NoNumber_Mixed ?su_NoNumber_FabricError ?su_NoNumber_Twice ?su_NoNumber_BadLoad ?su_NoNumber_NoOutput ?su_NoNumber_NoNumber ?su_NoOutput_Mixed ?su_NoOutput_FabricError ?su_NoOutput_Twice ?su_NoOutput_BadLoad ?su_NoOutput_NoOutput ?su_NoOutput_NoNumber ?su_Mixed_Mixed ?su_Mixed_FabricError ?su_Mixed_Twice ?su_Mixed_BadLoad ?su_Mixed_NoOutput ?su_Mixed_NoNumber ?su_Twice_Mixed ?su_Twice_FabricError ?su_Twice_Twice ?su_Twice_BadLoad ?su_Twice_NoOutput ?su_Twice_NoNumber ?su_BadLoad_Mixed ?su_BadLoad_FabricError ?su_BadLoad_Twice ?su_BadLoad_BadLoad ?su_BadLoad_NoOutput ?su_BadLoad_NoNumber ?k_MOST_LINES ?k_WORDS_OF_A_CELL ?k_MOST_PARTS ?k_GREATEST_PACKET ?k_WORD_BOUND ?k_CHECK_BOUND ?z_abs ?z_all ?z_bool ?z_dict ?z_enumerate ?z_int ?z_isinstance ?z_len ?z_list ?z_range ?z_sorted ?z_str ?z_sum ?z_tuple
    (case ac_Gatherer => k_is)
    (case ac_FabricError => k_is)
    (case ac_NoOutput => k_is)
    (case ac_NoNumber => k_is)
    (case ac_BadLoad => k_is)
    (case ac_Twice => k_is)
    (case ac_Mixed => k_is)
    (case a_is_integer => k_is)
    (case l_is_integer => k_is)
    (case q_is_integer => k_is)
    (case p_is_integer => k_is)
    (case a_is_integer_from => k_is)
    (case l_is_integer_from => k_is)
    (case q_is_integer_from => k_is)
    (case p_is_integer_from => k_is)
    (case a_is_number_below => k_is)
    (case l_is_number_below => k_is)
    (case q_is_number_below => k_is)
    (case p_is_number_below => k_is)
    (case a_is_tuple_of => k_is)
    (case l_is_tuple_of => k_is)
    (case q_is_tuple_of => k_is)
    (case p_is_tuple_of => k_is)
    (case a_are_words => k_is)
    (case l_are_words => k_is)
    (case q_are_words => k_is)
    (case p_are_words => k_is)
    (case a_check_of => k_is)
    (case l_check_of => k_is)
    (case q_check_of => k_is)
    (case p_check_of => k_is)
    (case a_is_load => k_is)
    (case l_is_load => k_is)
    (case q_is_load => k_is)
    (case p_is_load => k_is)
    (case a_Gatherer___init__ => k_is)
    (case i_Gatherer___init__ => k_is)
    (case l_Gatherer___init__ => k_is)
    (case q_Gatherer___init__ => k_is)
    (case p_Gatherer___init__ => k_is)
    (case a_Gatherer__check_output => k_is)
    (case i_Gatherer__check_output => k_is)
    (case l_Gatherer__check_output => k_is)
    (case q_Gatherer__check_output => k_is)
    (case p_Gatherer__check_output => k_is)
    (case a_Gatherer_comes => k_is)
    (case i_Gatherer_comes => k_is)
    (case l_Gatherer_comes => k_is)
    (case q_Gatherer_comes => k_is)
    (case p_Gatherer_comes => k_is)
    (case a_Gatherer_lacking => k_is)
    (case i_Gatherer_lacking => k_is)
    (case l_Gatherer_lacking => k_is)
    (case q_Gatherer_lacking => k_is)
    (case p_Gatherer_lacking => k_is)
    (case a_law_deck => k_is)
    (case l_law_deck => k_is)
    (case q_law_deck => k_is)
    (case p_law_deck => k_is)
    (case a_law_mixed => k_is)
    (case l_law_mixed => k_is)
    (case q_law_mixed => k_is)
    (case p_law_mixed => k_is)
    (case a_law_draw => k_is)
    (case l_law_draw => k_is)
    (case q_law_draw => k_is)
    (case p_law_draw => k_is)
    (case a_law_outs => k_is)
    (case l_law_outs => k_is)
    (case q_law_outs => k_is)
    (case p_law_outs => k_is)
    (case a_law_packet => k_is)
    (case l_law_packet => k_is)
    (case q_law_packet => k_is)
    (case p_law_packet => k_is)
    (case a_law_load => k_is)
    (case l_law_load => k_is)
    (case q_law_load => k_is)
    (case p_law_load => k_is)
    (case a_law_same => k_is)
    (case l_law_same => k_is)
    (case q_law_same => k_is)
    (case p_law_same => k_is)
    (case a_law_told => k_is)
    (case l_law_told => k_is)
    (case q_law_told => k_is)
    (case p_law_told => k_is)
    (case a_law_due => k_is)
    (case l_law_due => k_is)
    (case q_law_due => k_is)
    (case p_law_due => k_is)
    (case a_law_lacking => k_is)
    (case l_law_lacking => k_is)
    (case q_law_lacking => k_is)
    (case p_law_lacking => k_is)
    (case a_law_odd => k_is)
    (case l_law_odd => k_is)
    (case q_law_odd => k_is)
    (case p_law_odd => k_is)
    (case a_law_is_lacking => k_is)
    (case l_law_is_lacking => k_is)
    (case q_law_is_lacking => k_is)
    (case p_law_is_lacking => k_is)
    (case a_law_is_refused => k_is)
    (case l_law_is_refused => k_is)
    (case q_law_is_refused => k_is)
    (case p_law_is_refused => k_is)
    (case a_law_is_no_output => k_is)
    (case l_law_is_no_output => k_is)
    (case q_law_is_no_output => k_is)
    (case p_law_is_no_output => k_is)
    (case a_law_other => k_is)
    (case l_law_other => k_is)
    (case q_law_other => k_is)
    (case p_law_other => k_is)
    (case a_law => k_is)
    (case l_law => k_is)
    (case q_law => k_is)
    (case p_law => k_is)
    (case pg_Gatherer => k_is)
    (case hd_Gatherer => k_is)
    (case po_Gatherer => k_is)
    (case sa_Gatherer => k_is)
    (case mk_Gatherer => k_is)
    (case kc_Gatherer => k_is)
    (case n_Gatherer__begun => k_is)
    (case em_Gatherer => k_is)
    (case es_Gatherer => k_is)
    (case x_NoNumber => k_exc)
    (case kp_NoNumber => k_is)
    (case s_NoNumber => k_is)
    (case t_NoNumber => k_is)
    (case e1_NoNumber => k_is)
    (case e2_NoNumber => k_is)
    (case e3_NoNumber => k_is)
    (case e4_NoNumber => k_is)
    (case e5_NoNumber => k_is)
    (case x_NoOutput => k_exc)
    (case kp_NoOutput => k_is)
    (case s_NoOutput => k_is)
    (case t_NoOutput => k_is)
    (case e1_NoOutput => k_is)
    (case e2_NoOutput => k_is)
    (case e3_NoOutput => k_is)
    (case e4_NoOutput => k_is)
    (case e5_NoOutput => k_is)
    (case x_Mixed => k_exc)
    (case kp_Mixed => k_is)
    (case s_Mixed => k_is)
    (case t_Mixed => k_is)
    (case e1_Mixed => k_is)
    (case e2_Mixed => k_is)
    (case e3_Mixed => k_is)
    (case e4_Mixed => k_is)
    (case e5_Mixed => k_is)
    (case x_Twice => k_exc)
    (case kp_Twice => k_is)
    (case s_Twice => k_is)
    (case t_Twice => k_is)
    (case e1_Twice => k_is)
    (case e2_Twice => k_is)
    (case e3_Twice => k_is)
    (case e4_Twice => k_is)
    (case e5_Twice => k_is)
    (case x_BadLoad => k_exc)
    (case kp_BadLoad => k_is)
    (case s_BadLoad => k_is)
    (case t_BadLoad => k_is)
    (case e1_BadLoad => k_is)
    (case e2_BadLoad => k_is)
    (case e3_BadLoad => k_is)
    (case e4_BadLoad => k_is)
    (case e5_BadLoad => k_is)
    (case en1 => k_is)
    (case en2 => k_is)
    (case s_FabricError => k_is)
    (case t_FabricError => k_is)
    (case e3_FabricError => k_is)
    (case su_FabricError_FabricError => k_is)
    (case su_NoNumber_Mixed => k_is)
    (case su_NoNumber_FabricError => k_is)
    (case su_NoNumber_Twice => k_is)
    (case su_NoNumber_BadLoad => k_is)
    (case su_NoNumber_NoOutput => k_is)
    (case su_NoNumber_NoNumber => k_is)
    (case su_NoOutput_Mixed => k_is)
    (case su_NoOutput_FabricError => k_is)
    (case su_NoOutput_Twice => k_is)
    (case su_NoOutput_BadLoad => k_is)
    (case su_NoOutput_NoOutput => k_is)
    (case su_NoOutput_NoNumber => k_is)
    (case su_Mixed_Mixed => k_is)
    (case su_Mixed_FabricError => k_is)
    (case su_Mixed_Twice => k_is)
    (case su_Mixed_BadLoad => k_is)
    (case su_Mixed_NoOutput => k_is)
    (case su_Mixed_NoNumber => k_is)
    (case su_Twice_Mixed => k_is)
    (case su_Twice_FabricError => k_is)
    (case su_Twice_Twice => k_is)
    (case su_Twice_BadLoad => k_is)
    (case su_Twice_NoOutput => k_is)
    (case su_Twice_NoNumber => k_is)
    (case su_BadLoad_Mixed => k_is)
    (case su_BadLoad_FabricError => k_is)
    (case su_BadLoad_Twice => k_is)
    (case su_BadLoad_BadLoad => k_is)
    (case su_BadLoad_NoOutput => k_is)
    (case su_BadLoad_NoNumber => k_is)
    (case k_MOST_LINES => k_is)
    (case k_WORDS_OF_A_CELL => k_is)
    (case k_MOST_PARTS => k_is)
    (case k_GREATEST_PACKET => k_is)
    (case k_WORD_BOUND => k_is)
    (case k_CHECK_BOUND => k_is)
    (case z_abs => k_is)
    (case z_all => k_is)
    (case z_bool => k_is)
    (case z_dict => k_is)
    (case z_enumerate => k_is)
    (case z_int => k_is)
    (case z_isinstance => k_is)
    (case z_len => k_is)
    (case z_list => k_is)
    (case z_range => k_is)
    (case z_sorted => k_is)
    (case z_str => k_is)
    (case z_sum => k_is)
    (case z_tuple => k_is)
